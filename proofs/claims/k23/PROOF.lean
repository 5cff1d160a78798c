import PyProof.Rows.All
import Wide.All
import OpenK.AllK
import Wide.FinOn
import Lean
import PyProof.EqAt
import PyProof.EqKinds
import PyProof.TupleCall
import PyProof.P3Statements
import PyProof.Dict
import PySem.Syntax
import PySem.Challenge.RW_traitorround_k23_roads_of_lies
set_option Elab.async false
set_option linter.all false
set_option maxRecDepth 100000
set_option bootstrap.genMatcherCode false
namespace PySem.W.Fast
end PySem.W.Fast
namespace PySem.W.Fast
def tw16702126417836626273:=0
def tw18277836902232184992:=0
def tw8007133296658451140:=0
def tw17237595464906171712:=0
def tw2767741635237862167:=0
def tw14099180419258814737:=0
def tw13879378860211880201:=0
def tw717161608160276683:=0
def tw15977320357317972766:=0
def tw13534410594119351444:=0
def tw5093091352866805280:=0
def tw4599417818863547692:=0
def tw12088472489980298794:=0
def tw16070159314474074703:=0
def tw8770765560893273123:=0
def tw1971379763231773327:=0
def tw2449382628830605456:=0
def tw15725381847784052856:=0
def tw12995576927353428815:=0
def tw4180641441198485062:=0
def tw3682517318684411857:=0
def tw12771127603438665842:=0
def tw3292912919802813048:=0
def tw9752725919595114945:=0
def tw16795087509131313371:=0
def tw9113720290433713049:=0
def tw17902030469605351259:=0
def tw6442731415773811722:=0
def tw11713758710159217281:=0
def tw11459374247470060035:=0
def tw12146292511249111890:=0
def tw7589093305872317204:=0
def tw7791586552347165559:=0
def tw3950155549551129593:=0
def tw5950472440398680043:=0
def tw4614671191720469522:=0
def tw5728478984325887593:=0
def tw2526881443277604580:=0
def tw5124118485627111428:=0
def tw3373534100408288544:=0
def tw2128331518461096789:=0
def tw948082961311496591:=0
def tw8816951175424826316:=0
def tw11659996008447486001:=0
def tw137244268775392168:=0
def tw6900313857487339407:=0
def tw12652115774762887805:=0
def tw8229225337858225344:=0
def tw8401091182967235428:=0
def tw11904896790477633445:=0
def tw811094493936092416:=0
def tw12370976514915775067:=0
def tw3779878411265008693:=0
def tw4898550109537267047:=0
def tw3167136097970283944:=0
def tw8830132529814429503:=0
def tw1537965521177267762:=0
def tw12844750207503534281:=0
def tw6371984707403774193:=0
def tw4532143718213785684:=0
def tw672398722397879940:=0
def tw6346898142770716052:=0
def tw10257262201225193697:=0
def tw7531619516043561814:=0
def tw2799198400558009988:=0
def tw15734719189593337359:=0
def tw13876541566844289276:=0
def tw11289458368882983224:=0
def tw5422099718104013059:=0
def tw2863339403699402920:=0
def tw17323596767281269628:=0
def tw762756160231829394:=0
def tw15481157240750980774:=0
def tw11877156948783646300:=0
def tw8522914949886466518:=0
def tw7711852211280540447:=0
def tw12412844407240918541:=0
def tw18345055113074345377:=0
def tw7974403468505472309:=0
def tw1080640060368456683:=0
def tw5691566709546700476:=0
def tw16485611710111748122:=0
def tw4429396197621384175:=0
def tw12951302325368824924:=0
def tw16392239927600959946:=0
def tw11729755673387958697:=0
def tw2419061798745698254:=0
def tw3574345744114383228:=0
def tw5002037293634350733:=0
def tw9553720361135348191:=0
def tw13445783855834565547:=0
def tw3231194893165325894:=0
def tw3565507368893923604:=0
def tw7455113203337396481:=0
def tw9628234460179422886:=0
def tw8607351080661940780:=0
def tw15812498716917078993:=0
end PySem.W.Fast
section
namespace L2
open PySem PySem.Spec PyProof.Rows
noncomputable abbrev Key:=Sum Int Str
noncomputable def zfM:Key->Value->Bool
 |.inl k,v=>Value.isInt k v
 |.inr x,v=>Value.isStrOf x v
noncomputable def keyH (w:World):Key->Int
 |.inl k=>hashInt k
 |.inr x=>hashStr w x
theorem zaF:∀{k:Key} {v:Value},zfM k v=true->(∃i t,k=Sum.inl i/\v=Value.int i t)\/(∃x t,k=Sum.inr x/\v=Value.str x t)
 | .inl i, v, h => by
   obtain⟨t,e⟩:=Value.isInt_shape (k:=i) (v:=v) h
   exact .inl ⟨i,t,rfl,e⟩
 | .inr x, v, h => by
   obtain⟨t,e⟩:=Value.isStrOf_shape (x:=x) (v:=v) h
   exact .inr ⟨x,t,rfl,e⟩
theorem zgL (i:Int)(t:Tok):zfM (.inl i) (.int i t)=true:=by simp[zfM,Value.isInt]
theorem zgK (x:Str)(t:Tok):zfM (.inr x) (.str x t)=true:=by simp[zfM,Value.isStrOf]
theorem zmc (a b:Int):decide ((Sum.inl a:Key)=Sum.inl b)=(a == b):=by
 by_cases e:a=b
 · subst e;simp
 · have h:¬(Sum.inl a:Key)=Sum.inl b:=fun q=>e (Sum.inl.inj q)
   rw[decide_eq_false h]
   exact (beq_eq_false_iff_ne.mpr e).symm
theorem zl8 (a b:Str):decide ((Sum.inr a:Key)=Sum.inr b)=decide (a=b):=by
 by_cases e:a=b
 · subst e;simp
 · have h:¬(Sum.inr a:Key)=Sum.inr b:=fun q=>e (Sum.inr.inj q)
   rw[decide_eq_false h,decide_eq_false e]
theorem zmb (a:Int)(b:Str):decide ((Sum.inl a:Key)=Sum.inr b)=false:=decide_eq_false (fun q=>nomatch q)
theorem zl9 (a:Str)(b:Int):decide ((Sum.inr a:Key)=Sum.inl b)=false:=decide_eq_false (fun q=>nomatch q)
noncomputable def zaq (prog:Program)(w:World):PySem.KeyKind prog w Key where
 is:=zfM
 hash:=keyH w
 inj:=fun v a b ha hb=>by
  rcases zaF ha with ⟨i,t,rfl,rfl⟩|⟨x,t,rfl,rfl⟩
  · rcases zaF hb with ⟨j,u,rfl,e⟩|⟨y,u,rfl,e⟩
    · injection e with e1 _;rw[e1]
    · exact nomatch e
  · rcases zaF hb with ⟨j,u,rfl,e⟩|⟨y,u,rfl,e⟩
    · exact nomatch e
    · injection e with e1 _;rw[e1]
 byValue:=fun k v h=>by
  rcases zaF h with ⟨i,t,rfl,rfl⟩|⟨x,t,rfl,rfl⟩<;>rfl
 pyHash:=fun hv h=>by
  rcases zaF hv with ⟨i,t,rfl,rfl⟩|⟨x,t,rfl,rfl⟩
  · exact wpAny_pyHash_int h
  · exact wpAny_pyHash_str h
 eqBool:=fun hu hv h=>by
  rcases zaF hu with ⟨i,t,rfl,rfl⟩|⟨x,t,rfl,rfl⟩
  · rcases zaF hv with ⟨j,u,rfl,rfl⟩|⟨y,u,rfl,rfl⟩
    · rw[zmc] at h;exact wpAny_eqBool_int h
    · rw[zmb] at h;exact SeqAt.EqAt.int_str i t y u _ _ _ _ h
  · rcases zaF hv with ⟨j,u,rfl,rfl⟩|⟨y,u,rfl,rfl⟩
    · rw[zl9] at h;exact SeqAt.EqAt.str_int x t j u _ _ _ _ h
    · rw[zl8] at h;exact wpAny_eqBool_str h
 «strs»:=fun k x t v h=>by
  rcases zaF h with ⟨i,u,rfl,e⟩|⟨y,u,rfl,e⟩
  · exact nomatch e
  · injection e with e1 _
    subst e1
    cases v<;>rfl
theorem zeB (prog:Program)(w:World)(i:Int)(t:Tok):(zaq prog w).is (.inl i) (.int i t)=true:=zgL i t
theorem zeA (prog:Program)(w:World)(x:Str)(t:Tok):(zaq prog w).is (.inr x) (.str x t)=true:=zgK x t
end L2
namespace L2
open PySem PySem.Spec PyProof.Rows
inductive V where
 |non|bl (b:Bool)|int (i:Int)|str (x:Str)|byt (b:Array UInt8)|flt (b:UInt64)|ref (a:Addr)|ty (n:String)
 deriving DecidableEq
noncomputable def RelV:V->Value->Prop
 |.non,u=>u=Value.none
 |.bl b,u=>u=Value.bool b
 |.int i,u=>∃t,u=Value.int i t
 |.str x,u=>∃t,u=Value.str x t
 |.byt b,u=>∃t,u=Value.bytes b t
 |.flt b,u=>∃t,u=Value.float b t
 |.ref a,u=>u=Value.ref a
 |.ty n,u=>u=Value.type n
noncomputable abbrev Vals:List V->List Value->Prop:=Paired RelV
theorem Vals.length {xs:List V}{us:List Value}(r:Vals xs us):xs.length=us.length:=Paired.length r
theorem Vals.get:∀{xs:List V} {us:List Value} {i:Nat} {x:V},Vals xs us->xs[i]?=some x->∃u,us[i]?=some u/\RelV x u
 |_,_,_,_,.nil,e=>by simp at e
 |_,_,0,_,.cons r _,e=>by simp at e;subst e;exact⟨_,rfl,r⟩
 | _, _, i + 1, x, .cons _ t, e => by
   obtain⟨u,h1,h2⟩:=Vals.get (i:=i) (x:=x) t (by simpa using e)
   exact⟨u,by simpa using h1,h2⟩
theorem Vals.append:∀{xs ys:List V} {us ws:List Value},Vals xs us->Vals ys ws->Vals (xs++ys) (us++ws)
 |_,_,_,_,.nil,s=>s
 |_,_,_,_,.cons r t,s=>.cons r (Vals.append t s)
theorem Vals.take:∀{xs:List V} {us:List Value} (n:Nat),Vals xs us->Vals (xs.take n) (us.take n)
 |_,_,0,_=>.nil
 |_,_,_+1,.nil=>.nil
 |_,_,n+1,.cons r t=>.cons r (Vals.take n t)
theorem Vals.drop:∀{xs:List V} {us:List Value} (n:Nat),Vals xs us->Vals (xs.drop n) (us.drop n)
 |_,_,0,r=>r
 |_,_,_+1,.nil=>.nil
 |_,_,n+1,.cons _ t=>Vals.drop n t
noncomputable def RelO:Option V->Option Value->Prop
 |some v,some u=>RelV v u
 |none,none=>True
 |_,_=>False
noncomputable def KV {κ:Type}:List (κ × V)->List (κ × Value)->Prop:=Paired fun (p:κ × V) (q:κ × Value)=>p.1=q.1/\RelV p.2 q.2
noncomputable def kV:Key->V
 |.inl i=>.int i
 |.inr x=>.str x
inductive HO where
 |lst (xs:List V)
 |tup (xs:List V)
 |dK (kvs:List (Key × V))|dT (kvs:List (List Key × V))
 |set (S:Int->Bool) (n:Nat)
 |ins (C dx:Addr) (fs:List (Str × V))
 |own (x:Addr)
 |xd (fs:List (Str × V))
 |met (f x:Addr)
 |rng (lo hi:Int)
 |frz (o:Obj) (u:HO)
 |tbl (ps:Array Value)
 |ext (φ:Heap->Prop)
noncomputable abbrev Hp:=Addr->Option HO
noncomputable def upd (H:Hp)(a:Addr)(o:HO):Hp:=fun b=>if b=a then some o else H b
theorem zai {H:Hp}{a:Addr}{o:HO}:upd H a o a=some o:=by unfold upd;rw[if_pos rfl]
theorem zaf {H:Hp}{a b:Addr}{o:HO}(h:b≠a):upd H a o b=H b:=by unfold upd;rw[if_neg h]
theorem ne_of {H:Hp}{a b:Addr}{o u:HO}(h:H a=some o)(h':H b=some u)(d:o≠u):a≠b:=by
 intro e;subst e;rw[h] at h';exact d (Option.some.inj h')
theorem zaj {H:Hp}{a b:Addr}{o:HO}(h:H a=some o)(h':H b=none):a≠b:=by
 intro e;subst e;rw[h] at h';cases h'
section
variable (P:Program) (w:World)
noncomputable def ObjOk (H:Hp)(h:Heap)(a:Addr):HO->Prop
 |.lst xs=>xs.length<=sizeLine/\∃(its:List Value) (n:Nat),Vals xs its/\h.get? a=some {cls:=.type "list",data:=.seq its.toArray n}
 |.tup xs=>xs.length<=sizeLine/\∃its:List Value,Vals xs its/\IsTup h a its.toArray
 |.dK kvs=>kvs.length<=sizeLine/\(a == sysModules)=false/\∃vs,KV kvs vs/\h.DictOf (zaq P w) a vs
 |.dT kvs=>kvs.length<=sizeLine/\(a == sysModules)=false/\∃xs:List (List Key × Addr × Value),
  Paired (fun (p:List Key × V) (q:List Key × Addr × Value)=>p.1=q.1/\H q.2.1=some (.tup (p.1.map kV))/\RelV p.2 q.2.2) kvs xs/\
  ∃o es ep,h.get? a=some o/\o.ExactDict/\o.data=.dict es ep/\es.toList=xs.map (entryOfKey (tupleKind (zaq P w)))/\(xs.map (·.1)).Nodup
 |.set S n=>h.SetOf (intKind P w) a S n
 |.ins C dx fs=>H dx=some (.own a)/\fs.length<=1000/\dx≠a/\h.get? a=some (PySem.W.instObj C dx)/\
  ∃mA,h.Ns1 dx mA/\(∀f,RelO (fs.lookup f) (mA f))/\PySem.Within mA (fs.map (·.1))
 |.own _=>∃o,h.get? a=some o
 |.xd fs=>∃mA,h.Ns1 a mA/\∀f,RelO (fs.lookup f) (mA f)
 |.rng lo hi=>∃t u v,h.get? a=some {cls:=.type "range",data:=.fields #[.int lo t,.int hi u,.int 1 v]}
 |.frz o u=>h.get? a=some o/\ObjOk H h a u
 |.tbl ps=>h.get? a=some {cls:=.none,data:=.fields ps}
 |.met f x=>h.get? a=some (PySem.W.methodObj (.ref f) (.ref x))
 |.ext φ=>φ h/\(∃o,h.get? a=some o)/\∀h1 h2:Heap,φ h1->(∀o,h1.get? a=some o->h2.get? a=some o)->φ h2
noncomputable def HOk (H:Hp)(h:Heap):Prop:=∀a o,H a=some o->ObjOk P w H h a o
end
section
variable {P:Program} {w:World} {H H':Hp} {h h':Heap} {a:Addr} {o:HO}
theorem ObjOk.lt (x:ObjOk P w H h a o):a<h.objs.size:=by
 cases o with
 |lst xs=>obtain⟨_,_,_,_,e⟩:=x;exact Heap.lt_size e
 |tup xs=>obtain⟨_,_,_,p⟩:=x;exact p.lt
 |dK kvs=>obtain⟨_,_,_,_,o,_,_,e,_⟩:=x;exact Heap.lt_size e
 |dT kvs=>obtain⟨_,_,_,_,o,_,_,e,_⟩:=x;exact Heap.lt_size e
 |set S n=>obtain⟨o,_,_,_,e,_⟩:=x;exact Heap.lt_size e
 |ins C dx fs=>obtain⟨_,_,_,e,_⟩:=x;exact Heap.lt_size e
 |own y=>obtain⟨_,e⟩:=x;exact Heap.lt_size e
 |xd fs=>obtain⟨_,⟨_,_,_,e,_⟩,_⟩:=x;exact Heap.lt_size e
 |rng lo hi=>obtain⟨_,_,_,e⟩:=x;exact Heap.lt_size e
 |frz ob u=>obtain⟨e,_⟩:=x;exact Heap.lt_size e
 |tbl ps=>exact Heap.lt_size (show h.get? a=some _ from x)
 |met f y=>exact Heap.lt_size (show h.get? a=some _ from x)
 |ext φ=>obtain⟨_,⟨_,e⟩,_⟩:=x;exact Heap.lt_size e
theorem Paired.mapP {α β:Type}{F G:α->β->Prop}:∀{l₁:List α} {l₂:List β},Paired F l₁ l₂->(∀a b,F a b->G a b)->Paired G l₁ l₂
 |_,_,.nil,_=>.nil
 |_,_,.cons r t,f=>.cons (f _ _ r) (Paired.mapP t f)
theorem ObjOk.stay (x:ObjOk P w H h a o)(k:∀b u,(b=a\/H b=some (.own a))->h.get? b=some u->h'.get? b=some u)
  (ho:∀b,H b=some (.own a)->H' b=some (.own a)) (ht:∀b xs,H b=some (.tup xs)->H' b=some (.tup xs)):ObjOk P w H' h' a o:=by
 induction o with
 |lst xs=>obtain⟨z,its,n,r,e⟩:=x;exact⟨z,its,n,r,k _ _ (.inl rfl) e⟩
 |tup xs=>obtain⟨z,its,r,ob,e,c⟩:=x;exact⟨z,its,r,ob,k _ _ (.inl rfl) e,c⟩
 |dK kvs=>obtain⟨z,y,vs,r,ob,es,ep,e,c⟩:=x;exact⟨z,y,vs,r,ob,es,ep,k _ _ (.inl rfl) e,c⟩
 | dT kvs =>
   obtain⟨z,y,xs,r,ob,es,ep,e,c⟩:=x
   exact⟨z,y,xs,Paired.mapP r fun p q z=>⟨z.1,ht _ _ z.2.1,z.2.2⟩,ob,es,ep,k _ _ (.inl rfl) e,c⟩
 |set S n=>obtain⟨ob,es,ep,t,e,c⟩:=x;exact⟨ob,es,ep,t,k _ _ (.inl rfl) e,c⟩
 | ins C dx fs =>
   obtain⟨d,z,ne,e,mA,⟨od,es,ep,e2,c⟩,r⟩:=x
   exact⟨ho _ d,z,ne,k _ _ (.inl rfl) e,mA,⟨od,es,ep,k _ _ (.inr d) e2,c⟩,r⟩
 |own y=>obtain⟨ob,e⟩:=x;exact⟨ob,k _ _ (.inl rfl) e⟩
 |xd fs=>obtain⟨mA,⟨od,es,ep,e,c⟩,r⟩:=x;exact⟨mA,⟨od,es,ep,k _ _ (.inl rfl) e,c⟩,r⟩
 |rng lo hi=>obtain⟨t,u,v,e⟩:=x;exact⟨t,u,v,k _ _ (.inl rfl) e⟩
 |frz ob u ih=>obtain⟨e,q⟩:=x;exact⟨k _ _ (.inl rfl) e,ih q⟩
 | tbl ps =>
   have e:h.get? a=some {cls:=.none,data:=.fields ps}:=x
   show h'.get? a=some {cls:=.none,data:=.fields ps}
   exact k a _ (.inl rfl) e
 | met f y =>
   have e:h.get? a=some (PySem.W.methodObj (.ref f) (.ref y)):=x
   show h'.get? a=some (PySem.W.methodObj (.ref f) (.ref y))
   exact k a _ (.inl rfl) e
 |ext φ=>obtain⟨p,⟨o,e⟩,st⟩:=x;exact⟨st _ _ p fun o q=>k _ _ (.inl rfl) q,⟨o,k _ _ (.inl rfl) e⟩,st⟩
theorem HOk.lt (x:HOk P w H h)(e:H a=some o):a<h.objs.size:=(x a o e).lt
theorem HOk.fresh (x:HOk P w H h)(e:h.objs.size<=a):H a=none:=by
 cases q:H a with
 |none=>rfl
 |some u=>exact absurd (Nat.lt_of_lt_of_le (x.lt q) e) (Nat.lt_irrefl _)
theorem HOk.kept (x:HOk P w H h)(k:∀b u,h.get? b=some u->h'.get? b=some u):HOk P w H h':=fun a o e=>
 (x a o e).stay (fun b u _ q=>k b u q) (fun _ q=>q) fun _ _ q=>q
theorem HOk.laid (x:HOk P w H h)(k:∀b u,h.get? b=some u->h'.get? b=some u)(hp:h.objs.size<=a)(new:ObjOk P w (upd H a o) h' a o):HOk P w (upd H a o) h':=fun b u e=>by
 have hn:=x.fresh hp
 by_cases hb:b=a
 · subst hb;rw[zai] at e;cases e;exact new
 · rw[zaf hb] at e
   exact (x b u e).stay (fun c v _ q=>k c v q) (fun c q=>by rw[zaf (zaj q hn)];exact q) fun c xs q=>by rw[zaf (zaj q hn)];exact q
end
noncomputable def Rd (H:Hp)(a:Addr)(u:HO):Prop:=H a=some u\/∃o,H a=some (.frz o u)
theorem Rd.ok {P:Program}{w:World}{H:Hp}{h:Heap}{a:Addr}{u:HO}(r:Rd H a u)(x:HOk P w H h):ObjOk P w H h a u:=by
 rcases r with r|⟨o,r⟩
 · exact x a u r
 · obtain⟨_,q⟩:=x a _ r
   exact q
noncomputable def Mut:Option HO->Prop
 |some (.lst _)=>True
 |some (.dK _)=>True
 |some (.dT _)=>True
 |some (.set _ _)=>True
 |some (.ins _ _ _)=>True
 |some (.ext _)=>True
 |_=>False
section
variable {P:Program} {w:World} {H:Hp} {h h':Heap} {x e:Addr} {o':HO}
theorem HOk.write (ok:HOk P w H h)(mu:Mut (H x))(he:e=x\/H e=some (.own x))(k:∀b u,b≠e->h.get? b=some u->h'.get? b=some u)(heo:∃u,h'.get? e=some u)
  (new:ObjOk P w (upd H x o') h' x o'):HOk P w (upd H x o') h':=fun b u q=>by
 have nown:∀c y,H c=some (.own y)->c≠x:=fun c y r z=>by subst z;rw[r] at mu;exact mu
 have ntup:∀c xs,H c=some (.tup xs)->c≠x:=fun c xs r z=>by subst z;rw[r] at mu;exact mu
 by_cases hb:b=x
 · subst hb;rw[zai] at q;cases q;exact new
 · rw[zaf hb] at q
   by_cases hbe:b=e
   · have q':H b=some (.own x):=by
      rcases he with z|z
      · exact absurd (hbe.trans z) hb
      · rw[hbe];exact z
     rw[q] at q';cases q'
     obtain⟨v,hv⟩:=heo
     exact⟨v,by rw[hbe];exact hv⟩
   · refine (ok b u q).stay (fun c v hc r=>k c v ?_ r) (fun c r=>by rw[zaf (nown c b r)];exact r) fun c xs r=>by rw[zaf (ntup c xs r)];exact r
     rcases hc with rfl|hc
     · exact hbe
     · rintro rfl
       rcases he with z|z
       · exact nown c b hc z
       · rw[hc] at z;cases z;exact hb rfl
end
structure Un (fs ex:List Addr) (H H':Hp) (h h':Heap):Prop where
 keep:∀b o,h.get? b=some o->H b=none->b∉fs->b∉ex->h'.get? b=some o
 slot:∀b o,h.get? b=some o->H b=none->b∈fs->b∉ex->∃sl,h'.get? b=some {o with slots:=sl}
 free:∀b o,h.get? b=some o->H b=none->b∉ex->H' b=none
 there:∀b o,h.get? b=some o->b∉ex->∃o',h'.get? b=some o'
 tups:∀b xs,H b=some (.tup xs)->H' b=some (.tup xs)
 frzs:∀b o u,H b=some (.frz o u)->H' b=some (.frz o u)
 tbls:∀b ps,H b=some (.tbl ps)->∃more,H' b=some (.tbl (ps++more))
section
variable {fs fs' ex ex':List Addr} {H H1 H2:Hp} {h h1 h2 h':Heap} {a x e:Addr} {o:HO}
theorem Un.any (u:Un fs ex H H1 h h1){b:Addr}{ob:Obj}(q:h.get? b=some ob)(n:H b=none)(hx:b∉ex):∃sl,h1.get? b=some {ob with slots:=sl}:=by
 by_cases hb:b∈fs
 · exact u.slot b ob q n hb hx
 · exact⟨ob.slots,u.keep b ob q n hb hx⟩
theorem Un.kept (k:∀b u,h.get? b=some u->h'.get? b=some u):Un fs ex H H h h':=
 ⟨fun b ob q _ _ _=>k b ob q,fun b ob q _ _ _=>⟨ob.slots,k b ob q⟩,fun _ _ _ n _=>n,fun b ob q _=>⟨ob,k b ob q⟩,fun _ _ q=>q,fun _ _ _ q=>q,fun _ ps q=>⟨#[],by rw[q];simp⟩⟩
theorem Un.refl:Un fs ex H H h h:=Un.kept fun _ _ q=>q
theorem Un.laid (k:∀b u,h.get? b=some u->h'.get? b=some u)(hp:h.objs.size<=a)(hn:H a=none):Un fs ex H (upd H a o) h h' where
 keep:=fun b u q _ _ _=>k b u q
 slot:=fun b u q _ _ _=>⟨u.slots,k b u q⟩
 free:=fun b u q n _=>by rw[zaf (Nat.ne_of_lt (Nat.lt_of_lt_of_le (Heap.lt_size q) hp))];exact n
 there:=fun b u q _=>⟨u,k b u q⟩
 tups:=fun b xs q=>by rw[zaf (zaj q hn)];exact q
 frzs:=fun b u xs q=>by rw[zaf (zaj q hn)];exact q
 tbls:=fun b ps q=>⟨#[],by rw[zaf (zaj q hn),q];simp⟩
theorem Un.write (mu:Mut (H x))(he:e=x\/H e=some (.own x))(k:∀b u,b≠e->h.get? b=some u->h'.get? b=some u)(heo:∃u,h'.get? e=some u):Un fs ex H (upd H x o) h h':=by
 have hx:∀b,H b=none->b≠x:=fun b n z=>by subst z;rw[n] at mu;exact mu
 have hb:∀b,H b=none->b≠e:=fun b n z=>by
  subst z
  rcases he with r|r
  · exact hx b n r
  · rw[n] at r;cases r
 have hm:∀b u,H b=some u->¬Mut (some u)->b≠x:=fun b u q nm z=>by subst z;rw[q] at mu;exact nm mu
 refine⟨fun b u q n _ _=>k b u (hb b n) q,fun b u q n _ _=>⟨u.slots,k b u (hb b n) q⟩,fun b u q n _=>by rw[zaf (hx b n)];exact n,fun b u q _=>?_,
  fun b xs q=>by rw[zaf (hm b _ q fun z=>z)];exact q,fun b u xs q=>by rw[zaf (hm b _ q fun z=>z)];exact q,fun b ps q=>⟨#[],by rw[zaf (hm b _ q fun z=>z),q];simp⟩⟩
 by_cases hbe:b=e
 · subst hbe;exact heo
 · exact⟨u,k b u hbe q⟩
end
noncomputable def trk (h:Heap)(H:Hp):List Addr:=(List.range h.objs.size).filter fun a=>(H a).isSome
noncomputable def hidT (h:Heap)(H:Hp):Heap:=PySem.W.hideAll h (trk h H)
theorem zgZ (h:Heap)(H:Hp):(hidT h H).objs.size=h.objs.size:=PySem.W.hideAll_size _ _
theorem zij {h:Heap}{H:Hp}{b:Addr}{o:Obj}(e:h.get? b=some o)(n:H b=none):(hidT h H).get? b=some o:=
 PySem.W.hideAll_get _ e fun hm=>by
  have q:(H b).isSome=true:=(List.mem_filter.mp hm).2
  rw[n] at q;simp at q
theorem zj6 {h:Heap}{H:Hp}{b:Addr}{o:Obj}(e:(hidT h H).get? b=some o):h.get? b=some o/\H b=none:=by
 have e':h.get? b=some o:=PySem.W.of_hideAll (trk h H) e
 refine⟨e',?_⟩
 cases q:H b with
 |none=>rfl
 | some x =>
   have hm:b∈trk h H:=List.mem_filter.mpr ⟨List.mem_range.mpr (Heap.lt_size e'),by simp[q]⟩
   have z:(hidT h H).get? b=none:=PySem.W.hideAll_none (trk h H) hm
   rw[z] at e;cases e
noncomputable def zkI (g h:Heap)(L:Addr):List (Addr × Obj):=(List.range h.objs.size).filterMap fun a=>if a=L\/(g.get? a).isSome=true then none else (h.get? a).map fun o=>(a,o)
noncomputable def rest (g h:Heap)(L d:Addr):List (Addr × Obj):=(zkI g h L).filter fun p=>decide (p.1≠d)
end L2
namespace L2
open PySem PySem.Spec PyProof.Rows
structure Mod (K:PySem.W.Frag) (mg:Str->Option Value) (base:Heap):Prop where
 kin:K.In base
 glob:base.Ns mainGlobals mg
 blt:∃mb,base.Ns builtinsNs mb/\∀x:Str,x≠"__name__"->mb x=bootBuiltins x
 nolimit:base.NoLimit
structure Cx where
 prog:Program
 w:World
 K:PySem.W.Frag
 mg:Str->Option Value
 base:Heap
 A:Around
 N:List Str
 s₀:Shared
 H₀:Hp
 env:Env
 outer:List Env
 stack:List Env
 ex:List Addr
 fn:Str->Bool
 calm:Bool
 pn:List (Addr × Obj)
 xe:Value->Shared->Prop
noncomputable def frs (l:List Env):List Addr:=l.filterMap (·.frame)
noncomputable abbrev Cx.fs (X:Cx):List Addr:=frs X.outer
noncomputable def Vis (sc:Scope)(x:Str):Prop:=sc.names.lookup x=some .local\/sc.names.lookup x=some .cell\/sc.names.lookup x=some .free
noncomputable def Loc (sc:Scope)(x:Str):Prop:=sc.names.lookup x=some .local\/sc.names.lookup x=some .cell
noncomputable def Look (env:Env)(h:Heap)(m:Str->Option Value)(x:Str)(u:Value):Prop:=
 (env.kindOf x=some .local/\m x=some u)\/((env.kindOf x=some .cell\/env.kindOf x=some .free)/\∃c,env.cells.lookup x=some c/\h.IsCell c (some u))
structure Cx.Ok (X:Cx):Prop where
 mod:Mod X.K X.mg X.base
 kind:X.env.scope.kind=.function
 glob:X.env.globals=mainGlobals
 blt:X.env.builtins=builtinsNs
 above:X.s₀.heap.objs.size<=X.env.locals
 inj:∀x y c,X.env.cells.lookup x=some c->X.env.cells.lookup y=some c->x=y
 has:∀x,(X.env.kindOf x=some .cell\/X.env.kindOf x=some .free)->∃c,X.env.cells.lookup x=some c
 cab:∀x c,X.fn x=true->X.env.cells.lookup x=some c->X.s₀.heap.objs.size<=c
 hd:X.calm=true->X.A.handled=none
 frames:X.A.frames=some X.stack
 stk:X.stack=X.outer\/(X.stack=X.env::X.outer/\X.env.frame=some X.env.locals)
 exf:∀b∈X.ex,b≠X.env.locals/\∀x c,X.env.cells.lookup x=some c->c≠b
 bs:∀b o,X.base.get? b=some o->X.s₀.heap.get? b=some o/\X.H₀ b=none
 bsz:X.base.objs.size<=X.s₀.heap.objs.size
 noex:∀b o,X.base.get? b=some o->b∉X.ex
 exfs:∀b∈X.ex,b∉X.fs
 funs:X.s₀.heap.FunFrames X.base X.outer
 frf:∀b∈X.fs,X.H₀ b=none
structure Inv (X:Cx) (pins:List (Addr × Obj)) (σ:List (Option V)) (H:Hp) (s:Shared):Prop where
 ok:X.Ok
 os:s.os=X.s₀.os
 bare:AllBare s.gens
 base:Un X.fs X.ex X.H₀ H X.s₀.heap s.heap
 loc:∃m,s.heap.Ns X.env.locals m/\∀(i:Nat) (x:Str) (v:V),X.N[i]?=some x->σ[i]?=some (some v)->Vis X.env.scope x->∃u,RelV v u/\Look X.env s.heap m x u
 cell:∀x c,X.env.cells.lookup x=some c->∃v,s.heap.IsCell c v
 free:H X.env.locals=none
 freeC:∀x c,X.env.cells.lookup x=some c->H c=none
 pin:∀p∈X.pn++pins,s.heap.get? p.1=some p.2/\H p.1=none/\p.1≠X.env.locals/\p.1∉X.fs/\∀v,p.2.data≠.cell v
 hok:HOk X.prog X.w H s.heap
 len:σ.length=X.N.length
section
variable {X:Cx} {pins:List (Addr × Obj)} {σ:List (Option V)} {H H':Hp} {s:Shared} {h':Heap}
theorem Cx.Ok.nofr (ok:X.Ok){b:Addr}{o:Obj}(e:X.base.get? b=some o):b∉X.fs:=fun hb=>by
 have:=(ok.funs.mem hb).1
 rw[e] at this;cases this
theorem Inv.bs (I:Inv X pins σ H s):∀b o,X.base.get? b=some o->s.heap.get? b=some o/\H b=none:=fun b o e=>
 ⟨I.base.keep b o (I.ok.bs b o e).1 (I.ok.bs b o e).2 (I.ok.nofr e) (I.ok.noex b o e),I.base.free b o (I.ok.bs b o e).1 (I.ok.bs b o e).2 (I.ok.noex b o e)⟩
theorem Inv.bk (I:Inv X pins σ H s):∀b o,X.base.get? b=some o->s.heap.get? b=some o:=fun b o e=>(I.bs b o e).1
theorem Inv.mod (I:Inv X pins σ H s):Mod X.K X.mg X.base:=I.ok.mod
theorem Inv.kIn (I:Inv X pins σ H s):X.K.In s.heap:=I.ok.mod.kin.keeps I.bk
theorem Inv.lt (I:Inv X pins σ H s):X.env.locals<s.heap.objs.size:=let ⟨_,hn,_⟩:=I.loc;hn.lt
theorem Inv.sz (I:Inv X pins σ H s):X.s₀.heap.objs.size<=s.heap.objs.size:=Nat.le_trans I.ok.above (Nat.le_of_lt I.lt)
theorem Inv.nofs (I:Inv X pins σ H s){a:Addr}(h:s.heap.objs.size<=a):a∉X.fs:=fun hb=>by
 obtain⟨_,o,ho,_⟩:=I.ok.funs.mem hb
 exact absurd (Nat.lt_of_lt_of_le (Heap.lt_size ho) (Nat.le_trans I.sz h)) (Nat.lt_irrefl _)
theorem Inv.cne (I:Inv X pins σ H s):∀x c,X.env.cells.lookup x=some c->c≠X.env.locals:=fun x c e z=>by
 obtain⟨v,o,ho,hd⟩:=I.cell x c e
 obtain⟨m,⟨o',es,ep,ho',hd',_⟩,_⟩:=I.loc
 rw[z,ho'] at ho;cases ho;rw[hd'] at hd;cases hd
theorem Inv.funs (I:Inv X pins σ H s):s.heap.FunFrames X.base X.outer:=by
 have all:∀(l:List Env),(∀b∈frs l,b∈X.fs)->X.s₀.heap.FunFrames X.base l->s.heap.FunFrames X.base l:=by
  intro l
  induction l with
  |nil=>intro _ _;trivial
  | cons env r ih =>
    intro hs hl
    obtain⟨hk,⟨L,o,hf,hn,ho,hd⟩,hr⟩:=hl
    have hL:L∈X.fs:=hs L (by unfold frs;rw[List.filterMap_cons,hf];exact List.mem_cons_self)
    obtain⟨sl,e⟩:=I.base.slot L o ho (I.ok.frf L hL) hL fun z=>I.ok.exfs L z hL
    exact⟨hk,⟨L,_,hf,hn,e,hd⟩,ih (fun b hb=>hs b (by unfold frs;rw[List.filterMap_cons,hf];exact List.mem_cons_of_mem _ hb)) hr⟩
 exact all X.outer (fun _ hb=>hb) I.ok.funs
theorem Inv.stack (I:Inv X pins σ H s):s.heap.FunFrames X.base X.stack:=by
 rcases I.ok.stk with e|⟨e,hf⟩
 · rw[e];exact I.funs
 · rw[e]
   obtain⟨m,hn,_⟩:=I.loc
   refine .cons (by rw[I.ok.kind];decide) hf hn ?_ I.funs
   exact Heap.get?_none_of_le (Nat.le_trans I.ok.bsz I.ok.above)
theorem Inv.stkSub (I:Inv X pins σ H s):∀b∈frs X.stack,b∈X.env.locals::X.fs:=fun b hb=>by
 rcases I.ok.stk with e|⟨e,hf⟩
 · rw[e] at hb;exact List.mem_cons_of_mem _ hb
 · rw[e] at hb
   unfold frs at hb
   rw[List.filterMap_cons,hf] at hb
   exact hb
theorem Inv.stkFree (I:Inv X pins σ H s):∀b∈frs X.stack,H b=none:=fun b hb=>by
 rcases List.mem_cons.mp (I.stkSub b hb) with e|hb
 · rw[e];exact I.free
 · obtain⟨_,o,ho,_⟩:=I.ok.funs.mem hb
   exact I.base.free b o ho (I.ok.frf b hb) fun z=>I.ok.exfs b z hb
theorem Inv.step {g':Array GenState}{t':Nat}{d':Drawn}{ch:List Addr}(I:Inv X pins σ H s)
  (hch:∀b∈ch,(b∈X.ex\/X.s₀.heap.objs.size<=b)/\b≠X.env.locals/\(∀x c,X.env.cells.lookup x=some c->c≠b)/\∀p∈X.pn++pins,p.1≠b)
  (keep:∀b o,b≠X.env.locals->b∉X.fs->b∉ch->s.heap.get? b=some o->H b=none->h'.get? b=some o)
  (slot:∀b o,b≠X.env.locals->b∈X.fs->b∉ch->s.heap.get? b=some o->H b=none->∃sl,h'.get? b=some {o with slots:=sl}) (free:∀b o,b∉ch->s.heap.get? b=some o->H b=none->H' b=none)
  (there:∀b o,b∉ch->s.heap.get? b=some o->∃o',h'.get? b=some o')
  (tups:∀b xs,H b=some (.tup xs)->H' b=some (.tup xs)) (frzs:∀b o u,H b=some (.frz o u)->H' b=some (.frz o u)) (tbls:∀b ps,H b=some (.tbl ps)->∃more,H' b=some (.tbl (ps++more)))
  (ns:∀m,s.heap.Ns X.env.locals m->h'.Ns X.env.locals m) (hok:HOk X.prog X.w H' h') (hg:AllBare g') :
  Inv X pins σ H' {s with heap:=h',gens:=g',drawn:=d',toks:=t'}:=by
 have neL:∀b o,X.s₀.heap.get? b=some o->b≠X.env.locals:=fun b o e=>Nat.ne_of_lt (Nat.lt_of_lt_of_le (Heap.lt_size e) I.ok.above)
 have neC:∀b o,X.s₀.heap.get? b=some o->b∉X.ex->b∉ch:=fun b o e hx hb=>by
  rcases (hch b hb).1 with z|z
  · exact hx z
  · exact absurd (Nat.lt_of_lt_of_le (Heap.lt_size e) z) (Nat.lt_irrefl _)
 have cellK:∀x c,X.env.cells.lookup x=some c->∀v,s.heap.IsCell c v->h'.IsCell c v:=fun x c e v ⟨o,ho,hd⟩=>by
  have nch:c∉ch:=fun z=>(hch c z).2.2.1 x c e rfl
  by_cases hc:c∈X.fs
  · obtain⟨sl,q⟩:=slot c o (I.cne x c e) hc nch ho (I.freeC x c e)
    exact⟨_,q,hd⟩
  · exact⟨o,keep c o (I.cne x c e) hc nch ho (I.freeC x c e),hd⟩
 refine⟨I.ok,I.os,hg,⟨fun b o e n hb hx=>?_,fun b o e n hb hx=>?_,fun b o e n hx=>?_,fun b o e hx=>?_,fun b xs e=>tups b xs (I.base.tups b xs e),fun b o xs e=>frzs b o xs (I.base.frzs b o xs e),fun b ps e=>?_⟩,?_,fun x c e=>?_,?_,fun x c e=>?_,fun p hp=>?_,hok,I.len⟩
 · exact keep b o (neL b o e) hb (neC b o e hx) (I.base.keep b o e n hb hx) (I.base.free b o e n hx)
 · obtain⟨sl,e1⟩:=I.base.slot b o e n hb hx
   obtain⟨sl',e2⟩:=slot b _ (neL b o e) hb (neC b o e hx) e1 (I.base.free b o e n hx)
   exact⟨sl',e2⟩
 · obtain⟨o',e1⟩:=I.base.there b o e hx
   exact free b o' (neC b o e hx) e1 (I.base.free b o e n hx)
 · obtain⟨o',e1⟩:=I.base.there b o e hx
   exact there b o' (neC b o e hx) e1
 · obtain⟨m1,e1⟩:=I.base.tbls b ps e
   obtain⟨m2,e2⟩:=tbls b _ e1
   exact⟨m1++m2,by rw[e2,Array.append_assoc]⟩
 · obtain⟨m,hn,hl⟩:=I.loc
   refine⟨m,ns m hn,fun i x v e1 e2 e3=>?_⟩
   obtain⟨u,r,l⟩:=hl i x v e1 e2 e3
   refine⟨u,r,?_⟩
   rcases l with l|⟨k,c,e,z⟩
   · exact .inl l
   · exact .inr ⟨k,c,e,cellK x c e _ z⟩
 · obtain⟨v,z⟩:=I.cell x c e
   exact⟨v,cellK x c e v z⟩
 · obtain⟨m,⟨o,_,_,ho,_⟩,_⟩:=I.loc
   exact free _ o (fun z=>(hch _ z).2.1 rfl) ho I.free
 · obtain⟨v,o,ho,hd⟩:=I.cell x c e
   exact free c o (fun z=>(hch c z).2.2.1 x c e rfl) ho (I.freeC x c e)
 · obtain⟨e,n,ne,nf,d⟩:=I.pin p hp
   have nch:p.1∉ch:=fun z=>(hch p.1 z).2.2.2 p hp rfl
   exact⟨keep p.1 p.2 ne nf nch e n,free p.1 p.2 nch e n,ne,nf,d⟩
theorem Inv.un {t':Nat}(I:Inv X pins σ H s)(u:Un X.fs [] H H' s.heap h')(hok:HOk X.prog X.w H' h'):Inv X pins σ H' {s with heap:=h',toks:=t'}:=by
 obtain⟨m,⟨o,es,ep,ho,r⟩,_⟩:=id I.loc
 obtain⟨sl,hL⟩:=u.any ho I.free (by simp)
 exact I.step (g':=s.gens) (d':=s.drawn) (ch:=[]) (fun _ z=>nomatch z) (fun b o _ hb _ e n=>u.keep b o e n hb (by simp)) (fun b o _ hb _ e n=>u.slot b o e n hb (by simp)) (fun b o _ e n=>u.free b o e n (by simp)) (fun b o _ e=>u.there b o e (by simp)) u.tups u.frzs u.tbls (fun m' hm=>by
  obtain⟨o',es',ep',ho',r'⟩:=hm
  rw[ho] at ho';cases ho'
  exact⟨_,es',ep',hL,r'⟩) hok I.bare
theorem Inv.call {g':Array GenState}{t':Nat}{d':Drawn}{ch:List Addr}(I:Inv X pins σ H s)(u:Un (frs X.stack) ch H H' s.heap h')(hok:HOk X.prog X.w H' h')(hg:AllBare g')
  (hch:∀b∈ch,(b∈X.ex\/X.s₀.heap.objs.size<=b)/\b≠X.env.locals/\(∀x c,X.env.cells.lookup x=some c->c≠b)/\∀p∈X.pn++pins,p.1≠b) :
  Inv X pins σ H' {s with heap:=h',gens:=g',drawn:=d',toks:=t'}:=by
 obtain⟨m,⟨o,es,ep,ho,r⟩,_⟩:=id I.loc
 obtain⟨sl,hL⟩:=u.any ho I.free fun z=>(hch _ z).2.1 rfl
 exact I.step (ch:=ch) hch (fun b o hL hb hc e n=>u.keep b o e n (fun z=>(List.mem_cons.mp (I.stkSub b z)).elim hL hb) hc) (fun b o _ _ hc e n=>u.any e n hc) (fun b o hc e n=>u.free b o e n hc) (fun b o hc e=>u.there b o e hc) u.tups u.frzs u.tbls (fun m' hm=>by
  obtain⟨o',es',ep',ho',r'⟩:=hm
  rw[ho] at ho';cases ho'
  exact⟨_,es',ep',hL,r'⟩) hok hg
theorem Inv.turned {t':Nat}{it:Addr}(I:Inv X pins σ H s)(k:∀b o,b≠it->s.heap.get? b=some o->h'.get? b=some o)(hn:H it=none)(hL:it≠X.env.locals)
  (h1:it∈X.ex\/X.s₀.heap.objs.size<=it) (h2:∀x c,X.env.cells.lookup x=some c->c≠it) (h3:∀p∈X.pn++pins,p.1≠it):Inv X pins σ H {s with heap:=h',toks:=t'}:=by
 have nit:∀b u,H b=some u->b≠it:=fun b u e z=>by rw[z,hn] at e;cases e
 refine I.step (g':=s.gens) (d':=s.drawn) (ch:=[it]) (fun b hb=>?_) (fun b o _ _ hc e _=>k b o (fun z=>hc (by simp[z])) e) (fun b o _ _ hc e _=>⟨o.slots,k b o (fun z=>hc (by simp[z])) e⟩) (fun _ _ _ _ n=>n)
  (fun b o hc e=>⟨o,k b o (fun z=>hc (by simp[z])) e⟩) (fun _ _ e=>e) (fun _ _ _ e=>e) (fun b ps e=>⟨#[],by rw[e];simp⟩) (fun m hm=>?_) (fun b u e=>?_) I.bare
 · have e:b=it:=by simpa using hb
   subst e
   exact⟨h1,hL,h2,h3⟩
 · obtain⟨o,es,ep,ho,r⟩:=hm
   exact⟨o,es,ep,k _ o (Ne.symm hL) ho,r⟩
 · refine (I.hok b u e).stay (fun c v hc q=>k c v ?_ q) (fun _ q=>q) fun _ _ q=>q
   rcases hc with z|z
   · rw[z];exact nit b u e
   · exact nit c _ z
theorem Inv.tok (I:Inv X pins σ H s)(t:Nat):Inv X pins σ H {s with toks:=t}:=I.un (h':=s.heap) (t':=t) Un.refl I.hok
theorem Inv.kept {t':Nat}(I:Inv X pins σ H s)(k:∀b u,s.heap.get? b=some u->h'.get? b=some u):Inv X pins σ H {s with heap:=h',toks:=t'}:=I.un (Un.kept k) (I.hok.kept k)
theorem Inv.laid {a:Addr}{o:HO}{t':Nat}(I:Inv X pins σ H s)(k:∀b u,s.heap.get? b=some u->h'.get? b=some u)(hp:s.heap.objs.size<=a)(new:ObjOk X.prog X.w (upd H a o) h' a o) :
 Inv X pins σ (upd H a o) {s with heap:=h',toks:=t'}:=I.un (Un.laid k hp (I.hok.fresh hp)) (I.hok.laid k hp new)
theorem Inv.write {x e:Addr}{o:HO}{t':Nat}(I:Inv X pins σ H s)(mu:Mut (H x))(he:e=x\/H e=some (.own x))(k:∀b u,b≠e->s.heap.get? b=some u->h'.get? b=some u)(heo:∃u,h'.get? e=some u)
 (new:ObjOk X.prog X.w (upd H x o) h' x o):Inv X pins σ (upd H x o) {s with heap:=h',toks:=t'}:=I.un (Un.write mu he k heo) (I.hok.write mu he k heo new)
theorem Inv.pins_of {pins':List (Addr × Obj)}(I:Inv X pins σ H s)(h:∀p∈pins',s.heap.get? p.1=some p.2/\H p.1=none/\p.1≠X.env.locals/\p.1∉X.fs/\∀v,p.2.data≠.cell v):Inv X pins' σ H s:=
 ⟨I.ok,I.os,I.bare,I.base,I.loc,I.cell,I.free,I.freeC,fun p hp=>(List.mem_append.mp hp).elim (fun z=>I.pin p (List.mem_append_left _ z)) (h p),I.hok,I.len⟩
theorem ze6 {N:List Str}(hN:N.Nodup){i j:Nat}{x:Str}(a:N[i]?=some x)(b:N[j]?=some x):i=j:=by
 obtain⟨h1,e1⟩:=List.getElem?_eq_some_iff.mp a
 obtain⟨h2,e2⟩:=List.getElem?_eq_some_iff.mp b
 exact (List.getElem_inj hN).mp (e1.trans e2.symm)
theorem zdx {M:Model}{A:Around}{E:Value->Shared->Prop}{i:Nat}{x:Str}{v:V}{u:Value}{Q:Unit->Shared->Prop}(I:Inv X pins σ H s)(hN:X.N.Nodup)(hi:X.N[i]?=some x)(hx:Loc X.env.scope x)(r:RelV v u)
  (h:∀s',Inv X pins (σ.set i (some v)) H s'->(∃a,Heap.SameBut a s.heap s'.heap/\(a=X.env.locals\/X.env.cells.lookup x=some a))->Q () s') (hf:X.fn x=true\/X.env.scope.names.lookup x=some .local:=by first|exact .inl rfl|exact .inr rfl|assumption):wpAny M A (storeName X.env x u) Q E s:=by
 obtain⟨m,hn,hl⟩:=id I.loc
 have hcls:(X.env.scope.kind == .class || (X.env.scope.kind == .module&&X.env.locals != X.env.globals))=false:=by rw[I.ok.kind];rfl
 have hiσ:i<σ.length:=by rw[I.len];exact (List.getElem?_eq_some_iff.mp hi).1
 have cne:=I.cne
 have tracked:∀{a:Addr} {h':Heap},(∃o,s.heap.get? a=some o/\H a=none)->Heap.SameBut a s.heap h'->HOk X.prog X.w H h':=fun {a h'} ha hs b ob e=>by
  obtain⟨_,_,hfree⟩:=ha
  refine (I.hok b ob e).stay (fun c w' hc q=>(hs.2 c ?_).trans q) (fun _ q=>q) fun _ _ q=>q
  rintro rfl
  rcases hc with rfl|hc
  · rw[hfree] at e;cases e
  · rw[hfree] at hc;cases hc
 rcases hx with hk|hk
 · refine wpAny_storeName_local hk hn (fun h' hn' hs=>?_) hcls
   obtain⟨oL,_,_,hoL,_⟩:=id hn
   refine h _ ⟨I.ok,I.os,I.bare,⟨fun b o e n hb hx=>?_,fun b o e n hb hx=>?_,I.base.free,fun b o e hx=>?_,I.base.tups,I.base.frzs,I.base.tbls⟩,⟨_,hn',fun j y v' e1 e2 e3=>?_⟩,fun y c e=>?_,I.free,I.freeC,fun p hp=>?_,tracked ⟨oL,hoL,I.free⟩ hs,by simpa using I.len⟩ ⟨_,hs,.inl rfl⟩
   · exact (hs.2 b (Nat.ne_of_lt (Nat.lt_of_lt_of_le (Heap.lt_size e) I.ok.above))).trans (I.base.keep b o e n hb hx)
   · obtain⟨sl,e1⟩:=I.base.slot b o e n hb hx
     exact⟨sl,(hs.2 b (Nat.ne_of_lt (Nat.lt_of_lt_of_le (Heap.lt_size e) I.ok.above))).trans e1⟩
   · obtain⟨o',e1⟩:=I.base.there b o e hx
     exact⟨o',(hs.2 b (Nat.ne_of_lt (Nat.lt_of_lt_of_le (Heap.lt_size e) I.ok.above))).trans e1⟩
   · by_cases hj:j=i
     · subst hj
       rw[hi] at e1;cases e1
       rw[List.getElem?_set_self hiσ] at e2
       cases e2
       exact⟨u,r,.inl ⟨hk,by simp⟩⟩
     · rw[List.getElem?_set_ne (Ne.symm hj)] at e2
       obtain⟨u',r',q⟩:=hl j y v' e1 e2 e3
       refine⟨u',r',?_⟩
       rcases q with ⟨k,e⟩|⟨k,c,e,z⟩
       · refine .inl ⟨k,?_⟩
         have:y≠x:=fun e=>hj (ze6 hN e1 (e▸hi))
         simp[this,e]
       · exact .inr ⟨k,c,e,z.sameBut hs (cne y c e)⟩
   · obtain⟨w',z⟩:=I.cell y c e
     exact⟨w',z.sameBut hs (cne y c e)⟩
   · obtain⟨e,n,ne,nf,d⟩:=I.pin p hp
     exact⟨(hs.2 p.1 ne).trans e,n,ne,nf,d⟩
 · have hfn:X.fn x=true:=by
    rcases hf with z|z
    · exact z
    · rw[z] at hk;cases hk
   obtain⟨c,hc⟩:=I.ok.has x (.inl hk)
   obtain⟨w',z⟩:=I.cell x c hc
   refine wpAny_storeName_cell I.ok.kind hk hc z (fun h' hc' hs=>?_)
   obtain⟨oc,hoc,hocd⟩:=id z
   refine h {s with heap:=h'} ⟨I.ok,I.os,I.bare,⟨fun b o e n hb hx=>?_,fun b o e n hb hx=>?_,I.base.free,fun b o e hx=>?_,I.base.tups,I.base.frzs,I.base.tbls⟩,⟨m,hn.sameBut hs (Ne.symm (cne x c hc)),fun j y v' e1 e2 e3=>?_⟩,fun y c' e=>?_,I.free,I.freeC,fun p hp=>?_,tracked ⟨oc,hoc,I.freeC x c hc⟩ hs,by simpa using I.len⟩ ⟨c,hs,.inr hc⟩
   · exact (hs.2 b (Nat.ne_of_lt (Nat.lt_of_lt_of_le (Heap.lt_size e) (I.ok.cab x c hfn hc)))).trans (I.base.keep b o e n hb hx)
   · obtain⟨sl,e1⟩:=I.base.slot b o e n hb hx
     exact⟨sl,(hs.2 b (Nat.ne_of_lt (Nat.lt_of_lt_of_le (Heap.lt_size e) (I.ok.cab x c hfn hc)))).trans e1⟩
   · obtain⟨o',e1⟩:=I.base.there b o e hx
     exact⟨o',(hs.2 b (Nat.ne_of_lt (Nat.lt_of_lt_of_le (Heap.lt_size e) (I.ok.cab x c hfn hc)))).trans e1⟩
   · by_cases hj:j=i
     · subst hj
       rw[hi] at e1;cases e1
       rw[List.getElem?_set_self hiσ] at e2
       cases e2
       exact⟨u,r,.inr ⟨.inl hk,c,hc,hc'⟩⟩
     · rw[List.getElem?_set_ne (Ne.symm hj)] at e2
       obtain⟨u',r',q⟩:=hl j y v' e1 e2 e3
       refine⟨u',r',?_⟩
       rcases q with q|⟨k,c',e,z'⟩
       · exact .inl q
       · refine .inr ⟨k,c',e,z'.sameBut hs ?_⟩
         rintro rfl
         exact hj (ze6 hN e1 (I.ok.inj _ _ _ e hc▸hi))
   · by_cases hcc:c'=c
     · subst hcc;exact⟨_,hc'⟩
     · obtain⟨w2,z2⟩:=I.cell y c' e
       exact⟨w2,z2.sameBut hs hcc⟩
   · obtain⟨e,n,ne,nf,d⟩:=I.pin p hp
     refine⟨(hs.2 p.1 ?_).trans e,n,ne,nf,d⟩
     intro q
     rw[q,hoc] at e
     have q':oc=p.2:=Option.some.inj e
     exact d w' (by rw[<-q'];exact hocd)
theorem zc8 {M:Model}{A:Around}{E:Value->Shared->Prop}{i:Nat}{x:Str}{v:V}{u:Value}{Q:Unit->Shared->Prop}(I:Inv X pins σ H s)(hN:X.N.Nodup)(hi:X.N[i]?=some x)(hx:Loc X.env.scope x)(r:RelV v u)
  (h:∀s',Inv X pins (σ.set i (some v)) H s'->Q () s') (hf:X.fn x=true\/X.env.scope.names.lookup x=some .local:=by first|exact .inl rfl|exact .inr rfl|assumption):wpAny M A (storeName X.env x u) Q E s:=
 zdx I hN hi hx r (fun s' I' _=>h s' I') hf
theorem Inv.call' {s':Shared}{ch:List Addr}(I:Inv X pins σ H s)(ho:s'.os=s.os)(u:Un (frs X.stack) ch H H' s.heap s'.heap)(hok:HOk X.prog X.w H' s'.heap)(hg:AllBare s'.gens)
  (hch:∀b∈ch,(b∈X.ex\/X.s₀.heap.objs.size<=b)/\b≠X.env.locals/\(∀x c,X.env.cells.lookup x=some c->c≠b)/\∀p∈X.pn++pins,p.1≠b):Inv X pins σ H' s':=by
 obtain⟨h',g',d',t',o'⟩:=s'
 have e:o'=s.os:=ho
 subst e
 exact I.call (g':=g') (t':=t') (d':=d') u hok hg hch
end
noncomputable abbrev XK:=Value->Option Addr->Hp->Prop
noncomputable abbrev St:=List (Option V)
noncomputable abbrev VK:=V->Hp->Prop
noncomputable abbrev TE:=St->Hp->VK->Prop
noncomputable abbrev TT:=St->Hp->(Bool->Hp->Prop)->Prop
noncomputable abbrev TA:=St->Hp->(List V->Hp->Prop)->Prop
structure Ends where
 nx:St->Hp->Prop
 rt:VK
 bk:St->Hp->Prop:=fun _ _=>False
 ct:St->Hp->Prop:=fun _ _=>False
noncomputable abbrev TS:=Ends->St->Hp->Prop
noncomputable def EP (X:Cx)(pins:List (Addr × Obj))(σ:St)(Q:VK)(u:Value)(s':Shared):Prop:=∃v H',Inv X pins σ H' s'/\RelV v u/\Q v H'
noncomputable def TP (X:Cx)(pins:List (Addr × Obj))(σ:St)(Q:Bool->Hp->Prop)(b:Bool)(s':Shared):Prop:=∃H',Inv X pins σ H' s'/\Q b H'
noncomputable def AP (X:Cx)(pins:List (Addr × Obj))(σ:St)(Q:List V->Hp->Prop)(us:List Value)(s':Shared):Prop:=∃vs H',Inv X pins σ H' s'/\Vals vs us/\Q vs H'
noncomputable def SP (X:Cx)(pins:List (Addr × Obj))(D:Ends)(f:Flow)(s':Shared):Prop:=
 match f with
 |.next=>∃σ' H',Inv X pins σ' H' s'/\D.nx σ' H'
 |.brk=>∃σ' H',Inv X pins σ' H' s'/\D.bk σ' H'
 |.cont=>∃σ' H',Inv X pins σ' H' s'/\D.ct σ' H'
 |.ret u=>∃v σ' H',Inv X pins σ' H' s'/\RelV v u/\D.rt v H'
noncomputable def PE (X:Cx)(e:Expr)(t:TE):Prop:=
 ∀(pins:List (Addr × Obj)) (s:Shared) (σ:St) (H:Hp) (Q:VK),Inv X pins σ H s->t σ H Q->wpAny (model X.prog X.w) X.A (eval e X.env) (EP X pins σ Q) X.xe s
noncomputable def PT (X:Cx)(e:Expr)(t:TT):Prop:=
 ∀(pins:List (Addr × Obj)) (s:Shared) (σ:St) (H:Hp) (Q:Bool->Hp->Prop),Inv X pins σ H s->t σ H Q->wpAny (model X.prog X.w) X.A (isTrue e X.env (eval e X.env)) (TP X pins σ Q) X.xe s
noncomputable def PW (X:Cx)(e:Expr)(t:TT):Prop:=
 ∀(whole:Sem Value) (pins:List (Addr × Obj)) (s:Shared) (σ:St) (H:Hp) (Q:Bool->Hp->Prop),Inv X pins σ H s->t σ H Q->wpAny (model X.prog X.w) X.A (isTrue e X.env whole) (TP X pins σ Q) X.xe s
theorem PW.pt {X:Cx}{e:Expr}{t:TT}(h:PW X e t):PT X e t:=h _
noncomputable def PA (X:Cx)(es:List Expr)(t:TA):Prop:=
 ∀(pos:Pos) (pins:List (Addr × Obj)) (s:Shared) (σ:St) (H:Hp) (Q:List V->Hp->Prop),Inv X pins σ H s->t σ H Q->wpAny (model X.prog X.w) X.A (spliced (backTo pos (starEach es X.env))) (AP X pins σ Q) X.xe s
noncomputable def PS (X:Cx)(st:Stmt)(t:TS):Prop:=
 ∀(pins:List (Addr × Obj)) (s:Shared) (σ:St) (H:Hp) (D:Ends),Inv X pins σ H s->t D σ H->wpAny (model X.prog X.w) X.A (exec st X.env) (SP X pins D) X.xe s
noncomputable def PSs (X:Cx)(st:List Stmt)(t:TS):Prop:=
 ∀(pins:List (Addr × Obj)) (s:Shared) (σ:St) (H:Hp) (D:Ends),Inv X pins σ H s->t D σ H->wpAny (model X.prog X.w) X.A (execs st X.env) (SP X pins D) X.xe s
theorem thn {α:Type}{t:Sem α}{Q Q':α->Shared->Prop}{M:Model}{A:Around}{E:Value->Shared->Prop}{s:Shared}(h:wpAny M A t Q E s)(hQ:∀a s,Q a s->Q' a s):wpAny M A t Q' E s:=wpAny_mono h hQ fun _ _ x=>x
end L2
namespace L2
open PySem PySem.Spec PyProof.Rows
section
variable {X:Cx}
theorem bin {a b:Expr}{ta tb:TE}(ha:PE X a ta)(hb:PE X b tb){pins:List (Addr × Obj)}{s:Shared}{σ:St}{H:Hp}{R:V->V->Hp->Prop}(I:Inv X pins σ H s)(h:ta σ H fun x H1=>tb σ H1 fun y H2=>R x y H2)
  {α:Type} {Q:α->Shared->Prop} {f:Value->Value->Sem α}
  (hf:∀v u s2 x y H2,Inv X pins σ H2 s2->RelV x v->RelV y u->R x y H2->wpAny (model X.prog X.w) X.A (f v u) Q X.xe s2) :
  wpAny (model X.prog X.w) X.A (eval a X.env) (fun v s₁=>wpAny (model X.prog X.w) X.A (eval b X.env) (fun u s₂=>wpAny (model X.prog X.w) X.A (f v u) Q X.xe s₂) X.xe s₁) X.xe s:=by
 refine thn (ha pins s σ H _ I h) fun v s1 ⟨x,H1,I1,r1,q1⟩=>?_
 refine thn (hb pins s1 σ H1 _ I1 q1) fun u s2 ⟨y,H2,I2,r2,q2⟩=>?_
 exact hf v u s2 x y H2 I2 r1 r2 q2
noncomputable def tVar (i:Nat):TE:=fun σ H Q=>∃v,σ[i]?=some (some v)/\Q v H
noncomputable def tC (v:V):TE:=fun _ H Q=>Q v H
theorem zcr {i:Nat}{x:Str}{pos:Pos}(hN:X.N[i]?=some x)(hv:Vis X.env.scope x)(hd:(x == ("__debug__":Str))=false:=by decide)(hcd:(x == ("__classdict__":Str))=false:=by decide):PE X (.Name x pos) (tVar i):=by
 intro pins s σ H Q I h
 obtain⟨v,e,h⟩:=h
 obtain⟨m,hn,hl⟩:=I.loc
 obtain⟨u,r,l⟩:=hl i x v hN e hv
 have fin:EP X pins σ Q u s:=⟨v,H,I,r,h⟩
 rcases l with ⟨hk,hm⟩|⟨hk,c,hc,hcell⟩
 · exact wpAny_Name (wpAny_loadName_local I.ok.kind hk hn hm fin) hd
 · rcases hk with hk|hk
   · exact wpAny_Name (wpAny_loadName_cell I.ok.kind hk hc hcell fin) hd
   · exact wpAny_Name (wpAny_loadName_free I.ok.kind hk hc hcell fin hcd) hd
theorem zlH {i j pos}:PE X (.Constant (.int i) j pos) (tC (.int i)):=fun _ _ _ H _ I h=>wpAny_Constant_int ⟨.int i,H,I.tok _,⟨_,rfl⟩,h⟩
theorem znd {b j pos}:PE X (.Constant (.bool b) j pos) (tC (.bl b)):=fun _ _ _ H _ I h=>Constant_bool ⟨.bl b,H,I,rfl,h⟩
theorem zlF {j pos}:PE X (.Constant .none j pos) (tC .non):=fun _ _ _ H _ I h=>Constant_none ⟨.non,H,I,rfl,h⟩
theorem zlD {x j pos}:PE X (.Constant (.str x) j pos) (tC (.str x)):=fun _ _ _ H _ I h=>Calls.Constant_str ⟨.str x,H,I.tok _,⟨_,rfl⟩,h⟩
noncomputable def Gl (X:Cx)(x:Str):Prop:=X.env.kindOf x=some .globalImplicit
theorem zcx {E:Value->Shared->Prop}{pins:List (Addr × Obj)}{s:Shared}{σ:St}{H:Hp}{x:Str}{u:Value}{pos:Pos}{Q:Value->Shared->Prop}(I:Inv X pins σ H s)(hg:Gl X x)(hm:X.mg x=some u)(h:Q u s)
  (hd:(x == ("__debug__":Str))=false:=by decide):wpAny (model X.prog X.w) X.A (eval (.Name x pos) X.env) Q E s:=
 Calls.Name_function_global I.ok.kind hg (Calls.loadGlobal_global (by rw[I.ok.glob];exact I.mod.glob.keeps I.bk) hm h) hd
theorem zdT {E:Value->Shared->Prop}{pins:List (Addr × Obj)}{s:Shared}{σ:St}{H:Hp}{x:Str}{u:Value}{pos:Pos}{Q:Value->Shared->Prop}(I:Inv X pins σ H s)(hg:Gl X x)(hm:X.mg x=none)(hv:bootBuiltins x=some u)(h:Q u s)
  (hn:x≠"__name__":=by decide) (hd:(x == ("__debug__":Str))=false:=by decide):wpAny (model X.prog X.w) X.A (eval (.Name x pos) X.env) Q E s:=by
 obtain⟨mb,h1,h2⟩:=I.mod.blt
 exact Calls.Name_function_global I.ok.kind hg (Calls.loadGlobal_builtin (by rw[I.ok.glob];exact I.mod.glob.keeps I.bk) hm (by rw[I.ok.blt];exact h1.keeps I.bk) ((h2 x hn).trans hv) h) hd
theorem zjX {x:Str}{v:V}{u:Value}{pos:Pos}(hg:Gl X x)(hm:X.mg x=some u)(r:RelV v u)(hd:(x == ("__debug__":Str))=false:=by decide):PE X (.Name x pos) (tC v):=
 fun _ _ _ H _ I h=>zcx I hg hm ⟨v,H,I,r,h⟩ hd
theorem zj0 {x:Str}{v:V}{u:Value}{pos:Pos}(hg:Gl X x)(hm:X.mg x=none)(hv:bootBuiltins x=some u)(r:RelV v u)(hn:x≠"__name__":=by decide)(hd:(x == ("__debug__":Str))=false:=by decide):PE X (.Name x pos) (tC v):=
 fun _ _ _ H _ I h=>zdT I hg hm hv ⟨v,H,I,r,h⟩ hn hd
variable {a b:Expr} {ta tb:TE} {pos:Pos}
theorem RelV.none_iff {x:V}{v:Value}(r:RelV x v):(v == Value.none)=decide (x=.non):=by
 cases x with
 |non=>cases r;rfl
 |bl _=>cases r;rfl
 |int _=>obtain⟨t,rfl⟩:=r;rfl
 |str _=>obtain⟨t,rfl⟩:=r;rfl
 |byt _=>obtain⟨t,rfl⟩:=r;rfl
 |flt _=>obtain⟨t,rfl⟩:=r;rfl
 |ref _=>cases r;rfl
 |ty _=>cases r;rfl
variable {tA tB':TT} {rest:List Expr}
noncomputable def tAnd (t u:TT):TT:=fun σ H Q=>t σ H fun c H1=>if c=true then u σ H1 Q else Q false H1
noncomputable def tOr (t u:TT):TT:=fun σ H Q=>t σ H fun c H1=>if c=true then Q true H1 else u σ H1 Q
noncomputable def tNot (t:TT):TT:=fun σ H Q=>t σ H fun c H1=>Q (!c) H1
theorem zjK (ha:PT X a tA):PW X (.BoolOp .And [a] pos) tA:=by
 intro wh pins s σ H Q I h
 refine isTrue_and (thn (ha pins s σ H Q I h) fun c s1 e=>?_)
 cases c with
 |true=>exact isTrue_and_nil e
 |false=>exact e
theorem zlv (ha:PT X a tA):PW X (.BoolOp .Or [a] pos) tA:=by
 intro wh pins s σ H Q I h
 refine isTrue_or (thn (ha pins s σ H Q I h) fun c s1 e=>?_)
 cases c with
 |false=>exact isTrue_or_nil e
 |true=>exact e
theorem zlw (ha:PT X a tA)(hb:PW X (.BoolOp .And (b::rest) pos) tB'):PW X (.BoolOp .And (a::b::rest) pos) (tAnd tA tB'):=by
 intro wh pins s σ H Q I h
 refine isTrue_and (thn (ha pins s σ H _ I h) fun c s1 ⟨H1,I1,q1⟩=>?_)
 cases c with
 |true=>exact hb wh pins s1 σ H1 Q I1 q1
 |false=>exact⟨H1,I1,q1⟩
theorem zm6 (ha:PT X a tA)(hb:PW X (.BoolOp .Or (b::rest) pos) tB'):PW X (.BoolOp .Or (a::b::rest) pos) (tOr tA tB'):=by
 intro wh pins s σ H Q I h
 refine isTrue_or (thn (ha pins s σ H _ I h) fun c s1 ⟨H1,I1,q1⟩=>?_)
 cases c with
 |true=>exact⟨H1,I1,q1⟩
 |false=>exact hb wh pins s1 σ H1 Q I1 q1
theorem zlx (ha:PT X a tA):PT X (.UnaryOp .Not a pos) (tNot tA):=by
 intro pins s σ H Q I h
 exact isTrue_not (ha pins s σ H (fun c H1=>Q (!c) H1) I h)
noncomputable def zmV (ta tb:TE):TE:=fun σ H Q=>ta σ H fun x H1=>∃c,x=.bl c/\if c=true then tb σ H1 Q else Q (.bl false) H1
noncomputable def tOrV (ta tb:TE):TE:=fun σ H Q=>ta σ H fun x H1=>∃c,x=.bl c/\if c=true then Q (.bl true) H1 else tb σ H1 Q
noncomputable def zmS (ta:TE):TE:=fun σ H Q=>ta σ H fun x H1=>∃c,x=.bl c/\Q (.bl (!c)) H1
theorem zi0 {op}{t:TE}(h:PE X a t):PE X (.BoolOp op [a] pos) t:=fun pins s σ H Q I hw=>BoolOp_one (h pins s σ H Q I hw)
theorem zlL (ha:PE X a ta)(hb:PE X (.BoolOp .And (b::rest) pos) tb):PE X (.BoolOp .And (a::b::rest) pos) (zmV ta tb):=by
 intro pins s σ H Q I h
 refine BoolOp_and (thn (ha pins s σ H _ I h) fun v s1 ⟨x,H1,I1,r1,q1⟩=>?_)
 obtain⟨c,rfl,q1⟩:=q1
 cases r1
 refine wpAny_truthy_bool ?_
 cases c with
 |true=>exact hb pins s1 σ H1 Q I1 q1
 |false=>exact⟨.bl false,H1,I1,rfl,q1⟩
theorem zm9 (ha:PE X a ta)(hb:PE X (.BoolOp .Or (b::rest) pos) tb):PE X (.BoolOp .Or (a::b::rest) pos) (tOrV ta tb):=by
 intro pins s σ H Q I h
 refine BoolOp_or (thn (ha pins s σ H _ I h) fun v s1 ⟨x,H1,I1,r1,q1⟩=>?_)
 obtain⟨c,rfl,q1⟩:=q1
 cases r1
 refine wpAny_truthy_bool ?_
 cases c with
 |false=>exact hb pins s1 σ H1 Q I1 q1
 |true=>exact⟨.bl true,H1,I1,rfl,q1⟩
theorem zlE (ha:PE X a ta):PE X (.UnaryOp .Not a pos) (zmS ta):=by
 intro pins s σ H Q I h
 refine UnaryOp_ (thn (ha pins s σ H _ I h) fun v s1 ⟨x,H1,I1,r1,q1⟩=>?_)
 obtain⟨c,rfl,q1⟩:=q1
 cases r1
 exact not_of (wpAny_truthy_bool ⟨.bl (!c),H1,I1,rfl,q1⟩)
end
end L2
namespace L2
open PySem PySem.Spec PyProof.Rows
noncomputable def SqL (K:PySem.W.Frag)(H:Hp)(a:Addr)(xs:List V):Prop:=
 Rd H a (.lst xs)\/
  ∃(o:Obj) (its:Array Value) (n:Nat),K.lookup a=some o/\o.cls=.type "list"/\o.dict=none/\o.data=.seq its n/\its.size<=sizeLine/\Vals xs its.toList
noncomputable def SqT (K:PySem.W.Frag)(H:Hp)(a:Addr)(xs:List V):Prop:=
 Rd H a (.tup xs)\/
  ∃(o:Obj) (its:Array Value) (n:Nat),K.lookup a=some o/\o.cls=.type "tuple"/\o.data=.seq its n/\its.size<=sizeLine/\Vals xs its.toList
noncomputable def absV:Value->Option V
 |.none=>some .non
 |.bool b=>some (.bl b)
 |.int i _=>some (.int i)
 |.str x _=>some (.str x)
 |.bytes b _=>some (.byt b)
 |.float b _=>some (.flt b)
 |.ref a=>some (.ref a)
 |.type n=>some (.ty n)
 |_=>none
theorem RelV.abs {x:V}{u:Value}(r:RelV x u):absV u=some x:=by
 cases x with
 |non=>cases r;rfl
 |bl _=>cases r;rfl
 |int _=>obtain⟨t,rfl⟩:=r;rfl
 |str _=>obtain⟨t,rfl⟩:=r;rfl
 |byt _=>obtain⟨t,rfl⟩:=r;rfl
 |flt _=>obtain⟨t,rfl⟩:=r;rfl
 |ref _=>cases r;rfl
 |ty _=>cases r;rfl
theorem RelV.inj {x y:V}{u:Value}(r:RelV x u)(q:RelV y u):x=y:=Option.some.inj (r.abs.symm.trans q.abs)
theorem Vals.inj:∀{xs ys:List V} {us:List Value},Vals xs us->Vals ys us->xs=ys
 |_,_,_,.nil,.nil=>rfl
 |_,_,_,.cons r t,.cons r' t'=>by rw[r.inj r',Vals.inj t t']
section
variable {X:Cx} {pins:List (Addr × Obj)} {σ:St} {H:Hp} {s:Shared} {a:Addr} {xs ys:List V}
theorem SqL.of {K:PySem.W.Frag}(h:H a=some (.lst xs)):SqL K H a xs:=.inl (.inl h)
theorem SqT.of {K:PySem.W.Frag}(h:H a=some (.tup xs)):SqT K H a xs:=.inl (.inl h)
theorem Inv.list (I:Inv X pins σ H s)(h:SqL X.K H a xs):∃its:List Value,Vals xs its/\PlainL s.heap a its.toArray/\xs.length<=sizeLine:=by
 rcases h with h|⟨o,its,n,hk,hc,hd,hs,hz,r⟩
 · obtain⟨z,its,n,r,e⟩:=h.ok I.hok
   exact⟨its,r,⟨_,n,e,rfl,rfl,rfl⟩,z⟩
 · refine⟨its.toList,r,⟨o,n,I.kIn a o hk,hc,hd,by simpa using hs⟩,?_⟩
   have e:=r.length
   simp only[Array.length_toList] at e
   omega
theorem Inv.tuple (I:Inv X pins σ H s)(h:SqT X.K H a xs):∃its:List Value,Vals xs its/\IsTup s.heap a its.toArray/\xs.length<=sizeLine:=by
 rcases h with h|⟨o,its,n,hk,hc,hs,hz,r⟩
 · obtain⟨z,its,r,p⟩:=h.ok I.hok
   exact⟨its,r,p,z⟩
 · refine⟨its.toList,r,⟨o,I.kIn a o hk,hc,n,by simpa using hs⟩,?_⟩
   have e:=r.length
   simp only[Array.length_toList] at e
   omega
theorem Inv.list_inj (I:Inv X pins σ H s)(h:SqL X.K H a xs)(h':SqL X.K H a ys):xs=ys:=by
 obtain⟨its,r,⟨o,n,e,_,_,d⟩,_⟩:=I.list h
 obtain⟨its',r',⟨o',n',e',_,_,d'⟩,_⟩:=I.list h'
 rw[e] at e';cases e'
 rw[d] at d'
 injection d' with d1 _
 have:its=its':=by simpa using congrArg Array.toList d1
 subst this
 exact r.inj r'
theorem Inv.tuple_inj (I:Inv X pins σ H s)(h:SqT X.K H a xs)(h':SqT X.K H a ys):xs=ys:=by
 obtain⟨its,r,⟨o,e,_,n,d⟩,_⟩:=I.tuple h
 obtain⟨its',r',⟨o',e',_,n',d'⟩,_⟩:=I.tuple h'
 rw[e] at e';cases e'
 rw[d] at d'
 injection d' with d1 _
 have:its=its':=by simpa using congrArg Array.toList d1
 subst this
 exact r.inj r'
end
noncomputable abbrev Cx.wish (X:Cx)(E:Value->Shared->Prop):Cx:={X with xe:=E}
noncomputable abbrev Cx.nox (X:Cx):Cx:=X.wish fun _ _=>False
theorem Cx.Ok.wish {X:Cx}(ok:X.Ok)(E:Value->Shared->Prop):(X.wish E).Ok:=
 ⟨ok.mod,ok.kind,ok.glob,ok.blt,ok.above,ok.inj,ok.has,ok.cab,ok.hd,ok.frames,ok.stk,ok.exf,ok.bs,ok.bsz,ok.noex,ok.exfs,ok.funs,ok.frf⟩
theorem Cx.Ok.unwish {X:Cx}{E:Value->Shared->Prop}(ok:(X.wish E).Ok):X.Ok:=
 ⟨ok.mod,ok.kind,ok.glob,ok.blt,ok.above,ok.inj,ok.has,ok.cab,ok.hd,ok.frames,ok.stk,ok.exf,ok.bs,ok.bsz,ok.noex,ok.exfs,ok.funs,ok.frf⟩
section
variable {X:Cx} {pins:List (Addr × Obj)} {σ:St} {H:Hp} {s:Shared} {E:Value->Shared->Prop}
theorem Inv.wish (I:Inv X pins σ H s)(E:Value->Shared->Prop):Inv (X.wish E) pins σ H s:=⟨I.ok.wish E,I.os,I.bare,I.base,I.loc,I.cell,I.free,I.freeC,I.pin,I.hok,I.len⟩
theorem Inv.unwish (I:Inv (X.wish E) pins σ H s):Inv X pins σ H s:=⟨I.ok.unwish,I.os,I.bare,I.base,I.loc,I.cell,I.free,I.freeC,I.pin,I.hok,I.len⟩
theorem SP.unwish {D:Ends}{f:Flow}{s':Shared}(h:SP (X.wish E) pins D f s'):SP X pins D f s':=by
 cases f with
 |next=>obtain⟨σ',H',I,q⟩:=h;exact⟨σ',H',I.unwish,q⟩
 |brk=>obtain⟨σ',H',I,q⟩:=h;exact⟨σ',H',I.unwish,q⟩
 |cont=>obtain⟨σ',H',I,q⟩:=h;exact⟨σ',H',I.unwish,q⟩
 |ret u=>obtain⟨v,σ',H',I,r,q⟩:=h;exact⟨v,σ',H',I.unwish,r,q⟩
theorem PSs.nox {st:List Stmt}{t:TS}(h:PSs X.nox st t):PSs X st t:=fun pins s σ H D I hw=>
 wpAny_mono (h pins s σ H D (I.wish _) hw) (fun _ _ q=>q.unwish) fun _ _ z=>False.elim z
end
section
variable {X:Cx} {st:Stmt} {rest:List Stmt} {t u:TS} {e:Expr} {te:TE} {pos:Pos}
noncomputable def zmT:TS:=fun D σ H=>D.nx σ H
noncomputable def tSeq (t u:TS):TS:=fun D σ H=>t {D with nx:=u D} σ H
theorem zjP:PSs X [] zmT:=fun _ _ σ H _ I h=>wpAny_execs_nil ⟨σ,H,I,h⟩
theorem za2 (h1:PS X st t)(h2:PSs X rest u):PSs X (st::rest) (tSeq t u):=by
 intro pins s σ H D I h
 refine wpAny_execs_cons (thn (h1 pins s σ H {D with nx:=u D} I h) fun f s1 q=>?_)
 cases f with
 | next =>
   obtain⟨σ',H',I',q⟩:=q
   exact h2 pins s1 σ' H' D I' q
 |ret v=>exact q
 |brk=>exact q
 |cont=>exact q
theorem zjO (h1:PS X st t):PSs X [st] t:=by
 intro pins s σ H D I h
 refine wpAny_execs_cons (thn (h1 pins s σ H D I h) fun f s1 q=>?_)
 cases f with
 |next=>exact wpAny_execs_nil q
 |ret v=>exact q
 |brk=>exact q
 |cont=>exact q
theorem Inv.quiet {pins:List (Addr × Obj)}{σ:St}{H:Hp}{s:Shared}(I:Inv X pins σ H s):interactive X.env=false:=by simp[interactive,I.ok.kind]
noncomputable def zmU (te:TE):TS:=fun D σ H=>te σ H fun _ H1=>D.nx σ H1
theorem zjR (he:PE X e te)(hs:swapsWith e none pos.line X.env=pure false:=by rfl):PS X (.Expr e pos) (zmU te):=by
 intro pins s σ H D I h
 exact wpAny_Expr_any (thn (he pins s σ H _ I h) fun v s1 ⟨x,H1,I1,r1,q1⟩=>⟨σ,H1,I1,q1⟩) I.quiet hs
noncomputable def tRet (te:TE):TS:=fun D σ H=>te σ H D.rt
theorem ziY (he:PE X e te):PS X (.Return (some e) pos) (tRet te):=by
 intro pins s σ H D I h
 exact wpAny_Return_some (thn (he pins s σ H _ I h) fun v s1 ⟨x,H1,I1,r1,q1⟩=>⟨x,σ,H1,I1,r1,q1⟩)
noncomputable def tIfS (c:TT)(t u:TS):TS:=fun D σ H=>c σ H fun b H1=>if b=true then t D σ H1 else u D σ H1
theorem zm7 {c:Expr}{a b:List Stmt}{tc:TT}(hc:PT X c tc)(ha:PSs X a t)(hb:PSs X b u):PS X (.If c a b pos) (tIfS tc t u):=by
 intro pins s σ H D I h
 refine wpAny_If (thn (hc pins s σ H _ I h) fun d s1 ⟨H1,I1,q1⟩=>?_)
 cases d with
 |true=>exact ha pins s1 σ H1 D I1 q1
 |false=>exact hb pins s1 σ H1 D I1 q1
end
noncomputable abbrev TG:=V->St->Hp->(St->Hp->Prop)->Prop
noncomputable abbrev TGs:=List V->St->Hp->(St->Hp->Prop)->Prop
noncomputable def PG (X:Cx)(target:Expr)(t:TG):Prop:=
 ∀(pins:List (Addr × Obj)) (s:Shared) (σ:St) (H:Hp) (v:V) (u:Value) (Q:St->Hp->Prop),Inv X pins σ H s->RelV v u->t v σ H Q->
  wpAny (model X.prog X.w) X.A (assign target X.env u) (fun _ s'=>∃σ' H',Inv X pins σ' H' s'/\Q σ' H') X.xe s
noncomputable def PGs (X:Cx)(ts:List Expr)(t:TGs):Prop:=
 ∀(pins:List (Addr × Obj)) (s:Shared) (σ:St) (H:Hp) (vs:List V) (us:List Value) (Q:St->Hp->Prop),Inv X pins σ H s->Vals vs us->t vs σ H Q->
  wpAny (model X.prog X.w) X.A (assignInOrder ((assignEach ts X.env).map (·.2)) us) (fun _ s'=>∃σ' H',Inv X pins σ' H' s'/\Q σ' H') X.xe s
section
variable {X:Cx} {pos:Pos}
noncomputable def zg4 (i:Nat):TG:=fun v σ H Q=>Q (σ.set i (some v)) H
theorem zgn {i:Nat}{x:Str}(hN:X.N.Nodup)(hi:X.N[i]?=some x)(hx:Loc X.env.scope x)(hf:X.fn x=true\/X.env.scope.names.lookup x=some .local:=by first|exact .inl rfl|exact .inr rfl|assumption):PG X (.Name x pos) (zg4 i):=by
 intro pins s σ H v u Q I r h
 exact wpAny_assign_Name (zc8 I hN hi hx r (fun s' I'=>⟨_,H,I',h⟩) hf)
noncomputable def gNil:TGs:=fun vs σ H Q=>vs=[]/\Q σ H
noncomputable def znw (t:TG)(u:TGs):TGs:=fun vs σ H Q=>∃v r,vs=v::r/\t v σ H fun σ' H'=>u r σ' H' Q
theorem zjV:PGs X [] gNil:=by
 intro pins s σ H vs us Q I r h
 obtain⟨e,h⟩:=h
 subst e
 cases r
 exact assignInOrder_nil ⟨σ,H,I,h⟩
theorem zhW {e:Expr}{es:List Expr}{t:TG}{u:TGs}(h1:PG X e t)(h2:PGs X es u)
  (hs:(assignEach (e::es) X.env).map (·.2)=assign e X.env::(assignEach es X.env).map (·.2):=by rfl):PGs X (e::es) (znw t u):=by
 intro pins s σ H vs us Q I r h
 obtain⟨v,vr,e1,h⟩:=h
 subst e1
 cases r with
 | cons r rr =>
   rw[hs]
   refine assignInOrder_cons (thn (h1 pins s σ H _ _ _ I r h) fun _ s1 ⟨σ1,H1,I1,q1⟩=>?_)
   exact h2 pins s1 σ1 H1 _ _ Q I1 rr q1
noncomputable def gTup (K:PySem.W.Frag)(n:Nat)(t:TGs):TG:=fun v σ H Q=>∃a xs,v=.ref a/\SqT K H a xs/\xs.length=n/\t xs σ H Q
theorem zlC {es:List Expr}{k:Nat}{t:TGs}{n:Nat}(hc:X.calm=true)(h:PGs X es t)
  (hn:(assignEach es X.env).length=n:=by rfl) (hst:(assignEach es X.env).findIdx? (·.1)=none:=by rfl):PG X (.Tuple es k pos) (gTup X.K n t):=by
 intro pins s σ H v u Q I r hw
 obtain⟨a,xs,e1,hq,hl,hw⟩:=hw
 subst e1
 cases r
 obtain⟨its,rv,ht,hz⟩:=I.tuple hq
 refine assign_Tuple_tuple (I.ok.hd hc) ht (by simp[hn,<-hl,rv.length]) hst fun h' hx=>?_
 have I1:Inv X pins σ H {s with heap:=h'}:=I.kept (t':=s.toks) fun b o e=>hx b o (Nat.ne_of_lt (Heap.lt_size e)) e
 exact h pins _ σ H xs _ Q I1 (by simpa using rv) hw
noncomputable def tAsg (te:TE)(g:TG):TS:=fun D σ H=>te σ H fun x H1=>g x σ H1 D.nx
theorem zlz {tg e:Expr}{te:TE}{g:TG}(he:PE X e te)(hg:PG X tg g)(hs:swapsWithSole [tg] e pos.line X.env=pure false:=by rfl)(hw:swappedStores [tg] e X.env=pure none:=by rfl)
  (h1:(assignEach [tg] X.env).map (·.2)=[assign tg X.env]:=by rfl):PS X (.Assign [tg] e pos) (tAsg te g):=by
 intro pins s σ H D I h
 refine wpAny_Assign_stores (thn (he pins s σ H _ I h) fun v s1 ⟨x,H1,I1,r1,q1⟩=>?_) hs hw
 rw[h1]
 exact thn (hg pins s1 σ H1 x v _ I1 r1 q1) fun _ s2 q=>q
theorem ziX {i:Nat}{x:Str}{e:Expr}{te:TE}{pos':Pos}(hN:X.N.Nodup)(hi:X.N[i]?=some x)(hx:Loc X.env.scope x)(he:PE X e te)(hs:swapsWith e (some (.Name x pos')) pos.line X.env=pure false:=by rfl)(hf:X.fn x=true\/X.env.scope.names.lookup x=some .local:=by first|exact .inl rfl|exact .inr rfl|assumption) :
  PS X (.Assign [.Name x pos'] e pos) (tAsg te (zg4 i)):=by
 intro pins s σ H D I h
 refine wpAny_Assign_Name (thn (he pins s σ H _ I h) fun v s1 ⟨y,H1,I1,r1,q1⟩=>?_) hs
 exact zc8 I1 hN hi hx r1 (fun s2 I2=>⟨_,H1,I2,q1⟩) hf
end
section
variable {X:Cx} {pos:Pos}
end
structure It where
 go:Nat->Hp->Prop
 yld:Nat->Hp->V->Hp->Prop
 stop:Nat->Hp->Prop
noncomputable def FpOk (X:Cx)(pins:List (Addr × Obj))(H:Hp)(b:Addr):Prop:=
 H b=none/\b≠X.env.locals/\b∉X.fs/\(b∈X.ex\/X.s₀.heap.objs.size<=b)/\(∀x c,X.env.cells.lookup x=some c->c≠b)/\∀p∈X.pn++pins,p.1≠b
theorem Inv.fpOk {X:Cx}{pins:List (Addr × Obj)}{σ:St}{H H':Hp}{s:Shared}{b:Addr}(I:Inv X pins σ H s)(hb:s.heap.objs.size<=b)(hn:H' b=none):FpOk X pins H' b:=by
 refine⟨hn,Nat.ne_of_gt (Nat.lt_of_lt_of_le I.lt hb),I.nofs hb,.inr (Nat.le_trans I.sz hb),fun x c e z=>?_,fun p hp z=>?_⟩
 · obtain⟨v,q⟩:=I.cell x c e
   exact absurd (Nat.lt_of_lt_of_le q.lt (by rw[z];exact hb)) (Nat.lt_irrefl _)
 · exact absurd (Nat.lt_of_lt_of_le (Heap.lt_size (I.pin p hp).1) (by rw[z];exact hb)) (Nat.lt_irrefl _)
structure Turn (P:Program) (w:World) (K:PySem.W.Frag) (tg:Expr) (J:It) (fp:List Addr) (it:Addr) (tn:Nat->Heap->Prop):Prop where
 mem:it∈fp
 obj:∀i h,tn i h->∀b∈fp,∃o,h.get? b=some o/\∀v,o.data≠.cell v
 keep:∀i h h',tn i h->(∀b∈fp,∀o,h.get? b=some o->h'.get? b=some o)->tn i h'
 item:∀(X:Cx),X.prog=P->X.w=w->X.K=K->X.calm=true->∀(i:Nat) (pins:List (Addr × Obj)) (s:Shared) (σ:St) (H:Hp) (E:Value->Shared->Prop),Inv X pins σ H s->(∀b∈fp,FpOk X pins H b)->tn i s.heap->J.go i H->
  wpAny (model P w) X.A (pyNext (.ref it)) (fun r s1=>∃u,r=some u/\
   wpAny (model P w) X.A (letOwnedTupleGo tg (.ref it) u) (fun _ s2=>∃x H',Inv X pins σ H' s2/\RelV x u/\J.yld i H x H'/\tn (i+1) s2.heap/\∀b∈fp,H' b=none) E s1) E s
 done:∀(X:Cx),X.prog=P->X.w=w->X.K=K->X.calm=true->∀(i:Nat) (pins:List (Addr × Obj)) (s:Shared) (σ:St) (H:Hp) (E:Value->Shared->Prop),Inv X pins σ H s->(∀b∈fp,FpOk X pins H b)->tn i s.heap->J.stop i H->
  wpAny (model P w) X.A (pyNext (.ref it)) (fun r s1=>r=none/\Inv X pins σ H s1) E s
 self:∀(A:Around) (i:Nat) (s:Shared) (Q:Value->Shared->Prop) (E:Value->Shared->Prop),tn i s.heap->Q (.ref it) s->wpAny (model P w) A (pyIter (.ref it)) Q E s
noncomputable abbrev TI:=St->Hp->(It->Hp->Prop)->Prop
noncomputable def PIE (X:Cx)(pins:List (Addr × Obj))(σ:St)(tg:Expr)(R:It->Hp->Prop)(itv:Value)(s2:Shared):Prop:=
 ∃(it:Addr) (fp:List Addr) (tn:Nat->Heap->Prop) (J:It) (H':Hp),itv=.ref it/\Inv X pins σ H' s2/\Turn X.prog X.w X.K tg J fp it tn/\tn 0 s2.heap/\(∀b∈fp,FpOk X pins H' b)/\R J H'
noncomputable def PI (X:Cx)(tg iter:Expr)(wi:TI):Prop:=
 ∀(pins:List (Addr × Obj)) (s:Shared) (σ:St) (H:Hp) (R:It->Hp->Prop),Inv X pins σ H s->wi σ H R->
  wpAny (model X.prog X.w) X.A (eval iter X.env) (fun v s1=>wpAny (model X.prog X.w) X.A (pyIter v) (PIE X pins σ tg R) X.xe s1) X.xe s
theorem zkl {M:Model}{A:Around}{E:Value->Shared->Prop}{s:Shared}{tg:Expr}{it:Addr}{u:Value}{o:Obj}{n:String}{vs:Array Value}{Q:Unit->Shared->Prop}(ho:s.heap.get? it=some o)(hc:o.cls=.type n)(hd:o.data=.fields vs)
  (hn:["enumerate","zip","dict_itemiterator","dict_reverseitemiterator","odict_iterator","itertools.zip_longest","itertools.pairwise"].contains n=false) (hQ:Q () s):wpAny M A (letOwnedTupleGo tg (.ref it) u) Q E s:=by
 unfold letOwnedTupleGo
 cases tg<;>first
  |exact wpAny_pure hQ
  |(cases u<;>first
   |exact wpAny_pure hQ
   | (refine wpAny_bind (wpAny_load ho ?_)
      rw[hc,hd]
      show wpAny M A (if (["enumerate","zip","dict_itemiterator","dict_reverseitemiterator","odict_iterator","itertools.zip_longest","itertools.pairwise"].contains n&&vs[0]? == some (rawInt _))=true then _ else _) Q E s
      rw[if_neg (by intro h;rw[hn,Bool.false_and] at h;cases h)]
      exact wpAny_pure hQ))
noncomputable def Itl (K:PySem.W.Frag)(a:Addr):It:=
 ⟨fun i H=>∃xs x,SqL K H a xs/\xs[i]?=some x,fun i H x H'=>H'=H/\∀xs,SqL K H a xs->xs[i]?=some x,fun i H=>∃xs,SqL K H a xs/\xs.length<=i⟩
noncomputable def Itt (K:PySem.W.Frag)(a:Addr):It:=
 ⟨fun i H=>∃xs x,SqT K H a xs/\xs[i]?=some x,fun i H x H'=>H'=H/\∀xs,SqT K H a xs->xs[i]?=some x,fun i H=>∃xs,SqT K H a xs/\xs.length<=i⟩
noncomputable def Itr (lo:Int)(n:Nat):It:=⟨fun i _=>i<n,fun i H x H'=>H'=H/\x=.int (lo+i),fun i _=>n<=i⟩
theorem zf1 {P:Program}{w:World}{K:PySem.W.Frag}{tg:Expr}(a it:Addr):Turn P w K tg (Itl K a) [it] it (fun i h=>h.IsListIter it a i) where
 mem:=by simp
 obj:=fun i h st b hb=>by
  have e:b=it:=by simpa using hb
  subst e
  obtain⟨o,e,c,d⟩:=st
  exact⟨o,e,fun v z=>by rw[d] at z;cases z⟩
 keep:=fun i h h' st k=>st.at fun o e=>k it (by simp) o e
 item:=by
  intro X hP hw hK hc i pins s σ H E I hf st hg
  subst hP hw hK
  obtain⟨xs,x,hq,hx⟩:=hg
  obtain⟨its,rv,p,hz⟩:=I.list hq
  obtain⟨u,hu,ru⟩:=rv.get hx
  obtain⟨f0,f1,f2,f3,f4,f5⟩:=hf it (by simp)
  refine wpAny_pyNext_list_item st p.isList (x:=u) (by simpa using hu) fun h' st' sb=>?_
  have I1:Inv X pins σ H {s with heap:=h'}:=I.turned (t':=s.toks) (fun b o hb e=>(sb.2 b hb).trans e) f0 f1 f3 f4 f5
  obtain⟨o,e,c,d⟩:=id st'
  exact⟨u,rfl,zkl (s:={s with heap:=h'}) e c d (by decide) ⟨x,H,I1,ru,⟨rfl,fun ys hy=>by rw[I.list_inj hy hq];exact hx⟩,st',fun b hb=>(hf b hb).1⟩⟩
 done:=by
  intro X hP hw hK hc i pins s σ H E I hf st hg
  subst hP hw hK
  obtain⟨xs,hq,hx⟩:=hg
  obtain⟨its,rv,p,hz⟩:=I.list hq
  obtain⟨f0,f1,f2,f3,f4,f5⟩:=hf it (by simp)
  have hl:=rv.length
  exact wpAny_pyNext_list_end (I.ok.hd hc) st p.isList (by simp;omega) fun h' eb=>⟨rfl,I.turned (t':=s.toks) (fun b o hb e=>eb b o hb e) f0 f1 f3 f4 f5⟩
 self:=fun _ _ _ _ _ st h=>wpAny_pyIter_listiter st h
theorem zfy {P:Program}{w:World}{K:PySem.W.Frag}{tg:Expr}(a it:Addr):Turn P w K tg (Itt K a) [it] it (fun i h=>h.IsTupleIter it a i) where
 mem:=by simp
 obj:=fun i h st b hb=>by
  have e:b=it:=by simpa using hb
  subst e
  obtain⟨o,e,c,d⟩:=st
  exact⟨o,e,fun v z=>by rw[d] at z;cases z⟩
 keep:=fun i h h' st k=>st.at fun o e=>k it (by simp) o e
 item:=by
  intro X hP hw hK hc i pins s σ H E I hf st hg
  subst hP hw hK
  obtain⟨xs,x,hq,hx⟩:=hg
  obtain⟨its,rv,p,hz⟩:=I.tuple hq
  obtain⟨u,hu,ru⟩:=rv.get hx
  obtain⟨f0,f1,f2,f3,f4,f5⟩:=hf it (by simp)
  refine wpAny_pyNext_tuple_item st (show s.heap.IsTuple a its.toArray from p) (x:=u) (by simpa using hu) fun h' st' sb=>?_
  have I1:Inv X pins σ H {s with heap:=h'}:=I.turned (t':=s.toks) (fun b o hb e=>(sb.2 b hb).trans e) f0 f1 f3 f4 f5
  obtain⟨o,e,c,d⟩:=id st'
  exact⟨u,rfl,zkl (s:={s with heap:=h'}) e c d (by decide) ⟨x,H,I1,ru,⟨rfl,fun ys hy=>by rw[I.tuple_inj hy hq];exact hx⟩,st',fun b hb=>(hf b hb).1⟩⟩
 done:=by
  intro X hP hw hK hc i pins s σ H E I hf st hg
  subst hP hw hK
  obtain⟨xs,hq,hx⟩:=hg
  obtain⟨its,rv,p,hz⟩:=I.tuple hq
  obtain⟨f0,f1,f2,f3,f4,f5⟩:=hf it (by simp)
  have hl:=rv.length
  exact wpAny_pyNext_tuple_end (I.ok.hd hc) st (show s.heap.IsTuple a its.toArray from p) (by simp;omega) fun h' eb=>⟨rfl,I.turned (t':=s.toks) (fun b o hb e=>eb b o hb e) f0 f1 f3 f4 f5⟩
 self:=fun _ _ _ _ _ st h=>wpAny_pyIter_tupleiter st h
theorem zfz {P:Program}{w:World}{K:PySem.W.Frag}{tg:Expr}(it:Addr)(lo:Int)(n:Nat):Turn P w K tg (Itr lo n) [it] it (fun i h=>IsRangeIter h it (lo+(i:Nat) * 1) ((n:Int) - (i:Nat)) 1) where
 mem:=by simp
 obj:=fun i h st b hb=>by
  have e:b=it:=by simpa using hb
  subst e
  exact⟨_,st,fun v z=>by
   have z':Data.fields _=Data.cell v:=z
   cases z'⟩
 keep:=fun i h h' st k=>k it (by simp) _ st
 item:=by
  intro X hP hw hK hc i pins s σ H E I hf st hg
  subst hP hw hK
  obtain⟨f0,f1,f2,f3,f4,f5⟩:=hf it (by simp)
  have W:=Walks.range (prog:=X.prog) (w:=X.w) (I.ok.hd hc) it lo 1 n
  refine W.item i s _ _ hg st fun v h' tk hv st' kk=>?_
  obtain⟨t,rfl⟩:=hv
  have I1:Inv X pins σ H {s with heap:=h',toks:=tk}:=I.turned (fun b o hb e=>kk b o (by simpa using hb) e) f0 f1 f3 f4 f5
  refine⟨_,rfl,zkl (s:={s with heap:=h',toks:=tk}) (n:="range_iterator") st' rfl rfl (by decide) ⟨.int (lo+i),H,I1,⟨t,?_⟩,⟨rfl,rfl⟩,st',fun b hb=>(hf b hb).1⟩⟩
  rw[Int.mul_one]
 done:=by
  intro X hP hw hK hc i pins s σ H E I hf st hg
  subst hP hw hK
  obtain⟨f0,f1,f2,f3,f4,f5⟩:=hf it (by simp)
  exact wpAny_pyNext_range_end (I.ok.hd hc) st (by have:n<=i:=hg;omega) fun h' eb=>⟨rfl,I.turned (t':=s.toks) (fun b o hb e=>eb b o hb e) f0 f1 f3 f4 f5⟩
 self:=fun _ _ _ _ _ st h=>wpAny_pyIter_rangeiter st h
end L2
namespace L2
open PySem PySem.Spec PyProof.Rows
section
variable {X:Cx} {tg:Expr}
theorem zhO {pins:List (Addr × Obj)}{σ:St}{H:Hp}{s:Shared}{R:It->Hp->Prop}{E:Value->Shared->Prop}{lo hi:Int}{t u v:Tok}{tk:Nat}(I:Inv X pins σ H s)(h1:-(2 ^ 62)<=lo)(h2:lo<2 ^ 62)(h3:-(2 ^ 62)<=hi)(h4:hi<2 ^ 62)
  (q:R (Itr lo (hi - lo).toNat) H):wpAny (model X.prog X.w) X.A (pyIter (.ref s.heap.objs.size)) (PIE X pins σ tg R) E {s with heap:=s.heap.push {cls:=.type "range",data:=.fields #[.int lo t,.int hi u,.int 1 v]},toks:=tk}:=by
 refine wpAny_pyIter_range (IsRange.new ..) (small_one h1 h2 h3 h4) ?_
 have I1:Inv X pins σ H {s with heap:=s.heap.push {cls:=.type "range",data:=.fields #[.int lo t,.int hi u,.int 1 v]},toks:=tk}:=I.kept fun b o e=>Heap.get?_push_of_some _ e
 refine⟨(s.heap.push {cls:=.type "range",data:=.fields #[.int lo t,.int hi u,.int 1 v]}).objs.size,[(s.heap.push {cls:=.type "range",data:=.fields #[.int lo t,.int hi u,.int 1 v]}).objs.size],_,_,H,rfl,
  I1.kept (t':=tk) fun b o e=>Heap.get?_push_of_some _ e,zfz _ lo (hi - lo).toNat,?_,fun b hb=>?_,q⟩
 · have e1:lo+((0:Nat):Int) * 1=lo:=by simp
   have e2:(((hi - lo).toNat:Nat):Int) - ((0:Nat):Int)=Builtin.Range.rangeSize lo hi 1:=by rw[rangeSize_one];split<;>omega
   show IsRangeIter _ _ (lo+((0:Nat):Int) * 1) ((((hi - lo).toNat:Nat):Int) - ((0:Nat):Int)) 1
   rw[e1,e2]
   exact Heap.get?_push_size _ rfl
 · have e:b=(s.heap.push {cls:=.type "range",data:=.fields #[.int lo t,.int hi u,.int 1 v]}).objs.size:=by simpa using hb
   subst e
   exact I1.fpOk (Nat.le_refl _) (I1.hok.fresh (Nat.le_refl _))
noncomputable def znv (ta:TA):TI:=fun σ H R=>ta σ H fun vs H1=>∃j:Int,vs=[.int j]/\-(2 ^ 62)<=j/\j<2 ^ 62/\R (Itr 0 j.toNat) H1
theorem zgm {a:Expr}{ta:TA}{p pos:Pos}(hg:Gl X "range")(hm:X.mg "range"=none)(ha:PA X [a] ta)(hs:starEach [a] X.env=[(false,eval a X.env)]:=by rfl):PI X tg (.Call (.Name "range" p) [a] [] pos) (znv ta):=by
 intro pins s σ H R I h
 refine Call_ (zdT I hg hm boot_range (PyProof.Rows.callWith_type1 (thn (ha pos pins s σ H _ I h) fun us s1 ⟨vs,H1,I1,r1,q1⟩=>?_) hs rfl))
 obtain⟨j,e,q1,q2,q⟩:=q1
 subst e
 cases r1 with
 | cons r rr =>
   cases rr
   obtain⟨t,rfl⟩:=r
   exact call_range_1 (zhO I1 (by omega) (by omega) q1 q2 (by simpa using q))
noncomputable def tFor (wi:TI)(g:TG)(tb:TS):TS:=fun D σ H=>wi σ H fun J H1=>∃W:Nat->Nat->St->Hp->Prop,(∃m,W 0 m σ H1)/\∀i m σ H,W i m σ H->
 (J.stop i H/\D.nx σ H)\/(J.go i H/\∃N:St->Hp->Prop,(∀σ' H',N σ' H'->∃m',m'<m/\W (i+1) m' σ' H')/\∀x H',J.yld i H x H'->g x σ H' fun σ2 H2=>tb {D with nx:=N,ct:=N,bk:=D.nx} σ2 H2)
noncomputable def zdN (fp:List Addr)(h:Heap):List (Addr × Obj):=fp.filterMap fun b=>(h.get? b).map fun o=>(b,o)
theorem zbA {fp:List Addr}{h:Heap}{b:Addr}{o:Obj}(hb:b∈fp)(e:h.get? b=some o):(b,o)∈zdN fp h:=List.mem_filterMap.mpr ⟨b,hb,by rw[e];rfl⟩
theorem zgr {fp:List Addr}{h:Heap}{p:Addr × Obj}(hp:p∈zdN fp h):p.1∈fp/\h.get? p.1=some p.2:=by
 obtain⟨b,hb,e⟩:=List.mem_filterMap.mp hp
 cases q:h.get? b with
 |none=>rw[q] at e;cases e
 | some o =>
   rw[q] at e
   have e':(b,o)=p:=Option.some.inj e
   subst e'
   exact⟨hb,q⟩
theorem Inv.pinned {pins:List (Addr × Obj)}{σ:St}{H:Hp}{s:Shared}{fp:List Addr}(I:Inv X pins σ H s)(hf:∀b∈fp,FpOk X pins H b)(ho:∀b∈fp,∃o,s.heap.get? b=some o/\∀v,o.data≠.cell v):Inv X (pins++zdN fp s.heap) σ H s:=
 I.pins_of fun p hp=>(List.mem_append.mp hp).elim (fun z=>I.pin p (List.mem_append_right _ z)) fun z=>by
  obtain⟨hb,e⟩:=zgr z
  obtain⟨f0,f1,f2,_⟩:=hf p.1 hb
  obtain⟨o,e',d⟩:=ho p.1 hb
  rw[e] at e';cases e'
  exact⟨e,f0,f1,f2,d⟩
theorem Inv.unpinned {pins pl:List (Addr × Obj)}{σ:St}{H:Hp}{s:Shared}(I:Inv X (pins++pl) σ H s):Inv X pins σ H s:=I.pins_of fun p hp=>I.pin p (List.mem_append_right _ (List.mem_append_left _ hp))
theorem zly {iter:Expr}{body:List Stmt}{wi:TI}{g:TG}{tb:TS}{pos:Pos}(hp:PassesOwn (model X.prog X.w) X.A X.env X.xe)(hc:X.calm=true)(hi:PI X tg iter wi)(hg:PG X tg g)(hb:PSs X body tb)
  (hs:∀x,foldedSetIterable iter X.env x=pure x:=by intro _;rfl):PS X (.For tg iter body [] pos) (tFor wi g tb):=by
 intro pins s σ H D I h
 refine wpAny_For (thn (hi pins s σ H _ I h) fun v s1 h1=>thn h1 fun itv s2 h2=>?_) hs
 obtain⟨it,fp,tn,J,H2,e,I2,T,st2,f2,W,⟨m0,w0⟩,turn⟩:=h2
 subst e
 -- what stays true of the iterator's objects through the loop
 have stat:∀{H':Hp},(∀b∈fp,H' b=none)->∀b∈fp,FpOk X pins H' b:=fun hn b hb=>⟨hn b hb,(f2 b hb).2⟩
 refine codeAny_forLoop_any (fun n s'=>∃i σ' H',Inv X pins σ' H' s'/\tn i s'.heap/\(∀b∈fp,H' b=none)/\W i n σ' H') ?_ m0 ⟨0,σ,H2,I2,st2,fun b hb=>(f2 b hb).1,w0⟩
 rintro n s3 ⟨i,σ3,H3,I3,st3,fr3,w3⟩
 rcases turn i n σ3 H3 w3 with ⟨stop,qn⟩|⟨go,N,hN,step⟩
 · refine wpAny_passesOwn hp (thn (T.done X rfl rfl rfl hc i pins s3 σ3 H3 X.xe I3 (stat fr3) st3 stop) fun r s4 ⟨hr,I4⟩=>?_)
   subst hr
   exact wpAny_execs_nil ⟨σ3,H3,I4,qn⟩
 · refine wpAny_passesOwn hp (thn (T.item X rfl rfl rfl hc i pins s3 σ3 H3 X.xe I3 (stat fr3) st3 go) fun r s4 ⟨u,hr,h4⟩=>?_)
   subst hr
   refine wpAny_passesOwn hp (thn h4 fun _ s5 ⟨x,H5,I5,r5,y5,st5,fr5⟩=>?_)
   have I5':=I5.pinned (stat fr5) (T.obj _ _ st5)
   refine wpAny_passesOwn hp (thn (hg _ s5 σ3 H5 x u _ I5' r5 (step x H5 y5)) fun _ s6 ⟨σ6,H6,I6,q6⟩=>?_)
   refine wpAny_passesOwn hp (thn (hb _ s6 σ6 H6 _ I6 q6) fun f s7 q7=>?_)
   have again:∀{σ7:St} {H7:Hp},Inv X (pins++zdN fp s5.heap) σ7 H7 s7->N σ7 H7->∃m,m<n/\∃i σ' H',Inv X pins σ' H' s7/\tn i s7.heap/\(∀b∈fp,H' b=none)/\W i m σ' H':=fun {σ7 H7} I7 n7=>by
    obtain⟨m',hm,w7⟩:=hN σ7 H7 n7
    refine⟨m',hm,i+1,σ7,H7,I7.unpinned,T.keep _ _ _ st5 fun b hb o e=>(I7.pin (b,o) (List.mem_append_right _ (List.mem_append_right _ (zbA hb e)))).1,fun b hb=>?_,w7⟩
    obtain⟨o,e,d⟩:=T.obj _ _ st5 b hb
    exact (I7.pin (b,o) (List.mem_append_right _ (List.mem_append_right _ (zbA hb e)))).2.1
   cases f with
   |next=>obtain⟨σ7,H7,I7,n7⟩:=q7;exact again I7 n7
   |cont=>obtain⟨σ7,H7,I7,n7⟩:=q7;exact again I7 n7
   |brk=>obtain⟨σ7,H7,I7,q7⟩:=q7;exact⟨σ7,H7,I7.unpinned,q7⟩
   |ret v=>obtain⟨x7,σ7,H7,I7,r7,q7⟩:=q7;exact⟨x7,σ7,H7,I7.unpinned,r7,q7⟩
end
end L2
namespace L2
open PySem PySem.Spec PyProof.Rows
noncomputable abbrev R2:=V->V->Hp->VK->Prop
noncomputable def OpR (X:Cx)(f:Value->Value->Sem Value)(r:R2):Prop:=
 ∀(pins:List (Addr × Obj)) (s:Shared) (σ:St) (H:Hp) (x y:V) (v u:Value) (Q:VK),Inv X pins σ H s->RelV x v->RelV y u->r x y H Q->
  wpAny (model X.prog X.w) X.A (f v u) (EP X pins σ Q) X.xe s
noncomputable def UnR (X:Cx)(f:Value->Sem Value)(r:V->Hp->VK->Prop):Prop:=
 ∀(pins:List (Addr × Obj)) (s:Shared) (σ:St) (H:Hp) (x:V) (v:Value) (Q:VK),Inv X pins σ H s->RelV x v->r x H Q->
  wpAny (model X.prog X.w) X.A (f v) (EP X pins σ Q) X.xe s
noncomputable def zbc (X:Cx)(f:Value)(r:List V->Hp->VK->Prop):Prop:=
 ∀(pins:List (Addr × Obj)) (s:Shared) (σ:St) (H:Hp) (xs:List V) (us:List Value) (Q:VK),Inv X pins σ H s->Vals xs us->r xs H Q->
  wpAny (model X.prog X.w) X.A (call f us) (EP X pins σ Q) X.xe s
noncomputable def TruR (X:Cx)(r:V->Hp->(Bool->Hp->Prop)->Prop):Prop:=
 ∀(pins:List (Addr × Obj)) (s:Shared) (σ:St) (H:Hp) (x:V) (v:Value) (Q:Bool->Hp->Prop),Inv X pins σ H s->RelV x v->r x H Q->
  wpAny (model X.prog X.w) X.A (truthy v) (TP X pins σ Q) X.xe s
noncomputable def tOp (r:R2)(ta tb:TE):TE:=fun σ H Q=>ta σ H fun x H1=>tb σ H1 fun y H2=>r x y H2 Q
noncomputable def tUn (r:V->Hp->VK->Prop)(ta:TE):TE:=fun σ H Q=>ta σ H fun x H1=>r x H1 Q
noncomputable def rI (C:Int->Int->Prop)(g:Int->Int->V):R2:=fun x y H Q=>∃i j,x=.int i/\y=.int j/\C i j/\Q (g i j) H
noncomputable def rI0 (g:Int->Int->V):R2:=fun x y H Q=>∃i j,x=.int i/\y=.int j/\Q (g i j) H
noncomputable def rU (g:Int->V):V->Hp->VK->Prop:=fun x H Q=>∃i,x=.int i/\Q (g i) H
section
variable {X:Cx} {a b c:Expr} {ta tb tc:TE} {pos:Pos}
theorem binT (ha:PE X a ta)(hb:PE X b tb){pins:List (Addr × Obj)}{s:Shared}{σ:St}{H:Hp}{R:V->V->Hp->Prop}(I:Inv X pins σ H s)
  (h:ta σ H fun x H1=>tb σ H1 fun y H2=>R x y H2) {Q:Value->Shared->Prop} {f:Value->Value->Sem Value}
  (hf:∀v u s2 x y H2,Inv X pins σ H2 s2->RelV x v->RelV y u->R x y H2->wpAny (model X.prog X.w) X.A (f v u) Q X.xe s2) :
  wpAny (model X.prog X.w) X.A (eval a X.env) (fun v s₁=>wpAny (model X.prog X.w) X.A (eval b X.env) (fun u s₂=>wpAny (model X.prog X.w) X.A (f v u) Q X.xe s₂) X.xe s₁) X.xe s:=by
 refine thn (ha pins s σ H _ I h) fun v s1 ⟨x,H1,I1,r1,q1⟩=>?_
 refine thn (hb pins s1 σ H1 _ I1 q1) fun u s2 ⟨y,H2,I2,r2,q2⟩=>?_
 exact hf v u s2 x y H2 I2 r1 r2 q2
theorem zna {op:Operator}{r:R2}(ho:OpR X (binaryOp op) r)(ha:PE X a ta)(hb:PE X b tb):PE X (.BinOp a op b pos) (tOp r ta tb):=by
 intro pins s σ H Q I h
 exact wpAny_BinOp (binT ha hb I h fun v u s2 x y H2 I2 rx ry q=>ho pins s2 σ H2 x y v u Q I2 rx ry q)
theorem zm8 {op:UnaryOp}{r:V->Hp->VK->Prop}(ho:UnR X (unaryOp op) r)(ha:PE X a ta):PE X (.UnaryOp op a pos) (tUn r ta):=by
 intro pins s σ H Q I h
 exact UnaryOp_ (thn (ha pins s σ H _ I h) fun v s1 ⟨x,H1,I1,r1,q1⟩=>ho pins s1 σ H1 x v Q I1 r1 q1)
theorem opI {f:Value->Value->Sem Value}{C:Int->Int->Prop}{g:Int->Int->Int}
  (rule:∀(i j:Int) (t u:Tok) (s:Shared) (Q:Value->Shared->Prop) (E:Value->Shared->Prop),C i j->Q (.int (g i j) s.toks) {s with toks:=s.toks+1}->wpAny (model X.prog X.w) X.A (f (.int i t) (.int j u)) Q E s) :
  OpR X f (rI C fun i j=>.int (g i j)):=by
 intro pins s σ H x y v u Q I rx ry h
 obtain⟨i,j,rfl,rfl,hc,q⟩:=h
 obtain⟨t,rfl⟩:=rx
 obtain⟨t',rfl⟩:=ry
 exact rule i j t t' s _ _ hc ⟨.int (g i j),H,I.tok _,⟨_,rfl⟩,q⟩
theorem opI0 {f:Value->Value->Sem Value}{g:Int->Int->Int}
  (rule:∀(i j:Int) (t u:Tok) (s:Shared) (Q:Value->Shared->Prop) (E:Value->Shared->Prop),Q (.int (g i j) s.toks) {s with toks:=s.toks+1}->wpAny (model X.prog X.w) X.A (f (.int i t) (.int j u)) Q E s) :
  OpR X f (rI0 fun i j=>.int (g i j)):=by
 intro pins s σ H x y v u Q I rx ry h
 obtain⟨i,j,rfl,rfl,q⟩:=h
 obtain⟨t,rfl⟩:=rx
 obtain⟨t',rfl⟩:=ry
 exact rule i j t t' s _ _ ⟨.int (g i j),H,I.tok _,⟨_,rfl⟩,q⟩
theorem opB0 {f:Value->Value->Sem Value}{g:Int->Int->Bool}
  (rule:∀(i j:Int) (t u:Tok) (s:Shared) (Q:Value->Shared->Prop) (E:Value->Shared->Prop),Q (.bool (g i j)) s->wpAny (model X.prog X.w) X.A (f (.int i t) (.int j u)) Q E s) :
  OpR X f (rI0 fun i j=>.bl (g i j)):=by
 intro pins s σ H x y v u Q I rx ry h
 obtain⟨i,j,rfl,rfl,q⟩:=h
 obtain⟨t,rfl⟩:=rx
 obtain⟨t',rfl⟩:=ry
 exact rule i j t t' s _ _ ⟨.bl (g i j),H,I,rfl,q⟩
noncomputable def CDiv (i j:Int):Prop:=0<j/\j<1073741824
noncomputable def CPow (i j:Int):Prop:=0<=j/\j<=1000000/\i.natAbs<2 ^ 64
noncomputable def CMul (i j:Int):Prop:=(-(2 ^ 64)<i/\i<2 ^ 64)\/(-(2 ^ 64)<j/\j<2 ^ 64)
theorem CMul.ok {i j:Int}(h:CMul i j):IntMulOk i j:=by
 rcases h with ⟨h1,h2⟩|⟨h1,h2⟩
 · exact .of_left (intBits_le_64 h1 h2)
 · exact .of_right (intBits_le_64 h1 h2)
theorem zlZ:OpR X (binaryOp .Add) (rI0 fun i j=>.int (i+j)):=opI0 fun _ _ _ _ _ _ _ q=>add_int q
theorem zlQ:OpR X (binaryOp .Sub) (rI0 fun i j=>.int (i - j)):=opI0 fun _ _ _ _ _ _ _ q=>sub_int q
theorem zlT:OpR X (binaryOp .Mult) (rI CMul fun i j=>.int (i * j)):=opI fun _ _ _ _ _ _ _ hc q=>mul_int q hc.ok
theorem zj2:OpR X (binaryOp .FloorDiv) (rI CDiv fun i j=>.int (i / j)):=opI fun i j _ _ _ _ _ hc q=>by
 have h1:(0:Int)<j:=hc.1
 have h2:j<1073741824:=hc.2
 exact floordiv_int (by omega) (by rw[Int.fdiv_eq_ediv_of_nonneg i (by omega)];exact q) (.inl (PyProof.noPylong_small (by omega)))
theorem zlU:OpR X (binaryOp .Mod) (rI (fun _ j=>0<j) fun i j=>.int (i % j)):=opI fun i j _ _ _ _ _ hc q=>by
 have h1:(0:Int)<j:=hc
 exact mod_int' (by omega) (by rw[Int.fmod_eq_emod_of_nonneg i (by omega)];exact q)
theorem zlR:OpR X (binaryOp .Pow) (rI CPow fun i j=>.int (i ^ j.toNat)):=opI fun _ _ _ _ _ _ _ hc q=>pow_int_small hc.1 hc.2.1 hc.2.2 q
theorem unI {f:Value->Sem Value}{g:Int->Int}
  (rule:∀(i:Int) (t:Tok) (s:Shared) (Q:Value->Shared->Prop) (E:Value->Shared->Prop),Q (.int (g i) s.toks) {s with toks:=s.toks+1}->wpAny (model X.prog X.w) X.A (f (.int i t)) Q E s) :
  UnR X f (rU fun i=>.int (g i)):=by
 intro pins s σ H x v Q I rx h
 obtain⟨i,rfl,q⟩:=h
 obtain⟨t,rfl⟩:=rx
 exact rule i t s _ _ ⟨.int (g i),H,I.tok _,⟨_,rfl⟩,q⟩
theorem zkT:UnR X (unaryOp .USub) (rU fun i=>.int (-i)):=unI fun _ _ _ _ _ q=>neg_int q
end
noncomputable def scal:V->V->Bool
 |.non,.non=>true|.non,.int _=>true|.int _,.non=>true|.non,.bl _=>true|.bl _,.non=>true|.non,.str _=>true|.str _,.non=>true
 |.int _,.int _=>true|.bl _,.bl _=>true|.str _,.str _=>true|.byt _,.byt _=>true
 |.int _,.str _=>true|.str _,.int _=>true|.bl _,.str _=>true|.str _,.bl _=>true
 |_,_=>false
noncomputable def rEq:R2:=fun x y H Q=>scal x y=true/\Q (.bl (decide (x=y))) H
noncomputable def rNe:R2:=fun x y H Q=>scal x y=true/\Q (.bl (!decide (x=y))) H
theorem zhc {i j:Int}:decide (V.int i=V.int j)=(i == j):=by
 rw[Bool.eq_iff_iff]
 simp
theorem zi9 {i j:Bool}:decide (V.bl i=V.bl j)=(i == j):=by
 rw[Bool.eq_iff_iff]
 simp
theorem zhb {i j:Str}:decide (V.str i=V.str j)=(i == j):=by
 rw[Bool.eq_iff_iff]
 simp
theorem zhd {i j:Array UInt8}:decide (V.byt i=V.byt j)=(i.toList == j.toList):=by
 rw[Bool.eq_iff_iff]
 cases i
 cases j
 simp
section
variable {X:Cx} {a b c:Expr} {ta tb tc:TE} {pos:Pos}
theorem zao {pins:List (Addr × Obj)}{σ:St}{H:Hp}{s:Shared}{Q:VK}{k k':Bool}(I:Inv X pins σ H s)(q:Q (.bl k) H)(e:k=k'):EP X pins σ Q (.bool k') s:=by
 subst e
 exact⟨.bl k,H,I,rfl,q⟩
theorem znk:OpR X (compareOp .Eq) rEq:=by
 intro pins s σ H x y v u Q I rx ry h
 obtain⟨hs,q⟩:=h
 cases x with
 | non =>
   cases rx
   cases y with
   |non=>cases ry;exact PySem.EqNone.eq_none_none (zao I q (by simp))
   |bl j=>cases ry;exact PySem.EqNone.eq_none_bool (zao I q (by simp))
   |int j=>obtain⟨t',rfl⟩:=ry;exact PySem.EqNone.eq_none_int (zao I q (by simp))
   |str j=>obtain⟨t',rfl⟩:=ry;exact PySem.EqNone.eq_none_str (zao I q (by simp))
   |_=>exact absurd (show false=true from hs) Bool.false_ne_true
 | bl i =>
   cases rx
   cases y with
   |non=>cases ry;exact PySem.EqNone.eq_bool_none (zao I q (by simp))
   |bl j=>cases ry;exact eq_bool (zao I q zi9)
   |str j=>obtain⟨t',rfl⟩:=ry;exact PySem.EqMixed.eq_bool_str (zao I q (by simp))
   |_=>exact absurd (show false=true from hs) Bool.false_ne_true
 | int i =>
   obtain⟨t,rfl⟩:=rx
   cases y with
   |non=>cases ry;exact PySem.EqNone.eq_int_none (zao I q (by simp))
   |int j=>obtain⟨t',rfl⟩:=ry;exact eq_int (zao I q zhc)
   |str j=>obtain⟨t',rfl⟩:=ry;exact PySem.EqMixed.eq_int_str (zao I q (by simp))
   |_=>exact absurd (show false=true from hs) Bool.false_ne_true
 | str i =>
   obtain⟨t,rfl⟩:=rx
   cases y with
   |non=>cases ry;exact PySem.EqNone.eq_str_none (zao I q (by simp))
   |bl j=>cases ry;exact PySem.EqMixed.eq_str_bool (zao I q (by simp))
   |int j=>obtain⟨t',rfl⟩:=ry;exact PySem.EqMixed.eq_str_int (zao I q (by simp))
   |str j=>obtain⟨t',rfl⟩:=ry;exact eq_str (zao I q zhb)
   |_=>exact absurd (show false=true from hs) Bool.false_ne_true
 | byt i =>
   obtain⟨t,rfl⟩:=rx
   cases y with
   |byt j=>obtain⟨t',rfl⟩:=ry;exact PySem.W.eq_bytes (zao I q zhd)
   |_=>exact absurd (show false=true from hs) Bool.false_ne_true
 |_=>cases y<;>exact absurd (show false=true from hs) Bool.false_ne_true
theorem znf:OpR X (compareOp .NotEq) rNe:=by
 intro pins s σ H x y v u Q I rx ry h
 obtain⟨hs,q⟩:=h
 cases x with
 | non =>
   cases rx
   cases y with
   |non=>cases ry;exact PySem.EqNone.ne_none_none (zao I q (by simp))
   |bl j=>cases ry;exact PySem.EqNone.ne_none_bool (zao I q (by simp))
   |int j=>obtain⟨t',rfl⟩:=ry;exact PySem.EqNone.ne_none_int (zao I q (by simp))
   |str j=>obtain⟨t',rfl⟩:=ry;exact PySem.EqNone.ne_none_str (zao I q (by simp))
   |_=>exact absurd (show false=true from hs) Bool.false_ne_true
 | bl i =>
   cases rx
   cases y with
   |non=>cases ry;exact PySem.EqNone.ne_bool_none (zao I q (by simp))
   |bl j=>cases ry;exact ne_bool (zao I q (congrArg not zi9))
   |str j=>obtain⟨t',rfl⟩:=ry;exact PySem.EqMixed.ne_bool_str (zao I q (by simp))
   |_=>exact absurd (show false=true from hs) Bool.false_ne_true
 | int i =>
   obtain⟨t,rfl⟩:=rx
   cases y with
   |non=>cases ry;exact PySem.EqNone.ne_int_none (zao I q (by simp))
   |int j=>obtain⟨t',rfl⟩:=ry;exact ne_int (zao I q (congrArg not zhc))
   |str j=>obtain⟨t',rfl⟩:=ry;exact PySem.EqMixed.ne_int_str (zao I q (by simp))
   |_=>exact absurd (show false=true from hs) Bool.false_ne_true
 | str i =>
   obtain⟨t,rfl⟩:=rx
   cases y with
   |non=>cases ry;exact PySem.EqNone.ne_str_none (zao I q (by simp))
   |bl j=>cases ry;exact PySem.EqMixed.ne_str_bool (zao I q (by simp))
   |int j=>obtain⟨t',rfl⟩:=ry;exact PySem.EqMixed.ne_str_int (zao I q (by simp))
   |str j=>obtain⟨t',rfl⟩:=ry;exact ne_str (zao I q (congrArg not zhb))
   |_=>exact absurd (show false=true from hs) Bool.false_ne_true
 | byt i =>
   obtain⟨t,rfl⟩:=rx
   cases y with
   |byt j=>obtain⟨t',rfl⟩:=ry;exact PySem.W.ne_bytes (zao I q (congrArg not zhd))
   |_=>exact absurd (show false=true from hs) Bool.false_ne_true
 |_=>cases y<;>exact absurd (show false=true from hs) Bool.false_ne_true
theorem zng:OpR X (compareOp .Lt) (rI0 fun i j=>.bl (decide (i<j))):=opB0 fun _ _ _ _ _ _ _ q=>lt_int q
theorem znh:OpR X (compareOp .LtE) (rI0 fun i j=>.bl (decide (i<=j))):=opB0 fun _ _ _ _ _ _ _ q=>le_int q
theorem zni:OpR X (compareOp .Gt) (rI0 fun i j=>.bl (decide (j<i))):=opB0 fun _ _ _ _ _ _ _ q=>gt_int q
theorem znj:OpR X (compareOp .GtE) (rI0 fun i j=>.bl (decide (j<=i))):=opB0 fun _ _ _ _ _ _ _ q=>ge_int q
theorem zjY {op:CmpOp}{r:R2}(ho:OpR X (compareOp op) r)(ha:PE X a ta)(hb:PE X b tb)(hm:behindInMarks op b=false):PE X (.Compare a [op] [b] pos) (tOp r ta tb):=by
 intro pins s σ H Q I h
 exact wpAny_Compare1 (binT ha hb I h fun v u s2 x y H2 I2 rx ry q=>ho pins s2 σ H2 x y v u Q I2 rx ry q) hm
noncomputable def zmQ (t:TE):TT:=fun σ H Q=>t σ H fun x H'=>∃k,x=.bl k/\Q k H'
theorem zjN {op:CmpOp}{r:R2}(ho:OpR X (compareOp op) r)(ha:PE X a ta)(hb:PE X b tb)(hm:behindInMarks op b=false):PT X (.Compare a [op] [b] pos) (zmQ (tOp r ta tb)):=by
 intro pins s σ H Q I h
 refine wpAny_isTrue_Compare1 (thn (ha pins s σ H _ I h) fun v s1 ⟨x,H1,I1,r1,q1⟩=>thn (hb pins s1 σ H1 _ I1 q1) fun u s2 ⟨y,H2,I2,r2,q2⟩=>
  thn (ho pins s2 σ H2 x y v u _ I2 r1 r2 q2) fun c s3 ⟨z,H3,I3,r3,k,e,q3⟩=>?_) hm
 subst e
 cases r3
 exact wpAny_truthy_bool ⟨H3,I3,q3⟩
noncomputable def TruV (K:PySem.W.Frag)(x:V)(H:Hp)(k:Bool):Prop:=
 match x with
 |.non=>k=false
 |.bl b=>k=b
 |.int i=>k=(i != 0)
 |.str y=>y.length<=sizeLine/\k=((y.length:Int) != 0)
 |.byt y=>y.size<=sizeLine/\k=((y.size:Int) != 0)
 |.ref p=>(∃xs,SqL K H p xs/\k = !xs.isEmpty)\/(∃xs,SqT K H p xs/\k = !xs.isEmpty)\/∃kvs,H p=some (.dK kvs)/\k = !kvs.isEmpty
 |_=>False
theorem zfN {κ:Type}{kvs:List (κ × V)}{vs:List (κ × Value)}(r:KV kvs vs):(!vs.isEmpty) = !kvs.isEmpty:=by
 cases r<;>rfl
theorem zcX {xs:List V}{its:List Value}(r:Vals xs its):(!its.toArray.isEmpty) = !xs.isEmpty:=by
 cases r<;>simp
theorem zdR:(sizeLine:Nat)<2 ^ 63:=by rw[sizeLine_eq];decide
theorem zkV:TruR X (fun x H Q=>∃k,TruV X.K x H k/\Q k H):=by
 intro pins s σ H x v Q I rx h
 obtain⟨k,e,q⟩:=h
 have hl:=zdR
 have hs:sizeLine=16777216:=sizeLine_eq
 cases x with
 | non =>
   cases rx
   have e':k=false:=e
   subst e'
   exact truthy_none ⟨H,I,q⟩
 | bl b =>
   cases rx
   have e':k=b:=e
   subst e'
   exact wpAny_truthy_bool ⟨H,I,q⟩
 | int i =>
   obtain⟨t,rfl⟩:=rx
   have e':k=(i != 0):=e
   subst e'
   exact PySem.P.truthy_int ⟨H,I,q⟩
 | str y =>
   obtain⟨t,rfl⟩:=rx
   obtain⟨hy,e'⟩:y.length<=sizeLine/\k=((y.length:Int) != 0):=e
   subst e'
   exact PySem.P.truthy_str (by omega) ⟨H,I.tok _,q⟩
 | byt y =>
   obtain⟨t,rfl⟩:=rx
   obtain⟨hy,e'⟩:y.size<=sizeLine/\k=((y.size:Int) != 0):=e
   subst e'
   exact PySem.W.truthy_bytes (by omega) ⟨H,I.tok _,q⟩
 | ref p =>
   cases rx
   have e':(∃xs,SqL X.K H p xs/\k = !xs.isEmpty)\/(∃xs,SqT X.K H p xs/\k = !xs.isEmpty)\/∃kvs,H p=some (.dK kvs)/\k = !kvs.isEmpty:=e
   rcases e' with ⟨xs,hx,e'⟩|⟨xs,hx,e'⟩|⟨kvs,hx,e'⟩
   · subst e'
     obtain⟨its,r,pl,hz⟩:=I.list hx
     have hlen:=r.length
     exact wpAny_truthy_list pl.isList (by simp only[List.size_toArray];omega) ⟨H,I.tok _,by rw[zcX r];exact q⟩
   · subst e'
     obtain⟨its,r,pl,hz⟩:=I.tuple hx
     have hlen:=r.length
     exact truthy_tuple pl (by simp only[List.size_toArray];omega) ⟨H,I.tok _,by rw[zcX r];exact q⟩
   · subst e'
     obtain⟨hz,hS,vs,r,m⟩:kvs.length<=sizeLine/\(p == sysModules)=false/\∃vs,KV kvs vs/\s.heap.DictOf (zaq X.prog X.w) p vs:=I.hok p _ hx
     have hlen:kvs.length=vs.length:=Paired.length r
     exact wpAny_truthy_dict hS m (by omega) ⟨H,I.tok _,by rw[zfN r];exact q⟩
 |_=>exact (show False from e).elim
theorem zhS (ha:PE X a ta)(he:∀whole,isTrue a X.env whole=(do let v <-whole;standAt a.pos;holding [v] (truthy v))) :
  PT X a (fun σ H Q=>ta σ H fun x H'=>∃k,TruV X.K x H' k/\Q k H'):=by
 intro pins s σ H Q I h
 exact isTrue_plain (thn (ha pins s σ H _ I h) fun v s1 ⟨x,H1,I1,r1,q1⟩=>zkV pins s1 σ H1 x v Q I1 r1 q1) (he _)
theorem zfZ {x:V}{us:List Value}(r:Vals [x] us):∃u,us=[u]/\RelV x u:=by
 cases r with
 |cons r1 r2=>cases r2;exact⟨_,rfl,r1⟩
theorem zjg {x y:V}{us:List Value}(r:Vals [x,y] us):∃u w',us=[u,w']/\RelV x u/\RelV y w':=by
 cases r with
 | cons r1 r2 =>
   cases r2 with
   |cons r3 r4=>cases r4;exact⟨_,_,rfl,r1,r3⟩
theorem ziA:zbc X (.builtin "abs") (fun xs H Q=>∃i,xs=[.int i]/\Q (.int (if i<0 then -i else i)) H):=by
 intro pins s σ H xs us Q I r h
 obtain⟨i,rfl,q⟩:=h
 obtain⟨u,rfl,t,rfl⟩:=zfZ r
 exact call_abs_int fun u tk=>⟨.int (if i<0 then -i else i),H,I.tok _,⟨_,rfl⟩,q⟩
theorem zhl (hc:X.calm=true):zbc X (.builtin "max") (fun xs H Q=>∃i j,xs=[.int i,.int j]/\Q (.int (if j > i then j else i)) H):=by
 intro pins s σ H xs us Q I r h
 obtain⟨i,j,rfl,q⟩:=h
 obtain⟨u,w',rfl,⟨t,rfl⟩,⟨t',rfl⟩⟩:=zjg r
 refine max_two_ints (I.ok.hd hc) fun h' tk k=>⟨_,H,I.kept k,?_,q⟩
 by_cases hj:j > i
 · rw[if_pos hj,if_pos hj];exact⟨_,rfl⟩
 · rw[if_neg hj,if_neg hj];exact⟨_,rfl⟩
theorem zhk (hc:X.calm=true):zbc X (.builtin "min") (fun xs H Q=>∃i j,xs=[.int i,.int j]/\Q (.int (if j<i then j else i)) H):=by
 intro pins s σ H xs us Q I r h
 obtain⟨i,j,rfl,q⟩:=h
 obtain⟨u,w',rfl,⟨t,rfl⟩,⟨t',rfl⟩⟩:=zjg r
 refine min_two_ints (I.ok.hd hc) fun h' tk k=>⟨_,H,I.kept k,?_,q⟩
 by_cases hj:j<i
 · rw[if_pos hj,if_pos hj];exact⟨_,rfl⟩
 · rw[if_neg hj,if_neg hj];exact⟨_,rfl⟩
end
end L2
namespace L2
open PySem PySem.Spec PyProof.Rows
structure ObjM (h:Heap) (x dx C:Addr) (mA:Str->Option Value):Prop where
 obj:h.get? x=some (PySem.W.instObj C dx)
 ns:h.Ns1 dx mA
 ne:dx≠x
theorem zgy {h:Heap}{dx:Addr}{mA:Str->Option Value}(n:h.Ns1 dx mA):∃od,h.get? dx=some od/\∀name,PySem.W.lookIn name od=some (mA name):=by
 obtain⟨o,es,ep,ho,hd,hk,_,hm⟩:=n
 refine⟨o,ho,fun name=>?_⟩
 have e:=hm name
 unfold nsFind findBy at e
 rw[<-Array.find?_toList] at e
 unfold PySem.W.lookIn
 rw[hd]
 dsimp only
 split
 · rename_i y q
   rw[q] at e
   exact congrArg some e
 · rename_i q
   rw[q] at e
   have a:es.toList.any (·.refKey)=false:=by
    rw[List.any_eq_false]
    intro y hy
    obtain⟨z,t,hkey⟩:=hk y (Array.mem_toList_iff.mp hy)
    simp[DictEntry.refKey,hkey]
   have a':¬es.toList.any (·.refKey)=true:=by rw[a];exact Bool.false_ne_true
   rw[if_neg a']
   exact congrArg some e
theorem ObjM.look {h:Heap}{x dx C:Addr}{mA:Str->Option Value}(I:ObjM h x dx C mA):∃od,PySem.W.InstAt h x (PySem.W.instObj C dx) C (some od)/\∀name,PySem.W.lookIn name od=some (mA name):=
 let ⟨od,ho,hl⟩:=zgy I.ns
 ⟨od,⟨I.obj,rfl,rfl,ho⟩,hl⟩
section
variable {prog:Program} {w:World} {A:Around} {E:Value->Shared->Prop} {s:Shared} {K:PySem.W.Frag} {x dx C f:Addr} {mA:Str->Option Value} {name:Str} {v:Value}
theorem zic {R:Result->Shared->Prop}{vs:List Value}{kw:List (Str × Value)}(X:K.In s.heap)(hm:PySem.W.makesIn K C=true)
  (hi:PySem.W.findIn K (.ref C) "__init__"=some (some (.ref f))) (hf:PySem.W.typeIn K (.ref f)=some (.type "function"))
  (h:codeAny (model prog w) (A.under (.builtin "type.__call__" ⟨.ref C::vs,kw⟩)) (.call (.ref f) ⟨.ref (s.heap.objs.size+1)::vs,kw⟩) (PySem.W.InitBack (s.heap.objs.size+1) R)
   {s with heap:=(s.heap.push PySem.W.emptyDict).push (PySem.W.instObj C s.heap.objs.size)}) :
  codeAny (model prog w) A (.call (.ref C) ⟨vs,kw⟩) R s:=by
 obtain⟨hh,g,d,t,os⟩:=s
 exact PySem.W.make_core (PySem.W.makes_of X hm) (PySem.W.looks_findIn X hi) (fun self=>PySem.W.bind_fn X self hf) (.inl rfl) h
end
section
variable {P:Program} {w:World} {H H':Hp} {h h':Heap} {a C dx:Addr} {fs fs':List (Str × V)}
theorem zkj (hok:HOk P w H h)(e:H a=some (.ins C dx fs)):∃mA,ObjM h a dx C mA/\(∀f,RelO (fs.lookup f) (mA f))/\PySem.Within mA (fs.map (·.1))/\fs.length<=1000/\H dx=some (.own a):=by
 obtain⟨d,z,ne,ob,mA,n,r,q⟩:=(show ObjOk P w H h a (.ins C dx fs) from hok a _ e)
 exact⟨mA,⟨ob,n,ne⟩,r,q,z,d⟩
end
structure Cls (K:PySem.W.Frag) (C:Addr):Prop where
 pg:PySem.W.plainGet K C Str.empty=true
 hd:PySem.W.hasDictIn K C=true
 po:PySem.W.plainOver K C=true
 sa:PySem.W.findIn K (.ref C) "__setattr__"=some (some (.builtin "object.__setattr__"))
theorem Cls.get {K:PySem.W.Frag}{C:Addr}(c:Cls K C)(f:Str):PySem.W.plainGet K C f=true:=c.pg
noncomputable def zhv (K:PySem.W.Frag)(C:Addr)(f:Str):Prop:=PySem.W.findIn K (.ref C) f=some none
structure Con (K:PySem.W.Frag) (C:Addr) (f:Str) (v:V) (u:Value):Prop where
 at_:PySem.W.findIn K (.ref C) f=some (some u)
 rel:RelV v u
 get:PySem.W.specialIn K u "__get__"=some none
 cp:PySem.W.copiedNames.contains f=false
structure Meth (K:PySem.W.Frag) (C:Addr) (m:Str) (f:Addr):Prop where
 at_:PySem.W.findIn K (.ref C) m=some (some (.ref f))
 fn:PySem.W.isFn K (.ref f)=true
 kp:PySem.W.keepIn K (.ref f)=true
section
variable {X:Cx} {pins:List (Addr × Obj)} {σ:St} {H:Hp} {s:Shared} {a C dx:Addr} {fs:List (Str × V)} {f:Str} {v:V} {A:Around} {E:Value->Shared->Prop}
theorem Inv.made (I:Inv X pins σ H s):Inv X pins σ (upd (upd H s.heap.objs.size (.own (s.heap.objs.size+1))) (s.heap.objs.size+1) (.ins C s.heap.objs.size []))
  {s with heap:=(s.heap.push PySem.W.emptyDict).push (PySem.W.instObj C s.heap.objs.size)}:=by
 have e1:(s.heap.push PySem.W.emptyDict).get? s.heap.objs.size=some PySem.W.emptyDict:=Heap.get?_push_size s.heap rfl
 have e2:((s.heap.push PySem.W.emptyDict).push (PySem.W.instObj C s.heap.objs.size)).get? (s.heap.objs.size+1)=some (PySem.W.instObj C s.heap.objs.size):=by
  have:=Heap.get?_push_size (s.heap.push PySem.W.emptyDict) (o:=PySem.W.instObj C s.heap.objs.size) rfl
  rwa [Heap.size_push] at this
 have e3:(s.heap.push PySem.W.emptyDict).Ns s.heap.objs.size (fun _=>none):=⟨PySem.W.emptyDict,#[],_,e1,rfl,(fun e he=>absurd he (by simp)),fun _=>rfl⟩
 have I1:=I.laid (a:=s.heap.objs.size) (o:=.own (s.heap.objs.size+1)) (h':=s.heap.push PySem.W.emptyDict) (t':=s.toks) (fun b u q=>Heap.get?_push_of_some _ q) (Nat.le_refl _) ⟨_,e1⟩
 refine I1.laid (a:=s.heap.objs.size+1) (o:=.ins C s.heap.objs.size []) (t':=s.toks) (fun b u q=>Heap.get?_push_of_some _ q) (Nat.le_of_eq (Heap.size_push _ _)) ?_
 have ne:s.heap.objs.size≠s.heap.objs.size+1:=Nat.ne_of_lt (Nat.lt_succ_self _)
 refine⟨by rw[zaf ne,zai],Nat.zero_le _,ne,e2,fun _=>none,(Heap.Ns1.of_empty e3).at fun o q=>Heap.get?_push_of_some _ q,fun _=>True.intro,fun y hy=>absurd rfl hy⟩
end
section
variable {X:Cx} {o e value:Expr} {f:Str} {pos pos' tpos:Pos} {ta tv:TE}
end
section
variable {X:Cx} {pins:List (Addr × Obj)} {σ:St} {H:Hp} {s:Shared} {A:Around} {E:Value->Shared->Prop} {Q:Value->Shared->Prop} {c:Value} {b:Bool}
inductive TyOf (K:PySem.W.Frag) (H:Hp):V->Value->Prop where
 |non:TyOf K H .non (.type "NoneType")
 |bl (x:Bool):TyOf K H (.bl x) (.type "bool")
 |int (i:Int):TyOf K H (.int i) (.type "int")
 |str (x:Str):TyOf K H (.str x) (.type "str")
 |flt (x:UInt64):TyOf K H (.flt x) (.type "float")
 |lst {a:Addr} {xs:List V} (e:H a=some (.lst xs)):TyOf K H (.ref a) (.type "list")
 |frz {a:Addr} {o:Obj} {xs:List V} (e:H a=some (.frz o (.lst xs))):TyOf K H (.ref a) (.type "list")
 |tup {a:Addr} {xs:List V} (e:H a=some (.tup xs)):TyOf K H (.ref a) (.type "tuple")
 |dK {a:Addr} {kvs:List (Key × V)} (e:H a=some (.dK kvs)):TyOf K H (.ref a) (.type "dict")
 |dT {a:Addr} {kvs:List (List Key × V)} (e:H a=some (.dT kvs)):TyOf K H (.ref a) (.type "dict")
 |ins {a C dx:Addr} {fs:List (Str × V)} (e:H a=some (.ins C dx fs)) (cl:Cls K C) (ha:PySem.W.findIn K (.ref C) "__class__"=some (some (.builtin "object.__class__")))
  (hn:PySem.W.specialIn K (.builtin "object.__class__") "__get__"=some (some (.builtin "getset_descriptor.__get__"))) (htk:PySem.W.takesIn K (.builtin "object.__class__")=some true)
  (hm:PySem.W.mroIn K C (.type "object")=some true):TyOf K H (.ref a) (.ref C)
theorem zgO {x:V}{u t:Value}(I:Inv X pins σ H s)(rx:RelV x u)(ty:TyOf X.K H x t)(e:PySem.W.kitOne X.K t c=some b)(h:∀tk,Q (.bool b) {s with toks:=tk}) :
  wpAny (model X.prog X.w) A (call (.builtin "isinstance") [u,c]) Q E s:=by
 cases ty with
 |non=>cases (show u=Value.none from rx);exact PySem.W.kia_one PySem.W.kitx_none I.kIn True.intro e (fun z=>nomatch z) h
 |bl y=>cases (show u=Value.bool y from rx);exact PySem.W.kia_one PySem.W.kitx_bool I.kIn True.intro e (fun z=>nomatch z) h
 |int i=>obtain⟨t,q⟩:=(show ∃t,u=Value.int i t from rx);cases q;exact PySem.W.kia_one PySem.W.kitx_int I.kIn True.intro e (fun z=>nomatch z) h
 |str y=>obtain⟨t,q⟩:=(show ∃t,u=Value.str y t from rx);cases q;exact PySem.W.kia_one PySem.W.kitx_str I.kIn True.intro e (fun z=>nomatch z) h
 |flt y=>obtain⟨t,q⟩:=(show ∃t,u=Value.float y t from rx);cases q;exact PySem.W.kia_one PySem.W.kitx_float I.kIn True.intro e (fun z=>nomatch z) h
 | @lst a xs ea =>
   cases (show u=Value.ref a from rx)
   obtain⟨_,_,n,_,h1⟩:=(show ObjOk X.prog X.w H s.heap a (.lst xs) from I.hok a _ ea)
   exact PySem.W.kia_one PySem.W.kitx_list I.kIn ⟨_,h1,rfl⟩ e (fun z=>nomatch z) h
 | @frz a ob xs ea =>
   cases (show u=Value.ref a from rx)
   obtain⟨_,_,_,n,_,h1⟩:=(show ObjOk X.prog X.w H s.heap a (.frz ob (.lst xs)) from I.hok a _ ea)
   exact PySem.W.kia_one PySem.W.kitx_list I.kIn ⟨_,h1,rfl⟩ e (fun z=>nomatch z) h
 | @tup a xs ea =>
   cases (show u=Value.ref a from rx)
   obtain⟨_,_,_,p⟩:=(show ObjOk X.prog X.w H s.heap a (.tup xs) from I.hok a _ ea)
   obtain⟨o,h1,h2,_⟩:=p
   exact PySem.W.kia_one PySem.W.kitx_tuple I.kIn ⟨o,h1,h2⟩ e (fun z=>nomatch z) h
 | @dK a kvs ea =>
   cases (show u=Value.ref a from rx)
   obtain⟨_,_,vs,_,p⟩:=(show ObjOk X.prog X.w H s.heap a (.dK kvs) from I.hok a _ ea)
   obtain⟨o,es,ep,h1,h2,_⟩:=p
   exact PySem.W.kia_one PySem.W.kitx_dict I.kIn ⟨o,h1,h2.1⟩ e (fun z=>nomatch z) h
 | @dT a kvs ea =>
   cases (show u=Value.ref a from rx)
   obtain⟨_,_,xs,_,o,es,ep,h1,h2,_⟩:=(show ObjOk X.prog X.w H s.heap a (.dT kvs) from I.hok a _ ea)
   exact PySem.W.kia_one PySem.W.kitx_dict I.kIn ⟨o,h1,h2.1⟩ e (fun z=>nomatch z) h
 | @ins a C dx fs ea cl ha hn htk hm =>
   cases (show u=Value.ref a from rx)
   obtain⟨mA,O,_⟩:=zkj I.hok ea
   obtain⟨od,J,_⟩:=O.look
   exact PySem.W.kia_one (PySem.W.kitx_own (cl.get _) cl.hd ha hn htk hm) I.kIn J e (fun z=>nomatch z) h
end
end L2
namespace L2
open PySem PySem.Spec PyProof.Rows
structure Room (k:Nat) (A:Around):Prop where
 hd:A.handled=none
 dp:A.depth+3 * k+5<recursionLimit
 un:A.units+16 * k+200<cLine
theorem Room.mono {j k:Nat}{A:Around}(r:Room k A)(h:j<=k):Room j A:=⟨r.hd,by have:=r.dp;omega,by have:=r.un;omega⟩
theorem Room.deeper {k:Nat}{A:Around}(r:Room (k+1) A)(env:Env):Room k (A.deeper env):=
 ⟨r.hd,by have:=r.dp;show A.depth+1+3 * k+5<_;omega,by have:=r.un;show A.units+3+16 * k+200<_;omega⟩
theorem Room.in1 {k:Nat}{A:Around}(r:Room (k+1) A):Room k A.in1:=
 ⟨r.hd,by have:=r.dp;show A.depth+3 * k+5<_;omega,by have:=r.un;show A.units+1+16 * k+200<_;omega⟩
theorem zfI {A:Around}{C:Addr}{us:List Value}{kw:List (Str × Value)}:(A.under (.builtin "type.__call__" ⟨.ref C::us,kw⟩)).depth=A.depth+1:=by
 first|rfl|simp[Around.under,Code.weight,Code.isCreation,Code.isGuard,Code.isCaller,Code.frames,Code.isFrame,guardIds]
theorem zfH {A:Around}{C:Addr}{us:List Value}{kw:List (Str × Value)}:(A.under (.builtin "type.__call__" ⟨.ref C::us,kw⟩)).units=A.units+1:=by
 first|rfl|simp[Around.under,Code.cUnits,Code.frames,Code.isFrame]
theorem Room.make {k:Nat}{A:Around}(r:Room (k+1) A)(C:Addr)(us:List Value)(kw:List (Str × Value)):Room k (A.under (.builtin "type.__call__" ⟨.ref C::us,kw⟩)):=
 ⟨r.hd,by have:=r.dp;rw[zfI];omega,by have:=r.un;rw[zfH];omega⟩
theorem Room.depth {k:Nat}{A:Around}(r:Room k A):A.depth<recursionLimit:=by have:=r.dp;omega
theorem Room.units {k:Nat}{A:Around}(r:Room k A):A.units+64<cLine:=by have:=r.un;omega
noncomputable def tNil:TA:=fun _ H Q=>Q [] H
noncomputable def zf3 (ta:TE)(tr:TA):TA:=fun σ H Q=>ta σ H fun x H1=>tr σ H1 fun xs H2=>Q (x::xs) H2
section
variable {X:Cx} {e:Expr} {es:List Expr} {te:TE} {t:TA} {pos:Pos}
theorem ze5:PA X [] tNil:=fun _ _ _ _ H Q I h=>Calls.spliced_nil ⟨[],H,I,.nil,h⟩
theorem zbr (ha:PE X e te)(hr:PA X es t)(hs:starEach (e::es) X.env=(false,eval e X.env)::starEach es X.env:=by rfl):PA X (e::es) (zf3 te t):=by
 intro pos pins s σ H Q I h
 rw[hs]
 show wpAny _ _ (spliced ((false,eval e X.env)::backTo pos (starEach es X.env))) _ _ s
 refine Calls.spliced_cons (thn (ha pins s σ H _ I h) fun u s1 ⟨x,H1,I1,r1,q1⟩=>?_)
 exact thn (hr pos pins s1 σ H1 _ I1 q1) fun us s2 ⟨xs,H2,I2,r2,q2⟩=>⟨x::xs,H2,I2,.cons r1 r2,q2⟩
noncomputable def tTup (t:TA):TE:=fun σ H Q=>t σ H fun xs H1=>xs.length<=sizeLine/\∀p,H1 p=none->Q (.ref p) (upd H1 p (.tup xs))
noncomputable def tLst (t:TA):TE:=fun σ H Q=>t σ H fun xs H1=>xs.length<=sizeLine/\∀p,H1 p=none->Q (.ref p) (upd H1 p (.lst xs))
theorem ziZ {x1}(h:PA X es t):PE X (.Tuple es x1 pos) (tTup t):=by
 intro pins s σ H Q I hq
 refine wpAny_Tuple_spliced (thn (h pos pins s σ H _ I hq) fun us s1 ⟨xs,H1,I1,r,z,q⟩=>⟨by rw[<-r.length];exact z,?_⟩)
 have hf:H1 s1.heap.objs.size=none:=I1.hok.fresh (Nat.le_refl _)
 refine⟨.ref s1.heap.objs.size,upd H1 s1.heap.objs.size (.tup xs),I1.laid (t':=s1.toks) (fun b u e=>Heap.get?_push_of_some _ e) (Nat.le_refl _) ?_,rfl,q _ hf⟩
 exact⟨z,us,r,⟨_,Heap.get?_push_size _ rfl,rfl,_,rfl⟩⟩
theorem zlG (h:PA X es t):PE X (.List es pos) (tLst t):=by
 intro pins s σ H Q I hq
 refine wpAny_List_spliced (thn (h pos pins s σ H _ I hq) fun us s1 ⟨xs,H1,I1,r,z,q⟩=>⟨by rw[<-r.length];exact z,?_⟩)
 have hf:H1 s1.heap.objs.size=none:=I1.hok.fresh (Nat.le_refl _)
 refine⟨.ref s1.heap.objs.size,upd H1 s1.heap.objs.size (.lst xs),I1.laid (t':=s1.toks) (fun b u e=>Heap.get?_push_of_some _ e) (Nat.le_refl _) ?_,rfl,q _ hf⟩
 exact⟨z,us,0,r,Heap.get?_push_size _ rfl⟩
end
noncomputable abbrev Sp:=List V->Hp->VK->XK->Prop
noncomputable abbrev CXT:=List Env->Hp->Shared->XK->Value->Shared->Prop
structure Env0 (P:Program) (w:World) (K:PySem.W.Frag) (mg:Str->Option Value) (base:Heap) (A:Around) (outer:List Env) (s:Shared) (H:Hp):Prop where
 frames:A.frames=some outer
 mod:Mod K mg base
 bs:∀b o,base.get? b=some o->s.heap.get? b=some o/\H b=none
 bsz:base.objs.size<=s.heap.objs.size
 funs:s.heap.FunFrames base outer
 frf:∀b∈frs outer,H b=none
 hok:HOk P w H s.heap
 bare:AllBare s.gens
noncomputable def CE (outer:List Env)(P:Program)(w:World)(H:Hp)(s:Shared)(Q:VK)(u:Value)(s':Shared):Prop:=
 ∃v H',s'.os=s.os/\AllBare s'.gens/\Un (frs outer) [] H H' s.heap s'.heap/\HOk P w H' s'.heap/\RelV v u/\Q v H'
noncomputable def CR (CX:CXT)(outer:List Env)(P:Program)(w:World)(H:Hp)(s:Shared)(Q:VK)(E:XK)(r:Result)(s':Shared):Prop:=
 match r with
 |.ok (.ret u)=>CE outer P w H s Q u s'
 |.ok _=>False
 |.error e=>CX outer H s E e s'
structure FnOk (P:Program) (w:World) (K:PySem.W.Frag) (mg:Str->Option Value) (base:Heap) (CX:CXT) (k:Nat) (f:Addr) (fd:FuncData) (ps:List Str) (sp:Sp):Prop where
 len:∀vs H Q E,sp vs H Q E->vs.length=ps.length
 run:∀(A:Around) (outer:List Env) (s:Shared) (H:Hp) (args:Args) (us:List Value) (vs:List V) (Q:VK) (E:XK),Room k A->Env0 P w K mg base A outer s H->BindsTo s fd args (ps.zip us)->Vals vs us->sp vs H Q E->
  codeAny (model P w) A (.call (.ref f) args) (CR CX outer P w H s Q E) s
theorem FnOk.mono {P:Program}{w:World}{K:PySem.W.Frag}{mg:Str->Option Value}{base:Heap}{CX:CXT}{j k:Nat}{f:Addr}{fd:FuncData}{ps:List Str}{sp:Sp}(F:FnOk P w K mg base CX j f fd ps sp)(h:j<=k) :
 FnOk P w K mg base CX k f fd ps sp:=⟨F.len,fun A outer s H args us vs Q E hr=>F.run A outer s H args us vs Q E (hr.mono h)⟩
theorem Env0.make {P:Program}{w:World}{K:PySem.W.Frag}{mg:Str->Option Value}{base:Heap}{A:Around}{outer:List Env}{s:Shared}{H:Hp}(e:Env0 P w K mg base A outer s H)(C:Addr)(us:List Value)(kw:List (Str × Value)) :
 Env0 P w K mg base (A.under (.builtin "type.__call__" ⟨.ref C::us,kw⟩)) outer s H:=⟨by first|exact e.frames|(simpa[Around.under,Code.envs,Code.isFrame,pushEnvs] using e.frames),e.mod,e.bs,e.bsz,e.funs,e.frf,e.hok,e.bare⟩
theorem Env0.in1 {P:Program}{w:World}{K:PySem.W.Frag}{mg:Str->Option Value}{base:Heap}{A:Around}{outer:List Env}{s:Shared}{H:Hp}(e:Env0 P w K mg base A outer s H) :
 Env0 P w K mg base A.in1 outer s H:=⟨e.frames,e.mod,e.bs,e.bsz,e.funs,e.frf,e.hok,e.bare⟩
section
variable {X:Cx} {pins:List (Addr × Obj)} {σ:St} {H:Hp} {s s':Shared}
theorem Inv.env0 (I:Inv X pins σ H s):Env0 X.prog X.w X.K X.mg X.base X.A X.stack s H:=
 ⟨I.ok.frames,I.ok.mod,I.bs,Nat.le_trans I.ok.bsz I.sz,I.stack,I.stkFree,I.hok,I.bare⟩
theorem Inv.after {Q:VK}{u:Value}(I:Inv X pins σ H s)(h:CE X.stack X.prog X.w H s Q u s'):EP X pins σ Q u s':=by
 obtain⟨v,H',os,bare,un,hok,r,q⟩:=h
 obtain⟨hh,g,d,t,os'⟩:=s'
 obtain rfl:os'=s.os:=os
 exact⟨v,H',I.call (h':=hh) (g':=g) (d':=d) (t':=t) (ch:=[]) un hok bare (fun b z=>absurd z (by simp)),r,q⟩
end
noncomputable def zf4 (sp:Sp)(dvs:List V)(E:XK)(t:TA):TE:=fun σ H Q=>t σ H fun vs H1=>sp (vs++dvs) H1 Q E
noncomputable def zjk (C:Addr)(sp:Sp)(dvs:List V)(E:XK)(t:TA):TE:=fun σ H Q=>t σ H fun vs H1=>∀x dx,H1 x=none->H1 dx=none->dx≠x->
 sp (.ref x::(vs++dvs)) (upd (upd H1 dx (.own x)) x (.ins C dx [])) (fun v H2=>v=.non/\Q (.ref x) H2) E
noncomputable def Binds (K:PySem.W.Frag)(fd:FuncData)(ps:List Str)(ds:List Value):Prop:=
 ∀(s:Shared) (us:List Value),K.In s.heap->(us++ds).length=ps.length->BindsTo s fd ⟨us,[]⟩ (ps.zip (us++ds))
theorem Binds.all {K:PySem.W.Frag}{fd:FuncData}{ps:List Str}(h:∀us:List Value,us.length=ps.length->bindArgs fd ⟨us,[]⟩=pure (ps.zip us)):Binds K fd ps []:=fun s us _ hl=>by
 rw[List.append_nil] at hl⊢
 exact .of_eq (h us hl)
noncomputable def zcK (CX:CXT)(X:Cx)(E:XK):Prop:=∀(pins:List (Addr × Obj)) (σ:St) (H:Hp) (s:Shared) (e:Value) (s':Shared),Inv X pins σ H s->CX X.stack H s E e s'->X.xe e s'
section
variable {X:Cx} {CX:CXT} {k:Nat} {f C:Addr} {fd:FuncData} {ps:List Str} {sp:Sp} {dvs:List V} {ds:List Value} {E:XK} {x m:Str} {p pos apos:Pos} {e o:Expr} {es:List Expr} {ta:TE} {t:TA}
theorem ziW {pins:List (Addr × Obj)}{σ:St}{H:Hp}{s:Shared}{Q:VK}{us:List Value}{vs:List V}(F:FnOk X.prog X.w X.K X.mg X.base CX k f fd ps sp)(hr:Room k X.A)(hb:Binds X.K fd ps ds)(hd:Vals dvs ds)(hx:zcK CX X E)
  (I:Inv X pins σ H s) (r:Vals vs us) (h:sp (vs++dvs) H Q E):wpAny (model X.prog X.w) X.A (call (.ref f) us) (EP X pins σ Q) X.xe s:=by
 have r2:Vals (vs++dvs) (us++ds):=r.append hd
 have hl:(us++ds).length=ps.length:=by rw[<-r2.length];exact F.len _ _ _ _ h
 refine wpAny_call (codeAny_mono (F.run X.A X.stack s H ⟨us,[]⟩ (us++ds) (vs++dvs) Q E hr I.env0 (hb s us I.kIn hl) r2 h) fun r s' hq=>?_)
 cases r with
 |error e=>exact hx pins σ H s e s' I hq
 | ok fl =>
   cases fl with
   |ret u=>exact I.after hq
   |next=>exact False.elim hq
   |brk=>exact False.elim hq
   |cont=>exact False.elim hq
theorem zjZ (F:FnOk X.prog X.w X.K X.mg X.base CX k f fd ps sp)(hr:Room k X.A)(hg:Gl X x)(hm:X.mg x=some (.ref f))(hk:PySem.W.keepIn X.K (.ref f)=true)(hb:Binds X.K fd ps ds)(hd:Vals dvs ds)(hx:zcK CX X E)
  (ha:PA X (e::es) t) (hdb:(x == ("__debug__":Str))=false:=by decide) (he:starEach (e::es) X.env=(false,eval e X.env)::starEach es X.env:=by rfl) (hpl:(backTo pos (starEach es X.env)).any (·.1)=false:=by rfl) :
  PE X (.Call (.Name x p) (e::es) [] pos) (zf4 sp dvs E t):=by
 intro pins s σ H Q I h
 refine wpAny_Call_Name_kw (zcx I hg hm ?_ hdb)
 refine PySem.W.callWith_K (h₀:=X.base) I.ok.mod.kin hk (thn (ha pos pins s σ H _ I h) fun us s1 ⟨vs,H1,I1,r,q⟩=>⟨I1.kIn,?_⟩) he hpl
 exact ziW F hr hb hd hx I1 r q
theorem zh2 (F:FnOk X.prog X.w X.K X.mg X.base CX k f fd ps sp)(hr:Room k X.A)(hg:Gl X x)(hm:X.mg x=some (.ref f))(hk:PySem.W.keepIn X.K (.ref f)=true)(hb:Binds X.K fd ps ds)(hd:Vals dvs ds)(hx:zcK CX X E)
  (hdb:(x == ("__debug__":Str))=false:=by decide):PE X (.Call (.Name x p) [] [] pos) (zf4 sp dvs E tNil):=by
 intro pins s σ H Q I h
 refine wpAny_Call_Name_kw (zcx I hg hm ?_ hdb)
 exact PySem.W.callWith_K0 I.kIn hk (ziW (us:=[]) F hr hb hd hx I .nil h)
structure Mk (K:PySem.W.Frag) (C f:Addr):Prop where
 makes:PySem.W.makesIn K C=true
 init:PySem.W.findIn K (.ref C) "__init__"=some (some (.ref f))
 fn:PySem.W.isFn K (.ref f)=true
 kp:PySem.W.keepIn K (.ref C)=true
theorem zeZ {pins:List (Addr × Obj)}{σ:St}{H:Hp}{s:Shared}{Q:VK}{us:List Value}{vs:List V}(M:Mk X.K C f)(F:FnOk X.prog X.w X.K X.mg X.base CX k f fd ps sp)(hr:Room (k+1) X.A)(hb:Binds X.K fd ps ds)(hd:Vals dvs ds)
  (hx:zcK CX X E) (I:Inv X pins σ H s) (r:Vals vs us)
  (h:∀x dx,H x=none->H dx=none->dx≠x->sp (.ref x::(vs++dvs)) (upd (upd H dx (.own x)) x (.ins C dx [])) (fun v H2=>v=.non/\Q (.ref x) H2) E) :
  wpAny (model X.prog X.w) X.A (call (.ref C) us) (EP X pins σ Q) X.xe s:=by
 have hq:=h (s.heap.objs.size+1) s.heap.objs.size (I.hok.fresh (Nat.le_succ _)) (I.hok.fresh (Nat.le_refl _)) (Nat.ne_of_lt (Nat.lt_succ_self _))
 have I2:=Inv.made (C:=C) I
 have r2:Vals (V.ref (s.heap.objs.size+1)::(vs++dvs)) (Value.ref (s.heap.objs.size+1)::(us++ds)):=.cons rfl (r.append hd)
 have hl:(Value.ref (s.heap.objs.size+1)::us++ds).length=ps.length:=by
  have e:=r2.length
  rw[F.len _ _ _ _ hq] at e
  exact e.symm
 refine wpAny_call (zic (f:=f) I.kIn M.makes M.init (beq_iff_eq.mp M.fn) (codeAny_mono (F.run _ X.stack _ _ ⟨Value.ref (s.heap.objs.size+1)::us,[]⟩ (Value.ref (s.heap.objs.size+1)::(us++ds)) _ _ E (hr.make C us [])
  (I2.env0.make C us []) (hb _ (Value.ref (s.heap.objs.size+1)::us) I2.kIn hl) r2 hq) fun r s' hq'=>?_))
 cases r with
 |error e=>exact hx pins σ _ _ e s' I2 hq'
 | ok fl =>
   cases fl with
   | ret u =>
     obtain⟨v,H',I3,rv,ev,q3⟩:=I2.after hq'
     subst ev
     exact⟨rv,⟨V.ref (s.heap.objs.size+1),H',I3,rfl,q3⟩⟩
   |next=>exact False.elim hq'
   |brk=>exact False.elim hq'
   |cont=>exact False.elim hq'
theorem zjW (M:Mk X.K C f)(F:FnOk X.prog X.w X.K X.mg X.base CX k f fd ps sp)(hr:Room (k+1) X.A)(hg:Gl X x)(hm:X.mg x=some (.ref C))(hb:Binds X.K fd ps ds)(hd:Vals dvs ds)(hx:zcK CX X E)
  (ha:PA X (e::es) t) (hdb:(x == ("__debug__":Str))=false:=by decide) (he:starEach (e::es) X.env=(false,eval e X.env)::starEach es X.env:=by rfl) (hpl:(backTo pos (starEach es X.env)).any (·.1)=false:=by rfl) :
  PE X (.Call (.Name x p) (e::es) [] pos) (zjk C sp dvs E t):=by
 intro pins s σ H Q I h
 refine wpAny_Call_Name_kw (zcx I hg hm ?_ hdb)
 refine PySem.W.callWith_K (h₀:=X.base) I.ok.mod.kin M.kp (thn (ha pos pins s σ H _ I h) fun us s1 ⟨vs,H1,I1,r,q⟩=>⟨I1.kIn,?_⟩) he hpl
 exact zeZ M F hr hb hd hx I1 r q
theorem zhY (M:Mk X.K C f)(F:FnOk X.prog X.w X.K X.mg X.base CX k f fd ps sp)(hr:Room (k+1) X.A)(hg:Gl X x)(hm:X.mg x=some (.ref C))(hb:Binds X.K fd ps ds)(hd:Vals dvs ds)(hx:zcK CX X E)
  (hdb:(x == ("__debug__":Str))=false:=by decide):PE X (.Call (.Name x p) [] [] pos) (zjk C sp dvs E tNil):=by
 intro pins s σ H Q I h
 refine wpAny_Call_Name_kw (zcx I hg hm ?_ hdb)
 exact PySem.W.callWith_K0 I.kIn M.kp (zeZ (us:=[]) M F hr hb hd hx I .nil h)
end
section
variable {X:Cx} {CX:CXT} {k:Nat} {f C:Addr} {fd:FuncData} {ps ks:List Str} {sp:Sp} {E:XK} {x m:Str} {p pos apos kpos:Pos} {e o:Expr} {es:List Expr} {kws:List Keyword} {te ta:TE} {t tk:TA} {nm:Option Str}
structure KBinds (K:PySem.W.Frag) (fd:FuncData) (ps ks:List Str) (g:List Value->List Value->List Value) (gV:List V->List V->List V):Prop where
 to:∀(s:Shared) (us ws:List Value),K.In s.heap->(g us ws).length=ps.length->BindsTo s fd ⟨us,ks.zip ws⟩ (ps.zip (g us ws))
 rel:∀{vs:List V} {us:List Value} {zs:List V} {ws:List Value},Vals vs us->Vals zs ws->Vals (gV vs zs) (g us ws)
variable {g:List Value->List Value->List Value} {gV:List V->List V->List V}
end
structure FnScope (N P:List Str) (sc:Scope):Prop where
 kind:sc.kind=.function
 co:sc.isCoroutine=false
 gen:sc.isGenerator=false
 nd:N.Nodup
 pre:N.take P.length=P
 par:∀x∈P,sc.names.lookup x=some .local\/sc.names.lookup x=some .cell
 nofree:∀y∈sc.names,y.2≠.free
theorem zec {kindOf:Str->Option NameKind}{x:Str}:∀{binds:List (Str × Value)} {m:Str->Option Value},(∀v,(x,v)∉binds)->bindL kindOf binds m x=m x
 | [],_,_=>rfl
 | (n, v) :: r, m, h => by
   unfold bindL
   rw[zec fun w hw=>h w (List.mem_cons_of_mem _ hw)]
   split
   · have:x≠n:=by rintro rfl;exact h v List.mem_cons_self
     simp[this]
   · rfl
theorem zee {kindOf:Str->Option NameKind}{x:Str}:∀{binds:List (Str × Value)} {m:Str->Option Value},(∀v,(x,v)∉binds)->bindC kindOf binds m x=m x
 | [],_,_=>rfl
 | (n, v) :: r, m, h => by
   unfold bindC
   rw[zee fun w hw=>h w (List.mem_cons_of_mem _ hw)]
   split
   · rfl
   · have:x≠n:=by rintro rfl;exact h v List.mem_cons_self
     simp[this]
theorem zed {kindOf:Str->Option NameKind}{x:Str}{v:Value}:∀{P:List Str} {vs:List Value} {i:Nat} {m:Str->Option Value},P.Nodup->P[i]?=some x->vs[i]?=some v->kindOf x=some .local->
  bindL kindOf (P.zip vs) m x=some v
 | [],_,_,_,_,h,_,_=>by simp at h
 |_::_,[],_,_,_,_,h,_=>by simp at h
 | p :: P, w :: vs, 0, m, nd, h1, h2, hk => by
   simp at h1 h2;subst h1;subst h2
   show bindL kindOf ((p,w)::P.zip vs) m p=_
   unfold bindL
   rw[zec fun v hv=>(List.nodup_cons.mp nd).1 (List.of_mem_zip hv).1,if_pos hk]
   simp
 | p :: P, w :: vs, i + 1, m, nd, h1, h2, hk => by
   show bindL kindOf ((p,w)::P.zip vs) m x=_
   unfold bindL
   exact zed (i:=i) (List.nodup_cons.mp nd).2 (by simpa using h1) (by simpa using h2) hk
theorem zef {kindOf:Str->Option NameKind}{x:Str}{v:Value}:∀{P:List Str} {vs:List Value} {i:Nat} {m:Str->Option Value},P.Nodup->P[i]?=some x->vs[i]?=some v->kindOf x≠some .local->
  bindC kindOf (P.zip vs) m x=some v
 | [],_,_,_,_,h,_,_=>by simp at h
 |_::_,[],_,_,_,_,h,_=>by simp at h
 | p :: P, w :: vs, 0, m, nd, h1, h2, hk => by
   simp at h1 h2;subst h1;subst h2
   show bindC kindOf ((p,w)::P.zip vs) m p=_
   unfold bindC
   rw[zee fun v hv=>(List.nodup_cons.mp nd).1 (List.of_mem_zip hv).1,if_neg hk]
   simp
 | p :: P, w :: vs, i + 1, m, nd, h1, h2, hk => by
   show bindC kindOf ((p,w)::P.zip vs) m x=_
   unfold bindC
   exact zef (i:=i) (List.nodup_cons.mp nd).2 (by simpa using h1) (by simpa using h2) hk
noncomputable def start (N:List Str)(vs:List V):St:=vs.map some++List.replicate (N.length - vs.length) none
noncomputable def cxOf (CX:CXT)(P:Program)(w:World)(K:PySem.W.Frag)(mg:Str->Option Value)(base:Heap)(N:List Str)(qual:Str)(scope:Scope)(f:Addr)(cd:Value)(A:Around)(outer:List Env)(s:Shared)(H:Hp)(E:XK):Cx where
 prog:=P
 w:=w
 K:=K
 mg:=mg
 base:=base
 A:=A.deeper (envOfC qual scope s.heap.objs.size f cd)
 N:=N
 s₀:=s
 H₀:=H
 env:=envOfC qual scope s.heap.objs.size f cd
 outer:=outer
 stack:=envOfC qual scope s.heap.objs.size f cd::outer
 ex:=[]
 calm:=true
 fn:=fun _=>true
 pn:=[]
 xe:=fun e s'=>wpAny (model P w) (A.deeper (envOfC qual scope s.heap.objs.size f cd)) (leaving (envOfC qual scope s.heap.objs.size f cd) e) (fun _ s''=>CX outer H s E e s'') (fun e' s''=>CX outer H s E e' s'') s'
theorem zfs {sc:Scope}{n:Nat}{x:Str}(h:sc.names.lookup x=some .cell):∃c,(cellsFrom n sc.names []).lookup x=some c:=by
 have q:=PySem.W.cellsFrom_some sc.names n [] (.inl h)
 exact Option.isSome_iff_exists.mp q
theorem zdY {CX:CXT}{P:Program}{w:World}{K:PySem.W.Frag}{mg:Str->Option Value}{base:Heap}{N ps:List Str}{qual:Str}{scope:Scope}{f:Addr}{cd:Value}{A:Around}{outer:List Env}{s s1:Shared}{H:Hp}{E:XK}{us:List Value}{vs:List V}
  (S:FnScope N ps scope) (hd:A.handled=none) (e0:Env0 P w K mg base A outer s H) (hl:vs.length=ps.length) (r:Vals vs us)
  (x:InCallC s s.heap.objs.size (bindL (envOfC qual scope s.heap.objs.size f cd).kindOf (ps.zip us) fun _=>none) (cellsFrom (s.heap.objs.size+1) scope.names []) (bindC (envOfC qual scope s.heap.objs.size f cd).kindOf (ps.zip us) fun _=>none) s1) :
  Inv (cxOf CX P w K mg base N qual scope f cd A outer s H E) [] (start N vs) H s1:=by
 have hpl:ps.length<=N.length:=by have:=congrArg List.length S.pre;rw[List.length_take] at this;omega
 obtain⟨h1,tk,rfl,hk⟩:=x.done
 have noA:∀b:Addr,b∉(cxOf CX P w K mg base N qual scope f cd A outer s H E).ex:=fun b z=>absurd (show b∈([]:List Addr) from z) (by simp)
 refine⟨⟨e0.mod,S.kind,rfl,rfl,Nat.le_refl _,fun y z c h1 h2=>?_,fun y hy=>?_,fun y c _ h=>?_,fun _=>hd,Around.frames_deeper e0.frames,.inr ⟨rfl,rfl⟩,fun b z=>absurd z (noA b),e0.bs,e0.bsz,fun b _ _=>noA b,fun b z=>absurd z (noA b),e0.funs,e0.frf⟩,
  rfl,e0.bare,Un.kept hk,⟨_,x.toInCall.ns,fun i y v h1 h2 h3=>?_⟩,fun y c h=>⟨_,x.cell y c h⟩,e0.hok.fresh (Nat.le_refl _),fun y c h=>?_,fun p hp=>absurd (show p∈([]:List (Addr × Obj)) from hp) (by simp),e0.hok.kept hk,?_⟩
 · exact name_of_addr x.apart (PySem.mem_of_lookup h1) (PySem.mem_of_lookup h2)
 · have hy:scope.names.lookup y=some .cell\/scope.names.lookup y=some .free:=hy
   rcases hy with hy|hy
   · exact zfs hy
   · exact absurd rfl (S.nofree _ (PySem.mem_of_lookup hy))
 · exact Nat.le_of_lt (x.above y c (PySem.mem_of_lookup h))
 · have hi:i<vs.length:=by
    unfold start at h2
    by_cases hi:i<vs.length
    · exact hi
    · rw[List.getElem?_append_right (by simpa using hi)] at h2
      rw[List.getElem?_replicate] at h2
      split at h2<;>cases h2
   have ha:vs[i]?=some v:=by
    unfold start at h2
    rw[List.getElem?_append_left (by simpa using hi),List.getElem?_map] at h2
    cases e:vs[i]? with
    |none=>rw[e] at h2;cases h2
    |some a=>rw[e] at h2;cases h2;rfl
   obtain⟨u,hu,rv⟩:=r.get ha
   have hp:ps[i]?=some y:=by
    rw[<-S.pre,List.getElem?_take_of_lt (by omega)];exact h1
   have ndP:ps.Nodup:=by rw[<-S.pre];exact S.nd.sublist (List.take_sublist _ _)
   refine⟨u,rv,?_⟩
   rcases S.par y (List.mem_of_getElem? hp) with k|k
   · exact .inl ⟨k,zed ndP hp hu k⟩
   · obtain⟨c,e⟩:=zfs (n:=s.heap.objs.size+1) k
     refine .inr ⟨.inl k,c,e,?_⟩
     have q:=x.cell y c e
     rw[zef ndP hp hu (by show scope.names.lookup y≠_;rw[k];decide)] at q
     exact q
 · exact e0.hok.fresh (Nat.le_of_lt (x.above y c (PySem.mem_of_lookup h)))
 · unfold start
   show _=N.length
   rw[List.length_append,List.length_map,List.length_replicate]
   omega
theorem znx {CX:CXT}{P:Program}{w:World}{K:PySem.W.Frag}{mg:Str->Option Value}{base:Heap}{k:Nat}{f:Addr}{name qual:Str}{params:Arguments}{body:List Stmt}{scope:Scope}{dV kV doc pm cdv ct oc:Value}{an od:Option Addr}
  {osl:Array (Option Value)} {N ps:List Str} {sp:Sp} (lk:K.lookup f=some ⟨oc,od,.func (PySem.W.fnOf name qual params body scope dV kV doc pm an cdv ct),osl⟩) (hcd:PySem.W.codeIn K cdv qual=true) (S:FnScope N ps scope)
  (len:∀vs H Q E,sp vs H Q E->vs.length=ps.length)
  (hbody:∀(A:Around) (outer:List Env) (s:Shared) (H:Hp) (vs:List V) (Q:VK) (E:XK),Room k (A.deeper (envOfC qual scope s.heap.objs.size f cdv))->sp vs H Q E->
   ∃t,PSs (cxOf CX P w K mg base N qual scope f cdv A outer s H E) body t/\t {nx:=fun _ H'=>Q .non H',rt:=Q} (start N vs) H) :
  FnOk P w K mg base CX (k+1) f (PySem.W.fnOf name qual params body scope dV kV doc pm an cdv ct) ps sp:=by
 refine⟨len,fun A outer s H args us vs Q E hr e0 hb r hsp=>?_⟩
 have hl:=len _ _ _ _ hsp
 have KX:K.In s.heap:=e0.mod.kin.keeps fun b o e=>(e0.bs b o e).1
 have lim:s.heap.NoLimit:=e0.mod.nolimit.keeps fun b o e=>(e0.bs b o e).1
 have hkind:∀y∈ps.zip us,scope.names.lookup y.1=some .local\/(scope.names.lookup y.1=some .cell/\((cellsFrom (s.heap.objs.size+1) scope.names []).lookup y.1).isSome=true):=fun⟨n,v⟩ hy=>by
  rcases S.par n (List.of_mem_zip hy).1 with q|q
  · exact .inl q
  · exact .inr ⟨q,PySem.W.cellsFrom_some _ _ _ (.inl q)⟩
 refine codeAny_call_function hr.depth (KX _ _ lk) rfl S.co S.gen rfl (PySem.W.codeRec_of KX hcd) (hb _ _ _ _ ?_)
 refine wpAny_newFunctionEnv_cells S.kind hkind fun env he s1 x=>?_
 subst he
 refine⟨lim.keeps x.toInCall.keep,codeAny_func ?_⟩
 obtain⟨t,ht,hq⟩:=hbody A outer s H vs Q E (hr.deeper _) hsp
 have I:Inv (cxOf CX P w K mg base N qual scope f cdv A outer s H E) [] (start N vs) H s1:=zdY S hr.hd e0 hl r x
 refine wpAny_mono (ht [] s1 (start N vs) H _ I hq) (fun fl s' hs=>?_) fun e s' hs=>hs
 have fin:∀{σ':St} {H':Hp} {v:V} {u:Value},Inv (cxOf CX P w K mg base N qual scope f cdv A outer s H E) [] σ' H' s'->RelV v u->Q v H'->CE outer P w H s Q u s':=
  fun {σ' H' v u} J rv q=>⟨v,H',J.os,J.bare,J.base,J.hok,rv,q⟩
 cases fl with
 | ret u =>
   obtain⟨v,σ',H',J,rv,q⟩:=hs
   exact fin J rv q
 | next =>
   obtain⟨σ',H',J,q⟩:=hs
   exact fin (v:=V.non) (u:=Value.none) J rfl q
 | brk =>
   obtain⟨_,_,_,q⟩:=hs
   exact False.elim q
 | cont =>
   obtain⟨_,_,_,q⟩:=hs
   exact False.elim q
end L2
namespace L2
open PySem PySem.Spec PyProof.Rows
section
variable {X:Cx} {x:Str} {p pos:Pos} {e:Expr} {es:List Expr} {t:TA} {id T:String} {r:List V->Hp->VK->Prop}
noncomputable def tCB (r:List V->Hp->VK->Prop)(t:TA):TE:=fun σ H Q=>t σ H fun vs H1=>r vs H1 Q
theorem ze4 (hc:zbc X (.builtin id) r)(hg:Gl X x)(hm:X.mg x=none)(hv:bootBuiltins x=some (.builtin id))(ha:PA X (e::es) t)(hn:x≠"__name__":=by decide)(hdb:(x == ("__debug__":Str))=false:=by decide)
  (he:starEach (e::es) X.env=(false,eval e X.env)::starEach es X.env:=by rfl) (hpl:(backTo pos (starEach es X.env)).any (·.1)=false:=by rfl):PE X (.Call (.Name x p) (e::es) [] pos) (tCB r t):=by
 intro pins s σ H Q I h
 refine wpAny_Call_Name_kw (zdT I hg hm hv ?_ hn hdb)
 exact PyProof.Rows.callWith_builtin1 (thn (ha pos pins s σ H _ I h) fun us s1 ⟨vs,H1,I1,r1,q1⟩=>hc pins s1 σ H1 vs us Q I1 r1 q1) he hpl
theorem zbT (hc:zbc X (.type T) r)(hg:Gl X x)(hm:X.mg x=none)(hv:bootBuiltins x=some (.type T))(ha:PA X (e::es) t)(hn:x≠"__name__":=by decide)(hdb:(x == ("__debug__":Str))=false:=by decide)
  (he:starEach (e::es) X.env=(false,eval e X.env)::starEach es X.env:=by rfl) (hpl:(backTo pos (starEach es X.env)).any (·.1)=false:=by rfl):PE X (.Call (.Name x p) (e::es) [] pos) (tCB r t):=by
 intro pins s σ H Q I h
 refine wpAny_Call_Name_kw (zdT I hg hm hv ?_ hn hdb)
 exact PyProof.Rows.callWith_type1 (thn (ha pos pins s σ H _ I h) fun us s1 ⟨vs,H1,I1,r1,q1⟩=>hc pins s1 σ H1 vs us Q I1 r1 q1) he hpl
end
end L2
namespace L2
open PySem PySem.Spec PyProof.Rows
section
variable {κ:Type} [DecidableEq κ]
noncomputable def valV (kvs:List (κ × V))(k:κ):Option V:=(kvs.find? fun kv=>decide (kv.1=k)).map (·.2)
noncomputable def putK (kvs:List (κ × V))(k:κ)(v:V):List (κ × V):=
 if (kvs.any fun kv=>decide (kv.1=k))=true then kvs.map (fun kv=>if kv.1=k then (kv.1,v) else kv) else kvs++[(k,v)]
theorem zc4 {p:κ × V}{r:List (κ × V)}{k:κ}(e:p.1=k):valV (p::r) k=some p.2:=by simp[valV,List.find?_cons,e]
theorem zc5 {p:κ × V}{r:List (κ × V)}{k:κ}(e:¬p.1=k):valV (p::r) k=valV r k:=by simp[valV,List.find?_cons,e]
theorem zeU (k:κ):∀kvs:List (κ × V),(kvs.any fun kv=>decide (kv.1=k))=(valV kvs k).isSome
 | []=>rfl
 | p :: r => by
   rw[List.any_cons]
   by_cases e:p.1=k
   · simp only[zc4 e,decide_eq_true e,Bool.true_or,Option.isSome_some]
   · rw[zc5 e,decide_eq_false e,Bool.false_or];exact zeU k r
theorem zcv (kvs:List (κ × V))(k:κ)(v:V):(putK kvs k v).length<=kvs.length+1:=by
 unfold putK
 split
 · rw[List.length_map];omega
 · rw[List.length_append,List.length_cons,List.length_nil];omega
theorem RelO.isSome_eq {o:Option V}{u:Option Value}(r:RelO o u):o.isSome=u.isSome:=by
 cases o with
 | none => cases u with
   |none=>rfl
   |some _=>exact (show False from r).elim
 | some _ => cases u with
   |none=>exact (show False from r).elim
   |some _=>rfl
theorem RelO.getD {o:Option V}{u:Option Value}{d:V}{d':Value}(r:RelO o u)(rd:RelV d d'):RelV (o.getD d) (u.getD d'):=by
 cases o with
 | none => cases u with
   |none=>exact rd
   |some _=>exact (show False from r).elim
 | some _ => cases u with
   |none=>exact (show False from r).elim
   |some _=>exact r
theorem KV.val {kvs:List (κ × V)}{vs:List (κ × Value)}(r:KV kvs vs)(k:κ):RelO (valV kvs k) (valueAt vs k):=by
 unfold KV at r
 induction r with
 |nil=>exact True.intro
 | @cons p q ps qs h t ih =>
   obtain⟨h1,h2⟩:=h
   by_cases e:p.1=k
   · have e':q.1=k:=h1.symm.trans e
     have b:valueAt (q::qs) k=some q.2:=by simp[valueAt,List.find?_cons,e']
     rw[zc4 e,b];exact h2
   · have e':¬q.1=k:=fun z=>e (h1.trans z)
     have b:valueAt (q::qs) k=valueAt qs k:=by simp[valueAt,List.find?_cons,e']
     rw[zc5 e,b];exact ih
theorem KV.any {kvs:List (κ × V)}{vs:List (κ × Value)}(r:KV kvs vs)(k:κ):(kvs.any fun kv=>decide (kv.1=k))=vs.any fun kv=>decide (kv.1=k):=by
 unfold KV at r
 induction r with
 |nil=>rfl
 |cons h t ih=>rw[List.any_cons,List.any_cons,ih,h.1]
theorem KV.repl {kvs:List (κ × V)}{vs:List (κ × Value)}(r:KV kvs vs)(k:κ){y:V}{u:Value}(ry:RelV y u) :
  KV (kvs.map fun kv=>if kv.1=k then (kv.1,y) else kv) (vs.map fun kv=>if kv.1=k then (kv.1,u) else kv):=by
 unfold KV at r⊢
 induction r with
 |nil=>exact .nil
 | @cons p q ps qs h t ih =>
   rw[List.map_cons,List.map_cons]
   refine .cons ?_ ih
   obtain⟨h1,h2⟩:=h
   by_cases e:p.1=k
   · rw[if_pos e,if_pos (h1.symm.trans e)];exact⟨h1,ry⟩
   · rw[if_neg e,if_neg (fun z=>e (h1.trans z))];exact⟨h1,h2⟩
theorem KV.put {kvs:List (κ × V)}{vs:List (κ × Value)}(r:KV kvs vs)(k:κ){y:V}{u:Value}(ry:RelV y u):KV (putK kvs k y) (stored vs k u):=by
 unfold putK stored
 rw[r.any k]
 by_cases e:(vs.any fun kv=>decide (kv.1=k))=true
 · rw[if_pos e,if_pos e];exact r.repl k ry
 · rw[if_neg e,if_neg e];exact Paired.snoc r ⟨rfl,ry⟩
theorem KV.length {kvs:List (κ × V)}{vs:List (κ × Value)}(r:KV kvs vs):kvs.length=vs.length:=Paired.length r
end
theorem zif {P:Program}{w:World}{k:Key}{u:Value}(r:RelV (kV k) u):(zaq P w).is k u=true:=by
 cases k with
 |inl i=>obtain⟨t,e⟩:=(show ∃t,u=Value.int i t from r);subst e;exact zeB P w i t
 |inr x=>obtain⟨t,e⟩:=(show ∃t,u=Value.str x t from r);subst e;exact zeA P w x t
theorem zdW {P:Program}{w:World}:∀{ks:List Key} {us:List Value},Vals (ks.map kV) us->ItemsAre (zaq P w) ks us
 | [],_,r=>by rw[List.map_nil] at r;cases r;exact .nil
 | k :: ks, _, r => by
   rw[List.map_cons] at r
   cases r with
   |cons h t=>exact .cons (zif h) (zdW t)
noncomputable abbrev KT (H:Hp):List (List Key × V)->List (List Key × Addr × Value)->Prop:=Paired fun p q=>p.1=q.1/\H q.2.1=some (.tup (p.1.map kV))/\RelV p.2 q.2.2
theorem KT.val {H:Hp}{kvs:List (List Key × V)}{xs:List (List Key × Addr × Value)}(r:KT H kvs xs)(k:List Key):RelO (valV kvs k) ((atKey xs k).map (·.2)):=by
 induction r with
 |nil=>exact True.intro
 | @cons p q ps qs h t ih =>
   obtain⟨h1,_,h2⟩:=h
   by_cases e:p.1=k
   · have e':q.1=k:=h1.symm.trans e
     have b:atKey (q::qs) k=some q.2:=by simp[atKey,List.find?_cons,e']
     rw[zc4 e,b];exact h2
   · have e':¬q.1=k:=fun z=>e (h1.trans z)
     have b:atKey (q::qs) k=atKey qs k:=by simp[atKey,List.find?_cons,e']
     rw[zc5 e,b];exact ih
theorem KT.repl {H:Hp}{kvs:List (List Key × V)}{xs:List (List Key × Addr × Value)}(r:KT H kvs xs)(k:List Key){y:V}{u:Value}(ry:RelV y u) :
  KT H (kvs.map fun kv=>if kv.1=k then (kv.1,y) else kv) (xs.map (putAt k u)):=by
 induction r with
 |nil=>exact .nil
 | @cons p q ps qs h t ih =>
   rw[List.map_cons,List.map_cons]
   refine .cons ?_ ih
   obtain⟨h1,h2,h3⟩:=h
   unfold putAt
   by_cases e:p.1=k
   · rw[if_pos e,if_pos (h1.symm.trans e)];exact⟨h1,h2,ry⟩
   · rw[if_neg e,if_neg (fun z=>e (h1.trans z))];exact⟨h1,h2,h3⟩
theorem KT.put {H:Hp}{kvs:List (List Key × V)}{xs:List (List Key × Addr × Value)}(r:KT H kvs xs)(k:List Key){b:Addr}{y:V}{u:Value}(hb:H b=some (.tup (k.map kV)))(ry:RelV y u) :
  KT H (putK kvs k y) (storedH xs k b u):=by
 have e:(kvs.any fun kv=>decide (kv.1=k))=(atKey xs k).isSome:=by
  rw[zeU,(r.val k).isSome_eq,Option.isSome_map]
 unfold putK storedH
 rw[e]
 by_cases q:(atKey xs k).isSome=true
 · rw[if_pos q,if_pos q];exact r.repl k ry
 · rw[if_neg q,if_neg q];exact Paired.snoc r ⟨rfl,hb,ry⟩
theorem KT.keeps {H H':Hp}{kvs:List (List Key × V)}{xs:List (List Key × Addr × Value)}(r:KT H kvs xs)(ht:∀b ys,H b=some (.tup ys)->H' b=some (.tup ys)):KT H' kvs xs:=
 Paired.mapP r fun _ _ z=>⟨z.1,ht _ _ z.2.1,z.2.2⟩
section
variable {P:Program} {w:World} {H:Hp} {h:Heap} {a:Addr}
theorem zlp {u:HO}(ok:HOk P w H h)(e:Rd H a u):ObjOk P w H h a u:=e.ok ok
theorem zis {kvs:List (Key × V)}(ok:HOk P w H h)(e:Rd H a (.dK kvs)):kvs.length<=sizeLine/\(a == sysModules)=false/\∃vs,KV kvs vs/\h.DictOf (zaq P w) a vs:=
 show ObjOk P w H h a (.dK kvs) from zlp ok e
theorem znD {kvs:List (Key × V)}(ok:HOk P w H h)(e:H a=some (.dK kvs)):kvs.length<=sizeLine/\(a == sysModules)=false/\∃vs,KV kvs vs/\h.DictOf (zaq P w) a vs:=zis ok (.inl e)
theorem zdV {ks:List Key}(ok:HOk P w H h)(e:H a=some (.tup (ks.map kV))):(tupleKind (zaq P w)).is h ks a:=by
 obtain⟨_,its,r,o,h1,h2,n,h3⟩:=(show ObjOk P w H h a (.tup (ks.map kV)) from ok a _ e)
 exact⟨o,its.toArray,n,h1,h2,h3,by simpa using zdW r⟩
theorem zks {kvs:List (List Key × V)}(ok:HOk P w H h)(e:Rd H a (.dT kvs)):kvs.length<=sizeLine/\(a == sysModules)=false/\
  ∃xs,KT H kvs xs/\h.DictOfH (tupleKind (zaq P w)) a xs:=by
 obtain⟨z,y,xs,r,o,es,ep,h1,h2,h3,h4,h5⟩:=(show ObjOk P w H h a (.dT kvs) from zlp ok e)
 refine⟨z,y,xs,r,o,es,ep,h1,h2,h3,h4,fun x hx=>?_,h5⟩
 have all:∀{l:List (List Key × V)} {m:List (List Key × Addr × Value)},KT H l m->∀x∈m,(tupleKind (zaq P w)).is h x.1 x.2.1:=by
  intro l m q
  induction q with
  |nil=>intro x hx;exact nomatch hx
  | @cons p q ps qs hq t ih =>
    intro x hx
    rcases List.mem_cons.mp hx with e|hx
    · subst e
      exact zdV ok (by rw[<-hq.1];exact hq.2.1)
    · exact ih x hx
 exact all r x hx
theorem zfO {kvs:List (List Key × V)}(ok:HOk P w H h)(e:H a=some (.dT kvs)):kvs.length<=sizeLine/\(a == sysModules)=false/\
 ∃xs,KT H kvs xs/\h.DictOfH (tupleKind (zaq P w)) a xs:=zks ok (.inl e)
end
noncomputable def DGet (H:Hp)(a:Addr)(y:V)(r:Option V):Prop:=
 (∃kvs k,Rd H a (.dK kvs)/\y=kV k/\r=valV kvs k)\/∃kvs k b,Rd H a (.dT kvs)/\y=.ref b/\H b=some (.tup (k.map kV))/\r=valV kvs k
noncomputable def DPut (H:Hp)(a:Addr)(y v:V)(H':Hp):Prop:=
 (∃kvs k,H a=some (.dK kvs)/\y=kV k/\kvs.length<sizeLine/\H'=upd H a (.dK (putK kvs k v)))\/
 ∃kvs k b,H a=some (.dT kvs)/\y=.ref b/\H b=some (.tup (k.map kV))/\kvs.length<sizeLine/\H'=upd H a (.dT (putK kvs k v))
theorem DGet.k {H:Hp}{a:Addr}{kvs:List (Key × V)}{k:Key}(e:H a=some (.dK kvs)):DGet H a (kV k) (valV kvs k):=.inl ⟨kvs,k,.inl e,rfl,rfl⟩
theorem DGet.t {H:Hp}{a b:Addr}{kvs:List (List Key × V)}{k:List Key}(e:H a=some (.dT kvs))(eb:H b=some (.tup (k.map kV))):DGet H a (.ref b) (valV kvs k):=.inr ⟨kvs,k,b,.inl e,rfl,eb,rfl⟩
theorem DPut.k {H:Hp}{a:Addr}{kvs:List (Key × V)}{k:Key}{v:V}(e:H a=some (.dK kvs))(hl:kvs.length<sizeLine):DPut H a (kV k) v (upd H a (.dK (putK kvs k v))):=.inl ⟨kvs,k,e,rfl,hl,rfl⟩
theorem DPut.t {H:Hp}{a b:Addr}{kvs:List (List Key × V)}{k:List Key}{v:V}(e:H a=some (.dT kvs))(eb:H b=some (.tup (k.map kV)))(hl:kvs.length<sizeLine) :
 DPut H a (.ref b) v (upd H a (.dT (putK kvs k v))):=.inr ⟨kvs,k,b,e,rfl,eb,hl,rfl⟩
section
variable {X:Cx} {pins:List (Addr × Obj)} {σ:St} {H:Hp} {s:Shared} {a:Addr} {y v:V} {u r:Value} {o:Option V} {A:Around} {E:Value->Shared->Prop}
theorem Inv.big (I:Inv X pins σ H s):sysModules<s.heap.objs.size:=by
 have h:mainGlobals<s.heap.objs.size:=(I.mod.glob.keeps I.bk).lt
 exact Nat.lt_trans (by decide) h
theorem d_in {Q:Value->Shared->Prop}(hu:A.units+1<cLine)(I:Inv X pins σ H s)(g:DGet H a y o)(ry:RelV y u)(h:∀s',Inv X pins σ H s'->Q (.bool o.isSome) s') :
  wpAny (model X.prog X.w) A (compareOp .In u (.ref a)) Q E s:=by
 rcases g with ⟨kvs,k,e,ey,l⟩|⟨kvs,k,b,e,ey,eb,l⟩
 · subst ey
   obtain⟨z,hd,vs,rel,dd⟩:=zis I.hok e
   refine wpAny_in_of (zif ry) hd dd.mapOf ?_
   rw[<-(rel.val k).isSome_eq,<-l]
   exact h _ (I.tok _)
 · subst ey
   cases (show u=Value.ref b from ry)
   obtain⟨z,hd,xs,rel,dd⟩:=zks I.hok e
   refine wpAny_in_heap (tupleKind_room_in1 hu) (zdV I.hok eb) hd dd ?_
   have q:=(rel.val k).isSome_eq
   rw[Option.isSome_map] at q
   rw[<-q,<-l]
   exact h _ (I.tok _)
theorem zkt {Q:Value->Shared->Prop}(hu:A.units+1<cLine)(I:Inv X pins σ H s)(g:DGet H a y o)(ry:RelV y u)(h:∀s',Inv X pins σ H s'->Q (.bool (!o.isSome)) s') :
  wpAny (model X.prog X.w) A (compareOp .NotIn u (.ref a)) Q E s:=by
 rcases g with ⟨kvs,k,e,ey,l⟩|⟨kvs,k,b,e,ey,eb,l⟩
 · subst ey
   obtain⟨z,hd,vs,rel,dd⟩:=zis I.hok e
   refine wpAny_notIn_of (zif ry) hd dd.mapOf ?_
   rw[<-(rel.val k).isSome_eq,<-l]
   exact h _ (I.tok _)
 · subst ey
   cases (show u=Value.ref b from ry)
   obtain⟨z,hd,xs,rel,dd⟩:=zks I.hok e
   refine wpAny_notIn_heap (tupleKind_room_in1 hu) (zdV I.hok eb) hd dd ?_
   have q:=(rel.val k).isSome_eq
   rw[Option.isSome_map] at q
   rw[<-q,<-l]
   exact h _ (I.tok _)
theorem zeI {h':Heap}{t':Nat}{ob:HO}(I:Inv X pins σ H s)(mu:Mut (H a))(hs:Heap.SameBut a s.heap h')(he:∃q,h'.get? a=some q)(new:ObjOk X.prog X.w (upd H a ob) h' a ob) :
  Inv X pins σ (upd H a ob) {s with heap:=h',toks:=t'}:=
 I.write (x:=a) (e:=a) mu (.inl rfl) (fun b q hb z=>(hs.2 b hb).trans z) he new
theorem zmo {P:Program}{w:World}{H':Hp}{h':Heap}{kvs:List (Key × V)}{vs:List (Key × Value)}(z:kvs.length<=sizeLine)(hd:(a == sysModules)=false)(rel:KV kvs vs)(dd:h'.DictOf (zaq P w) a vs) :
 ObjOk P w H' h' a (.dK kvs):=⟨z,hd,vs,rel,dd⟩
theorem zhe {H':Hp}{Q:Unit->Shared->Prop}(hu:A.units+1<cLine)(I:Inv X pins σ H s)(g:DPut H a y v H')(ry:RelV y u)(rv:RelV v r)(h:∀s',Inv X pins σ H' s'->Q () s') :
  wpAny (model X.prog X.w) A (setItem (.ref a) u r) Q E s:=by
 rcases g with ⟨kvs,k,e,ey,l,eH⟩|⟨kvs,k,b,e,ey,eb,l,eH⟩
 · subst ey eH
   obtain⟨z,hd,vs,rel,dd⟩:=znD I.hok e
   have hz:vs.length<=sizeLine:=by rw[<-rel.length];exact z
   have hl:(putK kvs k v).length<=sizeLine:=by have:=zcv kvs k v;omega
   refine wpAny_setItem_pairs (hsz:=hz) (zif ry) dd fun h' dd' hs=>h _ ?_
   have he:∃q,h'.get? a=some q:=let ⟨q,_,_,hq,_⟩:=dd';⟨q,hq⟩
   exact zeI I (by rw[e];exact True.intro) hs he (zmo hl hd (rel.put k rv) dd')
 · subst ey eH
   cases (show u=Value.ref b from ry)
   obtain⟨z,hd,xs,rel,dd⟩:=zfO I.hok e
   have hz:xs.length<=sizeLine:=by rw[<-Paired.length rel];exact z
   have hl:(putK kvs k v).length<=sizeLine:=by have:=zcv kvs k v;omega
   refine wpAny_setItem_heap (hsz:=hz) (tupleKind_room_in1 hu) (zdV I.hok eb) dd fun h' dd' hs=>h _ ?_
   obtain⟨q,es,ep,hq,h2,h3,h4,_,h5⟩:=dd'
   refine zeI I (by rw[e];exact True.intro) hs ⟨q,hq⟩ ⟨hl,hd,_,(rel.put k eb rv).keeps fun c ys ec=>?_,q,es,ep,hq,h2,h3,h4,h5⟩
   rw[zaf (ne_of ec e (fun z=>nomatch z))]
   exact ec
end
section
variable {X:Cx} {pins:List (Addr × Obj)} {σ:St} {H:Hp} {s:Shared} {a:Addr} {kvs:List (Key × V)} {k:Key} {u:Value} {A:Around} {E:Value->Shared->Prop}
theorem znE {Q:Value->Shared->Prop}(I:Inv X pins σ H s)(e:Rd H a (.dK kvs))(h:∀t s',Inv X pins σ H s'->Q (.int kvs.length t) s'):wpAny (model X.prog X.w) A (call (.builtin "len") [.ref a]) Q E s:=by
 obtain⟨z,hd,vs,rel,dd⟩:=zis I.hok e
 refine call_len_dict hd dd (by rw[<-rel.length];rw[sizeLine_eq] at z;omega) ?_
 rw[<-rel.length]
 exact h _ _ (I.tok _)
end
section
variable {X:Cx} {o i e value:Expr} {pos pos' tpos:Pos} {td ty tv:TE}
end
section
variable {X:Cx} {pos:Pos}
end
structure M1 (X:Cx) (o:Expr) (m:Str) (apos:Pos) (e:Expr) (cpos:Pos):Prop where
 base:attributeBase o m X.env (eval o X.env)=eval o X.env
 few:((backTo cpos (starEach [e] X.env)).all (fun x=>!x.1)&&(backToKw cpos (keywordEach [] X.env)).all (fun x=>x.1.isSome)
  && decide (([e]:List Expr).length+([]:List Keyword).length+(if ([]:List Keyword).isEmpty then 0 else 1)<30))=true
 line:(apos.endLine == cpos.line)=true
 trees:backTo cpos (starEach [e] X.env)=[(false,eval e X.env)]
structure M2 (X:Cx) (o:Expr) (m:Str) (apos:Pos) (e f:Expr) (cpos:Pos):Prop where
 base:attributeBase o m X.env (eval o X.env)=eval o X.env
 few:((backTo cpos (starEach [e,f] X.env)).all (fun x=>!x.1)&&(backToKw cpos (keywordEach [] X.env)).all (fun x=>x.1.isSome)
  && decide (([e,f]:List Expr).length+([]:List Keyword).length+(if ([]:List Keyword).isEmpty then 0 else 1)<30))=true
 line:(apos.endLine == cpos.line)=true
 trees:backTo cpos (starEach [e,f] X.env)=[(false,eval e X.env),(false,eval f X.env)]
section
variable {X:Cx} {pins:List (Addr × Obj)} {σ:St} {H:Hp} {s:Shared} {a:Addr} {y d:V} {u r:Value} {o:Option V} {A:Around} {E:Value->Shared->Prop}
end
section
variable {X:Cx} {o e f:Expr} {apos cpos:Pos} {td ty tx:TE}
end
section
variable {X:Cx} {pins:List (Addr × Obj)} {σ:St} {H:Hp} {s:Shared} {a:Addr} {kvs:List (Key × V)} {A:Around} {E:Value->Shared->Prop}
end
section
variable {X:Cx} {pins:List (Addr × Obj)} {σ:St} {H:Hp} {s:Shared} {a:Addr} {y:V} {u:Value} {A:Around} {E:Value->Shared->Prop}
end
end L2
namespace HT
open PySem PyProof.Rows
noncomputable def lexLt:List Int->List Int->Bool
 | [],[]=>false
 | [],_::_=>true
 |_::_,[]=>false
 |x::xs,y::ys=>if x=y then lexLt xs ys else decide (x<y)
theorem zfJ (x y:Int)(xs ys:List Int):lexLt (x::xs) (y::ys)=if x=y then lexLt xs ys else decide (x<y):=rfl
theorem zdi:lexLt [] []=false:=rfl
theorem zcO (y:Int)(ys:List Int):lexLt [] (y::ys)=true:=rfl
theorem zcP (x:Int)(xs:List Int):lexLt (x::xs) []=false:=rfl
theorem zir (A:Around)(s:Shared)(a:Int)(t:Tok)(c:Int)(u:Tok):∃e,SeqAt.EqAt A s (.int a t) (.int c u) e/\(e=true↔a=c):=
 ⟨(a == c),SeqAt.EqAt.int_int a t c u,by simp⟩
theorem zhN (A:Around)(s:Shared)(a:Int)(t:Tok)(c:Int)(u:Tok)(prog:Program)(w:World)(E:Value->Shared->Prop)(Q:Value->Shared->Prop)(h:Q (.bool (decide (a<c))) s) :
  wpAny (model prog w) A (richCompare .Lt (.int a t) (.int c u)) Q E s:=
 (PyProof.Rows.lt_int h:wpAny (model prog w) A (compareOp .Lt (.int a t) (.int c u)) Q E s)
section
open PySem.SeqAt
open PySem.AutoSeq1 (wpAny_loadPart')
open PySem.MeetsSeq PySem.MeetsSeq2 PySem.MeetsSeq3
theorem zc7 (l b:Addr)(items items2:Array Value)(n n2:Nat)(dd dd2:Option Addr)(sl sl2:Array (Option Value))(ns ms:List Int)(hi:IntsAre items.toList ns)(hj:IntsAre items2.toList ms) :
  Meets (Builtin.«tuple.__lt__» ⟨[.ref l,.ref b],[]⟩)
   (fun _ R s=>s.heap.get? l=some {cls:=.type "tuple",dict:=dd,data:=.seq items n,slots:=sl}/\s.heap.get? b=some {cls:=.type "tuple",dict:=dd2,data:=.seq items2 n2,slots:=sl2}/\
    R (.ok (.ret (.bool (lexLt ns ms)))) s):=
 .of_wp fun prog w A R s h=>by
  obtain⟨hp,g,d,tk,os⟩:=s;obtain⟨hl,hb,h⟩:=h
  have f2:=AutoSeq1.sub_tuple_tuple
  have z1:items.size=ns.length:=by rw[<-hi.length];simp
  have z2:items2.size=ms.length:=by rw[<-hj.length];simp
  wp_walk using wpAny_loadPart' hl,wpAny_loadPart' hb,wpAny_forIn_list _ (fun rest b s'=>b.1=none/\s'=⟨hp,g,d,tk,os⟩/\∃(vs ws:List Value) (ns' ms':List Int),rest=vs.zip ws/\
   IntsAre vs ns'/\IntsAre ws ms'/\ns'.length+items2.size=ms'.length+items.size/\R (.ok (.ret (.bool (lexLt ns' ms')))) ⟨hp,g,d,tk,os⟩) _
  case turn=>
   rintro⟨y,x⟩ rest b s' ⟨hb',rfl,vs,ws,ns',ms',hz,hvi,hwi,hlen,hR⟩
   cases hvi with
   |nil=>rw[List.zip_nil_left] at hz;cases hz
   | cons a t hvi' =>
     cases hwi with
     |nil=>rw[List.zip_nil_right] at hz;cases hz
     | cons c u hwi' =>
       rw[List.zip_cons_cons] at hz
       injection hz with hyx hrest
       injection hyx with hy hx
       subst hy hx
       rw[zfJ] at hR
       simp only[List.length_cons] at hlen
       obtain⟨e,he,hiff⟩:=zir A.in1 ⟨hp,g,d,tk,os⟩ a t c u
       refine wpAny_bind (he prog w _ _ ?_)
       cases e with
       | true =>
         rw[if_pos (hiff.mp rfl)] at hR
         wp_walk
         exact⟨rfl,rfl,_,_,_,_,hrest,hvi',hwi',by omega,hR⟩
       | false =>
         rw[if_neg (fun q=>absurd (hiff.mpr q) Bool.false_ne_true)] at hR
         have hri:=zhN A.in1 ⟨hp,g,d,tk,os⟩ a t c u prog w
         wp_walk using hri
         exact⟨_,rfl,by simpa using hR⟩
  case fin=>
   rintro⟨b1,b2⟩ s' ⟨hb',rfl,vs,ws,ns',ms',hz,hvi,hwi,hlen,hR⟩
   simp only at hb'
   subst hb'
   have hv:lexLt ns' ms'=decide (items.size<items2.size):=by
    cases hvi with
    | nil =>
      cases hwi with
      | nil =>
        simp only[List.length_nil] at hlen
        rw[zdi]
        exact (decide_eq_false (by omega)).symm
      | cons c u hw =>
        simp only[List.length_nil,List.length_cons] at hlen
        rw[zcO]
        exact (decide_eq_true (by omega)).symm
    | cons a t hv =>
      cases hwi with
      | nil =>
        simp only[List.length_nil,List.length_cons] at hlen
        rw[zcP]
        exact (decide_eq_false (by omega)).symm
      | cons c u hw =>
        rw[List.zip_cons_cons] at hz
        cases hz
   rw[hv] at hR
   wp_walk
   exact⟨_,rfl,by simpa[Builtin.Tuple.tupleCompareSizes] using hR⟩
  case h=>
   exact⟨rfl,rfl,items.toList,items2.toList,ns,ms,rfl,hi,hj,by omega,h⟩
end
section
variable {prog:Program} {w:World} {A:Around} {E:Value->Shared->Prop} {s:Shared}
theorem lt_tupInts {l b:Addr}{items items2:Array Value}{ns ms:List Int}{Q:Value->Shared->Prop}(hl:IsTup s.heap l items)(hb:IsTup s.heap b items2)(hi:IntsAre items.toList ns)(hj:IntsAre items2.toList ms)
  (hu:A.units<cLine) (h:Q (.bool (lexLt ns ms)) s):wpAny (model prog w) A (compareOp .Lt (.ref l) (.ref b)) Q E s:=by
 obtain⟨⟨cls,dd,data,sl⟩,ho,hc,n,hd⟩:=id hl
 obtain⟨⟨cls2,dd2,data2,sl2⟩,ho2,hc2,n2,hd2⟩:=id hb
 simp only at hc hd hc2 hd2
 subst hc hd hc2 hd2
 exact richCompare_meets_room (op:=.Lt) ⟨_,ho,rfl⟩ ⟨_,ho2,rfl⟩ PySem.F.slot_tuple_lt PySem.F.entry_tuple_lt (PySem.F.args_tuple_lt_2 _ _) (zc7 l b items items2 n n2 dd dd2 sl sl2 ns ms hi hj)
  ⟨ho,ho2,show Value.bool (lexLt ns ms)≠Value.notImplemented/\Q (.bool (lexLt ns ms)) s from⟨(fun x=>nomatch x),h⟩⟩ hu
theorem cat_tup {t b:Addr}{vs ws:List Value}{Q:Value->Shared->Prop}(ht:IsTup s.heap t vs.toArray)(hb:IsTup s.heap b ws.toArray)(hv:vs≠[])
  (h1:ws=[]->Q (.ref t) s) (h2:ws≠[]->Q (.ref s.heap.objs.size) {s with heap:=s.heap.push {cls:=.type "tuple",data:=.seq (vs++ws).toArray}})
  (hsz:vs.length+ws.length<=sizeLine):wpAny (model prog w) A (binaryOp .Add (.ref t) (.ref b)) Q E s:=by
 obtain⟨⟨cls,dd,data,sl⟩,ho,hc,n,hd⟩:=id ht
 obtain⟨⟨cls2,dd2,data2,sl2⟩,ho2,hc2,n2,hd2⟩:=id hb
 simp only at hc hd hc2 hd2
 subst hc hd hc2 hd2
 have e:vs.toArray++ws.toArray=(vs++ws).toArray:=by simp
 by_cases hw:ws=[]
 · exact concat_meets ⟨_,ho,rfl⟩ ⟨_,ho2,rfl⟩ noFill_tuple_add seq_tuple_add PySem.F.slot_tuple_add PySem.F.entry_tuple_add (PySem.F.args_tuple_add_2 _ _)
    (tuple_addW1 t b vs.toArray ws.toArray n n2 dd dd2 sl sl2 (by simpa using hv) (by simp[hw])) ⟨ho,ho2,h1 hw⟩
 · refine concat_meets ⟨_,ho,rfl⟩ ⟨_,ho2,rfl⟩ noFill_tuple_add seq_tuple_add PySem.F.slot_tuple_add PySem.F.entry_tuple_add (PySem.F.args_tuple_add_2 _ _)
    (tuple_addW2 t b vs.toArray ws.toArray n n2 dd dd2 sl sl2 (by simpa using hv) (by simpa using hw) (by rw[List.size_toArray,List.size_toArray];exact hsz)) ⟨ho,ho2,?_⟩
   rw[e]
   exact h2 hw
noncomputable def sIx (n d:Nat):Option Int->Nat
 |none=>d
 |some v=>if v<0 then (v+(n:Int)).toNat else min v.toNat n
theorem zln (n d:Nat)(hd:d<=n)(o:Option Int):sIx n d o<=n:=by
 cases o with
 |none=>exact hd
 | some v =>
   show (if v<0 then (v+(n:Int)).toNat else min v.toNat n)<=n
   by_cases hv:v<0
   · rw[if_pos hv];omega
   · rw[if_neg hv];exact Nat.min_le_right _ _
theorem zhj (v:Int)(n d:Nat):(if v<0 then max (v+(n:Int)) 0 else min v (n:Int))=((sIx n d (some v):Nat):Int):=by
 show (if v<0 then max (v+(n:Int)) 0 else min v (n:Int))=(((if v<0 then (v+(n:Int)).toNat else min v.toNat n):Nat):Int)
 by_cases hv:v<0
 · simp only[if_pos hv];omega
 · simp only[if_neg hv];omega
theorem zfT (lo hi:Option Int)(n:Nat):Builtin.Slice.sliceAdjust lo hi 1 (n:Int)=(((sIx n 0 lo:Nat):Int),((sIx n n hi:Nat):Int)):=by
 have h1:¬((1:Int)<0):=by omega
 unfold Builtin.Slice.sliceAdjust
 simp only[h1,if_false]
 refine Prod.ext ?_ ?_
 · cases lo with
   |none=>rfl
   |some v=>exact zhj v n 0
 · cases hi with
   |none=>rfl
   |some v=>exact zhj v n n
theorem zfF (i j:Nat):Builtin.Slice.slicePlaces (i:Int) (j:Int) 1=j - i:=by
 unfold Builtin.Slice.slicePlaces
 have h1:(1:Int) > 0:=by omega
 simp only[h1,if_true,Int.ediv_one]
 split<;>omega
theorem zcS {v:Value}{o:Option Int}{Q:Option Int->Shared->Prop}(p:IsPart v o)(h:Q o s):wpAny (model prog w) A (Builtin.Slice.slicePartIndex v) Q E s:=by
 cases p with
 |none=>exact slicePart_none h
 |int i t=>exact slicePart_int h
theorem sliceApplied_gen {sl:Addr}{vl vu:Value}{lo hi:Option Int}{n:Nat}{Q:Int × Int × Nat->Shared->Prop}(hs:s.heap.IsSliceOf sl vl vu .none)(pl:IsPart vl lo)(pu:IsPart vu hi)
  (h:Q (((sIx n 0 lo:Nat):Int),1,sIx n n hi - sIx n 0 lo) s):wpAny (model prog w) A (Builtin.Slice.sliceApplied (.ref sl) (pure (n:Int))) Q E s:=by
 obtain⟨os,hos,hcs,hds⟩:=id hs
 unfold Builtin.Slice.sliceApplied Builtin.Slice.sliceFields
 refine wpAny_bind (wpAny_bind (wpAny_field hos hds (x:=vl) rfl (wpAny_bind (wpAny_field hos hds (x:=vu) rfl (wpAny_bind (wpAny_field hos hds (x:=.none) rfl (wpAny_pure ?_)))))))
 refine wpAny_bind (slicePart_none ?_)
 show wpAny _ _ (if ((1:Int) == 0)=true then _ else _) _ _ s
 rw[if_neg (by decide)]
 refine wpAny_bind (zcS pl (wpAny_bind (zcS pu (wpAny_bind (wpAny_pure ?_)))))
 show wpAny _ _ (match Builtin.Slice.sliceAdjust lo hi 1 (n:Int) with|(lo,hi)=>pure (lo,(1:Int),Builtin.Slice.slicePlaces lo hi 1)) _ _ s
 rw[zfT lo hi n]
 show wpAny _ _ (pure (((sIx n 0 lo:Nat):Int),(1:Int),Builtin.Slice.slicePlaces ((sIx n 0 lo:Nat):Int) ((sIx n n hi:Nat):Int) 1)) _ _ s
 rw[zfF]
 exact wpAny_pure h
theorem zhV (xs:Array Value)(i k:Nat):((List.range k).filterMap fun (m:Nat)=>xs[((i:Int)+(m:Int) * 1).toNat]?).toArray=((xs.toList.drop i).take k).toArray:=by
 have e:(fun (m:Nat)=>xs[((i:Int)+(m:Int) * 1).toNat]?)=fun m=>xs[i+m]?:=by
  funext m
  have:((i:Int)+(m:Int) * 1).toNat=i+m:=by omega
  rw[this]
 rw[e]
 have:=pick_run xs i k
 rw[List.filterMap_map] at this
 have e2:((fun x=>xs[x]?)∘fun x=>i+x)=fun m=>xs[i+m]?:=rfl
 rw[e2] at this
 rw[this]
theorem getItem_tuple_cut {t sl:Addr}{items:Array Value}{vl vu:Value}{lo hi:Option Int}{Q:Value->Shared->Prop}(ht:IsTup s.heap t items)(hs:s.heap.IsSliceOf sl vl vu .none)(pl:IsPart vl lo)(pu:IsPart vu hi)
  (hw:¬(sIx items.size 0 lo=0/\sIx items.size items.size hi=items.size))
  (h:Q (.ref s.heap.objs.size) {s with heap:=s.heap.push {cls:=.type "tuple",data:=.seq ((items.toList.drop (sIx items.size 0 lo)).take (sIx items.size items.size hi - sIx items.size 0 lo)).toArray}})
  (hsz:items.size<=sizeLine):wpAny (model prog w) A (getItem (.ref t) (.ref sl)) Q E s:=by
 have htake:sizeOk (.seq ((items.toList.drop (sIx items.size 0 lo)).take (sIx items.size items.size hi - sIx items.size 0 lo)).toArray):=by
  show ((items.toList.drop (sIx items.size 0 lo)).take (sIx items.size items.size hi - sIx items.size 0 lo)).toArray.size<=sizeLine
  rw[List.size_toArray,List.length_take,List.length_drop,Array.length_toList]
  omega
 have hj:sIx items.size items.size hi<=items.size:=zln _ _ (Nat.le_refl _) hi
 obtain⟨os,hos,hcs,hds⟩:=id hs
 have hTs:s.TypeIs (.ref sl) "slice":=⟨os,hos,hcs⟩
 unfold getItem
 try with_reducible refine wpAny_holding ?_
 first|refine wpAny_bind (wpAny_pure ?_)|skip
 refine wpAny_bind (wpAny_sequenceKey ht.typeIs (by decide) ?_)
 refine wpAny_bind (wpAny_callSpecial?_slot (name:=Str.ofString "__getitem__") ht.typeIs PyProof.Rows.slot_tuple_getitem
  (wpAny_call_entry PyProof.Rows.slot_tuple_getitem ht.typeIs entry_tuple_getitem ?_ (args_tuple_getitem _ _)))
 show wpAny _ _ (Builtin.Tuple.tupleItemsOf (.ref t) >>= _) _ _ s
 refine wpAny_bind (tupleItemsOf_ ht ?_)
 refine wpAny_bind (wpAny_typeOf hTs ?_)
 rw[if_pos (by decide)]
 refine wpAny_bind (sliceApplied_gen hs pl pu ?_)
 have hno:¬((((sIx items.size 0 lo:Nat):Int) == 0&&(1:Int) == 1&&(sIx items.size items.size hi - sIx items.size 0 lo) == items.size)=true):=by
  intro q
  rw[Bool.and_eq_true,Bool.and_eq_true] at q
  have q1:((sIx items.size 0 lo:Nat):Int)=0:=eq_of_beq q.1.1
  have q2:sIx items.size items.size hi - sIx items.size 0 lo=items.size:=eq_of_beq q.2
  exact hw ⟨by omega,by omega⟩
 show wpAny _ _ (if (((sIx items.size 0 lo:Nat):Int) == 0&&(1:Int) == 1&&(sIx items.size items.size hi - sIx items.size 0 lo) == items.size)=true then _ else _) _ _ s
 rw[if_neg hno,zhV]
 first
  |exact wpAny_bind (m:=Builtin.Tuple.tupleExact _) (wpAny_newObj_type (wpAny_pure ⟨_,rfl,wpAny_pure h⟩) htake)
  |exact wpAny_bind (m:=Builtin.Tuple.tupleExact _) (wpAny_newObj_type (wpAny_bind (wpAny_pure (wpAny_pure ⟨_,rfl,wpAny_pure h⟩))) htake)
  |exact wpAny_bind (wpAny_bind (m:=Builtin.Tuple.tupleExact _) (wpAny_newObj_type (wpAny_pure (wpAny_pure ⟨_,rfl,wpAny_pure h⟩)) htake))
  |exact wpAny_bind (wpAny_bind (m:=Builtin.Tuple.tupleExact _) (wpAny_newObj_type (wpAny_pure ⟨_,rfl,wpAny_pure h⟩) htake))
end
end HT
namespace L2
open PySem PySem.Spec PyProof.Rows
noncomputable abbrev TO:=St->Hp->(Option Int->Hp->Prop)->Prop
noncomputable def PO (X:Cx)(e:Option Expr)(t:TO):Prop:=
 ∀(pins:List (Addr × Obj)) (s:Shared) (σ:St) (H:Hp) (Q:Option Int->Hp->Prop),Inv X pins σ H s->t σ H Q->
  wpAny (model X.prog X.w) X.A (evalPart e X.env) (fun u s'=>∃o H',Inv X pins σ H' s'/\IsPart u o/\Q o H') X.xe s
noncomputable def zjj:TO:=fun _ H Q=>Q none H
noncomputable def zmR (t:TE):TO:=fun σ H Q=>t σ H fun x H1=>∃i,x=.int i/\Q (some i) H1
theorem zcY {ns:List Int}:∀{us:List Value},Vals (ns.map V.int) us->IntsAre us ns:=by
 induction ns with
 |nil=>intro us r;rw[List.map_nil] at r;cases r;exact .nil
 | cons n ns ih =>
   intro us r
   rw[List.map_cons] at r
   cases r with
   | cons r1 r2 =>
     obtain⟨t,e⟩:=r1
     subst e
     exact .cons n t (ih r2)
section
variable {X:Cx} {e:Expr} {te:TE} {lo hi:Option Expr} {tl th:TO} {pos p2:Pos}
theorem zjU:PO X none zjj:=by
 intro pins s σ H Q I h
 rw[evalPart_none]
 exact wpAny_pure ⟨none,H,I,.none,h⟩
theorem zjT (h:PE X e te):PO X (some e) (zmR te):=by
 intro pins s σ H Q I hw
 rw[evalPart_some]
 refine thn (h pins s σ H _ I hw) fun u s1 ⟨x,H1,I1,r1,q1⟩=>?_
 obtain⟨i,rfl,q⟩:=q1
 obtain⟨t,rfl⟩:=r1
 exact⟨some i,H1,I1,.int i t,q⟩
noncomputable def SlR (X:Cx)(r:V->Option Int->Option Int->Hp->VK->Prop):Prop:=
 ∀(pins:List (Addr × Obj)) (s:Shared) (σ:St) (H:Hp) (x:V) (v vl vu:Value) (lo hi:Option Int) (sl:Addr) (Q:VK),Inv X pins σ H s->RelV x v->s.heap.IsSliceOf sl vl vu .none->IsPart vl lo->IsPart vu hi->r x lo hi H Q->
  ∃T id,typeLookup (.type T) "__getitem__"=pure (some (.builtin id))/\s.TypeIs v T/\wpAny (model X.prog X.w) X.A (getItem v (.ref sl)) (EP X pins σ Q) X.xe s
theorem SlR.or {r r':V->Option Int->Option Int->Hp->VK->Prop}(h:SlR X r)(h':SlR X r'):SlR X (fun x lo hi H Q=>r x lo hi H Q\/r' x lo hi H Q):=by
 intro pins s σ H x v vl vu lo hi sl Q I rx hs pl pu q
 rcases q with q|q
 · exact h pins s σ H x v vl vu lo hi sl Q I rx hs pl pu q
 · exact h' pins s σ H x v vl vu lo hi sl Q I rx hs pl pu q
noncomputable def tSl (r:V->Option Int->Option Int->Hp->VK->Prop)(te:TE)(tl th:TO):TE:=fun σ H Q=>te σ H fun x H1=>tl σ H1 fun l H2=>th σ H2 fun u H3=>r x l u H3 Q
theorem zhX {r:V->Option Int->Option Int->Hp->VK->Prop}(hr:SlR X r)(he:PE X e te)(hl:PO X lo tl)(hu:PO X hi th):PE X (.Subscript e (.Slice lo hi none p2) pos) (tSl r te tl th):=by
 intro pins s σ H Q I h
 refine Subscript_ (thn (he pins s σ H _ I h) fun v s1 ⟨x,H1,I1,r1,q1⟩=>?_)
 refine wpAny_Slice (thn (hl pins s1 σ H1 _ I1 q1) fun vl s2 ⟨l,H2,I2,pl,q2⟩=>thn (hu pins s2 σ H2 _ I2 q2) fun vu s3 ⟨u,H3,I3,pu,q3⟩=>?_)
 rw[evalPart_none]
 refine wpAny_pure ?_
 have I4:Inv X pins σ H3 {s3 with heap:=s3.heap.push {cls:=.type "slice",data:=.fields #[vl,vu,.none]}}:=I3.kept (t':=s3.toks) fun b ob q=>Heap.get?_push_of_some _ q
 obtain⟨T,id,hT,ht,hg⟩:=hr pins {s3 with heap:=s3.heap.push {cls:=.type "slice",data:=.fields #[vl,vu,.none]}} σ H3 x v vl vu l u s3.heap.objs.size Q I4 r1 (Heap.IsSliceOf.new ..) pl pu q3
 show wpAny (model X.prog X.w) X.A (subscriptTail e (.Slice lo hi none p2) v (.ref s3.heap.objs.size)) (EP X pins σ Q) X.xe {s3 with heap:=s3.heap.push {cls:=.type "slice",data:=.fields #[vl,vu,.none]}}
 exact tail_any (ops:=[.ref s3.heap.objs.size,v]) ht hT hg (by with_unfolding_all rfl)
noncomputable def cutV (xs:List V)(lo hi:Option Int):List V:=(xs.drop (HT.sIx xs.length 0 lo)).take (HT.sIx xs.length xs.length hi - HT.sIx xs.length 0 lo)
theorem zcH (xs:List V)(lo hi:Option Int):(cutV xs lo hi).length<=xs.length:=by
 unfold cutV
 rw[List.length_take,List.length_drop]
 omega
noncomputable def rSlT (K:PySem.W.Frag):V->Option Int->Option Int->Hp->VK->Prop:=fun x lo hi H Q=>∃a xs,x=.ref a/\SqT K H a xs/\
 ¬(HT.sIx xs.length 0 lo=0/\HT.sIx xs.length xs.length hi=xs.length)/\∀p,H p=none->Q (.ref p) (upd H p (.tup (cutV xs lo hi)))
theorem zk9:SlR X (rSlT X.K):=by
 intro pins s σ H x v vl vu lo hi sl Q I rx hs pl pu h
 obtain⟨a,xs,rfl,hx,hw,q⟩:=h
 cases rx
 obtain⟨its,r,ht,hz⟩:=I.tuple hx
 have hlen:its.toArray.size=xs.length:=by rw[List.size_toArray];exact r.length.symm
 refine⟨"tuple",_,PyProof.Rows.slot_tuple_getitem.lookup,ht.typeIs,?_⟩
 refine HT.getItem_tuple_cut ht hs pl pu (by rw[hlen];exact hw) ?_ (by rw[hlen];exact hz)
 rw[hlen]
 refine⟨.ref s.heap.objs.size,_,I.laid (t':=s.toks) (o:=.tup (cutV xs lo hi)) (fun b ob q=>Heap.get?_push_of_some _ q) (Nat.le_refl _) ?_,rfl,q _ (I.hok.fresh (Nat.le_refl _))⟩
 exact⟨Nat.le_trans (zcH xs lo hi) hz,_,(r.drop (HT.sIx xs.length 0 lo)).take (HT.sIx xs.length xs.length hi - HT.sIx xs.length 0 lo),IsTup.new _ _⟩
noncomputable def rLtT (K:PySem.W.Frag):R2:=fun x y H Q=>∃a b ns ms,x=.ref a/\y=.ref b/\SqT K H a (ns.map V.int)/\SqT K H b (ms.map V.int)/\Q (.bl (HT.lexLt ns ms)) H
theorem zlV (hu:X.A.units<cLine):OpR X (compareOp .Lt) (rLtT X.K):=by
 intro pins s σ H x y v u Q I rx ry h
 obtain⟨a,b,ns,ms,rfl,rfl,ha,hb,q⟩:=h
 cases rx
 cases ry
 obtain⟨its,r1,p1,_⟩:=I.tuple ha
 obtain⟨its2,r2,p2,_⟩:=I.tuple hb
 have i1:IntsAre its.toArray.toList ns:=zcY r1
 have i2:IntsAre its2.toArray.toList ms:=zcY r2
 exact HT.lt_tupInts p1 p2 i1 i2 hu ⟨.bl (HT.lexLt ns ms),H,I,rfl,q⟩
noncomputable def zm5 (K:PySem.W.Frag):R2:=fun x y H Q=>∃a b xs ys,x=.ref a/\y=.ref b/\SqT K H a xs/\SqT K H b ys/\xs≠[]/\xs.length+ys.length<=sizeLine/\
 (ys=[]->Q (.ref a) H)/\(ys≠[]->∀p,H p=none->Q (.ref p) (upd H p (.tup (xs++ys))))
theorem Vals.nil_iff {xs:List V}{us:List Value}(r:Vals xs us):us=[]↔xs=[]:=by
 cases r with
 |nil=>simp
 |cons _ _=>simp
theorem zj3:OpR X (binaryOp .Add) (zm5 X.K):=by
 intro pins s σ H x y v u Q I rx ry h
 obtain⟨a,b,xs,ys,rfl,rfl,ha,hb,hx,hz,q1,q2⟩:=h
 cases rx
 cases ry
 obtain⟨its,r1,p1,_⟩:=I.tuple ha
 obtain⟨its2,r2,p2,_⟩:=I.tuple hb
 refine HT.cat_tup p1 p2 (fun z=>hx (r1.nil_iff.mp z)) (fun z=>⟨.ref a,H,I,rfl,q1 (r2.nil_iff.mp z)⟩) (fun z=>?_) (by rw[<-r1.length,<-r2.length];exact hz)
 refine⟨.ref s.heap.objs.size,_,I.laid (t':=s.toks) (o:=.tup (xs++ys)) (fun b ob q=>Heap.get?_push_of_some _ q) (Nat.le_refl _) ?_,rfl,q2 (fun w=>z (r2.nil_iff.mpr w)) _ (I.hok.fresh (Nat.le_refl _))⟩
 exact⟨by rw[List.length_append];exact hz,_,r1.append r2,IsTup.new _ _⟩
end
end L2
namespace L2
open PySem PySem.Spec PyProof.Rows
noncomputable def ixN (n:Nat)(i:Int):Option Nat:=if 0<=i then (if i<n then some i.toNat else none) else if -(n:Int)<=i then some (i+n).toNat else none
noncomputable def atI {α:Type}(xs:List α)(i:Int):Option α:=(ixN xs.length i).bind fun j=>xs[j]?
theorem zke {n:Nat}{i:Int}{j:Nat}(h:ixN n i=some j):seqIndex? i n=some j/\j<n/\-(n:Int)<=i/\i<n:=by
 unfold ixN at h
 by_cases h0:0<=i
 · rw[if_pos h0] at h
   by_cases h1:i<n
   · rw[if_pos h1] at h
     have e:i.toNat=j:=Option.some.inj h
     exact⟨by rw[seqIndex_of h0 h1,e],by omega,by omega,h1⟩
   · rw[if_neg h1] at h;cases h
 · rw[if_neg h0] at h
   by_cases h1:-(n:Int)<=i
   · rw[if_pos h1] at h
     have e:(i+n).toNat=j:=Option.some.inj h
     exact⟨by rw[seqIndex_neg (by omega) h1,e],by omega,h1,by omega⟩
   · rw[if_neg h1] at h;cases h
theorem zeR {α:Type}{xs:List α}{i:Int}{v:α}(h:atI xs i=some v):∃j,seqIndex? i xs.length=some j/\xs[j]?=some v/\j<xs.length/\-(xs.length:Int)<=i/\i<xs.length:=by
 unfold atI at h
 cases e:ixN xs.length i with
 |none=>rw[e] at h;cases h
 | some j =>
   rw[e] at h
   obtain⟨h1,h2,h3,h4⟩:=zke e
   exact⟨j,h1,h,h2,h3,h4⟩
noncomputable def zhu (b:Expr):Prop:=∀o i,subscripted b false o i=operate [o,i] (getItem o i)
noncomputable def IxR (X:Cx)(r:R2):Prop:=
 ∀(value slice:Expr) (pins:List (Addr × Obj)) (s:Shared) (σ:St) (H:Hp) (x y:V) (v u:Value) (Q:VK),Inv X pins σ H s->RelV x v->RelV y u->r x y H Q->
  subscripted slice false v u=operate [v,u] (getItem v u)->wpAny (model X.prog X.w) X.A (subscriptTail value slice v u) (EP X pins σ Q) X.xe s
noncomputable def MtR (X:Cx)(id:String)(r:V->List V->Hp->VK->Prop):Prop:=
 ∀(pins:List (Addr × Obj)) (s:Shared) (σ:St) (H:Hp) (x:V) (xs:List V) (v:Value) (us:List Value) (Q:VK),Inv X pins σ H s->RelV x v->Vals xs us->r x xs H Q->
  wpAny (model X.prog X.w) X.A (call (.builtin id) (v::us)) (EP X pins σ Q) X.xe s
section
variable {X:Cx} {a b:Expr} {ta tb:TE} {pos:Pos}
theorem IxR.or {r r':R2}(h:IxR X r)(h':IxR X r'):IxR X (fun x y H Q=>r x y H Q\/r' x y H Q):=by
 intro value slice pins s σ H x y v u Q I rx ry q hs
 rcases q with q|q
 · exact h value slice pins s σ H x y v u Q I rx ry q hs
 · exact h' value slice pins s σ H x y v u Q I rx ry q hs
theorem znb {r:R2}(hr:IxR X r)(ha:PE X a ta)(hb:PE X b tb)(hs:zhu b):PE X (.Subscript a b pos) (tOp r ta tb):=by
 intro pins s σ H Q I h
 exact Subscript_ (binT ha hb I h fun v u s2 x y H2 I2 rx ry q=>hr a b pins s2 σ H2 x y v u Q I2 rx ry q (hs _ _))
noncomputable def rIxL (K:PySem.W.Frag):R2:=fun x y H Q=>∃p xs i v,x=.ref p/\y=.int i/\SqL K H p xs/\atI xs i=some v/\Q v H
noncomputable def rIxT (K:PySem.W.Frag):R2:=fun x y H Q=>∃p xs i v,x=.ref p/\y=.int i/\SqT K H p xs/\atI xs i=some v/\Q v H
noncomputable def rIxS:R2:=fun x y H Q=>∃z i c,x=.str z/\y=.int i/\z.length<=sizeLine/\atI z.cps.toList i=some c/\Q (.str ⟨#[c]⟩) H
theorem ix_list:IxR X (rIxL X.K):=by
 intro value slice pins s σ H x y v u Q I rx ry h hs
 obtain⟨p,xs,i,z,rfl,rfl,hq,he,q⟩:=h
 cases rx
 obtain⟨t,rfl⟩:=ry
 obtain⟨its,r,pl,hz⟩:=I.list hq
 obtain⟨j,h1,h2,h3,h4,h5⟩:=zeR he
 obtain⟨w,ew,rw'⟩:=r.get h2
 have hl:=r.length
 have hn:=zdR
 have fin:EP X pins σ Q w s:=⟨z,H,I,rw',q⟩
 by_cases h0:0<=i
 · have hj:i.toNat=j:=by
    rw[seqIndex_of h0 h5] at h1
    exact Option.some.inj h1
   exact item_listR pl.isList h0 (by omega) (by rw[hj];simpa using ew) fin hs
 · have hj:(i+(its.toArray.size:Int)).toNat=j:=by
    rw[seqIndex_neg (by omega) h4] at h1
    rw[List.size_toArray,<-hl]
    exact Option.some.inj h1
   exact subscriptTail_builtinR (x:=w) pl.isList.typeIs slot_list_getitem.lookup
    (wpAny_getItem_list_neg (Q:=fun r s'=>r=w/\EP X pins σ Q r s') pl.isList (by omega) (by rw[List.size_toArray]<;>omega) (by omega) (by rw[hj];simpa using ew) ⟨rfl,fin⟩) hs
theorem ix_tup:IxR X (rIxT X.K):=by
 intro value slice pins s σ H x y v u Q I rx ry h hs
 obtain⟨p,xs,i,z,rfl,rfl,hq,he,q⟩:=h
 cases rx
 obtain⟨t,rfl⟩:=ry
 obtain⟨its,r,pl,hz⟩:=I.tuple hq
 obtain⟨j,h1,h2,h3,h4,h5⟩:=zeR he
 obtain⟨w,ew,rw'⟩:=r.get h2
 have hl:=r.length
 have hn:=zdR
 have fin:EP X pins σ Q w s:=⟨z,H,I,rw',q⟩
 exact subscriptTail_builtinR (x:=w) pl.typeIs slot_tuple_getitem.lookup
  (getItem_tuple (j:=j) (Q:=fun r s'=>r=w/\EP X pins σ Q r s') pl (by omega) (by omega) (by rw[List.size_toArray,<-hl];exact h1) (by simpa using ew) ⟨rfl,fin⟩) hs
theorem zmd:IxR X rIxS:=by
 intro value slice pins s σ H x y v u Q I rx ry h hs
 obtain⟨z,i,c,rfl,rfl,hz,he,q⟩:=h
 obtain⟨t,rfl⟩:=rx
 obtain⟨t',rfl⟩:=ry
 obtain⟨j,h1,h2,h3,h4,h5⟩:=zeR he
 have hl:z.cps.toList.length=z.length:=by simp[Str.length]
 rw[hl] at h1 h4 h5
 have hn:=zdR
 exact tail_any (typeIs_str s z t) slot_str_getitem.lookup (getItem_str (c:=c) (by
  have e1:decide (i < -(2 ^ 63:Int))=false:=decide_eq_false (by omega)
  have e2:decide (i≥2 ^ 63)=false:=decide_eq_false (by omega)
  rw[e1,e2,Bool.or_false]) (by rw[h1];simpa using h2) ⟨.str ⟨#[c]⟩,H,I.tok _,⟨_,rfl⟩,q⟩) hs
noncomputable def rIx (K:PySem.W.Frag):R2:=fun x y H Q=>rIxL K x y H Q\/rIxT K x y H Q\/rIxS x y H Q
theorem zme:IxR X (rIx X.K):=ix_list.or (ix_tup.or zmd)
theorem Inv.lst {pins:List (Addr × Obj)}{σ:St}{H:Hp}{s:Shared}{p:Addr}{xs:List V}(I:Inv X pins σ H s)(h:H p=some (.lst xs)) :
  ∃(its:List Value) (n:Nat),Vals xs its/\s.heap.get? p=some {cls:=.type "list",data:=.seq its.toArray n}/\xs.length<=sizeLine:=by
 obtain⟨z,its,n,r,e⟩:=I.hok p _ h
 exact⟨its,n,r,e,z⟩
theorem zdy (lo hi:Option Int)(n:Nat):(sliceBounds lo hi none n).1=((HT.sIx n 0 lo:Nat):Int)/\(sliceBounds lo hi none n).2.1=((HT.sIx n n hi:Nat):Int)/\(sliceBounds lo hi none n).2.2=1:=by
 refine⟨?_,?_,rfl⟩
 · cases lo with
   |none=>simp[sliceBounds,HT.sIx]
   | some i =>
     simp only[sliceBounds,HT.sIx,Option.getD_none,show (1:Int) > 0 by decide,if_true]
     by_cases h:i<0
     · simp only[h,if_true]<;>omega
     · simp only[h,if_false]<;>omega
 · cases hi with
   |none=>simp[sliceBounds,HT.sIx]
   | some i =>
     simp only[sliceBounds,HT.sIx,Option.getD_none,show (1:Int) > 0 by decide,if_true]
     by_cases h:i<0
     · simp only[h,if_true]<;>omega
     · simp only[h,if_false]<;>omega
theorem zc9 (its:List Value)(lo hi:Option Int):slicePick its.toArray lo hi none=((its.drop (HT.sIx its.length 0 lo)).take (HT.sIx its.length its.length hi - HT.sIx its.length 0 lo)).toArray:=by
 obtain⟨h1,h2,h3⟩:=zdy lo hi its.toArray.size
 unfold slicePick
 rw[h1,h2,h3]
 simp only[sliceRange_one,pick_run,List.size_toArray]<;>rfl
noncomputable def rSlL (K:PySem.W.Frag):V->Option Int->Option Int->Hp->VK->Prop:=fun x lo hi H Q=>∃a xs,x=.ref a/\SqL K H a xs/\∀p,H p=none->Q (.ref p) (upd H p (.lst (cutV xs lo hi)))
theorem zjq:SlR X (rSlL X.K):=by
 intro pins s σ H x v vl vu lo hi sl Q I rx hs pl pu h
 obtain⟨a,xs,rfl,hx,q⟩:=h
 cases rx
 obtain⟨its,r,ht,hz⟩:=I.list hx
 have hlen:=r.length
 refine⟨"list",_,slot_list_getitem.lookup,ht.isList.typeIs,?_⟩
 refine wpAny_getItem_list_slice ht.isList hs pl pu .none (by simp) ?_ (by rw[List.size_toArray]<;>omega)
 rw[zc9,<-hlen]
 refine⟨.ref s.heap.objs.size,_,I.laid (t':=s.toks) (o:=.lst (cutV xs lo hi)) (fun b ob q=>Heap.get?_push_of_some _ q) (Nat.le_refl _) ?_,rfl,q _ (I.hok.fresh (Nat.le_refl _))⟩
 exact⟨Nat.le_trans (zcH xs lo hi) hz,_,0,(r.drop (HT.sIx xs.length 0 lo)).take (HT.sIx xs.length xs.length hi - HT.sIx xs.length 0 lo),Heap.get?_push_size _ rfl⟩
theorem zbx:zbc X (.builtin "len") (fun xs H Q=>∃p ys,xs=[.ref p]/\(SqL X.K H p ys\/SqT X.K H p ys)/\Q (.int ys.length) H):=by
 intro pins s σ H xs us Q I r h
 obtain⟨p,ys,rfl,hq,q⟩:=h
 obtain⟨u,rfl,rx⟩:=zfZ r
 cases rx
 have hn:=zdR
 rcases hq with hq|hq
 · obtain⟨its,r',pl,hz⟩:=I.list hq
   have hlen:=r'.length
   exact Calls.call_len_list pl.isList (by simp only[List.size_toArray]<;>omega) ⟨.int ys.length,H,I.tok _,⟨s.toks+1,by rw[List.size_toArray,hlen]⟩,q⟩
 · obtain⟨its,r',pl,hz⟩:=I.tuple hq
   have hlen:=r'.length
   exact len_tuple pl (by simp only[List.size_toArray]<;>omega) ⟨.int ys.length,H,I.tok _,⟨s.toks+1,by rw[List.size_toArray,hlen]⟩,q⟩
theorem zeb:zbc X (.type "list") (fun xs H Q=>∃p ys,xs=[.ref p]/\(SqL X.K H p ys\/SqT X.K H p ys)/\∀l,H l=none->Q (.ref l) (upd H l (.lst ys))):=by
 intro pins s σ H xs us Q I r h
 obtain⟨p,ys,rfl,hq,q⟩:=h
 obtain⟨u,rfl,rx⟩:=zfZ r
 cases rx
 have fin:∀(its:List Value),Vals ys its->ys.length<=sizeLine->∀(h':Heap) (c':Nat),(∀b o',s.heap.get? b=some o'->h'.get? b=some o')->
   h'.get? s.heap.objs.size=some {cls:=.type "list",dict:=none,data:=.seq its.toArray c',slots:=#[]}->EP X pins σ Q (.ref s.heap.objs.size) {s with heap:=h'}:=fun its r' hz h' c' kp e=>
  ⟨.ref s.heap.objs.size,_,I.laid (t':=s.toks) kp (Nat.le_refl _) (show ObjOk X.prog X.w _ h' _ (.lst ys) from⟨hz,its,c',r',e⟩),rfl,q _ (I.hok.fresh (Nat.le_refl _))⟩
 rcases hq with hq|hq
 · obtain⟨its,r',pl,hz⟩:=I.list hq
   have hlen:=r'.length
   obtain⟨o,ho,hc,n,hd⟩:=pl.isList
   exact call_list_seq p (.inl rfl) ho hc hd (fun h' c' kp e=>fin its r' hz h' c' kp e) (by simp only[List.size_toArray]<;>omega)
 · obtain⟨its,r',pl,hz⟩:=I.tuple hq
   have hlen:=r'.length
   obtain⟨o,ho,hc,n,hd⟩:=pl
   exact call_list_seq p (.inr rfl) ho hc hd (fun h' c' kp e=>fin its r' hz h' c' kp e) (by simp only[List.size_toArray]<;>omega)
theorem zdr:zbc X (.type "tuple") (fun xs H Q=>∃p ys,xs=[.ref p]/\((SqL X.K H p ys/\∀l,H l=none->Q (.ref l) (upd H l (.tup ys)))\/(SqT X.K H p ys/\Q (.ref p) H))):=by
 intro pins s σ H xs us Q I r h
 obtain⟨p,ys,rfl,h⟩:=h
 obtain⟨u,rfl,rx⟩:=zfZ r
 cases rx
 rcases h with ⟨hq,q⟩|⟨hq,q⟩
 · obtain⟨its,r',pl,hz⟩:=I.list hq
   have hlen:=r'.length
   refine call_tuple_list pl.isList (fun h' kp=>?_) (by simp only[List.size_toArray]<;>omega)
   have I1:Inv X pins σ H {s with heap:=h'}:=I.kept (t':=s.toks) kp
   have I2:Inv X pins σ (upd H h'.objs.size (.tup ys)) {s with heap:=h'.push {cls:=.type "tuple",data:=.seq its.toArray}}:=
    I1.laid (t':=s.toks) (fun b o e=>Heap.get?_push_of_some _ e) (Nat.le_refl _) (show ObjOk X.prog X.w _ _ _ (.tup ys) from⟨hz,its,r',IsTup.new _ _⟩)
   exact⟨.ref h'.objs.size,_,I2,rfl,q _ (I1.hok.fresh (Nat.le_refl _))⟩
 · obtain⟨its,r',pl,hz⟩:=I.tuple hq
   exact call_tuple_same pl ⟨.ref p,H,I,rfl,q⟩
noncomputable def tyV (K:PySem.W.Frag)(T:String)(x:V)(H:Hp):Prop:=match x with
 |.str _=>T="str"
 |.int _=>T="int"
 |.ref p=>(T="list"/\∃xs,SqL K H p xs)\/(T="tuple"/\∃o,K.lookup p=some o/\o.cls=.type "tuple"/\o.dict=none)\/
  (T="dict"/\((∃kvs,H p=some (.dK kvs))\/∃kvs,H p=some (.dT kvs)))\/(T="set"/\∃S n,H p=some (.set S n))
 |_=>False
theorem ziH {pins:List (Addr × Obj)}{σ:St}{H:Hp}{s:Shared}{T:String}{x:V}{v:Value}(I:Inv X pins σ H s)(r:RelV x v)(ty:tyV X.K T x H) :
  s.TypeIs v T/\∀a,v=.ref a->∃ob,s.heap.get? a=some ob/\ob.dict=none:=by
 cases x with
 | str z =>
   obtain⟨t,rfl⟩:=r
   cases (show T="str" from ty)
   exact⟨typeIs_str s z t,fun _ e=>nomatch e⟩
 | int i =>
   obtain⟨t,rfl⟩:=r
   cases (show T="int" from ty)
   exact⟨typeIs_int s i t,fun _ e=>nomatch e⟩
 | ref p =>
   cases r
   rcases ty with ⟨rfl,xs,hq⟩|⟨rfl,o,hk,hc,hd⟩|⟨rfl,hk⟩|⟨rfl,S,n,hk⟩
   · obtain⟨its,_,pl,_⟩:=I.list hq
     refine⟨pl.isList.typeIs,fun a e=>?_⟩
     cases e
     obtain⟨o,n,e,c,hd,_⟩:=pl
     exact⟨o,e,hd⟩
   · refine⟨⟨o,I.kIn p o hk,hc⟩,fun a e=>?_⟩
     cases e
     exact⟨o,I.kIn _ o hk,hd⟩
   · have z:∃o,s.heap.get? p=some o/\o.ExactDict:=by
      rcases hk with ⟨kvs,hk⟩|⟨kvs,hk⟩
      · obtain⟨_,_,_,_,o,_,_,e,ex,_⟩:=I.hok p _ hk
        exact⟨o,e,ex⟩
      · obtain⟨_,_,_,_,o,_,_,e,ex,_⟩:=I.hok p _ hk
        exact⟨o,e,ex⟩
     obtain⟨o,e,ex⟩:=z
     refine⟨⟨o,e,ex.1⟩,fun a e2=>?_⟩
     cases e2
     exact⟨o,e,ex.2.1⟩
   · obtain⟨o,_,_,_,e,ex,_⟩:=I.hok p _ hk
     refine⟨⟨o,e,ex.1⟩,fun a e2=>?_⟩
     cases e2
     exact⟨o,e,ex.2.1⟩
 |_=>exact False.elim ty
noncomputable def tBM0 (K:PySem.W.Frag)(T:String)(r:V->List V->Hp->VK->Prop)(to:TE):TE:=fun σ H Q=>to σ H fun x H1=>tyV K T x H1/\r x [] H1 Q
noncomputable def tBM (K:PySem.W.Frag)(T:String)(r:V->List V->Hp->VK->Prop)(to:TE)(t:TA):TE:=fun σ H Q=>to σ H fun x H1=>tyV K T x H1/\t σ H1 fun xs H2=>r x xs H2 Q
variable {o e:Expr} {es:List Expr} {to:TE} {t:TA} {name:Str} {apos cpos:Pos} {T id:String} {r:V->List V->Hp->VK->Prop}
theorem zlJ (pa:PlainAttrs T)(slot:Slot T name id)(hty:typeOf (.builtin id)=pure (.type "method_descriptor"))(hm:MtR X id r)(ho:PE X o to)
  (hbase:attributeBase o name X.env (eval o X.env)=eval o X.env:=by rfl) (hline:(apos.endLine == cpos.line)=true:=by rfl):PE X (.Call (.Attribute o name apos) [] [] cpos) (tBM0 X.K T r to):=by
 intro pins s σ H Q I h
 refine wpAny_Call_method0_late hbase hline (thn (ho pins s σ H _ I h) fun v s1 ⟨x,H1,I1,r1,ty,q1⟩=>?_)
 obtain⟨h1,h2⟩:=ziH I1 r1 ty
 exact⟨T,id,pa,slot,hty,h1,h2,Calls.callWith_builtin rfl (PySem.evalArgs_none (hm pins s1 σ H1 x [] v [] Q I1 r1 .nil q1))⟩
theorem zlK (pa:PlainAttrs T)(slot:Slot T name id)(hty:typeOf (.builtin id)=pure (.type "method_descriptor"))(hm:MtR X id r)(ho:PE X o to)(ha:PA X (e::es) t)
  (hbase:attributeBase o name X.env (eval o X.env)=eval o X.env:=by rfl)
  (hfew:((backTo cpos (starEach (e::es) X.env)).all (fun x=>!x.1)&&(backToKw cpos (keywordEach [] X.env)).all (fun x=>x.1.isSome)
   && decide ((e::es).length+([]:List Keyword).length+(if ([]:List Keyword).isEmpty then 0 else 1)<30))=true:=by rfl)
  (hline:(apos.endLine == cpos.line)=true:=by rfl) (hs:starEach (e::es) X.env=(false,eval e X.env)::starEach es X.env:=by rfl) (hplain:(backTo cpos (starEach es X.env)).any (·.1)=false:=by rfl) :
  PE X (.Call (.Attribute o name apos) (e::es) [] cpos) (tBM X.K T r to t):=by
 intro pins s σ H Q I h
 refine wpAny_Call_method_late hbase hfew hline rfl (thn (ho pins s σ H _ I h) fun v s1 ⟨x,H1,I1,r1,ty,q1⟩=>?_)
 obtain⟨h1,h2⟩:=ziH I1 r1 ty
 refine⟨T,id,pa,slot,hty,h1,h2,?_⟩
 have hA:=ha cpos pins s1 σ H1 _ I1 q1
 rw[hs] at hA⊢
 refine Calls.callWith_builtin (by show (false || (backTo cpos (starEach es X.env)).any (·.1))=false;rw[hplain]<;>rfl) (Calls.evalArgs_plain ?_)
 exact thn hA fun us s2 ⟨vs,H2,I2,r2,q2⟩=>hm pins s2 σ H2 x vs v us Q I2 r1 r2 q2
/- xs.append(e),list.index on a module's tuple .. are MtR facts of 06m -/
end
end L2
namespace L2
open PySem PySem.Spec PyProof.Rows
noncomputable def MtM (X:Cx)(id:String)(r:V->List V->Hp->VK->Prop):Prop:=
 ∀(pins:List (Addr × Obj)) (s:Shared) (σ:St) (H:Hp) (x:V) (xs:List V) (v:Value) (us:List Value) (Q:VK),Inv X pins σ H s->RelV x v->Vals xs us->r x xs H Q->
  wpAny (model X.prog X.w) X.A (call (.builtin id) (v::us)) (EP X pins σ Q) X.xe s
theorem Vals.one:∀{x:V} {us:List Value},Vals [x] us->∃u,us=[u]/\RelV x u
 |_,_,.cons r .nil=>⟨_,rfl,r⟩
theorem Vals.zero:∀{us:List Value},Vals [] us->us=[]
 |_,.nil=>rfl
theorem Vals.eraseIdx:∀{xs:List V} {us:List Value} (i:Nat),Vals xs us->Vals (xs.eraseIdx i) (us.eraseIdx i)
 |_,_,_,.nil=>.nil
 |_,_,0,.cons _ t=>t
 |_,_,i+1,.cons r t=>.cons r (Vals.eraseIdx i t)
theorem Vals.reverse {xs:List V}{us:List Value}(h:Vals xs us):Vals xs.reverse us.reverse:=by
 induction h with
 |nil=>exact .nil
 |cons r t ih=>rw[List.reverse_cons,List.reverse_cons];exact Vals.append ih (.cons r .nil)
theorem zdS {α:Type}:∀(l:List α) (i:Nat),(l.eraseIdx i).length<=l.length
 | [],_=>Nat.le_refl _
 |_::_,0=>Nat.le_succ _
 |_::r,i+1=>Nat.succ_le_succ (zdS r i)
section
variable {X:Cx} {pins:List (Addr × Obj)} {σ:St} {H:Hp} {s:Shared} {l b:Addr} {xs ys zs:List V}
theorem Inv.lset {its its':List Value}{n:Nat}{f:Array Value->Array Value}{t':Nat}(I:Inv X pins σ H s)(hH:H l=some (.lst xs))
  (e:s.heap.get? l=some {cls:=.type "list",data:=.seq its.toArray n}) (hf:f its.toArray=its'.toArray) (hv:Vals ys its') (hz:ys.length<=sizeLine) :
  Inv X pins σ (upd H l (.lst ys)) {s with heap:=s.heap.update l (Obj.mapSeq f),toks:=t'}:=by
 have q:=PySem.IsL.update e f
 rw[hf] at q
 refine I.write (x:=l) (e:=l) (by rw[hH];exact trivial) (.inl rfl) (fun b' u hb hu=>(Heap.get?_update_other s.heap (Obj.mapSeq f) (Ne.symm hb)).trans hu) ⟨_,q⟩ ?_
 exact⟨hz,its',_,hv,q⟩
theorem Inv.lnew {its:List Value}{t':Nat}(I:Inv X pins σ H s)(hv:Vals ys its)(hz:ys.length<=sizeLine) :
  Inv X pins σ (upd H s.heap.objs.size (.lst ys)) {s with heap:=s.heap.push {cls:=.type "list",data:=.seq its.toArray},toks:=t'}:=
 I.laid (fun _ _ q=>Heap.get?_push_of_some _ q) (Nat.le_refl _) ⟨hz,its,0,hv,Heap.get?_push_size _ rfl⟩
theorem Inv.fresh (I:Inv X pins σ H s):H s.heap.objs.size=none:=I.hok.fresh (Nat.le_refl _)
theorem Inv.lstM (I:Inv X pins σ H s)(hH:H l=some (.lst xs)):xs.length<=sizeLine/\∃(its:List Value) (n:Nat),Vals xs its/\xs.length=its.length/\s.heap.get? l=some {cls:=.type "list",data:=.seq its.toArray n}:=by
 obtain⟨z,its,n,r,e⟩:=I.hok l _ hH
 exact⟨z,its,n,r,r.length,e⟩
theorem zh6 {n:Nat}(h:n<=sizeLine):Builtin.List.listTooLong n=false:=by
 unfold Builtin.List.listTooLong
 exact decide_eq_false (by omega)
end
section
variable {X:Cx}
noncomputable def zjJ:V->List V->Hp->VK->Prop:=fun x vs H Q=>∃l xs y,x=.ref l/\vs=[y]/\H l=some (.lst xs)/\xs.length<sizeLine/\Q .non (upd H l (.lst (xs++[y])))
theorem zdP:MtM X "list.append" zjJ:=by
 intro pins s σ H x vs v us Q I rx rv h
 obtain⟨l,xs,y,rfl,rfl,hH,hz,q⟩:=h
 cases rx
 obtain⟨u,rfl,ru⟩:=rv.one
 obtain⟨z,its,n,r,hl,e⟩:=I.lstM hH
 refine call_meets F.slot_list_append ⟨_,e,rfl⟩ F.entry_list_append (F.args_list_append_2 _ _) (PySem.list_append l its.toArray n u (by rw[List.size_toArray];omega)) ⟨e,?_⟩
 refine⟨.non,_,I.lset (its':=its++[u]) hH e (by simp) (r.append (.cons ru .nil)) ?_,rfl,q⟩
 rw[List.length_append,List.length_singleton]
 omega
noncomputable def zjI:V->List V->Hp->VK->Prop:=fun x vs H Q=>∃l b xs zs,x=.ref l/\vs=[.ref b]/\H l=some (.lst xs)/\H b=some (.lst zs)/\xs.length+zs.length<=sizeLine/\Q .non (upd H l (.lst (xs++zs)))
theorem zgv:MtM X "list.extend" zjI:=by
 intro pins s σ H x vs v us Q I rx rv h
 obtain⟨l,b,xs,zs,rfl,rfl,hH,hB,hz,q⟩:=h
 cases rx
 obtain⟨u,rfl,ru⟩:=rv.one
 cases ru
 obtain⟨z,its,n,r,hl,e⟩:=I.lstM hH
 obtain⟨z2,its2,n2,r2,hl2,e2⟩:=I.lstM hB
 have hsz:its.toArray.size+its2.toArray.size<=sizeLine:=by rw[List.size_toArray,List.size_toArray];omega
 have hlong:¬(!its.toArray.isEmpty&&Builtin.List.listTooLong (its.toArray.size+its2.toArray.size))=true:=by
  rw[zh6 hsz,Bool.and_false]
  exact Bool.false_ne_true
 refine call_meets F.slot_list_extend ⟨_,e,rfl⟩ F.entry_list_extend (F.args_list_extend_2 _ _)
  (AutoSeq1.list_extend_list_list_0 l its.toArray n b its2.toArray n2 hlong (by rw[List.size_toArray];omega) (by omega)) ⟨e,e2,?_⟩
 refine⟨.non,_,I.lset (its':=its++its2) hH e (by simp) (r.append r2) ?_,rfl,q⟩
 rw[List.length_append]
 omega
noncomputable def zls:V->List V->Hp->VK->Prop:=fun x vs H Q=>∃l xs i k y,x=.ref l/\vs=[.int i]/\H l=some (.lst xs)/\-(2 ^ 63)<=i/\i<2 ^ 63/\seqIndex? i xs.length=some k/\xs[k]?=some y/\Q y (upd H l (.lst (xs.eraseIdx k)))
theorem zia:MtM X "list.pop" zls:=by
 intro pins s σ H x vs v us Q I rx rv h
 obtain⟨l,xs,i,k,y,rfl,rfl,hH,h1,h2,hk,hy,q⟩:=h
 cases rx
 obtain⟨u,rfl,ru⟩:=rv.one
 obtain⟨t,rfl⟩:=ru
 obtain⟨z,its,n,r,hl,e⟩:=I.lstM hH
 obtain⟨w,hw,rw'⟩:=r.get hy
 refine call_meets F.slot_list_pop ⟨_,e,rfl⟩ F.entry_list_pop (F.args_list_pop_2 _ _)
  (MeetsSeq.list_pop_at l its.toArray n i t k w (fitsIndex_both h1 h2) (by rw[List.size_toArray,<-hl];exact hk) (by rw[<-Array.getElem?_toList];exact hw) (by rw[List.size_toArray];omega)) ⟨e,?_⟩
 refine⟨y,_,I.lset (its':=its.eraseIdx k) hH e ?_ (r.eraseIdx k) ?_,rw',q⟩
 · show its.toArray.eraseIdxIfInBounds k=(its.eraseIdx k).toArray
   rw[List.eraseIdxIfInBounds_toArray]
 · have:=zdS xs k
   omega
noncomputable def zlt:V->List V->Hp->VK->Prop:=fun x vs H Q=>∃l xs,x=.ref l/\vs=[]/\H l=some (.lst xs)/\Q .non (upd H l (.lst []))
theorem zib:MtM X "list.clear" zlt:=by
 intro pins s σ H x vs v us Q I rx rv h
 obtain⟨l,xs,rfl,rfl,hH,q⟩:=h
 cases rx
 have hus:=rv.zero
 subst hus
 obtain⟨z,its,n,r,hl,e⟩:=I.lstM hH
 refine call_meets F.slot_list_clear ⟨_,e,rfl⟩ F.entry_list_clear (F.args_list_clear_1 _) (AutoSeq1.list_clear_list_0 l its.toArray n (by rw[List.size_toArray];omega)) ⟨e,?_⟩
 exact⟨.non,_,I.lset (its':=[]) (ys:=[]) hH e rfl .nil (Nat.zero_le _),rfl,q⟩
noncomputable def rCat:R2:=fun x y H Q=>∃l b xs zs,x=.ref l/\y=.ref b/\H l=some (.lst xs)/\H b=some (.lst zs)/\xs.length+zs.length<=sizeLine/\∀p,H p=none->Q (.ref p) (upd H p (.lst (xs++zs)))
theorem zlY:OpR X (binaryOp .Add) rCat:=by
 intro pins s σ H x y v u Q I rx ry h
 obtain⟨l,b,xs,zs,rfl,rfl,hH,hB,hz,q⟩:=h
 cases rx
 cases ry
 obtain⟨z,its,n,r,hl,e⟩:=I.lstM hH
 obtain⟨z2,its2,n2,r2,hl2,e2⟩:=I.lstM hB
 refine PySem.P.add_list e e2 ?_ (by rw[List.size_toArray,List.size_toArray];omega)
 have ea:its.toArray++its2.toArray=(its++its2).toArray:=by simp
 rw[ea]
 exact⟨.ref _,_,I.lnew (t':=s.toks) (r.append r2) (by rw[List.length_append];omega),rfl,q _ I.fresh⟩
end
section
variable {prog:Program} {w:World} {A:Around} {E:Value->Shared->Prop} {s:Shared}
end
section
variable {X:Cx}
end
end L2
namespace Att
open PySem PySem.W PySem.Calls PyProof.Rows
theorem zcB {P:Params}{h:Heap}:∀(ns:List Int) (vs:List Value),WellAll P h vs (ns.map WData.int)->IntsAre vs ns:=by
 intro ns
 induction ns with
 | nil =>
   intro vs w
   rw[List.map_nil] at w
   cases w
   exact .nil
 | cons n ns ih =>
   intro vs w
   rw[List.map_cons] at w
   cases w with
   | cons a b =>
     cases a
     exact .cons _ _ (ih _ b)
theorem zf6 {l:OpenLaw}{n:Nat}(hn:l.most=some n){P:Params}{h:Heap}{args:List WData}{vals:List Value}
  (hpre:l.row.toRowW.claim.pre args=true) (hwl:WellAll P h vals args) :
  ∃a vs ns,vals=[Value.ref a]/\args=[WData.list (ns.map WData.int)]/\h.get? a=some {cls:=.type "list",data:=.seq vs.toArray}/\IntsAre vs ns/\ns.length<=n:=by
 have hsh:WShape.hasAll [] args [.list .int]=true:=(pre_splitW hpre).1
 have hc:l.pre.holds [] {args:=args}=true:=(pre_splitW hpre).2
 obtain⟨d,r,rfl,h1,h2⟩:=hasAllW_cons hsh
 obtain rfl:=hasAllW_nil h2
 obtain⟨xs,rfl,h3⟩:=hasW_list h1
 obtain⟨ns,rfl⟩:=items_int h3
 have hlen:ns.length<=n:=by
  unfold OpenLaw.pre at hc
  have h4:(WTm.not (.lt (.lit (.int (n:Int))) (.len (.arg 0)))).holds [] {args:=[.list (ns.map .int)]}=true:=by
   have h4:=(holds_andW hc).1
   rw[hn] at h4
   exact h4
  have h5:=condW_of h4 (w_not (w_lt w_lit (w_len_list (w_arg rfl))))
  rw[List.length_map] at h5
  refine Nat.le_of_not_lt fun q=>?_
  have q':(n:Int)<((ns.length:Nat):Int):=by omega
  first
   |(rw[decide_eq_true q'] at h5;exact absurd h5 (by decide))
   |(simp at h5;omega)
 cases hwl with
 | cons w1 w2 =>
   cases w2
   cases w1 with
   |list ho hall=>exact⟨_,_,ns,rfl,rfl,ho,zcB ns _ hall,hlen⟩
theorem zgl (l:OpenLaw)(args:List WData):l.row.toRowW.claim.post args (.bool true) args=true:=
 postW_of (r:=l.row.toRowW) (X:=(true == true))
  (show WShape.has [] (.bool true) .bool=true by first|rfl|decide|simp[WShape.has,WShape.arms,WShape.armsAll])
  (show (WTm.eq .res (.lit (.bool true))).value [] {args:=args,res:=some (.bool true),after:=args}=some (.bool (true == true)) from w_eq_bool (w_res rfl) w_lit) rfl
theorem attach_call {l:OpenLaw}{n:Nat}{q:Program}{loose:List Str}{XP:(Str->Option Value)->Heap->Prop}{YP:World->Heap->Prop}{d:DefRec}
  (hn:l.most=some n) (hdf:d.params.defaults=[])
  (call:∀(w:World) (s₀ s₁:Shared) (mg mb:Str->Option Value) (fa:Addr) (o:Obj) (pm cd doc:Value) (a:Addr) (vs:List Value) (ns:List Int),
   Ground q loose [] XP w s₀ mg mb s₁.heap->YP w s₁.heap->
   s₁.heap.get? fa=some o->o.data=.func (docDef d.name d.params d.body d.scope pm cd doc)->s₁.heap.CodeRec cd d.name->mg d.name=some (.ref fa)->
   s₁.heap.get? a=some {cls:=.type "list",data:=.seq vs.toArray}->IntsAre vs ns->ns.length<=n->s₁.gens = #[]->
   codeAny (model l.prog w) callerA (.call (.ref fa) ⟨[.ref a],[]⟩) (fun r s'=>r=.ok (.ret (.bool true))/\OldK s₁.heap s'.heap/\s'.os=s₁.os/\AllBare s'.gens) s₁) :
  WalkO q loose XP YP l.row.toRowW d [] (fun f vs=>PySem.call f vs):=by
 intro w s₀ s₁ mg mb G Y fa o pm cd doc dV kV ho hd hcd hD hmg hg args vals as hpre hlay hrd hwl hlo
 obtain rfl:dV=.none:=Dflts.none hD hdf
 obtain rfl:kV=.none:=Dflts.noKw hD
 obtain⟨a,vs,ns,rfl,rfl,hobj,hints,hlen⟩:=zf6 hn hpre hwl
 refine enter_call (codeAny_mono (call w s₀ s₁ mg mb fa o pm cd doc a vs ns G Y ho (fd_plain hd) hcd hmg hobj hints hlen hg) fun r s' hq=>?_)
 obtain⟨rfl,h2,h3,h4⟩:=hq
 exact⟨.inl ⟨.bool true,.bool true,[],rfl,fun _=>rfl,.bool true,zgl l _,fun _=>⟨List.Pairwise.nil,fun _ hm=>(nomatch hm)⟩⟩,h2,h3,h4⟩
section
variable {prog:Program} {w:World} {A:Around} {E:Value->Shared->Prop} {s:Shared} {K:Frag}
end
end Att
namespace L2
open PySem PySem.Spec PyProof.Rows
theorem zdv:∀{vs:List Value} {ns:List Int},IntsAre vs ns->Vals (ns.map V.int) vs
 |_,_,.nil=>.nil
 |_,_,.cons n t h=>.cons ⟨t,rfl⟩ (zdv h)
end L2
namespace L2
open PySem PySem.Spec PyProof.Rows
end L2
/- THE LAST THEOREM (shape;LID,My.* are yours):
 My.Adr: a structure of the addresses that your layer names (classes,functions);My.Txt K t: a structure (Prop) of the equations over K;
 My.txt_mk:{K} {implicit addresses ..} (e1:nsIn K mainGlobals "law"=some (some (.ref f))) (e2:K.lookup f=some ⟨oc,od,.func (fnOf "law" "law" params body scope dV kV doc pm an cdv ct),sl⟩) (e3:codeIn K cdv "law"=true) ..:∃t,My.Txt K t
set_option maxRecDepth 100000 in
set_option maxHeartbeats 0 in
theorem PySem.Challenge.cw_LID_holds : PySem.Challenge.rw_LID.Holds := by
 w_on;o_law;k_head;(case hw=>w_witness2)
 k_fill
 refine L2.walk_of (l:=PySem.Challenge.rw_LID) (n:=63) (k:=40) (x:="script") (CX:=fun w=>..) (sp:=fun _=>My.sp_law) rfl (by decide) rfl ⟨rfl,by decide,by decide⟩ (fun w h Y=>PySem.W.kIn_of Y) ?F ?S ?C
 case F=>
  intro w mg fa h KX G hmg
  have T:∃t,My.Txt (L2.KOf KX) t:=by
   dsimp only[L2.KOf] -- K must stand as «<heap const> w.params» for k_is
   refine' My.txt_mk ?e1 ?e2 ?e3 ..
   (case e1=>PySem.W.k_is) -- in the order: a name -> its address -> its object -> its parts
   (case e2=>PySem.W.k_is)
   ..
  obtain⟨t,T⟩:=T
  have e0:=hmg.symm.trans (PySem.W.mg_of KX G T.law)
  cases e0 -- fa is the law's own address
  exact⟨_,fun s u=>.of_eq rfl,fun base kb nb=>My.law_fn T kb nb⟩ -- if «.of_eq rfl» comes too early: refine'⟨_,?b,fun base kb nb=>My.law_fn T kb nb⟩;exact fun s u=>.of_eq rfl
 case S=>exact fun w H a ns hl hO hS=>..
 case C=>exact ..
(the tactic k_is has no namespace: write k_is) -/
namespace L2
open PySem PySem.Spec PyProof.Rows
noncomputable def zam (s:Stmt):Arguments:=match s with
 |.FunctionDef _ a _ _ _ _ _ _ _ _=>a
 |_=>{posonlyargs:=[],args:=[],vararg:=none,kwonlyargs:=[],kw_defaults:=[],kwarg:=none,defaults:=[]}
noncomputable def zah (s:Stmt):List Stmt:=match s with
 |.FunctionDef _ _ b _ _ _ _ _ _ _=>b
 |_=>[]
noncomputable def zae (s:Stmt):Scope:=match s with
 |.FunctionDef _ _ _ _ _ _ sc _ _ _=>sc
 |_=>{kind:=.function,names:=[],isGenerator:=false,isCoroutine:=false}
noncomputable abbrev CX0:CXT:=fun _ _ _ _ _ _=>False
noncomputable abbrev E0:XK:=fun _ _ _=>False
theorem zh4 {X:Cx}:zcK CX0 X E0:=fun _ _ _ _ _ _ _ h=>h.elim
structure Fun (K:PySem.W.Frag) (x qual:Str) (st:Stmt) (f:Addr) (fd:FuncData):Prop where
 ex:∃(oc:Value) (od:Option Addr) (kV doc pm:Value) (an:Option Addr) (cdv ct:Value) (osl:Array (Option Value)),
  fd=PySem.W.fnOf x qual (zam st) (zah st) (zae st) .none kV doc pm an cdv ct/\K.lookup f=some ⟨oc,od,.func fd,osl⟩/\PySem.W.codeIn K cdv qual=true
 kp:PySem.W.keepIn K (.ref f)=true
section
variable {P:Program} {w:World} {K:PySem.W.Frag} {mg:Str->Option Value} {base:Heap}
end
section
variable {X:Cx}
end
noncomputable def Same (H H':Hp):Prop:=∀b o,H b=some o->H' b=some o
end L2
namespace L2
open PySem PySem.Spec PyProof.Rows
section
variable {X:Cx}
theorem zhm:zbc X (.builtin "len") (fun xs H Q=>∃a kvs,xs=[V.ref a]/\H a=some (.dK kvs)/\Q (.int kvs.length) H):=by
 intro pins s σ H xs us Q I r h
 obtain⟨a,kvs,rfl,ha,q⟩:=h
 obtain⟨u,rfl,ru⟩:=zfZ r
 cases ru
 exact znE I (.inl ha) fun t s' I'=>⟨.int kvs.length,H,I',⟨t,rfl⟩,q⟩
end
section
variable {κ:Type} [DecidableEq κ]
end
end L2
end
section
namespace L2
open PySem PySem.Spec PyProof.Rows
noncomputable def za4 (cells:List (Str × Addr))(y:Str × NameKind)(acc:List (Str × Addr)):List (Str × Addr):=
 if (y.2 == NameKind.free)=true then (match cells.lookup y.1 with|some c=>(y.1,c)::acc|none=>acc) else acc
noncomputable def zeK (cells:List (Str × Addr))(names:List (Str × NameKind))(acc:List (Str × Addr)):List (Str × Addr):=names.foldl (fun a y=>za4 cells y a) acc
theorem zcE {α β:Type}(f:α->β->Sem (ForInStep β))(g:α->β->β):∀(l:List α) (b:β),(∀x∈l,∀b,f x b=pure (.yield (g x b)))->forIn l b f=(pure (l.foldl (fun b x=>g x b) b):Sem β)
 | [],b,_=>rfl
 | x :: l, b, h => by
   rw[List.forIn_cons,h x List.mem_cons_self,pure_bind]
   exact zcE f g l _ fun y hy=>h y (List.mem_cons_of_mem _ hy)
theorem zbl {scope:Scope}{env:Env}(h:∀y∈scope.names,y.2=.free->∃c,env.cells.lookup y.1=some c) :
  closureFor scope env=pure (zeK env.cells scope.names []):=by
 unfold closureFor zeK
 dsimp only
 rw[zcE _ (fun y a=>za4 env.cells y a)]
 · simp
 · intro y hy a
   obtain⟨n,k⟩:=y
   by_cases hk:k=.free
   · obtain⟨c,hc⟩:=h _ hy hk
     subst hk
     simp at hc
     simp[cellOf,hc,za4]
   · have:(k == NameKind.free)=false:=by simpa using hk
     simp[this,za4]
theorem zd5 {cells:List (Str × Addr)}:∀(names:List (Str × NameKind)) (acc:List (Str × Addr)),(∀x c,acc.lookup x=some c->cells.lookup x=some c)->
  ∀x c,(zeK cells names acc).lookup x=some c->cells.lookup x=some c
 | [],acc,h=>h
 | y :: r, acc, h => by
   refine zd5 r (za4 cells y acc) ?_
   intro x c e
   unfold za4 at e
   split at e
   · split at e
     · rename_i c' hc'
       rw[List.lookup_cons] at e
       cases hx:x == y.1 with
       | true =>
         rw[hx] at e
         have q:x=y.1:=beq_iff_eq.mp hx
         have e':c'=c:=Option.some.inj e
         rw[q,<-e']
         exact hc'
       |false=>rw[hx] at e;exact h x c e
     · exact h x c e
   · exact h x c e
theorem zcI {cells:List (Str × Addr)}:∀(names:List (Str × NameKind)) (acc:List (Str × Addr)) (x:Str),(∀y∈names,y.2=.free->∃c,cells.lookup y.1=some c)->
  ((∃c,acc.lookup x=some c)\/(x,NameKind.free)∈names)->∃c,(zeK cells names acc).lookup x=some c
 | [], acc, x, _, h => by
   rcases h with h|h
   · exact h
   · cases h
 | y :: r, acc, x, hf, h => by
   refine zcI r (za4 cells y acc) x (fun z hz=>hf z (List.mem_cons_of_mem _ hz)) ?_
   rcases h with ⟨c,h⟩|h
   · left
     unfold za4
     split
     · split
       · rename_i c' hc'
         rw[List.lookup_cons]
         cases hx:x == y.1 with
         |true=>exact⟨c',rfl⟩
         |false=>exact⟨c,h⟩
       · exact⟨c,h⟩
     · exact⟨c,h⟩
   · rcases List.mem_cons.mp h with h|h
     · left
       subst h
       obtain⟨c,hc⟩:=hf _ List.mem_cons_self rfl
       refine⟨c,?_⟩
       simp at hc
       simp[za4,hc]
     · exact .inr h
noncomputable def zbD (env:Env)(y:Str × NameKind):Str × NameKind:=if (y.2 == .free&&env.scope.kind == .function&&env.kindOf y.1 == some .cell)=true then (y.1,.cell) else y
theorem zbd (scope:Scope)(env:Env):(relabel scope env).names=scope.names.map (zbD env):=by
 unfold relabel
 show scope.names.map _=_
 refine List.map_congr_left fun y _=>?_
 obtain⟨n,k⟩:=y
 rfl
theorem zcj (env:Env)(y:Str × NameKind):(zbD env y).1=y.1:=by unfold zbD;split<;>rfl
theorem zci (env:Env)(y:Str × NameKind):(zbD env y).2=y.2\/(y.2=.free/\(zbD env y).2=.cell):=by
 unfold zbD
 split
 · rename_i h
   simp only[Bool.and_eq_true,beq_iff_eq] at h
   exact .inr ⟨h.1.1,rfl⟩
 · exact .inl rfl
theorem zbo (env:Env)(x:Str):∀names:List (Str × NameKind),∀k,(names.map (zbD env)).lookup x=some k->∃k0,(x,k0)∈names/\names.lookup x=some k0/\(k=k0\/(k0=.free/\k=.cell))
 | [],k,h=>by simp at h
 | y :: r, k, h => by
   rw[List.map_cons] at h
   have f1:=zcj env y
   have f2:=zci env y
   obtain⟨n,k1⟩:=y
   generalize hz:zbD env (n,k1)=z at *
   obtain⟨zn,zk⟩:=z
   simp only at f1 f2
   subst f1
   rw[List.lookup_cons] at h
   rw[List.lookup_cons]
   cases hx:x == zn with
   | true =>
     rw[hx] at h
     have q:x=zn:=beq_iff_eq.mp hx
     subst q
     have e:zk=k:=Option.some.inj h
     subst e
     exact⟨k1,List.mem_cons_self,rfl,f2⟩
   | false =>
     rw[hx] at h
     obtain⟨k0,m,l,q⟩:=zbo env x r k h
     exact⟨k0,List.mem_cons_of_mem _ m,l,q⟩
theorem zbe (env:Env)(x:Str):∀names:List (Str × NameKind),names.lookup x=some .free->(names.map (zbD env)).lookup x=some .free\/(names.map (zbD env)).lookup x=some .cell
 | [],h=>by simp at h
 | y :: r, h => by
   rw[List.map_cons]
   have f1:=zcj env y
   have f2:=zci env y
   obtain⟨n,k1⟩:=y
   generalize hz:zbD env (n,k1)=z at *
   obtain⟨zn,zk⟩:=z
   simp only at f1 f2
   subst f1
   rw[List.lookup_cons] at h
   rw[List.lookup_cons]
   cases hx:x == zn with
   | true =>
     rw[hx] at h
     have e:k1=.free:=Option.some.inj h
     subst e
     rcases f2 with f2|⟨_,f2⟩
     · left;show some zk=_;rw[f2]
     · right;show some zk=_;rw[f2]
   | false =>
     rw[hx] at h
     exact zbe env x r h
structure CompOk (sc scope:Scope) (N0:List Str) (js:List Nat):Prop where
 kind:scope.kind=.function
 nocell:∀y∈scope.names,y.2≠.cell
 locs:∀y∈scope.names,y.2=.local->scope.names.lookup y.1=some .local
 frees:∀y∈scope.names,y.2=.free->sc.names.lookup y.1=some .cell\/sc.names.lookup y.1=some .free
 caps:∀j∈js,scope.names.lookup (N0.getD j "")=some .free/\j<N0.length
noncomputable abbrev zaH (X:Cx)(N':List Str)(scope:Scope)(cl:List (Str × Addr))(C:Addr)(fp:List Addr)(s:Shared)(H:Hp)(pn:List (Addr × Obj)):Cx:=
 {X with N:=N',s₀:=s,H₀:=H,env:=compEnvC scope cl C X.env,outer:=X.stack,stack:=X.stack,ex:=fp,fn:=fun _=>false,pn:=pn,xe:=fun _ _=>False}
noncomputable def csl (nt:Nat)(js:List Nat)(σ:St):St:=List.replicate nt none++js.map fun j=>(σ[j]?).join
noncomputable abbrev capN (N0:List Str)(tgs:List Str)(js:List Nat):List Str:=tgs++js.map fun j=>N0.getD j ""
noncomputable def PTs (X:Cx)(ifs:List Expr)(t:TT):Prop:=
 ∀(pins:List (Addr × Obj)) (s:Shared) (σ:St) (H:Hp) (Q:Bool->Hp->Prop),Inv X pins σ H s->t σ H Q->
  wpAny (model X.prog X.w) X.A (forIn ifs true fun c r=>if r=true then do let ok <-isTrue c X.env (eval c X.env);pure (ForInStep.yield ok) else pure (ForInStep.yield r)) (TP X pins σ Q) X.xe s
noncomputable def tYes:TT:=fun _ H Q=>Q true H
theorem zjM {X:Cx}:PTs X [] tYes:=fun pins s σ H Q I h=>wpAny_tests_nil ⟨H,I,h⟩
theorem zgj {X:Cx}{c:Expr}{t:TT}(h:PT X c t):PTs X [c] t:=fun pins s σ H Q I q=>wpAny_tests_one (h pins s σ H Q I q)
noncomputable def zjl (nt:Nat)(js:List Nat)(wi:TI)(g:TG)(tt:TT)(te:TE):TE:=fun σ H Q=>wi σ H fun J H1=>∀p,H1 p=none->
 ∃W:Nat->Nat->St->Hp->Prop,(∃m,W 0 m (csl nt js σ) (upd H1 p (.lst [])))/\∀i m σ' H',W i m σ' H'->
  (J.stop i H'/\Q (.ref p) H')\/(J.go i H'/\∃N:St->Hp->Prop,(∀σ2 H2,N σ2 H2->∃m',m'<m/\W (i+1) m' σ2 H2)/\
   ∀x H2,J.yld i H' x H2->g x σ' H2 fun σ2 H3=>tt σ2 H3 fun b H4=>if b=true then te σ2 H4 fun v H5=>∃acc,H5 p=some (.lst acc)/\acc.length<sizeLine/\N σ2 (upd H5 p (.lst (acc++[v]))) else N σ2 H4)
section
variable {prog:Program} {w:World} {A:Around} {R:Result->Shared->Prop} {s:Shared}
theorem zfQ {elt tg iter:Expr}{ifs:List Expr}{scope:Scope}{pos:Pos}{it acc:Value}{env:Env}(J:Nat->Shared->Prop)
  (turn:∀n s,J n s->wpAny (model prog w) A (pyNext it) (fun r s₁=>(r=none/\R (.ok .next) s₁)\/∃v,r=some v/\
   wpAny (model prog w) A (letOwnedTupleGo tg it v) (fun _ s₀=>wpAny (model prog w) A (assign tg env v) (fun _ s₂=>
    wpAny (model prog w) A (forIn ifs true fun c r=>if r=true then do let ok <-isTrue c env (eval c env);pure (ForInStep.yield ok) else pure (ForInStep.yield r)) (fun ok s₃=>
     if ok=true then wpAny (model prog w) A (eval elt env) (fun x s₄=>wpAny (model prog w) A (call (.builtin "list.append") [acc,x]) (fun _ s₅=>∃m,m<n/\J m s₅) (fun _ _=>False) s₄) (fun _ _=>False) s₃
     else ∃m,m<n/\J m s₃) (fun _ _=>False) s₂) (fun _ _=>False) s₀) (fun _ _=>False) s₁) (fun _ _=>False) s)
  (n:Nat) (h:J n s):codeAny (model prog w) A (.compLoop (.ListComp elt [⟨tg,iter,ifs,0⟩] scope pos) 0 it acc env) R s:=by
 refine codeAny_loop rfl J (fun n s hI=>?_) n h
 show wpAny _ A ((compTurn (.ListComp elt [⟨tg,iter,ifs,0⟩] scope pos) 0 it acc env).onRaise (fun x=>do noteFrame x env;theTreesLotGoes x)) _ _ s
 refine wpAny_noted ?_
 rw[compTurn_list]
 refine wpAny_bind (wpAny_standAt (wpAny_bind (wpAny_mono (turn n s hI) (fun r s₁ h₁=>?_) fun _ _ f=>f.elim)))
 rcases h₁ with ⟨rfl,h₁⟩|⟨v,rfl,h₁⟩
 · exact wpAny_pure h₁
 · refine wpAny_bind (wpAny_mono h₁ (fun _ s₀ h₀=>?_) fun _ _ f=>f.elim)
   refine wpAny_bind (wpAny_mono h₀ (fun _ s₂ h₂=>?_) fun _ _ f=>f.elim)
   refine wpAny_bind (wpAny_mono h₂ (fun ok s₃ h₃=>?_) fun _ _ f=>f.elim)
   cases ok with
   |false=>exact wpAny_pure ⟨rfl,h₃⟩
   | true =>
     refine wpAny_bind (wpAny_bind (wpAny_mono h₃ (fun x s₄ h₄=>?_) fun _ _ f=>f.elim))
     exact wpAny_bind (wpAny_mono h₄ (fun _ s₅ h₅=>wpAny_pure (wpAny_pure ⟨rfl,h₅⟩)) fun _ _ f=>f.elim)
end
section
variable {X:Cx} {sc scope:Scope} {tgs:List Str} {js:List Nat} {elt tg iter:Expr} {ifs:List Expr} {pos:Pos} {wi:TI} {g:TG} {tt:TT} {te:TE}
theorem zcW (hc:X.calm=true)(hsc:X.env.scope=sc)(ok:CompOk sc scope X.N js)
  (hg:∀cl C fp s H pn,PG (zaH X (capN X.N tgs js) scope cl C fp s H pn) tg g)
  (ht:∀cl C fp s H pn,PTs (zaH X (capN X.N tgs js) scope cl C fp s H pn) ifs tt)
  (he:∀cl C fp s H pn,PE (zaH X (capN X.N tgs js) scope cl C fp s H pn) elt te)
  {pins:List (Addr × Obj)} {σ:St} {H2:Hp} {s2:Shared} {it:Addr} {fp:List Addr} {tn:Nat->Heap->Prop} {J:It} {E:Value->Shared->Prop} {RR:Value->Addr->Result->Shared->Prop} {Q:VK}
  (I2:Inv X pins σ H2 s2) (T:Turn X.prog X.w X.K tg J fp it tn) (st2:tn 0 s2.heap) (f2:∀b∈fp,FpOk X pins H2 b)
  (rd:∀p,H2 p=none->∃W:Nat->Nat->St->Hp->Prop,(∃m,W 0 m (csl tgs.length js σ) (upd H2 p (.lst [])))/\∀i m σ' H',W i m σ' H'->
   (J.stop i H'/\Q (.ref p) H')\/(J.go i H'/\∃N:St->Hp->Prop,(∀σ2 H2,N σ2 H2->∃m',m'<m/\W (i+1) m' σ2 H2)/\
    ∀x H2,J.yld i H' x H2->g x σ' H2 fun σ2 H3=>tt σ2 H3 fun b H4=>if b=true then te σ2 H4 fun v H5=>∃acc,H5 p=some (.lst acc)/\acc.length<sizeLine/\N σ2 (upd H5 p (.lst (acc++[v]))) else N σ2 H4))
  (fin:∀p C H' s',Inv X pins σ H' s'->(∃m,s'.heap.Ns C m)->s2.heap.objs.size<C->H' C=none->Q (.ref p) H'->RR (.ref p) C (.ok .next) s') :
  wpAny (model X.prog X.w) X.A (newList []) (fun acc s₃=>wpAny (model X.prog X.w) X.A (newFunctionEnv scope X.env.globals (zeK X.env.cells scope.names []) [] X.env.qual none .none (some X.env)) (fun cenv s₄=>
   codeAny (model X.prog X.w) X.A (.compStart (.ListComp elt [⟨tg,iter,ifs,0⟩] scope pos) 0 (.ref it) acc {cenv with scope:=relabel scope X.env}) (RR acc cenv.locals) s₄) E s₃) E s2:=by
 subst hsc
 refine wpAny_newObj_type (wpAny_newFunctionEnv ok.nocell (by intro y hy;simp at hy) (fun h₁ hns₁ hsb₁=>?_) ok.kind)
 have I3:Inv X pins σ (upd H2 s2.heap.objs.size (.lst [])) {s2 with heap:=s2.heap.push {cls:=.type "list",data:=.seq ([]:List Value).toArray}}:=
  I2.lnew (its:=[]) (ys:=[]) (t':=s2.toks) .nil (Nat.zero_le _)
 obtain⟨W,⟨m0,w0⟩,turn⟩:=rd _ I2.fresh
 generalize hp:s2.heap.objs.size=p at *
 generalize hs3:({s2 with heap:=s2.heap.push {cls:=.type "list",data:=.seq ([]:List Value).toArray}}:Shared)=s3 at I3
 have e3:s3.heap=s2.heap.push {cls:=.type "list",data:=.seq ([]:List Value).toArray}:=by rw[<-hs3]
 have sz3:s3.heap.objs.size=p+1:=by rw[e3,Heap.size_push,hp]
 generalize hH3:upd H2 p (.lst [])=H3 at *
 -- the block's frame
 have hns:h₁.Ns s3.heap.objs.size (fun x=>([]:List (Str × Value)).reverse.lookup x):=by rw[e3];exact hns₁
 have hsb:Heap.SameBut s3.heap.objs.size (s3.heap.push {cls:=.type "dict",data:=.dict #[]}) h₁:=by rw[e3];exact hsb₁
 have old:∀b o,s3.heap.get? b=some o->h₁.get? b=some o:=fun b o e=>
  (hsb.2 b (Nat.ne_of_lt (Heap.lt_size e))).trans (Heap.get?_push_of_some _ e)
 have frees:∀y∈scope.names,y.2=.free->∃c,X.env.cells.lookup y.1=some c:=fun y hy hk=>I2.ok.has y.1 (ok.frees y hy hk)
 have cellX:∀x c,(zeK X.env.cells scope.names []).lookup x=some c->X.env.cells.lookup x=some c:=zd5 scope.names [] (fun x c e=>by simp at e)
 generalize hcl:zeK X.env.cells scope.names []=cl at *
 have okX:(zaH X (capN X.N tgs js) scope cl s3.heap.objs.size fp s3 H3 (X.pn++pins)).Ok:=
  { mod := I3.ok.mod, kind := ok.kind, glob := I3.ok.glob, blt := I3.ok.blt, above := Nat.le_refl _,
    inj:=fun x y c e1 e2=>I3.ok.inj x y c (cellX x c e1) (cellX y c e2),
    has:=fun x hk=>by
     have hk':(scope.names.map (zbD X.env)).lookup x=some .cell\/(scope.names.map (zbD X.env)).lookup x=some .free:=by
      rw[<-zbd];exact hk
     rw[<-hcl]
     refine zcI scope.names [] x frees (.inr ?_)
     rcases hk' with q|q
     · obtain⟨k0,m,_,e⟩:=zbo X.env x _ _ q
       rcases e with e|⟨e,_⟩
       · subst e;exact absurd rfl (ok.nocell _ m)
       · subst e;exact m
     · obtain⟨k0,m,_,e⟩:=zbo X.env x _ _ q
       rcases e with e|⟨e,z⟩
       · subst e;exact m
       · exact absurd z (fun h=>(nomatch h)),
    cab:=fun x c e=>absurd e Bool.false_ne_true,hd:=I3.ok.hd,frames:=I3.ok.frames,stk:=.inl rfl,
    exf:=fun b hb=>⟨Nat.ne_of_lt (by
     obtain⟨o,ho,_⟩:=T.obj 0 _ st2 b hb
     show b<s3.heap.objs.size
     rw[sz3,<-hp]
     exact Nat.lt_succ_of_lt (Heap.lt_size ho)),fun x c e=>(f2 b hb).2.2.2.2.1 x c (cellX x c e)⟩,
    bs:=I3.bs,bsz:=Nat.le_trans I3.ok.bsz I3.sz,
    noex:=fun b o e hb=>by
     rcases (f2 b hb).2.2.2.1 with z|z
     · exact I3.ok.noex b o e z
     · exact absurd (Nat.lt_of_lt_of_le (Heap.lt_size e) (Nat.le_trans I3.ok.bsz z)) (Nat.lt_irrefl _),
    exfs:=fun b hb hx=>by
     rcases List.mem_cons.mp (I3.stkSub b hx) with z|z
     · exact (f2 b hb).2.1 z
     · exact (f2 b hb).2.2.1 z,
    funs:=I3.stack,frf:=I3.stkFree}
 have I4:Inv (zaH X (capN X.N tgs js) scope cl s3.heap.objs.size fp s3 H3 (X.pn++pins)) [] (csl tgs.length js σ) H3 {s3 with heap:=h₁}:=
  { ok := okX, os := rfl, bare := I3.bare, base := Un.kept old,
    loc:=⟨_,hns,fun i x v e1 e2 e3=>by
     have e1:(tgs++js.map fun j=>X.N.getD j "")[i]?=some x:=e1
     have e2:(List.replicate tgs.length none++js.map fun j=>(σ[j]?).join)[i]?=some (some v):=e2
     by_cases hi:i<tgs.length
     · rw[List.getElem?_append_left (by rw[List.length_replicate];exact hi),List.getElem?_replicate,if_pos hi] at e2
       cases e2
     · rw[List.getElem?_append_right (by omega),List.getElem?_map] at e1
       rw[List.getElem?_append_right (by rw[List.length_replicate];omega),List.length_replicate,List.getElem?_map] at e2
       cases hj:js[i - tgs.length]? with
       |none=>rw[hj] at e1;cases e1
       | some j =>
         rw[hj] at e1 e2
         have e1:X.N.getD j ""=x:=Option.some.inj e1
         have e2:(σ[j]?).join=some v:=Option.some.inj e2
         have hjm:j∈js:=List.mem_of_getElem? hj
         obtain⟨hfr,hjl⟩:=ok.caps j hjm
         rw[e1] at hfr
         have hNj:X.N[j]?=some x:=by
          rw[List.getElem?_eq_getElem hjl]
          rw[List.getD_eq_getElem?_getD,List.getElem?_eq_getElem hjl] at e1
          exact congrArg some e1
         have hσ:σ[j]?=some (some v):=by
          cases q:σ[j]? with
          |none=>rw[q] at e2;cases e2
          | some o =>
            rw[q] at e2
            have e2:o=some v:=e2
            rw[e2]
         have hmem:(x,NameKind.free)∈scope.names:=by
          obtain⟨l1,l2,h3,_⟩:=List.lookup_eq_some_iff.mp hfr
          rw[h3];simp
         have hkX:=ok.frees _ hmem rfl
         have hvis:Vis X.env.scope x:=hkX.elim (fun z=>.inr (.inl z)) fun z=>.inr (.inr z)
         obtain⟨m,hn,hl⟩:=I3.loc
         obtain⟨u,r,lk⟩:=hl j x v hNj hσ hvis
         refine⟨u,r,.inr ⟨?_,?_⟩⟩
         · have q:=zbe X.env x scope.names hfr
           rw[<-zbd] at q
           exact q.symm
         · rcases lk with ⟨k,_⟩|⟨_,c,ec,z⟩
           · exfalso
             have k:X.env.scope.names.lookup x=some .local:=k
             rcases hkX with q|q<;>(rw[k] at q;cases q)
           · obtain⟨c',hc'⟩:∃c',cl.lookup x=some c':=by
              rw[<-hcl]
              exact zcI scope.names [] x frees (.inr hmem)
             have q:=cellX x c' hc'
             rw[ec] at q
             cases q
             obtain⟨o,ho,hd⟩:=z
             exact⟨c,hc',o,old _ _ ho,hd⟩⟩,
    cell:=fun x c e=>by
     obtain⟨v,o,ho,hd⟩:=I3.cell x c (cellX x c e)
     exact⟨v,o,old _ _ ho,hd⟩,
    free:=I3.fresh,
    freeC:=fun x c e=>I3.freeC x c (cellX x c e),
    pin:=fun q hq=>by
     have hq:q∈X.pn++pins:=by simpa using hq
     obtain⟨e,n,ne,nf,d⟩:=I3.pin q hq
     refine⟨old _ _ e,n,Nat.ne_of_lt (Heap.lt_size e),fun z=>?_,d⟩
     rcases List.mem_cons.mp (I3.stkSub _ z) with z|z
     · exact ne z
     · exact nf z,
    hok:=I3.hok.kept old,
    len:=by
     show (List.replicate tgs.length none++js.map fun j=>(σ[j]?).join).length=(tgs++js.map fun j=>X.N.getD j "").length
     simp}
 have stat:∀{H':Hp},(∀b∈fp,H' b=none)->∀b∈fp,FpOk (zaH X (capN X.N tgs js) scope cl s3.heap.objs.size fp s3 H3 (X.pn++pins)) [] H' b:=fun hn b hb=>
  ⟨hn b hb,(okX.exf b hb).1,okX.exfs b hb,.inl hb,(okX.exf b hb).2,fun q hq=>by
   have hq:q∈X.pn++pins:=by simpa using hq
   exact (f2 b hb).2.2.2.2.2 q hq⟩
 have fr3:∀b∈fp,H3 b=none:=fun b hb=>by
  obtain⟨o,ho,_⟩:=T.obj 0 _ st2 b hb
  rw[<-hH3,zaf (Nat.ne_of_lt (hp▸Heap.lt_size ho))]
  exact (f2 b hb).1
 have st4:tn 0 h₁:=T.keep 0 _ _ st2 fun b hb o e=>old b o (by rw[e3];exact Heap.get?_push_of_some _ e)
 have loop:codeAny (model X.prog X.w) X.A (.compLoop (.ListComp elt [⟨tg,iter,ifs,0⟩] scope pos) 0 (.ref it) (.ref p) (compEnvC scope cl s3.heap.objs.size X.env)) (RR (.ref p) s3.heap.objs.size) {s3 with heap:=h₁}:=by
  refine zfQ (fun n s'=>∃i σ' H',Inv (zaH X (capN X.N tgs js) scope cl s3.heap.objs.size fp s3 H3 (X.pn++pins)) [] σ' H' s'/\tn i s'.heap/\(∀b∈fp,H' b=none)/\W i n σ' H') ?_ m0 ⟨0,_,H3,I4,st4,fr3,w0⟩
  rintro n s4 ⟨i,σ4,H4,J4,st4,fr4,w4⟩
  rcases turn i n σ4 H4 w4 with ⟨stop,qn⟩|⟨go,N,hN,step⟩
  · refine thn (T.done (zaH X (capN X.N tgs js) scope cl s3.heap.objs.size fp s3 H3 (X.pn++pins)) rfl rfl rfl hc i [] s4 σ4 H4 _ J4 (stat fr4) st4 stop) fun r s5 ⟨hr,J5⟩=>.inl ⟨hr,?_⟩
    have hX:Inv X pins σ H4 s5:=I3.call' J5.os J5.base J5.hok J5.bare fun b hb=>⟨(f2 b hb).2.2.2.1,(f2 b hb).2.1,(f2 b hb).2.2.2.2.1,(f2 b hb).2.2.2.2.2⟩
    obtain⟨m,hm,_⟩:=J5.loc
    exact fin p _ H4 s5 hX ⟨m,hm⟩ (by rw[sz3];exact Nat.lt_succ_self _) J5.free qn
  · refine thn (T.item (zaH X (capN X.N tgs js) scope cl s3.heap.objs.size fp s3 H3 (X.pn++pins)) rfl rfl rfl hc i [] s4 σ4 H4 _ J4 (stat fr4) st4 go) fun r s5 ⟨u,hr,h5⟩=>.inr ⟨u,hr,?_⟩
    refine thn h5 fun _ s6 ⟨x,H6,J6,r6,y6,st6,fr6⟩=>?_
    have J6':=J6.pinned (stat fr6) (T.obj _ _ st6)
    refine thn (hg _ _ _ _ _ _ _ s6 σ4 H6 x u _ J6' r6 (step x H6 y6)) fun _ s7 ⟨σ7,H7,J7,q7⟩=>?_
    refine thn (ht _ _ _ _ _ _ _ s7 σ7 H7 _ J7 q7) fun ok8 s8 ⟨H8,J8,q8⟩=>?_
    have again:∀{s9:Shared} {H9:Hp},Inv (zaH X (capN X.N tgs js) scope cl s3.heap.objs.size fp s3 H3 (X.pn++pins)) ([]++zdN fp s6.heap) σ7 H9 s9->N σ7 H9->
      ∃m,m<n/\∃i σ' H',Inv (zaH X (capN X.N tgs js) scope cl s3.heap.objs.size fp s3 H3 (X.pn++pins)) [] σ' H' s9/\tn i s9.heap/\(∀b∈fp,H' b=none)/\W i m σ' H':=fun {s9 H9} J9 n9=>by
     obtain⟨m',hm,w9⟩:=hN σ7 H9 n9
     refine⟨m',hm,i+1,σ7,H9,J9.unpinned,T.keep _ _ _ st6 fun b hb o e=>(J9.pin (b,o) (List.mem_append_right _ (List.mem_append_right _ (zbA hb e)))).1,fun b hb=>?_,w9⟩
     obtain⟨o,e,d⟩:=T.obj _ _ st6 b hb
     exact (J9.pin (b,o) (List.mem_append_right _ (List.mem_append_right _ (zbA hb e)))).2.1
    cases ok8 with
    |false=>exact again J8 q8
    | true =>
      refine thn (he _ _ _ _ _ _ _ s8 σ7 H8 _ J8 q8) fun y s9 ⟨v,H9,J9,r9,acc,ha,hl,q9⟩=>?_
      refine thn (zdP _ s9 σ7 H9 (.ref p) [v] (.ref p) [y] (fun _ H=>N σ7 H) J9 rfl (.cons r9 .nil) ⟨p,acc,v,rfl,rfl,ha,hl,q9⟩) fun _ s10 ⟨_,H10,J10,_,q10⟩=>?_
      exact again J10 q10
 exact codeAny_compStart_list loop (T.self _ 0 _ _ _ st4 loop)
theorem zhZ (sc:Scope)(tgs:List Str)(js:List Nat)(hc:X.calm=true)(hsc:X.env.scope=sc)(ok:CompOk sc scope X.N js)(hi:PI X tg iter wi)
  (hg:∀cl C fp s H pn,PG (zaH X (capN X.N tgs js) scope cl C fp s H pn) tg g)
  (ht:∀cl C fp s H pn,PTs (zaH X (capN X.N tgs js) scope cl C fp s H pn) ifs tt)
  (he:∀cl C fp s H pn,PE (zaH X (capN X.N tgs js) scope cl C fp s H pn) elt te)
  (hs:∀x,foldedSetIterable iter X.env x=pure x:=by intro _;rfl) :
  PE X (.ListComp elt [⟨tg,iter,ifs,0⟩] scope pos) (zjl tgs.length js wi g tt te):=by
 intro pins s σ H Q I h
 rw[eval_ListComp]
 have frees:∀y∈scope.names,y.2=.free->∃c,X.env.cells.lookup y.1=some c:=fun y hy hk=>I.ok.has y.1 (by
  have q:=ok.frees y hy hk
  rw[<-hsc] at q
  exact q)
 refine wpAny_comprehension_free (use:=none) rfl hs (zbl frees) ok.kind ok.locs (thn (hi pins s σ H _ I h) fun v s1 h1=>thn h1 fun itv s2 h2=>?_)
 obtain⟨it,fp,tn,J,H2,e,I2,T,st2,f2,rd⟩:=h2
 subst e
 refine zcW hc hsc ok hg ht he I2 T st2 f2 rd (Q:=Q) fun p C H' s' I' hm hC hn q=>?_
 obtain⟨m,hm⟩:=hm
 refine⟨m,hm,fun h' hs'=>⟨.ref p,H',?_,rfl,q⟩⟩
 exact I'.turned (t':=s'.toks) (it:=C) (fun b o hb e=>(hs'.2 b hb).trans e) hn (Nat.ne_of_gt (Nat.lt_trans I2.lt hC)) (.inr (Nat.le_trans I2.sz (Nat.le_of_lt hC))) (fun x c e=>by
  obtain⟨v,o,ho,_⟩:=I2.cell x c e
  exact Nat.ne_of_lt (Nat.lt_trans (Heap.lt_size ho) hC)) fun q hq=>Nat.ne_of_lt (Nat.lt_trans (Heap.lt_size (I2.pin q hq).1) hC)
theorem zjQ (sc:Scope)(tgs:List Str)(js:List Nat){i:Nat}{y:Str}{py spos:Pos}(hN:X.N.Nodup)(hi':X.N[i]?=some y)(hy:Loc X.env.scope y)(hc:X.calm=true)(hsc:X.env.scope=sc)(ok:CompOk sc scope X.N js)(hi:PI X tg iter wi)
  (hg:∀cl C fp s H pn,PG (zaH X (capN X.N tgs js) scope cl C fp s H pn) tg g)
  (ht:∀cl C fp s H pn,PTs (zaH X (capN X.N tgs js) scope cl C fp s H pn) ifs tt)
  (he:∀cl C fp s H pn,PE (zaH X (capN X.N tgs js) scope cl C fp s H pn) elt te)
  (hsw:swapsWith (.ListComp elt [⟨tg,iter,ifs,0⟩] scope pos) (some (.Name y py)) spos.line X.env=pure true:=by rfl)
  (hs:∀x,foldedSetIterable iter X.env x=pure x:=by intro _;rfl)
  (hf:X.fn y=true\/X.env.scope.names.lookup y=some .local:=by first|exact .inl rfl|exact .inr rfl|assumption) :
  PS X (.Assign [.Name y py] (.ListComp elt [⟨tg,iter,ifs,0⟩] scope pos) spos) (tAsg (zjl tgs.length js wi g tt te) (zg4 i)):=by
 intro pins s σ H D I h
 have frees:∀y∈scope.names,y.2=.free->∃c,X.env.cells.lookup y.1=some c:=fun y hy hk=>I.ok.has y.1 (by
  have q:=ok.frees y hy hk
  rw[<-hsc] at q
  exact q)
 rw[exec_Assign_Name_used _ _ _ _ hsw]
 refine wpAny_bind (wpAny_standAt (wpAny_bind ?_))
 show wpAny _ X.A (do let _ <-comprehension (.ListComp elt [⟨tg,iter,ifs,0⟩] scope pos) scope X.env _ (newList []) false (eval iter X.env) (some (assign (.Name y py) X.env))) _ _ s
 refine wpAny_bind (wpAny_mono (wpAny_comprehension_free (use:=some (assign (.Name y py) X.env)) (Q:=fun _ s'=>SP X pins D .next s') rfl hs (zbl frees) ok.kind ok.locs
  (thn (hi pins s σ H _ I h) fun v s1 h1=>thn h1 fun itv s2 h2=>?_)) (fun _ s' hq=>wpAny_pure (wpAny_pure hq)) fun _ _ e=>e)
 obtain⟨it,fp,tn,J,H2,e,I2,T,st2,f2,rd⟩:=h2
 subst e
 refine zcW hc hsc ok hg ht he I2 T st2 f2 rd (Q:=fun x H1=>zg4 i x σ H1 D.nx) fun p C H' s' I' hm hC hn q=>?_
 obtain⟨m,hm⟩:=hm
 have hL:C≠X.env.locals:=Nat.ne_of_gt (Nat.lt_trans I2.lt hC)
 have hCc:∀x c,X.env.cells.lookup x=some c->c≠C:=fun x c e=>by
  obtain⟨v,o,ho,_⟩:=I2.cell x c e
  exact Nat.ne_of_lt (Nat.lt_trans (Heap.lt_size ho) hC)
 show wpAny _ X.A (assign (.Name y py) X.env (.ref p)) _ _ _
 refine wpAny_assign_Name (zdx I' hN hi' hy (v:=.ref p) rfl (fun s'' I'' hch=>?_) hf)
 obtain⟨a,hsb,ha⟩:=hch
 have hCa:C≠a:=by
  rcases ha with z|z
  · rw[z];exact hL
  · exact fun e=>hCc y a z e.symm
 refine⟨m,hm.sameBut hsb hCa,fun h' hs'=>⟨σ.set i (some (.ref p)),H',?_,q⟩⟩
 exact I''.turned (t':=s''.toks) (it:=C) (fun b o hb e=>(hs'.2 b hb).trans e) hn hL (.inr (Nat.le_trans I2.sz (Nat.le_of_lt hC))) hCc fun q hq=>Nat.ne_of_lt (Nat.lt_trans (Heap.lt_size (I2.pin q hq).1) hC)
end
end L2
end
section
namespace L2
open PySem PySem.Spec PyProof.Rows
structure FunV (K:PySem.W.Frag) (x qual:Str) (st:Stmt) (dV:Value) (f:Addr) (fd:FuncData):Prop where
 ex:∃(oc:Value) (od:Option Addr) (kV doc pm:Value) (an:Option Addr) (cdv ct:Value) (osl:Array (Option Value)),
  fd=PySem.W.fnOf x qual (zam st) (zah st) (zae st) dV kV doc pm an cdv ct/\K.lookup f=some ⟨oc,od,.func fd,osl⟩/\PySem.W.codeIn K cdv qual=true
 kp:PySem.W.keepIn K (.ref f)=true
theorem zaQ {K:PySem.W.Frag}{x qual:Str}{st:Stmt}{f:Addr}{oc:Value}{od an:Option Addr}{osl:Array (Option Value)}{dV kV doc pm cdv ct:Value}(l:K.lookup f=some ⟨oc,od,.func (PySem.W.fnOf x qual (zam st) (zah st) (zae st) dV kV doc pm an cdv ct),osl⟩)
 (c:PySem.W.codeIn K cdv qual=true) (k:PySem.W.keepIn K (.ref f)=true):FunV K x qual st dV f (PySem.W.fnOf x qual (zam st) (zah st) (zae st) dV kV doc pm an cdv ct):=⟨⟨oc,od,kV,doc,pm,an,cdv,ct,osl,rfl,l,c⟩,k⟩
section
variable {P:Program} {w:World} {K:PySem.W.Frag} {mg:Str->Option Value} {base:Heap}
theorem FunV.ok {x qual:Str}{st:Stmt}{dV:Value}{f:Addr}{fd:FuncData}{N ps:List Str}{k:Nat}{sp:Sp}(F:FunV K x qual st dV f fd)(S:FnScope N ps (zae st))(len:∀vs H Q E,sp vs H Q E->vs.length=ps.length)
  (hbody:∀(cdv:Value) (A:Around) (outer:List Env) (s:Shared) (H:Hp) (vs:List V) (Q:VK) (E:XK),Room k (A.deeper (envOfC qual (zae st) s.heap.objs.size f cdv))->sp vs H Q E->
   ∃t,PSs (cxOf CX0 P w K mg base N qual (zae st) f cdv A outer s H E).nox (zah st) t/\t {nx:=fun _ H'=>Q .non H',rt:=Q} (start N vs) H):FnOk P w K mg base CX0 (k+1) f fd ps sp:=by
 obtain⟨oc,od,kV,doc,pm,an,cdv,ct,osl,rfl,lk,hcd⟩:=F.ex
 refine znx lk hcd S len fun A outer s H vs Q E hr hsp=>?_
 obtain⟨t,h,q⟩:=hbody cdv A outer s H vs Q E hr hsp
 exact⟨t,h.nox,q⟩
theorem FunV.binds {x qual:Str}{st:Stmt}{dV:Value}{f:Addr}{fd:FuncData}{ps:List Str}(F:FunV K x qual st dV f fd)
  (h:∀(kV doc pm:Value) (an:Option Addr) (cdv ct:Value) (us:List Value),us.length=ps.length->bindArgs (PySem.W.fnOf x qual (zam st) (zah st) (zae st) dV kV doc pm an cdv ct) ⟨us,[]⟩=pure (ps.zip us)):Binds K fd ps []:=by
 obtain⟨oc,od,kV,doc,pm,an,cdv,ct,osl,rfl,lk,hcd⟩:=F.ex
 exact .all (h kV doc pm an cdv ct)
structure Has (P:Program) (w:World) (K:PySem.W.Frag) (mg:Str->Option Value) (base:Heap) (k:Nat) (x:Str) (ps:List Str) (dvs:List V) (sp:Sp):Prop where
 ex:∃(f:Addr) (fd:FuncData) (ds:List Value),FnOk P w K mg base CX0 k f fd ps sp/\mg x=some (.ref f)/\PySem.W.keepIn K (.ref f)=true/\Binds K fd ps ds/\Vals dvs ds
end
theorem znc {X:Cx}{k:Nat}{x:Str}{ps:List Str}{dvs:List V}{sp:Sp}{p pos:Pos}{e:Expr}{es:List Expr}{t:TA}(G:Has X.prog X.w X.K X.mg X.base k x ps dvs sp)(hr:Room k X.A)(ha:PA X (e::es) t)(hg:Gl X x:=by rfl)
  (hdb:(x == ("__debug__":Str))=false:=by decide) (he:starEach (e::es) X.env=(false,eval e X.env)::starEach es X.env:=by rfl) (hpl:(backTo pos (starEach es X.env)).any (·.1)=false:=by rfl) :
  PE X (.Call (.Name x p) (e::es) [] pos) (zf4 sp dvs E0 t):=by
 obtain⟨f,fd,ds,F,hm,hk,hb,hd⟩:=G.ex
 exact zjZ F hr hg hm hk hb hd zh4 ha hdb he hpl
theorem zlI {X:Cx}{k:Nat}{x:Str}{ps:List Str}{dvs:List V}{sp:Sp}{p pos:Pos}(G:Has X.prog X.w X.K X.mg X.base k x ps dvs sp)(hr:Room k X.A)(hg:Gl X x:=by rfl)
  (hdb:(x == ("__debug__":Str))=false:=by decide):PE X (.Call (.Name x p) [] [] pos) (zf4 sp dvs E0 tNil):=by
 obtain⟨f,fd,ds,F,hm,hk,hb,hd⟩:=G.ex
 exact zh2 F hr hg hm hk hb hd zh4 hdb
mutual
noncomputable def Rep (H:Hp):PyData->V->Prop
 |.none,v=>v=.non
 |.bool b,v=>v=.bl b
 |.int i,v=>v=.int i
 |.str x,v=>v=.str x
 |.list ds,v=>∃a vs,v=.ref a/\H a=some (.lst vs)/\RepAll H ds vs
 |.tuple ds,v=>∃a vs,v=.ref a/\H a=some (.tup vs)/\RepAll H ds vs
 |.dict _,_=>False
noncomputable def RepAll (H:Hp):List PyData->List V->Prop
 | [],vs=>vs=[]
 |d::ds,vs=>∃v r,vs=v::r/\Rep H d v/\RepAll H ds r
end
mutual
noncomputable def imm:PyData->Bool
 |.none=>true
 |.bool _=>true
 |.int _=>true
 |.str _=>true
 |.list _=>false
 |.tuple ds=>zdZ ds
 |.dict _=>false
noncomputable def zdZ:List PyData->Bool
 | []=>true
 |d::ds=>imm d&&zdZ ds
end
noncomputable def Tups (H H':Hp):Prop:=∀b xs,H b=some (.tup xs)->H' b=some (.tup xs)
theorem Tups.refl (H:Hp):Tups H H:=fun _ _ h=>h
theorem Tups.trans {H H1 H2:Hp}(a:Tups H H1)(b:Tups H1 H2):Tups H H2:=fun c xs h=>b c xs (a c xs h)
theorem Tups.upd {H:Hp}{p:Addr}{o:HO}(h:∀xs,H p≠some (.tup xs)):Tups H (upd H p o):=fun b xs e=>by
 have hb:b≠p:=fun z=>by subst z;exact h xs e
 rw[zaf hb];exact e
theorem Tups.upd_lst {H:Hp}{p:Addr}{o:HO}{xs:List V}(h:H p=some (.lst xs)):Tups H (L2.upd H p o):=Tups.upd fun ys e=>by rw[h] at e;cases e
theorem Tups.upd_new {H:Hp}{p:Addr}{o:HO}(h:H p=none):Tups H (L2.upd H p o):=Tups.upd fun ys e=>by rw[h] at e;cases e
mutual
theorem Rep.same {H H':Hp}(hs:Same H H'):∀{d:PyData} {v:V},Rep H d v->Rep H' d v
 |.none,_,h=>h
 |.bool _,_,h=>h
 |.int _,_,h=>h
 |.str _,_,h=>h
 | .list ds, v, h => by
   obtain⟨a,vs,e,ha,r⟩:=h
   exact⟨a,vs,e,hs _ _ ha,RepAll.same hs r⟩
 | .tuple ds, v, h => by
   obtain⟨a,vs,e,ha,r⟩:=h
   exact⟨a,vs,e,hs _ _ ha,RepAll.same hs r⟩
 |.dict _,_,h=>h
theorem RepAll.same {H H':Hp}(hs:Same H H'):∀{ds:List PyData} {vs:List V},RepAll H ds vs->RepAll H' ds vs
 | [],_,h=>h
 | d :: ds, vs, h => by
   obtain⟨v,r,e,h1,h2⟩:=h
   exact⟨v,r,e,Rep.same hs h1,RepAll.same hs h2⟩
end
mutual
theorem Rep.tups {H H':Hp}(hs:Tups H H'):∀{d:PyData} {v:V},imm d=true->Rep H d v->Rep H' d v
 |.none,_,_,h=>h
 |.bool _,_,_,h=>h
 |.int _,_,_,h=>h
 |.str _,_,_,h=>h
 |.list ds,v,i,h=>by simp[imm] at i
 | .tuple ds, v, i, h => by
   obtain⟨a,vs,e,ha,r⟩:=h
   exact⟨a,vs,e,hs _ _ ha,RepAll.tups hs (by simpa[imm] using i) r⟩
 |.dict _,_,_,h=>h
theorem RepAll.tups {H H':Hp}(hs:Tups H H'):∀{ds:List PyData} {vs:List V},zdZ ds=true->RepAll H ds vs->RepAll H' ds vs
 | [],_,_,h=>h
 | d :: ds, vs, i, h => by
   obtain⟨v,r,e,h1,h2⟩:=h
   have i':imm d=true/\zdZ ds=true:=by simpa[zdZ] using i
   exact⟨v,r,e,Rep.tups hs i'.1 h1,RepAll.tups hs i'.2 h2⟩
end
theorem RepAll.ints (H:Hp):∀ns:List Int,RepAll H (ns.map PyData.int) (ns.map V.int)
 | []=>rfl
 |n::ns=>⟨_,_,rfl,rfl,RepAll.ints H ns⟩
mutual
theorem Rep.reads {X:Cx}{pins:List (Addr × Obj)}{σ:St}{H:Hp}{s:Shared}(I:Inv X pins σ H s):∀(d:PyData) (v:V) (u:Value),Rep H d v->RelV v u->∃as,Reads s.heap u d as
 | .none, v, u, h, r => by
   cases (show v=.non from h)
   cases (show u=Value.none from r)
   exact⟨_,.none⟩
 | .bool b, v, u, h, r => by
   cases (show v=.bl b from h)
   cases (show u=Value.bool b from r)
   exact⟨_,.bool b⟩
 | .int i, v, u, h, r => by
   cases (show v=.int i from h)
   obtain⟨t,rfl⟩:=(show ∃t,u=Value.int i t from r)
   exact⟨_,.int i t⟩
 | .str x, v, u, h, r => by
   cases (show v=.str x from h)
   obtain⟨t,rfl⟩:=(show ∃t,u=Value.str x t from r)
   exact⟨_,.str x t⟩
 | .list ds, v, u, h, r => by
   obtain⟨a,vs,rfl,ha,hr⟩:=h
   cases (show u=Value.ref a from r)
   obtain⟨its,n,rv,e,_⟩:=I.lst ha
   obtain⟨as,q⟩:=RepAll.reads I ds vs its hr rv
   exact⟨_,.list e rfl rfl q⟩
 | .tuple ds, v, u, h, r => by
   obtain⟨a,vs,rfl,ha,hr⟩:=h
   cases (show u=Value.ref a from r)
   obtain⟨its,rv,⟨o,e1,e2,n,e3⟩,_⟩:=I.tuple (SqT.of (K:=X.K) ha)
   obtain⟨as,q⟩:=RepAll.reads I ds vs its hr rv
   exact⟨_,.tuple e1 e2 e3 q⟩
 |.dict _,_,_,h,_=>False.elim h
theorem RepAll.reads {X:Cx}{pins:List (Addr × Obj)}{σ:St}{H:Hp}{s:Shared}(I:Inv X pins σ H s):∀(ds:List PyData) (vs:List V) (us:List Value),RepAll H ds vs->Vals vs us->∃as,ReadsAll s.heap us ds as
 | [], vs, us, h, r => by
   cases (show vs=[] from h)
   cases r
   exact⟨_,.nil⟩
 | d :: ds, vs, us, h, r => by
   obtain⟨v,vr,rfl,h1,h2⟩:=h
   cases r with
   | cons r1 r2 =>
     obtain⟨as,q1⟩:=Rep.reads I d v _ h1 r1
     obtain⟨bs,q2⟩:=RepAll.reads I ds vr _ h2 r2
     exact⟨_,.cons q1 q2⟩
end
theorem eqv_int (i j:Int):PyData.eqv (.int i) (.int j)=(i == j):=by simp[PyData.eqv]
section
variable {X:Cx}
noncomputable def rEqD (g:Bool->Bool):R2:=fun x y H Q=>∃da db,Rep H da x/\Rep H db y/\da.canLay0=true/\db.canLay0=true/\min da.depth db.depth<=60/\Q (.bl (g (PyData.eqv da db))) H
theorem zlX (hu:X.A.units+64<cLine):OpR X (compareOp .Eq) (rEqD id):=by
 intro pins s σ H x y v u Q I rx ry h
 obtain⟨da,db,h1,h2,l1,l2,hd,q⟩:=h
 obtain⟨as,r1⟩:=Rep.reads I da x v h1 rx
 obtain⟨bs,r2⟩:=Rep.reads I db y u h2 ry
 exact SeqAt.compareEq_reads r1 r2 l1 l2 (by omega) (zao I q rfl)
theorem zlS (hu:X.A.units+64<cLine):OpR X (compareOp .NotEq) (rEqD not):=by
 intro pins s σ H x y v u Q I rx ry h
 obtain⟨da,db,h1,h2,l1,l2,hd,q⟩:=h
 obtain⟨as,r1⟩:=Rep.reads I da x v h1 rx
 obtain⟨bs,r2⟩:=Rep.reads I db y u h2 ry
 exact SeqAt.compareNe_reads r1 r2 l1 l2 (by omega) (zao I q rfl)
theorem zlW:OpR X (compareOp .Is) (fun x y H Q=>∃a b,x=.bl a/\y=.bl b/\Q (.bl (a == b)) H):=by
 intro pins s σ H x y v u Q I rx ry h
 obtain⟨a,b,rfl,rfl,q⟩:=h
 cases rx
 cases ry
 refine wpAny_is_plain (by cases a<;>cases b<;>rfl) (zao I q ?_)
 cases a<;>cases b<;>rfl
noncomputable def zb6 (H:Hp):V->Option String
 |.non=>some "NoneType"
 |.bl _=>some "bool"
 |.int _=>some "int"
 |.str _=>some "str"
 | .ref a => match H a with
   |some (.lst _)=>some "list"
   |some (.frz _ (.lst _))=>some "list"
   |some (.tup _)=>some "tuple"
   |some (.dK _)=>some "dict"
   |some (.dT _)=>some "dict"
   |_=>none
 |_=>none
theorem zf0 {K:PySem.W.Frag}{H:Hp}{x:V}{a:String}(h:zb6 H x=some a):TyOf K H x (.type a):=by
 cases x with
 |non=>cases h;exact .non
 |bl b=>cases h;exact .bl b
 |int i=>cases h;exact .int i
 |str y=>cases h;exact .str y
 |byt _=>cases h
 |flt _=>cases h
 |ty _=>cases h
 | ref p =>
   unfold zb6 at h
   cases e:H p with
   |none=>simp[e] at h
   | some o =>
     cases o with
     |lst xs=>simp[e] at h;subst h;exact .lst e
     |tup xs=>simp[e] at h;subst h;exact .tup e
     |dK kvs=>simp[e] at h;subst h;exact .dK e
     |dT kvs=>simp[e] at h;subst h;exact .dT e
     | frz ob q =>
       cases q with
       |lst xs=>simp[e] at h;subst h;exact .frz e
       |_=>simp[e] at h
     |_=>simp[e] at h
noncomputable def subT (a b:String):Bool:=a == b || (a == "bool"&&b == "int")
theorem zkc (K:PySem.W.Frag){a b:String}(ha:a∈["NoneType","bool","int","str","list","tuple","dict"])(hb:b∈["bool","int","str","list","tuple","dict"]):PySem.W.kitOne K (.type a) (.type b)=some (subT a b):=by
 simp only[List.mem_cons,List.not_mem_nil,or_false] at ha hb
 rcases ha with rfl|rfl|rfl|rfl|rfl|rfl|rfl<;>rcases hb with rfl|rfl|rfl|rfl|rfl|rfl<;>rfl
theorem zfx {H:Hp}{x:V}{a:String}(h:zb6 H x=some a):a∈["NoneType","bool","int","str","list","tuple","dict"]:=by
 cases x with
 |non=>cases h;simp
 |bl b=>cases h;simp
 |int i=>cases h;simp
 |str y=>cases h;simp
 |byt _=>cases h
 |flt _=>cases h
 |ty _=>cases h
 | ref p =>
   unfold zb6 at h
   simp only at h
   split at h<;>first|(cases h;simp)|cases h
theorem zeP:zbc X (.builtin "isinstance") (fun xs H Q=>∃x c a,xs=[x,.ty c]/\zb6 H x=some a/\c∈["bool","int","str","list","tuple","dict"]/\Q (.bl (subT a c)) H):=by
 intro pins s σ H xs us Q I r h
 obtain⟨x,c,a,rfl,hx,hc,q⟩:=h
 obtain⟨u,w',rfl,rx,rc⟩:=zjg r
 cases (show w'=Value.type c from rc)
 exact zgO I rx (zf0 hx) (zkc X.K (zfx hx) hc) fun tk=>⟨.bl (subT a c),H,I.tok tk,rfl,q⟩
end
end L2
namespace L2
open PySem PySem.Spec PyProof.Rows
section
variable {X:Cx} {scope:Scope} {elt tg iter:Expr} {ifs:List Expr} {pos:Pos} {wi:TI} {g:TG} {tt:TT} {te:TE}
end
end L2
namespace L2
open PySem PySem.Spec PyProof.Rows
section
variable {X:Cx} (K:PySem.W.Frag) (hK:X.K=K)
include hK
end
end L2
end
section
namespace TM
structure Good (m:Nat) (wo:Option Int) (s:Int) (n:Nat) (p:List Int):Prop where
 len:p.length=n
 head:p.head?=some s
 nd:p.Nodup
 rng:∀h∈p,0<=h/\h<m/\wo≠some h
end TM
end
section
namespace L2
open PySem PySem.Spec PyProof.Rows
theorem zmz:bootBuiltins "len"=some (.builtin "len"):=by decide +kernel
theorem zmB:bootBuiltins "abs"=some (.builtin "abs"):=by decide +kernel
theorem zmy:bootBuiltins "max"=some (.builtin "max"):=by decide +kernel
theorem zmx:bootBuiltins "min"=some (.builtin "min"):=by decide +kernel
theorem zds:bootBuiltins "isinstance"=some (.builtin "isinstance"):=by decide +kernel
theorem zmA:bootBuiltins "int"=some (.type "int"):=by decide +kernel
theorem zkG:bootBuiltins "bool"=some (.type "bool"):=by decide +kernel
theorem zmw:bootBuiltins "str"=some (.type "str"):=by decide +kernel
theorem zeQ:bootBuiltins "list"=some (.type "list"):=by decide +kernel
theorem zfu:bootBuiltins "tuple"=some (.type "tuple"):=by decide +kernel
theorem zkF:bootBuiltins "dict"=some (.type "dict"):=by decide +kernel
noncomputable def cellZ (ns:List Int)(k:Nat):Int:=match ns[k]? with|some v=>v % 10 ^ 64|none=>0
end L2
end
section
namespace R
noncomputable def zm4 (a b:Int × Int):Bool:=decide (b.2<a.2\/(a.2=b.2/\a.1<=b.1))
noncomputable def zkY (rows:List (Int × Int)):List (Int × Int):=rows.mergeSort zm4
noncomputable def bump:List (Int × Int)->Int->List (Int × Int)
 | [],w=>[(w,1)]
 |(k,c)::r,w=>if k=w then (k,c+1)::r else (k,c)::bump r w
noncomputable def zc0 (kvs:List (Int × Int))(ws:List (Option Int)):List (Int × Int):=ws.foldl (fun a w=>match w with|some x=>bump a x|none=>a) kvs
end R
end
section
namespace R
noncomputable abbrev K3:=Int × List Int × Int
end R
end
section
namespace R
open PySem (Str PyData Operator CmpOp)
inductive D where
 |non|bl (b:Bool)|int (i:Int)|str (x:Str)|tup (ds:List D)|ref (l:Nat)
 |fix (ds:List D)
 |clo (kvs:List (K3 × Option Int))
inductive MO where
 |lst (ds:List D)|dic (kvs:List (Int × D))|ins (c:Nat) (fs:List (Str × D))
 |dtp (kvs:List (List Int × D))
 |d3 (kvs:List (K3 × D))
structure St where
 frz:List MO
 new:List MO
 lk:List Nat
inductive Out (α:Type) where
 |ok (a:α) (S:St)
 |err (d:D) (S:St)
 |bad
noncomputable def Out.bind {α β:Type}(o:Out α)(f:α->St->Out β):Out β:=match o with
 |.ok a S=>f a S
 |.err d S=>.err d S
 |.bad=>.bad
noncomputable def lift {α:Type}(S:St):Option α->Out α
 |some a=>.ok a S
 |none=>.bad
namespace St
noncomputable def get (S:St)(l:Nat):Option MO:=if l<S.frz.length then S.frz[l]? else S.new[l - S.frz.length]?
noncomputable def len (S:St):Nat:=S.frz.length+S.new.length
noncomputable def push (S:St)(o:MO):St:={S with new:=S.new++[o]}
noncomputable def put (S:St)(l:Nat)(o:MO):Option St:=if l<S.frz.length then none else if S.lk.contains l then none else some {S with new:=S.new.set (l - S.frz.length) o}
noncomputable def enter (S:St):St:=⟨S.frz++S.new,[],[]⟩
end St
noncomputable def lay (S:St)(ds:List D):Out D:=if ds.length<=16777216 then .ok (.ref S.len) (S.push (.lst ds)) else .bad
noncomputable def wr (S:St)(l:Nat)(ds:List D)(d:D):Out D:=if ds.length<=16777216 then (match S.put l (.lst ds) with|some S'=>.ok d S'|none=>.bad) else .bad
noncomputable def pd (S:St):Nat->D->Option PyData
 |_,.non=>some .none
 |_,.bl b=>some (.bool b)
 |_,.int i=>some (.int i)
 |_,.str x=>if PySem.PyData.strOk x then some (.str x) else none
 |n+1,.tup ds=>(ds.mapM (pd S n)).map PyData.tuple
 | n + 1, .ref l => match S.get l with
   |some (.lst ds)=>(ds.mapM (pd S n)).map PyData.list
   |_=>none
 |_,.fix _=>none
 |_,.clo _=>none
 |0,_=>none
mutual
noncomputable def flat (n:Nat):D->Bool
 |.tup ds=>flats n ds
 |.ref l=>decide (l<n)
 |.fix ds=>flats n ds
 |_=>true
noncomputable def flats (n:Nat):List D->Bool
 | []=>true
 |d::ds=>flat n d&&flats n ds
end
noncomputable def za7 (S:St):D->Option (List D)
 |.tup ds=>some ds
 |.fix ds=>some ds
 | .ref l => match S.get l with
   |some (.lst ds)=>some ds
   |_=>none
 |_=>none
noncomputable def lkOf (S:St):D->List Nat
 |.ref l=>[l]
 |_=>[]
noncomputable def tru (S:St):D->Option Bool
 |.non=>some false
 |.bl b=>some b
 |.int i=>some (i != 0)
 |.tup ds=>some (!ds.isEmpty)
 | .ref l => match S.get l with
   |some (.lst ds)=>some (!ds.isEmpty)
   |_=>none
 |_=>none
noncomputable def tyOf (S:St):D->Option String
 |.non=>some "NoneType"
 |.bl _=>some "bool"
 |.int _=>some "int"
 |.str _=>some "str"
 |.tup _=>some "tuple"
 | .ref l => match S.get l with
   |some (.lst _)=>some "list"
   |some (.dic _)=>some "dict"
   |some (.dtp _)=>some "dict"
   |_=>none
 |.fix _=>none
 |.clo _=>none
noncomputable def ixN (n:Nat)(i:Int):Option Nat:=if 0<=i then (if i<n then some i.toNat else none) else if -(n:Int)<=i then some (i+n).toNat else none
noncomputable def atI {α:Type}(xs:List α)(i:Int):Option α:=(ixN xs.length i).bind fun j=>xs[j]?
noncomputable def sIx (n d:Nat):Option Int->Nat
 |none=>d
 |some i=>if i<0 then (i+n).toNat else min i.toNat n
noncomputable def cut {α:Type}(xs:List α)(lo hi:Option Int):List α:=(xs.drop (sIx xs.length 0 lo)).take (sIx xs.length xs.length hi - sIx xs.length 0 lo)
noncomputable def zdk:D->Option Int
 |.int i=>some i
 |_=>none
noncomputable def zbq (m:Bool)(d:D):Option (Option Int):=if m then (match d with|.int i=>some (some i)|_=>none) else some none
noncomputable def zgu (i j:Int):Bool:=decide (-(2 ^ 64)<i/\i<2 ^ 64) || decide (-(2 ^ 64)<j/\j<2 ^ 64)
noncomputable def binI (S:St)(op:Operator)(i j:Int):Out D:=match op with
 |.Add=>.ok (.int (i+j)) S
 |.Sub=>.ok (.int (i - j)) S
 |.Mult=>if zgu i j then .ok (.int (i * j)) S else .bad
 |.FloorDiv=>if 0<j/\j<1073741824 then .ok (.int (i / j)) S else .bad
 |.Mod=>if 0<j then .ok (.int (i % j)) S else .bad
 |.Pow=>if 0<=j/\j<=1000000/\-18446744073709551616<i/\i<18446744073709551616 then .ok (.int (i ^ j.toNat)) S else .bad
 |_=>.bad
noncomputable def binD (S:St)(op:Operator)(x y:D):Out D:=match x,y with
 |.int i,.int j=>binI S op i j
 |.tup xs,.tup ys=>(match op with|.Add=>if xs.length+ys.length<=16777216 then .ok (.tup (xs++ys)) S else .bad|_=>.bad)
 |.ref a,.ref b=>(match op,S.get a,S.get b with|.Add,some (.lst xs),some (.lst ys)=>lay S (xs++ys)|_,_,_=>.bad)
 |_,_=>.bad
noncomputable def eqD (S:St)(x y:D):Option Bool:=(pd S 60 x).bind fun a=>(pd S 60 y).map fun b=>PyData.eqv a b
noncomputable def inD (S:St)(x:D)(ys:List D):Option Bool:=(ys.mapM fun z=>eqD S z x).map fun bs=>bs.any id
noncomputable def lexLt:List Int->List Int->Bool
 | [],[]=>false
 | [],_::_=>true
 |_::_,[]=>false
 |a::as,b::bs=>if a=b then lexLt as bs else decide (a<b)
noncomputable def zaT (ds:List D):Option (List Int):=ds.mapM zdk
noncomputable def cmpI (op:CmpOp)(i j:Int):Option Bool:=match op with
 |.Eq=>some (decide (i=j))
 |.NotEq=>some (!decide (i=j))
 |.Lt=>some (decide (i<j))
 |.LtE=>some (decide (i<=j))
 |.Gt=>some (decide (j<i))
 |.GtE=>some (decide (j<=i))
 |_=>none
noncomputable def zkg:D->Bool|.non=>true|_=>false
noncomputable def zcg:D->Option (Option Int)
 |.non=>some none
 |.int i=>some (some i)
 |_=>none
noncomputable def dKvs (S:St):D->Option (List (List Int × D))
 |.ref l=>(match S.get l with|some (.dtp kvs)=>some kvs|_=>none)
 |_=>none
noncomputable def zb5 (kvs:List (List Int × D)):Option (List (List Int × Option Int)):=kvs.mapM fun kv=>(zcg kv.2).map fun w=>(kv.1,w)
noncomputable def eqK (a b:List (List Int × D)):Option Bool:=(zb5 a).bind fun x=>(zb5 b).bind fun y=>if x=y then some true else none
noncomputable def zcc (S:St)(x y:D):Option Bool:=match dKvs S x,dKvs S y with
 |some a,some b=>eqK a b
 |_,_=>eqD S x y
noncomputable def zdj:D->Option (List Int)
 |.tup ds=>zaT ds
 |_=>none
noncomputable def key3:D->Option K3
 |.tup [.int a,.tup ds,.int b]=>(zaT ds).map fun p=>(a,p,b)
 |_=>none
noncomputable def d3K (S:St):D->Option (List (K3 × D))
 |.ref l=>(match S.get l with|some (.d3 kvs)=>some kvs|_=>none)
 |_=>none
noncomputable def zey (kvs:List (K3 × D))(k:K3)(v:D):List (K3 × D):=if k∈kvs.map (·.1) then kvs.map (fun x=>if x.1=k then (x.1,v) else x) else kvs++[(k,v)]
noncomputable def valP (kvs:List (List Int × D))(k:List Int):Option D:=(kvs.find? fun kv=>decide (kv.1=k)).map (·.2)
noncomputable def zeD (S:St)(x y:D):Option Bool:=match dKvs S y with
 |some kvs=>(zdj x).map fun k=>(valP kvs k).isSome
 | none => (match d3K S y with
   |some kvs=>(key3 x).map fun k=>decide (k∈kvs.map (·.1))
   |none=>(za7 S y).bind fun ys=>inD S x ys)
noncomputable def cmpO (S:St)(op:CmpOp)(x y:D):Option Bool:=match op with
 |.Eq=>zcc S x y
 |.NotEq=>(zcc S x y).map (!·)
 |.Is=>(match y with|.non=>some (zkg x)|.bl b=>(match x with|.bl a=>some (a == b)|_=>none)|_=>none)
 |.IsNot=>(match y with|.non=>some (!zkg x)|_=>none)
 |.In=>zeD S x y
 |.NotIn=>(zeD S x y).map (!·)
 |.Lt=>(match x,y with|.tup xs,.tup ys=>(zaT xs).bind fun a=>(zaT ys).map fun b=>lexLt a b|_,_=>none)
 |_=>none
noncomputable def cmpD (S:St)(op:CmpOp)(x y:D):Option Bool:=match x,y with
 |.int i,.int j=>cmpI op i j
 |_,_=>cmpO S op x y
inductive Bi where
 |len|abs|max2|min2|isin (t:String)
noncomputable def zbK (ds:List D):Option (List (Option Int)):=ds.mapM zcg
inductive Mt where
 |append|popAt|count
noncomputable def bi (S:St):Bi->List D->Out D
 | .len, [x] => (match x with
   |.tup ds=>.ok (.int ds.length) S
   |.fix ds=>.ok (.int ds.length) S
   |.ref l=>(match S.get l with|some (.lst ds)=>.ok (.int ds.length) S|some (.dic kvs)=>.ok (.int kvs.length) S|some (.dtp kvs)=>.ok (.int kvs.length) S|_=>.bad)
   |_=>.bad)
 |.abs,[.int i]=>.ok (.int (if i<0 then -i else i)) S
 |.max2,[.int i,.int j]=>.ok (.int (if j > i then j else i)) S
 |.min2,[.int i,.int j]=>.ok (.int (if j<i then j else i)) S
 |.isin t,[x]=>(match tyOf S x with|some a=>.ok (.bl (a == t || (a == "bool"&&t == "int"))) S|none=>.bad)
 |_,_=>.bad
noncomputable def isL (S:St):D->Bool
 |.ref l=>(match S.get l with|some (.lst _)=>true|_=>false)
 |_=>false
noncomputable def mt (S:St):Mt->D->List D->Out D
 |.append,.ref l,[y]=>(match S.get l with|some (.lst ds)=>wr S l (ds++[y]) .non|_=>.bad)
 | .popAt, .ref l, [.int i] => (match S.get l with
   |some (.lst ds)=>if 0<=i then (match ds[i.toNat]? with|some y=>wr S l (ds.eraseIdx i.toNat) y|none=>.bad) else .bad
   |_=>.bad)
 | .count, .ref l, [.int i] => (match S.get l with
   |some (.lst ds)=>(match zbK ds with|some os=>.ok (.int (os.count (some i):Nat)) S|none=>.bad)
   |_=>.bad)
 |_,_,_=>.bad
noncomputable def putP:List (List Int × D)->List Int->D->List (List Int × D)
 | [],k,v=>[(k,v)]
 |(j,d)::r,k,v=>if j=k then (j,v)::r else (j,d)::putP r k v
noncomputable def putI:List (Int × D)->Int->D->List (Int × D)
 | [],k,v=>[(k,v)]
 |(j,d)::r,k,v=>if j=k then (j,v)::r else (j,d)::putI r k v
noncomputable def dPut (S:St)(x y v:D):Option St:=match x with
 | .ref l => (match S.get l with
   |some (.dtp kvs)=>(zdj y).bind fun k=>if kvs.length<16777216 then S.put l (.dtp (putP kvs k v)) else none
   |some (.dic kvs)=>(zdk y).bind fun k=>if kvs.length<16777216 then S.put l (.dic (putI kvs k v)) else none
   |some (.d3 kvs)=>(key3 y).bind fun k=>if kvs.length<16777216 then S.put l (.d3 (zey kvs k v)) else none
   |_=>none)
 |_=>none
noncomputable def wD:Option Int->D
 |none=>.non
 |some i=>.int i
noncomputable def putW (kvs:List (K3 × Option Int))(k:K3)(o:Option Int):List (K3 × Option Int):=if k∈kvs.map (·.1) then kvs.map (fun x=>if x.1=k then (x.1,o) else x) else kvs++[(k,o)]
noncomputable def lie4:D->Option (K3 × Option Int)
 |.tup [.int a,.tup ds,.int b,w]=>(zaT ds).bind fun p=>(zcg w).map fun o=>((a,p,b),o)
 |_=>none
noncomputable def zan (kvs:List (K3 × Option Int)):List (K3 × Option Int)->List (K3 × Option Int)
 | []=>kvs
 |l::ls=>zan (putW kvs l.1 l.2) ls
noncomputable def zbY:D->List D->Option D
 |.clo kvs,[.int t,.tup ds,.int b,w]=>(zaT ds).map fun p=>(match kvs.find? fun kv=>decide (kv.1=(t,p,b)) with|some kv=>wD kv.2|none=>w)
 |_,_=>none
noncomputable def zi4:D->Bool|.non=>true|_=>false
mutual
inductive CE where
 |loc (i:Nat)|con (d:D)
 |tst (a:CE)
 |bin (op:Operator) (a b:CE)|neg (a:CE)|nt (a:CE)
 |cmp (op:CmpOp) (a b:CE)
 |and (a b:CE)|or (a b:CE)
 |tup (es:CEs)|lst (es:CEs)|dnew3
 |ix (a b:CE)
 |mk (c f:Nat) (x:Str) (j:Nat) (es:CEs)|clr (a:CE)|callV (a:CE) (es:CEs)
 |sl (a:CE) (ml mh:Bool) (lo hi:CE)
 |call (f j:Nat) (es:CEs)|bi (b:Bi) (es:CEs)|mt (m:Mt) (o:CE) (es:CEs)
 |mkL (l:CL)|mkT (l:CL)|ext (a:CE) (l:CL)
inductive CEs where
 |nil|cons (e:CE) (r:CEs)
inductive CL where
 |val (e:CE)|rng1 (a:CE)|zip (a b:CE)
 |comp (nt:Nat) (js:List Nat) (g:List Nat) (it:CL) (c:CE) (e:CE)
end
inductive CS where
 |nil|stop|asg (i:Nat) (e:CE) (r:CS)|asgT (g:List Nat) (e:CE) (r:CS)|setIx (a b e:CE) (r:CS)
 |ifS (c:CE) (t u:CS) (r:CS)|forS (g:List Nat) (l:CL) (b:CS) (r:CS)|ret (e:CE) (r:CS)|expr (e:CE) (r:CS)
noncomputable abbrev Ev:=List (Option D)
noncomputable def zc3:List Nat->List D->Ev->Ev
 |i::is,d::ds,δ=>zc3 is ds (δ.set i (some d))
 |_,_,δ=>δ
noncomputable def asgG (g:List Nat)(x:D)(δ:Ev):Option Ev:=match g with
 | [i]=>some (δ.set i (some x))
 |is=>(match x with|.tup ds=>if ds.length=is.length then some (zc3 is ds δ) else none|_=>none)
noncomputable def zez (x y:D):D:=.tup [x,y]
noncomputable def zeh (S:St)(x y:D):Option (List D × List Nat):=match x,y with
 | .ref l, .ref m => (match S.get l, S.get m with
   |some (.lst xs),some (.lst ys)=>some (List.zipWith zez xs ys,[l,m])
   |_,_=>none)
 |_,_=>none
noncomputable abbrev CF:=Nat->List D->St->Out D
noncomputable def zb3 (S:St)(d:D)(T:St):Out D:=
 if flat S.len d then .ok d S else
 let keep:Out D:=.ok d ⟨S.frz,S.new++T.new,S.lk⟩
 match d with
  | .ref l => (match T.get l with
    |some (.lst ds)=>if flats S.len ds then .ok (.ref S.len) (S.push (.lst ds)) else keep
    |some (.dic kvs)=>if flats S.len (kvs.map (·.2)) then .ok (.ref S.len) (S.push (.dic kvs)) else keep
    |some (.dtp kvs)=>if flats S.len (kvs.map (·.2)) then .ok (.ref S.len) (S.push (.dtp kvs)) else keep
    |_=>keep)
  |_=>keep
noncomputable def zgD (S:St)(d:D)(T:St):Out (List D):=match d with
 |.ref l=>if l<S.len then .bad else (match T.get l with|some (.lst ds)=>if flats S.len ds then .ok ds S else .bad|_=>.bad)
 |_=>.bad
@[irreducible] noncomputable def app (cf:CF)(f:Nat)(ds:List D)(S:St):Out D:=(cf f ds S.enter).bind fun d T=>zb3 S d T
@[irreducible] noncomputable def appL (cf:CF)(f:Nat)(ds:List D)(S:St):Out (List D):=(cf f ds S.enter).bind fun d T=>zgD S d T
@[irreducible] noncomputable def appW (cf:CF)(f:Nat)(ds:List D)(S:St):Out D:=cf f ds S
noncomputable def csl (nt:Nat)(js:List Nat)(δ:Ev):Ev:=List.replicate nt none++js.map fun j=>(δ[j]?).join
noncomputable def zaG (g:List Nat)(c:Ev->St->Out Bool)(e:Ev->St->Out D):List D->Ev->St->Out (List D)
 | [],_,S=>.ok [] S
 | x :: xs, δ, S => match asgG g x δ with
   |none=>.bad
   |some δ'=>(c δ' S).bind fun b S1=>if b then (e δ' S1).bind fun d S2=>(zaG g c e xs δ' S2).bind fun ds S3=>.ok (d::ds) S3 else zaG g c e xs δ' S1
noncomputable def za1 {α:Type}(ls:List Nat)(S:St)(f:St->Out α):Out α:=
 (f {S with lk:=ls++S.lk}).bind fun a S'=>.ok a {S' with lk:=S.lk}
section
variable (cf:CF)
mutual
noncomputable def evE:CE->Ev->St->Out D
 |.loc i,δ,S=>lift S (δ[i]?).join
 |.con d,_,S=>.ok d S
 |.tst _,_,_=>.bad
 |.bin op a b,δ,S=>(evE a δ S).bind fun x S1=>(evE b δ S1).bind fun y S2=>binD S2 op x y
 |.neg a,δ,S=>(evE a δ S).bind fun x S1=>match x with|.int i=>.ok (.int (-i)) S1|_=>.bad
 |.nt a,δ,S=>(evE a δ S).bind fun x S1=>match x with|.bl b=>.ok (.bl (!b)) S1|_=>.bad
 |.cmp op a b,δ,S=>(evE a δ S).bind fun x S1=>(evE b δ S1).bind fun y S2=>(lift S2 (cmpD S2 op x y)).bind fun k S3=>.ok (.bl k) S3
 |.and a b,δ,S=>(evE a δ S).bind fun x S1=>match x with|.bl k=>if k then evE b δ S1 else .ok (.bl false) S1|_=>.bad
 |.or a b,δ,S=>(evE a δ S).bind fun x S1=>match x with|.bl k=>if k then .ok (.bl true) S1 else evE b δ S1|_=>.bad
 |.tup es,δ,S=>(evEs es δ S).bind fun ds S1=>if ds.length<=16777216 then .ok (.tup ds) S1 else .bad
 |.lst es,δ,S=>(evEs es δ S).bind fun ds S1=>lay S1 ds
 |.dnew3,_,S=>.ok (.ref S.len) (S.push (.d3 []))
 |.mk c f _ j es,δ,S=>(evEs es δ S).bind fun ds S1=>(appW cf f (.ref S1.len::(ds++List.replicate j .non)) (S1.push (.ins c []))).bind fun d S2=>if zi4 d then .ok (.ref S1.len) S2 else .bad
 |.clr a,δ,S=>(evE a δ S).bind fun x S1=>if isL S1 x then (match x with|.ref l=>wr S1 l [] .non|_=>.bad) else .bad
 |.callV a es,δ,S=>(evE a δ S).bind fun x S1=>(evEs es δ S1).bind fun ds S2=>lift S2 (zbY x ds)
 |.ix a b,δ,S=>(evE a δ S).bind fun x S1=>(evE b δ S1).bind fun y S2=>match za7 S2 x,y with|some ds,.int i=>lift S2 (atI ds i)|_,_=>.bad
 |.sl a ml mh lo hi,δ,S=>(evE a δ S).bind fun x S1=>(evE lo δ S1).bind fun y S2=>(evE hi δ S2).bind fun z S3=>match zbq ml y,zbq mh z with
  | some l, some h => (match x with
    |.tup ds=>.ok (.tup (cut ds l h)) S3
    |.fix ds=>lay S3 (cut ds l h)
    |.ref p=>(match S3.get p with|some (.lst ds)=>lay S3 (cut ds l h)|_=>.bad)
    |_=>.bad)
  |_,_=>.bad
 |.call f j es,δ,S=>(evEs es δ S).bind fun ds S1=>app cf f (ds++List.replicate j .non) S1
 |.bi b es,δ,S=>(evEs es δ S).bind fun ds S1=>R.bi S1 b ds
 |.mt m o es,δ,S=>(evE o δ S).bind fun x S1=>if isL S1 x then (evEs es δ S1).bind fun ds S2=>R.mt S2 m x ds else .bad
 |.mkL l,δ,S=>(evL l δ S).bind fun r S1=>lay S1 r.1
 |.mkT l,δ,S=>(evL l δ S).bind fun r S1=>if r.1.length<=16777216 then .ok (.tup r.1) S1 else .bad
 |.ext a l,δ,S=>(evE a δ S).bind fun x S1=>if isL S1 x then (evL l δ S1).bind fun r S2=>(match x with
  |.ref p=>(match S2.get p with|some (.lst ds)=>wr S2 p (ds++r.1) .non|_=>.bad)
  |_=>.bad) else .bad
noncomputable def evEs:CEs->Ev->St->Out (List D)
 |.nil,_,S=>.ok [] S
 |.cons e r,δ,S=>(evE e δ S).bind fun d S1=>(evEs r δ S1).bind fun ds S2=>.ok (d::ds) S2
noncomputable def evT:CE->Ev->St->Out Bool
 |.cmp op a b,δ,S=>(evE a δ S).bind fun x S1=>(evE b δ S1).bind fun y S2=>lift S2 (cmpD S2 op x y)
 |.nt a,δ,S=>(evT a δ S).bind fun k S1=>.ok (!k) S1
 |.and a b,δ,S=>(evT a δ S).bind fun k S1=>if k then evT b δ S1 else .ok false S1
 |.or a b,δ,S=>(evT a δ S).bind fun k S1=>if k then .ok true S1 else evT b δ S1
 |.tst e,δ,S=>(evE e δ S).bind fun x S1=>lift S1 (tru S1 x)
 |_,_,_=>.bad
noncomputable def evL:CL->Ev->St->Out (List D × List Nat)
 |.val e,δ,S=>(evE e δ S).bind fun x S1=>(lift S1 (za7 S1 x)).bind fun ds S2=>.ok (ds,lkOf S2 x) S2
 |.rng1 a,δ,S=>(evE a δ S).bind fun x S1=>match x with|.int j=>if -(2 ^ 62)<=j/\j<2 ^ 62 then .ok ((List.range j.toNat).map fun (k:Nat)=>.int k,[]) S1 else .bad|_=>.bad
 |.zip a b,δ,S=>(evE a δ S).bind fun x S1=>(evE b δ S1).bind fun y S2=>lift S2 (zeh S2 x y)
 |.comp n js g it c e,δ,S=>(evL it δ S).bind fun r S1=>(za1 r.2 S1 fun S2=>zaG g (evT c) (evE e) r.1 (csl n js δ) S2).bind fun ds S3=>if ds.length<=16777216 then .ok (ds,[]) S3 else .bad
end
inductive Fl where
 |nx (δ:Ev)|rt (d:D)
noncomputable def zbb (g:List Nat)(b:Ev->St->Out Fl):List D->Ev->St->Out Fl
 | [],δ,S=>.ok (.nx δ) S
 | x :: xs, δ, S => match asgG g x δ with
   |none=>.bad
   | some δ' => (b δ' S).bind fun f S1 => match f with
     |.nx δ2=>zbb g b xs δ2 S1
     |.rt d=>.ok (.rt d) S1
noncomputable def exS:CS->Ev->St->Out Fl
 |.nil,δ,S=>.ok (.nx δ) S
 |.stop,_,_=>.bad
 |.asg i e r,δ,S=>(evE cf e δ S).bind fun x S1=>exS r (δ.set i (some x)) S1
 |.asgT g e r,δ,S=>(evE cf e δ S).bind fun x S1=>(lift S1 (asgG g x δ)).bind fun δ' S2=>exS r δ' S2
 |.setIx a b e r,δ,S=>(evE cf e δ S).bind fun v S1=>(evE cf a δ S1).bind fun x S2=>(evE cf b δ S2).bind fun y S3=>match dPut S3 x y v with|some S4=>exS r δ S4|none=>.bad
 |.ifS c t u r,δ,S=>(evT cf c δ S).bind fun k S1=>(if k then exS t δ S1 else exS u δ S1).bind fun f S2=>match f with
  |.nx δ'=>exS r δ' S2
  |.rt d=>.ok (.rt d) S2
 |.forS g l b r,δ,S=>(evL cf l δ S).bind fun q S1=>(za1 q.2 S1 fun S2=>zbb g (exS b) q.1 δ S2).bind fun f S3=>match f with
  |.nx δ'=>exS r δ' S3
  |.rt d=>.ok (.rt d) S3
 |.ret e _,δ,S=>(evE cf e δ S).bind fun x S1=>.ok (.rt x) S1
 |.expr e r,δ,S=>(evE cf e δ S).bind fun _ S1=>exS r δ S1
end
inductive Prim where
 |tally|road
noncomputable def rowD (r:Int × Int):D:=.tup [.int r.1,.int r.2]
noncomputable def talD (os:List (Option Int)):List D:=(zkY (zc0 [] os)).map rowD
noncomputable def prm (S:St):Prim->List D->Out D
 | .tally, [.ref l] => (match S.get l with
   | some (.lst ws) => (match zbK ws with
     |some os=>if (zc0 [] os).length<64/\os.length<=16777216 then .ok (.ref S.len) (S.push (.lst (talD os))) else .bad
     |none=>.bad)
   |_=>.bad)
 | .road, [x] => (match (za7 S x).bind fun ds => ds.mapM lie4 with
   |some ls=>if ls.length<=1000/\S.lk=[] then .ok (.clo (zan [] ls)) S else .bad
   |none=>.bad)
 |_,_=>.bad
structure Fn where
 np:Nat
 nn:Nat
 body:CS
 prim:Option Prim
noncomputable def zbj (F:Fn)(ds:List D):Ev:=ds.map some++List.replicate (F.nn - F.np) none
noncomputable def callF (P:List Fn):Nat->CF
 |0,_,_,_=>.bad
 | n + 1, f, ds, S => match P[f]? with
   | some F => if ds.length = F.np then (match F.prim with
      |some p=>if 3<=n then prm S p ds else .bad
      | none => (exS (callF P n) F.body (zbj F ds) S).bind fun r T => match r with
        |.nx _=>.ok .non T
        |.rt d=>.ok d T)
     else .bad
   |none=>.bad
end R
end
section
namespace R
open PySem (Str PyData Operator CmpOp)
@[simp] theorem zaR {α β:Type}(a:α)(S:St)(f:α->St->Out β):(Out.ok a S).bind f=f a S:=rfl
@[simp] theorem zmM {α β:Type}(f:α->St->Out β):(Out.bad:Out α).bind f=.bad:=rfl
@[simp] theorem zmL {α β:Type}(d:D)(S:St)(f:α->St->Out β):(Out.err d S:Out α).bind f=.err d S:=rfl
@[simp] theorem zgA {α:Type}(S:St)(a:α):lift S (some a)=.ok a S:=rfl
theorem zap (S:St):S.enter.get=S.get:=by
 funext l
 simp only[St.get,St.enter,List.length_append,List.getElem?_append]
 by_cases h:l<S.frz.length
 · simp[h,Nat.lt_of_lt_of_le h (Nat.le_add_right _ _)]
 · simp only[h,if_false]
   split
   · rfl
   · simp only[List.getElem?_nil]
     exact (List.getElem?_eq_none (by omega)).symm
@[simp] theorem zg9 (S:St):S.enter.frz=S.frz++S.new:=rfl
@[simp] theorem zmn (S:St):S.enter.new=[]:=rfl
@[simp] theorem zmK (S:St):S.enter.lk=[]:=rfl
@[simp] theorem enter_len (S:St):S.enter.len=S.len:=by simp[St.len]
theorem zcw (S:St):(S.frz++S.new).length=S.len:=by simp[St.len]
theorem zaD {S:St}{l:Nat}{o:MO}(h:S.get l=some o):l<S.len:=by
 unfold St.get at h
 unfold St.len
 split at h
 · omega
 · have:=(List.getElem?_eq_some_iff.mp h).1
   omega
theorem zkm {S:St}{l:Nat}{o:MO}(h:S.get l=some o)(nw:List MO)(lk:List Nat):(St.mk (S.frz++S.new) nw lk).get l=some o:=by
 have hl:=zaD h
 rw[<-zap] at h
 unfold St.get at h⊢
 have e:l<(S.frz++S.new).length:=by rw[zcw];exact hl
 simp only[zg9,e,if_true] at h⊢
 exact h
theorem zdl (F nw:List MO)(lk:List Nat)(i:Nat):(St.mk F nw lk).get (F.length+i)=nw[i]?:=by
 have:¬F.length+i<F.length:=by omega
 simp[St.get,this]
@[simp] theorem zmH (n:Nat):flat n .non=true:=by simp[flat]
@[simp] theorem zny (n:Nat)(b:Bool):flat n (.bl b)=true:=by simp[flat]
@[simp] theorem zmI (n:Nat)(i:Int):flat n (.int i)=true:=by simp[flat]
@[simp] theorem zmG (n:Nat)(x:Str):flat n (.str x)=true:=by simp[flat]
@[simp] theorem zfk (n:Nat)(ds:List D):flat n (.tup ds)=flats n ds:=by simp[flat]
@[simp] theorem zmJ (n:Nat)(ds:List D):flat n (.fix ds)=flats n ds:=by simp[flat]
@[simp] theorem zml (n:Nat):flats n []=true:=by simp[flats]
@[simp] theorem zcZ (n:Nat)(d:D)(ds:List D):flats n (d::ds)=(flat n d&&flats n ds):=by simp[flats]
@[simp] theorem zd0 (n : Nat) : ∀ ds es : List D, flats n (ds ++ es) = (flats n ds && flats n es)
  | [],es=>by simp
  |d::ds,es=>by simp[zd0 n ds es,Bool.and_assoc]
theorem zaP (n:Nat):∀ds:List D,flats n ds=true↔∀d∈ds,flat n d=true
 | []=>by simp
 |d::ds=>by simp[zaP n ds]
@[simp] theorem zkK (n:Nat)(ns:List Int):flats n (ns.map D.int)=true:=by rw[zaP];simp
@[simp] theorem zfK (S:St)(d:D)(T:St)(h:flat S.len d=true):zb3 S d T=.ok d S:=by simp[zb3,h]
noncomputable def W {α:Type}(o:Out α)(Q:α->St->Prop):Prop:=match o with
 |.ok a S=>Q a S
 |_=>False
@[simp] theorem W_ok {α:Type}(a:α)(S:St)(Q:α->St->Prop):W (.ok a S) Q=Q a S:=rfl
@[simp] theorem znS {α:Type}(Q:α->St->Prop):W (.bad:Out α) Q=False:=rfl
@[simp] theorem znR {α:Type}(d:D)(S:St)(Q:α->St->Prop):W (.err d S:Out α) Q=False:=rfl
@[simp] theorem zac {α β : Type} (o : Out α) (f : α → St → Out β) (Q : β → St → Prop) : W (o.bind f) Q = W o fun a S => W (f a S) Q := by
  cases o<;>rfl
theorem W.mono {α:Type}{o:Out α}{Q Q':α->St->Prop}(h:W o Q)(hq:∀a S,Q a S->Q' a S):W o Q':=by
 cases o with
 |ok a S=>exact hq a S h
 |err d S=>exact h
 |bad=>exact h
theorem W.eq {α:Type}{o:Out α}{d:α}{S:St}(h:W o fun a T=>a=d/\T=S):o=.ok d S:=by
 cases o with
 |ok a T=>obtain⟨rfl,rfl⟩:=h;rfl
 |err d S=>exact False.elim h
 |bad=>exact False.elim h
theorem W.of {α:Type}{o:Out α}{d:α}{S:St}{Q:α->St->Prop}(h:o=.ok d S)(q:Q d S):W o Q:=by rw[h];exact q
theorem W.iff {α:Type}{o:Out α}{Q:α->St->Prop}:W o Q↔∃a S,o=.ok a S/\Q a S:=by
 cases o with
 |ok a S=>exact⟨fun h=>⟨a,S,rfl,h⟩,fun⟨_,_,e,h⟩=>by cases e;exact h⟩
 |err d S=>exact⟨fun h=>h.elim,fun⟨_,_,e,_⟩=>nomatch e⟩
 |bad=>exact⟨fun h=>h.elim,fun⟨_,_,e,_⟩=>nomatch e⟩
noncomputable def fin (S:St)(r:Fl)(T:St):Out D:=match r with
 |.nx _=>zb3 S .non T
 |.rt d=>zb3 S d T
@[simp] theorem zi7 (S T:St)(d:D):fin S (.rt d) T=zb3 S d T:=rfl
@[simp] theorem znQ (S T:St)(δ:Ev):fin S (.nx δ) T=.ok .non S:=by simp[fin]
theorem zmC {P:List Fn}{F:Fn}{f n:Nat}{ds:List D}{S:St}(h:P[f]?=some F)(hl:ds.length=F.np)(hp:F.prim=none:=by rfl) :
  app (callF P (n+1)) f ds S=(exS (callF P n) F.body (zbj F ds) S.enter).bind fun r T=>fin S r T:=by
 simp only[app,callF,h,hl,hp,if_true]
 generalize exS (callF P n) F.body (zbj F ds) S.enter=o
 cases o with
 |ok r T=>cases r<;>rfl
 |err d S=>rfl
 |bad=>rfl
noncomputable def finL (S:St)(r:Fl)(T:St):Out (List D):=match r with
 |.nx _=>.bad
 |.rt d=>zgD S d T
@[simp] theorem znz (S T:St)(d:D):finL S (.rt d) T=zgD S d T:=rfl
theorem zax {g:List Nat}{b:Ev->St->Out Fl}(I:Nat->Ev->St->Prop)(Rt:D->St->Prop):∀(xs:List D) (k:Nat) (δ:Ev) (S:St),I k δ S->
  (∀i x δ S,xs[i]?=some x->I (k+i) δ S->∃δ',asgG g x δ=some δ'/\W (b δ' S) fun f S'=>match f with|.nx δ2=>I (k+i+1) δ2 S'|.rt d=>Rt d S')->
  W (zbb g b xs δ S) fun f S'=>match f with|.nx δ'=>I (k+xs.length) δ' S'|.rt d=>Rt d S'
 | [],k,δ,S,h,_=>by simpa[zbb] using h
 | x :: xs, k, δ, S, h, step => by
   obtain⟨δ',e,w⟩:=step 0 x δ S rfl h
   simp only[zbb,e,zac]
   refine w.mono fun f S1 hf=>?_
   cases f with
   |rt d=>exact hf
   | nx δ2 =>
     have ih:=zax I Rt xs (k+1) δ2 S1 hf (fun i y δ S hy hi=>by
      have:=step (i+1) y δ S (by simpa using hy) (by rw[show k+(i+1)=k+1+i by omega];exact hi)
      rw[show k+(i+1)+1=k+1+i+1 by omega] at this
      exact this)
     rw[show k+1+xs.length=k+(x::xs).length by simp;omega] at ih
     exact ih
theorem za5 {c:Ev->St->Out Bool}{e:Ev->St->Out D}{S:St}{rest:Ev}(p:D->Bool)(f:D->D):∀(xs:List D) (o:Option D),
  (∀x∈xs,c (some x::rest) S=.ok (p x) S)->(∀x∈xs,p x=true->e (some x::rest) S=.ok (f x) S)->zaG [0] c e xs (o::rest) S=.ok ((xs.filter p).map f) S
 | [],o,_,_=>rfl
 | x :: xs, o, hc, he => by
   have ih:=za5 p f xs (some x) (fun y hy=>hc y (List.mem_cons_of_mem _ hy)) (fun y hy=>he y (List.mem_cons_of_mem _ hy))
   simp only[zaG,asgG,List.set_cons_zero,hc x List.mem_cons_self,zaR]
   cases hp:p x with
   |false=>simp[ih,hp]
   |true=>simp[ih,hp,he x List.mem_cons_self hp]
theorem zcR {c:Ev->St->Out Bool}{e:Ev->St->Out D}{S:St}{rest:Ev}(f:D->D)(xs:List D)(o:Option D)
  (hc:∀x∈xs,c (some x::rest) S=.ok true S) (he:∀x∈xs,e (some x::rest) S=.ok (f x) S):zaG [0] c e xs (o::rest) S=.ok (xs.map f) S:=by
 have:=za5 (c:=c) (e:=e) (S:=S) (rest:=rest) (fun _=>true) f xs o hc (fun x hx _=>he x hx)
 rw[List.filter_eq_self.mpr (fun _ _=>rfl)] at this
 exact this
@[simp] theorem zkJ {α:Type}(S:St)(f:St->Out α):za1 [] S f=(f S).bind fun a S'=>.ok a {S' with lk:=S.lk}:=rfl
end R
end
section
namespace R
open PySem (Str PyData Operator CmpOp)
noncomputable def wIf (c:Bool)(P Q:Prop):Prop:=match c with|true=>P|false=>Q
@[irreducible] noncomputable def wOpt {α:Type}(o:Option α)(k:α->Prop):Prop:=match o with|some a=>k a|none=>False
@[irreducible] noncomputable def zaX (p k:Prop):Prop:=p/\k
@[irreducible] noncomputable def wOut {α:Type}(o:Out α)(Q:α->St->Prop):Prop:=W o Q
theorem zmO {c:Bool}{P Q:Prop}(h:c=true)(k:P):wIf c P Q:=by subst h;exact k
theorem zkP {c:Bool}{P Q:Prop}(h:c=false)(k:Q):wIf c P Q:=by subst h;exact k
theorem zek {c:Bool}{P Q:Prop}(h1:c=true->P)(h2:c=false->Q):wIf c P Q:=by
 cases c with
 |true=>exact zmO rfl (h1 rfl)
 |false=>exact zkP rfl (h2 rfl)
theorem zcL {p:Prop}[Decidable p]{P Q:Prop}(h1:p->P)(h2:¬p->Q):wIf (decide p) P Q:=zek (fun h=>h1 (of_decide_eq_true h)) (fun h=>h2 (of_decide_eq_false h))
theorem zab {α:Type}{o:Option α}{k:α->Prop}{a:α}(h:o=some a)(q:k a):wOpt o k:=by unfold wOpt;rw[h];exact q
theorem zaa {p k:Prop}(h:p)(q:k):zaX p k:=by unfold zaX;exact⟨h,q⟩
theorem zas {α:Type}{o:Out α}{Q:α->St->Prop}{a:α}{S:St}(h:o=.ok a S)(q:Q a S):wOut o Q:=by unfold wOut;rw[h];exact q
noncomputable abbrev wGet (S:St)(l:Nat)(k:MO->Prop):Prop:=wOpt (S.get l) k
noncomputable abbrev wPut (S:St)(l:Nat)(o:MO)(k:St->Prop):Prop:=wOpt (S.put l o) k
noncomputable def wLay (S:St)(ds:List D)(Q:D->St->Prop):Prop:=zaX (ds.length<=16777216) (Q (.ref S.len) (S.push (.lst ds)))
theorem zdt {S:St}{ds:List D}{Q:D->St->Prop}(h:wLay S ds Q):W (lay S ds) Q:=by
 unfold wLay zaX at h
 unfold lay
 rw[if_pos h.1];exact h.2
noncomputable def wWr (S:St)(l:Nat)(ds:List D)(d:D)(Q:D->St->Prop):Prop:=zaX (ds.length<=16777216) (wPut S l (.lst ds) fun S'=>Q d S')
theorem zhz {S:St}{l:Nat}{ds:List D}{d:D}{Q:D->St->Prop}(h:wWr S l ds d Q):W (wr S l ds d) Q:=by
 unfold wWr zaX wPut wOpt at h
 unfold wr
 rw[if_pos h.1]
 have h2:=h.2
 cases e:S.put l (.lst ds) with
 |none=>rw[e] at h2;exact h2.elim
 |some S'=>rw[e] at h2;exact h2
noncomputable def zkR (S:St)(op:Operator)(i j:Int)(Q:D->St->Prop):Prop:=match op with
 |.Add=>Q (.int (i+j)) S
 |.Sub=>Q (.int (i - j)) S
 |.Mult=>zaX (zgu i j=true) (Q (.int (i * j)) S)
 |.FloorDiv=>zaX (0<j/\j<1073741824) (Q (.int (i / j)) S)
 |.Mod=>zaX (0<j) (Q (.int (i % j)) S)
 |.Pow=>zaX (0<=j/\j<=1000000/\-18446744073709551616<i/\i<18446744073709551616) (Q (.int (i ^ j.toNat)) S)
 |_=>False
noncomputable def wBin (S:St)(op:Operator)(x y:D)(Q:D->St->Prop):Prop:=match x,y with
 |.int i,.int j=>zkR S op i j Q
 |.tup xs,.tup ys=>(match op with|.Add=>zaX (xs.length+ys.length<=16777216) (Q (.tup (xs++ys)) S)|_=>False)
 |.ref a,.ref b=>(match op with|.Add=>wGet S a fun o=>wGet S b fun u=>(match o,u with|.lst xs,.lst ys=>wLay S (xs++ys) Q|_,_=>False)|_=>False)
 |_,_=>False
theorem zkQ {S:St}{op:Operator}{x y:D}{Q:D->St->Prop}(h:wBin S op x y Q):W (binD S op x y) Q:=by
 unfold wBin at h
 unfold binD
 split at h
 · unfold zkR zaX at h
   unfold binI
   split at h<;>(try dsimp only)<;>first|exact h|(rw[if_pos h.1];exact h.2)|exact False.elim h
 · split at h
   · unfold zaX at h
     (try simp only)
     rw[if_pos h.1];exact h.2
   · exact h.elim
 · split at h
   · unfold wGet wOpt at h
     (try simp only)
     cases ea:S.get _ with
     |none=>simp only[ea] at h
     | some o =>
       simp only[ea] at h
       cases eb:S.get _ with
       |none=>simp only[eb] at h
       | some u =>
         simp only[eb] at h
         cases o<;>cases u<;>first|exact zdt h|exact h.elim
   · exact h.elim
 · exact h.elim
noncomputable def wCmp (S:St)(op:CmpOp)(x y:D)(Q:Bool->Prop):Prop:=match x,y with
 |.int i,.int j=>(match cmpI op i j with|some k=>Q k|none=>False)
 | _, _ => (match op with
   |.Is=>(match cmpO S .Is x y with|some k=>Q k|none=>False)
   |.IsNot=>(match cmpO S .IsNot x y with|some k=>Q k|none=>False)
   |_=>wOpt (cmpO S op x y) Q)
theorem zky {S:St}{op:CmpOp}{x y:D}(h:∀i j,x=.int i->y=.int j->False):cmpD S op x y=cmpO S op x y:=by
 unfold cmpD
 split
 · rename_i i j;exact (h i j rfl rfl).elim
 · rfl
theorem zjf {S:St}{op:CmpOp}{x y:D}{Q:Bool->Prop}(h:wCmp S op x y Q):∃k,cmpD S op x y=some k/\Q k:=by
 have fin:∀o:Option Bool,(match o with|some k=>Q k|none=>False)->∃k,o=some k/\Q k:=fun o q=>by
  cases o with
  |none=>exact q.elim
  |some k=>exact⟨k,rfl,q⟩
 unfold wCmp at h
 split at h
 · exact fin _ h
 · rename_i hn
   rw[zky hn]
   split at h
   · exact fin _ h
   · exact fin _ h
   · unfold wOpt at h
     cases e:cmpO S op x y with
     |none=>rw[e] at h;exact h.elim
     |some k=>rw[e] at h;exact⟨k,rfl,h⟩
theorem ziF {S:St}{op:CmpOp}{x y:D}{Q:Bool->St->Prop}(h:wCmp S op x y fun k=>Q k S):W (lift S (cmpD S op x y)) Q:=by
 obtain⟨k,e,q⟩:=zjf h
 rw[e];exact q
noncomputable def wBi (S:St)(b:Bi)(ds:List D)(Q:D->St->Prop):Prop:=match b,ds with
 | .len, [x] => (match x with
   |.tup ds=>Q (.int ds.length) S
   |.fix ds=>Q (.int ds.length) S
   |.ref l=>wGet S l fun o=>(match o with|.lst ds=>Q (.int ds.length) S|.dic kvs=>Q (.int kvs.length) S|.dtp kvs=>Q (.int kvs.length) S|_=>False)
   |_=>False)
 |.abs,[.int i]=>Q (.int (if i<0 then -i else i)) S
 |.max2,[.int i,.int j]=>Q (.int (if j > i then j else i)) S
 |.min2,[.int i,.int j]=>Q (.int (if j<i then j else i)) S
 |.isin t,[x]=>wOpt (tyOf S x) fun a=>Q (.bl (a == t || (a == "bool"&&t == "int"))) S
 |_,_=>False
theorem zmP {S:St}{b:Bi}{ds:List D}{Q:D->St->Prop}(h:wBi S b ds Q):W (bi S b ds) Q:=by
 unfold wBi at h
 split at h
 · split at h
   · exact h
   · exact h
   · rename_i l
     unfold wGet wOpt at h
     simp only[bi]
     cases e:S.get l with
     |none=>rw[e] at h;exact h.elim
     |some o=>rw[e] at h;cases o<;>first|exact h|exact h.elim
   · exact h.elim
 · exact h
 · exact h
 · exact h
 · rename_i t x
   unfold wOpt at h
   simp only[bi]
   cases e:tyOf S x with
   |none=>rw[e] at h;exact h.elim
   |some a=>rw[e] at h;exact h
 · exact h.elim
noncomputable def wIsL (S:St)(x:D)(P:Prop):Prop:=match x with
 |.ref l=>wGet S l fun o=>(match o with|.lst _=>P|_=>False)
 |_=>False
theorem zej {S:St}{x:D}{P:Prop}(h:wIsL S x P):isL S x=true/\P:=by
 unfold wIsL at h
 split at h
 · rename_i l
   unfold wGet wOpt at h
   unfold isL
   cases e:S.get l with
   |none=>rw[e] at h;exact h.elim
   | some o =>
     rw[e] at h
     cases o with
     |lst ds=>exact⟨by simp[e],h⟩
     |_=>exact False.elim h
 · exact h.elim
noncomputable def wMt (S:St)(m:Mt)(x:D)(ds:List D)(Q:D->St->Prop):Prop:=match m,x,ds with
 |.append,.ref l,[y]=>wGet S l fun o=>(match o with|.lst ds=>wWr S l (ds++[y]) .non Q|_=>False)
 | .popAt, .ref l, [.int i] => wGet S l fun o => (match o with
   |.lst ds=>zaX (0<=i) (wOpt ds[i.toNat]? fun y=>wWr S l (ds.eraseIdx i.toNat) y Q)
   |_=>False)
 | .count, .ref l, [.int i] => wGet S l fun o => (match o with
   |.lst ds=>wOpt (zbK ds) fun os=>Q (.int (os.count (some i):Nat)) S
   |_=>False)
 |_,_,_=>False
theorem zmN {S:St}{m:Mt}{x:D}{ds:List D}{Q:D->St->Prop}(h:wMt S m x ds Q):W (mt S m x ds) Q:=by
 unfold wMt at h
 split at h
 · rename_i l y
   unfold wGet wOpt at h
   simp only[mt]
   cases e:S.get l with
   |none=>rw[e] at h;exact h.elim
   |some o=>rw[e] at h;cases o<;>first|exact zhz h|exact h.elim
 · rename_i l i
   unfold wGet wOpt zaX at h
   simp only[mt]
   cases e:S.get l with
   |none=>rw[e] at h;exact h.elim
   | some o =>
     rw[e] at h
     cases o with
     | lst ds =>
       simp only at h⊢
       rw[if_pos h.1]
       have h2:=h.2
       cases e2:ds[i.toNat]? with
       |none=>rw[e2] at h2;exact h2.elim
       |some y=>rw[e2] at h2;exact zhz h2
     |_=>exact h.elim
 · rename_i l i
   unfold wGet wOpt at h
   simp only[mt]
   cases e:S.get l with
   |none=>rw[e] at h;exact h.elim
   | some o =>
     rw[e] at h
     cases o with
     | lst ds =>
       simp only at h⊢
       cases e2:zbK ds with
       |none=>rw[e2] at h;exact h.elim
       |some y=>rw[e2] at h;exact h
     |_=>exact h.elim
 · exact h.elim
noncomputable def wSeq (S:St)(x:D)(k:List D->Prop):Prop:=match x with
 |.tup ds=>k ds
 |.fix ds=>k ds
 |.ref l=>wGet S l fun o=>(match o with|.lst ds=>k ds|_=>False)
 |_=>False
theorem zfX {S:St}{x:D}{k:List D->Prop}(h:wSeq S x k):∃ds,za7 S x=some ds/\k ds:=by
 unfold wSeq at h
 unfold za7
 split at h
 · exact⟨_,rfl,h⟩
 · exact⟨_,rfl,h⟩
 · rename_i l
   unfold wGet wOpt at h
   cases e:S.get l with
   |none=>rw[e] at h;exact h.elim
   | some o =>
     rw[e] at h
     cases o with
     |lst ds=>exact⟨ds,by simp[e],h⟩
     |dic _=>exact False.elim h
     |ins _ _=>exact False.elim h
     |dtp _=>exact False.elim h
     |d3 _=>exact False.elim h
 · exact h.elim
noncomputable def wTru (S:St)(x:D)(Q:Bool->Prop):Prop:=match x with
 |.bl b=>Q b
 |.non=>Q false
 |.int i=>Q (i != 0)
 |.tup ds=>Q (!ds.isEmpty)
 |.ref l=>wGet S l fun o=>(match o with|.lst ds=>Q (!ds.isEmpty)|_=>False)
 |_=>False
theorem zkO {S:St}{x:D}{Q:Bool->St->Prop}(h:wTru S x fun k=>Q k S):W (lift S (tru S x)) Q:=by
 unfold wTru at h
 unfold tru
 split at h
 · exact h
 · exact h
 · exact h
 · exact h
 · rename_i l
   unfold wGet wOpt at h
   simp only
   cases e:S.get l with
   |none=>rw[e] at h;exact h.elim
   |some o=>rw[e] at h;cases o<;>first|exact h|exact h.elim
 · exact h.elim
@[irreducible] noncomputable def zfw {α:Type}(ls:List Nat)(S:St)(f:St->Out α)(Q:α->St->Prop):Prop:=W (za1 ls S f) Q
theorem zfY {α:Type}{ls:List Nat}{S:St}{f:St->Out α}{Q:α->St->Prop}(h:zfw ls S f Q):W (za1 ls S f) Q:=by unfold zfw at h;exact h
theorem zaE {α:Type}{ls:List Nat}{S:St}{f:St->Out α}{Q:α->St->Prop}(h:W (f {S with lk:=ls++S.lk}) fun a T=>Q a {T with lk:=S.lk}):zfw ls S f Q:=by
 unfold zfw za1
 rw[zac];exact h
section
variable (cf:CF)
mutual
noncomputable def wE:CE->Ev->St->(D->St->Prop)->Prop
 |.loc i,δ,S,Q=>(match (δ[i]?).join with|some d=>Q d S|none=>False)
 |.con d,_,S,Q=>Q d S
 |.tst _,_,_,_=>False
 |.bin op a b,δ,S,Q=>wE a δ S fun x S1=>wE b δ S1 fun y S2=>wBin S2 op x y Q
 |.neg a,δ,S,Q=>wE a δ S fun x S1=>(match x with|.int i=>Q (.int (-i)) S1|_=>False)
 |.nt a,δ,S,Q=>wE a δ S fun x S1=>(match x with|.bl b=>Q (.bl (!b)) S1|_=>False)
 |.cmp op a b,δ,S,Q=>wE a δ S fun x S1=>wE b δ S1 fun y S2=>wCmp S2 op x y fun k=>Q (.bl k) S2
 |.and a b,δ,S,Q=>wE a δ S fun x S1=>(match x with|.bl k=>wIf k (wE b δ S1 Q) (Q (.bl false) S1)|_=>False)
 |.or a b,δ,S,Q=>wE a δ S fun x S1=>(match x with|.bl k=>wIf k (Q (.bl true) S1) (wE b δ S1 Q)|_=>False)
 |.tup es,δ,S,Q=>wEs es δ S fun ds S1=>zaX (ds.length<=16777216) (Q (.tup ds) S1)
 |.lst es,δ,S,Q=>wEs es δ S fun ds S1=>wLay S1 ds Q
 |.dnew3,_,S,Q=>Q (.ref S.len) (S.push (.d3 []))
 |.mk c f _ j es,δ,S,Q=>wEs es δ S fun ds S1=>wOut (appW cf f (.ref S1.len::(ds++List.replicate j .non)) (S1.push (.ins c []))) fun d S2=>zaX (zi4 d=true) (Q (.ref S1.len) S2)
 |.clr a,δ,S,Q=>wE a δ S fun x S1=>wIsL S1 x (match x with|.ref l=>wWr S1 l [] .non Q|_=>False)
 |.callV a es,δ,S,Q=>wE a δ S fun x S1=>wEs es δ S1 fun ds S2=>wOpt (zbY x ds) fun d=>Q d S2
 |.ix a b,δ,S,Q=>wE a δ S fun x S1=>wE b δ S1 fun y S2=>wSeq S2 x fun ds=>(match y with|.int i=>wOpt (atI ds i) fun d=>Q d S2|_=>False)
 |.sl a ml mh lo hi,δ,S,Q=>wE a δ S fun x S1=>wE lo δ S1 fun y S2=>wE hi δ S2 fun z S3=>(match zbq ml y,zbq mh z with
  | some l, some h => (match x with
    |.tup ds=>Q (.tup (cut ds l h)) S3
    |.fix ds=>wLay S3 (cut ds l h) Q
    |.ref p=>wGet S3 p fun o=>(match o with|.lst ds=>wLay S3 (cut ds l h) Q|_=>False)
    |_=>False)
  |_,_=>False)
 |.call f j es,δ,S,Q=>wEs es δ S fun ds S1=>wOut (app cf f (ds++List.replicate j .non) S1) Q
 |.bi b es,δ,S,Q=>wEs es δ S fun ds S1=>wBi S1 b ds Q
 |.mt m o es,δ,S,Q=>wE o δ S fun x S1=>wIsL S1 x (wEs es δ S1 fun ds S2=>wMt S2 m x ds Q)
 |.mkL l,δ,S,Q=>wL l δ S fun r S1=>wLay S1 r.1 Q
 |.mkT l,δ,S,Q=>wL l δ S fun r S1=>zaX (r.1.length<=16777216) (Q (.tup r.1) S1)
 |.ext a l,δ,S,Q=>wE a δ S fun x S1=>wIsL S1 x (wL l δ S1 fun r S2=>(match x with
  |.ref p=>wGet S2 p fun o=>(match o with|.lst ds=>wWr S2 p (ds++r.1) .non Q|_=>False)
  |_=>False))
noncomputable def wEs:CEs->Ev->St->(List D->St->Prop)->Prop
 |.nil,_,S,Q=>Q [] S
 |.cons e r,δ,S,Q=>wE e δ S fun d S1=>wEs r δ S1 fun ds S2=>Q (d::ds) S2
noncomputable def wT:CE->Ev->St->(Bool->St->Prop)->Prop
 |.cmp op a b,δ,S,Q=>wE a δ S fun x S1=>wE b δ S1 fun y S2=>wCmp S2 op x y fun k=>Q k S2
 |.nt a,δ,S,Q=>wT a δ S fun k S1=>Q (!k) S1
 |.and a b,δ,S,Q=>wT a δ S fun k S1=>wIf k (wT b δ S1 Q) (Q false S1)
 |.or a b,δ,S,Q=>wT a δ S fun k S1=>wIf k (Q true S1) (wT b δ S1 Q)
 |.tst e,δ,S,Q=>wE e δ S fun x S1=>wTru S1 x fun k=>Q k S1
 |_,_,_,_=>False
noncomputable def wL:CL->Ev->St->(List D × List Nat->St->Prop)->Prop
 |.val e,δ,S,Q=>wE e δ S fun x S1=>wSeq S1 x fun ds=>Q (ds,lkOf S1 x) S1
 |.rng1 a,δ,S,Q=>wE a δ S fun x S1=>(match x with|.int j=>zaX (-(2 ^ 62)<=j/\j<2 ^ 62) (Q ((List.range j.toNat).map fun (k:Nat)=>.int k,[]) S1)|_=>False)
 |.zip a b,δ,S,Q=>wE a δ S fun x S1=>wE b δ S1 fun y S2=>wOpt (zeh S2 x y) fun r=>Q r S2
 |.comp n js g it c e,δ,S,Q=>wL it δ S fun r S1=>zfw r.2 S1 (fun S2=>zaG g (evT cf c) (evE cf e) r.1 (csl n js δ) S2) fun ds S3=>zaX (ds.length<=16777216) (Q (ds,[]) S3)
end
noncomputable def wS:CS->Ev->St->(Fl->St->Prop)->Prop
 |.nil,δ,S,Q=>Q (.nx δ) S
 |.stop,_,_,_=>False
 |.asg i e r,δ,S,Q=>wE cf e δ S fun x S1=>wS r (δ.set i (some x)) S1 Q
 |.asgT g e r,δ,S,Q=>wE cf e δ S fun x S1=>wOpt (asgG g x δ) fun δ'=>wS r δ' S1 Q
 |.setIx a b e r,δ,S,Q=>wE cf e δ S fun v S1=>wE cf a δ S1 fun x S2=>wE cf b δ S2 fun y S3=>wOpt (dPut S3 x y v) fun S4=>wS r δ S4 Q
 |.ifS c t u r,δ,S,Q=>wT cf c δ S fun k S1=>wIf k (wS t δ S1 fun f S2=>(match f with|.nx δ'=>wS r δ' S2 Q|.rt d=>Q (.rt d) S2)) (wS u δ S1 fun f S2=>(match f with|.nx δ'=>wS r δ' S2 Q|.rt d=>Q (.rt d) S2))
 |.forS g l b r,δ,S,Q=>wL cf l δ S fun q S1=>zfw q.2 S1 (fun S2=>zbb g (exS cf b) q.1 δ S2) fun f S3=>(match f with|.nx δ'=>wS r δ' S3 Q|.rt d=>Q (.rt d) S3)
 |.ret e _,δ,S,Q=>wE cf e δ S fun x S1=>Q (.rt x) S1
 |.expr e r,δ,S,Q=>wE cf e δ S fun _ S1=>wS r δ S1 Q
end
section
variable {cf:CF}
mutual
theorem wE_W:∀(e:CE) {δ:Ev} {S:St} {Q:D->St->Prop},wE cf e δ S Q->W (evE cf e δ S) Q
 | .loc i, δ, S, Q, h => by
   simp only[wE] at h
   simp only[evE]
   cases e:(δ[i]?).join with
   |none=>rw[e] at h;exact h.elim
   |some d=>rw[e] at h;exact h
 |.con d,δ,S,Q,h=>by simp only[wE] at h;simp only[evE];exact h
 |.tst _,δ,S,Q,h=>by simp only[wE] at h
 | .bin op a b, δ, S, Q, h => by
   simp only[wE] at h
   simp only[evE,zac]
   exact (wE_W a h).mono fun x S1 h1=>(wE_W b h1).mono fun y S2 h2=>zkQ h2
 | .neg a, δ, S, Q, h => by
   simp only[wE] at h
   simp only[evE,zac]
   refine (wE_W a h).mono fun x S1 h1=>?_
   cases x<;>first|exact h1|exact h1.elim
 | .nt a, δ, S, Q, h => by
   simp only[wE] at h
   simp only[evE,zac]
   refine (wE_W a h).mono fun x S1 h1=>?_
   cases x<;>first|exact h1|exact h1.elim
 | .cmp op a b, δ, S, Q, h => by
   simp only[wE] at h
   simp only[evE,zac,W_ok]
   exact (wE_W a h).mono fun x S1 h1=>(wE_W b h1).mono fun y S2 h2=>ziF (Q:=fun k S=>Q (.bl k) S) h2
 | .and a b, δ, S, Q, h => by
   simp only[wE] at h
   simp only[evE,zac]
   refine (wE_W a h).mono fun x S1 h1=>?_
   cases x with
   | bl k =>
     unfold wIf at h1
     cases k with
     |false=>exact h1
     |true=>exact wE_W b h1
   |_=>exact h1.elim
 | .or a b, δ, S, Q, h => by
   simp only[wE] at h
   simp only[evE,zac]
   refine (wE_W a h).mono fun x S1 h1=>?_
   cases x with
   | bl k =>
     unfold wIf at h1
     cases k with
     |true=>exact h1
     |false=>exact wE_W b h1
   |_=>exact h1.elim
 | .tup es, δ, S, Q, h => by
   simp only[wE] at h
   simp only[evE,zac]
   refine (zdu es h).mono fun ds S1 h1=>?_
   unfold zaX at h1
   rw[if_pos h1.1];exact h1.2
 | .lst es, δ, S, Q, h => by
   simp only[wE] at h
   simp only[evE,zac]
   exact (zdu es h).mono fun ds S1 h1=>zdt h1
 | .mk c f _ j es, δ, S, Q, h => by
   simp only[wE] at h
   simp only[evE,zac]
   refine (zdu es h).mono fun ds S1 h1=>?_
   unfold wOut at h1
   refine h1.mono fun d S2 h2=>?_
   unfold zaX at h2
   rw[if_pos h2.1];exact h2.2
 | .callV a es, δ, S, Q, h => by
   simp only[wE] at h
   simp only[evE,zac]
   refine (wE_W a h).mono fun x S1 h1=>?_
   refine (zdu es h1).mono fun ds S2 h2=>?_
   unfold wOpt at h2
   cases e:zbY x ds with
   |none=>rw[e] at h2;exact h2.elim
   |some o=>rw[e] at h2;exact h2
 | .clr a, δ, S, Q, h => by
   simp only[wE] at h
   simp only[evE,zac]
   refine (wE_W a h).mono fun x S1 h1=>?_
   obtain⟨h2,h3⟩:=zej h1
   rw[if_pos h2]
   cases x with
   |ref l=>exact zhz h3
   |_=>exact h3.elim
 | .ix a b, δ, S, Q, h => by
   simp only[wE] at h
   simp only[evE,zac]
   refine (wE_W a h).mono fun x S1 h1=>(wE_W b h1).mono fun y S2 h2=>?_
   obtain⟨ds,e,h3⟩:=zfX h2
   rw[e]
   cases y with
   | int i =>
     unfold wOpt at h3
     simp only at h3⊢
     cases e2:atI ds i with
     |none=>rw[e2] at h3;exact h3.elim
     |some d=>rw[e2] at h3;exact h3
   |_=>exact h3.elim
 | .sl a ml mh lo hi, δ, S, Q, h => by
   simp only[wE] at h
   simp only[evE,zac]
   refine (wE_W a h).mono fun x S1 h1=>(wE_W lo h1).mono fun y S2 h2=>(wE_W hi h2).mono fun z S3 h3=>?_
   cases ey:zbq ml y with
   |none=>rw[ey] at h3;exact h3.elim
   | some l =>
     cases ez:zbq mh z with
     |none=>rw[ey,ez] at h3;exact h3.elim
     | some u =>
       rw[ey,ez] at h3
       cases x with
       |tup ds=>exact h3
       |fix ds=>exact zdt h3
       | ref p =>
         unfold wGet wOpt at h3
         simp only at h3⊢
         cases e:S3.get p with
         |none=>rw[e] at h3;exact h3.elim
         |some o=>rw[e] at h3;cases o<;>first|exact zdt h3|exact h3.elim
       |_=>exact h3.elim
 | .call f j es, δ, S, Q, h => by
   simp only[wE] at h
   simp only[evE,zac]
   refine (zdu es h).mono fun ds S1 h1=>?_
   unfold wOut at h1;exact h1
 | .bi b es, δ, S, Q, h => by
   simp only[wE] at h
   simp only[evE,zac]
   exact (zdu es h).mono fun ds S1 h1=>zmP h1
 | .mt m o es, δ, S, Q, h => by
   simp only[wE] at h
   simp only[evE,zac]
   refine (wE_W o h).mono fun x S1 h1=>?_
   obtain⟨c,h2⟩:=zej h1
   rw[if_pos c,zac]
   exact (zdu es h2).mono fun ds S2 h3=>zmN h3
 | .mkL l, δ, S, Q, h => by
   simp only[wE] at h
   simp only[evE,zac]
   exact (wL_W l h).mono fun ds S1 h1=>zdt h1
 | .mkT l, δ, S, Q, h => by
   simp only[wE] at h
   simp only[evE,zac]
   refine (wL_W l h).mono fun r S1 h1=>?_
   unfold zaX at h1
   rw[if_pos h1.1];exact h1.2
 | .ext a l, δ, S, Q, h => by
   simp only[wE] at h
   simp only[evE,zac]
   refine (wE_W a h).mono fun x S1 h1=>?_
   obtain⟨c,h1⟩:=zej h1
   rw[if_pos c,zac]
   refine (wL_W l h1).mono fun r S2 h2=>?_
   cases x with
   | ref p =>
     unfold wGet wOpt at h2
     simp only at h2⊢
     cases e:S2.get p with
     |none=>rw[e] at h2;exact h2.elim
     |some o=>rw[e] at h2;cases o<;>first|exact zhz h2|exact h2.elim
   |_=>exact h2.elim
 |.dnew3,δ,S,Q,h=>by simp only[wE] at h;simp only[evE];exact h
theorem zdu:∀(es:CEs) {δ:Ev} {S:St} {Q:List D->St->Prop},wEs cf es δ S Q->W (evEs cf es δ S) Q
 |.nil,δ,S,Q,h=>by simp only[wEs] at h;simp only[evEs];exact h
 | .cons e r, δ, S, Q, h => by
   simp only[wEs] at h
   simp only[evEs,zac]
   exact (wE_W e h).mono fun d S1 h1=>(zdu r h1).mono fun ds S2 h2=>h2
theorem wT_W:∀(e:CE) {δ:Ev} {S:St} {Q:Bool->St->Prop},wT cf e δ S Q->W (evT cf e δ S) Q
 | .cmp op a b, δ, S, Q, h => by
   simp only[wT] at h
   simp only[evT,zac]
   exact (wE_W a h).mono fun x S1 h1=>(wE_W b h1).mono fun y S2 h2=>ziF h2
 | .nt a, δ, S, Q, h => by
   simp only[wT] at h
   simp only[evT,zac]
   exact (wT_W a h).mono fun k S1 h1=>h1
 | .and a b, δ, S, Q, h => by
   simp only[wT] at h
   simp only[evT,zac]
   refine (wT_W a h).mono fun k S1 h1=>?_
   unfold wIf at h1
   cases k with
   |false=>exact h1
   |true=>exact wT_W b h1
 | .or a b, δ, S, Q, h => by
   simp only[wT] at h
   simp only[evT,zac]
   refine (wT_W a h).mono fun k S1 h1=>?_
   unfold wIf at h1
   cases k with
   |true=>exact h1
   |false=>exact wT_W b h1
 | .tst e, δ, S, Q, h => by
   simp only[wT] at h
   simp only[evT,zac]
   exact (wE_W e h).mono fun x S1 h1=>zkO h1
 |.loc i,δ,S,Q,h=>by simp only[wT] at h
 |.con d,δ,S,Q,h=>by simp only[wT] at h
 |.bin op a b,δ,S,Q,h=>by simp only[wT] at h
 |.neg a,δ,S,Q,h=>by simp only[wT] at h
 |.tup es,δ,S,Q,h=>by simp only[wT] at h
 |.lst es,δ,S,Q,h=>by simp only[wT] at h
 |.mk c f x j es,δ,S,Q,h=>by simp only[wT] at h
 |.clr a,δ,S,Q,h=>by simp only[wT] at h
 |.callV a es,δ,S,Q,h=>by simp only[wT] at h
 |.ix a b,δ,S,Q,h=>by simp only[wT] at h
 |.sl a ml mh lo hi,δ,S,Q,h=>by simp only[wT] at h
 |.call f j es,δ,S,Q,h=>by simp only[wT] at h
 |.bi b es,δ,S,Q,h=>by simp only[wT] at h
 |.mt m o es,δ,S,Q,h=>by simp only[wT] at h
 |.mkL l,δ,S,Q,h=>by simp only[wT] at h
 |.mkT l,δ,S,Q,h=>by simp only[wT] at h
 |.ext a l,δ,S,Q,h=>by simp only[wT] at h
 |.dnew3,δ,S,Q,h=>by simp only[wT] at h
theorem wL_W:∀(l:CL) {δ:Ev} {S:St} {Q:List D × List Nat->St->Prop},wL cf l δ S Q->W (evL cf l δ S) Q
 | .val e, δ, S, Q, h => by
   simp only[wL] at h
   simp only[evL,zac]
   refine (wE_W e h).mono fun x S1 h1=>?_
   obtain⟨ds,e,h2⟩:=zfX h1
   rw[e];exact h2
 | .rng1 a, δ, S, Q, h => by
   simp only[wL] at h
   simp only[evL,zac]
   refine (wE_W a h).mono fun x S1 h1=>?_
   cases x with
   | int j =>
     unfold zaX at h1
     simp only
     rw[if_pos h1.1];exact h1.2
   |_=>exact h1.elim
 | .zip a b, δ, S, Q, h => by
   simp only[wL] at h
   simp only[evL,zac]
   refine (wE_W a h).mono fun x S1 h1=>(wE_W b h1).mono fun y S2 h2=>?_
   unfold wOpt at h2
   cases e:zeh S2 x y with
   |none=>rw[e] at h2;exact h2.elim
   |some r=>rw[e] at h2;exact h2
 | .comp n js g it c e, δ, S, Q, h => by
   simp only[wL] at h
   simp only[evL,zac]
   refine (wL_W it h).mono fun r S1 h1=>(zfY h1).mono fun ds S3 h3=>?_
   unfold zaX at h3
   rw[if_pos h3.1];exact h3.2
end
theorem wS_W:∀(s:CS) {δ:Ev} {S:St} {Q:Fl->St->Prop},wS cf s δ S Q->W (exS cf s δ S) Q
 |.nil,δ,S,Q,h=>by simp only[wS] at h;simp only[exS];exact h
 |.stop,δ,S,Q,h=>by simp only[wS] at h
 | .asg i e r, δ, S, Q, h => by
   simp only[wS] at h
   simp only[exS,zac]
   exact (wE_W e h).mono fun x S1 h1=>wS_W r h1
 | .asgT g e r, δ, S, Q, h => by
   simp only[wS] at h
   simp only[exS,zac]
   refine (wE_W e h).mono fun x S1 h1=>?_
   unfold wOpt at h1
   cases e:asgG g x δ with
   |none=>rw[e] at h1;exact h1.elim
   |some d=>rw[e] at h1;exact wS_W r h1
 | .setIx a b e r, δ, S, Q, h => by
   simp only[wS] at h
   simp only[exS,zac]
   refine (wE_W e h).mono fun v S1 h1=>(wE_W a h1).mono fun x S2 h2=>(wE_W b h2).mono fun y S3 h3=>?_
   unfold wOpt at h3
   cases e:dPut S3 x y v with
   |none=>rw[e] at h3;exact h3.elim
   |some S4=>rw[e] at h3;exact wS_W r h3
 | .ifS c t u r, δ, S, Q, h => by
   simp only[wS] at h
   simp only[exS,zac]
   refine (wT_W c h).mono fun k S1 h1=>?_
   unfold wIf at h1
   have nx:∀(f:Fl) (S2:St),(match f with|.nx δ'=>wS cf r δ' S2 Q|.rt d=>Q (.rt d) S2)->W (match f with|.nx δ'=>exS cf r δ' S2|.rt d=>.ok (.rt d) S2) Q:=fun f S2 q=>by
    cases f with
    |nx δ'=>exact wS_W r q
    |rt d=>exact q
   cases k with
   |true=>exact (wS_W t h1).mono nx
   |false=>exact (wS_W u h1).mono nx
 | .forS g l b r, δ, S, Q, h => by
   simp only[wS] at h
   simp only[exS,zac]
   refine (wL_W l h).mono fun q S1 h1=>(zfY h1).mono fun f S2 q=>?_
   cases f with
   |nx δ'=>exact wS_W r q
   |rt d=>exact q
 | .ret e r, δ, S, Q, h => by
   simp only[wS] at h
   simp only[exS,zac]
   exact (wE_W e h).mono fun x S1 h1=>h1
 | .expr e r, δ, S, Q, h => by
   simp only[wS] at h
   simp only[exS,zac]
   exact (wE_W e h).mono fun x S1 h1=>wS_W r h1
@[irreducible] noncomputable def wFin (S:St)(r:Fl)(T:St)(Q:D->St->Prop):Prop:=W (fin S r T) Q
theorem ziE {P:List Fn}{F:Fn}{f n:Nat}{ds:List D}{S:St}{Q:D->St->Prop}(h:P[f]?=some F)(hl:ds.length=F.np)(w:wS (callF P n) F.body (zbj F ds) S.enter fun r T=>wFin S r T Q)(hp:F.prim=none:=by rfl) :
  W (app (callF P (n+1)) f ds S) Q:=by
 rw[zmC h hl hp,zac]
 refine (wS_W _ w).mono fun r T q=>?_
 unfold wFin at q;exact q
theorem zbI {P:List Fn}{F:Fn}{f n:Nat}{ds:List D}{S S':St}{d:D}(h:P[f]?=some F)(hl:ds.length=F.np)(w:wS (callF P n) F.body (zbj F ds) S.enter fun r T=>wFin S r T fun a T'=>a=d/\T'=S')(hp:F.prim=none:=by rfl) :
 app (callF P (n+1)) f ds S=.ok d S':=W.eq (ziE h hl w hp)
theorem zaw {S T:St}{d:D}{Q:D->St->Prop}(h:flat S.len d=true)(q:Q d S):wFin S (.rt d) T Q:=by
 unfold wFin;rw[zi7,zfK S d T h];exact q
theorem zbQ {S T:St}{l:Nat}{ds:List D}{Q:D->St->Prop}(hl:S.len<=l)(hg:T.get l=some (.lst ds))(h:flats S.len ds=true)(q:Q (.ref S.len) (S.push (.lst ds))):wFin S (.rt (.ref l)) T Q:=by
 have h0:flat S.len (.ref l)=false:=by simp[flat];omega
 unfold wFin
 rw[zi7]
 unfold zb3
 simp only[h0,hg,h,if_true,Bool.false_eq_true,if_false]
 exact q
theorem zeT {S:St}{nw:List MO}{lk:List Nat}{i:Nat}{ds:List D}{Q:D->St->Prop}(hg:nw[i]?=some (.lst ds))(h:flats S.len ds=true)(q:Q (.ref S.len) (S.push (.lst ds))) :
  wFin S (.rt (.ref ((S.frz++S.new).length+i))) (St.mk (S.frz++S.new) nw lk) Q:=
 zbQ (by rw[zcw];omega) ((zdl _ nw lk i).trans hg) h q
end
end R
end
section
namespace R
open PySem (Str PyData Operator CmpOp)
structure Frm (S S':St):Prop where
 frz:S'.frz=S.frz
 lk:S'.lk=S.lk
 len:S.new.length<=S'.new.length
 same:∀l∈S.lk,l<S.len->S'.get l=S.get l
theorem Frm.refl (S:St):Frm S S:=⟨rfl,rfl,Nat.le_refl _,fun _ _ _=>rfl⟩
theorem Frm.lens {S S':St}(h:Frm S S'):S.len<=S'.len:=by unfold St.len;rw[h.frz];have:=h.len;omega
theorem Frm.trans {S S1 S2:St}(a:Frm S S1)(b:Frm S1 S2):Frm S S2:=
 ⟨b.frz.trans a.frz,b.lk.trans a.lk,Nat.le_trans a.len b.len,fun l hl h=>(b.same l (by rw[a.lk];exact hl) (Nat.lt_of_lt_of_le h a.lens)).trans (a.same l hl h)⟩
theorem Frm.push (S:St)(o:MO):Frm S (S.push o):=by
 refine⟨rfl,rfl,by simp[St.push],fun l _ h=>?_⟩
 unfold St.len at h
 unfold St.get St.push
 simp only
 split
 · rfl
 · rw[List.getElem?_append_left (by omega)]
theorem Frm.put {S S':St}{l:Nat}{o:MO}(h:S.put l o=some S'):Frm S S':=by
 unfold St.put at h
 split at h
 · cases h
 · split at h
   · cases h
   · rename_i h1 h2
     injection h with h
     subst h
     refine⟨rfl,rfl,by simp,fun m hm hl=>?_⟩
     have hne:m≠l:=fun e=>by subst e;exact h2 (by simpa using hm)
     unfold St.get
     simp only
     split
     · rfl
     · rw[List.getElem?_set_ne (by omega)]
noncomputable abbrev WF {α:Type}(S:St)(o:Out α)(Q:α->St->Prop):Prop:=W o fun a S'=>Q a S'/\Frm S S'
theorem WF.bind {α β:Type}{S:St}{o:Out α}{f:α->St->Out β}{Q:β->St->Prop}(h:WF S o fun a S1=>W (f a S1) Q)(hf:∀a S1,W (f a S1) Q->WF S1 (f a S1) Q):WF S (o.bind f) Q:=by
 rw[WF,zac]
 exact h.mono fun a S1 ⟨q,f1⟩=>(hf a S1 q).mono fun b S2 ⟨q2,f2⟩=>⟨q2,f1.trans f2⟩
theorem zgE {S:St}{ds:List D}{Q:D->St->Prop}(h:W (lay S ds) Q):WF S (lay S ds) Q:=by
 unfold lay at h⊢
 split
 · rename_i c;rw[if_pos c] at h;exact⟨h,Frm.push _ _⟩
 · rename_i c;rw[if_neg c] at h;exact h.elim
theorem wr_F {S:St}{l:Nat}{ds:List D}{d:D}{Q:D->St->Prop}(h:W (wr S l ds d) Q):WF S (wr S l ds d) Q:=by
 unfold wr at h⊢
 split
 · rename_i c
   rw[if_pos c] at h
   cases e:S.put l (.lst ds) with
   |none=>rw[e] at h;exact h.elim
   |some S'=>rw[e] at h;exact⟨h,Frm.put e⟩
 · rename_i c;rw[if_neg c] at h;exact h.elim
theorem zbU {α:Type}{S:St}{o:Option α}{Q:α->St->Prop}(h:W (lift S o) Q):WF S (lift S o) Q:=by
 cases o with
 |none=>exact h.elim
 |some a=>exact⟨h,Frm.refl S⟩
theorem zmv {S:St}{op:Operator}{x y:D}{Q:D->St->Prop}(h:W (binD S op x y) Q):WF S (binD S op x y) Q:=by
 unfold binD at h⊢
 split
 · unfold binI at h⊢
   dsimp only at h
   cases op<;>dsimp only at h⊢<;> first
    |exact⟨h,Frm.refl S⟩
    |exact h.elim
    | (split at h
       · rename_i c;rw[if_pos c];exact⟨h,Frm.refl S⟩
       · exact h.elim)
 · dsimp only at h
   cases op<;>dsimp only at h⊢<;> first
    |exact False.elim h
    | (split at h
       · rename_i c;rw[if_pos c];exact⟨h,Frm.refl S⟩
       · exact False.elim h)
 · dsimp only at h
   split at h
   · exact zgE h
   · exact False.elim h
 · rename_i h1 h2 h3
   split at h
   · exact (h1 _ _ rfl rfl).elim
   · exact (h2 _ _ rfl rfl).elim
   · exact (h3 _ _ rfl rfl).elim
   · exact False.elim h
theorem bi_F {S:St}{b:Bi}{ds:List D}{Q:D->St->Prop}(h:W (bi S b ds) Q):WF S (bi S b ds) Q:=by
 unfold bi at h⊢
 split
 · rename_i x
   dsimp only at h
   cases x with
   |tup ds=>exact⟨h,Frm.refl S⟩
   |fix ds=>exact⟨h,Frm.refl S⟩
   | ref l =>
     dsimp only at h⊢
     cases e:S.get l with
     |none=>rw[e] at h;exact False.elim h
     |some o=>rw[e] at h;cases o<;>first|exact⟨h,Frm.refl S⟩|exact False.elim h
   |_=>exact False.elim h
 · exact⟨h,Frm.refl S⟩
 · exact⟨h,Frm.refl S⟩
 · exact⟨h,Frm.refl S⟩
 · dsimp only at h
   split at h
   · exact⟨h,Frm.refl S⟩
   · exact False.elim h
 · exact False.elim (by simpa using h)
theorem mt_F {S:St}{m:Mt}{x:D}{ds:List D}{Q:D->St->Prop}(h:W (mt S m x ds) Q):WF S (mt S m x ds) Q:=by
 unfold mt at h⊢
 split
 · dsimp only at h
   split at h
   · exact wr_F h
   · exact False.elim h
 · dsimp only at h
   split at h
   · split at h
     · rename_i c
       rw[if_pos c]
       split at h
       · exact wr_F h
       · exact False.elim h
     · exact False.elim h
   · exact False.elim h
 · dsimp only at h
   split at h
   · split at h
     · exact⟨h,Frm.refl _⟩
     · exact False.elim h
   · exact False.elim h
 · exact False.elim (by simpa using h)
theorem Frm.keep (S T:St):Frm S ⟨S.frz,S.new++T.new,S.lk⟩:=by
 refine⟨rfl,rfl,by simp,fun l _ h=>?_⟩
 unfold St.len at h
 unfold St.get
 simp only
 split
 · rfl
 · rw[List.getElem?_append_left (by omega)]
theorem zmq {S S':St}{x y v:D}(h:dPut S x y v=some S'):Frm S S':=by
 unfold dPut at h
 split at h
 · split at h
   · cases e:zdj y with
     |none=>rw[e] at h;cases h
     | some k =>
       rw[e] at h
       dsimp only[Option.bind_some] at h
       split at h
       · exact Frm.put h
       · cases h
   · cases e:zdk y with
     |none=>rw[e] at h;cases h
     | some k =>
       rw[e] at h
       dsimp only[Option.bind_some] at h
       split at h
       · exact Frm.put h
       · cases h
   · cases e:key3 y with
     |none=>rw[e] at h;cases h
     | some k =>
       rw[e] at h
       dsimp only[Option.bind_some] at h
       split at h
       · exact Frm.put h
       · cases h
   · cases h
 · cases h
theorem zka {S T:St}{d:D}{Q:D->St->Prop}(h:W (zb3 S d T) Q):WF S (zb3 S d T) Q:=by
 unfold zb3 at h⊢
 split
 · rename_i c;rw[if_pos c] at h;exact⟨h,Frm.refl S⟩
 · rename_i c
   rw[if_neg c] at h
   dsimp only at h⊢
   split at h
   · split at h
     · split at h
       · rename_i c;rw[if_pos c];exact⟨h,Frm.push _ _⟩
       · rename_i c;rw[if_neg c];exact⟨h,Frm.keep _ _⟩
     · split at h
       · rename_i c;rw[if_pos c];exact⟨h,Frm.push _ _⟩
       · rename_i c;rw[if_neg c];exact⟨h,Frm.keep _ _⟩
     · split at h
       · rename_i c;rw[if_pos c];exact⟨h,Frm.push _ _⟩
       · rename_i c;rw[if_neg c];exact⟨h,Frm.keep _ _⟩
     · exact⟨h,Frm.keep _ _⟩
   · exact⟨h,Frm.keep _ _⟩
theorem znM {cf:CF}{f:Nat}{ds:List D}{S:St}{Q:D->St->Prop}(h:W (app cf f ds S) Q):WF S (app cf f ds S) Q:=by
 unfold app at h⊢
 cases e:cf f ds S.enter with
 |ok d T=>rw[e] at h;exact zka h
 |err d T=>rw[e] at h;exact h.elim
 |bad=>rw[e] at h;exact h.elim
theorem Frm.unlock {S T:St}{ls:List Nat}(h:Frm {S with lk:=ls++S.lk} T):Frm S {T with lk:=S.lk}:=
 ⟨h.frz,rfl,h.len,fun l hl hn=>h.same l (List.mem_append_right _ hl) hn⟩
theorem ze9 {α:Type}{ls:List Nat}{S:St}{f:St->Out α}{Q:α->St->Prop}(h:W (za1 ls S f) Q)(hf:∀Q',W (f {S with lk:=ls++S.lk}) Q'->WF {S with lk:=ls++S.lk} (f {S with lk:=ls++S.lk}) Q'):WF S (za1 ls S f) Q:=by
 unfold za1 at h⊢
 rw[zac] at h
 rw[WF,zac]
 exact (hf _ h).mono fun a T ⟨q,fr⟩=>⟨q,fr.unlock⟩
theorem zc6 {g:List Nat}{c:Ev->St->Out Bool}{e:Ev->St->Out D}(hc:∀δ S Q,W (c δ S) Q->WF S (c δ S) Q)(he:∀δ S Q,W (e δ S) Q->WF S (e δ S) Q) :
  ∀(xs:List D) (δ:Ev) (S:St) (Q:List D->St->Prop),W (zaG g c e xs δ S) Q->WF S (zaG g c e xs δ S) Q
 | [],δ,S,Q,h=>⟨h,Frm.refl S⟩
 | x :: xs, δ, S, Q, h => by
   simp only[zaG] at h⊢
   cases ea:asgG g x δ with
   |none=>rw[ea] at h;exact h.elim
   | some δ' =>
     rw[ea] at h
     dsimp only at h⊢
     rw[zac] at h
     refine WF.bind (hc _ _ _ h) fun b S1 h1=>?_
     cases b with
     | false =>
       simp only[Bool.false_eq_true,if_false] at h1⊢
       exact zc6 hc he xs δ' S1 Q h1
     | true =>
       simp only[if_true] at h1⊢
       rw[zac] at h1
       refine WF.bind (he _ _ _ h1) fun d S2 h2=>?_
       rw[zac] at h2
       exact WF.bind (zc6 hc he xs δ' S2 _ h2) fun ds S3 h3=>⟨h3,Frm.refl _⟩
theorem zeV {g:List Nat}{b:Ev->St->Out Fl}(hb:∀δ S Q,W (b δ S) Q->WF S (b δ S) Q) :
  ∀(xs:List D) (δ:Ev) (S:St) (Q:Fl->St->Prop),W (zbb g b xs δ S) Q->WF S (zbb g b xs δ S) Q
 | [],δ,S,Q,h=>⟨h,Frm.refl S⟩
 | x :: xs, δ, S, Q, h => by
   simp only[zbb] at h⊢
   cases ea:asgG g x δ with
   |none=>rw[ea] at h;exact h.elim
   | some δ' =>
     rw[ea] at h
     dsimp only at h⊢
     rw[zac] at h
     refine WF.bind (hb _ _ _ h) fun f S1 h1=>?_
     cases f with
     |nx δ2=>exact zeV hb xs δ2 S1 Q h1
     |rt d=>exact⟨h1,Frm.refl _⟩
noncomputable def CFok (cf:CF):Prop:=∀f ds S d T,cf f ds S=.ok d T->Frm S T
theorem appW_F {cf:CF}(hcf:CFok cf){f:Nat}{ds:List D}{S:St}{Q:D->St->Prop}(h:W (appW cf f ds S) Q):WF S (appW cf f ds S) Q:=by
 unfold appW at h⊢
 cases e:cf f ds S with
 |ok d T=>rw[e] at h;exact⟨h,hcf f ds S d T e⟩
 |err d T=>rw[e] at h;exact h.elim
 |bad=>rw[e] at h;exact h.elim
section
variable {cf:CF} (hcf:CFok cf)
include hcf
mutual
theorem zaJ:∀(e:CE) (δ:Ev) (S:St) (Q:D->St->Prop),W (evE cf e δ S) Q->WF S (evE cf e δ S) Q
 |.loc i,δ,S,Q,h=>by simp only[evE] at h⊢;exact zbU h
 |.con d,δ,S,Q,h=>by simp only[evE] at h⊢;exact⟨h,Frm.refl S⟩
 |.tst _,δ,S,Q,h=>by simp only[evE] at h;exact h.elim
 | .bin op a b, δ, S, Q, h => by
   simp only[evE] at h⊢
   rw[zac] at h
   refine WF.bind (zaJ a δ S _ h) fun x S1 h1=>?_
   rw[zac] at h1
   exact WF.bind (zaJ b δ S1 _ h1) fun y S2 h2=>zmv h2
 | .neg a, δ, S, Q, h => by
   simp only[evE] at h⊢
   rw[zac] at h
   refine WF.bind (zaJ a δ S _ h) fun x S1 h1=>?_
   cases x<;>first|exact⟨h1,Frm.refl _⟩|exact h1.elim
 | .nt a, δ, S, Q, h => by
   simp only[evE] at h⊢
   rw[zac] at h
   refine WF.bind (zaJ a δ S _ h) fun x S1 h1=>?_
   cases x<;>first|exact⟨h1,Frm.refl _⟩|exact h1.elim
 | .cmp op a b, δ, S, Q, h => by
   simp only[evE] at h⊢
   rw[zac] at h
   refine WF.bind (zaJ a δ S _ h) fun x S1 h1=>?_
   rw[zac] at h1
   refine WF.bind (zaJ b δ S1 _ h1) fun y S2 h2=>?_
   rw[zac] at h2
   exact WF.bind (zbU h2) fun k S3 h3=>⟨h3,Frm.refl _⟩
 | .and a b, δ, S, Q, h => by
   simp only[evE] at h⊢
   rw[zac] at h
   refine WF.bind (zaJ a δ S _ h) fun x S1 h1=>?_
   cases x with
   | bl k =>
     cases k with
     |false=>exact⟨h1,Frm.refl _⟩
     |true=>exact zaJ b δ S1 Q h1
   |_=>exact h1.elim
 | .or a b, δ, S, Q, h => by
   simp only[evE] at h⊢
   rw[zac] at h
   refine WF.bind (zaJ a δ S _ h) fun x S1 h1=>?_
   cases x with
   | bl k =>
     cases k with
     |true=>exact⟨h1,Frm.refl _⟩
     |false=>exact zaJ b δ S1 Q h1
   |_=>exact h1.elim
 | .tup es, δ, S, Q, h => by
   simp only[evE] at h⊢
   rw[zac] at h
   refine WF.bind (zb9 es δ S _ h) fun ds S1 h1=>?_
   split at h1
   · rename_i c;rw[if_pos c];exact⟨h1,Frm.refl _⟩
   · exact h1.elim
 | .lst es, δ, S, Q, h => by
   simp only[evE] at h⊢
   rw[zac] at h
   exact WF.bind (zb9 es δ S _ h) fun ds S1 h1=>zgE h1
 | .mk c f _ j es, δ, S, Q, h => by
   simp only[evE] at h⊢
   rw[zac] at h
   refine WF.bind (zb9 es δ S _ h) fun ds S1 h1=>?_
   rw[zac] at h1
   have h2:=(appW_F hcf h1:WF (S1.push (.ins c [])) _ _)
   refine WF.bind (h2.mono fun d T q=>⟨q.1,(Frm.push S1 _).trans q.2⟩) fun d S2 h3=>?_
   split at h3
   · rename_i c;rw[if_pos c];exact⟨h3,Frm.refl _⟩
   · exact h3.elim
 | .callV a es, δ, S, Q, h => by
   simp only[evE] at h⊢
   rw[zac] at h
   refine WF.bind (zaJ a δ S _ h) fun x S1 h1=>?_
   rw[zac] at h1
   exact WF.bind (zb9 es δ S1 _ h1) fun ds S2 h2=>zbU h2
 | .clr a, δ, S, Q, h => by
   simp only[evE] at h⊢
   rw[zac] at h
   refine WF.bind (zaJ a δ S _ h) fun x S1 h1=>?_
   split at h1
   · rename_i c
     rw[if_pos c]
     cases x with
     |ref l=>exact wr_F h1
     |_=>exact h1.elim
   · exact h1.elim
 | .ix a b, δ, S, Q, h => by
   simp only[evE] at h⊢
   rw[zac] at h
   refine WF.bind (zaJ a δ S _ h) fun x S1 h1=>?_
   rw[zac] at h1
   refine WF.bind (zaJ b δ S1 _ h1) fun y S2 h2=>?_
   split at h2
   · exact zbU h2
   · exact h2.elim
 | .sl a ml mh lo hi, δ, S, Q, h => by
   simp only[evE] at h⊢
   rw[zac] at h
   refine WF.bind (zaJ a δ S _ h) fun x S1 h1=>?_
   rw[zac] at h1
   refine WF.bind (zaJ lo δ S1 _ h1) fun y S2 h2=>?_
   rw[zac] at h2
   refine WF.bind (zaJ hi δ S2 _ h2) fun z S3 h3=>?_
   split at h3
   · split at h3
     · exact⟨h3,Frm.refl _⟩
     · exact zgE h3
     · split at h3
       · exact zgE h3
       · exact h3.elim
     · exact h3.elim
   · exact h3.elim
 | .call f j es, δ, S, Q, h => by
   simp only[evE] at h⊢
   rw[zac] at h
   exact WF.bind (zb9 es δ S _ h) fun ds S1 h1=>znM h1
 | .bi b es, δ, S, Q, h => by
   simp only[evE] at h⊢
   rw[zac] at h
   exact WF.bind (zb9 es δ S _ h) fun ds S1 h1=>bi_F h1
 | .mt m o es, δ, S, Q, h => by
   simp only[evE] at h⊢
   rw[zac] at h
   refine WF.bind (zaJ o δ S _ h) fun x S1 h1=>?_
   split at h1
   · rename_i c
     rw[if_pos c]
     rw[zac] at h1
     exact WF.bind (zb9 es δ S1 _ h1) fun ds S2 h2=>mt_F h2
   · exact h1.elim
 | .mkL l, δ, S, Q, h => by
   simp only[evE] at h⊢
   rw[zac] at h
   exact WF.bind (zg7 l δ S _ h) fun r S1 h1=>zgE h1
 | .mkT l, δ, S, Q, h => by
   simp only[evE] at h⊢
   rw[zac] at h
   refine WF.bind (zg7 l δ S _ h) fun r S1 h1=>?_
   split at h1
   · rename_i c;rw[if_pos c];exact⟨h1,Frm.refl _⟩
   · exact h1.elim
 | .ext a l, δ, S, Q, h => by
   simp only[evE] at h⊢
   rw[zac] at h
   refine WF.bind (zaJ a δ S _ h) fun x S1 h1=>?_
   split at h1
   · rename_i c
     rw[if_pos c]
     rw[zac] at h1
     refine WF.bind (zg7 l δ S1 _ h1) fun r S2 h2=>?_
     split at h2
     · split at h2
       · exact wr_F h2
       · exact h2.elim
     · exact h2.elim
   · exact h1.elim
 |.dnew3,δ,S,Q,h=>by simp only[evE] at h⊢;exact⟨h,Frm.push _ _⟩
theorem zb9:∀(es:CEs) (δ:Ev) (S:St) (Q:List D->St->Prop),W (evEs cf es δ S) Q->WF S (evEs cf es δ S) Q
 |.nil,δ,S,Q,h=>by simp only[evEs] at h⊢;exact⟨h,Frm.refl S⟩
 | .cons e r, δ, S, Q, h => by
   simp only[evEs] at h⊢
   rw[zac] at h
   refine WF.bind (zaJ e δ S _ h) fun x S1 h1=>?_
   rw[zac] at h1
   exact WF.bind (zb9 r δ S1 _ h1) fun k S3 h3=>⟨h3,Frm.refl _⟩
theorem zd2:∀(e:CE) (δ:Ev) (S:St) (Q:Bool->St->Prop),W (evT cf e δ S) Q->WF S (evT cf e δ S) Q
 | .cmp op a b, δ, S, Q, h => by
   simp only[evT] at h⊢
   rw[zac] at h
   refine WF.bind (zaJ a δ S _ h) fun x S1 h1=>?_
   rw[zac] at h1
   exact WF.bind (zaJ b δ S1 _ h1) fun y S2 h2=>zbU h2
 | .nt a, δ, S, Q, h => by
   simp only[evT] at h⊢
   rw[zac] at h
   exact WF.bind (zd2 a δ S _ h) fun k S3 h3=>⟨h3,Frm.refl _⟩
 | .and a b, δ, S, Q, h => by
   simp only[evT] at h⊢
   rw[zac] at h
   refine WF.bind (zd2 a δ S _ h) fun k S1 h1=>?_
   cases k with
   |false=>exact⟨h1,Frm.refl _⟩
   |true=>exact zd2 b δ S1 Q h1
 | .or a b, δ, S, Q, h => by
   simp only[evT] at h⊢
   rw[zac] at h
   refine WF.bind (zd2 a δ S _ h) fun k S1 h1=>?_
   cases k with
   |true=>exact⟨h1,Frm.refl _⟩
   |false=>exact zd2 b δ S1 Q h1
 | .tst e, δ, S, Q, h => by
   simp only[evT] at h⊢
   rw[zac] at h
   exact WF.bind (zaJ e δ S _ h) fun k S3 h3=>zbU h3
 |.loc i,δ,S,Q,h=>by simp only[evT] at h;exact h.elim
 |.con d,δ,S,Q,h=>by simp only[evT] at h;exact h.elim
 |.bin op a b,δ,S,Q,h=>by simp only[evT] at h;exact h.elim
 |.neg a,δ,S,Q,h=>by simp only[evT] at h;exact h.elim
 |.tup es,δ,S,Q,h=>by simp only[evT] at h;exact h.elim
 |.lst es,δ,S,Q,h=>by simp only[evT] at h;exact h.elim
 |.mk c f x j es,δ,S,Q,h=>by simp only[evT] at h;exact h.elim
 |.clr a,δ,S,Q,h=>by simp only[evT] at h;exact h.elim
 |.callV a es,δ,S,Q,h=>by simp only[evT] at h;exact h.elim
 |.ix a b,δ,S,Q,h=>by simp only[evT] at h;exact h.elim
 |.sl a ml mh lo hi,δ,S,Q,h=>by simp only[evT] at h;exact h.elim
 |.call f j es,δ,S,Q,h=>by simp only[evT] at h;exact h.elim
 |.bi b es,δ,S,Q,h=>by simp only[evT] at h;exact h.elim
 |.mt m o es,δ,S,Q,h=>by simp only[evT] at h;exact h.elim
 |.mkL l,δ,S,Q,h=>by simp only[evT] at h;exact h.elim
 |.mkT l,δ,S,Q,h=>by simp only[evT] at h;exact h.elim
 |.ext a l,δ,S,Q,h=>by simp only[evT] at h;exact h.elim
 |.dnew3,δ,S,Q,h=>by simp only[evT] at h;exact h.elim
theorem zg7:∀(l:CL) (δ:Ev) (S:St) (Q:List D × List Nat->St->Prop),W (evL cf l δ S) Q->WF S (evL cf l δ S) Q
 | .val e, δ, S, Q, h => by
   simp only[evL] at h⊢
   rw[zac] at h
   refine WF.bind (zaJ e δ S _ h) fun x S1 h1=>?_
   rw[zac] at h1
   exact WF.bind (zbU h1) fun k S3 h3=>⟨h3,Frm.refl _⟩
 | .rng1 a, δ, S, Q, h => by
   simp only[evL] at h⊢
   rw[zac] at h
   refine WF.bind (zaJ a δ S _ h) fun x S1 h1=>?_
   cases x with
   | int j =>
     dsimp only at h1⊢
     split at h1
     · rename_i c;rw[if_pos c];exact⟨h1,Frm.refl _⟩
     · exact h1.elim
   |_=>exact h1.elim
 | .zip a b, δ, S, Q, h => by
   simp only[evL] at h⊢
   rw[zac] at h
   refine WF.bind (zaJ a δ S _ h) fun x S1 h1=>?_
   rw[zac] at h1
   exact WF.bind (zaJ b δ S1 _ h1) fun y S2 h2=>zbU h2
 | .comp n js g it c e, δ, S, Q, h => by
   simp only[evL] at h⊢
   rw[zac] at h
   refine WF.bind (zg7 it δ S _ h) fun r S1 h1=>?_
   rw[zac] at h1
   exact WF.bind (ze9 h1 fun Q' h2=>zc6 (fun δ S Q=>zd2 c δ S Q) (fun δ S Q=>zaJ e δ S Q) _ _ _ _ h2) fun k S3 h3=>by
    split at h3
    · rename_i c;rw[if_pos c];exact⟨h3,Frm.refl _⟩
    · exact h3.elim
end
theorem zcF:∀(s:CS) (δ:Ev) (S:St) (Q:Fl->St->Prop),W (exS cf s δ S) Q->WF S (exS cf s δ S) Q
 |.nil,δ,S,Q,h=>by simp only[exS] at h⊢;exact⟨h,Frm.refl S⟩
 |.stop,δ,S,Q,h=>by simp only[exS] at h;exact h.elim
 | .asg i e r, δ, S, Q, h => by
   simp only[exS] at h⊢
   rw[zac] at h
   exact WF.bind (zaJ hcf e δ S _ h) fun x S1 h1=>zcF r _ S1 Q h1
 | .asgT g e r, δ, S, Q, h => by
   simp only[exS] at h⊢
   rw[zac] at h
   refine WF.bind (zaJ hcf e δ S _ h) fun x S1 h1=>?_
   rw[zac] at h1
   exact WF.bind (zbU h1) fun δ' S2 h2=>zcF r _ S2 Q h2
 | .setIx a b e r, δ, S, Q, h => by
   simp only[exS] at h⊢
   rw[zac] at h
   refine WF.bind (zaJ hcf e δ S _ h) fun v S1 h1=>?_
   rw[zac] at h1
   refine WF.bind (zaJ hcf a δ S1 _ h1) fun x S2 h2=>?_
   rw[zac] at h2
   refine WF.bind (zaJ hcf b δ S2 _ h2) fun y S3 h3=>?_
   cases ed:dPut S3 x y v with
   |none=>rw[ed] at h3;exact h3.elim
   | some S4 =>
     rw[ed] at h3
     have f1:=zmq ed
     have f2:=zcF r δ S4 Q h3
     dsimp only
     unfold WF at f2⊢
     exact f2.mono fun a T ⟨q,f⟩=>⟨q,f1.trans f⟩
 | .ifS c t u r, δ, S, Q, h => by
   simp only[exS] at h⊢
   rw[zac] at h
   refine WF.bind (zd2 hcf c δ S _ h) fun k S1 h1=>?_
   rw[zac] at h1
   refine WF.bind (Q:=Q) (S:=S1) ?_ fun f S2 h2=>?_
   · cases k with
     |true=>exact zcF t δ S1 _ h1
     |false=>exact zcF u δ S1 _ h1
   · cases f with
     |nx δ'=>exact zcF r _ S2 Q h2
     |rt d=>exact⟨h2,Frm.refl _⟩
 | .forS g l b r, δ, S, Q, h => by
   simp only[exS] at h⊢
   rw[zac] at h
   refine WF.bind (zg7 hcf l δ S _ h) fun q S1 h1=>?_
   rw[zac] at h1
   refine WF.bind (ze9 h1 fun Q' h2=>zeV (fun δ S Q=>zcF b δ S Q) _ _ _ _ h2) fun f S3 h3=>?_
   cases f with
   |nx δ'=>exact zcF r _ S3 Q h3
   |rt d=>exact⟨h3,Frm.refl _⟩
 | .ret e r, δ, S, Q, h => by
   simp only[exS] at h⊢
   rw[zac] at h
   exact WF.bind (zaJ hcf e δ S _ h) fun x S1 h1=>⟨h1,Frm.refl _⟩
 | .expr e r, δ, S, Q, h => by
   simp only[exS] at h⊢
   rw[zac] at h
   exact WF.bind (zaJ hcf e δ S _ h) fun x S1 h1=>zcF r _ S1 Q h1
end
end R
end
section
set_option maxHeartbeats 4000000
namespace R
open PySem PySem.Spec PyProof.Rows L2
section
variable {prog:Program} {w:World} {A:Around} {E:Value->Shared->Prop} {s:Shared}
noncomputable def IsTri (prog:Program)(w:World)(h:Heap)(k:K3)(a:Addr):Prop:=∃o t u b n,h.get? a=some o/\o.cls=.type "tuple"/\o.data=.seq #[.int k.1 t,.ref b,.int k.2.2 u] n/\IsTupleKey (zaq prog w) h (k.2.1.map Sum.inl) b
theorem zgX {x y:List Int}(h:(x.map Sum.inl:List Key)=y.map Sum.inl):x=y:=(List.map_inj_right (fun a b e=>Sum.inl.inj e)).mp h
theorem IsTri.typeIs {k:K3}{a:Addr}(x:IsTri prog w s.heap k a):s.TypeIs (.ref a) "tuple":=let ⟨o,_,_,_,_,ho,hc,_⟩:=x;⟨o,ho,hc⟩
theorem IsTri.inj {h:Heap}{a:Addr}{x y:K3}(hx:IsTri prog w h x a)(hy:IsTri prog w h y a):x=y:=by
 obtain⟨o,t,u,b,n,ho,_,hd,hi⟩:=hx
 obtain⟨o',t',u',b',n',ho',_,hd',hi'⟩:=hy
 obtain rfl:o=o':=Option.some.inj (ho.symm.trans ho')
 rw[hd] at hd'
 injection hd' with h1 _
 have h1:=congrArg Array.toList h1
 simp only[List.cons.injEq,Value.int.injEq,Value.ref.injEq,and_true] at h1
 obtain⟨⟨e1,_⟩,rfl,e3,_⟩:=h1
 have e2:=zgX (hi.inj hi')
 obtain⟨x1,x2,x3⟩:=x
 obtain⟨y1,y2,y3⟩:=y
 simp_all
theorem IsTri.keeps {h h':Heap}{k:K3}{a d:Addr}{o:Obj}{es ep}(x:IsTri prog w h k a)(ho:h.get? d=some o)(hd:o.data=.dict es ep)(hs:Heap.SameBut d h h'):IsTri prog w h' k a:=by
 obtain⟨o',t,u,b,n,ho',hc,hd',hi⟩:=x
 have hne:a≠d:=by
  rintro rfl
  obtain rfl:o'=o:=Option.some.inj (ho'.symm.trans ho)
  rw[hd] at hd';exact nomatch hd'
 exact⟨o',t,u,b,n,(hs.2 a hne).trans ho',hc,hd',hi.keeps ho hd hs⟩
noncomputable def zch (prog:Program)(w:World)(k:K3):Int:=reduceHash (Builtin.Tuple.tupleHashOf [hashInt k.1,tupleKeyHash (zaq prog w) (k.2.1.map Sum.inl),hashInt k.2.2])
theorem zca {k:K3}{a:Addr}{Q:Int->Shared->Prop}(hu:A.units+4<cLine)(hk:IsTri prog w s.heap k a)(h:Q (zch prog w k) {s with toks:=s.toks+(k.2.1.length+4)}) :
  wpAny (model prog w) A (pyHash (.ref a)) Q E s:=by
 have hT:=hk.typeIs
 obtain⟨o,t,u,b,n,ho,_,hd,hi⟩:=hk
 unfold pyHash
 first|unfold pyHashByItsType|skip
 first|refine wpAny_bind (wpAny_cRoomFor_or (.inr (by omega)) ?_)|skip
 refine wpAny_bind (wpAny_specialOf hT F.slot_tuple_hash.lookup ?_)
 show wpAny _ _ (if (some (Value.builtin "tuple.__hash__") == some Value.none)=true then _ else _) Q E s
 rw[if_neg (by rw[beq_builtin_none];exact Bool.false_ne_true)]
 refine wpAny_bind (wpAny_specialOf hT F.slot_tuple_hash.lookup ?_)
 show wpAny _ _ (callSpecialIfBoundUnlessNone? (.ref a) "__hash__" _ >>= _) Q E s
 refine wpAny_bind (wpAny_callSpecialIfBoundUnlessNone?_slot hT F.slot_tuple_hash (wpAny_call_entry F.slot_tuple_hash hT F.entry_tuple_hash ?_ (F.args_tuple_hash_1 _)))
 show wpAny _ _ (Builtin.Tuple.tupleItemsOf (.ref a) >>= _) _ _ s
 refine wpAny_bind (wpAny_tupleItemsOf ho hd ?_)
 refine wpAny_bind ?_
 rw[<-Array.forIn_toList]
 refine wpAny_forIn_list _
  (fun rest (g:Array Int) s'=>(rest=[.int k.1 t,.ref b,.int k.2.2 u]/\g.toList=[]/\s'=s)\/(rest=[.ref b,.int k.2.2 u]/\g.toList=[hashInt k.1]/\s'={s with toks:=s.toks+1})
   \/(rest=[.int k.2.2 u]/\g.toList=[hashInt k.1,tupleKeyHash (zaq prog w) (k.2.1.map Sum.inl)]/\s'={s with toks:=s.toks+(k.2.1.length+2)})
   \/(rest=[]/\g.toList=[hashInt k.1,tupleKeyHash (zaq prog w) (k.2.1.map Sum.inl),hashInt k.2.2]/\s'={s with toks:=s.toks+(k.2.1.length+3)}))
  _ ?_ ?_ _ _ (.inl ⟨rfl,rfl,rfl⟩)
 · rintro x rest g s' (⟨e,hg,rfl⟩|⟨e,hg,rfl⟩|⟨e,hg,rfl⟩|⟨e,hg,rfl⟩)
   · cases e
     refine wpAny_bind (wpAny_pyHash_int ?_)
     exact wpAny_pure (.inr (.inl ⟨rfl,by simp[hg],rfl⟩))
   · cases e
     refine wpAny_bind (wpAny_pyHash_tuple (knd:=zaq prog w) (ks:=k.2.1.map Sum.inl) ?_ hi ?_)
     · show A.units+1<cLine;omega
     · exact wpAny_pure (.inr (.inr (.inl ⟨rfl,by simp[hg],by simp only[List.length_map];congr 1;omega⟩)))
   · cases e
     refine wpAny_bind (wpAny_pyHash_int ?_)
     exact wpAny_pure (.inr (.inr (.inr ⟨rfl,by simp[hg],by simp[Nat.add_assoc]⟩)))
   · cases e
 · rintro g s' (⟨e,hg,rfl⟩|⟨e,hg,rfl⟩|⟨e,hg,rfl⟩|⟨e,hg,rfl⟩)
   · cases e
   · cases e
   · cases e
   show wpAny _ _ (retInt (Builtin.Tuple.tupleHashOf g.toList)) _ _ _
   rw[hg]
   refine wpAny_ret_mkInt ?_
   show wpAny _ _ (if (decide (-(2:Int) ^ 63<=Builtin.Tuple.tupleHashOf [hashInt k.1,tupleKeyHash (zaq prog w) (k.2.1.map Sum.inl),hashInt k.2.2])&&decide (Builtin.Tuple.tupleHashOf [hashInt k.1,tupleKeyHash (zaq prog w) (k.2.1.map Sum.inl),hashInt k.2.2]<2 ^ 63))=true then _ else _) Q E _
   unfold zch reduceHash at h
   by_cases hr:(decide (-(2:Int) ^ 63<=Builtin.Tuple.tupleHashOf [hashInt k.1,tupleKeyHash (zaq prog w) (k.2.1.map Sum.inl),hashInt k.2.2])&&decide (Builtin.Tuple.tupleHashOf [hashInt k.1,tupleKeyHash (zaq prog w) (k.2.1.map Sum.inl),hashInt k.2.2]<2 ^ 63))=true
   · rw[if_pos hr]
     rw[if_pos hr] at h
     exact wpAny_pure (by simpa[Nat.add_assoc] using h)
   · rw[if_neg hr]
     rw[if_neg hr] at h
     exact wpAny_bind (wpAny_rule (wpAny_pure (by simpa[Nat.add_assoc] using h)))
theorem zel {x y:K3}{a b:Addr}{P:Fin->Shared->Prop}(hu:A.units<cLine)(hx:IsTri prog w s.heap x a)(hy:IsTri prog w s.heap y b)(h:P (.done (.ret (.bool (decide (x=y))))) s) :
  wpAny (model prog w) A (Builtin.«tuple.__eq__» ⟨[.ref a,.ref b],[]⟩) P E s:=by
 have hTb:=hy.typeIs
 obtain⟨oa,t1,u1,b1,na,hoa,_,hda,hia⟩:=hx
 obtain⟨ob,t2,u2,b2,nb,hob,_,hdb,hib⟩:=hy
 obtain⟨x1,x2,x3⟩:=x
 obtain⟨y1,y2,y3⟩:=y
 show wpAny _ _ (isInstance (.ref b) (.type "tuple") >>= _) _ _ s
 refine wpAny_bind (wpAny_isInstance hTb isSubtype_tuple_tuple ?_)
 simp only[Bool.not_true,Bool.false_eq_true,if_false]
 refine wpAny_bind (wpAny_tupleItemsOf hoa hda ?_)
 refine wpAny_bind (wpAny_tupleItemsOf hob hdb ?_)
 refine wpAny_bind ?_
 refine wpAny_forIn_list _
  (fun rest r s'=>r.1=none/\s'=s/\(rest=[(.int x1 t1,.int y1 t2),(.ref b1,.ref b2),(.int x3 u1,.int y3 u2)]\/(rest=[(.ref b1,.ref b2),(.int x3 u1,.int y3 u2)]/\x1=y1)\/(rest=[(.int x3 u1,.int y3 u2)]/\x1=y1/\x2=y2)\/(rest=[]/\x1=y1/\x2=y2/\x3=y3)))
  _ ?_ ?_ _ _ ⟨rfl,rfl,.inl rfl⟩
 · rintro⟨p,q⟩ rest r s' ⟨hr,rfl,(e|⟨e,z1⟩|⟨e,z1,z2⟩|⟨e,z1,z2,z3⟩)⟩
   · cases e
     refine wpAny_bind (wpAny_eqBool_int ?_)
     by_cases hk:x1=y1
     · rw[show (x1 == y1)=true by simp[hk]]
       simp only[Bool.not_true,Bool.false_eq_true,if_false]
       exact wpAny_pure ⟨rfl,rfl,.inr (.inl ⟨trivial,hk⟩)⟩
     · rw[show (x1 == y1)=false by simp[hk]]
       simp only[Bool.not_false,if_true]
       rw[decide_eq_false (by simp[hk])] at h
       exact wpAny_bind (wpAny_pure (wpAny_pure (wpAny_pure h)))
   · cases e
     refine wpAny_bind (wpAny_eqBool_tuple hu hia hib ?_)
     by_cases hk:x2=y2
     · rw[decide_eq_true (by rw[hk])]
       simp only[Bool.not_true,Bool.false_eq_true,if_false]
       exact wpAny_pure ⟨rfl,rfl,.inr (.inr (.inl ⟨trivial,z1,hk⟩))⟩
     · rw[decide_eq_false (fun z=>hk (zgX z))]
       simp only[Bool.not_false,if_true]
       rw[decide_eq_false (by simp[hk])] at h
       exact wpAny_bind (wpAny_pure (wpAny_pure (wpAny_pure h)))
   · cases e
     refine wpAny_bind (wpAny_eqBool_int ?_)
     by_cases hk:x3=y3
     · rw[show (x3 == y3)=true by simp[hk]]
       simp only[Bool.not_true,Bool.false_eq_true,if_false]
       exact wpAny_pure ⟨rfl,rfl,.inr (.inr (.inr ⟨trivial,z1,z2,hk⟩))⟩
     · rw[show (x3 == y3)=false by simp[hk]]
       simp only[Bool.not_false,if_true]
       rw[decide_eq_false (by simp[hk])] at h
       exact wpAny_bind (wpAny_pure (wpAny_pure (wpAny_pure h)))
   · cases e
 · rintro⟨r1,r2⟩ s' ⟨hr,rfl,(e|⟨e,z1⟩|⟨e,z1,z2⟩|⟨e,z1,z2,z3⟩)⟩
   · cases e
   · cases e
   · cases e
   simp only at hr
   subst hr
   refine wpAny_pure ?_
   rw[decide_eq_true (by rw[z1,z2,z3])] at h
   exact h
theorem zcb {x y:K3}{a b:Addr}{Q:Bool->Shared->Prop}(hu:A.units+4<cLine)(hx:IsTri prog w s.heap x a)(hy:IsTri prog w s.heap y b)(h:Q (decide (x=y)) s) :
  wpAny (model prog w) A (eqBool (.ref a) (.ref b)) Q E s:=by
 unfold eqBool
 try with_reducible refine wpAny_holding ?_
 show wpAny _ _ (if (Value.ref a == Value.ref b)=true then _ else _) Q E s
 by_cases hab:(Value.ref a == Value.ref b)=true
 · rw[if_pos hab]
   have e:a=b:=by have:=eq_of_beq hab;injection this
   subst e
   obtain rfl:=hx.inj hy
   exact wpAny_bind (wpAny_rule (wpAny_pure (by simpa using h)))
 · rw[if_neg hab]
   exact wpAny_bind (wpAny_richCompare_same_room (op:=.Eq) hx.typeIs hy.typeIs F.slot_tuple_eq
    (wpAny_call_entry F.slot_tuple_eq hx.typeIs F.entry_tuple_eq (zel (by show A.units+1<cLine;omega) hx hy ⟨_,rfl,(fun e=>nomatch e),wpAny_truthy_bool h⟩) (F.args_tuple_eq_2 _ _)) (by omega))
theorem zlu {ks:List Key}{a:Addr}{Q:Bool->Shared->Prop}(hk:IsTupleKey (zaq prog w) s.heap ks a)(h:Q true s):wpAny (model prog w) A (eqIsQuiet 7 (.ref a)) Q E s:=by
 have hT:=hk.typeIs
 obtain⟨o,items,n,ho,_,hd,hi⟩:=hk
 unfold eqIsQuiet
 refine wpAny_bind (wpAny_specialOf hT F.slot_tuple_eq.lookup ?_)
 show wpAny _ _ (isInstance (.ref a) (.type "tuple") >>= _) _ _ s
 refine wpAny_bind (wpAny_isInstance hT isSubtype_tuple_tuple ?_)
 simp only[Bool.not_true,Bool.false_eq_true,if_false]
 refine wpAny_bind (wpAny_seqItems ho hd ?_)
 refine wpAny_bind ?_
 show wpAny _ _ (forIn items _ _) _ _ s
 rw[<-Array.forIn_toList]
 refine wpAny_forIn_list _ (fun rest r s'=>r.1=none/\s'=s/\∀v∈rest,carriedByValue v=true) _ ?_ ?_ _ _ ⟨rfl,rfl,hi.byValue⟩
 · rintro v rest r s' ⟨hr,rfl,hall⟩
   rw[eqIsQuiet_byValue _ (hall v List.mem_cons_self)]
   refine wpAny_bind (wpAny_pure ?_)
   simp only[Bool.not_true,Bool.false_eq_true,if_false]
   exact wpAny_pure ⟨rfl,rfl,fun u hu'=>hall u (List.mem_cons_of_mem _ hu')⟩
 · rintro⟨r1,r2⟩ s' ⟨hr,rfl,_⟩
   simp only at hr
   subst hr
   exact wpAny_pure h
theorem zbJ {k:K3}{a:Addr}{Q:Bool->Shared->Prop}(hk:IsTri prog w s.heap k a)(h:Q true s):wpAny (model prog w) A (eqIsQuiet 8 (.ref a)) Q E s:=by
 have hT:=hk.typeIs
 obtain⟨o,t,u,b,n,ho,_,hd,hi⟩:=hk
 unfold eqIsQuiet
 refine wpAny_bind (wpAny_specialOf hT F.slot_tuple_eq.lookup ?_)
 show wpAny _ _ (isInstance (.ref a) (.type "tuple") >>= _) _ _ s
 refine wpAny_bind (wpAny_isInstance hT isSubtype_tuple_tuple ?_)
 simp only[Bool.not_true,Bool.false_eq_true,if_false]
 refine wpAny_bind (wpAny_seqItems ho hd ?_)
 refine wpAny_bind ?_
 show wpAny _ _ (forIn #[Value.int k.1 t,.ref b,.int k.2.2 u] _ _) _ _ s
 rw[<-Array.forIn_toList]
 refine wpAny_forIn_list _ (fun rest r s'=>r.1=none/\s'=s/\∀v∈rest,carriedByValue v=true\/v=.ref b) _ ?_ ?_ _ _ ⟨rfl,rfl,fun v hv=>by
  simp only[List.mem_cons,List.not_mem_nil,or_false] at hv
  rcases hv with rfl|rfl|rfl
  · exact .inl rfl
  · exact .inr rfl
  · exact .inl rfl⟩
 · rintro v rest r s' ⟨hr,rfl,hall⟩
   rcases hall v List.mem_cons_self with hv|rfl
   · rw[eqIsQuiet_byValue _ hv]
     refine wpAny_bind (wpAny_pure ?_)
     simp only[Bool.not_true,Bool.false_eq_true,if_false]
     exact wpAny_pure ⟨rfl,rfl,fun u hu'=>hall u (List.mem_cons_of_mem _ hu')⟩
   · refine wpAny_bind (zlu hi ?_)
     simp only[Bool.not_true,Bool.false_eq_true,if_false]
     exact wpAny_pure ⟨rfl,rfl,fun u hu'=>hall u (List.mem_cons_of_mem _ hu')⟩
 · rintro⟨r1,r2⟩ s' ⟨hr,rfl,_⟩
   simp only at hr
   subst hr
   exact wpAny_pure h
end
noncomputable def za9 (prog:Program)(w:World):HeapKind prog w K3 where
 is:=IsTri prog w
 hash:=zch prog w
 draws:=fun k=>k.2.1.length+4
 room:=fun A=>A.units+4<cLine
 inj:=fun hx hy=>hx.inj hy
 keeps:=fun x ho hd hs=>x.keeps ho hd hs
 pyHash:=fun hu hk h=>zca hu hk h
 eqBool:=fun hu hx hy h=>zcb hu hx hy h
 quiet:=fun hk h=>zbJ hk h
end R
end
section
set_option maxHeartbeats 4000000
namespace R
open PySem PySem.Spec PyProof.Rows L2
noncomputable def zil (k:K3):Int:=reduceHash (Builtin.Tuple.tupleHashOf [hashInt k.1,reduceHash (Builtin.Tuple.tupleHashOf (k.2.1.map hashInt)),hashInt k.2.2])
theorem zik {P:Program}{w:World}(k:K3):(za9 P w).hash k=zil k:=by
 show zch P w k=zil k
 unfold zch zil tupleKeyHash
 rw[List.map_map]
 rfl
noncomputable def P3 (p:K3 × Addr × V)(q:K3 × Addr × Value):Prop:=p.1=q.1/\p.2.1=q.2.1/\RelV p.2.2 q.2.2
noncomputable def ent3 (x:K3 × Addr × Value):DictEntry:=⟨zil x.1,.ref x.2.1,x.2.2⟩
theorem zeH {P:Program}{w:World}(x:K3 × Addr × Value):entryOfKey (za9 P w) x=ent3 x:=by
 unfold entryOfKey ent3
 rw[zik]
noncomputable def TriO (a:Addr)(kxs:List (K3 × Addr × V))(h:Heap):Prop:=kxs.length<=sizeLine/\(a == sysModules)=false/\∃xs,Paired P3 kxs xs/\∃o es ep,h.get? a=some o/\o.ExactDict/\o.data=.dict es ep/\es.toList=xs.map ent3/\(xs.map (·.1)).Nodup
noncomputable def Key3 (H:Hp)(k:K3)(c:Addr):Prop:=∃b,H c=some (.tup [.int k.1,.ref b,.int k.2.2])/\H b=some (.tup (k.2.1.map V.int))
noncomputable def TriK (H:Hp)(kxs:List (K3 × Addr × V)):Prop:=∀x∈kxs,Key3 H x.1 x.2.1
theorem Key3.up {H H':Hp}{k:K3}{c:Addr}(h:Key3 H k c)(ht:∀b xs,H b=some (.tup xs)->H' b=some (.tup xs)):Key3 H' k c:=let ⟨b,h1,h2⟩:=h;⟨b,ht _ _ h1,ht _ _ h2⟩
theorem TriO.stay {a:Addr}{kxs:List (K3 × Addr × V)}{h h':Heap}(x:TriO a kxs h)(k:∀o,h.get? a=some o->h'.get? a=some o):TriO a kxs h':=by
 obtain⟨z,y,xs,r,o,es,ep,e,c⟩:=x
 exact⟨z,y,xs,r,o,es,ep,k _ e,c⟩
theorem TriO.objOk {P:Program}{w:World}{H:Hp}{h:Heap}{a:Addr}{kxs:List (K3 × Addr × V)}(x:TriO a kxs h):ObjOk P w H h a (.ext (TriO a kxs)):=by
 refine⟨x,?_,fun h1 h2 p k=>p.stay k⟩
 obtain⟨_,_,_,_,o,_,_,e,_⟩:=x
 exact⟨o,e⟩
theorem zi1:∀{kxs:List (K3 × Addr × V)} {xs:List (K3 × Addr × Value)},Paired P3 kxs xs->xs.length=kxs.length
 |_,_,.nil=>rfl
 |_,_,.cons _ t=>by simp[zi1 t]
theorem zdd:∀{kxs:List (K3 × Addr × V)} {xs:List (K3 × Addr × Value)},Paired P3 kxs xs->xs.map (·.1)=kxs.map (·.1)
 |_,_,.nil=>rfl
 |_,_,.cons h t=>by rw[List.map_cons,List.map_cons,zdd t,h.1]
section
variable {P:Program} {w:World} {H:Hp} {h:Heap} {a c:Addr} {kxs:List (K3 × Addr × V)}
theorem zb4 {k:K3}(ok:HOk P w H h)(e:Key3 H k c):IsTri P w h k c:=by
 obtain⟨b,e1,e2⟩:=e
 obtain⟨_,its,rv,o,ho,hc,n,hd⟩:=(show ObjOk P w H h c (.tup _) from ok c _ e1)
 cases rv with
 | @cons _ v1 _ r1 q1 rv =>
   cases rv with
   | @cons _ v2 _ r2 q2 rv =>
     cases rv with
     | @cons _ v3 _ r3 q3 rv =>
       cases rv
       obtain⟨t,rfl⟩:=q1
       cases (show v2=Value.ref b from q2)
       obtain⟨u,rfl⟩:=q3
       refine⟨o,t,u,b,n,ho,hc,hd,?_⟩
       have:=zdV (ks:=k.2.1.map Sum.inl) ok (a:=b) (by rw[List.map_map];exact e2)
       exact this
theorem zf2 (ok:HOk P w H h)(e:H a=some (.ext (TriO a kxs)))(tk:TriK H kxs):kxs.length<=sizeLine/\(a == sysModules)=false/\∃xs,Paired P3 kxs xs/\h.DictOfH (za9 P w) a xs:=by
 obtain⟨⟨z,y,xs,r,o,es,ep,ho,hx,hd,he,nd⟩,_,_⟩:=(show ObjOk P w H h a (.ext _) from ok a _ e)
 refine⟨z,y,xs,r,o,es,ep,ho,hx,hd,?_,?_,nd⟩
 · rw[he];exact List.map_congr_left fun x _=>(zeH x).symm
 · have all:∀{l:List (K3 × Addr × V)} {m:List (K3 × Addr × Value)},Paired P3 l m->TriK H l->∀x∈m,(za9 P w).is h x.1 x.2.1:=by
    intro l m q
    induction q with
    |nil=>intro _ x hx;exact nomatch hx
    | @cons p q ps qs hq t ih =>
      intro tk x hx
      rcases List.mem_cons.mp hx with e|hx
      · subst e
        rw[<-hq.1,<-hq.2.1]
        exact zb4 ok (tk p List.mem_cons_self)
      · exact ih (fun y hy=>tk y (List.mem_cons_of_mem _ hy)) x hx
   exact all r tk
end
noncomputable def put3 (kxs:List (K3 × Addr × V))(k:K3)(c:Addr)(v:V):List (K3 × Addr × V):=if k∈kxs.map (·.1) then kxs.map (fun x=>if x.1=k then (x.1,x.2.1,v) else x) else kxs++[(k,c,v)]
theorem zby {xs:List (K3 × Addr × Value)}{k:K3}:(atKey xs k).isSome=decide (k∈xs.map (·.1)):=by
 unfold atKey
 rw[Option.isSome_map]
 apply Bool.eq_iff_iff.mpr
 rw[List.find?_isSome,decide_eq_true_eq,List.mem_map]
 constructor
 · rintro⟨x,hx,e⟩;exact⟨x,hx,by simpa using e⟩
 · rintro⟨x,hx,e⟩;exact⟨x,hx,by simpa using e⟩
theorem zlP {k:K3}{c:Addr}{v:V}{r:Value}(rv:RelV v r){kxs:List (K3 × Addr × V)}{xs:List (K3 × Addr × Value)}(h:Paired P3 kxs xs):Paired P3 (put3 kxs k c v) (storedH xs k c r):=by
 unfold put3 storedH
 rw[zby,zdd h]
 by_cases hk:k∈kxs.map (·.1)
 · rw[if_pos hk,if_pos (by simpa using hk)]
   clear hk
   induction h with
   |nil=>exact .nil
   | @cons p q ps qs hq t ih =>
     rw[List.map_cons,List.map_cons]
     refine .cons ?_ ih
     unfold putAt
     by_cases e:p.1=k
     · rw[if_pos e,if_pos (by rw[<-hq.1];exact e)]
       exact⟨hq.1,hq.2.1,rv⟩
     · rw[if_neg e,if_neg (by rw[<-hq.1];exact e)]
       exact hq
 · rw[if_neg hk,if_neg (by simpa using hk)]
   clear hk
   induction h with
   |nil=>exact .cons ⟨rfl,rfl,rv⟩ .nil
   |cons hq t ih=>exact .cons hq ih
theorem zhR (kxs:List (K3 × Addr × V))(k:K3)(c:Addr)(v:V):(put3 kxs k c v).length<=kxs.length+1:=by
 unfold put3
 split
 · rw[List.length_map];omega
 · simp
section
variable {X:Cx} {pins:List (Addr × Obj)} {σ:L2.St} {H:Hp} {s:Shared} {a c:Addr} {kxs:List (K3 × Addr × V)} {k:K3} {v:V} {r:Value} {A:Around} {E:Value->Shared->Prop}
theorem zfP {Q:Unit->Shared->Prop}(hu:A.units+5<cLine)(I:Inv X pins σ H s)(e:H a=some (.ext (TriO a kxs)))(tk:TriK H kxs)(ek:Key3 H k c)(hl:kxs.length<sizeLine)(rv:RelV v r)
  (h:∀s',Inv X pins σ (upd H a (.ext (TriO a (put3 kxs k c v)))) s'->Q () s'):wpAny (model X.prog X.w) A (setItem (.ref a) (.ref c) r) Q E s:=by
 obtain⟨z,hd,xs,rel,dd⟩:=zf2 I.hok e tk
 have hz:xs.length<=sizeLine:=by rw[zi1 rel];exact z
 have hl':=zhR kxs k c v
 refine wpAny_setItem_heap (knd:=za9 X.prog X.w) (hsz:=hz) (show A.units+1+4<cLine by omega) (zb4 I.hok ek) dd fun h' dd' hs=>h _ ?_
 obtain⟨q,es,ep,hq,h2,h3,h4,_,h5⟩:=dd'
 refine zeI I (by rw[e];exact True.intro) hs ⟨q,hq⟩ (TriO.objOk ⟨by omega,hd,_,zlP rv rel,q,es,ep,hq,h2,h3,?_,h5⟩)
 rw[h4];exact List.map_congr_left fun x _=>zeH x
theorem znH {Q:Value->Shared->Prop}(hu:A.units+5<cLine)(I:Inv X pins σ H s)(e:H a=some (.ext (TriO a kxs)))(tk:TriK H kxs)(ek:Key3 H k c)(h:∀s',Inv X pins σ H s'->Q (.bool (decide (k∈kxs.map (·.1)))) s') :
  wpAny (model X.prog X.w) A (compareOp .In (.ref c) (.ref a)) Q E s:=by
 obtain⟨z,hd,xs,rel,dd⟩:=zf2 I.hok e tk
 refine wpAny_in_heap (knd:=za9 X.prog X.w) (show A.units+1+4<cLine by omega) (zb4 I.hok ek) hd dd ?_
 rw[zby,zdd rel]
 exact h _ (I.kept fun b o e=>e)
theorem ziu {Q:Value->Shared->Prop}(hu:A.units+5<cLine)(I:Inv X pins σ H s)(e:H a=some (.ext (TriO a kxs)))(tk:TriK H kxs)(ek:Key3 H k c)(h:∀s',Inv X pins σ H s'->Q (.bool (!decide (k∈kxs.map (·.1)))) s') :
  wpAny (model X.prog X.w) A (compareOp .NotIn (.ref c) (.ref a)) Q E s:=by
 obtain⟨z,hd,xs,rel,dd⟩:=zf2 I.hok e tk
 refine wpAny_notIn_heap (knd:=za9 X.prog X.w) (show A.units+1+4<cLine by omega) (zb4 I.hok ek) hd dd ?_
 rw[zby,zdd rel]
 exact h _ (I.kept fun b o e=>e)
theorem zh0 {pos:Pos}:PE X (.Dict [] [] pos) (fun _ H Q=>∀p,H p=none->Q (.ref p) (upd H p (.ext (TriO p [])))):=fun pins s σ H Q I h=>
 wpAny_Dict_empty ⟨.ref s.heap.objs.size,_,I.laid (a:=s.heap.objs.size) (o:=.ext (TriO s.heap.objs.size [])) (t':=s.toks) (fun _ _ q=>Heap.get?_push_of_some _ q) (Nat.le_refl _)
  (TriO.objOk ⟨Nat.zero_le _,beq_eq_false_iff_ne.mpr (Ne.symm (Nat.ne_of_lt I.big)),[],.nil,_,#[],0,Heap.get?_push_size _ rfl,⟨rfl,rfl,rfl⟩,rfl,rfl,List.nodup_nil⟩),rfl,h _ (I.hok.fresh (Nat.le_refl _))⟩
end
end R
end
section
namespace R
open PySem L2
noncomputable def KL (K:PySem.W.Frag)(a:Addr)(xs:List V):Prop:=∃(o:Obj) (its:Array Value) (n:Nat),K.lookup a=some o/\o.cls=.type "list"/\o.dict=none/\o.data=.seq its n/\its.size<=sizeLine/\Vals xs its.toList
noncomputable def FixL (K:PySem.W.Frag)(H:Hp)(a:Addr)(xs:List V):Prop:=(∃o,H a=some (.frz o (.lst xs)))\/KL K a xs
theorem FixL.sq {K:PySem.W.Frag}{H:Hp}{a:Addr}{xs:List V}(h:FixL K H a xs):SqL K H a xs:=h.elim (fun⟨o,e⟩=>.inl (.inr ⟨o,e⟩)) .inr
noncomputable abbrev arrN:Str:="word_on_arrival"
noncomputable abbrev arrQ:Str:="road.<locals>.word_on_arrival"
structure CloSt (st:Stmt):Prop where
 body:∃(x6:Nat) (p1 p2 p3 p4 p5 p6 p7 p8 p9:Pos),zah st=[.Return (some (.Call (.Attribute (.Name "last" p1) "get" p2) [.Tuple [.Name "turn" p3,.Name "path" p4,.Name "to" p5] x6 p6,.Name "word" p7] [] p8)) p9]/\(p2.endLine == p8.line)=true
 kind:(zae st).kind=.function
 co:(zae st).isCoroutine=false
 gen:(zae st).isGenerator=false
 cell:∀y∈(zae st).names,y.2≠.cell
 free:∀y∈(zae st).names,y.2=.free->y.1=("last":Str)
 l0:(zae st).names.lookup ("turn":Str)=some .local
 l1:(zae st).names.lookup ("path":Str)=some .local
 l2:(zae st).names.lookup ("to":Str)=some .local
 l3:(zae st).names.lookup ("word":Str)=some .local
 l4:(zae st).names.lookup ("last":Str)=some .free
 bind:∀(cl:List (Str × Addr)) (doc pm cd ct a b c d:Value),bindArgs (PySem.W.fnX arrN arrQ (zam st) (zah st) (zae st) cl .none .none doc pm none cd ct) ⟨[a,b,c,d],[]⟩=pure [(("turn":Str),a),(("path":Str),b),(("to":Str),c),(("word":Str),d)]
 text:∃pos:Pos,st=.FunctionDef arrN (zam st) (zah st) [] none [] (zae st) none arrN pos
 d0:(zam st).defaults=[]
 k0:(zam st).kw_defaults=[]
 an:∀env:Env,annTrees (zam st) none env=[]
 clo:∀(env:Env) (c:Addr),env.cells.lookup ("last":Str)=some c->closureFor (zae st) env=pure [(("last":Str),c)]
noncomputable def RsOk:Option Stmt->Prop
 |none=>True
 |some st=>CloSt st
class Mks where
 ts:List (Addr × Str)
 cl:List Addr
 rs:Option Stmt
 ro:RsOk rs
variable [Mks]
noncomputable def TabIn (H:Hp)(P:Addr)(q:Str):Prop:=∃ps:Array Value,H P=some (.tbl ps)/\TriplesOk ps.toList/\
 ∀(pos:Pos) (v:Value),codeAmong pos ps.toList=some v->∃(c:Addr) (oc:Obj) (vs:Array Value) (t:Tok),v=.ref c/\H c=some (.frz oc (.own 0))/\oc.data=.fields vs/\vs[1]?=some (.str q t)
theorem TabIn.up {H H':Hp}{P:Addr}{q:Str}(t:TabIn H P q)(e:H' P=H P)(f:∀b o u,H b=some (.frz o u)->H' b=some (.frz o u)):TabIn H' P q:=by
 obtain⟨ps,h1,h2,h3⟩:=t
 refine⟨ps,by rw[e];exact h1,h2,fun pos v hv=>?_⟩
 obtain⟨c,oc,vs,t,a1,a2,a3⟩:=h3 pos v hv
 exact⟨c,oc,vs,t,a1,f _ _ _ a2,a3⟩
noncomputable def TB (H:Hp):Prop:=∀p∈Mks.ts,TabIn H p.1 p.2
structure Kp (H H':Hp):Prop where
 tups:Tups H H'
 frzs:∀b o u,H b=some (.frz o u)->H' b=some (.frz o u)
 tab:TB H->TB H'
theorem Kp.refl (H:Hp):Kp H H:=⟨Tups.refl H,fun _ _ _ h=>h,fun h=>h⟩
theorem Kp.trans {H H1 H2:Hp}(a:Kp H H1)(b:Kp H1 H2):Kp H H2:=⟨a.tups.trans b.tups,fun c o u h=>b.frzs c o u (a.frzs c o u h),fun h=>b.tab (a.tab h)⟩
theorem Kp.same {H H':Hp}(a:Tups H H')(b:∀b o u,H b=some (.frz o u)->H' b=some (.frz o u))(c:∀P ps,H P=some (.tbl ps)->H' P=some (.tbl ps)):Kp H H':=
 ⟨a,b,fun h p hp=>by
  obtain⟨ps,h1,_⟩:=id (h p hp)
  exact (h p hp).up ((c _ _ h1).trans h1.symm) b⟩
theorem FixL.kp {K:PySem.W.Frag}{H H':Hp}{a:Addr}{xs:List V}(h:FixL K H a xs)(k:Kp H H'):FixL K H' a xs:=h.elim (fun⟨o,e⟩=>.inl ⟨o,k.frzs _ _ _ e⟩) .inr
noncomputable def vW:Option Int->V
 |none=>.non
 |some i=>.int i
noncomputable def W3s (H:Hp):List (K3 × Option Int)->List (K3 × Addr × V)->Prop
 | [],ws=>ws=[]
 |(k,o)::r,ws=>∃c w,ws=(k,c,vW o)::w/\Key3 H k c/\W3s H r w
theorem W3s.up {H H':Hp}(ht:∀b xs,H b=some (.tup xs)->H' b=some (.tup xs)):∀{kvs:List (K3 × Option Int)} {ws:List (K3 × Addr × V)},W3s H kvs ws->W3s H' kvs ws
 | [],_,r=>r
 | (k, o) :: kvs, ws, r => by
   obtain⟨c,w,e,r0,r2⟩:=r
   exact⟨c,w,e,r0.up ht,W3s.up ht r2⟩
noncomputable def CloF (H:Hp)(f c:Addr):Prop:=∃(st:Stmt) (pm ct doc:Value) (c':Addr) (oc:Obj) (vs:Array Value) (t:Tok),Mks.rs=some st/\H f=some (.frz (PySem.W.fnMade arrN arrQ (zam st) (zah st) (zae st) [(("last":Str),c)] doc pm c' ct) (.own 0))/\H c'=some (.frz oc (.own 0))/\oc.data=.fields vs/\vs[1]?=some (.str arrQ t)
noncomputable def CloAt (H:Hp)(f:Addr)(kvs:List (K3 × Option Int)):Prop:=∃(c d:Addr) (ou od:Obj) (ws:List (K3 × Addr × V)),CloF H f c/\H c=some (.frz ou (.own 0))/\ou.data=.cell (some (.ref d))/\H d=some (.frz od (.ext (TriO d ws)))/\W3s H kvs ws
theorem CloF.up {H H':Hp}{f c:Addr}(h:CloF H f c)(k:∀b o u,H b=some (.frz o u)->H' b=some (.frz o u)):CloF H' f c:=by
 obtain⟨st,pm,ct,doc,c',oc,vs,t,h0,h1,h2,h3⟩:=h
 exact⟨st,pm,ct,doc,c',oc,vs,t,h0,k _ _ _ h1,k _ _ _ h2,h3⟩
theorem CloAt.kp {H H':Hp}{f:Addr}{kvs:List (K3 × Option Int)}(h:CloAt H f kvs)(k:Kp H H'):CloAt H' f kvs:=by
 obtain⟨c,d,ou,od,ws,h1,h2,h3,h4,h5⟩:=h
 exact⟨c,d,ou,od,ws,h1.up k.frzs,k.frzs _ _ _ h2,h3,k.frzs _ _ _ h4,h5.up k.tups⟩
mutual
noncomputable def RV (K:PySem.W.Frag)(ι:List Addr)(H:Hp):D->V->Prop
 |.non,v=>v=.non
 |.bl b,v=>v=.bl b
 |.int i,v=>v=.int i
 |.str x,v=>v=.str x
 |.tup ds,v=>∃a xs,v=.ref a/\H a=some (.tup xs)/\RVs K ι H ds xs
 |.ref l,v=>∃a,ι[l]?=some a/\v=.ref a
 |.fix ds,v=>∃a xs,v=.ref a/\FixL K H a xs/\RVs K ι H ds xs
 |.clo kvs,v=>∃f,v=.ref f/\CloAt H f kvs
noncomputable def RVs (K:PySem.W.Frag)(ι:List Addr)(H:Hp):List D->List V->Prop
 | [],vs=>vs=[]
 |d::ds,vs=>∃v r,vs=v::r/\RV K ι H d v/\RVs K ι H ds r
end
noncomputable def kI (k:List Int):List Key:=k.map Sum.inl
noncomputable def RKs (K:PySem.W.Frag)(ι:List Addr)(H:Hp):List (List Int × D)->List (List Key × V)->Prop
 | [],ws=>ws=[]
 |(k,d)::r,ws=>∃v w,ws=(kI k,v)::w/\RV K ι H d v/\RKs K ι H r w
noncomputable def RIs (K:PySem.W.Frag)(ι:List Addr)(H:Hp):List (Int × D)->List (Key × V)->Prop
 | [],ws=>ws=[]
 |(k,d)::r,ws=>∃v w,ws=((Sum.inl k:Key),v)::w/\RV K ι H d v/\RIs K ι H r w
noncomputable def R3s (K:PySem.W.Frag)(ι:List Addr)(H:Hp):List (K3 × D)->List (K3 × Addr × V)->Prop
 | [],ws=>ws=[]
 |(k,d)::r,ws=>∃c v w,ws=(k,c,v)::w/\Key3 H k c/\RV K ι H d v/\R3s K ι H r w
noncomputable def RFs (K:PySem.W.Frag)(ι:List Addr)(H:Hp):List (Str × D)->List (Str × V)->Prop
 | [],ws=>ws=[]
 |(f,d)::r,ws=>∃v w,ws=(f,v)::w/\RV K ι H d v/\RFs K ι H r w
noncomputable def RO (K:PySem.W.Frag)(ι:List Addr)(H:Hp)(a:Addr):MO->Prop
 |.lst ds=>∃xs,H a=some (.lst xs)/\RVs K ι H ds xs
 |.dic kvs=>(kvs.map (·.1)).Nodup/\∃ws,H a=some (.dK ws)/\RIs K ι H kvs ws
 |.ins c fs=>∃C dx ws,Mks.cl[c]?=some C/\H a=some (.ins C dx ws)/\RFs K ι H fs ws
 |.dtp kvs=>(kvs.map (·.1)).Nodup/\∃ws,H a=some (.dT ws)/\RKs K ι H kvs ws
 |.d3 kvs=>(kvs.map (·.1)).Nodup/\∃ws,H a=some (.ext (TriO a ws))/\R3s K ι H kvs ws
structure RH (K:PySem.W.Frag) (ι:List Addr) (H:Hp) (S:St):Prop where
 len:ι.length=S.len
 nd:ι.Nodup
 obj:∀l o,S.get l=some o->∃a,ι[l]?=some a/\RO K ι H a o
 tab:TB H
structure Ext (ι:List Addr) (H:Hp) (ι':List Addr) (H':Hp):Prop where
 pre:ι <+: ι'
 kp:Kp H H'
 rest:∀a o,a∉ι->H a=some o->(H' a=some o\/((∃ps,o=.tbl ps)/\∃ps,H' a=some (.tbl ps)))/\a∉ι'
theorem Ext.refl (ι:List Addr)(H:Hp):Ext ι H ι H:=⟨List.prefix_refl _,Kp.refl H,fun a o h e=>⟨.inl e,h⟩⟩
theorem Ext.trans {ι ι1 ι2:List Addr}{H H1 H2:Hp}(a:Ext ι H ι1 H1)(b:Ext ι1 H1 ι2 H2):Ext ι H ι2 H2:=
 ⟨a.pre.trans b.pre,a.kp.trans b.kp,fun x o h e=>by
  obtain⟨e1,h1⟩:=a.rest x o h e
  rcases e1 with e1|⟨t,ps,e1⟩
  · exact b.rest x o h1 e1
  · obtain⟨e2,h2⟩:=b.rest x _ h1 e1
    refine⟨.inr ⟨t,?_⟩,h2⟩
    rcases e2 with e2|⟨_,e2⟩
    · exact⟨ps,e2⟩
    · exact e2⟩
theorem Ext.keep {ι ι1:List Addr}{H H1:Hp}(x:Ext ι H ι1 H1){a:Addr}{o:HO}(h:a∉ι)(e:H a=some o)(n:∀ps,o≠.tbl ps):H1 a=some o:=
 (x.rest a o h e).1.elim id fun⟨⟨ps,z⟩,_⟩=>absurd z (n ps)
theorem zbh {ι ι':List Addr}(h:ι <+: ι'){l:Nat}{a:Addr}(e:ι[l]?=some a):ι'[l]?=some a:=by
 obtain⟨t,rfl⟩:=h
 rw[List.getElem?_append_left (List.getElem?_eq_some_iff.mp e).1]
 exact e
mutual
theorem RV.up {K:PySem.W.Frag}{ι ι':List Addr}{H H':Hp}(hp:ι <+: ι')(hk:Kp H H'):∀{d:D} {v:V},RV K ι H d v->RV K ι' H' d v
 |.non,_,r=>r
 |.bl _,_,r=>r
 |.int _,_,r=>r
 |.str _,_,r=>r
 | .tup ds, _, r => by
   obtain⟨a,xs,e,ha,q⟩:=r
   exact⟨a,xs,e,hk.tups _ _ ha,RVs.up hp hk q⟩
 | .ref l, _, r => by
   obtain⟨a,e,q⟩:=r
   exact⟨a,zbh hp e,q⟩
 | .fix ds, _, r => by
   obtain⟨a,xs,e,ha,q⟩:=r
   exact⟨a,xs,e,ha.kp hk,RVs.up hp hk q⟩
 | .clo kvs, _, r => by
   obtain⟨f,e,h⟩:=r
   exact⟨f,e,h.kp hk⟩
theorem RVs.up {K:PySem.W.Frag}{ι ι':List Addr}{H H':Hp}(hp:ι <+: ι')(hk:Kp H H'):∀{ds:List D} {vs:List V},RVs K ι H ds vs->RVs K ι' H' ds vs
 | [],_,r=>r
 | d :: ds, vs, r => by
   obtain⟨v,w,e,r1,r2⟩:=r
   exact⟨v,w,e,RV.up hp hk r1,RVs.up hp hk r2⟩
end
theorem RKs.up {K:PySem.W.Frag}{ι ι':List Addr}{H H':Hp}(hp:ι <+: ι')(hk:Kp H H'):∀{kvs:List (List Int × D)} {ws:List (List Key × V)},RKs K ι H kvs ws->RKs K ι' H' kvs ws
 | [],_,r=>r
 | (k, d) :: kvs, ws, r => by
   obtain⟨v,w,e,r1,r2⟩:=r
   exact⟨v,w,e,RV.up hp hk r1,RKs.up hp hk r2⟩
theorem RIs.up {K:PySem.W.Frag}{ι ι':List Addr}{H H':Hp}(hp:ι <+: ι')(hk:Kp H H'):∀{kvs:List (Int × D)} {ws:List (Key × V)},RIs K ι H kvs ws->RIs K ι' H' kvs ws
 | [],_,r=>r
 | (k, d) :: kvs, ws, r => by
   obtain⟨v,w,e,r1,r2⟩:=r
   exact⟨v,w,e,RV.up hp hk r1,RIs.up hp hk r2⟩
theorem R3s.up {K:PySem.W.Frag}{ι ι':List Addr}{H H':Hp}(hp:ι <+: ι')(hk:Kp H H'):∀{kvs:List (K3 × D)} {ws:List (K3 × Addr × V)},R3s K ι H kvs ws->R3s K ι' H' kvs ws
 | [],_,r=>r
 | (k, d) :: kvs, ws, r => by
   obtain⟨c,v,w,e,r0,r1,r2⟩:=r
   exact⟨c,v,w,e,r0.up hk.tups,RV.up hp hk r1,R3s.up hp hk r2⟩
theorem R3s.length {K:PySem.W.Frag}{ι:List Addr}{H:Hp}:∀{kvs:List (K3 × D)} {ws:List (K3 × Addr × V)},R3s K ι H kvs ws->ws.length=kvs.length
 | [],_,r=>by rw[show _=[] from r];rfl
 | (k, d) :: kvs, ws, r => by
   obtain⟨c,v,w,rfl,_,_,r2⟩:=r
   simp[R3s.length r2]
theorem R3s.keys {K:PySem.W.Frag}{ι:List Addr}{H:Hp}:∀{kvs:List (K3 × D)} {ws:List (K3 × Addr × V)},R3s K ι H kvs ws->ws.map (·.1)=kvs.map (·.1)
 | [],_,r=>by rw[show _=[] from r];rfl
 | (k, d) :: kvs, ws, r => by
   obtain⟨c,v,w,rfl,_,_,r2⟩:=r
   simp[R3s.keys r2]
theorem R3s.triK {K:PySem.W.Frag}{ι:List Addr}{H:Hp}:∀{kvs:List (K3 × D)} {ws:List (K3 × Addr × V)},R3s K ι H kvs ws->TriK H ws
 | [],_,r=>by rw[show _=[] from r];intro x hx;cases hx
 | (k, d) :: kvs, ws, r => by
   obtain⟨c,v,w,rfl,r0,_,r2⟩:=r
   intro x hx
   rcases List.mem_cons.mp hx with e|e
   · subst e;exact r0
   · exact R3s.triK r2 x e
theorem R3s.put {K:PySem.W.Frag}{ι:List Addr}{H:Hp}{k:K3}{c:Addr}{d:D}{v:V}(q:RV K ι H d v)(hc:Key3 H k c){kvs:List (K3 × D)}{ws:List (K3 × Addr × V)}(r:R3s K ι H kvs ws):R3s K ι H (zey kvs k d) (put3 ws k c v):=by
 unfold zey put3
 rw[r.keys]
 split
 · rename_i hm;clear hm
   induction kvs generalizing ws with
   |nil=>rw[show ws=[] from r];rfl
   | cons x kvs ih =>
     obtain⟨j,e⟩:=x
     obtain⟨c',u,w,rfl,r0,r1,r2⟩:=r
     rw[List.map_cons,List.map_cons]
     by_cases z:j=k
     · rw[if_pos z,if_pos z]
       exact⟨c',v,_,rfl,r0,q,ih r2⟩
     · rw[if_neg z,if_neg z]
       exact⟨c',u,_,rfl,r0,r1,ih r2⟩
 · rename_i hm;clear hm
   induction kvs generalizing ws with
   |nil=>rw[show ws=[] from r];exact⟨c,v,[],rfl,hc,q,rfl⟩
   | cons x kvs ih =>
     obtain⟨j,e⟩:=x
     obtain⟨c',u,w,rfl,r0,r1,r2⟩:=r
     exact⟨c',u,_,rfl,r0,r1,ih r2⟩
theorem zex {k:K3}{d:D}{kvs:List (K3 × D)}(h:(kvs.map (·.1)).Nodup):((zey kvs k d).map (·.1)).Nodup:=by
 unfold zey
 split
 · rw[List.map_map,show ((fun x:K3 × D=>x.1)∘fun x=>if x.1=k then (x.1,d) else x)=fun x=>x.1 from by funext x;show (if x.1=k then (x.1,d) else x).1=x.1;split<;>rfl]
   exact h
 · rename_i n
   rw[List.map_append,List.nodup_append]
   refine⟨h,by simp,fun a ha b hb=>?_⟩
   simp only[List.map_cons,List.map_nil,List.mem_singleton] at hb
   subst hb
   exact fun z=>n (z▸ha)
theorem RFs.up {K:PySem.W.Frag}{ι ι':List Addr}{H H':Hp}(hp:ι <+: ι')(hk:Kp H H'):∀{fs:List (Str × D)} {ws:List (Str × V)},RFs K ι H fs ws->RFs K ι' H' fs ws
 | [],_,h=>h
 | (f, d) :: r, _, h => by
   obtain⟨v,w,e,r1,r2⟩:=h
   exact⟨v,w,e,RV.up hp hk r1,RFs.up hp hk r2⟩
theorem zgN {j k:List Int}(h:kI j=kI k):j=k:=by
 unfold kI at h
 exact (List.map_inj_right (fun a b e=>Sum.inl.inj e)).mp h
theorem RKs.length {K:PySem.W.Frag}{ι:List Addr}{H:Hp}:∀{kvs:List (List Int × D)} {ws:List (List Key × V)},RKs K ι H kvs ws->ws.length=kvs.length
 | [],_,r=>by rw[show _=[] from r];rfl
 | (k, d) :: kvs, ws, r => by
   obtain⟨v,w,rfl,_,r2⟩:=r
   simp[RKs.length r2]
theorem RIs.length {K:PySem.W.Frag}{ι:List Addr}{H:Hp}:∀{kvs:List (Int × D)} {ws:List (Key × V)},RIs K ι H kvs ws->ws.length=kvs.length
 | [],_,r=>by rw[show _=[] from r];rfl
 | (k, d) :: kvs, ws, r => by
   obtain⟨v,w,rfl,_,r2⟩:=r
   simp[RIs.length r2]
theorem RKs.val {K:PySem.W.Frag}{ι:List Addr}{H:Hp}(k:List Int):∀{kvs:List (List Int × D)} {ws:List (List Key × V)},RKs K ι H kvs ws->(valP kvs k=none/\valV ws (kI k)=none)\/∃d v,valP kvs k=some d/\valV ws (kI k)=some v/\RV K ι H d v
 | [],_,r=>by rw[show _=[] from r];exact .inl ⟨rfl,rfl⟩
 | (j, d) :: kvs, ws, r => by
   obtain⟨v,w,rfl,r1,r2⟩:=r
   by_cases e:j=k
   · subst e
     exact .inr ⟨d,v,by simp[valP],by simp[valV],r1⟩
   · have e':¬kI j=kI k:=fun z=>e (zgN z)
     have h1:valP ((j,d)::kvs) k=valP kvs k:=by simp[valP,e]
     have h2:valV ((kI j,v)::w) (kI k)=valV w (kI k):=by simp[valV,e']
     rw[h1,h2]
     exact RKs.val k r2
theorem zdK {κ:Type}[DecidableEq κ]{x:κ × V}{r:List (κ × V)}{k:κ}{v:V}(h:x.1≠k):putK (x::r) k v=x::putK r k v:=by
 unfold putK
 have:decide (x.1=k)=false:=decide_eq_false h
 simp only[List.any_cons,this,Bool.false_or]
 split
 · rw[List.map_cons,if_neg h]
 · rfl
theorem RKs.keys {K:PySem.W.Frag}{ι:List Addr}{H:Hp}:∀{kvs:List (List Int × D)} {ws:List (List Key × V)},RKs K ι H kvs ws->ws.map (·.1)=kvs.map (fun p=>kI p.1)
 | [],_,r=>by rw[show _=[] from r];rfl
 | (k, d) :: kvs, ws, r => by
   obtain⟨v,w,rfl,_,r2⟩:=r
   simp[RKs.keys r2]
theorem RIs.keys {K:PySem.W.Frag}{ι:List Addr}{H:Hp}:∀{kvs:List (Int × D)} {ws:List (Key × V)},RIs K ι H kvs ws->ws.map (·.1)=kvs.map (fun p=>(Sum.inl p.1:Key))
 | [],_,r=>by rw[show _=[] from r];rfl
 | (k, d) :: kvs, ws, r => by
   obtain⟨v,w,rfl,_,r2⟩:=r
   simp[RIs.keys r2]
theorem RKs.put {K:PySem.W.Frag}{ι:List Addr}{H:Hp}(k:List Int){d:D}{v:V}(q:RV K ι H d v):∀{kvs:List (List Int × D)} {ws:List (List Key × V)},(kvs.map (·.1)).Nodup->RKs K ι H kvs ws->RKs K ι H (putP kvs k d) (putK ws (kI k) v)
 | [],_,_,r=>by rw[show _=[] from r];exact⟨v,[],rfl,q,rfl⟩
 | (j, e) :: kvs, ws, nd, r => by
   obtain⟨u,w,rfl,r1,r2⟩:=r
   simp only[List.map_cons,List.nodup_cons] at nd
   by_cases z:j=k
   · subst z
     have h1:putP ((j,e)::kvs) j d=(j,d)::kvs:=by simp[putP]
     have h2:putK ((kI j,u)::w) (kI j) v=(kI j,v)::w:=by
      unfold putK
      have:(((kI j,u)::w).any fun kv=>decide (kv.1=kI j))=true:=by simp
      rw[if_pos this,List.map_cons,if_pos rfl,List.map_congr_left (g:=id),List.map_id]
      intro kv hkv
      have hm:kv.1∈w.map (·.1):=List.mem_map.mpr ⟨kv,hkv,rfl⟩
      rw[r2.keys] at hm
      obtain⟨p,hp,ep⟩:=List.mem_map.mp hm
      have:kv.1≠kI j:=fun y=>nd.1 (by
       rw[<-ep] at y
       rw[<-zgN y]
       exact List.mem_map.mpr ⟨p,hp,rfl⟩)
      simp[this]
     rw[h1,h2]
     exact⟨v,w,rfl,q,r2⟩
   · have h1:putP ((j,e)::kvs) k d=(j,e)::putP kvs k d:=by simp[putP,z]
     have h2:putK ((kI j,u)::w) (kI k) v=(kI j,u)::putK w (kI k) v:=zdK fun y=>z (zgN y)
     rw[h1,h2]
     exact⟨u,_,rfl,r1,RKs.put k q nd.2 r2⟩
theorem RIs.put {K:PySem.W.Frag}{ι:List Addr}{H:Hp}(k:Int){d:D}{v:V}(q:RV K ι H d v):∀{kvs:List (Int × D)} {ws:List (Key × V)},(kvs.map (·.1)).Nodup->RIs K ι H kvs ws->RIs K ι H (putI kvs k d) (putK ws (Sum.inl k:Key) v)
 | [],_,_,r=>by rw[show _=[] from r];exact⟨v,[],rfl,q,rfl⟩
 | (j, e) :: kvs, ws, nd, r => by
   obtain⟨u,w,rfl,r1,r2⟩:=r
   simp only[List.map_cons,List.nodup_cons] at nd
   by_cases z:j=k
   · subst z
     have h1:putI ((j,e)::kvs) j d=(j,d)::kvs:=by simp[putI]
     have h2:putK (((Sum.inl j:Key),u)::w) (Sum.inl j:Key) v=((Sum.inl j:Key),v)::w:=by
      unfold putK
      have:((((Sum.inl j:Key),u)::w).any fun kv=>decide (kv.1=(Sum.inl j:Key)))=true:=by simp
      rw[if_pos this,List.map_cons,if_pos rfl,List.map_congr_left (g:=id),List.map_id]
      intro kv hkv
      have hm:kv.1∈w.map (·.1):=List.mem_map.mpr ⟨kv,hkv,rfl⟩
      rw[r2.keys] at hm
      obtain⟨p,hp,ep⟩:=List.mem_map.mp hm
      have:kv.1≠(Sum.inl j:Key):=fun y=>nd.1 (by
       rw[<-ep] at y
       rw[<-Sum.inl.inj y]
       exact List.mem_map.mpr ⟨p,hp,rfl⟩)
      simp[this]
     rw[h1,h2]
     exact⟨v,w,rfl,q,r2⟩
   · have h1:putI ((j,e)::kvs) k d=(j,e)::putI kvs k d:=by simp[putI,z]
     have h2:putK (((Sum.inl j:Key),u)::w) (Sum.inl k:Key) v=((Sum.inl j:Key),u)::putK w (Sum.inl k:Key) v:=zdK fun y=>z (Sum.inl.inj y)
     rw[h1,h2]
     exact⟨u,_,rfl,r1,RIs.put k q nd.2 r2⟩
theorem zdJ (k:List Int)(d:D):∀kvs:List (List Int × D),(putP kvs k d).map (·.1)=if k∈kvs.map (·.1) then kvs.map (·.1) else kvs.map (·.1)++[k]
 | []=>by simp[putP]
 | (j, e) :: r => by
   unfold putP
   by_cases z:j=k
   · subst z;simp
   · have ih:=zdJ k d r
     rw[if_neg z]
     simp only[List.map_cons,List.mem_cons,ih]
     by_cases h:k∈r.map (·.1)
     · rw[if_pos h,if_pos (.inr h)]
     · rw[if_neg h,if_neg (by rintro (y|y);exact z y.symm;exact h y)];rfl
theorem zfD {k:List Int}{d:D}{kvs:List (List Int × D)}(h:(kvs.map (·.1)).Nodup):((putP kvs k d).map (·.1)).Nodup:=by
 rw[zdJ]
 split
 · exact h
 · rename_i n
   rw[List.nodup_append]
   refine⟨h,by simp,fun a ha b hb=>?_⟩
   rw[List.mem_singleton] at hb
   subst hb
   exact fun z=>n (z▸ha)
theorem zdL (k:Int)(d:D):∀kvs:List (Int × D),(putI kvs k d).map (·.1)=if k∈kvs.map (·.1) then kvs.map (·.1) else kvs.map (·.1)++[k]
 | []=>by simp[putI]
 | (j, e) :: r => by
   unfold putI
   by_cases z:j=k
   · subst z;simp
   · have ih:=zdL k d r
     rw[if_neg z]
     simp only[List.map_cons,List.mem_cons,ih]
     by_cases h:k∈r.map (·.1)
     · rw[if_pos h,if_pos (.inr h)]
     · rw[if_neg h,if_neg (by rintro (y|y);exact z y.symm;exact h y)];rfl
theorem zfE {k:Int}{d:D}{kvs:List (Int × D)}(h:(kvs.map (·.1)).Nodup):((putI kvs k d).map (·.1)).Nodup:=by
 rw[zdL]
 split
 · exact h
 · rename_i n
   rw[List.nodup_append]
   refine⟨h,by simp,fun a ha b hb=>?_⟩
   rw[List.mem_singleton] at hb
   subst hb
   exact fun z=>n (z▸ha)
theorem RV.ext {K:PySem.W.Frag}{ι ι':List Addr}{H H':Hp}(h:Ext ι H ι' H'){d:D}{v:V}(r:RV K ι H d v):RV K ι' H' d v:=r.up h.pre h.kp
theorem RVs.ext {K:PySem.W.Frag}{ι ι':List Addr}{H H':Hp}(h:Ext ι H ι' H'){ds:List D}{vs:List V}(r:RVs K ι H ds vs):RVs K ι' H' ds vs:=r.up h.pre h.kp
theorem RVs.length {K:PySem.W.Frag}{ι:List Addr}{H:Hp}:∀{ds:List D} {vs:List V},RVs K ι H ds vs->vs.length=ds.length
 | [],_,r=>by rw[show _=[] from r];rfl
 | d :: ds, vs, r => by
   obtain⟨v,w,rfl,_,r2⟩:=r
   simp[RVs.length r2]
theorem RVs.get {K:PySem.W.Frag}{ι:List Addr}{H:Hp}:∀{ds:List D} {vs:List V} {i:Nat} {d:D},RVs K ι H ds vs->ds[i]?=some d->∃v,vs[i]?=some v/\RV K ι H d v
 | [],_,_,_,_,e=>by simp at e
 | d :: ds, vs, 0, d', r, e => by
   obtain⟨v,w,rfl,r1,_⟩:=r
   simp at e;subst e
   exact⟨v,rfl,r1⟩
 | d :: ds, vs, i + 1, d', r, e => by
   obtain⟨v,w,rfl,_,r2⟩:=r
   obtain⟨u,e1,e2⟩:=RVs.get (i:=i) (d:=d') r2 (by simpa using e)
   exact⟨u,by simpa using e1,e2⟩
theorem RVs.get' {ι:List Addr}{H:Hp}{ds:List D}{vs:List V}{i:Nat}{v:V}(r:RVs K ι H ds vs)(e:vs[i]?=some v):∃d,ds[i]?=some d/\RV K ι H d v:=by
 have hi:i<ds.length:=by rw[<-r.length];exact (List.getElem?_eq_some_iff.mp e).1
 obtain⟨u,e1,e2⟩:=r.get (List.getElem?_eq_getElem hi)
 rw[e] at e1;cases e1
 exact⟨_,List.getElem?_eq_getElem hi,e2⟩
theorem RVs.append {K:PySem.W.Frag}{ι:List Addr}{H:Hp}:∀{ds es:List D} {vs us:List V},RVs K ι H ds vs->RVs K ι H es us->RVs K ι H (ds++es) (vs++us)
 | [],_,_,_,r,q=>by rw[show _=[] from r];exact q
 | d :: ds, es, vs, us, r, q => by
   obtain⟨v,w,rfl,r1,r2⟩:=r
   exact⟨v,w++us,rfl,r1,RVs.append r2 q⟩
theorem RVs.take {K:PySem.W.Frag}{ι:List Addr}{H:Hp}:∀{ds:List D} {vs:List V} (n:Nat),RVs K ι H ds vs->RVs K ι H (ds.take n) (vs.take n)
 |_,_,0,_=>rfl
 | [],_,n+1,r=>by rw[show _=[] from r];rfl
 | d :: ds, vs, n + 1, r => by
   obtain⟨v,w,rfl,r1,r2⟩:=r
   exact⟨v,w.take n,rfl,r1,RVs.take n r2⟩
theorem RVs.drop {K:PySem.W.Frag}{ι:List Addr}{H:Hp}:∀{ds:List D} {vs:List V} (n:Nat),RVs K ι H ds vs->RVs K ι H (ds.drop n) (vs.drop n)
 |_,_,0,r=>r
 | [],_,n+1,r=>by rw[show _=[] from r];rfl
 | d :: ds, vs, n + 1, r => by
   obtain⟨v,w,rfl,r1,r2⟩:=r
   exact RVs.drop n r2
theorem RVs.erase {K:PySem.W.Frag}{ι:List Addr}{H:Hp}{ds:List D}{vs:List V}(n:Nat)(r:RVs K ι H ds vs):RVs K ι H (ds.eraseIdx n) (vs.eraseIdx n):=by
 rw[List.eraseIdx_eq_take_drop_succ,List.eraseIdx_eq_take_drop_succ]
 exact (r.take n).append (r.drop (n+1))
theorem RVs.ints {K:PySem.W.Frag}{ι:List Addr}{H:Hp}:∀ns:List Int,RVs K ι H (ns.map D.int) (ns.map V.int)
 | []=>rfl
 |n::ns=>⟨_,_,rfl,rfl,RVs.ints ns⟩
theorem RVs.ints_eq {K:PySem.W.Frag}{ι:List Addr}{H:Hp}:∀{ns:List Int} {vs:List V},RVs K ι H (ns.map D.int) vs->vs=ns.map V.int
 | [],_,h=>h
 | n :: ns, vs, h => by
   obtain⟨v,r,rfl,h1,h2⟩:=h
   rw[RVs.ints_eq h2,show v=.int n from h1];rfl
theorem zbV:∀{ds:List D} {ns:List Int},zaT ds=some ns->ds=ns.map D.int:=by
 intro ds
 unfold zaT
 induction ds with
 |nil=>intro ns h;simp at h;subst h;rfl
 | cons d ds ih =>
   intro ns h
   rw[List.mapM_cons] at h
   cases d with
   | int i =>
     cases e:List.mapM zdk ds with
     |none=>rw[e] at h;simp[zdk] at h
     |some ms=>rw[e] at h;simp[zdk] at h;subst h;simp[ih e]
   |_=>simp[zdk] at h
mutual
theorem RV.flat {K:PySem.W.Frag}{ι:List Addr}{H:Hp}:∀{d:D} {v:V},RV K ι H d v->R.flat ι.length d=true
 |.non,_,_=>by simp[R.flat]
 |.bl _,_,_=>by simp[R.flat]
 |.int _,_,_=>by simp[R.flat]
 |.str _,_,_=>by simp[R.flat]
 | .tup ds, _, r => by
   obtain⟨a,xs,e,ha,q⟩:=r
   simp only[R.flat]
   exact RVs.flats q
 | .ref l, _, r => by
   obtain⟨a,e,q⟩:=r
   simp only[R.flat,decide_eq_true_eq]
   exact (List.getElem?_eq_some_iff.mp e).1
 | .fix ds, _, r => by
   obtain⟨a,xs,e,ha,q⟩:=r
   simp only[R.flat]
   exact RVs.flats q
 |.clo _,_,_=>by simp[R.flat]
theorem RVs.flats {K:PySem.W.Frag}{ι:List Addr}{H:Hp}:∀{ds:List D} {vs:List V},RVs K ι H ds vs->R.flats ι.length ds=true
 | [],_,_=>by simp[R.flats]
 | d :: ds, vs, r => by
   obtain⟨v,w,e,r1,r2⟩:=r
   simp only[R.flats,Bool.and_eq_true]
   exact⟨RV.flat r1,RVs.flats r2⟩
end
mutual
theorem RV.restrict {K:PySem.W.Frag}{ι ι':List Addr}{H:Hp}(hp:ι <+: ι'):∀{d:D} {v:V},R.flat ι.length d=true->RV K ι' H d v->RV K ι H d v
 |.non,_,_,r=>r
 |.bl _,_,_,r=>r
 |.int _,_,_,r=>r
 |.str _,_,_,r=>r
 | .tup ds, _, f, r => by
   obtain⟨a,xs,e,ha,q⟩:=r
   simp only[R.flat] at f
   exact⟨a,xs,e,ha,RVs.restrict hp f q⟩
 | .ref l, _, f, r => by
   obtain⟨a,e,q⟩:=r
   simp only[R.flat,decide_eq_true_eq] at f
   refine⟨a,?_,q⟩
   obtain⟨t,rfl⟩:=hp
   rw[List.getElem?_append_left f] at e
   exact e
 | .fix ds, _, f, r => by
   obtain⟨a,xs,e,ha,q⟩:=r
   simp only[R.flat] at f
   exact⟨a,xs,e,ha,RVs.restrict hp f q⟩
 |.clo _,_,_,r=>r
theorem RVs.restrict {K:PySem.W.Frag}{ι ι':List Addr}{H:Hp}(hp:ι <+: ι'):∀{ds:List D} {vs:List V},R.flats ι.length ds=true->RVs K ι' H ds vs->RVs K ι H ds vs
 | [],_,_,r=>r
 | d :: ds, vs, f, r => by
   obtain⟨v,w,e,r1,r2⟩:=r
   simp only[R.flats,Bool.and_eq_true] at f
   exact⟨v,w,e,RV.restrict hp f.1 r1,RVs.restrict hp f.2 r2⟩
end
theorem RKs.flats {K:PySem.W.Frag}{ι:List Addr}{H:Hp}:∀{kvs:List (List Int × D)} {ws:List (List Key × V)},RKs K ι H kvs ws->R.flats ι.length (kvs.map (·.2))=true
 | [],_,_=>by simp[R.flats]
 | (k, d) :: kvs, ws, r => by
   obtain⟨v,w,e,r1,r2⟩:=r
   simp only[List.map_cons,R.flats,Bool.and_eq_true]
   exact⟨RV.flat r1,RKs.flats r2⟩
theorem RKs.restrict {K:PySem.W.Frag}{ι ι':List Addr}{H:Hp}(hp:ι <+: ι'):∀{kvs:List (List Int × D)} {ws:List (List Key × V)},R.flats ι.length (kvs.map (·.2))=true->RKs K ι' H kvs ws->RKs K ι H kvs ws
 | [],_,_,r=>r
 | (k, d) :: kvs, ws, f, r => by
   obtain⟨v,w,e,r1,r2⟩:=r
   simp only[List.map_cons,R.flats,Bool.and_eq_true] at f
   exact⟨v,w,e,RV.restrict hp f.1 r1,RKs.restrict hp f.2 r2⟩
theorem RIs.flats {K:PySem.W.Frag}{ι:List Addr}{H:Hp}:∀{kvs:List (Int × D)} {ws:List (Key × V)},RIs K ι H kvs ws->R.flats ι.length (kvs.map (·.2))=true
 | [],_,_=>by simp[R.flats]
 | (k, d) :: kvs, ws, r => by
   obtain⟨v,w,e,r1,r2⟩:=r
   simp only[List.map_cons,R.flats,Bool.and_eq_true]
   exact⟨RV.flat r1,RIs.flats r2⟩
theorem RIs.restrict {K:PySem.W.Frag}{ι ι':List Addr}{H:Hp}(hp:ι <+: ι'):∀{kvs:List (Int × D)} {ws:List (Key × V)},R.flats ι.length (kvs.map (·.2))=true->RIs K ι' H kvs ws->RIs K ι H kvs ws
 | [],_,_,r=>r
 | (k, d) :: kvs, ws, f, r => by
   obtain⟨v,w,e,r1,r2⟩:=r
   simp only[List.map_cons,R.flats,Bool.and_eq_true] at f
   exact⟨v,w,e,RV.restrict hp f.1 r1,RIs.restrict hp f.2 r2⟩
theorem R3s.flats {K:PySem.W.Frag}{ι:List Addr}{H:Hp}:∀{kvs:List (K3 × D)} {ws:List (K3 × Addr × V)},R3s K ι H kvs ws->R.flats ι.length (kvs.map (·.2))=true
 | [],_,_=>by simp[R.flats]
 | (k, d) :: kvs, ws, r => by
   obtain⟨c,v,w,e,_,r1,r2⟩:=r
   simp only[List.map_cons,R.flats,Bool.and_eq_true]
   exact⟨RV.flat r1,R3s.flats r2⟩
theorem R3s.restrict {K:PySem.W.Frag}{ι ι':List Addr}{H:Hp}(hp:ι <+: ι'):∀{kvs:List (K3 × D)} {ws:List (K3 × Addr × V)},R.flats ι.length (kvs.map (·.2))=true->R3s K ι' H kvs ws->R3s K ι H kvs ws
 | [],_,_,r=>r
 | (k, d) :: kvs, ws, f, r => by
   obtain⟨c,v,w,e,r0,r1,r2⟩:=r
   simp only[List.map_cons,R.flats,Bool.and_eq_true] at f
   exact⟨c,v,w,e,r0,RV.restrict hp f.1 r1,R3s.restrict hp f.2 r2⟩
theorem RFs.flats {K:PySem.W.Frag}{ι:List Addr}{H:Hp}:∀{fs:List (Str × D)} {ws:List (Str × V)},RFs K ι H fs ws->R.flats ι.length (fs.map (·.2))=true
 | [],_,_=>by simp
 | (f, d) :: r, _, h => by
   obtain⟨v,w,_,r1,r2⟩:=h
   simp only[List.map_cons,zcZ,Bool.and_eq_true]
   exact⟨RV.flat r1,RFs.flats r2⟩
theorem RFs.restrict {K:PySem.W.Frag}{ι ι':List Addr}{H:Hp}(hp:ι <+: ι'):∀{fs:List (Str × D)} {ws:List (Str × V)},R.flats ι.length (fs.map (·.2))=true->RFs K ι' H fs ws->RFs K ι H fs ws
 | [],_,_,h=>h
 | (f, d) :: r, _, f0, h => by
   obtain⟨v,w,e,r1,r2⟩:=h
   simp only[List.map_cons,zcZ,Bool.and_eq_true] at f0
   exact⟨v,w,e,RV.restrict hp f0.1 r1,RFs.restrict hp f0.2 r2⟩
theorem RO.up {K:PySem.W.Frag}{ι ι':List Addr}{H H':Hp}{a:Addr}{o:MO}(h:RO K ι H a o)(hp:ι <+: ι')(hk:Kp H H')(e:H' a=H a):RO K ι' H' a o:=by
 cases o with
 |lst ds=>obtain⟨xs,h1,h2⟩:=h;exact⟨xs,e.trans h1,h2.up hp hk⟩
 |dic kvs=>obtain⟨h0,ws,h1,h2⟩:=h;exact⟨h0,ws,e.trans h1,h2.up hp hk⟩
 |ins c fs=>obtain⟨C,dx,ws,h0,h1,h2⟩:=h;exact⟨C,dx,ws,h0,e.trans h1,h2.up hp hk⟩
 |dtp kvs=>obtain⟨h0,ws,h1,h2⟩:=h;exact⟨h0,ws,e.trans h1,h2.up hp hk⟩
 |d3 kvs=>obtain⟨h0,ws,h1,h2⟩:=h;exact⟨h0,ws,e.trans h1,h2.up hp hk⟩
theorem RO.stay {K:PySem.W.Frag}{ι ι':List Addr}{H H':Hp}{a:Addr}{o:MO}(h:RO K ι H a o)(x:Ext ι H ι' H')(e:H' a=H a):RO K ι' H' a o:=h.up x.pre x.kp e
section
variable {K:PySem.W.Frag} {ι ι':List Addr} {H H':Hp} {S S' T:St} {l:Nat} {a p:Addr}
theorem RH.mem (h:RH K ι H S){o:MO}(e:S.get l=some o):∃a,ι[l]?=some a/\RO K ι H a o/\a∈ι:=by
 obtain⟨a,h1,h2⟩:=h.obj l o e
 exact⟨a,h1,h2,List.mem_of_getElem? h1⟩
theorem zim (h:l<S.len):∃o,S.get l=some o:=by
 unfold St.len at h
 unfold St.get
 split
 · rename_i c;exact⟨_,List.getElem?_eq_getElem c⟩
 · exact⟨_,List.getElem?_eq_getElem (by omega)⟩
theorem RH.off (h:RH K ι H S)(x:Ext ι H ι H')(e:∀a∈ι,H' a=H a):RH K ι H' S:=
 ⟨h.len,h.nd,fun l o q=>let ⟨a,h1,h2,hm⟩:=h.mem q;⟨a,h1,h2.stay x (e a hm)⟩,x.kp.tab h.tab⟩
theorem RH.live (h:RH K ι H S)(ha:a∈ι):∃o,H a=some o/\(∀xs,o≠.tup xs)/\(∀z u,o≠.frz z u)/\∀ps,o≠.tbl ps:=by
 obtain⟨l,hl⟩:=List.mem_iff_getElem?.mp ha
 have hlt:l<S.len:=by rw[<-h.len];exact (List.getElem?_eq_some_iff.mp hl).1
 obtain⟨o,e⟩:=zim hlt
 obtain⟨b,h1,h2⟩:=h.obj l o e
 rw[hl] at h1;cases h1
 cases o with
 |lst ds=>obtain⟨xs,q,_⟩:=h2;exact⟨_,q,⟨fun _ z=>(by cases z),fun _ _ z=>(by cases z),fun _ z=>(by cases z)⟩⟩
 |dic kvs=>obtain⟨_,ws,q,_⟩:=h2;exact⟨_,q,⟨fun _ z=>(by cases z),fun _ _ z=>(by cases z),fun _ z=>(by cases z)⟩⟩
 |ins c fs=>obtain⟨C,dx,ws,_,q,_⟩:=h2;exact⟨_,q,⟨fun _ z=>(by cases z),fun _ _ z=>(by cases z),fun _ z=>(by cases z)⟩⟩
 |dtp kvs=>obtain⟨_,ws,q,_⟩:=h2;exact⟨_,q,⟨fun _ z=>(by cases z),fun _ _ z=>(by cases z),fun _ z=>(by cases z)⟩⟩
 |d3 kvs=>obtain⟨_,ws,q,_⟩:=h2;exact⟨_,q,⟨fun _ z=>(by cases z),fun _ _ z=>(by cases z),fun _ z=>(by cases z)⟩⟩
theorem RH.fresh (h:RH K ι H S)(hp:H p=Option.none):p∉ι:=fun hm=>by
 obtain⟨o,e,_⟩:=h.live hm
 rw[hp] at e;cases e
theorem RH.notup (h:RH K ι H S){xs:List V}(hp:H p=some (.tup xs)):p∉ι:=fun hm=>by
 obtain⟨o,e,q,_⟩:=h.live hm
 rw[hp] at e;cases e;exact q _ rfl
theorem Kp.new (hp:H p=Option.none)(o:HO):Kp H (upd H p o):=
 .same (Tups.upd_new hp) (fun b z u e=>by rw[zaf (zaj e hp)];exact e) fun b ps e=>by rw[zaf (zaj e hp)];exact e
theorem Ext.new (hp:H p=Option.none)(o:HO):Ext ι H ι (upd H p o):=
 ⟨List.prefix_refl _,Kp.new hp o,fun a u h e=>⟨.inl (by rw[zaf (zaj e hp)];exact e),h⟩⟩
theorem RH.new (h:RH K ι H S)(hp:H p=Option.none)(o:HO):RH K ι (upd H p o) S:=
 h.off (Ext.new hp o) fun a ha=>zaf fun e=>h.fresh hp (e▸ha)
theorem zfh (S:St)(o:MO):(S.push o).get S.len=some o:=by
 have h:¬S.len<S.frz.length:=by unfold St.len;omega
 unfold St.get St.push
 simp only[h,if_false]
 unfold St.len
 simp
theorem zcC {o:MO}(h:l<S.len):(S.push o).get l=S.get l:=by
 unfold St.len at h
 unfold St.get St.push
 simp only
 split
 · rfl
 · rw[List.getElem?_append_left (by omega)]
theorem zcd (S:St)(o:MO):(S.push o).len=S.len+1:=by simp[St.push,St.len];omega
theorem Ext.obj (h:RH K ι H S)(hp:H p=Option.none)(u:HO):Ext ι H (ι++[p]) (upd H p u):=
 ⟨List.prefix_append _ _,Kp.new hp u,fun a o ha e=>⟨.inl (by rw[zaf (zaj e hp)];exact e),by
  intro z
  rcases List.mem_append.mp z with z|z
  · exact ha z
  · simp at z;exact zaj e hp z⟩⟩
theorem RH.obj' (h:RH K ι H S)(hp:H p=Option.none)(u:HO)(o:MO)(ho:RO K (ι++[p]) (upd H p u) p o):RH K (ι++[p]) (upd H p u) (S.push o):=by
 refine⟨by rw[List.length_append,h.len,zcd];rfl,?_,fun l o' e=>?_,(Kp.new hp u).tab h.tab⟩
 · rw[List.nodup_append]
   refine⟨h.nd,by simp,fun a ha b hb=>?_⟩
   simp at hb;subst hb
   exact fun z=>h.fresh hp (z▸ha)
 · by_cases hl:l<S.len
   · rw[zcC hl] at e
     obtain⟨a,h1,h2,hm⟩:=h.mem e
     exact⟨a,zbh (List.prefix_append _ _) h1,h2.stay (Ext.obj h hp u) (zaf fun z=>h.fresh hp (z▸hm))⟩
   · have hl2:=zaD e
     rw[zcd] at hl2
     have:l=S.len:=by omega
     subst this
     rw[zfh] at e;cases e
     exact⟨p,by rw[<-h.len];simp,ho⟩
theorem RH.lay (h:RH K ι H S)(hp:H p=Option.none){ds:List D}{xs:List V}(r:RVs K ι H ds xs):RH K (ι++[p]) (upd H p (.lst xs)) (S.push (.lst ds)):=
 h.obj' hp _ _ ⟨xs,zai,r.ext (Ext.obj h hp _)⟩
theorem RH.last (h:RH K ι H S)(p:Addr):(ι++[p])[S.len]?=some p:=by rw[<-h.len];simp
theorem Ext.wr (h:RH K ι H S){o:MO}(e:S.get l=some o)(hl:ι[l]?=some a)(u:HO):Ext ι H ι (upd H a u):=by
 have hm:=List.mem_of_getElem? hl
 refine⟨List.prefix_refl _,.same (fun b xs hb=>?_) (fun b z v hb=>?_) fun b ps hb=>?_,fun b o hb e=>⟨.inl ((zaf fun (z:b=a)=>hb (by rw[z];exact hm)).trans e),hb⟩⟩
 · rw[zaf];exact hb
   rintro rfl
   exact h.notup hb hm
 · rw[zaf];exact hb
   rintro rfl
   obtain⟨o,e,_,q,_⟩:=h.live hm
   rw[hb] at e;cases e;exact q _ _ rfl
 · rw[zaf];exact hb
   rintro rfl
   obtain⟨o,e,_,_,q⟩:=h.live hm
   rw[hb] at e;cases e;exact q _ rfl
theorem zjL {o:MO}(e:S.put l o=some S'):S'.len=S.len/\(l<S.len->S'.get l=some o)/\(∀m,m≠l->S'.get m=S.get m)/\S.frz.length<=l:=by
 unfold St.put at e
 split at e
 · cases e
 · split at e
   · cases e
   · injection e with e
     subst e
     rename_i c1 c2
     refine⟨by simp[St.len],fun hl=>?_,fun m hm=>?_,by omega⟩
     · unfold St.len at hl
       unfold St.get
       simp only[c1,if_false]
       rw[List.getElem?_set_self (by omega)]
     · unfold St.get
       simp only
       split
       · rfl
       · rw[List.getElem?_set_ne (by omega)]
theorem RH.wr (h:RH K ι H S){o o':MO}{u:HO}(e:S.get l=some o)(hl:ι[l]?=some a)(w:S.put l o'=some S')(ho:RO K ι (upd H a u) a o'):RH K ι (upd H a u) S':=by
 obtain⟨h1,h2,h3,_⟩:=zjL w
 refine⟨h.len.trans h1.symm,h.nd,fun m o2 e2=>?_,(Ext.wr h e hl u).kp.tab h.tab⟩
 by_cases hm:m=l
 · subst hm
   rw[h2 (zaD e)] at e2;cases e2
   exact⟨a,hl,ho⟩
 · rw[h3 m hm] at e2
   obtain⟨b,q1,q2,_⟩:=h.mem e2
   refine⟨b,q1,q2.stay (Ext.wr h e hl u) (zaf ?_)⟩
   rintro rfl
   obtain⟨i1,e1⟩:=List.getElem?_eq_some_iff.mp hl
   obtain⟨i2,e2⟩:=List.getElem?_eq_some_iff.mp q1
   exact hm ((List.getElem_inj h.nd).mp (e2.trans e1.symm))
end
end R
end
section
namespace R
open PySem PySem.Spec PyProof.Rows L2
section
variable {prog:Program} {w:World} {K:Type} [DecidableEq K] {knd:HeapKind prog w K} {A:Around} {E:Value->Shared->Prop} {s:Shared} {xs ys:List (K × Addr × Value)} {a b d:Addr}
theorem zh7 {ks:List K}(nd:ks.Nodup){i j:Nat}{k:K}(hi:ks[i]?=some k)(hj:ks[j]?=some k):i=j:=by
 obtain⟨h1,e1⟩:=List.getElem?_eq_some_iff.mp hi
 obtain⟨h2,e2⟩:=List.getElem?_eq_some_iff.mp hj
 exact (List.getElem_inj nd).mp (e1.trans e2.symm)
theorem zcV {nm:String}{Q:Bool->Shared->Prop}(hu:knd.room A)(ha:(a == sysModules)=false)(hb:(b == sysModules)=false)(da:s.heap.DictOfH knd a xs)(db:s.heap.DictOfH knd b ys)(hk:xs.map (·.1)=ys.map (·.1))
  (he:∀(i:Nat) x y,xs[i]?=some x->ys[i]?=some y->SeqAt.EqAt A s x.2.2 y.2.2 true) (h:Q true s):wpAny (model prog w) A (Builtin.Dict.samePairs nm a b) Q E s:=by
 obtain⟨oa,es,ep,hoa,_,hda,hea,hia,hna⟩:=da
 obtain⟨ob,es',ep',hob,_,hdb,heb,hib,hnb⟩:=db
 have hla:es.size=xs.length:=size_of_entries hea
 have hlb:es'.size=ys.length:=size_of_entries heb
 have hl:xs.length=ys.length:=by have:=congrArg List.length hk;simpa using this
 unfold Builtin.Dict.samePairs Builtin.Dict.showsAll
 rw[if_neg (show ¬(a == sysModules)=true by rw[ha];exact Bool.false_ne_true),if_neg (show ¬(b == sysModules)=true by rw[hb];exact Bool.false_ne_true)]
 refine wpAny_bind (wpAny_pure (wpAny_bind (wpAny_pure ?_)))
 refine wpAny_bind (wpAny_dictEntries hoa hda ?_)
 dsimp only
 refine wpAny_bind (wpAny_dictEntries hob hdb ?_)
 rw[if_neg (by rw[hla,hlb,hl];simp)]
 refine wpAny_bind (wpAny_dictEpoch hoa hda ?_)
 refine wpAny_bind ?_
 rw[Std.Legacy.Range.forIn_eq_forIn_range']
 simp only[Std.Legacy.Range.size,Nat.sub_zero,Nat.add_sub_cancel,Nat.div_one]
 refine wpAny_forIn_list _ (fun rest q s'=>s'=s/\q=(none,())/\∃i,rest=List.range' i (es.size - i)/\i<=es.size) _ ?_ ?_ _ _ ⟨rfl,rfl,0,by simp,Nat.zero_le _⟩
 · rintro x rest q s' ⟨rfl,rfl,i,hr,hi⟩
   have hlt:i<es.size:=by
    rcases Nat.lt_or_ge i es.size with h|h
    · exact h
    · rw[Nat.sub_eq_zero_of_le h] at hr;simp at hr
   obtain⟨rfl,hrest⟩:x=i/\rest=List.range' (i+1) (es.size - (i+1)):=by
    have e:es.size - i=(es.size - (i+1))+1:=by omega
    rw[e,List.range'_succ] at hr
    injection hr with h1 h2
    exact⟨h1,h2⟩
   obtain⟨⟨k,c,v⟩,hx⟩:∃y,xs[x]?=some y:=⟨xs[x]'(by omega),List.getElem?_eq_getElem _⟩
   obtain⟨⟨k',c',v'⟩,hy⟩:∃y,ys[x]?=some y:=⟨ys[x]'(by omega),List.getElem?_eq_getElem _⟩
   have ekk:k'=k:=by
    have e:=congrArg (fun l=>l[x]?) hk
    simp only[List.getElem?_map,hx,hy,Option.map_some] at e
    exact (Option.some.inj e).symm
   subst ekk
   refine wpAny_bind (wpAny_dictEntries hoa hda ?_)
   rw[entry_at hea x,hx]
   show wpAny _ _ (holding [Value.ref c,v] _ >>= _) _ _ _
   refine wpAny_bind (wpAny_holding (wpAny_bind (wpAny_dictFind_heap (k:=k') hu (hia _ (List.mem_of_getElem? hx)) hob hdb heb hib hnb (fun hno=>absurd hy (hno x _)) fun j p hj=>?_)))
   have ej:j=x:=zh7 hnb (k:=k') (by rw[List.getElem?_map,hj];rfl) (by rw[List.getElem?_map,hy];rfl)
   subst ej
   rw[hy] at hj
   cases hj
   refine wpAny_bind (wpAny_dictEntries hob hdb ?_)
   rw[entry_at heb j,hy]
   refine wpAny_holding (he j _ _ hx hy prog w _ _ ?_)
   show wpAny _ _ (if (!true)=true then _ else _) _ _ _
   rw[if_neg (by decide)]
   refine wpAny_bind (wpAny_dictEpoch hoa hda ?_)
   rw[if_neg (by simp)]
   exact wpAny_pure ⟨rfl,rfl,j+1,hrest,hlt⟩
 · rintro q s' ⟨rfl,rfl,i,hr,hi⟩
   exact wpAny_pure h
theorem zmh {Q:Value->Shared->Prop}(hr:knd.room A.in1)(hu:A.units<cLine)(ha:(a == sysModules)=false)(hb:(b == sysModules)=false)(da:s.heap.DictOfH knd a xs)(db:s.heap.DictOfH knd b ys)(hk:xs.map (·.1)=ys.map (·.1))
  (he:∀(i:Nat) x y,xs[i]?=some x->ys[i]?=some y->SeqAt.EqAt A.in1 s x.2.2 y.2.2 true) (h:Q (.bool true) s):wpAny (model prog w) A (compareOp .Eq (.ref a) (.ref b)) Q E s:=by
 refine wpAny_richCompare_same_room (op:=.Eq) da.typeIs db.typeIs PySem.F.slot_dict_eq (wpAny_call_entry PySem.F.slot_dict_eq da.typeIs PySem.F.entry_dict_eq ?_ (PySem.F.args_dict_eq_2 _ _)) hu
 show wpAny _ _ (Builtin.Dict.dictSlotArgs "__eq__" ⟨[.ref a,.ref b],[]⟩ >>= _) _ _ s
 refine wpAny_bind ?_
 unfold Builtin.Dict.dictSlotArgs
 refine wpAny_bind (wpAny_notOrdered_dict da.typeIs ?_)
 show wpAny _ _ (pure (Value.ref a,Value.ref b)) _ _ s
 refine wpAny_pure ?_
 refine wpAny_bind (wpAny_isInstance (T:="dict") db.typeIs PySem.F.sub_dict_dict ?_)
 simp only[Bool.not_true,Bool.false_eq_true,if_false]
 refine wpAny_bind (wpAny_pure (wpAny_bind (wpAny_pure ?_)))
 refine wpAny_bind (zcV hr ha hb da db hk he ?_)
 refine wpAny_pure ⟨_,rfl,?_,?_⟩
 · exact fun x=>nomatch x
 · simpa using h
theorem zmg {Q:Value->Shared->Prop}(hr:knd.room A.in1)(hu:A.units<cLine)(ha:(a == sysModules)=false)(hb:(b == sysModules)=false)(da:s.heap.DictOfH knd a xs)(db:s.heap.DictOfH knd b ys)(hk:xs.map (·.1)=ys.map (·.1))
  (he:∀(i:Nat) x y,xs[i]?=some x->ys[i]?=some y->SeqAt.EqAt A.in1 s x.2.2 y.2.2 true) (h:Q (.bool false) s):wpAny (model prog w) A (compareOp .NotEq (.ref a) (.ref b)) Q E s:=by
 refine wpAny_richCompare_same_room (op:=.NotEq) da.typeIs db.typeIs PySem.F.slot_dict_ne (wpAny_call_entry PySem.F.slot_dict_ne da.typeIs PySem.F.entry_dict_ne ?_ (PySem.F.args_dict_ne_2 _ _)) hu
 show wpAny _ _ (Builtin.Dict.dictSlotArgs "__ne__" ⟨[.ref a,.ref b],[]⟩ >>= _) _ _ s
 refine wpAny_bind ?_
 unfold Builtin.Dict.dictSlotArgs
 refine wpAny_bind (wpAny_notOrdered_dict da.typeIs ?_)
 show wpAny _ _ (pure (Value.ref a,Value.ref b)) _ _ s
 refine wpAny_pure ?_
 refine wpAny_bind (wpAny_isInstance (T:="dict") db.typeIs PySem.F.sub_dict_dict ?_)
 simp only[Bool.not_true,Bool.false_eq_true,if_false]
 refine wpAny_bind (wpAny_pure (wpAny_bind (wpAny_pure ?_)))
 refine wpAny_bind (zcV hr ha hb da db hk he ?_)
 refine wpAny_pure ⟨_,rfl,?_,?_⟩
 · exact fun x=>nomatch x
 · simpa using h
end
end R
end
section
namespace R
open PySem PySem.Spec PyProof.Rows L2
variable [Mks]
noncomputable def wVK:Option Int->V|none=>.non|some i=>.int i
theorem zcs {α β:Type}{Rl:α->β->Prop}:∀{ks:List α} {xs:List β},Paired Rl ks xs->∀{i:Nat} {x:β},xs[i]?=some x->∃p,ks[i]?=some p/\Rl p x
 |_,_,.nil,i,x,h=>by simp at h
 |_,_,.cons r t,0,x,h=>by simp at h;subst h;exact⟨_,rfl,r⟩
 | _, _, .cons r t, i + 1, x, h => by
   simp at h
   obtain⟨p,h1,h2⟩:=zcs t h
   exact⟨p,by simpa using h1,h2⟩
theorem zcA {H:Hp}:∀{ks:List (List Key × V)} {xs:List (List Key × Addr × Value)},KT H ks xs->xs.map (·.1)=ks.map (·.1)
 |_,_,.nil=>rfl
 |_,_,.cons r t=>by rw[List.map_cons,List.map_cons,zcA t,r.1]
theorem RKs.words {K:PySem.W.Frag}{ι:List Addr}{H:Hp}:∀{kvs:List (List Int × D)} {ws:List (List Key × V)} {u:List (List Int × Option Int)},RKs K ι H kvs ws->zb5 kvs=some u->ws=u.map fun p=>(kI p.1,wVK p.2)
 | [], ws, u, r, h => by
   have h:u=[]:=by simpa[zb5] using h.symm
   subst h;exact r
 | (k, d) :: kr, ws, u, r, h => by
   obtain⟨v,w,rfl,r1,r2⟩:=r
   unfold zb5 at h
   rw[List.mapM_cons] at h
   cases e:zcg d with
   |none=>simp[e] at h
   | some o =>
     cases e2:kr.mapM fun kv=>(zcg kv.2).map fun w=>(kv.1,w) with
     |none=>simp[e,e2] at h
     | some t =>
       simp[e,e2] at h
       subst h
       rw[RKs.words r2 (show zb5 kr=some t from e2),List.map_cons]
       congr 2
       cases d with
       |non=>cases e;exact r1
       |int i=>cases e;exact r1
       |_=>cases e
section
variable {X:Cx} {pins:List (Addr × Obj)} {σ:L2.St} {H:Hp} {s:Shared} {a b:Addr} {A:Around} {E:Value->Shared->Prop}
theorem zhf {u:List (List Int × Option Int)}{xs ys:List (List Key × Addr × Value)}(r1:KT H (u.map fun p=>(kI p.1,wVK p.2)) xs)(r2:KT H (u.map fun p=>(kI p.1,wVK p.2)) ys):∀(i:Nat) x y,xs[i]?=some x->ys[i]?=some y->SeqAt.EqAt A s x.2.2 y.2.2 true:=fun i x y hx hy=>by
 obtain⟨p,h1,_,_,h2⟩:=zcs r1 hx
 obtain⟨q,g1,_,_,g2⟩:=zcs r2 hy
 rw[h1] at g1
 cases g1
 rw[List.getElem?_map] at h1
 cases e:u[i]? with
 |none=>rw[e] at h1;cases h1
 | some w =>
   rw[e] at h1
   cases h1
   obtain⟨k,o⟩:=w
   cases o with
   | none =>
     have e1:x.2.2=Value.none:=h2
     have e2:y.2.2=Value.none:=g2
     rw[e1,e2]
     exact SeqAt.EqAt.same _
   | some z =>
     obtain⟨t,e1⟩:=(show ∃t,x.2.2=Value.int z t from h2)
     obtain⟨t',e2⟩:=(show ∃t,y.2.2=Value.int z t from g2)
     rw[e1,e2]
     have:=SeqAt.EqAt.int_int (A:=A) (s:=s) z t z t'
     simpa using this
theorem znG {u:List (List Int × Option Int)}{Q:Value->Shared->Prop}(hu:A.units+1<cLine)(I:Inv X pins σ H s)(h1:H a=some (.dT (u.map fun p=>(kI p.1,wVK p.2))))(h2:H b=some (.dT (u.map fun p=>(kI p.1,wVK p.2))))(h:Q (.bool true) s):wpAny (model X.prog X.w) A (compareOp .Eq (.ref a) (.ref b)) Q E s:=by
 obtain⟨_,s1,xs,r1,d1⟩:=zfO I.hok h1
 obtain⟨_,s2,ys,r2,d2⟩:=zfO I.hok h2
 exact zmh (tupleKind_room_in1 hu) (by omega) s1 s2 d1 d2 ((zcA r1).trans (zcA r2).symm) (zhf r1 r2) h
theorem znF {u:List (List Int × Option Int)}{Q:Value->Shared->Prop}(hu:A.units+1<cLine)(I:Inv X pins σ H s)(h1:H a=some (.dT (u.map fun p=>(kI p.1,wVK p.2))))(h2:H b=some (.dT (u.map fun p=>(kI p.1,wVK p.2))))(h:Q (.bool false) s):wpAny (model X.prog X.w) A (compareOp .NotEq (.ref a) (.ref b)) Q E s:=by
 obtain⟨_,s1,xs,r1,d1⟩:=zfO I.hok h1
 obtain⟨_,s2,ys,r2,d2⟩:=zfO I.hok h2
 exact zmg (tupleKind_room_in1 hu) (by omega) s1 s2 d1 d2 ((zcA r1).trans (zcA r2).symm) (zhf r1 r2) h
end
theorem zdn {S:R.St}{d:D}{kvs:List (List Int × D)}(h:dKvs S d=some kvs):∃l,d=.ref l/\S.get l=some (.dtp kvs):=by
 cases d with
 | ref l =>
   refine⟨l,rfl,?_⟩
   unfold dKvs at h
   dsimp only at h
   cases e:S.get l with
   |none=>rw[e] at h;cases h
   | some o =>
     rw[e] at h
     cases o with
     |dtp k=>cases h;rfl
     |_=>cases h
 |_=>cases h
theorem zkd {K:PySem.W.Frag}{ι:List Addr}{H:Hp}{y:D}{v:V}{k:List Int}(r:RV K ι H y v)(h:zdj y=some k):∃b,v=.ref b/\H b=some (.tup ((kI k).map kV)):=by
 cases y with
 | tup ds =>
   obtain⟨b,xs,rfl,hb,rr⟩:=r
   simp only[zdj] at h
   rw[zbV h] at rr
   rw[rr.ints_eq] at hb
   refine⟨b,rfl,?_⟩
   rw[hb]
   unfold kI
   rw[List.map_map];rfl
 |_=>cases h
theorem zfn {K:PySem.W.Frag}{ι:List Addr}{H:Hp}{S:R.St}{d e:D}{x y:V}{k:Bool}(hH:RH K ι H S)(hd:RV K ι H d x)(he:RV K ι H e y)(h:zcc S d e=some k) :
  (∃(u:List (List Int × Option Int)) (a b:Addr),x=.ref a/\y=.ref b/\H a=some (.dT (u.map fun p=>(kI p.1,wVK p.2)))/\H b=some (.dT (u.map fun p=>(kI p.1,wVK p.2)))/\k=true)\/eqD S d e=some k:=by
 unfold zcc at h
 split at h
 · rename_i ka kb e1 e2
   left
   obtain⟨l,rfl,g1⟩:=zdn e1
   obtain⟨m,rfl,g2⟩:=zdn e2
   obtain⟨a,i1,rfl⟩:=hd
   obtain⟨b,i2,rfl⟩:=he
   obtain⟨a',j1,_,ws,ha,rk⟩:=hH.obj l _ g1
   rw[i1] at j1;cases j1
   obtain⟨b',j2,_,us,hb,rl⟩:=hH.obj m _ g2
   rw[i2] at j2;cases j2
   unfold eqK at h
   cases w1:zb5 ka with
   |none=>rw[w1] at h;cases h
   | some u =>
     cases w2:zb5 kb with
     |none=>rw[w1,w2] at h;cases h
     | some v =>
       rw[w1,w2] at h
       dsimp only[Option.bind_some] at h
       split at h
       · rename_i c
         subst c
         cases h
         rw[rk.words w1] at ha
         rw[rl.words w2] at hb
         exact⟨u,a,b,rfl,rfl,ha,hb,rfl⟩
       · cases h
 · exact .inr h
theorem zkv {S:R.St}{x:D}{kvs:List (K3 × D)}(h:d3K S x=some kvs):∃l,x=.ref l/\S.get l=some (.d3 kvs):=by
 cases x with
 | ref l =>
   simp only[d3K] at h
   cases e:S.get l with
   |none=>rw[e] at h;cases h
   | some o =>
     rw[e] at h
     cases o with
     |d3 k=>cases h;exact⟨l,rfl,e⟩
     |_=>cases h
 |_=>cases h
theorem zgM {K:PySem.W.Frag}{ι:List Addr}{H:Hp}{y:D}{v:V}{k:K3}(r:RV K ι H y v)(h:key3 y=some k):∃c,v=.ref c/\Key3 H k c:=by
 unfold key3 at h
 split at h
 · rename_i a ds b
   cases e:zaT ds with
   |none=>rw[e] at h;cases h
   | some p =>
     rw[e] at h
     cases h
     obtain⟨c,xs,rfl,hc,v1,r1,rfl,q1,v2,r2,rfl,q2,v3,r3,rfl,q3,q4⟩:=r
     cases (show r3=[] from q4)
     obtain rfl:v1=.int a:=q1
     obtain⟨b',ys,rfl,hb,rr⟩:=q2
     obtain rfl:v3=.int b:=q3
     rw[zbV e] at rr
     rw[rr.ints_eq] at hb
     exact⟨c,rfl,b',hc,hb⟩
 · cases h
theorem zfg {K:PySem.W.Frag}{ι:List Addr}{H:Hp}{S:R.St}{d e:D}{x y:V}{k:Bool}(hH:RH K ι H S)(hd:RV K ι H d x)(he:RV K ι H e y)(h:zeD S d e=some k) :
  (∃a o,y=.ref a/\DGet H a x o/\k=o.isSome)\/(∃a kxs kk c,y=.ref a/\H a=some (.ext (TriO a kxs))/\TriK H kxs/\x=.ref c/\Key3 H kk c/\k=decide (kk∈kxs.map (·.1)))\/((za7 S e).bind fun ys=>inD S d ys)=some k:=by
 unfold zeD at h
 split at h
 · rename_i kvs e1
   left
   obtain⟨l,rfl,g1⟩:=zdn e1
   obtain⟨a,i1,rfl⟩:=he
   obtain⟨a',j1,_,ws,ha,rk⟩:=hH.obj l _ g1
   rw[i1] at j1;cases j1
   cases ek:zdj d with
   |none=>rw[ek] at h;cases h
   | some kk =>
     rw[ek] at h
     cases h
     obtain⟨b,rfl,hb⟩:=zkd hd ek
     refine⟨a,_,rfl,DGet.t ha hb,?_⟩
     rcases rk.val kk with ⟨e1,e2⟩|⟨d,v,e1,e2,_⟩
     · dsimp only;rw[e1,e2];rfl
     · dsimp only;rw[e1,e2];rfl
 · split at h
   · rename_i kvs e1
     right;left
     obtain⟨l,rfl,g1⟩:=zkv e1
     obtain⟨a,i1,rfl⟩:=he
     obtain⟨a',j1,_,ws,ha,rk⟩:=hH.obj l _ g1
     rw[i1] at j1;cases j1
     cases ek:key3 d with
     |none=>rw[ek] at h;cases h
     | some kk =>
       rw[ek] at h
       cases h
       obtain⟨c,rfl,hc⟩:=zgM hd ek
       exact⟨a,ws,kk,c,rfl,ha,rk.triK,rfl,hc,by dsimp only;rw[rk.keys]⟩
   · exact .inr (.inr h)
end R
end
section
namespace R
open PySem PySem.Spec PyProof.Rows L2
section
variable {prog:Program} {w:World} {K:Type} [DecidableEq K] {knd:HeapKind prog w K} {A:Around} {E:Value->Shared->Prop} {s:Shared} {xs:List (K × Addr × Value)} {d:Addr}
end
section
variable {X:Cx} {o e f:Expr} {apos cpos:Pos} {td ty tv:TE}
end
end R
end
section
namespace R
open PySem PySem.Spec PyProof.Rows L2
section
variable {prog:Program} {w:World} {K:Type} [DecidableEq K] {knd:HeapKind prog w K} {A:Around} {E:Value->Shared->Prop} {s:Shared} {xs:List (K × Addr × Value)} {d j:Addr} {i ep:Nat}
noncomputable def HAt (knd:HeapKind prog w K)(h:Heap)(d:Addr)(xs:List (K × Addr × Value))(ep:Nat):Prop:=∃o es,h.get? d=some o/\o.ExactDict/\o.data=.dict es ep/\es.toList=xs.map (entryOfKey knd)
theorem HAt.at {h h':Heap}(x:HAt knd h d xs ep)(e:∀o,h.get? d=some o->h'.get? d=some o):HAt knd h' d xs ep:=let ⟨o,es,ho,r⟩:=x;⟨o,es,e _ ho,r⟩
theorem HAt.ty (x:HAt knd s.heap d xs ep):s.TypeIs (.ref d) "dict":=let ⟨o,_,ho,hc,_⟩:=x;⟨o,ho,hc.1⟩
end
section
variable {X:Cx}
theorem znn:zbc X (.builtin "len") (fun vs H Q=>∃a ws,vs=[.ref a]/\H a=some (.dT ws)/\Q (.int ws.length) H):=by
 intro pins s σ H xs us Q I r h
 obtain⟨a,ws,rfl,e,q⟩:=h
 obtain⟨u,rfl,ru⟩:=r.one
 cases (show u=Value.ref a from ru)
 obtain⟨z,hd,ys,rel,dd⟩:=zfO I.hok e
 have hl:=Paired.length rel
 obtain⟨o,es,ep,h1,h2,h3,h4,_⟩:=id dd
 have hs:es.size=ws.length:=by rw[size_of_entries h4];exact hl.symm
 refine PyProof.Rows.call_len_slot (n:=ws.length) dd.typeIs F.slot_dict_len (fun Q' hq=>?_) (by omega) (by rw[sizeLine_eq] at z;omega) ⟨.int ws.length,H,I.tok _,⟨_,rfl⟩,q⟩
 refine wpAny_call_entry F.slot_dict_len dd.typeIs F.entry_dict_len ?_ (F.args_dict_len_1 _)
 show wpAny _ _ (dictSize a >>= _) _ _ s
 unfold dictSize
 refine wpAny_bind (wpAny_bind (wpAny_dictEntries h1 h3 (wpAny_pure ?_)))
 show wpAny _ _ (Builtin.Dict.pendingCount a >>= _) _ _ s
 refine wpAny_bind (wpAny_pendingCount_other hd ?_)
 rw[show ((es.size:Int)+((0:Nat):Int))=(ws.length:Nat) by rw[hs];simp]
 exact wpAny_bind (wpAny_mkInt (wpAny_pure ⟨_,rfl,hq⟩))
end
end R
end
section
namespace R
open PySem PySem.Spec PyProof.Rows L2
variable [Mks]
noncomputable def Lf (K:PySem.W.Frag)(ι:List Addr)(H:Hp)(Q:D->R.St->Prop):VK:=fun v H'=>∃d ι' S',Ext ι H ι' H'/\RV K ι' H' d v/\RH K ι' H' S'/\Q d S'
section
variable {K:PySem.W.Frag} {ι ι':List Addr} {H H':Hp} {S S':R.St} {Q:D->R.St->Prop} {d:D} {v:V} {p:Addr}
theorem Lf.of (h:RH K ι H S)(r:RV K ι H d v)(q:Q d S):Lf K ι H Q v H:=⟨d,ι,S,Ext.refl ι H,r,h,q⟩
theorem Lf.up (x:Ext ι H ι' H')(h:Lf K ι' H' Q v p'):Lf K ι H Q v p':=by
 obtain⟨d,ι2,S2,x2,r⟩:=h
 exact⟨d,ι2,S2,x.trans x2,r⟩
theorem Lf.tup (h:RH K ι H S)(hp:H p=Option.none){ds:List D}{xs:List V}(r:RVs K ι H ds xs)(q:Q (.tup ds) S):Lf K ι H Q (.ref p) (upd H p (.tup xs)):=
 ⟨.tup ds,ι,S,Ext.new hp _,⟨p,xs,rfl,zai,r.ext (Ext.new hp _)⟩,h.new hp _,q⟩
theorem Lf.lst (h:RH K ι H S)(hp:H p=Option.none){ds:List D}{xs:List V}(r:RVs K ι H ds xs)(q:Q (.ref S.len) (S.push (.lst ds))):Lf K ι H Q (.ref p) (upd H p (.lst xs)):=
 ⟨.ref S.len,ι++[p],S.push (.lst ds),Ext.obj h hp _,⟨p,h.last p,rfl⟩,h.lay hp r,q⟩
theorem Lf.wr (h:RH K ι H S){l:Nat}{a:Addr}{o:MO}{ds:List D}{xs:List V}(e:S.get l=some o)(hl:ι[l]?=some a)(w:S.put l (.lst ds)=some S')(r:RVs K ι H ds xs)(rv:RV K ι H d v)(q:Q d S'):Lf K ι H Q v (upd H a (.lst xs)):=
 ⟨d,ι,S',Ext.wr h e hl _,rv.ext (Ext.wr h e hl _),h.wr e hl w ⟨xs,zai,r.ext (Ext.wr h e hl _)⟩,q⟩
end
theorem zcy {S:R.St}{ds:List D}{Q:D->R.St->Prop}(h:W (lay S ds) Q):ds.length<=sizeLine/\Q (.ref S.len) (S.push (.lst ds)):=by
 unfold lay at h
 split at h
 · rename_i c;exact⟨by rw[sizeLine_eq];exact c,h⟩
 · exact h.elim
theorem zhx {S:R.St}{l:Nat}{ds:List D}{d:D}{Q:D->R.St->Prop}(h:W (wr S l ds d) Q):ds.length<=sizeLine/\∃S',S.put l (.lst ds)=some S'/\Q d S':=by
 unfold wr at h
 split at h
 · rename_i c
   refine⟨by rw[sizeLine_eq];exact c,?_⟩
   cases e:S.put l (.lst ds) with
   |none=>rw[e] at h;exact h.elim
   |some S'=>rw[e] at h;exact⟨S',rfl,h⟩
 · exact h.elim
noncomputable def rD2 (K:PySem.W.Frag)(f:R.St->D->D->Out D):R2:=fun x y H Qv=>∃ι S d e Qd,RV K ι H d x/\RV K ι H e y/\RH K ι H S/\W (f S d e) Qd/\∀v H',Lf K ι H Qd v H'->Qv v H'
section
variable {X:Cx}
theorem ziz {prog:Program}{w:World}{A:Around}{E:Value->Shared->Prop}{s:Shared}{t b:Addr}{vs ws:List Value}{Q:Value->Shared->Prop}(ht:IsTup s.heap t vs.toArray)(hb:IsTup s.heap b ws.toArray)(hv:vs=[])
  (h1:Q (.ref b) s):wpAny (model prog w) A (binaryOp .Add (.ref t) (.ref b)) Q E s:=by
 obtain⟨⟨cls,dd,data,sl⟩,ho,hc,n,hd⟩:=id ht
 obtain⟨⟨cls2,dd2,data2,sl2⟩,ho2,hc2,n2,hd2⟩:=id hb
 simp only at hc hd hc2 hd2
 subst hc hd hc2 hd2
 exact concat_meets ⟨_,ho,rfl⟩ ⟨_,ho2,rfl⟩ noFill_tuple_add seq_tuple_add PySem.F.slot_tuple_add PySem.F.entry_tuple_add (PySem.F.args_tuple_add_2 _ _)
  (tuple_addW0 t b vs.toArray ws.toArray n n2 dd dd2 sl sl2 (by simp[hv])) ⟨ho,ho2,h1⟩
theorem zh5:OpR X (binaryOp .Add) (fun x y H Q=>∃a b ys,x=.ref a/\y=.ref b/\SqT X.K H a []/\SqT X.K H b ys/\Q (.ref b) H):=by
 intro pins s σ H x y v u Q I rx ry h
 obtain⟨a,b,ys,rfl,rfl,ha,hb,q⟩:=h
 cases rx
 cases ry
 obtain⟨its,r1,p1,_⟩:=I.tuple ha
 obtain⟨its2,r2,p2,_⟩:=I.tuple hb
 exact ziz p1 p2 (r1.nil_iff.mpr rfl) ⟨.ref b,H,I,rfl,q⟩
theorem zmu (op:Operator):OpR X (binaryOp op) (rD2 X.K fun S d e=>binD S op d e):=by
 intro pins s σ H x y v u Qv I rx ry ⟨ι,S,d,e,Qd,hd,he,hH,hw,q⟩
 dsimp only at hw
 unfold binD at hw
 split at hw
 · rename_i i j
   obtain rfl:x=.int i:=hd
   obtain rfl:y=.int j:=he
   have fin:∀k:Int,Qd (.int k) S->Qv (.int k) H:=fun k hk=>q _ _ (Lf.of (d:=.int k) hH rfl hk)
   unfold binI at hw
   split at hw
   · exact zlZ pins s σ H _ _ v u Qv I rx ry ⟨i,j,rfl,rfl,fin _ hw⟩
   · exact zlQ pins s σ H _ _ v u Qv I rx ry ⟨i,j,rfl,rfl,fin _ hw⟩
   · split at hw
     · rename_i c
       refine zlT pins s σ H _ _ v u Qv I rx ry ⟨i,j,rfl,rfl,?_,fin _ hw⟩
       unfold zgu at c
       rw[Bool.or_eq_true,decide_eq_true_eq,decide_eq_true_eq] at c
       exact c
     · exact hw.elim
   · split at hw
     · rename_i c
       exact zj2 pins s σ H _ _ v u Qv I rx ry ⟨i,j,rfl,rfl,c,fin _ hw⟩
     · exact hw.elim
   · split at hw
     · rename_i c
       exact zlU pins s σ H _ _ v u Qv I rx ry ⟨i,j,rfl,rfl,c,fin _ hw⟩
     · exact hw.elim
   · split at hw
     · rename_i c
       exact zlR pins s σ H _ _ v u Qv I rx ry ⟨i,j,rfl,rfl,⟨c.1,c.2.1,by omega⟩,fin _ hw⟩
     · exact hw.elim
   · exact hw.elim
 · rename_i xs ys
   split at hw
   · split at hw
     · rename_i c
       obtain⟨a,us,rfl,ha,r1⟩:=hd
       obtain⟨b,ws,rfl,hb,r2⟩:=he
       by_cases hn:us=[]
       · subst hn
         have hx:xs=[]:=by
          have:=r1.length
          simpa using this.symm
         subst hx
         refine zh5 pins s σ H _ _ v u Qv I rx ry ⟨a,b,ws,rfl,rfl,SqT.of ha,SqT.of hb,?_⟩
         exact q _ _ (Lf.of (d:=.tup ys) hH ⟨b,ws,rfl,hb,r2⟩ (by simpa using hw))
       · refine zj3 pins s σ H _ _ v u Qv I rx ry ⟨a,b,us,ws,rfl,rfl,SqT.of ha,SqT.of hb,hn,?_,fun hy=>?_,fun hy p hp=>?_⟩
         · rw[r1.length,r2.length,sizeLine_eq];exact c
         · subst hy
           have hx:ys=[]:=by
            have:=r2.length
            simpa using this.symm
           subst hx
           exact q _ _ (Lf.of (d:=.tup xs) hH ⟨a,us,rfl,ha,r1⟩ (by simpa using hw))
         · exact q _ _ (Lf.tup hH hp (r1.append r2) hw)
     · exact hw.elim
   · exact hw.elim
 · rename_i a b
   split at hw
   · rename_i xs ys e1 e2
     obtain⟨a1,h1,rfl⟩:=hd
     obtain⟨b1,h2,rfl⟩:=he
     obtain⟨a2,h3,us,ha,r1⟩:=hH.obj _ _ e1
     obtain⟨b2,h4,ws,hb,r2⟩:=hH.obj _ _ e2
     rw[h1] at h3;cases h3
     rw[h2] at h4;cases h4
     obtain⟨z,hq⟩:=zcy hw
     refine zlY pins s σ H _ _ v u Qv I rx ry ⟨a1,b1,us,ws,rfl,rfl,ha,hb,?_,fun p hp=>?_⟩
     · rw[r1.length,r2.length];rw[List.length_append] at z;exact z
     · exact q _ _ (Lf.lst hH hp (r1.append r2) hq)
   · exact hw.elim
 · exact hw.elim
theorem zaI {α β:Type}{f:α->Option β}{x:α}{xs:List α}{ys:List β}(h:(x::xs).mapM f=some ys):∃y r,f x=some y/\xs.mapM f=some r/\ys=y::r:=by
 rw[List.mapM_cons] at h
 cases e:f x with
 |none=>rw[e] at h;cases h
 | some y =>
   rw[e] at h
   cases e2:xs.mapM f with
   |none=>rw[e2] at h;cases h
   |some r=>rw[e2] at h;injection h with h;exact⟨y,r,rfl,rfl,h.symm⟩
theorem zfG {ι:List Addr}{H:Hp}{S:R.St}(hH:RH X.K ι H S):∀(n:Nat) (d:D) (pdd:PyData) (v:V),pd S n d=some pdd->RV X.K ι H d v->Rep H pdd v/\pdd.canLay0=true/\pdd.depth<=n:=by
 intro n
 induction n with
 | zero =>
   intro d p v h r
   cases d<;>simp only[pd] at h
   · cases h;exact⟨r,rfl,Nat.le_refl _⟩
   · cases h;exact⟨r,rfl,Nat.le_refl _⟩
   · cases h;exact⟨r,rfl,Nat.le_refl _⟩
   · split at h
     · rename_i c;cases h;exact⟨r,c,Nat.le_refl _⟩
     · cases h
   all_goals cases h
 | succ n ih =>
   have all:∀(ds:List D) (ps:List PyData) (vs:List V),ds.mapM (pd S n)=some ps->RVs X.K ι H ds vs->RepAll H ps vs/\PyData.canLayAll0 ps=true/\PyData.depthAll ps<=n:=by
    intro ds
    induction ds with
    | nil =>
      intro ps vs h r
      have h:ps=[]:=by simpa using h.symm
      subst h
      exact⟨r,rfl,Nat.zero_le _⟩
    | cons d ds ihd =>
      intro ps vs h r
      obtain⟨y,rr,h1,h2,rfl⟩:=zaI h
      obtain⟨v,w,rfl,r1,r2⟩:=r
      obtain⟨a1,a2,a3⟩:=ih d y v h1 r1
      obtain⟨b1,b2,b3⟩:=ihd rr w h2 r2
      refine⟨⟨v,w,rfl,a1,b1⟩,by simp[PyData.canLayAll0,a2,b2],?_⟩
      simp only[PyData.depthAll]
      omega
   intro d p v h r
   cases d with
   |non=>simp only[pd] at h;cases h;exact⟨r,rfl,Nat.zero_le _⟩
   |bl b=>simp only[pd] at h;cases h;exact⟨r,rfl,Nat.zero_le _⟩
   |int i=>simp only[pd] at h;cases h;exact⟨r,rfl,Nat.zero_le _⟩
   | str x =>
     simp only[pd] at h
     split at h
     · rename_i c;cases h;exact⟨r,c,Nat.zero_le _⟩
     · cases h
   | tup ds =>
     simp only[pd] at h
     cases e:ds.mapM (pd S n) with
     |none=>rw[e] at h;cases h
     | some ps =>
       rw[e] at h
       have h:PyData.tuple ps=p:=by simpa using h
       subst h
       obtain⟨a,xs,rfl,ha,rr⟩:=r
       obtain⟨b1,b2,b3⟩:=all ds ps xs e rr
       refine⟨⟨a,xs,rfl,ha,b1⟩,by simp[PyData.canLay0,b2],?_⟩
       simp only[PyData.depth]
       omega
   | ref l =>
     simp only[pd] at h
     split at h
     · rename_i ds eg
       cases e:ds.mapM (pd S n) with
       |none=>rw[e] at h;cases h
       | some ps =>
         rw[e] at h
         have h:PyData.list ps=p:=by simpa using h
         subst h
         obtain⟨a,h1,rfl⟩:=r
         obtain⟨a2,h2,xs,ha,rr⟩:=hH.obj _ _ eg
         rw[h1] at h2;cases h2
         obtain⟨b1,b2,b3⟩:=all ds ps xs e rr
         refine⟨⟨a,xs,rfl,ha,b1⟩,by simp[PyData.canLay0,b2],?_⟩
         simp only[PyData.depth]
         omega
     · cases h
   |fix ds=>simp only[pd] at h;cases h
   |clo ds=>simp only[pd] at h;cases h
noncomputable def rC2 (K:PySem.W.Frag)(op:CmpOp):R2:=fun x y H Qv=>∃ι S d e k,RV K ι H d x/\RV K ι H e y/\RH K ι H S/\cmpD S op d e=some k/\Qv (.bl k) H
theorem zfm {S:R.St}{d e:D}{k:Bool}(h:eqD S d e=some k):∃a b,pd S 60 d=some a/\pd S 60 e=some b/\k=PyData.eqv a b:=by
 unfold eqD at h
 cases e1:pd S 60 d with
 |none=>rw[e1] at h;cases h
 | some a =>
   rw[e1] at h
   cases e2:pd S 60 e with
   |none=>rw[e2] at h;cases h
   |some b=>rw[e2] at h;injection h with h;exact⟨a,b,rfl,rfl,h.symm⟩
open Classical in
noncomputable def eqRd (h:Heap)(p:PyData)(u:Value):Bool:=if c:∃q as,Reads h u q as/\q.canLay0=true then PyData.eqv c.choose p else false
theorem zkq {h:Heap}{p q:PyData}{u:Value}{as:List Addr}(r:Reads h u q as)(c:q.canLay0=true):eqRd h p u=PyData.eqv q p:=by
 have ex:∃q as,Reads h u q as/\q.canLay0=true:=⟨q,as,r,c⟩
 unfold eqRd
 rw[dif_pos ex]
 obtain⟨as',r',c'⟩:=ex.choose_spec
 rw[SeqAt.Reads.unique _ _ _ _ _ c r r']
theorem zih {ι:List Addr}{H:Hp}{S:R.St}{pins:List (Addr × Obj)}{σ:L2.St}{s:Shared}{A:Around}(I:Inv X pins σ H s)(hA:A.units+62<cLine)(hH:RH X.K ι H S){x:D}{px:PyData}{vx:V}{ux:Value}(hx:pd S 60 x=some px)(rx:RV X.K ι H x vx)(qx:RelV vx ux) :
  ∀{ds:List D} {vs:List V} {us:List Value} {bs:List Bool},RVs X.K ι H ds vs->Vals vs us->ds.mapM (fun z=>eqD S z x)=some bs->us.any (eqRd s.heap px)=bs.any id/\∀u∈us,SeqAt.EqAt A s u ux (eqRd s.heap px u):=by
 obtain⟨x1,x2,x3⟩:=zfG hH 60 x px vx hx rx
 obtain⟨asx,rdx⟩:=Rep.reads I px vx ux x1 qx
 intro ds
 induction ds with
 | nil =>
   intro vs us bs r rv h
   cases (show vs=[] from r)
   cases rv
   have h:bs=[]:=by simpa using h.symm
   subst h
   exact⟨rfl,fun u hu=>nomatch hu⟩
 | cons d ds ih =>
   intro vs us bs r rv h
   obtain⟨v,w,rfl,r1,r2⟩:=r
   obtain⟨b,rr,e,h2,rfl⟩:=zaI h
   cases rv with
   | cons q1 q2 =>
     rename_i u us'
     obtain⟨a,b',e1,e2,rfl⟩:=zfm e
     rw[hx] at e2;cases e2
     obtain⟨p1,p2,p3⟩:=zfG hH 60 d a v e1 r1
     obtain⟨as,rd⟩:=Rep.reads I a v u p1 q1
     have hq:=zkq (p:=px) rd p2
     obtain⟨i1,i2⟩:=ih r2 q2 h2
     refine⟨by simp[hq,i1],fun z hz=>?_⟩
     rcases List.mem_cons.mp hz with rfl|hz
     · rw[hq]
       exact SeqAt.eqAt_reads a px A s z ux as asx rd rdx p2 x2 (by omega)
     · exact i2 z hz
theorem ziM {ι:List Addr}{H:Hp}{S:R.St}(hH:RH X.K ι H S){d:D}{v:V}{ds:List D}(h:za7 S d=some ds)(r:RV X.K ι H d v):∃a xs,v=.ref a/\(SqL X.K H a xs\/SqT X.K H a xs)/\RVs X.K ι H ds xs:=by
 cases d with
 | tup es =>
   cases h
   obtain⟨a,xs,rfl,ha,rr⟩:=r
   exact⟨a,xs,rfl,.inr (SqT.of ha),rr⟩
 | fix es =>
   cases h
   obtain⟨a,xs,rfl,ha,rr⟩:=r
   exact⟨a,xs,rfl,.inl ha.sq,rr⟩
 | ref l =>
   simp only[za7] at h
   split at h
   · rename_i ds' e
     cases h
     obtain⟨a,h1,rfl⟩:=r
     obtain⟨a2,h2,xs,ha,rr⟩:=hH.obj _ _ e
     rw[h1] at h2;cases h2
     exact⟨a,xs,rfl,.inl (SqL.of ha),rr⟩
   · cases h
 |_=>cases h
theorem zmf {S:R.St}{x:D}{ys:List D}{k:Bool}(h:inD S x ys=some k):∃bs,ys.mapM (fun z=>eqD S z x)=some bs/\k=bs.any id:=by
 unfold inD at h
 cases e:ys.mapM (fun z=>eqD S z x) with
 |none=>rw[e] at h;cases h
 |some bs=>rw[e] at h;injection h with h;exact⟨bs,rfl,h.symm⟩
theorem zfa:∀(as bs:List Int),R.lexLt as bs=HT.lexLt as bs
 | [],[]=>by simp[R.lexLt,HT.lexLt]
 | [],_::_=>by simp[R.lexLt,HT.lexLt]
 |_::_,[]=>by simp[R.lexLt,HT.lexLt]
 |a::as,b::bs=>by simp[R.lexLt,HT.lexLt,zfa as bs]
theorem nonV {K:PySem.W.Frag}{ι:List Addr}{H:Hp}{d:D}{x:V}(hd:RV K ι H d x):decide (x=V.non)=zkg d:=by
 cases d with
 |non=>rw[show x=.non from hd];rfl
 |bl b=>rw[show x=.bl b from hd];rfl
 |int b=>rw[show x=.int b from hd];rfl
 |str b=>rw[show x=.str b from hd];rfl
 |tup b=>obtain⟨_,_,rfl,_⟩:=hd;rfl
 |ref b=>obtain⟨_,_,rfl⟩:=hd;rfl
 |fix b=>obtain⟨_,_,rfl,_⟩:=hd;rfl
 |clo b=>obtain⟨_,rfl,_⟩:=hd;rfl
theorem zja (hu:X.A.units+128<cLine)(op:CmpOp):OpR X (compareOp op) (rC2 X.K op):=by
 intro pins s σ H x y v u Qv I rx ry ⟨ι,S,d,e,k,hd,he,hH,hc,q⟩
 unfold cmpD at hc
 split at hc
 · rename_i i j
   obtain rfl:x=.int i:=hd
   obtain rfl:y=.int j:=he
   unfold cmpI at hc
   split at hc
   · cases hc;exact znk pins s σ H _ _ v u Qv I rx ry ⟨rfl,by simpa using q⟩
   · cases hc;exact znf pins s σ H _ _ v u Qv I rx ry ⟨rfl,by simpa using q⟩
   · cases hc;exact zng pins s σ H _ _ v u Qv I rx ry ⟨i,j,rfl,rfl,q⟩
   · cases hc;exact znh pins s σ H _ _ v u Qv I rx ry ⟨i,j,rfl,rfl,q⟩
   · cases hc;exact zni pins s σ H _ _ v u Qv I rx ry ⟨i,j,rfl,rfl,q⟩
   · cases hc;exact znj pins s σ H _ _ v u Qv I rx ry ⟨i,j,rfl,rfl,q⟩
   · cases hc
 · unfold cmpO at hc
   have isin:∀(k:Bool),((za7 S e).bind fun ys=>inD S d ys)=some k->∃a xs,y=.ref a/\(SqL X.K H a xs\/SqT X.K H a xs)/\∃(px:PyData),∀us,Vals xs us->us.any (eqRd s.heap px)=k/\∀z∈us,SeqAt.EqAt X.A.in1 s z v (eqRd s.heap px z):=by
    intro k h
    cases es:za7 S e with
    |none=>rw[es] at h;cases h
    | some ys =>
      rw[es] at h
      obtain⟨bs,hb,rfl⟩:=zmf (show inD S d ys=some k from h)
      obtain⟨a,xs,rfl,hq,rr⟩:=ziM hH es he
      refine⟨a,xs,rfl,hq,?_⟩
      cases hp:pd S 60 d with
      |some px=>exact⟨px,fun us hus=>zih I (show X.A.units+1+62<cLine by omega) hH hp hd rx rr hus hb⟩
      | none =>
        cases ys with
        | nil =>
          refine⟨.none,fun us hus=>?_⟩
          cases (show xs=[] from rr)
          cases hus
          have hb:bs=[]:=by simpa using hb.symm
          subst hb
          exact⟨rfl,fun z hz=>nomatch hz⟩
        | cons z zs =>
          obtain⟨b,r,h1,_⟩:=zaI hb
          obtain⟨_,_,_,h3,_⟩:=zfm h1
          rw[hp] at h3;cases h3
   split at hc
   · rcases zfn hH hd he hc with ⟨us,a,b,rfl,rfl,ha,hb,rfl⟩|hc
     · cases (show v=Value.ref a from rx)
       cases (show u=Value.ref b from ry)
       exact znG (by omega) I ha hb ⟨.bl true,H,I,rfl,q⟩
     obtain⟨a,b,h1,h2,rfl⟩:=zfm hc
     obtain⟨p1,p2,p3⟩:=zfG hH 60 d a x h1 hd
     obtain⟨q1,q2,q3⟩:=zfG hH 60 e b y h2 he
     exact zlX (by omega) pins s σ H x y v u Qv I rx ry ⟨a,b,p1,q1,p2,q2,by omega,q⟩
   · cases hk:zcc S d e with
     |none=>rw[hk] at hc;cases hc
     | some k' =>
       rw[hk] at hc
       rcases zfn hH hd he hk with ⟨us,a,b,rfl,rfl,ha,hb,rfl⟩|hk
       · cases (show v=Value.ref a from rx)
         cases (show u=Value.ref b from ry)
         have hc:k=false:=by simpa using hc.symm
         subst hc
         exact znF (by omega) I ha hb ⟨.bl false,H,I,rfl,q⟩
       obtain⟨a,b,h1,h2,rfl⟩:=zfm hk
       obtain⟨p1,p2,p3⟩:=zfG hH 60 d a x h1 hd
       obtain⟨q1,q2,q3⟩:=zfG hH 60 e b y h2 he
       have hc:k = !PyData.eqv a b:=by simpa using hc.symm
       subst hc
       exact zlS (by omega) pins s σ H x y v u Qv I rx ry ⟨a,b,p1,q1,p2,q2,by omega,q⟩
   · split at hc
     · obtain rfl:y=.non:=he
       cases hc
       obtain rfl:u=Value.none:=ry
       refine is_none_gen ⟨.bl _,H,I,rfl,?_⟩
       rw[rx.none_iff,nonV hd];exact q
     · rename_i b _
       split at hc
       · rename_i a _
         cases hc
         exact zlW pins s σ H _ _ v u Qv I rx ry ⟨a,b,hd,he,q⟩
       · cases hc
     · cases hc
   · split at hc
     · obtain rfl:y=.non:=he
       cases hc
       obtain rfl:u=Value.none:=ry
       refine isnot_none_gen ⟨.bl _,H,I,rfl,?_⟩
       rw[rx.none_iff,nonV hd];exact q
     · cases hc
   · rcases zfg hH hd he hc with ⟨a,o,rfl,g,rfl⟩|⟨a,kxs,kk,c,rfl,ha,tk,rfl,hk,rfl⟩|hc
     · cases (show u=Value.ref a from ry)
       exact d_in (by omega) I g rx fun s3 I3=>⟨.bl o.isSome,H,I3,rfl,q⟩
     · cases (show u=Value.ref a from ry)
       cases (show v=Value.ref c from rx)
       exact znH (by omega) I ha tk hk fun s3 I3=>⟨.bl _,H,I3,rfl,q⟩
     obtain⟨a,xs,rfl,hq,px,hp⟩:=isin _ hc
     cases (show u=Value.ref a from ry)
     rcases hq with hq|hq
     · obtain⟨its,r,pl,hz⟩:=I.list hq
       obtain⟨h1,h2⟩:=hp its r
       exact SeqAt.in_listAt (eqRd s.heap px) pl.isList (fun w hw=>h2 w (by simpa using hw)) (zao I q (by simpa using h1.symm))
     · obtain⟨its,r,pl,hz⟩:=I.tuple hq
       obtain⟨h1,h2⟩:=hp its r
       exact SeqAt.in_tupleAt (eqRd s.heap px) pl (fun w hw=>h2 w (by simpa using hw)) (zao I q (by simpa using h1.symm))
   · cases hk:zeD S d e with
     |none=>rw[hk] at hc;cases hc
     | some k' =>
       rw[hk] at hc
       have hc:k = !k':=by simpa using hc.symm
       subst hc
       rcases zfg hH hd he hk with ⟨a,o,rfl,g,rfl⟩|⟨a,kxs,kk,c,rfl,ha,tk,rfl,h3,rfl⟩|hk
       · cases (show u=Value.ref a from ry)
         exact zkt (by omega) I g rx fun s3 I3=>⟨.bl (!o.isSome),H,I3,rfl,q⟩
       · cases (show u=Value.ref a from ry)
         cases (show v=Value.ref c from rx)
         exact ziu (by omega) I ha tk h3 fun s3 I3=>⟨.bl _,H,I3,rfl,q⟩
       obtain⟨a,xs,rfl,hq,px,hp⟩:=isin k' hk
       cases (show u=Value.ref a from ry)
       rcases hq with hq|hq
       · obtain⟨its,r,pl,hz⟩:=I.list hq
         obtain⟨h1,h2⟩:=hp its r
         exact SeqAt.notIn_listAt (eqRd s.heap px) pl.isList (fun w hw=>h2 w (by simpa using hw)) (zao I q (by simpa using congrArg (!·) h1.symm))
       · obtain⟨its,r,pl,hz⟩:=I.tuple hq
         obtain⟨h1,h2⟩:=hp its r
         exact SeqAt.notIn_tupleAt (eqRd s.heap px) pl (fun w hw=>h2 w (by simpa using hw)) (zao I q (by simpa using congrArg (!·) h1.symm))
   · split at hc
     · rename_i xs ys _
       cases e1:zaT xs with
       |none=>rw[e1] at hc;cases hc
       | some ns =>
         cases e2:zaT ys with
         |none=>rw[e1,e2] at hc;cases hc
         | some ms =>
           rw[e1,e2] at hc
           have hc:k=lexLt ns ms:=by simpa using hc.symm
           subst hc
           obtain⟨a,us,rfl,ha,r1⟩:=hd
           obtain⟨b,ws,rfl,hb,r2⟩:=he
           rw[zbV e1] at r1
           rw[zbV e2] at r2
           rw[r1.ints_eq] at ha
           rw[r2.ints_eq] at hb
           exact zlV (by omega) pins s σ H _ _ v u Qv I rx ry ⟨a,b,ns,ms,rfl,rfl,SqT.of ha,SqT.of hb,by rw[<-zfa];exact q⟩
     · cases hc
   · cases hc
end
end R
end
section
namespace R
open PySem PySem.Spec PyProof.Rows L2
variable [Mks]
noncomputable def zav:Expr->Bool|.Starred _ _=>false|_=>true
noncomputable def zbs:Expr->Bool|.ListComp ..=>false|.SetComp ..=>false|.DictComp ..=>false|_=>true
noncomputable def zde:Expr->Bool|.Slice ..=>false|_=>true
noncomputable def zbF:Expr->Bool|.Set ..=>false|_=>true
noncomputable def zct:Expr->Bool|.Call (.Name _ _) [] [] _=>false|_=>true
noncomputable def ze3:Expr->Bool|.UnaryOp .Not _ _=>false|.BoolOp ..=>false|.IfExp ..=>false|.Compare ..=>false|_=>true
noncomputable def znP:Expr->Bool|.Tuple ..=>false|_=>true
theorem zau {e:Expr}(h:zav e=true)(es:List Expr)(env:Env):starEach (e::es) env=(false,eval e env)::starEach es env:=by
 cases e<;>first|rfl|cases h
theorem zem {e:Expr}(h:zbs e=true)(t:Option Expr)(l:Nat)(env:Env):swapsWith e t l env=pure false:=by
 cases e<;>first|rfl|cases h
theorem znt {e:Expr}(h:zde e=true):zhu e:=by
 intro o i
 cases e<;>first|rfl|cases h
theorem zgx {e:Expr}(h:zbF e=true)(op:CmpOp):behindInMarks op e=false:=by
 cases e<;>first|rfl|cases h
theorem zf5 {e:Expr}(h:zct e=true)(x:Str)(env:Env)(w:Sem Value):attributeBase e x env w=w:=by
 unfold attributeBase
 split
 · cases h
 · rfl
theorem zkW {e:Expr}(h:ze3 e=true)(env:Env)(w:Sem Value):isTrue e env w=(do let v <-w;standAt e.pos;holding [v] (truthy v)):=by
 cases e with
 |UnaryOp op x p=>cases op<;>first|rfl|cases h
 |_=>first|rfl|cases h
theorem zeE {e:Expr}(h:zbF e=true)(env:Env)(x:Value):foldedSetIterable e env x=pure x:=by
 cases e<;>first|rfl|cases h
theorem zbn {pos:Pos}{env:Env}:∀{es:List Expr},es.all zav=true->(backTo pos (starEach es env)).any (·.1)=false
 | [],_=>rfl
 | e :: es, h => by
   rw[List.all_cons,Bool.and_eq_true] at h
   rw[zau h.1]
   exact zbn (es:=es) h.2
structure Tab where
 blt:List Str
 cons:List (Str × D)
 fns:List (Str × List Str × Nat)
 cls:List Str:=[]
 flds:List Str:=[]
 mts:List (Nat × Str × Nat):=[]
 inits:List (Nat × Nat × Nat):=[]
 cms:List (Str × Str × Nat):=[]
 isas:List (Str × List Nat):=[]
noncomputable def zgQ (sc:Scope)(x:Str):Bool:=match sc.names.lookup x with|some .local=>true|some .cell=>true|some .free=>true|_=>false
noncomputable def zdX (sc:Scope)(x:Str):Bool:=match sc.names.lookup x with|some .local=>true|some .cell=>true|_=>false
noncomputable def isGl (sc:Scope)(x:Str):Bool:=match sc.names.lookup x with|some .globalImplicit=>true|_=>false
noncomputable def eqC:D->D->Bool
 |.non,.non=>true|.bl a,.bl b=>a == b|.int a,.int b=>a == b|.str a,.str b=>a == b|_,_=>false
theorem zmm:∀{d e:D},eqC d e=true->d=e:=by
 intro d e h
 cases d<;>cases e<;>first|rfl|(simp only[eqC,beq_iff_eq] at h;subst h;rfl)|cases h
noncomputable def sV:D->V
 |.non=>.non|.bl b=>.bl b|.int i=>.int i|.str x=>.str x|_=>.non
noncomputable def zhG:D->Bool
 |.non=>true|.bl _=>true|.int _=>true|.str _=>true|_=>false
theorem zm3 {K:PySem.W.Frag}{ι:List Addr}{H:Hp}{d:D}(h:zhG d=true):RV K ι H d (sV d):=by
 cases d<;>first|rfl|cases h
noncomputable def conB:D->Const->Bool
 |.non,.none=>true|.bl a,.bool b=>a == b|.int a,.int b=>a == b|.str a,.str b=>a == b|_,_=>false
noncomputable def bltB (T:Tab)(sc:Scope)(x:Str):Bool:=isGl sc x&&T.blt.contains x
noncomputable def spF (K:PySem.W.Frag)(cf:CF)(f:Nat):Sp:=fun vs H Qv _=>∃ι S ds,RVs K ι H ds vs/\RH K ι H S/\W (cf f ds S) (fun d T=>∀v H' ι',Ext ι H ι' H'->RV K ι' H' d v->RH K ι' H' T->Qv v H')
structure HasM (P:Program) (w:World) (K:PySem.W.Frag) (mg:Str->Option Value) (base:Heap) (k c:Nat) (m:Str) (sp:Sp):Prop where
 ex:∃(C fa:Addr) (fd:FuncData) (ps:List Str),Mks.cl[c]?=some C/\Cls K C/\Meth K C m fa/\FnOk P w K mg base CX0 k fa fd ps sp/\Binds K fd ps []
structure HasI (P:Program) (w:World) (K:PySem.W.Frag) (mg:Str->Option Value) (base:Heap) (k c j:Nat) (sp:Sp):Prop where
 ex:∃(C fa:Addr) (fd:FuncData) (ps:List Str),Mks.cl[c]?=some C/\Mk K C fa/\FnOk P w K mg base CX0 k fa fd ps sp/\Binds K fd ps (List.replicate j Value.none)
structure HasC (P:Program) (w:World) (K:PySem.W.Frag) (mg:Str->Option Value) (base:Heap) (k:Nat) (x m:Str) (sp:Sp):Prop where
 ex:∃(C fa:Addr) (fd:FuncData) (ps:List Str) (mc:Value),mg x=some (.ref C)/\PySem.W.specialIn K (.ref C) "__getattribute__"=some (some (.builtin "type.__getattribute__"))/\PySem.W.readsIn K C mc=true/\PySem.W.findCls K (.ref C) mc m=some (.val (.ref fa))/\
  PySem.W.keepIn K (.ref fa)=true/\FnOk P w K mg base CX0 k fa fd ps sp/\Binds K fd ps []
structure IsaOk (K:PySem.W.Frag) (C:Addr):Prop where
 ha:PySem.W.findIn K (.ref C) "__class__"=some (some (.builtin "object.__class__"))
 hn:PySem.W.specialIn K (.builtin "object.__class__") "__get__"=some (some (.builtin "getset_descriptor.__get__"))
 ht:PySem.W.takesIn K (.builtin "object.__class__")=some true
 hm:PySem.W.mroIn K C (.type "object")=some true
structure TabOk (T:Tab) (cf:CF) (k:Nat) (P:Program) (w:World) (K:PySem.W.Frag) (mg:Str->Option Value) (base:Heap):Prop where
 blt:∀x,T.blt.contains x=true->mg x=none
 con:∀x d,T.cons.lookup x=some d->zhG d=true/\∃u,mg x=some u/\RelV (sV d) u
 fns:∀f x ps nd,T.fns[f]?=some (x,ps,nd)->∀j,j<=nd->Has P w K mg base k x ps (List.replicate j .non) (spF K cf f)
 frm:CFok cf
 cls:∀(c:Nat) (x:Str),T.cls[c]?=some x->∃C,Mks.cl[c]?=some C/\Cls K C/\mg x=some (.ref C)/\∀f,T.flds.contains f=true->zhv K C f
 mth:∀(c:Nat) (m:Str) (fi:Nat),T.mts.contains (c,m,fi)=true->HasM P w K mg base k c m (spF K cf fi)
 ini:∀(c fi j:Nat),T.inits.contains (c,fi,j)=true->HasI P w K mg base k c j (spF K cf fi)
 cmd:∀(x m:Str) (fi:Nat),T.cms.contains (x,m,fi)=true->HasC P w K mg base k x m (spF K cf fi)
 cln:(T.flds≠[]\/T.inits≠[]\/T.isas≠[])->Mks.cl.length<=T.cls.length
 isa:∀(x:Str) (cs:List Nat),T.isas.contains (x,cs)=true->∃D,mg x=some (.ref D)/\∀c C,Mks.cl[c]?=some C->IsaOk K C/\PySem.W.kitOne K (.ref C) (.ref D)=some (cs.contains c)
structure Gd (T:Tab) (cf:CF) (k:Nat) (N:List Str) (sc:Scope) (X:Cx):Prop where
 nm:X.N=N
 nd:N.Nodup
 loc:∀x,sc.names.lookup x=some .local->X.env.scope.names.lookup x=some .local
 cell:∀x,sc.names.lookup x=some .cell->X.env.scope.names.lookup x=some .cell
 free:∀x,sc.names.lookup x=some .free->X.env.scope.names.lookup x=some .free\/X.env.scope.names.lookup x=some .cell
 glob:∀x,sc.names.lookup x=some .globalImplicit->X.env.scope.names.lookup x=some .globalImplicit
 fn:(∀x,X.fn x=true)\/∀x,sc.names.lookup x≠some .cell
 calm:X.calm=true
 xe:X.xe=fun _ _=>False
 room':Room (k+1) X.A
 tab:TabOk T cf k X.prog X.w X.K X.mg X.base
section
variable {T:Tab} {cf:CF} {k:Nat} {N:List Str} {sc:Scope} {X:Cx}
theorem Gd.room (G:Gd T cf k N sc X):Room k X.A:=G.room'.mono (Nat.le_succ k)
theorem Gd.hu (G:Gd T cf k N sc X):X.A.units+128<cLine:=by have:=G.room.un;omega
theorem Gd.vis (G:Gd T cf k N sc X){x:Str}(h:zgQ sc x=true):Vis X.env.scope x:=by
 unfold zgQ at h
 split at h
 · rename_i e;exact .inl (G.loc x e)
 · rename_i e;exact .inr (.inl (G.cell x e))
 · rename_i e
   rcases G.free x e with q|q
   · exact .inr (.inr q)
   · exact .inr (.inl q)
 · cases h
theorem Gd.lc (G:Gd T cf k N sc X){x:Str}(h:zdX sc x=true):Loc X.env.scope x/\(X.fn x=true\/X.env.scope.names.lookup x=some .local):=by
 unfold zdX at h
 split at h
 · rename_i e;exact⟨.inl (G.loc x e),.inr (G.loc x e)⟩
 · rename_i e
   refine⟨.inr (G.cell x e),?_⟩
   rcases G.fn with q|q
   · exact .inl (q x)
   · exact absurd e (q x)
 · cases h
theorem Gd.gl (G:Gd T cf k N sc X){x:Str}(h:isGl sc x=true):Gl X x:=by
 unfold isGl at h
 split at h
 · rename_i e;exact G.glob x e
 · cases h
end
noncomputable def RS (K:PySem.W.Frag)(ι:List Addr)(H:Hp)(δ:Ev)(σ:L2.St):Prop:=δ.length=σ.length/\∀(i:Nat) (d:D),δ[i]?=some (some d)->∃v,σ[i]?=some (some v)/\RV K ι H d v
theorem RS.ext {K:PySem.W.Frag}{ι ι':List Addr}{H H':Hp}{δ:Ev}{σ:L2.St}(h:RS K ι H δ σ)(x:Ext ι H ι' H'):RS K ι' H' δ σ:=
 ⟨h.1,fun i d e=>let ⟨v,e1,r⟩:=h.2 i d e;⟨v,e1,r.ext x⟩⟩
theorem RS.set {K:PySem.W.Frag}{ι:List Addr}{H:Hp}{δ:Ev}{σ:L2.St}(h:RS K ι H δ σ){d:D}{v:V}(r:RV K ι H d v)(i:Nat):RS K ι H (δ.set i (some d)) (σ.set i (some v)):=by
 refine⟨by simp[h.1],fun j e hj=>?_⟩
 by_cases hij:i=j
 · subst hij
   have hl:i<δ.length:=by
    have:=(List.getElem?_eq_some_iff.mp hj).1
    simpa using this
   rw[List.getElem?_set_self hl] at hj
   cases hj
   exact⟨v,List.getElem?_set_self (by rw[<-h.1];exact hl),r⟩
 · rw[List.getElem?_set_ne hij] at hj
   obtain⟨v',e1,r'⟩:=h.2 j e hj
   exact⟨v',by rw[List.getElem?_set_ne hij];exact e1,r'⟩
noncomputable def tE (K:PySem.W.Frag)(cf:CF)(ce:CE):TE:=fun σ H Qv=>∃δ ι S Q,RS K ι H δ σ/\RH K ι H S/\W (evE cf ce δ S) Q/\∀v H',Lf K ι H Q v H'->Qv v H'
noncomputable def LfB (K:PySem.W.Frag)(ι:List Addr)(H:Hp)(Q:Bool->R.St->Prop):Bool->Hp->Prop:=fun b H'=>∃ι' S',Ext ι H ι' H'/\RH K ι' H' S'/\Q b S'
noncomputable def tT (K:PySem.W.Frag)(cf:CF)(ce:CE):TT:=fun σ H Qv=>∃δ ι S Q,RS K ι H δ σ/\RH K ι H S/\W (evT cf ce δ S) Q/\∀b H',LfB K ι H Q b H'->Qv b H'
noncomputable def LfA (K:PySem.W.Frag)(ι:List Addr)(H:Hp)(Q:List D->R.St->Prop):List V->Hp->Prop:=fun vs H'=>∃ds ι' S',Ext ι H ι' H'/\RVs K ι' H' ds vs/\RH K ι' H' S'/\Q ds S'
noncomputable def tAs (K:PySem.W.Frag)(cf:CF)(ces:CEs):TA:=fun σ H Qv=>∃δ ι S Q,RS K ι H δ σ/\RH K ι H S/\W (evEs cf ces δ S) Q/\∀vs H',LfA K ι H Q vs H'->Qv vs H'
inductive SqK (K:PySem.W.Frag) (ι:List Addr) (H:Hp) (S:R.St) (a:Addr) (xs:List V) (ds:List D) (lks:List Nat):Prop where
 |tmp (h:a∉ι) (e:H a=some (.lst xs)):SqK K ι H S a xs ds lks
 |tup (e:H a=some (.tup xs)):SqK K ι H S a xs ds lks
 |fix (e:FixL K H a xs):SqK K ι H S a xs ds lks
 |own (l:Nat) (hl:l∈lks) (hi:ι[l]?=some a) (hs:S.get l=some (.lst ds)) (e:H a=some (.lst xs)):SqK K ι H S a xs ds lks
noncomputable def Sq (K:PySem.W.Frag)(ι:List Addr)(H:Hp)(S:R.St)(v:V)(ds:List D)(lks:List Nat):Prop:=∃a xs,v=.ref a/\RVs K ι H ds xs/\SqK K ι H S a xs ds lks
noncomputable def LfL (K:PySem.W.Frag)(ι:List Addr)(H:Hp)(Q:List D × List Nat->R.St->Prop):VK:=fun v H'=>∃ds lks ι' S',Ext ι H ι' H'/\Sq K ι' H' S' v ds lks/\RH K ι' H' S'/\Q (ds,lks) S'
noncomputable def tL (K:PySem.W.Frag)(cf:CF)(cl:CL):TE:=fun σ H Qv=>∃δ ι S Q,RS K ι H δ σ/\RH K ι H S/\W (evL cf cl δ S) Q/\∀v H',LfL K ι H Q v H'->Qv v H'
noncomputable def LfT (K:PySem.W.Frag)(ι:List Addr)(H:Hp)(Q:List D × List Nat->R.St->Prop):VK:=fun v H'=>∃ds ι' S' a xs,Ext ι H ι' H'/\v=.ref a/\RVs K ι' H' ds xs/\a∉ι'/\H' a=some (.lst xs)/\RH K ι' H' S'/\H a=none/\Q (ds,[]) S'
noncomputable def tLt (K:PySem.W.Frag)(cf:CF)(cl:CL):TE:=fun σ H Qv=>∃δ ι S Q,RS K ι H δ σ/\RH K ι H S/\W (evL cf cl δ S) Q/\∀v H',LfT K ι H Q v H'->Qv v H'
theorem LfT.l {K:PySem.W.Frag}{ι:List Addr}{H:Hp}{Q:List D × List Nat->R.St->Prop}{v:V}{H':Hp}(h:LfT K ι H Q v H'):LfL K ι H Q v H':=by
 obtain⟨ds,ι',S',a,xs,x,rfl,r,ha,e,hh,_,q⟩:=h
 exact⟨ds,[],ι',S',x,⟨a,xs,rfl,r,.tmp ha e⟩,hh,q⟩
theorem PE.imp {X:Cx}{e:Expr}{t t':TE}(h:PE X e t)(i:∀σ H Q,t' σ H Q->t σ H Q):PE X e t':=fun pins s σ H Q I q=>h pins s σ H Q I (i σ H Q q)
theorem PT.imp {X:Cx}{e:Expr}{t t':TT}(h:PT X e t)(i:∀σ H Q,t' σ H Q->t σ H Q):PT X e t':=fun pins s σ H Q I q=>h pins s σ H Q I (i σ H Q q)
theorem PW.imp {X:Cx}{e:Expr}{t t':TT}(h:PW X e t)(i:∀σ H Q,t' σ H Q->t σ H Q):PW X e t':=fun wh pins s σ H Q I q=>h wh pins s σ H Q I (i σ H Q q)
theorem PA.imp {X:Cx}{es:List Expr}{t t':TA}(h:PA X es t)(i:∀σ H Q,t' σ H Q->t σ H Q):PA X es t':=fun pos pins s σ H Q I q=>h pos pins s σ H Q I (i σ H Q q)
theorem tE.run {K:PySem.W.Frag}{cf:CF}{a:CE}{δ:Ev}{σ:L2.St}{ι:List Addr}{H:Hp}{S:R.St}{Q:D->R.St->Prop}{Qv:VK}(hs:RS K ι H δ σ)(hh:RH K ι H S)(w:W (evE cf a δ S) Q)
  (h:∀d v ι' H' S',Ext ι H ι' H'->RS K ι' H' δ σ->RH K ι' H' S'->RV K ι' H' d v->Q d S'->Qv v H'):tE K cf a σ H Qv:=
 ⟨δ,ι,S,Q,hs,hh,w,fun v H' ⟨d,ι',S',x,r,hh',q⟩=>h d v ι' H' S' x (hs.ext x) hh' r q⟩
theorem tT.run {K:PySem.W.Frag}{cf:CF}{a:CE}{δ:Ev}{σ:L2.St}{ι:List Addr}{H:Hp}{S:R.St}{Q:Bool->R.St->Prop}{Qv:Bool->Hp->Prop}(hs:RS K ι H δ σ)(hh:RH K ι H S)(w:W (evT cf a δ S) Q)
  (h:∀b ι' H' S',Ext ι H ι' H'->RS K ι' H' δ σ->RH K ι' H' S'->Q b S'->Qv b H'):tT K cf a σ H Qv:=
 ⟨δ,ι,S,Q,hs,hh,w,fun b H' ⟨ι',S',x,hh',q⟩=>h b ι' H' S' x (hs.ext x) hh' q⟩
theorem tAs.run {K:PySem.W.Frag}{cf:CF}{a:CEs}{δ:Ev}{σ:L2.St}{ι:List Addr}{H:Hp}{S:R.St}{Q:List D->R.St->Prop}{Qv:List V->Hp->Prop}(hs:RS K ι H δ σ)(hh:RH K ι H S)(w:W (evEs cf a δ S) Q)
  (h:∀ds vs ι' H' S',Ext ι H ι' H'->RS K ι' H' δ σ->RH K ι' H' S'->RVs K ι' H' ds vs->Q ds S'->Qv vs H'):tAs K cf a σ H Qv:=
 ⟨δ,ι,S,Q,hs,hh,w,fun v H' ⟨d,ι',S',x,r,hh',q⟩=>h d v ι' H' S' x (hs.ext x) hh' r q⟩
theorem PE.ofT {X:Cx}{e:Expr}{cf:CF}{cl:CL}(h:PE X e (tLt X.K cf cl)):PE X e (tL X.K cf cl):=
 PE.imp h fun σ H Qv ⟨δ,ι,S,Q,hs,hh,w,q⟩=>⟨δ,ι,S,Q,hs,hh,w,fun v H' l=>q v H' l.l⟩
theorem tLt.run {K:PySem.W.Frag}{cf:CF}{a:CL}{δ:Ev}{σ:L2.St}{ι:List Addr}{H:Hp}{S:R.St}{Q:List D × List Nat->R.St->Prop}{Qv:VK}(hs:RS K ι H δ σ)(hh:RH K ι H S)(w:W (evL cf a δ S) Q)
  (h:∀ds p xs ι' H' S',Ext ι H ι' H'->RS K ι' H' δ σ->RH K ι' H' S'->RVs K ι' H' ds xs->p∉ι'->H' p=some (.lst xs)->H p=none->Q (ds,[]) S'->Qv (.ref p) H'):tLt K cf a σ H Qv:=
 ⟨δ,ι,S,Q,hs,hh,w,fun v H' ⟨ds,ι',S',p,xs,x,e,r,hp,hx,hh',hn,q⟩=>e▸h ds p xs ι' H' S' x (hs.ext x) hh' r hp hx hn q⟩
theorem tL.run {K:PySem.W.Frag}{cf:CF}{a:CL}{δ:Ev}{σ:L2.St}{ι:List Addr}{H:Hp}{S:R.St}{Q:List D × List Nat->R.St->Prop}{Qv:VK}(hs:RS K ι H δ σ)(hh:RH K ι H S)(w:W (evL cf a δ S) Q)
  (h:∀ds lks v ι' H' S',Ext ι H ι' H'->RS K ι' H' δ σ->RH K ι' H' S'->Sq K ι' H' S' v ds lks->Q (ds,lks) S'->Qv v H'):tL K cf a σ H Qv:=
 ⟨δ,ι,S,Q,hs,hh,w,fun v H' ⟨ds,lks,ι',S',x,r,hh',q⟩=>h ds lks v ι' H' S' x (hs.ext x) hh' r q⟩
end R
end
section
namespace R
open PySem PySem.Spec PyProof.Rows L2
variable [Mks]
section
variable {T:Tab} {cf:CF} {k:Nat} {N:List Str} {sc:Scope} {X:Cx} {pos:Pos}
theorem zfU {α:Type}{o:Out α}{Q:α->R.St->Prop}(h:W o Q):∃a S,o=.ok a S/\Q a S:=W.iff.mp h
theorem za6 {α:Type}{S:R.St}{o:Option α}{Q:α->R.St->Prop}(h:W (lift S o) Q):∃a,o=some a/\Q a S:=by
 cases o with
 |none=>exact h.elim
 |some a=>exact⟨a,rfl,h⟩
theorem ziO (G:Gd T cf k N sc X){i:Nat}{x:Str}(h1:N[i]?=some x)(h2:zgQ sc x=true)(h3:(x == ("__debug__":Str))=false)(h4:(x == ("__classdict__":Str))=false):PE X (.Name x pos) (tE X.K cf (.loc i)):=by
 refine PE.imp (zcr (i:=i) (by rw[G.nm];exact h1) (G.vis h2) h3 h4) fun σ H Qv ⟨δ,ι,S,Q,hs,hh,w,q⟩=>?_
 simp only[evE] at w
 obtain⟨d,e,hq⟩:=za6 w
 have e':δ[i]?=some (some d):=by
  cases z:δ[i]? with
  |none=>rw[z] at e;cases e
  |some o=>rw[z] at e;simp at e;rw[e]
 obtain⟨v,ev,r⟩:=hs.2 i d e'
 exact⟨v,ev,q v H (Lf.of hh r hq)⟩
theorem zli {d:D}{c:Const}{j:Nat}(h:conB d c=true):PE X (.Constant c j pos) (tE X.K cf (.con d)):=by
 have key:∀{v:V},PE X (.Constant c j pos) (tC v)->(∀K ι H,RV K ι H d v)->PE X (.Constant c j pos) (tE X.K cf (.con d)):=fun {v} hp hr=>
  PE.imp hp fun σ H Qv ⟨δ,ι,S,Q,hs,hh,w,q⟩=>q v H (Lf.of hh (hr _ _ _) (by simpa[evE] using w))
 cases d<;>cases c<;>first
  |exact key zlF fun _ _ _=>rfl
  |cases h
  |(simp only[conB,beq_iff_eq] at h;subst h;exact key zlH fun _ _ _=>rfl)
  |(simp only[conB,beq_iff_eq] at h;subst h;exact key znd fun _ _ _=>rfl)
  |(simp only[conB,beq_iff_eq] at h;subst h;exact key zlD fun _ _ _=>rfl)
theorem zjw (G:Gd T cf k N sc X){d d':D}{x:Str}(h1:isGl sc x=true)(h2:T.cons.lookup x=some d')(h3:eqC d' d=true)(h4:(x == ("__debug__":Str))=false):PE X (.Name x pos) (tE X.K cf (.con d)):=by
 have e:=zmm h3
 subst e
 obtain⟨hsc,u,hu,r⟩:=G.tab.con x d' h2
 exact PE.imp (zjX (G.gl h1) hu r h4) fun σ H Qv ⟨δ,ι,S,Q,hs,hh,w,q⟩=>q (sV d') H (Lf.of hh (zm3 hsc) (by simpa[evE] using w))
theorem zll {ca cb:CE}{a b:Expr}{op:Operator}(ha:PE X a (tE X.K cf ca))(hb:PE X b (tE X.K cf cb)):PE X (.BinOp a op b pos) (tE X.K cf (.bin op ca cb)):=by
 refine PE.imp (zna (zmu op) ha hb) fun σ H Qv ⟨δ,ι,S,Q,hs,hh,w,q⟩=>?_
 simp only[evE,zac] at w
 refine tE.run hs hh w fun d v ι1 H1 S1 x1 hs1 hh1 r1 w1=>tE.run hs1 hh1 w1 fun e u ι2 H2 S2 x2 hs2 hh2 r2 w2=>?_
 exact⟨ι2,S2,d,e,Q,r1.ext x2,r2,hh2,w2,fun z H3 l=>q z H3 (Lf.up (x1.trans x2) l)⟩
theorem zld {ca:CE}{a:Expr}(ha:PE X a (tE X.K cf ca)):PE X (.UnaryOp .USub a pos) (tE X.K cf (.neg ca)):=by
 refine PE.imp (zm8 zkT ha) fun σ H Qv ⟨δ,ι,S,Q,hs,hh,w,q⟩=>?_
 simp only[evE,zac] at w
 refine tE.run hs hh w fun d v ι1 H1 S1 x1 hs1 hh1 r1 w1=>?_
 cases d with
 | int i =>
   obtain rfl:v=.int i:=r1
   exact⟨i,rfl,q _ _ (Lf.up x1 (Lf.of (d:=.int (-i)) hh1 rfl w1))⟩
 |_=>exact w1.elim
theorem zmZ {ca:CE}{a:Expr}(ha:PE X a (tE X.K cf ca)):PE X (.UnaryOp .Not a pos) (tE X.K cf (.nt ca)):=by
 refine PE.imp (zlE ha) fun σ H Qv ⟨δ,ι,S,Q,hs,hh,w,q⟩=>?_
 simp only[evE,zac] at w
 refine tE.run hs hh w fun d v ι1 H1 S1 x1 hs1 hh1 r1 w1=>?_
 cases d with
 | bl i =>
   obtain rfl:v=.bl i:=r1
   exact⟨i,rfl,q _ _ (Lf.up x1 (Lf.of (d:=.bl (!i)) hh1 rfl w1))⟩
 |_=>exact w1.elim
theorem zlj (G:Gd T cf k N sc X){ca cb:CE}{a b:Expr}{op:CmpOp}(ha:PE X a (tE X.K cf ca))(hb:PE X b (tE X.K cf cb))(hm:zbF b=true):PE X (.Compare a [op] [b] pos) (tE X.K cf (.cmp op ca cb)):=by
 refine PE.imp (zjY (zja G.hu op) ha hb (zgx hm op)) fun σ H Qv ⟨δ,ι,S,Q,hs,hh,w,q⟩=>?_
 simp only[evE,zac] at w
 refine tE.run hs hh w fun d v ι1 H1 S1 x1 hs1 hh1 r1 w1=>tE.run hs1 hh1 w1 fun e u ι2 H2 S2 x2 hs2 hh2 r2 w2=>?_
 obtain⟨b,hb,w3⟩:=za6 w2
 exact⟨ι2,S2,d,e,b,r1.ext x2,r2,hh2,hb,q _ _ (Lf.up (x1.trans x2) (Lf.of (d:=.bl b) hh2 rfl w3))⟩
theorem zk3 (G:Gd T cf k N sc X){ca cb:CE}{a b:Expr}{op:CmpOp}(ha:PE X a (tE X.K cf ca))(hb:PE X b (tE X.K cf cb))(hm:zbF b=true):PT X (.Compare a [op] [b] pos) (tT X.K cf (.cmp op ca cb)):=by
 refine PT.imp (zjN (zja G.hu op) ha hb (zgx hm op)) fun σ H Qv ⟨δ,ι,S,Q,hs,hh,w,q⟩=>?_
 simp only[evT,zac] at w
 refine tE.run hs hh w fun d v ι1 H1 S1 x1 hs1 hh1 r1 w1=>tE.run hs1 hh1 w1 fun e u ι2 H2 S2 x2 hs2 hh2 r2 w2=>?_
 obtain⟨b,hb,w3⟩:=za6 w2
 exact⟨ι2,S2,d,e,b,r1.ext x2,r2,hh2,hb,b,rfl,q _ _ ⟨ι2,S2,x1.trans x2,hh2,w3⟩⟩
theorem ziP {ca cb:CE}{a b:Expr}{rest:List Expr}(ha:PE X a (tE X.K cf ca))(hb:PE X (.BoolOp .And (b::rest) pos) (tE X.K cf cb)):PE X (.BoolOp .And (a::b::rest) pos) (tE X.K cf (.and ca cb)):=by
 refine PE.imp (zlL ha hb) fun σ H Qv ⟨δ,ι,S,Q,hs,hh,w,q⟩=>?_
 simp only[evE,zac] at w
 refine tE.run hs hh w fun d v ι1 H1 S1 x1 hs1 hh1 r1 w1=>?_
 cases d with
 | bl c =>
   obtain rfl:v=.bl c:=r1
   refine⟨c,rfl,?_⟩
   cases c with
   |false=>exact q _ _ (Lf.up x1 (Lf.of (d:=.bl false) hh1 rfl w1))
   |true=>exact⟨δ,ι1,S1,Q,hs1,hh1,w1,fun z H3 l=>q z H3 (Lf.up x1 l)⟩
 |_=>exact w1.elim
theorem zlc {ca cb:CE}{a b:Expr}{rest:List Expr}(ha:PE X a (tE X.K cf ca))(hb:PE X (.BoolOp .Or (b::rest) pos) (tE X.K cf cb)):PE X (.BoolOp .Or (a::b::rest) pos) (tE X.K cf (.or ca cb)):=by
 refine PE.imp (zm9 ha hb) fun σ H Qv ⟨δ,ι,S,Q,hs,hh,w,q⟩=>?_
 simp only[evE,zac] at w
 refine tE.run hs hh w fun d v ι1 H1 S1 x1 hs1 hh1 r1 w1=>?_
 cases d with
 | bl c =>
   obtain rfl:v=.bl c:=r1
   refine⟨c,rfl,?_⟩
   cases c with
   |true=>exact q _ _ (Lf.up x1 (Lf.of (d:=.bl true) hh1 rfl w1))
   |false=>exact⟨δ,ι1,S1,Q,hs1,hh1,w1,fun z H3 l=>q z H3 (Lf.up x1 l)⟩
 |_=>exact w1.elim
theorem LfB.up {K:PySem.W.Frag}{ι ι':List Addr}{H H':Hp}{Q:Bool->R.St->Prop}{b:Bool}{H2:Hp}(x:Ext ι H ι' H')(h:LfB K ι' H' Q b H2):LfB K ι H Q b H2:=by
 obtain⟨ι2,S2,x2,r⟩:=h
 exact⟨ι2,S2,x.trans x2,r⟩
theorem ziJ {ca cb:CE}{a b:Expr}{rest:List Expr}(ha:PT X a (tT X.K cf ca))(hb:PW X (.BoolOp .And (b::rest) pos) (tT X.K cf cb)):PW X (.BoolOp .And (a::b::rest) pos) (tT X.K cf (.and ca cb)):=by
 refine PW.imp (zlw ha hb) fun σ H Qv ⟨δ,ι,S,Q,hs,hh,w,q⟩=>?_
 simp only[evT,zac] at w
 refine tT.run hs hh w fun c ι1 H1 S1 x1 hs1 hh1 w1=>?_
 cases c with
 |false=>exact q _ _ ⟨ι1,S1,x1,hh1,w1⟩
 |true=>exact⟨δ,ι1,S1,Q,hs1,hh1,w1,fun z H3 l=>q z H3 (LfB.up x1 l)⟩
theorem zk2 {ca cb:CE}{a b:Expr}{rest:List Expr}(ha:PT X a (tT X.K cf ca))(hb:PW X (.BoolOp .Or (b::rest) pos) (tT X.K cf cb)):PW X (.BoolOp .Or (a::b::rest) pos) (tT X.K cf (.or ca cb)):=by
 refine PW.imp (zm6 ha hb) fun σ H Qv ⟨δ,ι,S,Q,hs,hh,w,q⟩=>?_
 simp only[evT,zac] at w
 refine tT.run hs hh w fun c ι1 H1 S1 x1 hs1 hh1 w1=>?_
 cases c with
 |true=>exact q _ _ ⟨ι1,S1,x1,hh1,w1⟩
 |false=>exact⟨δ,ι1,S1,Q,hs1,hh1,w1,fun z H3 l=>q z H3 (LfB.up x1 l)⟩
theorem zmW {ca:CE}{a:Expr}(ha:PT X a (tT X.K cf ca)):PT X (.UnaryOp .Not a pos) (tT X.K cf (.nt ca)):=by
 refine PT.imp (zlx ha) fun σ H Qv ⟨δ,ι,S,Q,hs,hh,w,q⟩=>?_
 simp only[evT,zac] at w
 exact tT.run hs hh w fun c ι1 H1 S1 x1 hs1 hh1 w1=>q _ _ ⟨ι1,S1,x1,hh1,w1⟩
theorem zkX {ι:List Addr}{H:Hp}{S:R.St}{d:D}{v:V}{b:Bool}(hh:RH X.K ι H S)(r:RV X.K ι H d v)(h:tru S d=some b):TruV X.K v H b:=by
 cases d with
 |non=>obtain rfl:v=.non:=r;cases h;rfl
 |bl c=>obtain rfl:v=.bl c:=r;cases h;rfl
 |int i=>obtain rfl:v=.int i:=r;cases h;rfl
 | tup ds =>
   obtain⟨a,xs,rfl,ha,rr⟩:=r
   cases h
   refine .inr (.inl ⟨xs,SqT.of ha,?_⟩)
   have:=rr.length
   cases ds<;>cases xs<;>first|rfl|simp at this
 | ref l =>
   simp only[tru] at h
   split at h
   · rename_i ds e
     cases h
     obtain⟨a,h1,rfl⟩:=r
     obtain⟨a2,h2,xs,ha,rr⟩:=hh.obj _ _ e
     rw[h1] at h2;cases h2
     refine .inl ⟨xs,SqL.of ha,?_⟩
     have:=rr.length
     cases ds<;>cases xs<;>first|rfl|simp at this
   · cases h
 |_=>cases h
theorem zk1 {ca:CE}{a:Expr}(ha:PE X a (tE X.K cf ca))(hp:ze3 a=true):PT X a (tT X.K cf (.tst ca)):=by
 refine PT.imp (zhS ha (zkW hp X.env)) fun σ H Qv ⟨δ,ι,S,Q,hs,hh,w,q⟩=>?_
 simp only[evT,zac] at w
 refine tE.run hs hh w fun d v ι1 H1 S1 x1 hs1 hh1 r1 w1=>?_
 obtain⟨b,hb,w2⟩:=za6 w1
 exact⟨b,zkX hh1 r1 hb,q _ _ ⟨ι1,S1,x1,hh1,w2⟩⟩
theorem ziR:PA X [] (tAs X.K cf .nil):=PA.imp ze5 fun σ H Qv ⟨δ,ι,S,Q,hs,hh,w,q⟩=>q [] H ⟨[],ι,S,Ext.refl _ _,rfl,hh,by simpa[evEs] using w⟩
theorem zf7 {ce:CE}{ces:CEs}{e:Expr}{es:List Expr}(he:PE X e (tE X.K cf ce))(hes:PA X es (tAs X.K cf ces))(hn:zav e=true):PA X (e::es) (tAs X.K cf (.cons ce ces)):=by
 refine PA.imp (zbr he hes (zau hn es X.env)) fun σ H Qv ⟨δ,ι,S,Q,hs,hh,w,q⟩=>?_
 simp only[evEs,zac] at w
 refine tE.run hs hh w fun d v ι1 H1 S1 x1 hs1 hh1 r1 w1=>tAs.run hs1 hh1 w1 fun ds vs ι2 H2 S2 x2 hs2 hh2 r2 w2=>?_
 exact q _ _ ⟨d::ds,ι2,S2,x1.trans x2,⟨v,vs,rfl,r1.ext x2,r2⟩,hh2,w2⟩
theorem zlb {ces:CEs}{es:List Expr}{j:Nat}(h:PA X es (tAs X.K cf ces)):PE X (.Tuple es j pos) (tE X.K cf (.tup ces)):=by
 refine PE.imp (ziZ h) fun σ H Qv ⟨δ,ι,S,Q,hs,hh,w,q⟩=>?_
 simp only[evE,zac] at w
 refine tAs.run hs hh w fun ds vs ι1 H1 S1 x1 hs1 hh1 r1 w1=>?_
 split at w1
 · rename_i c
   exact⟨by rw[r1.length,sizeLine_eq];exact c,fun p hp=>q _ _ (Lf.up x1 (Lf.tup hh1 hp r1 w1))⟩
 · exact w1.elim
theorem zlg {ces:CEs}{es:List Expr}(h:PA X es (tAs X.K cf ces)):PE X (.List es pos) (tE X.K cf (.lst ces)):=by
 refine PE.imp (zlG h) fun σ H Qv ⟨δ,ι,S,Q,hs,hh,w,q⟩=>?_
 simp only[evE,zac] at w
 refine tAs.run hs hh w fun ds vs ι1 H1 S1 x1 hs1 hh1 r1 w1=>?_
 obtain⟨c,w2⟩:=zcy w1
 exact⟨by rw[r1.length];exact c,fun p hp=>q _ _ (Lf.up x1 (Lf.lst hh1 hp r1 w2))⟩
theorem zns {ι:List Addr}{H:Hp}{S:R.St}{d:D}{v:V}{ds:List D}{i:Int}{e:D}(hh:RH X.K ι H S)(r:RV X.K ι H d v)(hq:za7 S d=some ds)(ha:R.atI ds i=some e):∃u,rIx X.K v (.int i) H (fun z H'=>z=u/\H'=H)/\RV X.K ι H e u:=by
 obtain⟨a,xs,rfl,hx,rr⟩:=ziM hh hq r
 have hl:=rr.length
 have key:∃u,L2.atI xs i=some u/\RV X.K ι H e u:=by
  unfold R.atI at ha
  cases e1:R.ixN ds.length i with
  |none=>rw[e1] at ha;cases ha
  | some j =>
    rw[e1] at ha
    obtain⟨u,h1,h2⟩:=rr.get (show ds[j]?=some e from ha)
    refine⟨u,?_,h2⟩
    unfold L2.atI
    have:L2.ixN xs.length i=some j:=by rw[hl];exact e1
    rw[this];exact h1
 obtain⟨u,h1,h2⟩:=key
 refine⟨u,?_,h2⟩
 rcases hx with hx|hx
 · exact .inl ⟨a,xs,i,u,rfl,rfl,hx,h1,rfl,rfl⟩
 · exact .inr (.inl ⟨a,xs,i,u,rfl,rfl,hx,h1,rfl,rfl⟩)
theorem zjH {K:PySem.W.Frag}{x y u:V}{H:Hp}{Q:VK}(h:rIx K x y H (fun z H'=>z=u/\H'=H))(q:Q u H):rIx K x y H Q:=by
 rcases h with ⟨p,xs,i,v,h1,h2,h3,h4,rfl,_⟩|⟨p,xs,i,v,h1,h2,h3,h4,rfl,_⟩|⟨z,i,c,h1,h2,h3,h4,h5,_⟩
 · exact .inl ⟨p,xs,i,v,h1,h2,h3,h4,q⟩
 · exact .inr (.inl ⟨p,xs,i,v,h1,h2,h3,h4,q⟩)
 · exact .inr (.inr ⟨z,i,c,h1,h2,h3,h4,by rw[h5];exact q⟩)
theorem zm1 {ca cb:CE}{a b:Expr}(ha:PE X a (tE X.K cf ca))(hb:PE X b (tE X.K cf cb))(hp:zde b=true):PE X (.Subscript a b pos) (tE X.K cf (.ix ca cb)):=by
 refine PE.imp (znb zme ha hb (znt hp)) fun σ H Qv ⟨δ,ι,S,Q,hs,hh,w,q⟩=>?_
 simp only[evE,zac] at w
 refine tE.run hs hh w fun d v ι1 H1 S1 x1 hs1 hh1 r1 w1=>tE.run hs1 hh1 w1 fun e u ι2 H2 S2 x2 hs2 hh2 r2 w2=>?_
 split at w2
 · rename_i ds i eq
   obtain⟨z,hz,w3⟩:=za6 w2
   obtain rfl:u=.int i:=r2
   obtain⟨u,h1,h2⟩:=zns hh2 (r1.ext x2) eq hz
   exact zjH h1 (q _ _ (Lf.up (x1.trans x2) (Lf.of hh2 h2 w3)))
 · exact w2.elim
end
end R
end
section
namespace R
open PySem PySem.Spec PyProof.Rows L2
variable [Mks]
section
variable {K:PySem.W.Frag} {ι ι':List Addr} {H H':Hp} {S T:R.St} {d:D} {v:V}
theorem zkn {l:Nat}{o:MO}(hf:T.frz=S.frz++S.new)(h:S.get l=some o):T.get l=some o:=by
 obtain⟨f,n,k⟩:=T
 have hf:f=S.frz++S.new:=hf
 subst hf
 exact zkm h n k
theorem RH.cut (hh:RH K ι H S)(x:Ext ι H ι' H')(hT:RH K ι' H' T)(hf:T.frz=S.frz++S.new):RH K ι H' S:=by
 refine⟨hh.len,hh.nd,fun l o e=>?_,hT.tab⟩
 obtain⟨a,h1,h2⟩:=hh.obj l o e
 obtain⟨b,h3,h4⟩:=hT.obj l o (zkn hf e)
 rw[zbh x.pre h1] at h3;cases h3
 refine⟨a,h1,?_⟩
 cases o with
 | lst ds =>
   obtain⟨xs,_,r1⟩:=h2
   obtain⟨ys,e2,r2⟩:=h4
   exact⟨ys,e2,r2.restrict x.pre r1.flats⟩
 | dic kvs =>
   obtain⟨_,ws,_,r1⟩:=h2
   obtain⟨nd,ys,e2,r2⟩:=h4
   exact⟨nd,ys,e2,r2.restrict x.pre r1.flats⟩
 | ins c fs =>
   obtain⟨_,_,ws,_,_,r1⟩:=h2
   obtain⟨C,dx,ys,e0,e2,r2⟩:=h4
   exact⟨C,dx,ys,e0,e2,r2.restrict x.pre r1.flats⟩
 | dtp kvs =>
   obtain⟨_,ws,_,r1⟩:=h2
   obtain⟨nd,ys,e2,r2⟩:=h4
   exact⟨nd,ys,e2,r2.restrict x.pre r1.flats⟩
 | d3 kvs =>
   obtain⟨_,ws,_,r1⟩:=h2
   obtain⟨nd,ys,e2,r2⟩:=h4
   exact⟨nd,ys,e2,r2.restrict x.pre r1.flats⟩
theorem Ext.cut (x:Ext ι H ι' H'):Ext ι H ι H':=⟨List.prefix_refl _,x.kp,fun a o h e=>⟨(x.rest a o h e).1,h⟩⟩
theorem zgk {l:Nat}{a:Addr}(hp:ι <+: ι')(nd:ι'.Nodup)(hl:ι'[l]?=some a)(h:ι.length<=l):a∉ι:=fun hm=>by
 obtain⟨t,rfl⟩:=hp
 rw[List.getElem?_append_right h] at hl
 have h2:=List.mem_of_getElem? hl
 exact (List.nodup_append.mp nd).2.2 a hm a h2 rfl
theorem zeG {l:Nat}{a:Addr}(x:Ext ι H ι' H')(nd:ι'.Nodup)(hl:ι'[l]?=some a)(h:ι.length<=l):Ext ι H (ι++[a]) H':=by
 refine⟨List.prefix_append _ _,x.kp,fun b o hb e=>⟨(x.rest b o hb e).1,fun z=>?_⟩⟩
 rcases List.mem_append.mp z with z|z
 · exact hb z
 · simp at z
   subst z
   exact (x.rest b o hb e).2 (List.mem_of_getElem? hl)
theorem RH.one {l:Nat}{a:Addr}{o:MO}(hh:RH K ι H' S)(nd:a∉ι)(ho:RO K (ι++[a]) H' a o):RH K (ι++[a]) H' (S.push o):=by
 refine⟨by rw[List.length_append,hh.len,zcd];rfl,?_,fun l o' e=>?_,hh.tab⟩
 · rw[List.nodup_append]
   refine⟨hh.nd,by simp,fun b hb c hc=>?_⟩
   simp at hc;subst hc
   exact fun z=>nd (z▸hb)
 · by_cases hl:l<S.len
   · rw[zcC hl] at e
     obtain⟨b,h1,h2⟩:=hh.obj l o' e
     exact⟨b,zbh (List.prefix_append _ _) h1,h2.up (List.prefix_append _ _) (Kp.refl _) rfl⟩
   · have hl2:=zaD e
     rw[zcd] at hl2
     have:l=S.len:=by omega
     subst this
     rw[zfh] at e;cases e
     exact⟨a,by rw[<-hh.len];simp,ho⟩
theorem RH.keep (hT:RH K ι' H' T)(hf:T.frz=S.frz++S.new):RH K ι' H' ⟨S.frz,S.new++T.new,S.lk⟩:=by
 have hg:∀l,(R.St.mk S.frz (S.new++T.new) S.lk).get l=T.get l:=fun l=>by
  unfold St.get
  rw[hf]
  simp only[List.length_append]
  by_cases h1:l<S.frz.length
  · rw[if_pos h1,if_pos (by omega),List.getElem?_append_left h1]
  · by_cases h2:l<S.frz.length+S.new.length
    · rw[if_neg h1,if_pos h2,List.getElem?_append_left (by omega),List.getElem?_append_right (by omega)]
    · rw[if_neg h1,if_neg h2,List.getElem?_append_right (by omega)]
      congr 1;omega
 refine⟨?_,hT.nd,fun l o e=>hT.obj l o (by rw[<-hg];exact e),hT.tab⟩
 rw[hT.len]
 unfold St.len
 rw[hf]
 simp only[List.length_append]
 omega
theorem zfb {Q:D->R.St->Prop}(hh:RH K ι H S)(x:Ext ι H ι' H')(r:RV K ι' H' d v)(hT:RH K ι' H' T)(hf:T.frz=S.frz++S.new)(w:W (zb3 S d T) Q):Lf K ι H Q v H':=by
 have hc:=hh.cut x hT hf
 unfold zb3 at w
 split at w
 · rename_i c
   rw[<-hh.len] at c
   exact⟨d,ι,S,x.cut,r.restrict x.pre c,hc,w⟩
 · rename_i c
   dsimp only at w
   split at w
   · rename_i l
     obtain⟨a,h1,rfl⟩:=id r
     have hl:ι.length<=l:=by
      simp only[R.flat,decide_eq_true_eq] at c
      rw[hh.len];omega
     have ha:=zgk x.pre hT.nd h1 hl
     split at w
     · rename_i ds e
       obtain⟨b,h2,h3⟩:=hT.obj l _ e
       rw[h1] at h2;cases h2
       split at w
       · rename_i c2
         rw[<-hh.len] at c2
         obtain⟨ys,e2,r2⟩:=h3
         refine⟨.ref S.len,ι++[a],S.push (.lst ds),zeG x hT.nd h1 hl,⟨a,by rw[<-hh.len];simp,rfl⟩,hc.one (l:=l) ha ⟨ys,e2,(r2.restrict x.pre c2).up (List.prefix_append _ _) (Kp.refl _)⟩,w⟩
       · exact⟨_,ι',_,x,r,hT.keep hf,w⟩
     · rename_i kvs e
       obtain⟨b,h2,h3⟩:=hT.obj l _ e
       rw[h1] at h2;cases h2
       split at w
       · rename_i c2
         rw[<-hh.len] at c2
         obtain⟨nd,ys,e2,r2⟩:=h3
         refine⟨.ref S.len,ι++[a],S.push (.dic kvs),zeG x hT.nd h1 hl,⟨a,by rw[<-hh.len];simp,rfl⟩,hc.one (l:=l) ha ⟨nd,ys,e2,(r2.restrict x.pre c2).up (List.prefix_append _ _) (Kp.refl _)⟩,w⟩
       · exact⟨_,ι',_,x,r,hT.keep hf,w⟩
     · rename_i kvs e
       obtain⟨b,h2,h3⟩:=hT.obj l _ e
       rw[h1] at h2;cases h2
       split at w
       · rename_i c2
         rw[<-hh.len] at c2
         obtain⟨nd,ys,e2,r2⟩:=h3
         refine⟨.ref S.len,ι++[a],S.push (.dtp kvs),zeG x hT.nd h1 hl,⟨a,by rw[<-hh.len];simp,rfl⟩,hc.one (l:=l) ha ⟨nd,ys,e2,(r2.restrict x.pre c2).up (List.prefix_append _ _) (Kp.refl _)⟩,w⟩
       · exact⟨_,ι',_,x,r,hT.keep hf,w⟩
     · exact⟨_,ι',_,x,r,hT.keep hf,w⟩
   · exact⟨_,ι',_,x,r,hT.keep hf,w⟩
end
section
variable {T:Tab} {cf:CF} {k:Nat} {N:List Str} {sc:Scope} {X:Cx} {pos p:Pos}
theorem RVs.nons {K:PySem.W.Frag}{ι:List Addr}{H:Hp}:∀j:Nat,RVs K ι H (List.replicate j .non) (List.replicate j .non)
 |0=>rfl
 |j+1=>⟨.non,List.replicate j .non,rfl,rfl,RVs.nons j⟩
theorem RH.enter {K:PySem.W.Frag}{ι:List Addr}{H:Hp}{S:R.St}(h:RH K ι H S):RH K ι H S.enter:=⟨by rw[enter_len];exact h.len,h.nd,fun l o e=>h.obj l o (by rw[zap] at e;exact e),h.tab⟩
theorem zhn {f j:Nat}{ces:CEs}{σ:L2.St}{H:Hp}{Qv:VK}(hfr:CFok cf)(h:tE X.K cf (.call f j ces) σ H Qv) :
  zf4 (spF X.K cf f) (List.replicate j .non) E0 (tAs X.K cf ces) σ H Qv:=by
 obtain⟨δ,ι,S,Q,hs,hh,w,q⟩:=h
 simp only[evE,zac] at w
 refine tAs.run hs hh w fun ds vs ι1 H1 S1 x1 hs1 hh1 r1 w1=>?_
 unfold app at w1
 rw[zac] at w1
 refine⟨ι1,S1.enter,ds++List.replicate j .non,r1.append (RVs.nons j),hh1.enter,?_⟩
 obtain⟨d,T',e,w2⟩:=zfU w1
 rw[e]
 exact fun v H' ι' x r hT=>q v H' (Lf.up x1 (zfb hh1 x r hT (hfr _ _ _ _ _ e).frz w2))
theorem zho {K:PySem.W.Frag}{ι ι1:List Addr}{H H1:Hp}{S1:R.St}{a:Addr}(hh:RH K ι1 H1 S1)(x:Ext ι H ι1 H1)(hn:H1 a=none):H a=none:=by
 cases e:H a with
 |none=>rfl
 | some o =>
   by_cases hm:a∈ι
   · have h2:a∈ι1:=by obtain⟨t,rfl⟩:=x.pre;exact List.mem_append_left _ hm
     exact absurd h2 (hh.fresh hn)
   · have:=(x.rest a o hm e).1
     rw[hn] at this
     rcases this with z|⟨_,_,z⟩<;>cases z
theorem zjx (G:Gd T cf k N sc X){f j:Nat}{x:Str}{ps:List Str}{nd:Nat}{ces:CEs}{e:Expr}{es:List Expr}(hf:T.fns[f]?=some (x,ps,nd))(hj:j<=nd)(hg:isGl sc x=true)(hd:(x == ("__debug__":Str))=false)(ha:PA X (e::es) (tAs X.K cf ces))(hst:(e::es).all zav=true) :
  PE X (.Call (.Name x p) (e::es) [] pos) (tE X.K cf (.call f j ces)):=by
 have Hs:=G.tab.fns f x ps nd hf j hj
 rw[List.all_cons,Bool.and_eq_true] at hst
 exact PE.imp (znc Hs G.room ha (G.gl hg) hd (zau hst.1 es X.env) (zbn hst.2)) fun σ H Qv h=>zhn G.tab.frm h
theorem zhF (G:Gd T cf k N sc X){f j:Nat}{x:Str}{ps:List Str}{nd:Nat}(hf:T.fns[f]?=some (x,ps,nd))(hj:j<=nd)(hg:isGl sc x=true)(hd:(x == ("__debug__":Str))=false) :
  PE X (.Call (.Name x p) [] [] pos) (tE X.K cf (.call f j .nil)):=by
 have Hs:=G.tab.fns f x ps nd hf j hj
 refine PE.imp (zlI Hs G.room (G.gl hg) hd) fun σ H Qv ⟨δ,ι,S,Q,hs,hh,w,q⟩=>?_
 simp only[evE,evEs,zaR] at w
 unfold app at w
 rw[zac] at w
 obtain⟨d,T',e,w2⟩:=zfU w
 refine⟨ι,S.enter,[]++List.replicate j .non,RVs.append rfl (RVs.nons j),hh.enter,?_⟩
 rw[e]
 exact fun v H' ι' x r hT=>q v H' (zfb hh x r hT (G.tab.frm _ _ _ _ _ e).frz w2)
end
end R
end
section
namespace R
open PySem PySem.Spec PyProof.Rows L2
variable [Mks]
noncomputable def zcN:Tab:={blt:=[],cons:=[],fns:=[]}
noncomputable def noCF:CF:=fun _ _ _=>.bad
theorem zh8 {k:Nat}{P:Program}{w:World}{K:PySem.W.Frag}{mg:Str->Option Value}{base:Heap}:TabOk zcN noCF k P w K mg base:=
 ⟨fun x h=>(by cases h),fun x d h=>(by cases h),fun f x ps nd h=>(by simp[zcN] at h),fun f ds S d T' h=>(by cases h),fun c x h=>(by simp[zcN] at h),fun c m f h=>(by simp[zcN] at h),fun c f j h=>(by simp[zcN] at h),fun x m f h=>(by simp[zcN] at h),fun h=>(by simp[zcN] at h),fun x cs h=>(by simp[zcN] at h)⟩
section
variable {X:Cx} {pins:List (Addr × Obj)} {σ:L2.St} {H H':Hp} {s:Shared}
structure Own (X:Cx) (pins:List (Addr × Obj)) (b:Addr):Prop where
 new:X.s₀.heap.objs.size<=b
 loc:b≠X.env.locals
 cel:∀x c,X.env.cells.lookup x=some c->c≠b
 pin:∀p∈X.pn++pins,p.1≠b
theorem Own.fresh (I:Inv X pins σ H s){b:Addr}(h:s.heap.objs.size<=b):Own X pins b:=by
 refine⟨Nat.le_trans I.sz h,fun e=>?_,fun x c e z=>?_,fun p hp z=>?_⟩
 · exact absurd (Nat.lt_of_lt_of_le I.lt h) (by rw[e];exact Nat.lt_irrefl _)
 · obtain⟨v,o,ho,_⟩:=I.cell x c e
   exact absurd (Nat.lt_of_lt_of_le (Heap.lt_size ho) h) (by rw[z];exact Nat.lt_irrefl _)
 · exact absurd (Nat.lt_of_lt_of_le (Heap.lt_size (I.pin p hp).1) h) (by rw[z];exact Nat.lt_irrefl _)
theorem zgW {h':Heap}{g':Array GenState}{t':Nat}{d':Drawn}{ch:List Addr}(I:Inv X pins σ H s)(ow:∀b∈ch,Own X pins b)(hn:∀b∈ch,H b=none)(k:∀b o,b∉ch->s.heap.get? b=some o->h'.get? b=some o)(hg:AllBare g') :
  Inv X pins σ H {s with heap:=h',gens:=g',drawn:=d',toks:=t'}:=by
 refine I.call (ch:=ch) ⟨fun b o e n _ hx=>k b o hx e,fun b o e n _ hx=>⟨o.slots,k b o hx e⟩,fun b o _ n _=>n,fun b o e hx=>⟨o,k b o hx e⟩,fun _ _ e=>e,fun _ _ _ e=>e,fun b ps e=>⟨#[],by rw[e];simp⟩⟩ ?_ hg fun b hb=>⟨.inr (ow b hb).new,(ow b hb).loc,(ow b hb).cel,(ow b hb).pin⟩
 intro a o e
 refine (I.hok a o e).stay (fun b u hb q=>k b u (fun z=>?_) q) (fun _ q=>q) fun _ _ q=>q
 have:=hn b z
 rcases hb with rfl|hb
 · rw[e] at this;cases this
 · rw[hb] at this;cases this
end
section
variable {X:Cx} {pins:List (Addr × Obj)} {σ:L2.St} {H H':Hp} {s:Shared} {b:Addr} {o:HO}
theorem zgV (I:Inv X pins σ H s)(ow:Own X pins b)(hn:H b=none)(ok:ObjOk X.prog X.w (upd H b o) s.heap b o):Inv X pins σ (upd H b o) s:=by
 have un:Un (frs X.stack) [b] H (upd H b o) s.heap s.heap:=⟨fun c q e _ _ _=>e,fun c q e _ _ _=>⟨q.slots,e⟩,fun c q e n hx=>by rw[zaf (by simpa using hx)];exact n,fun c q e _=>⟨q,e⟩,
  fun c xs q=>by rw[zaf (zaj q hn)];exact q,fun c q u e=>by rw[zaf (zaj e hn)];exact e,fun c ps q=>⟨#[],by rw[zaf (zaj q hn),q];simp⟩⟩
 refine I.call' rfl un ?_ I.bare fun c hc=>?_
 · intro a u e
   by_cases z:a=b
   · subst z;rw[zai] at e;cases e;exact ok
   · rw[zaf z] at e
     exact (I.hok a u e).stay (fun _ _ _ q=>q) (fun c q=>by rw[zaf (zaj q hn)];exact q) fun c xs q=>by rw[zaf (zaj q hn)];exact q
 · rw[List.mem_singleton.mp hc]
   exact⟨.inr ow.new,ow.loc,ow.cel,ow.pin⟩
end
noncomputable def BM (mg:Str->Option Value)(base:Heap):Prop:=∃(bm:Addr) (o:Obj),mg "__builtins__"=some (.ref bm)/\bm≠builtinsNs/\bm≠mainGlobals/\base.get? bm=some o/\o.cls=.type "module"/\o.dict=some builtinsNs/\o.data=.plain
structure StepT (P:Addr) (H H':Hp):Prop where
 rest:∀a o,a≠P->H a=some o->H' a=some o
 tab:∀ps,H P=some (.tbl ps)->∃more,H' P=some (.tbl (ps++more))
theorem zdp {pos:Pos}{l:List Value}{v a b c:Value}(h:TriplesOk l)(e:codeAmong pos (l++[a,b,c])=some v):codeAmong pos l=some v\/v=c:=by
 induction l using codeAmong.induct (pos:=pos) with
 | case1 line _ col _ c' rest cond =>
   simp only[List.cons_append,codeAmong,cond,if_true] at e⊢
   exact .inl e
 | case2 line _ col _ c' rest cond ih =>
   simp only[List.cons_append,codeAmong,cond,if_false] at e⊢
   exact ih (by simpa[TriplesOk] using h) e
 | case3 l hno =>
   cases l with
   | nil =>
     right
     unfold codeAmong at e
     split at e
     · rename_i h;simp at h;obtain⟨_,_,rfl,rfl⟩:=h
       split at e
       · cases e;rfl
       · simp[codeAmong] at e
     · cases e
   | cons x l =>
     exfalso
     unfold TriplesOk at h
     split at h
     · rename_i h0;cases h0
     · rename_i h0;cases h0;exact hno _ _ _ _ _ _ rfl
     · exact h
theorem StepT.ext {P:Addr}{H H':Hp}{ps:Array Value}(st:StepT P H H')(hP:H P=some (.tbl ps))(tb:TB H'):Ext [] H [] H':=by
 have nP:∀a o,H a=some o->(∀ps,o≠.tbl ps)->a≠P:=fun a o e n z=>by rw[z,hP] at e;cases e;exact n _ rfl
 refine⟨List.prefix_refl _,⟨fun a xs e=>st.rest a _ (nP a _ e (by simp)) e,fun a o u e=>st.rest a _ (nP a _ e (by simp)) e,fun _=>tb⟩,fun a o _ e=>⟨?_,by simp⟩⟩
 by_cases z:a=P
 · subst z
   obtain⟨more,e'⟩:=st.tab ps hP
   rw[hP] at e;cases e
   exact .inr ⟨⟨_,rfl⟩,_,e'⟩
 · exact .inl (st.rest a o z e)
section
variable {X:Cx} {pins:List (Addr × Obj)} {σ:L2.St} {H:Hp} {s:Shared} {c P:Addr} {params:Arguments} {scope:Scope} {lpos:Pos}
theorem BM.at_ (b:BM X.mg X.base)(I:Inv X pins σ H s){P:Addr}{o:HO}(hP:H P=some o):s.heap.BuiltinsAt X.mg P:=by
 obtain⟨bm,ob,h1,h2,h3,h4,h5⟩:=b
 obtain⟨k1,k2⟩:=I.bs bm ob h4
 exact⟨bm,ob,h1,h2,h3,fun z=>(by rw[z,hP] at k2;cases k2),k1,h5⟩
noncomputable def znN (H:Hp)(f:Addr)(name qual:Str)(params:Arguments)(body:List Stmt)(scope:Scope)(clos:List (Str × Addr)):Prop:=∃(pm ct doc:Value) (c':Addr) (oc:Obj) (vs:Array Value) (t:Tok),H f=some (.frz (PySem.W.fnMade name qual params body scope clos doc pm c' ct) (.own 0))/\H c'=some (.frz oc (.own 0))/\oc.data=.fields vs/\vs[1]?=some (.str qual t)
theorem zit {name qual:Str}{body:List Stmt}{clos:List (Str × Addr)}{fl:Nat}{Q:Value->Shared->Prop}{E:Value->Shared->Prop}(I:Inv X pins σ H s)(bm:BM X.mg X.base)(hcode:X.env.code=.ref c)(hC:PySem.W.codeHdIn X.K c P=true)(tb:TabIn H P qual)(hcl:closureFor scope X.env=pure clos)
  (q:∀f H' s',Inv X pins σ H' s'->znN H' f name qual params body scope clos->TabIn H' P qual->StepT P H H'->Q (.ref f) s') :
  wpAny (model X.prog X.w) X.A (makeFunction name qual params (.stmts body) scope X.env [] [] [] lpos fl) Q E s:=by
 obtain⟨ps,h1,h2,h3⟩:=tb
 have C:=PySem.W.codeHd_of_K I.kIn hC
 have hP:s.heap.get? P=some (PySem.W.tabObj ps):=I.hok P _ h1
 have hb:=bm.at_ I h1
 have hg:s.heap.Ns mainGlobals X.mg:=I.mod.glob.keeps I.bk
 have hPl:P<s.heap.objs.size:=Heap.lt_size hP
 cases hf:codeAmong lpos ps.toList with
 | some cv =>
   obtain⟨c',oc,vs,t,rfl,a2,a3,a4⟩:=h3 lpos cv hf
   refine PySem.W.makeFunction_hit hcl I.ok.glob hg hcode C hP h2 hf hb fun ctv doc h' tk hk hsz=>?_
   have hn:H h'.objs.size=none:=I.hok.fresh hsz
   have ow:Own X pins h'.objs.size:=Own.fresh I hsz
   have I1:Inv X pins σ H {s with heap:=h'.push (PySem.W.fnMade name qual params body scope clos doc ((X.mg "__name__").getD .none) c' ctv),toks:=tk}:=
    zgW (g':=s.gens) (t':=tk) (d':=s.drawn) (ch:=[]) I (fun b hb=>by cases hb) (fun b hb=>by cases hb) (fun b o _ e=>Heap.get?_push_of_some _ (hk b o e)) I.bare
   have I2:=zgV (o:=.frz (PySem.W.fnMade name qual params body scope clos doc ((X.mg "__name__").getD .none) c' ctv) (.own 0)) I1 ow hn ⟨Heap.get?_push_size _ rfl,_,Heap.get?_push_size _ rfl⟩
   have st:∀a o,H a=some o->upd H h'.objs.size (.frz (PySem.W.fnMade name qual params body scope clos doc ((X.mg "__name__").getD .none) c' ctv) (.own 0)) a=some o:=fun a o e=>by rw[zaf (zaj e hn)];exact e
   refine q _ _ _ I2 ⟨_,ctv,doc,c',oc,vs,t,zai,st _ _ a2,a3,a4⟩ ?_ ⟨fun a o _ e=>st a o e,fun ps' e=>⟨#[],by rw[st _ _ e];simp⟩⟩
   exact TabIn.up ⟨ps,h1,h2,h3⟩ (by rw[st _ _ h1,h1]) fun b o u e=>st _ _ e
 | none =>
   have hgP:mainGlobals≠P:=fun z=>by
    obtain⟨o,es,ep,e,hd,_⟩:=hg
    rw[z,hP] at e;cases e;cases hd
   refine PySem.W.makeFunction_K hcl I.ok.glob hg hcode C hP h2 hf hgP hb fun c' ctv doc h' tk hx hge hlt hrec htb=>?_
   obtain⟨c2,oc,vs,t,e2,hoc,hd,hv⟩:=hrec
   cases e2
   generalize hfo:PySem.W.fnMade name qual params body scope clos doc ((X.mg "__name__").getD .none) c' ctv=fo
   have hfr:(h'.push fo).get? h'.objs.size=some fo:=by rw[<-hfo];exact Heap.get?_push_size _ rfl
   have hfn:H h'.objs.size=none:=I.hok.fresh (Nat.le_trans hge (Nat.le_of_lt hlt))
   have hcn:H c'=none:=I.hok.fresh hge
   have nPc:P≠c':=Nat.ne_of_lt (Nat.lt_of_lt_of_le hPl hge)
   have nPf:P≠h'.objs.size:=Nat.ne_of_lt (Nat.lt_trans (Nat.lt_of_lt_of_le hPl hge) hlt)
   have ncf:c'≠h'.objs.size:=Nat.ne_of_lt hlt
   have st:∀a o,a≠P->H a=some o->upd (upd (upd H P (.tbl (ps ++ #[rawInt lpos.line,rawInt lpos.col,.ref c']))) c' (.frz oc (.own 0))) h'.objs.size (.frz fo (.own 0)) a=some o:=fun a o n e=>by
    rw[zaf (zaj e hfn),zaf (zaj e hcn),zaf n];exact e
   have atP:upd (upd (upd H P (.tbl (ps ++ #[rawInt lpos.line,rawInt lpos.col,.ref c']))) c' (.frz oc (.own 0))) h'.objs.size (.frz fo (.own 0)) P=some (.tbl (ps ++ #[rawInt lpos.line,rawInt lpos.col,.ref c'])):=by
    rw[zaf nPf,zaf nPc,zai]
   have atC:upd (upd (upd H P (.tbl (ps ++ #[rawInt lpos.line,rawInt lpos.col,.ref c']))) c' (.frz oc (.own 0))) h'.objs.size (.frz fo (.own 0)) c'=some (.frz oc (.own 0)):=by
    rw[zaf ncf,zai]
   have hno:∀a,H a=none->a≠P:=fun a e z=>by rw[z,h1] at e;cases e
   have keep:∀b o,b≠P->s.heap.get? b=some o->(h'.push fo).get? b=some o:=fun b o n e=>Heap.get?_push_of_some _ (hx b o n e)
   have inv:Inv X pins σ (upd (upd (upd H P (.tbl (ps ++ #[rawInt lpos.line,rawInt lpos.col,.ref c']))) c' (.frz oc (.own 0))) h'.objs.size (.frz fo (.own 0))) {s with heap:=h'.push fo,toks:=tk}:=by
    refine I.call (g':=s.gens) (t':=tk) (d':=s.drawn) (ch:=[]) ⟨fun b o e n _ _=>keep b o (hno b n) e,fun b o e n _ _=>⟨o.slots,keep b o (hno b n) e⟩,fun b o e n _=>?_,fun b o e _=>?_,fun b xs e=>?_,fun b o u e=>?_,fun b ps' e=>?_⟩ ?_ I.bare (fun b hb=>by cases hb)
    · have hb:=Heap.lt_size e
      rw[zaf (Nat.ne_of_lt (Nat.lt_trans (Nat.lt_of_lt_of_le hb hge) hlt)),zaf (Nat.ne_of_lt (Nat.lt_of_lt_of_le hb hge)),zaf (hno b n)];exact n
    · by_cases z:b=P
      · subst z;exact⟨_,Heap.get?_push_of_some _ htb⟩
      · exact⟨o,keep b o z e⟩
    · exact st b _ (fun z=>by rw[z,h1] at e;cases e) e
    · exact st b _ (fun z=>by rw[z,h1] at e;cases e) e
    · by_cases z:b=P
      · subst z;rw[h1] at e;cases e;exact⟨_,atP⟩
      · exact⟨#[],by rw[st b _ z e];simp⟩
    · intro a u e
      by_cases zf:a=h'.objs.size
      · subst zf;rw[zai] at e;cases e;exact⟨hfr,_,hfr⟩
      · rw[zaf zf] at e
        by_cases zc:a=c'
        · subst zc;rw[zai] at e;cases e;exact⟨Heap.get?_push_of_some _ hoc,_,Heap.get?_push_of_some _ hoc⟩
        · rw[zaf zc] at e
          by_cases zp:a=P
          · subst zp;rw[zai] at e;cases e;exact Heap.get?_push_of_some _ htb
          · rw[zaf zp] at e
            refine (I.hok a u e).stay (fun b o hb e'=>keep b o ?_ e') (fun b e'=>st b _ (fun z=>by rw[z,h1] at e';cases e') e') fun b xs e'=>st b _ (fun z=>by rw[z,h1] at e';cases e') e'
            rcases hb with rfl|hb
            · exact zp
            · intro z;rw[z,h1] at hb;cases hb
   refine q _ _ _ inv ⟨_,ctv,doc,c',oc,vs,t,by rw[zai,<-hfo],atC,hd,hv⟩ ?_ ⟨fun a o n e=>st a o n e,fun ps' e=>by rw[h1] at e;cases e;exact⟨_,atP⟩⟩
   refine⟨_,atP,?_,fun pos v e=>?_⟩
   · have:=TriplesOk_snoc lpos.line lpos.col (.ref c') ps.toList h2
     simpa using this
   · have e':codeAmong pos (ps.toList++[rawInt lpos.line,rawInt lpos.col,.ref c'])=some v:=by simpa using e
     rcases zdp h2 e' with z|z
     · obtain⟨d,od,ws,u,a1,a2,a3⟩:=h3 pos v z
       exact⟨d,od,ws,u,a1,st _ _ (fun y=>by rw[y,h1] at a2;cases a2) a2,a3⟩
     · exact⟨c',oc,vs,t,z,atC,hd,hv⟩
end
end R
end
section
set_option maxHeartbeats 4000000
namespace R
open PySem PySem.Spec PyProof.Rows L2
section
variable {X:Cx} {pins:List (Addr × Obj)} {σ:L2.St} {H:Hp} {s:Shared} {A:Around} {E:Value->Shared->Prop} {a c:Addr} {k:K3} {ws:List (K3 × Addr × V)}
noncomputable def val3 (ws:List (K3 × Addr × V))(k:K3):Option V:=(ws.find? fun x=>decide (x.1=k)).map (·.2.2)
theorem ziI {P:Program}{w:World}{h:Heap}(ok:HOk P w H h)(e:Rd H a (.ext (TriO a ws)))(tk:TriK H ws):ws.length<=sizeLine/\(a == sysModules)=false/\∃xs,Paired P3 ws xs/\h.DictOfH (za9 P w) a xs:=by
 obtain⟨⟨z,y,xs,r,o,es,ep,ho,hx,hd,he,nd⟩,_,_⟩:=(show ObjOk P w H h a (.ext _) from e.ok ok)
 refine⟨z,y,xs,r,o,es,ep,ho,hx,hd,?_,?_,nd⟩
 · rw[he];exact List.map_congr_left fun x _=>(zeH x).symm
 · have all:∀{l:List (K3 × Addr × V)} {m:List (K3 × Addr × Value)},Paired P3 l m->TriK H l->∀x∈m,(za9 P w).is h x.1 x.2.1:=by
    intro l m q
    induction q with
    |nil=>intro _ x hx;exact nomatch hx
    | @cons p q ps qs hq t ih =>
      intro tk x hx
      rcases List.mem_cons.mp hx with e|hx
      · subst e
        rw[<-hq.1,<-hq.2.1]
        exact zb4 ok (tk p List.mem_cons_self)
      · exact ih (fun y hy=>tk y (List.mem_cons_of_mem _ hy)) x hx
   exact all r tk
theorem zlO {xs:List (K3 × Addr × Value)}(k:K3)(h:Paired P3 ws xs):RelO (val3 ws k) ((atKey xs k).map (·.2)):=by
 induction h with
 |nil=>exact trivial
 | @cons p q ps qs hq t ih =>
   unfold val3 atKey at ih⊢
   rw[List.find?_cons,List.find?_cons]
   by_cases e:p.1=k
   · rw[decide_eq_true e,decide_eq_true (hq.1▸e)]
     exact hq.2.2
   · rw[decide_eq_false e,decide_eq_false (hq.1▸e)]
     exact ih
theorem zku {Q:Value->Shared->Prop}{d:V}{r:Value}(hu:A.units+5<cLine)(I:Inv X pins σ H s)(e:Rd H a (.ext (TriO a ws)))(tk:TriK H ws)(ek:Key3 H k c)(rd:RelV d r)(h:∀w' s',Inv X pins σ H s'->RelV ((val3 ws k).getD d) w'->Q w' s') :
  wpAny (model X.prog X.w) A (call (.builtin "dict.get") [.ref a,.ref c,r]) Q E s:=by
 obtain⟨z,hd,xs,rel,dd⟩:=ziI I.hok e tk
 refine call_meetsIn PySem.F.slot_dict_get dd.typeIs PySem.F.entry_dict_get (PySem.F.args_dict_get_3 _ _ _) (meetsH_dict_get_default (za9 X.prog X.w) a c hd r) ⟨(show A.units+1+4<cLine by omega),k,xs,zb4 I.hok ek,dd,h _ _ (I.tok _) ?_⟩
 exact (zlO k rel).getD rd
end
noncomputable def zk0 (td ty tx:TE):TE:=fun σ H Q=>td σ H fun x H1=>∃a ws,x=.ref a/\Rd H1 a (.ext (TriO a ws))/\TriK H1 ws/\ty σ H1 fun y H2=>tx σ H2 fun z H3=>∃k c,y=.ref c/\Key3 H3 k c/\Rd H3 a (.ext (TriO a ws))/\TriK H3 ws/\Q ((val3 ws k).getD z) H3
theorem zh1 {X:Cx}{o e f:Expr}{apos cpos:Pos}{td ty tx:TE}(hu:X.A.units+5<cLine)(ho:PE X o td)(he:PE X e ty)(hf:PE X f tx)(m:M2 X o "get" apos e f cpos):PE X (.Call (.Attribute o "get" apos) [e,f] [] cpos) (zk0 td ty tx):=by
 intro pins s σ H Q I h
 refine wpAny_Call_method m.base m.few m.line PySem.F.plainAttrs_dict PySem.F.slot_dict_get PySem.F.type_dict_get (thn (ho pins s σ H _ I h) fun u s1 ⟨x,H1,I1,rx,a,ws,ex,d,tk,q1⟩=>?_)
 subst ex
 obtain rfl:u=Value.ref a:=rx
 obtain⟨_,hd,xs,_,dd⟩:=ziI I1.hok d tk
 refine⟨dd.typeIs,fun b q=>?_,?_⟩
 · cases q
   obtain⟨ob,_,_,h1,h2,_⟩:=dd
   exact⟨ob,h1,h2.2.1⟩
 rw[m.trees]
 refine Calls.callWith_builtin rfl (Calls.evalArgs_plain (Calls.spliced_cons (thn (he pins s1 σ H1 _ I1 q1) fun iv s2 ⟨y,H2,I2,ry,q2⟩=>
  Calls.spliced_cons (thn (hf pins s2 σ H2 _ I2 q2) fun fv s3 ⟨z,H3,I3,rz,k,c,ey,ek,d3,tk3,q3⟩=>Calls.spliced_nil ?_))))
 subst ey
 cases (show iv=Value.ref c from ry)
 exact zku hu I3 d3 tk3 ek rz fun w' s4 I4 rw'=>⟨_,H3,I4,rw',q3⟩
end R
end
section
set_option maxHeartbeats 4000000
namespace R
open PySem PySem.Spec PyProof.Rows L2
variable [Mks]
noncomputable def hid (H:Hp)(c:Addr):Hp:=fun b=>if b=c then none else H b
theorem zgY {H:Hp}{c:Addr}:hid H c c=none:=if_pos rfl
theorem zbW {H:Hp}{b c:Addr}(h:b≠c):hid H c b=H b:=if_neg h
theorem zii {H:Hp}{b c:Addr}{o:HO}(h:hid H c b=some o):b≠c/\H b=some o:=by
 unfold hid at h
 split at h
 · cases h
 · rename_i n;exact⟨n,h⟩
theorem zbB {H:Hp}{b c:Addr}(h:H b=none):hid H c b=none:=by
 unfold hid;split
 · rfl
 · exact h
noncomputable abbrev envK (st:Stmt)(f c c' L:Addr):Env:=PySem.W.envX arrQ (zae st) L f (.ref c') [(("last":Str),c)]
noncomputable def zhg (P:Program)(w:World)(K:PySem.W.Frag)(mg:Str->Option Value)(base:Heap)(st:Stmt)(f c c':Addr)(A:Around)(outer:List Env)(s:Shared)(H:Hp):Cx where
 prog:=P
 w:=w
 K:=K
 mg:=mg
 base:=base
 A:=A.deeper (envK st f c c' s.heap.objs.size)
 N:=["turn","path","to","word","last"]
 s₀:=s
 H₀:=hid H c
 env:=envK st f c c' s.heap.objs.size
 outer:=outer
 stack:=envK st f c c' s.heap.objs.size::outer
 ex:=[]
 calm:=true
 fn:=fun _=>false
 pn:=[]
 xe:=fun _ _=>False
section
variable {P:Program} {w:World} {K:PySem.W.Frag} {mg:Str->Option Value} {base:Heap} {st:Stmt} {f c c' d:Addr} {A:Around} {outer:List Env} {s:Shared} {H:Hp} {ou:Obj}
theorem zki {h₁:Heap}{tk:Nat}{u0 u1 u2 u3:Value}{v0 v1 v2 v3:V}(T:CloSt st)(hd:A.handled=none)(e0:Env0 P w K mg base A outer s H)(hc:H c=some (.frz ou (.own 0)))(ho:ou.data=.cell (some (.ref d)))
  (r0:RelV v0 u0) (r1:RelV v1 u1) (r2:RelV v2 u2) (r3:RelV v3 u3)
  (hns:h₁.Ns s.heap.objs.size (fun x=>([(("turn":Str),u0),(("path":Str),u1),(("to":Str),u2),(("word":Str),u3)]:List (Str × Value)).reverse.lookup x)) (hk:∀b o,s.heap.get? b=some o->h₁.get? b=some o) :
  Inv (zhg P w K mg base st f c c' A outer s H) [] [some v0,some v1,some v2,some v3,some (.ref d)] (hid H c) {s with heap:=h₁,toks:=tk}:=by
 have oc:s.heap.get? c=some ou:=(e0.hok c _ hc).1
 have hcl:∀(y:Str) (z:Addr),(envK st f c c' s.heap.objs.size).cells.lookup y=some z->y="last"/\z=c:=fun y z h=>by
  simp only[List.lookup] at h
  split at h
  · rename_i e;cases h;exact⟨by simpa using e,rfl⟩
  · cases h
 have look4:(envK st f c c' s.heap.objs.size).cells.lookup ("last":Str)=some c:=by simp[List.lookup]
 have ok0:HOk P w (hid H c) s.heap:=fun b o e=>by
  obtain⟨n,e⟩:=zii e
  refine (e0.hok b o e).stay (fun _ _ _ q=>q) (fun x q=>?_) fun x xs q=>?_
  · rw[zbW (fun z=>by rw[z,hc] at q;cases q)];exact q
  · rw[zbW (fun z=>by rw[z,hc] at q;cases q)];exact q
 have noA:∀b:Addr,b∉(zhg P w K mg base st f c c' A outer s H).ex:=fun b z=>absurd (show b∈([]:List Addr) from z) (by simp)
 refine⟨⟨e0.mod,T.kind,rfl,rfl,Nat.le_refl _,fun y z x h1 h2=>?_,fun y hy=>?_,fun y z hz _=>(by cases hz),fun _=>hd,Around.frames_deeper e0.frames,.inr ⟨rfl,rfl⟩,fun b z=>absurd z (noA b),fun b o e=>⟨(e0.bs b o e).1,zbB (e0.bs b o e).2⟩,e0.bsz,fun b _ _=>noA b,fun b z=>absurd z (noA b),e0.funs,fun b hb=>zbB (e0.frf b hb)⟩,
  rfl,e0.bare,Un.kept hk,⟨_,hns,fun i y v h1 h2 h3=>?_⟩,fun y z h=>?_,zbB (e0.hok.fresh (Nat.le_refl _)),fun y z h=>?_,fun p hp=>absurd (show p∈([]:List (Addr × Obj)) from hp) (by simp),ok0.kept hk,rfl⟩
 · obtain⟨rfl,_⟩:=hcl y x h1
   exact (hcl z x h2).1.symm
 · rcases hy with hy|hy
   · exact absurd rfl (T.cell _ (PySem.mem_of_lookup hy))
   · have this:y="last":=T.free _ (PySem.mem_of_lookup hy) rfl
     rw[this];exact⟨c,look4⟩
 · match i,h1,h2 with
   |0,h1,h2=>cases h1;cases h2;exact⟨u0,r0,.inl ⟨T.l0,rfl⟩⟩
   |1,h1,h2=>cases h1;cases h2;exact⟨u1,r1,.inl ⟨T.l1,rfl⟩⟩
   |2,h1,h2=>cases h1;cases h2;exact⟨u2,r2,.inl ⟨T.l2,rfl⟩⟩
   |3,h1,h2=>cases h1;cases h2;exact⟨u3,r3,.inl ⟨T.l3,rfl⟩⟩
   |4,h1,h2=>cases h1;cases h2;exact⟨.ref d,rfl,.inr ⟨.inr T.l4,c,look4,ou,hk _ _ oc,ho⟩⟩
   |i+5,h1,h2=>simp at h2
 · obtain⟨_,rfl⟩:=hcl y z h
   exact⟨_,ou,hk _ _ oc,ho⟩
 · obtain⟨_,rfl⟩:=hcl y z h
   exact zgY
theorem zix {H':Hp}{s':Shared}(e0:Env0 P w K mg base A outer s H)(hc:H c=some (.frz ou (.own 0)))(un:Un (frs outer) [] (hid H c) H' s.heap s'.heap)(hok:HOk P w H' s'.heap) :
  Un (frs outer) [] H (upd H' c (.frz ou (.own 0))) s.heap s'.heap/\HOk P w (upd H' c (.frz ou (.own 0))) s'.heap:=by
 have oc:s.heap.get? c=some ou:=(e0.hok c _ hc).1
 have cf:c∉frs outer:=fun z=>by rw[e0.frf c z] at hc;cases hc
 have oc':s'.heap.get? c=some ou:=un.keep c ou oc zgY cf (by simp)
 have hn:H' c=none:=un.free c ou oc zgY (by simp)
 have ne:∀b,H b=none->b≠c:=fun b n z=>by rw[z,hc] at n;cases n
 refine⟨⟨fun b o q n h1 h2=>un.keep b o q (zbB n) h1 h2,fun b o q n h1 h2=>un.slot b o q (zbB n) h1 h2,fun b o q n h=>?_,fun b o q h=>un.there b o q h,fun b xs q=>?_,fun b o u q=>?_,fun b ps q=>?_⟩,fun b o q=>?_⟩
 · rw[zaf (ne b n)];exact un.free b o q (zbB n) h
 · have z:b≠c:=fun z=>by rw[z,hc] at q;cases q
   rw[zaf z];exact un.tups b xs (by rw[zbW z];exact q)
 · by_cases z:b=c
   · subst z;rw[hc] at q;cases q;exact zai
   · rw[zaf z];exact un.frzs b o u (by rw[zbW z];exact q)
 · have z:b≠c:=fun z=>by rw[z,hc] at q;cases q
   rw[zaf z];exact un.tbls b ps (by rw[zbW z];exact q)
 · by_cases z:b=c
   · subst z;rw[zai] at q;cases q;exact⟨oc',_,oc'⟩
   · rw[zaf z] at q
     exact (hok b o q).stay (fun _ _ _ q=>q) (fun x q=>by rw[zaf (zaj q hn)];exact q) fun x xs q=>by rw[zaf (zaj q hn)];exact q
theorem zkz {k:Nat}{u0 u1 u2 u3:Value}{v0 v1 v2 v3:V}{Q:VK}{E:XK}{ct doc pm:Value}{oc od:Obj}{vs:Array Value}{t:Tok}{ws:List (K3 × Addr × V)}{kk:K3}{pb:Addr}(hst:Mks.rs=some st)(hr:Room (k+1) A)(e0:Env0 P w K mg base A outer s H)
  (hf:H f=some (.frz (PySem.W.fnMade arrN arrQ (zam st) (zah st) (zae st) [(("last":Str),c)] doc pm c' ct) (.own 0))) (hc':H c'=some (.frz oc (.own 0))) (hoc:oc.data=.fields vs) (hv:vs[1]?=some (.str arrQ t))
  (hc:H c=some (.frz ou (.own 0))) (ho:ou.data=.cell (some (.ref d))) (hd:H d=some (.frz od (.ext (TriO d ws)))) (tk:TriK H ws)
  (r0:RelV v0 u0) (r1:RelV v1 u1) (r2:RelV v2 u2) (r3:RelV v3 u3) (e0':v0=.int kk.1) (e1:v1=.ref pb) (hp:H pb=some (.tup (kk.2.1.map V.int))) (e2:v2=.int kk.2.2)
  (q:∀p,H p=none->Q ((val3 ws kk).getD v3) (upd H p (.tup [v0,v1,v2]))) :
  codeAny (model P w) A (.call (.ref f) ⟨[u0,u1,u2,u3],[]⟩) (CR CX0 outer P w H s Q E) s:=by
 have T:CloSt st:=by have:=Mks.ro;rw[hst] at this;exact this
 have lim:s.heap.NoLimit:=e0.mod.nolimit.keeps fun b o e=>(e0.bs b o e).1
 refine codeAny_call_def (fd:=PySem.W.fnX arrN arrQ (zam st) (zah st) (zae st) [(("last":Str),c)] .none .none doc pm none (.ref c') ct) (body:=zah st) hr.depth (e0.hok f _ hf).1 rfl lim ⟨c',oc,vs,t,rfl,(e0.hok c' _ hc').1,hoc,hv⟩ rfl (.of_eq (T.bind _ doc pm _ ct u0 u1 u2 u3)) T.cell (fun x hx=>?_) (fun h₁ hns hk=>?_) T.co T.gen T.kind
 · simp only[List.mem_cons,List.not_mem_nil,or_false] at hx
   rcases hx with rfl|rfl|rfl|rfl
   · exact T.l0
   · exact T.l1
   · exact T.l2
   · exact T.l3
 have I:=zki (f:=f) (c':=c') (tk:=s.toks+([(("turn":Str),u0),(("path":Str),u1),(("to":Str),u2),(("word":Str),u3)]:List (Str × Value)).length) T hr.hd e0 hc ho r0 r1 r2 r3 hns hk
 obtain⟨x6,p1,p2,p3,p4,p5,p6,p7,p8,p9,eb,l1⟩:=T.body
 have hu:(zhg P w K mg base st f c c' A outer s H).A.units+5<cLine:=by have:=hr.un;show A.units+3+5<_;omega
 have pT:PE (zhg P w K mg base st f c c' A outer s H) (.Tuple [.Name "turn" p3,.Name "path" p4,.Name "to" p5] x6 p6) (tTup (zf3 (tVar 0) (zf3 (tVar 1) (zf3 (tVar 2) tNil)))):=
  ziZ (zbr (zcr rfl (.inl T.l0)) (zbr (zcr rfl (.inl T.l1)) (zbr (zcr rfl (.inl T.l2)) ze5)))
 have pb':=zjO (ziY (pos:=p9) (zh1 hu (zcr (X:=zhg P w K mg base st f c c' A outer s H) (pos:=p1) (i:=4) (x:="last") rfl (.inr (.inr T.l4))) pT (zcr (pos:=p7) (i:=3) (x:="word") rfl (.inl T.l3)) (apos:=p2) (cpos:=p8) ⟨rfl,rfl,l1,rfl⟩))
 have hdc:d≠c:=fun z=>by rw[z,hc] at hd;injection hd with hd;injection hd with _ hd;cases hd
 have pbc:pb≠c:=fun z=>by rw[z,hc] at hp;cases hp
 rw[eb]
 subst e0' e1 e2
 have hw:=pb' [] _ _ _ {nx:=fun _ _=>False,rt:=fun v H'=>∃p,hid H c p=none/\v=(val3 ws kk).getD v3/\H'=upd (hid H c) p (.tup [.int kk.1,.ref pb,.int kk.2.2])} I ?_
 · refine wpAny_mono hw (fun fl s' hs=>?_) fun e s' z=>False.elim z
   cases fl with
   | ret u =>
     obtain⟨v,σ',H',J,rv,p,pn,rfl,rfl⟩:=hs
     have look4:(envK st f c c' s.heap.objs.size).cells.lookup ("last":Str)=some c:=by simp[List.lookup]
     have pc:p≠c:=fun z=>by
      have:=J.freeC "last" c look4
      rw[z,zai] at this;cases this
     have pH:H p=none:=by rw[zbW pc] at pn;exact pn
     have un:Un (frs outer) [] (hid H c) (upd (hid H c) p (.tup [.int kk.1,.ref pb,.int kk.2.2])) s.heap s'.heap:=J.base
     obtain⟨un',hok'⟩:=zix e0 hc un J.hok
     have e:upd (upd (hid H c) p (.tup [.int kk.1,.ref pb,.int kk.2.2])) c (.frz ou (.own 0))=upd H p (.tup [.int kk.1,.ref pb,.int kk.2.2]):=by
      funext b
      by_cases z:b=c
      · subst z;rw[zai,zaf (Ne.symm pc)];exact hc.symm
      · rw[zaf z]
        by_cases y:b=p
        · subst y;rw[zai,zai]
        · rw[zaf y,zaf y,zbW z]
     rw[e] at un' hok'
     exact⟨_,_,J.os,J.bare,un',hok',rv,q p pH⟩
   |next=>obtain⟨_,_,_,z⟩:=hs;exact False.elim z
   |brk=>obtain⟨_,_,_,z⟩:=hs;exact False.elim z
   |cont=>obtain⟨_,_,_,z⟩:=hs;exact False.elim z
 · have up1:∀b xs,H b=some (.tup xs)->hid H c b=some (.tup xs):=fun b xs e=>by rw[zbW (fun z=>by rw[z,hc] at e;cases e)];exact e
   have tk1:TriK (hid H c) ws:=fun x hx=>(tk x hx).up up1
   have rd1:hid H c d=some (.frz od (.ext (TriO d ws))):=by rw[zbW hdc];exact hd
   refine⟨.ref d,rfl,d,ws,rfl,.inr ⟨od,rd1⟩,tk1,_,rfl,_,rfl,_,rfl,(by show 3<=sizeLine;rw[sizeLine_eq];decide),fun p hp'=>⟨v3,rfl,kk,p,rfl,⟨pb,zai,?_⟩,.inr ⟨od,?_⟩,fun x hx=>(tk1 x hx).up fun b xs e=>?_,p,hp',rfl,rfl⟩⟩
   · rw[zaf (zaj (up1 _ _ hp) hp')];exact up1 _ _ hp
   · rw[zaf (zaj rd1 hp')];exact rd1
   · rw[zaf (zaj e hp')];exact e
end
end R
end
section
set_option maxHeartbeats 4000000
namespace R
open PySem PySem.Spec PyProof.Rows L2
variable [Mks]
theorem zc2 {d:D}{ds:List D}{r:D}(h:zbY d ds=some r):∃kvs t ps b w p,d=.clo kvs/\ds=[.int t,.tup ps,.int b,w]/\zaT ps=some p/\r=(match kvs.find? fun kv=>decide (kv.1=(t,p,b)) with|some kv=>wD kv.2|none=>w):=by
 unfold zbY at h
 split at h
 · rename_i kvs t ps b w
   cases e:zaT ps with
   |none=>rw[e] at h;cases h
   | some p =>
     rw[e] at h
     exact⟨kvs,t,ps,b,w,p,rfl,rfl,e,(Option.some.inj h).symm⟩
 · cases h
theorem W3s.val {H:Hp}(k:K3):∀{kvs:List (K3 × Option Int)} {ws:List (K3 × Addr × V)},W3s H kvs ws->((kvs.find? fun kv=>decide (kv.1=k))=none/\val3 ws k=none)\/∃kv,(kvs.find? fun kv=>decide (kv.1=k))=some kv/\val3 ws k=some (vW kv.2)
 | [],_,r=>by rw[show _=[] from r];exact .inl ⟨rfl,rfl⟩
 | (j, o) :: kvs, ws, r => by
   obtain⟨c,w,rfl,_,r2⟩:=r
   unfold val3
   rw[List.find?_cons,List.find?_cons]
   by_cases e:j=k
   · rw[decide_eq_true e];exact .inr ⟨_,rfl,rfl⟩
   · rw[decide_eq_false e];exact W3s.val k r2
theorem W3s.triK {H:Hp}:∀{kvs:List (K3 × Option Int)} {ws:List (K3 × Addr × V)},W3s H kvs ws->TriK H ws
 | [],_,r=>by rw[show _=[] from r];intro x hx;cases hx
 | (j, o) :: kvs, ws, r => by
   obtain⟨c,w,rfl,r0,r2⟩:=r
   intro x hx
   rcases List.mem_cons.mp hx with e|e
   · subst e;exact r0
   · exact W3s.triK r2 x e
theorem zbR {v:V}{r:List V}{us:List Value}(h:Vals (v::r) us):∃u us',us=u::us'/\L2.RelV v u/\Vals r us':=by
 cases h with
 |cons a b=>exact⟨_,_,rfl,a,b⟩
theorem rv_w {K:PySem.W.Frag}{ι:List Addr}{H:Hp}(o:Option Int):RV K ι H (wD o) (vW o):=by cases o<;>rfl
section
variable {T:Tab} {cf:CF} {k:Nat} {N:List Str} {sc:Scope} {X:Cx} {pos p:Pos}
theorem zfe {K:PySem.W.Frag}{ι:List Addr}{H:Hp}:∀{ps:List D} {is:List Int} {xs:List V},zaT ps=some is->RVs K ι H ps xs->xs=is.map V.int
 | [], is, xs, h, r => by
   have h:is=[]:=by simpa[zaT] using h.symm
   subst h;exact r
 | d :: ps, is, xs, h, r => by
   obtain⟨i,js,h1,h2,rfl⟩:=zaI h
   obtain⟨v,w,rfl,r1,r2⟩:=r
   cases d with
   | int j =>
     have h1:j=i:=Option.some.inj h1
     subst h1
     rw[zfe h2 r2,show v=V.int j from r1];rfl
   |_=>cases h1
theorem zhE (G:Gd T cf k N sc X){ca:CE}{x:Str}{ces:CEs}{e:Expr}{es:List Expr}(hx:PE X (.Name x p) (tE X.K cf ca))(ha:PA X (e::es) (tAs X.K cf ces))(hst:(e::es).all zav=true) :
  PE X (.Call (.Name x p) (e::es) [] pos) (tE X.K cf (.callV ca ces)):=by
 rw[List.all_cons,Bool.and_eq_true] at hst
 intro pins s σ H Qv I ⟨δ,ι,S,Qd,hs,hh,w,q⟩
 simp only[evE,zac] at w
 refine wpAny_Call_Name_kw (thn (hx pins s σ H (fun v H1=>∃d ι1 S1,Ext ι H ι1 H1/\RS X.K ι1 H1 δ σ/\RH X.K ι1 H1 S1/\RV X.K ι1 H1 d v/\W (evEs cf ces δ S1) fun ds S2=>W (lift S2 (zbY d ds)) Qd) I (tE.run hs hh w fun d v ι1 H1 S1 x1 hs1 hh1 r1 w1=>⟨d,ι1,S1,x1,hs1,hh1,r1,w1⟩)) fun u s1 ⟨v,H1,I1,ru,d,ι1,S1,x1,hs1,hh1,r1,w1⟩=>?_)
 obtain⟨ds,S2,ee,w2⟩:=zfU w1
 obtain⟨r,er,w3⟩:=za6 w2
 obtain⟨kvs,t,ps,b,z,pp,rfl,rfl,hp,rfl⟩:=zc2 er
 obtain⟨f,rfl,cl⟩:=r1
 obtain rfl:u=Value.ref f:=ru
 have fnAt:∀{H':Hp} {s':Shared},HOk X.prog X.w H' s'.heap->CloAt H' f kvs->PySem.W.FnAt f s'.heap:=fun {H' s'} ok cl=>by
  obtain⟨c,dd,ou,od,ws,⟨st,pm,ct,doc,c',oc,vs,tt,h0,h1,_⟩,_⟩:=cl
  exact⟨_,_,_,_,(ok f _ h1).1⟩
 refine PySem.W.callWith_F (fnAt I1.hok cl) (thn (ha pos pins s1 σ H1 (fun vs H2=>∃ι2 S2,Ext ι1 H1 ι2 H2/\RH X.K ι2 H2 S2/\∃ds',RVs X.K ι2 H2 ds' vs/\W (lift S2 (zbY (.clo kvs) ds')) Qd) I1 (tAs.run hs1 hh1 w1 fun ds' vs ι2 H2 S2 x2 hs2 hh2 r2 w2=>⟨ι2,S2,x2,hh2,ds',r2,w2⟩)) fun us s2 ⟨vs,H2,I2,rvs,ι2,S2',x2,hh2,ds',r2,w2'⟩=>?_) (zau hst.1 es X.env) (zbn hst.2)
 have cl2:=cl.kp x2.kp
 refine⟨fnAt I2.hok cl2,?_⟩
 clear w2 w3 er hp ee w1
 obtain⟨r,er,w3⟩:=za6 w2'
 obtain⟨kvs',t,ps,b,z,pp,e1,rfl,hp,rfl⟩:=zc2 er
 cases e1
 obtain⟨v0,r0,rfl,q0,v1,r1',rfl,q1,v2,r2',rfl,q2,v3,r3',rfl,q3,q4⟩:=r2
 cases (show r3'=[] from q4)
 obtain⟨pb,xs,rfl,hpb,rxs⟩:=q1
 rw[zfe hp rxs] at hpb
 obtain⟨u0,us,rfl,ru0,ru⟩:=zbR rvs
 obtain⟨u1,us,rfl,ru1,ru⟩:=zbR ru
 obtain⟨u2,us,rfl,ru2,ru⟩:=zbR ru
 obtain⟨u3,us,rfl,ru3,ru⟩:=zbR ru
 cases ru
 obtain⟨c,dd,ou,od,ws,⟨st,pm,ct,doc,c',oc,vs,tt,h0,h1,h2,h3,h4⟩,hc,ho,hd,w3s⟩:=cl2
 refine wpAny_call (codeAny_mono (zkz (k:=k) (Q:=Qv) (E:=fun _ _ _=>False) (kk:=(t,pp,b)) (pb:=pb) h0 G.room' I2.env0 h1 h2 h3 h4 hc ho hd w3s.triK ru0 ru1 ru2 ru3 q0 rfl hpb q2 fun p hpn=>?_) fun r s' hq=>?_)
 · refine q _ _ (Lf.up (x1.trans x2) ⟨_,ι2,S2',Ext.new hpn _,?_,hh2.new hpn _,w3⟩)
   rcases w3s.val (t,pp,b) with ⟨e1,e2⟩|⟨kv,e1,e2⟩
   · rw[e1,e2];exact q3.ext (Ext.new hpn _)
   · rw[e1,e2];exact rv_w _
 · cases r with
   |error e=>exact False.elim hq
   | ok fl =>
     cases fl with
     |ret u=>exact I2.after hq
     |_=>exact False.elim hq
end
end R
end
section
namespace R
open PySem PySem.Spec PyProof.Rows L2
variable [Mks]
section
variable {T:Tab} {cf:CF} {k:Nat} {N:List Str} {sc:Scope} {X:Cx} {pos p:Pos}
theorem ne_of {α:Type}[BEq α]{xs:List α}{a:α}(h:xs.contains a=true):xs≠[]:=fun e=>by rw[e] at h;simp at h
theorem Gd.clsAt (G:Gd T cf k N sc X)(h0:T.flds≠[]\/T.inits≠[]\/T.isas≠[]){c:Nat}{C:Addr}(h:Mks.cl[c]?=some C):∃x,T.cls[c]?=some x/\Cls X.K C/\X.mg x=some (.ref C)/\∀f,T.flds.contains f=true->zhv X.K C f:=by
 have hl:c<T.cls.length:=Nat.lt_of_lt_of_le (List.getElem?_eq_some_iff.mp h).1 (G.tab.cln h0)
 obtain⟨C',h1,h2,h3,h4⟩:=G.tab.cls c T.cls[c] (List.getElem?_eq_getElem hl)
 rw[h] at h1;cases h1
 exact⟨_,List.getElem?_eq_getElem hl,h2,h3,h4⟩
theorem zh9 {ces:CEs}{σ:L2.St}{H:Hp}{Qa:List V->Hp->Prop}(hc:ces=.nil)(h:tAs X.K cf ces σ H Qa):tNil σ H Qa:=by
 subst hc
 obtain⟨δ,ι,S,Q,hs,hh,w,q⟩:=h
 exact q [] H ⟨[],ι,S,Ext.refl _ _,rfl,hh,by simpa[evEs] using w⟩
theorem Vals.nons:∀j:Nat,Vals (List.replicate j .non) (List.replicate j Value.none)
 |0=>.nil
 |j+1=>.cons rfl (Vals.nons j)
theorem ze8 (G:Gd T cf k N sc X){c f j:Nat}{C:Addr}{x:Str}{ces:CEs}{σ:L2.St}{H:Hp}{Qv:VK}{t:TA}(hC:Mks.cl[c]?=some C)(ht:∀{σ:L2.St} {H:Hp} {Qa:List V->Hp->Prop},tAs X.K cf ces σ H Qa->t σ H Qa)(h:tE X.K cf (.mk c f x j ces) σ H Qv):zjk C (spF X.K cf f) (List.replicate j V.non) E0 t σ H Qv:=by
 obtain⟨δ,ι,S,Q,hs,hh,w,q⟩:=h
 simp only[evE,zac] at w
 refine ht (tAs.run hs hh w fun ds vs ι1 H1 S1 x1 hs1 hh1 r1 w1=>?_)
 intro y dy hy hdy hne
 have hh2:=hh1.new hdy (.own y)
 have x2:Ext ι1 H1 ι1 (upd H1 dy (.own y)):=Ext.new hdy _
 have hy2:(upd H1 dy (.own y)) y=none:=by rw[zaf (Ne.symm hne)];exact hy
 have hh3:=hh2.obj' hy2 (.ins C dy []) (.ins c []) ⟨C,dy,[],hC,zai,rfl⟩
 have x3:Ext ι1 (upd H1 dy (.own y)) (ι1++[y]) (upd (upd H1 dy (.own y)) y (.ins C dy [])):=Ext.obj hh2 hy2 _
 unfold appW at w1
 obtain⟨d,T',e,w2⟩:=zfU w1
 refine⟨ι1++[y],S1.push (.ins c []),.ref S1.len::(ds++List.replicate j .non),⟨.ref y,_,rfl,⟨y,hh2.last y,rfl⟩,RVs.append ((r1.ext x2).ext x3) (RVs.nons j)⟩,hh3,?_⟩
 rw[e]
 intro v H' ι' x' r hT
 split at w2
 · rename_i hn
   cases d with
   | non =>
     refine⟨r,q _ _ ⟨.ref S1.len,ι',T',((x1.trans x2).trans x3).trans x',⟨y,zbh x'.pre (hh2.last y),rfl⟩,hT,w2⟩⟩
   |_=>cases hn
 · exact w2.elim
theorem zm0 (G:Gd T cf k N sc X){c f j:Nat}{x:Str}{ces:CEs}{e:Expr}{es:List Expr}(hi:T.inits.contains (c,f,j)=true)(hx:T.cls[c]?=some x)(hg:isGl sc x=true)(hd:(x == ("__debug__":Str))=false)(ha:PA X (e::es) (tAs X.K cf ces))(hst:(e::es).all zav=true) :
  PE X (.Call (.Name x p) (e::es) [] pos) (tE X.K cf (.mk c f x j ces)):=by
 obtain⟨C,fa,fd,ps,hC,M,F,hb⟩:=(G.tab.ini c f j hi).ex
 obtain⟨x',e1,_,hm,_⟩:=G.clsAt (.inr (.inl (ne_of hi))) hC
 rw[hx] at e1;cases e1
 rw[List.all_cons,Bool.and_eq_true] at hst
 exact PE.imp (zjW M F G.room' (G.gl hg) hm hb (Vals.nons j) zh4 ha hd (zau hst.1 es X.env) (zbn hst.2)) fun σ H Qv h=>ze8 G hC (fun z=>z) h
theorem zlf (G:Gd T cf k N sc X){c f j:Nat}{x:Str}(hi:T.inits.contains (c,f,j)=true)(hx:T.cls[c]?=some x)(hg:isGl sc x=true)(hd:(x == ("__debug__":Str))=false) :
  PE X (.Call (.Name x p) [] [] pos) (tE X.K cf (.mk c f x j .nil)):=by
 obtain⟨C,fa,fd,ps,hC,M,F,hb⟩:=(G.tab.ini c f j hi).ex
 obtain⟨x',e1,_,hm,_⟩:=G.clsAt (.inr (.inl (ne_of hi))) hC
 rw[hx] at e1;cases e1
 exact PE.imp (zhY M F G.room' (G.gl hg) hm hb (Vals.nons j) zh4 hd) fun σ H Qv h=>ze8 G hC (fun z=>zh9 rfl z) h
end
end R
end
section
namespace R
open PySem PySem.Spec PyProof.Rows L2
variable [Mks]
section
variable {prog:Program} {w:World} {A:Around} {E:Value->Shared->Prop} {s:Shared}
theorem zbO {t sl:Addr}{items:Array Value}{vl vu:Value}{lo hi:Option Int}{Q:Value->Shared->Prop}(ht:IsTup s.heap t items)(hs:s.heap.IsSliceOf sl vl vu .none)(pl:IsPart vl lo)(pu:IsPart vu hi)
  (hw:HT.sIx items.size 0 lo=0/\HT.sIx items.size items.size hi=items.size)
  (h:Q (.ref t) s):wpAny (model prog w) A (getItem (.ref t) (.ref sl)) Q E s:=by
 obtain⟨os,hos,hcs,hds⟩:=id hs
 have hTs:s.TypeIs (.ref sl) "slice":=⟨os,hos,hcs⟩
 unfold getItem
 try with_reducible refine wpAny_holding ?_
 first|refine wpAny_bind (wpAny_pure ?_)|skip
 refine wpAny_bind (wpAny_sequenceKey ht.typeIs (by decide) ?_)
 refine wpAny_bind (wpAny_callSpecial?_slot (name:=Str.ofString "__getitem__") ht.typeIs PyProof.Rows.slot_tuple_getitem
  (wpAny_call_entry PyProof.Rows.slot_tuple_getitem ht.typeIs entry_tuple_getitem ?_ (args_tuple_getitem _ _)))
 show wpAny _ _ (Builtin.Tuple.tupleItemsOf (.ref t) >>= _) _ _ s
 refine wpAny_bind (tupleItemsOf_ ht ?_)
 refine wpAny_bind (wpAny_typeOf hTs ?_)
 rw[if_pos (by decide)]
 refine wpAny_bind (HT.sliceApplied_gen hs pl pu ?_)
 have hyes:(((HT.sIx items.size 0 lo:Nat):Int) == 0&&(1:Int) == 1&&(HT.sIx items.size items.size hi - HT.sIx items.size 0 lo) == items.size)=true:=by
  rw[hw.1,hw.2]
  simp
 show wpAny _ _ (if (((HT.sIx items.size 0 lo:Nat):Int) == 0&&(1:Int) == 1&&(HT.sIx items.size items.size hi - HT.sIx items.size 0 lo) == items.size)=true then _ else _) _ _ s
 rw[if_pos hyes]
 unfold Builtin.Tuple.tupleIsExact
 refine wpAny_bind (wpAny_bind (wpAny_typeOf ht.typeIs (wpAny_pure ?_)))
 rw[if_pos (by decide)]
 exact wpAny_bind (wpAny_rule (wpAny_pure ⟨_,rfl,wpAny_pure h⟩))
end
section
variable {T:Tab} {cf:CF} {k:Nat} {N:List Str} {sc:Scope} {X:Cx} {pos p:Pos}
noncomputable def rSlW (K:PySem.W.Frag):V->Option Int->Option Int->Hp->VK->Prop:=fun x lo hi H Q=>∃a xs,x=.ref a/\SqT K H a xs/\
 (HT.sIx xs.length 0 lo=0/\HT.sIx xs.length xs.length hi=xs.length)/\Q (.ref a) H
theorem zhC:SlR X (rSlW X.K):=by
 intro pins s σ H x v vl vu lo hi sl Q I rx hs pl pu h
 obtain⟨a,xs,rfl,hx,hw,q⟩:=h
 cases rx
 obtain⟨its,r,ht,hz⟩:=I.tuple hx
 have hlen:its.toArray.size=xs.length:=by rw[List.size_toArray];exact r.length.symm
 exact⟨"tuple",_,PyProof.Rows.slot_tuple_getitem.lookup,ht.typeIs,zbO ht hs pl pu (by rw[hlen];exact hw) ⟨.ref a,H,I,rfl,q⟩⟩
theorem zeY (n d:Nat)(o:Option Int):R.sIx n d o=HT.sIx n d o:=by
 cases o<;>rfl
theorem zhh {α:Type}{xs:List α}{lo hi:Option Int}(h:HT.sIx xs.length 0 lo=0/\HT.sIx xs.length xs.length hi=xs.length):cut xs lo hi=xs:=by
 unfold cut
 rw[zeY,zeY,h.1,h.2]
 simp
theorem RVs.cut {K:PySem.W.Frag}{ι:List Addr}{H:Hp}{ds:List D}{xs:List V}(r:RVs K ι H ds xs)(lo hi:Option Int):RVs K ι H (R.cut ds lo hi) (cutV xs lo hi):=by
 have hl:=r.length
 unfold R.cut cutV
 rw[zeY,zeY,hl]
 exact (r.drop _).take _
inductive PartOk (X:Cx) (cf:CF):Bool->CE->Option Expr->Prop where
 |no {c:CE} (h:∃d,c=.con d):PartOk X cf false c none
 |yes {c:CE} {e:Expr} (h:PE X e (tE X.K cf c)):PartOk X cf true c (some e)
theorem zmY {ca clo chi:CE}{ml mh:Bool}{a:Expr}{lo hi:Option Expr}{p2:Pos}(ha:PE X a (tE X.K cf ca))(hlo:PartOk X cf ml clo lo)(hhi:PartOk X cf mh chi hi):PE X (.Subscript a (.Slice lo hi none p2) pos) (tE X.K cf (.sl ca ml mh clo chi)):=by
 have fin:∀{σ:L2.St} {δ:Ev} {ι ι1:List Addr} {H H1:Hp} {S1:R.St} {Q:D->R.St->Prop} {Qv:VK} {d:D} {v:V} {y z:Option Int},Ext ι H ι1 H1->RH X.K ι1 H1 S1->RV X.K ι1 H1 d v->(∀v H',Lf X.K ι H Q v H'->Qv v H')->
   W (match d with|.tup ds=>.ok (.tup (R.cut ds y z)) S1|.fix ds=>lay S1 (R.cut ds y z)|.ref p=>(match S1.get p with|some (.lst ds)=>lay S1 (R.cut ds y z)|_=>.bad)|_=>.bad) Q->
   (rSlL X.K v y z H1 Qv\/rSlT X.K v y z H1 Qv)\/rSlW X.K v y z H1 Qv:=by
  intro σ δ ι ι1 H H1 S1 Q Qv d v y z x hh r q w
  cases d with
  | tup ds =>
    obtain⟨a,xs,rfl,ha,rr⟩:=r
    by_cases hw:HT.sIx xs.length 0 y=0/\HT.sIx xs.length xs.length z=xs.length
    · refine .inr ⟨a,xs,rfl,SqT.of ha,hw,q _ _ (Lf.up x (Lf.of (d:=.tup ds) hh ⟨a,xs,rfl,ha,rr⟩ ?_))⟩
      have e:R.cut ds y z=ds:=zhh (by rw[<-rr.length];exact hw)
      dsimp only at w
      rw[e] at w
      exact w
    · exact .inl (.inr ⟨a,xs,rfl,SqT.of ha,hw,fun p hp=>q _ _ (Lf.up x (Lf.tup hh hp (rr.cut y z) w))⟩)
  | fix ds =>
    obtain⟨a,xs,rfl,ha,rr⟩:=r
    obtain⟨_,w2⟩:=zcy w
    exact .inl (.inl ⟨a,xs,rfl,ha.sq,fun p hp=>q _ _ (Lf.up x (Lf.lst hh hp (rr.cut y z) w2))⟩)
  | ref l =>
    dsimp only at w
    cases e:S1.get l with
    |none=>rw[e] at w;exact w.elim
    | some o =>
      rw[e] at w
      cases o with
      | lst ds =>
        obtain⟨a,h1,rfl⟩:=r
        obtain⟨b,h2,xs,ha,rr⟩:=hh.obj _ _ e
        rw[h1] at h2;cases h2
        obtain⟨_,w2⟩:=zcy w
        exact .inl (.inl ⟨a,xs,rfl,SqL.of ha,fun p hp=>q _ _ (Lf.up x (Lf.lst hh hp (rr.cut y z) w2))⟩)
      |_=>exact w.elim
  |_=>exact w.elim
 have part:∀{m:Bool} {c:CE} {o:Option Expr},PartOk X cf m c o->∃t,PO X o t/\∀{δ:Ev} {σ:L2.St} {ι:List Addr} {H:Hp} {S:R.St} {Q:D->R.St->Prop} {Qv:Option Int->Hp->Prop},RS X.K ι H δ σ->RH X.K ι H S->W (evE cf c δ S) Q->
   (∀d S',Q d S'->∃z,zbq m d=some z)->
   (∀d ι' H' S' z,Ext ι H ι' H'->RS X.K ι' H' δ σ->RH X.K ι' H' S'->Q d S'->zbq m d=some z->Qv z H')->t σ H Qv:=by
  intro m c o h
  cases h with
  | no h =>
    obtain⟨d,rfl⟩:=h
    refine⟨_,zjU,fun {δ σ ι H S Q Qv} hs hh w hp h=>?_⟩
    simp only[evE] at w
    exact h d ι H S none (Ext.refl _ _) hs hh w rfl
  | yes h =>
    refine⟨_,zjT h,fun {δ σ ι H S Q Qv} hs hh w hp h=>?_⟩
    refine tE.run hs hh w fun d v ι1 H1 S1 x1 hs1 hh1 r1 w1=>?_
    obtain⟨z,hz⟩:=hp d S1 w1
    cases d with
    | int i =>
      obtain rfl:v=.int i:=r1
      exact⟨i,rfl,h _ _ _ _ _ x1 hs1 hh1 w1 rfl⟩
    |_=>cases hz
 obtain⟨tl,pl,rl⟩:=part hlo
 obtain⟨th,ph,rh⟩:=part hhi
 refine PE.imp (zhX (SlR.or (SlR.or zjq zk9) zhC) ha pl ph) fun σ H Qv ⟨δ,ι,S,Q,hs,hh,w,q⟩=>?_
 simp only[evE,zac] at w
 refine tE.run hs hh w fun d v ι1 H1 S1 x1 hs1 hh1 r1 w1=>?_
 have hz:∀(b:Bool) (y:D),zbq b y=none\/∃z,zbq b y=some z:=fun b y=>by cases zbq b y<;>simp
 refine rl hs1 hh1 w1 (fun y S2 w2=>?_) fun y ι2 H2 S2 zl x2 hs2 hh2 w2 hzl=>?_
 · rcases hz ml y with e|e
   · rw[W.iff] at w2
     obtain⟨u,S3,_,w3⟩:=w2
     rw[e] at w3;exact w3.elim
   · exact e
 · refine rh hs2 hh2 w2 (fun u S3 w3=>?_) fun u ι3 H3 S3 zh x3 hs3 hh3 w3 hzh=>?_
   · rcases hz mh u with e|e
     · rw[hzl,e] at w3;exact w3.elim
     · exact e
   · rw[hzl,hzh] at w3
     exact fin (σ:=σ) (δ:=δ) ((x1.trans x2).trans x3) hh3 (r1.ext (x2.trans x3)) q w3
end
end R
end
section
namespace R
open PySem PySem.Spec PyProof.Rows L2
variable [Mks]
noncomputable def rB (K:PySem.W.Frag)(f:R.St->List D->Out D):List V->Hp->VK->Prop:=fun xs H Qv=>∃ι S ds Qd,RVs K ι H ds xs/\RH K ι H S/\W (f S ds) Qd/\∀v H',Lf K ι H Qd v H'->Qv v H'
section
variable {T:Tab} {cf:CF} {k:Nat} {N:List Str} {sc:Scope} {X:Cx} {pos p:Pos}
theorem RVs.one {K:PySem.W.Frag}{ι:List Addr}{H:Hp}{d:D}{xs:List V}(r:RVs K ι H [d] xs):∃v,xs=[v]/\RV K ι H d v:=by
 obtain⟨v,w,rfl,r1,r2⟩:=r
 cases (show w=[] from r2)
 exact⟨v,rfl,r1⟩
theorem RVs.two {K:PySem.W.Frag}{ι:List Addr}{H:Hp}{d e:D}{xs:List V}(r:RVs K ι H [d,e] xs):∃v u,xs=[v,u]/\RV K ι H d v/\RV K ι H e u:=by
 obtain⟨v,w,rfl,r1,r2⟩:=r
 obtain⟨u,rfl,r3⟩:=RVs.one r2
 exact⟨v,u,rfl,r1,r3⟩
theorem zl5:zbc X (.builtin "len") (rB X.K fun S ds=>R.bi S .len ds):=by
 intro pins s σ H xs us Qv I rv ⟨ι,S,ds,Qd,r,hh,w,q⟩
 dsimp only at w
 unfold bi at w
 split at w
 case h_1 x=>
  obtain⟨v,rfl,rr⟩:=r.one
  split at w
  · obtain⟨a,xs,rfl,ha,r2⟩:=rr
    refine zbx pins s σ H _ us Qv I rv ⟨a,xs,rfl,.inr (SqT.of ha),?_⟩
    rw[r2.length]
    exact q _ _ (Lf.of (d:=.int _) hh rfl w)
  · obtain⟨a,xs,rfl,ha,r2⟩:=rr
    refine zbx pins s σ H _ us Qv I rv ⟨a,xs,rfl,.inl ha.sq,?_⟩
    rw[r2.length]
    exact q _ _ (Lf.of (d:=.int _) hh rfl w)
  · rename_i l
    obtain⟨a,h1,rfl⟩:=rr
    cases e:S.get l with
    |none=>rw[e] at w;exact w.elim
    | some o =>
      rw[e] at w
      obtain⟨b,h2,h3⟩:=hh.obj _ _ e
      rw[h1] at h2;cases h2
      cases o with
      | lst ds =>
        obtain⟨xs,ha,r2⟩:=h3
        refine zbx pins s σ H _ us Qv I rv ⟨a,xs,rfl,.inl (SqL.of ha),?_⟩
        rw[r2.length]
        exact q _ _ (Lf.of (d:=.int _) hh rfl w)
      | dic kvs =>
        obtain⟨_,ws,ha,rk⟩:=h3
        refine zhm pins s σ H _ us Qv I rv ⟨a,ws,rfl,ha,?_⟩
        rw[rk.length]
        exact q _ _ (Lf.of (d:=.int _) hh rfl w)
      |ins _ _=>exact w.elim
      |d3 _=>exact w.elim
      | dtp kvs =>
        obtain⟨_,ws,ha,rk⟩:=h3
        refine znn pins s σ H _ us Qv I rv ⟨a,ws,rfl,ha,?_⟩
        rw[rk.length]
        exact q _ _ (Lf.of (d:=.int _) hh rfl w)
  · exact w.elim
 all_goals first|exact w.elim|(rename_i h;cases h)
theorem zmD:zbc X (.builtin "abs") (rB X.K fun S ds=>R.bi S .abs ds):=by
 intro pins s σ H xs us Qv I rv ⟨ι,S,ds,Qd,r,hh,w,q⟩
 dsimp only at w
 unfold bi at w
 split at w
 case h_2 i _=>
  obtain⟨v,rfl,rr⟩:=r.one
  obtain rfl:v=.int i:=rr
  exact ziA pins s σ H _ us Qv I rv ⟨i,rfl,q _ _ (Lf.of (d:=.int _) hh rfl w)⟩
 all_goals first|exact w.elim|(rename_i h;cases h)
theorem zl2 (hc:X.calm=true):zbc X (.builtin "max") (rB X.K fun S ds=>R.bi S .max2 ds):=by
 intro pins s σ H xs us Qv I rv ⟨ι,S,ds,Qd,r,hh,w,q⟩
 dsimp only at w
 unfold bi at w
 split at w
 case h_3 i j _=>
  obtain⟨v,u,rfl,r1,r2⟩:=r.two
  obtain rfl:v=.int i:=r1
  obtain rfl:u=.int j:=r2
  exact zhl hc pins s σ H _ us Qv I rv ⟨i,j,rfl,q _ _ (Lf.of (d:=.int _) hh rfl w)⟩
 all_goals first|exact w.elim|(rename_i h;cases h)
theorem zl1 (hc:X.calm=true):zbc X (.builtin "min") (rB X.K fun S ds=>R.bi S .min2 ds):=by
 intro pins s σ H xs us Qv I rv ⟨ι,S,ds,Qd,r,hh,w,q⟩
 dsimp only at w
 unfold bi at w
 split at w
 case h_4 i j _=>
  obtain⟨v,u,rfl,r1,r2⟩:=r.two
  obtain rfl:v=.int i:=r1
  obtain rfl:u=.int j:=r2
  exact zhk hc pins s σ H _ us Qv I rv ⟨i,j,rfl,q _ _ (Lf.of (d:=.int _) hh rfl w)⟩
 all_goals first|exact w.elim|(rename_i h;cases h)
theorem zbH (G:Gd T cf k N sc X){x:Str}(h:bltB T sc x=true):Gl X x/\X.mg x=none:=by
 unfold bltB at h
 rw[Bool.and_eq_true] at h
 exact⟨G.gl h.1,G.tab.blt x h.2⟩
theorem zm2 {b:Bi}{id:String}{x:Str}{ces:CEs}{e:Expr}{es:List Expr}(hc:zbc X (.builtin id) (rB X.K fun S ds=>R.bi S b ds))(hg:Gl X x/\X.mg x=none)(hv:bootBuiltins x=some (.builtin id))(ha:PA X (e::es) (tAs X.K cf ces))(hst:(e::es).all zav=true)(hn:x≠"__name__")(hdb:(x == ("__debug__":Str))=false) :
  PE X (.Call (.Name x p) (e::es) [] pos) (tE X.K cf (.bi b ces)):=by
 rw[List.all_cons,Bool.and_eq_true] at hst
 refine PE.imp (ze4 hc hg.1 hg.2 hv ha hn hdb (zau hst.1 es X.env) (zbn hst.2)) fun σ H Qv ⟨δ,ι,S,Q,hs,hh,w,q⟩=>?_
 simp only[evE,zac] at w
 refine tAs.run hs hh w fun ds vs ι1 H1 S1 x1 hs1 hh1 r1 w1=>?_
 exact⟨ι1,S1,ds,Q,r1,hh1,w1,fun v H' l=>q v H' (Lf.up x1 l)⟩
theorem zjh {ι:List Addr}{H:Hp}{S:R.St}{d:D}{v:V}{a:String}(hh:RH X.K ι H S)(r:RV X.K ι H d v)(h:tyOf S d=some a):zb6 H v=some a:=by
 cases d with
 |non=>obtain rfl:v=.non:=r;exact h
 |bl b=>obtain rfl:v=.bl b:=r;exact h
 |int b=>obtain rfl:v=.int b:=r;exact h
 |str b=>obtain rfl:v=.str b:=r;exact h
 | tup ds =>
   obtain⟨p,xs,rfl,ha,_⟩:=r
   simp only[tyOf] at h
   simp only[zb6,ha]
   exact h
 | ref l =>
   obtain⟨p,h1,rfl⟩:=r
   simp only[tyOf] at h
   simp only[zb6]
   cases e:S.get l with
   |none=>rw[e] at h;cases h
   | some o =>
     rw[e] at h
     obtain⟨b,h2,h3⟩:=hh.obj _ _ e
     rw[h1] at h2;cases h2
     cases o with
     |lst ds=>obtain⟨xs,ha,_⟩:=h3;rw[ha];exact h
     |dic kvs=>obtain⟨_,ws,ha,_⟩:=h3;rw[ha];exact h
     |ins _ _=>cases h
     |d3 _=>cases h
     |dtp kvs=>obtain⟨_,ws,ha,_⟩:=h3;rw[ha];exact h
 |fix ds=>cases h
 |clo ds=>cases h
theorem zjv (G:Gd T cf k N sc X){t:String}{y:Str}{p2:Pos}{ce:CE}{e:Expr}(hg:Gl X "isinstance"/\X.mg "isinstance"=none)(hy:Gl X y/\X.mg y=none)(hb:bootBuiltins y=some (.type t))(ht:t∈["bool","int","str","list","tuple","dict"])(hyn:y≠"__name__")(hyd:(y == ("__debug__":Str))=false)
  (he:PE X e (tE X.K cf ce)) (hst:zav e=true):PE X (.Call (.Name "isinstance" p) [e,.Name y p2] [] pos) (tE X.K cf (.bi (.isin t) (.cons ce .nil))):=by
 refine PE.imp (ze4 zeP hg.1 hg.2 zds (zbr he (zbr (zj0 (v:=.ty t) hy.1 hy.2 hb rfl hyn hyd) ze5) (zau hst _ X.env)) (by decide) (by decide) (zau hst _ X.env)) fun σ H Qv ⟨δ,ι,S,Q,hs,hh,w,q⟩=>?_
 simp only[evE,evEs,zac,W_ok] at w
 refine tE.run hs hh w fun d v ι1 H1 S1 x1 hs1 hh1 r1 w1=>?_
 simp only[bi] at w1
 cases e:tyOf S1 d with
 |none=>rw[e] at w1;exact w1.elim
 | some a =>
   rw[e] at w1
   exact⟨v,t,a,rfl,zjh hh1 r1 e,ht,q _ _ (Lf.up x1 (Lf.of (d:=.bl _) hh1 rfl w1))⟩
theorem zgT {ι:List Addr}{H:Hp}{S:R.St}{d:D}{v:V}(hh:RH X.K ι H S)(r:RV X.K ι H d v)(h:isL S d=true):tyV X.K "list" v H:=by
 cases d with
 | ref l =>
   obtain⟨p,h1,rfl⟩:=r
   simp only[isL] at h
   cases e:S.get l with
   |none=>rw[e] at h;cases h
   | some o =>
     rw[e] at h
     obtain⟨b,h2,h3⟩:=hh.obj _ _ e
     rw[h1] at h2;cases h2
     cases o with
     |lst ds=>obtain⟨xs,ha,_⟩:=h3;exact .inl ⟨rfl,xs,SqL.of ha⟩
     |_=>cases h
 |_=>cases h
noncomputable def rM (K:PySem.W.Frag)(m:Mt):V->List V->Hp->VK->Prop:=fun x xs H Qv=>∃ι S d ds Qd,RV K ι H d x/\RVs K ι H ds xs/\RH K ι H S/\W (R.mt S m d ds) Qd/\∀v H',Lf K ι H Qd v H'->Qv v H'
theorem zht:MtR X "list.append" (rM X.K .append):=by
 intro pins s σ H x xs v us Qv I rx rv ⟨ι,S,d,ds,Qd,r,rs,hh,w,q⟩
 unfold R.mt at w
 split at w
 case h_1 l y _=>
  obtain⟨a,h1,rfl⟩:=r
  obtain⟨u,rfl,ru⟩:=rs.one
  cases e:S.get l with
  |none=>rw[e] at w;exact w.elim
  | some o =>
    rw[e] at w
    obtain⟨b,h2,h3⟩:=hh.obj _ _ e
    rw[h1] at h2;cases h2
    cases o with
    | lst ds =>
      obtain⟨zs,ha,r2⟩:=h3
      obtain⟨c,S',hp,w2⟩:=zhx w
      refine zdP pins s σ H _ _ v us Qv I rx rv ⟨a,zs,u,rfl,rfl,ha,?_,?_⟩
      · rw[r2.length]
        rw[List.length_append,List.length_singleton] at c
        omega
      · exact q _ _ (Lf.wr (d:=.non) hh e h1 hp (r2.append ⟨u,[],rfl,ru,rfl⟩) rfl w2)
    |_=>exact w.elim
 all_goals first|exact w.elim|(rename_i h;cases h)
theorem zhU:MtR X "list.pop" (rM X.K .popAt):=by
 intro pins s σ H x xs v us Qv I rx rv ⟨ι,S,d,ds,Qd,r,rs,hh,w,q⟩
 unfold R.mt at w
 split at w
 case h_2 l i _=>
  obtain⟨a,h1,rfl⟩:=r
  obtain⟨u,rfl,ru⟩:=rs.one
  obtain rfl:u=.int i:=ru
  cases e:S.get l with
  |none=>rw[e] at w;exact w.elim
  | some o =>
    rw[e] at w
    obtain⟨b,h2,h3⟩:=hh.obj _ _ e
    rw[h1] at h2;cases h2
    cases o with
    | lst ds =>
      obtain⟨zs,ha,r2⟩:=h3
      dsimp only at w
      split at w
      · rename_i c0
        cases ey:ds[i.toNat]? with
        |none=>rw[ey] at w;exact w.elim
        | some y =>
          rw[ey] at w
          obtain⟨c,S',hp,w2⟩:=zhx w
          obtain⟨u,eu,ru⟩:=r2.get ey
          have hlt:i.toNat<zs.length:=(List.getElem?_eq_some_iff.mp eu).1
          have hz:zs.length<=sizeLine:=(I.lstM ha).1
          rw[sizeLine_eq] at hz
          refine zia pins s σ H _ _ v us Qv I rx rv ⟨a,zs,i,i.toNat,u,rfl,rfl,ha,by omega,by omega,?_,eu,?_⟩
          · exact PySem.StrLaws.seqIndex_nonneg c0 (by omega)
          · exact q _ _ (Lf.wr (d:=y) hh e h1 hp (r2.erase _) ru w2)
      · exact w.elim
    |_=>exact w.elim
 all_goals first|exact w.elim|(rename_i h;cases h)
theorem zfW:∀{ds:List D} {os:List (Option Int)},zbK ds=some os->ds=os.map fun o=>match o with|some i=>D.int i|none=>D.non:=by
 intro ds
 unfold zbK
 induction ds with
 |nil=>intro os h;simp at h;subst h;rfl
 | cons d ds ih =>
   intro os h
   obtain⟨y,r,h1,h2,rfl⟩:=zaI h
   rw[ih h2]
   cases d<;>simp[zcg] at h1<;>subst h1<;>rfl
noncomputable def wV:Option Int->V
 |some i=>.int i
 |none=>.non
theorem zeS {K:PySem.W.Frag}{ι:List Addr}{H:Hp}:∀{os:List (Option Int)} {vs:List V},RVs K ι H (os.map fun o=>match o with|some i=>D.int i|none=>D.non) vs->vs=os.map wV
 | [],_,h=>h
 | o :: os, vs, h => by
   obtain⟨v,r,rfl,h1,h2⟩:=h
   rw[zeS h2]
   cases o<;>rw[show v=_ from h1]<;>rfl
noncomputable def isI (i:Int):Value->Bool
 |.int j _=>j == i
 |_=>false
theorem zc1 (i:Int):∀{os:List (Option Int)} {us:List Value},Vals (os.map wV) us->(∀y∈us,y=Value.none\/∃a u,y=Value.int a u)/\us.countP (isI i)=os.count (some i)
 | [],us,r=>by cases r;exact⟨fun y hy=>by simp at hy,rfl⟩
 | o :: os, us, r => by
   cases r with
   | @cons _ u _ us r1 r2 =>
     obtain⟨h1,h2⟩:=zc1 i r2
     cases o with
     | none =>
       obtain rfl:u=Value.none:=r1
       refine⟨fun y hy=>?_,?_⟩
       · rcases List.mem_cons.mp hy with rfl|hy
         · exact .inl rfl
         · exact h1 y hy
       · rw[List.countP_cons,List.count_cons,h2];simp[isI]
     | some j =>
       obtain⟨t,rfl⟩:∃t,u=Value.int j t:=r1
       refine⟨fun y hy=>?_,?_⟩
       · rcases List.mem_cons.mp hy with rfl|hy
         · exact .inr ⟨_,_,rfl⟩
         · exact h1 y hy
       · rw[List.countP_cons,List.count_cons,h2];simp[isI]
theorem ziw:MtR X "list.count" (rM X.K .count):=by
 intro pins s σ H x xs v us Qv I rx rv ⟨ι,S,d,ds,Qd,r,rs,hh,w,q⟩
 unfold R.mt at w
 split at w
 case h_3 l i _=>
  obtain⟨a,h1,rfl⟩:=r
  obtain⟨u,rfl,ru⟩:=rs.one
  obtain rfl:u=.int i:=ru
  cases e:S.get l with
  |none=>rw[e] at w;exact w.elim
  | some o =>
    rw[e] at w
    obtain⟨b,h2,h3⟩:=hh.obj _ _ e
    rw[h1] at h2;cases h2
    cases o with
    | lst ds =>
      obtain⟨zs,ha,r2⟩:=h3
      dsimp only at w
      cases e2:zbK ds with
      |none=>rw[e2] at w;exact w.elim
      | some os =>
        rw[e2] at w
        rw[zfW e2] at r2
        cases zeS r2
        obtain⟨its,rz,pl,_⟩:=I.list (SqL.of ha)
        obtain⟨u1,rfl,ru1⟩:=Vals.one rv
        obtain⟨t,rfl⟩:=ru1
        cases rx
        obtain⟨c1,c2⟩:=zc1 i rz
        have hl:=pl.isList
        obtain⟨⟨cls,dd,data,sl⟩,ho,hc,n,hd⟩:=id hl
        simp only at hc hd
        subst hc hd
        refine call_meets PySem.F.slot_list_count ⟨_,ho,rfl⟩ PySem.F.entry_list_count (PySem.F.args_list_count_2 _ _) (PySem.SeqAt.list_countAt a its.toArray n dd sl (.int i t) (isI i)) ⟨ho,fun y hy=>?_,?_⟩
        · rcases c1 y (by simpa using hy) with rfl|⟨j,u,rfl⟩
          · exact PySem.SeqAt.EqAt.none_int i t
          · exact PySem.SeqAt.EqAt.int_int j u i t
        · rw[show its.toArray.toList=its from rfl,c2]
          exact⟨.int _,H,I.tok _,⟨_,rfl⟩,q _ _ (Lf.of (d:=.int _) hh rfl w)⟩
    |_=>exact w.elim
 all_goals first|exact w.elim|(rename_i h;cases h)
theorem zjt {m:Mt}{id:String}{name:Str}{co ce:CE}{o e:Expr}{apos cpos:Pos}(slot:Slot "list" name id)(hty:typeOf (.builtin id)=pure (.type "method_descriptor"))(hm:MtR X id (rM X.K m))(ho:PE X o (tE X.K cf co))(he:PE X e (tE X.K cf ce))(hst:zav e=true)(hsup:zct o=true)(hl:(apos.endLine == cpos.line)=true) :
  PE X (.Call (.Attribute o name apos) [e] [] cpos) (tE X.K cf (.mt m co (.cons ce .nil))):=by
 refine PE.imp (zlK PySem.F.plainAttrs_list slot hty hm ho (zf7 he ziR hst) (zf5 hsup name X.env _) (by rw[zau hst];rfl) hl (zau hst [] X.env)) fun σ H Qv ⟨δ,ι,S,Q,hs,hh,w,q⟩=>?_
 simp only[evE,zac] at w
 refine tE.run hs hh w fun d v ι1 H1 S1 x1 hs1 hh1 r1 w1=>?_
 split at w1
 · rename_i c
   refine⟨zgT hh1 r1 c,?_⟩
   rw[zac] at w1
   refine tAs.run hs1 hh1 w1 fun ds vs ι2 H2 S2 x2 hs2 hh2 r2 w2=>?_
   exact⟨ι2,S2,d,ds,Q,r1.ext x2,r2,hh2,w2,fun z H3 l=>q z H3 (Lf.up (x1.trans x2) l)⟩
 · exact w1.elim
end
end R
end
section
namespace R
open PySem PySem.Spec PyProof.Rows L2
variable [Mks]
section
variable {T:Tab} {cf:CF} {k:Nat} {N:List Str} {sc:Scope} {X:Cx} {pos p:Pos}
theorem SqK.seq {K:PySem.W.Frag}{ι:List Addr}{H:Hp}{S:R.St}{a:Addr}{xs:List V}{ds:List D}{lks:List Nat}(h:SqK K ι H S a xs ds lks):SqL K H a xs\/SqT K H a xs:=by
 cases h with
 |tmp h e=>exact .inl (SqL.of e)
 |tup e=>exact .inr (SqT.of e)
 |fix e=>exact .inl e.sq
 |own l hl hi hs e=>exact .inl (SqL.of e)
theorem zk8 {ce:CE}{e:Expr}(he:PE X e (tE X.K cf ce)):PE X e (tL X.K cf (.val ce)):=by
 refine PE.imp he fun σ H Qv ⟨δ,ι,S,Q,hs,hh,w,q⟩=>?_
 simp only[evL,zac] at w
 refine tE.run hs hh w fun d v ι1 H1 S1 x1 hs1 hh1 r1 w1=>?_
 obtain⟨ds,eq,w2⟩:=za6 w1
 refine q v H1 ⟨ds,lkOf S1 d,ι1,S1,x1,?_,hh1,w2⟩
 cases d with
 | tup es =>
   cases eq
   obtain⟨a,xs,rfl,ha,rr⟩:=r1
   exact⟨a,xs,rfl,rr,.tup ha⟩
 | fix es =>
   cases eq
   obtain⟨a,xs,rfl,ha,rr⟩:=r1
   exact⟨a,xs,rfl,rr,.fix ha⟩
 | ref l =>
   simp only[za7] at eq
   split at eq
   · rename_i ds' e
     cases eq
     obtain⟨a,h1,rfl⟩:=r1
     obtain⟨a2,h2,xs,ha,rr⟩:=hh1.obj _ _ e
     rw[h1] at h2;cases h2
     exact⟨a,xs,rfl,rr,.own l (by simp[lkOf]) h1 e ha⟩
   · cases eq
 |_=>cases eq
theorem zbM {e:Expr}{te:TE}(he:PE X e te)(hst:zav e=true):PA X [e] (zf3 te tNil):=zbr he ze5 (zau hst [] X.env)
theorem zle (G:Gd T cf k N sc X){cl:CL}{e:Expr}(hg:Gl X "tuple"/\X.mg "tuple"=none)(he:PE X e (tL X.K cf cl))(hst:zav e=true):PE X (.Call (.Name "tuple" p) [e] [] pos) (tE X.K cf (.mkT cl)):=by
 refine PE.imp (zbT zdr hg.1 hg.2 zfu (zbM he hst) (by decide) (by decide) (zau hst [] X.env)) fun σ H Qv ⟨δ,ι,S,Q,hs,hh,w,q⟩=>?_
 simp only[evE,zac] at w
 refine tL.run hs hh w fun ds lks v ι1 H1 S1 x1 hs1 hh1 sq w1=>?_
 split at w1
 · rename_i c
   obtain⟨a,xs,rfl,rr,kd⟩:=sq
   have fresh:SqL X.K H1 a xs->∃p ys,[V.ref a]=[V.ref p]/\((SqL X.K H1 p ys/\∀l,H1 l=none->Qv (.ref l) (upd H1 l (.tup ys)))\/(SqT X.K H1 p ys/\Qv (.ref p) H1)):=fun h=>
    ⟨a,xs,rfl,.inl ⟨h,fun l hl=>q _ _ (Lf.up x1 (Lf.tup hh1 hl rr w1))⟩⟩
   cases kd with
   |tmp h e=>exact fresh (SqL.of e)
   |fix e=>exact fresh e.sq
   |own l hl hi hs e=>exact fresh (SqL.of e)
   |tup e=>exact⟨a,xs,rfl,.inr ⟨SqT.of e,q _ _ (Lf.up x1 (Lf.of (d:=.tup ds) hh1 ⟨a,xs,rfl,e,rr⟩ w1))⟩⟩
 · exact w1.elim
theorem ziN (G:Gd T cf k N sc X){cl:CL}{e:Expr}(hg:Gl X "list"/\X.mg "list"=none)(he:PE X e (tL X.K cf cl))(hst:zav e=true):PE X (.Call (.Name "list" p) [e] [] pos) (tE X.K cf (.mkL cl)):=by
 refine PE.imp (zbT zeb hg.1 hg.2 zeQ (zbM he hst) (by decide) (by decide) (zau hst [] X.env)) fun σ H Qv ⟨δ,ι,S,Q,hs,hh,w,q⟩=>?_
 simp only[evE,zac] at w
 refine tL.run hs hh w fun ds lks v ι1 H1 S1 x1 hs1 hh1 sq w1=>?_
 obtain⟨c,w2⟩:=zcy w1
 obtain⟨a,xs,rfl,rr,kd⟩:=sq
 exact⟨a,xs,rfl,kd.seq,fun l hl=>q _ _ (Lf.up x1 (Lf.lst hh1 hl rr w2))⟩
theorem zgw {cl:CL}{σ:L2.St}{H:Hp}{Qv:VK}(h:tE X.K cf (.mkL cl) σ H Qv):tLt X.K cf cl σ H Qv:=by
 obtain⟨δ,ι,S,Q,hs,hh,w,q⟩:=h
 simp only[evE,zac] at w
 refine tLt.run hs hh w fun ds p xs ι1 H1 S1 x1 hs1 hh1 r1 hp e hn w1=>?_
 obtain⟨c,w2⟩:=zcy w1
 refine q _ _ ⟨.ref S1.len,ι1++[p],S1.push (.lst ds),?_,⟨p,hh1.last p,rfl⟩,hh1.one (l:=0) hp ⟨xs,e,r1.up (List.prefix_append _ _) (Kp.refl _)⟩,w2⟩
 refine⟨x1.pre.trans (List.prefix_append _ _),x1.kp,fun b o hb eb=>⟨(x1.rest b o hb eb).1,fun z=>?_⟩⟩
 rcases List.mem_append.mp z with z|z
 · exact (x1.rest b o hb eb).2 z
 · simp at z
   subst z
   rw[hn] at eb;cases eb
theorem zlh {ca:CE}{cl:CL}{o e:Expr}{apos cpos:Pos}(ho:PE X o (tE X.K cf ca))(he:PE X e (tLt X.K cf cl))(hst:zav e=true)(hsup:zct o=true)(hl:(apos.endLine == cpos.line)=true) :
  PE X (.Call (.Attribute o "extend" apos) [e] [] cpos) (tE X.K cf (.ext ca cl)):=by
 refine PE.imp (zlK PySem.F.plainAttrs_list PySem.F.slot_list_extend PySem.F.type_list_extend zgv ho (zbM he hst) (zf5 hsup "extend" X.env _) (by rw[zau hst];rfl) hl (zau hst [] X.env)) fun σ H Qv ⟨δ,ι,S,Q,hs,hh,w,q⟩=>?_
 simp only[evE,zac] at w
 refine tE.run hs hh w fun d v ι1 H1 S1 x1 hs1 hh1 r1 w1=>?_
 split at w1
 · rename_i c
   refine⟨zgT hh1 r1 c,?_⟩
   rw[zac] at w1
   refine tLt.run hs1 hh1 w1 fun ds b xs ι2 H2 S2 x2 hs2 hh2 rr _ hb _ w2=>?_
   cases d with
   | ref l =>
     obtain⟨a,h1,rfl⟩:=r1.ext x2
     dsimp only at w2
     cases e:S2.get l with
     |none=>rw[e] at w2;exact w2.elim
     | some o =>
       rw[e] at w2
       cases o with
       | lst es =>
         obtain⟨b',h2,zs,ha,rz⟩:=hh2.obj _ _ e
         rw[h1] at h2;cases h2
         obtain⟨c2,S',hp,w3⟩:=zhx w2
         refine⟨a,b,zs,xs,rfl,rfl,ha,hb,?_,q _ _ (Lf.up (x1.trans x2) (Lf.wr (d:=.non) hh2 e h1 hp (rz.append rr) rfl w3))⟩
         rw[rz.length,rr.length,<-List.length_append];exact c2
       |_=>exact w2.elim
   |_=>exact w2.elim
 · exact w1.elim
end
end R
end
section
set_option maxHeartbeats 4000000
namespace R
open PySem PySem.Spec PyProof.Rows L2
variable [Mks]
section
variable {T:Tab} {cf:CF} {k:Nat} {N:List Str} {sc:Scope} {X:Cx} {pos p:Pos}
theorem ziB:bootBuiltins "range"=some (.type "range"):=by decide +kernel
theorem zgh:zbc X (.type "range") (fun xs H Q=>∃j,xs=[.int j]/\∀p,H p=none->Q (.ref p) (upd H p (.rng 0 j))):=by
 intro pins s σ H xs us Q I r h
 obtain⟨j,rfl,q⟩:=h
 obtain⟨u,rfl,ru⟩:=r.one
 obtain⟨t,rfl⟩:=ru
 refine call_range_1 ⟨.ref s.heap.objs.size,_,I.laid (o:=.rng 0 j) (fun b ob e=>Heap.get?_push_of_some _ e) (Nat.le_refl _) ?_,rfl,q _ (I.hok.fresh (Nat.le_refl _))⟩
 exact⟨_,_,_,Heap.get?_push_size _ rfl⟩
theorem zid (hc:X.calm=true):zbc X (.type "list") (fun xs H Q=>∃p hi,xs=[.ref p]/\H p=some (.rng 0 hi)/\-(2 ^ 62)<=hi/\hi<2 ^ 62/\hi.toNat<=16777216/\∀l,H l=none->Q (.ref l) (upd H l (.lst ((List.range hi.toNat).map fun (j:Nat)=>.int j)))):=by
 intro pins s σ H xs us Q I r h
 obtain⟨p,hi,rfl,hp,h1,h2,h3,q⟩:=h
 obtain⟨u,rfl,ru⟩:=r.one
 cases (show u=Value.ref p from ru)
 obtain⟨t,t2,t3,e⟩:=(show ObjOk X.prog X.w H s.heap p (.rng 0 hi) from I.hok p _ hp)
 have hn:Builtin.Range.rangeSize 0 hi 1=(hi.toNat:Nat):=by rw[rangeSize_one];split<;>omega
 refine call_list_range (I.ok.hd hc) e (small_one (by decide) (by decide) h1 h2) hn h3 fun h' tk acc c kp hg it=>?_
 refine⟨.ref s.heap.objs.size,_,I.laid (o:=.lst _) kp (Nat.le_refl _) ⟨?_,acc.toList,c,?_,?_⟩,rfl,q _ (I.hok.fresh (Nat.le_refl _))⟩
 · rw[List.length_map,List.length_range,sizeLine_eq];exact h3
 · have key:∀(n:Nat) (us:List Value),us.length=n->(∀(j:Nat) (v:Value),us[j]?=some v->∃t,v=Value.int (0+(j:Int) * 1) t)->Vals ((List.range n).map fun (j:Nat)=>V.int j) us:=by
    intro n
    induction n with
    | zero => intro us hl _; cases us with
      |nil=>exact .nil
      |cons _ _=>simp at hl
    | succ n ih =>
      intro us hl hv
      have hne:us≠[]:=by intro z;subst z;simp at hl
      have hd:us=us.dropLast++[us.getLast hne]:=(List.dropLast_concat_getLast hne).symm
      rw[List.range_succ,List.map_append,hd]
      have hdl:us.dropLast.length=n:=by simp[hl]
      refine Vals.append (ih _ hdl fun j v e=>hv j v ?_) (.cons ?_ .nil)
      · have hj:j<us.dropLast.length:=(List.getElem?_eq_some_iff.mp e).1
        rw[hd,List.getElem?_append_left hj];exact e
      · obtain⟨t,e⟩:=hv n (us.getLast hne) (by
         conv=>lhs;rw[hd]
         rw[List.getElem?_append_right (by omega)]
         simp[hdl])
        exact⟨t,by simpa using e⟩
   exact key _ _ (by simpa using it.1) fun j v e=>it.2 j v (by simpa using e)
 · simpa using hg
theorem zju (G:Gd T cf k N sc X){ca:CE}{a:Expr}{p2:Pos}(hg:Gl X "list"/\X.mg "list"=none)(hr:Gl X "range"/\X.mg "range"=none)(ha:PE X a (tE X.K cf ca))(hst:zav a=true) :
  PE X (.Call (.Name "list" p) [.Call (.Name "range" p2) [a] [] pos'] [] pos) (tE X.K cf (.mkL (.rng1 ca))):=by
 have hin:=zbT (p:=p2) (pos:=pos') zgh hr.1 hr.2 ziB (zbM ha hst) (by decide) (by decide) (zau hst [] X.env)
 refine PE.imp (zbT (zid G.calm) hg.1 hg.2 zeQ (zbM hin rfl) (by decide) (by decide) rfl) fun σ H Qv ⟨δ,ι,S,Q,hs,hh,w,q⟩=>?_
 simp only[evE,evL,zac] at w
 refine tE.run hs hh w fun d v ι1 H1 S1 x1 hs1 hh1 r1 w1=>?_
 cases d with
 | int j =>
   obtain rfl:v=.int j:=r1
   dsimp only at w1
   split at w1
   · rename_i c
     obtain⟨c2,w2⟩:=zcy w1
     refine⟨j,rfl,fun pr hpr=>⟨pr,j,rfl,zai,c.1,c.2,by simpa[sizeLine_eq] using c2,fun l hl=>?_⟩⟩
     have hh2:=hh1.new hpr (.rng 0 j)
     refine q _ _ (Lf.up (x1.trans (Ext.new hpr _)) (Lf.lst hh2 hl ?_ w2))
     have:=RVs.ints (K:=X.K) (ι:=ι1) (H:=upd H1 pr (.rng 0 j)) ((List.range j.toNat).map fun (m:Nat)=>(m:Int))
     rw[List.map_map,List.map_map] at this
     exact this
   · exact w1.elim
 |_=>exact w1.elim
theorem zma {ι:List Addr}{H:Hp}{y:D}{v:V}{k:List Int}(r:RV X.K ι H y v)(h:zdj y=some k):∃b,v=.ref b/\H b=some (.tup ((kI k).map kV)):=by
 cases y with
 | tup ds =>
   obtain⟨b,xs,rfl,hb,rr⟩:=r
   simp only[zdj] at h
   rw[zbV h] at rr
   rw[rr.ints_eq] at hb
   refine⟨b,rfl,?_⟩
   rw[hb]
   unfold kI
   rw[List.map_map];rfl
 |_=>cases h
end
end R
end
section
set_option maxHeartbeats 4000000
namespace R
open PySem PySem.Spec PyProof.Rows L2
variable [Mks]
section
variable {prog:Program} {w:World} {A:Around} {E:Value->Shared->Prop} {s:Shared}
end
section
variable {T:Tab} {cf:CF} {k:Nat} {N:List Str} {sc:Scope} {X:Cx} {pos p p2 pos':Pos}
end
end R
end
section
set_option maxHeartbeats 4000000
namespace R
open PySem PySem.Spec PyProof.Rows L2
section
variable [Mks] {X:Cx} {T:Tab} {cf:CF} {k:Nat} {N:List Str} {sc:Scope} {pos p:Pos}
theorem zhD:PE X (.Dict [] [] pos) (tE X.K cf .dnew3):=by
 refine PE.imp zh0 fun σ H Qv ⟨δ,ι,S,Q,hs,hh,w,q⟩=>?_
 simp only[evE] at w
 intro p hp
 exact q _ _ ⟨.ref S.len,ι++[p],S.push (.d3 []),Ext.obj hh hp _,⟨p,hh.last p,rfl⟩,hh.obj' hp _ _ ⟨List.nodup_nil,[],zai,rfl⟩,w⟩
end
end R
end
section
namespace R
open PySem PySem.Spec PyProof.Rows L2
variable [Mks]
structure Ltr (K:PySem.W.Frag) (ι:List Addr) (H:Hp) (S:R.St) (lks:List Nat) (ι2:List Addr) (H2:Hp) (S2:R.St):Prop where
 ext:Ext ι H ι2 H2
 rh:RH K ι2 H2 S2
 lck:∀l∈lks,S2.get l=S.get l
structure Wk (K:PySem.W.Frag) (J:It) (ds:List D) (lks:List Nat) (ι:List Addr) (H:Hp) (S:R.St):Prop where
 go:∀(i:Nat) (ι2:List Addr) (H2:Hp) (S2:R.St),Ltr K ι H S lks ι2 H2 S2->i<ds.length->J.go i H2
 yld:∀(i:Nat) (ι2:List Addr) (H2:Hp) (S2:R.St) (x:V) (H':Hp),Ltr K ι H S lks ι2 H2 S2->i<ds.length->J.yld i H2 x H'->Ext ι2 H2 ι2 H'/\RH K ι2 H' S2/\∃d,ds[i]?=some d/\RV K ι2 H' d x
 stop:∀(i:Nat) (ι2:List Addr) (H2:Hp) (S2:R.St),Ltr K ι H S lks ι2 H2 S2->ds.length<=i->J.stop i H2
 lks:∀l∈lks,l<S.len
noncomputable def LfI (K:PySem.W.Frag)(ι:List Addr)(H:Hp)(Q:List D × List Nat->R.St->Prop)(J:It)(H':Hp):Prop:=∃ds lks ι' S',Ext ι H ι' H'/\RH K ι' H' S'/\Q (ds,lks) S'/\Wk K J ds lks ι' H' S'
noncomputable def tI (K:PySem.W.Frag)(cf:CF)(cl:CL):TI:=fun σ H R=>∃δ ι S Q,RS K ι H δ σ/\RH K ι H S/\W (evL cf cl δ S) Q/\∀J H',LfI K ι H Q J H'->R J H'
theorem PI.imp {X:Cx}{tg e:Expr}{t t':TI}(h:PI X tg e t)(i:∀σ H Q,t' σ H Q->t σ H Q):PI X tg e t':=fun pins s σ H Q I q=>h pins s σ H Q I (i σ H Q q)
noncomputable def iSeq (K:PySem.W.Frag)(tl:TE):TI:=fun σ H R=>tl σ H fun x H1=>∃a,x=.ref a/\(((∃xs,SqL K H1 a xs)/\R (Itl K a) H1)\/((∃xs,SqT K H1 a xs)/\R (Itt K a) H1))
section
variable {T:Tab} {cf:CF} {k:Nat} {N:List Str} {sc:Scope} {X:Cx} {pos p:Pos} {tg:Expr}
theorem zlB {l:Expr}{tl:TE}(hl:PE X l tl):PI X tg l (iSeq X.K tl):=by
 intro pins s σ H R I h
 refine thn (hl pins s σ H _ I h) fun v s1 ⟨x,H1,I1,r1,q1⟩=>?_
 obtain⟨a,rfl,q1⟩:=q1
 cases r1
 rcases q1 with ⟨⟨xs,hq⟩,q⟩|⟨⟨xs,hq⟩,q⟩
 · obtain⟨its,rv,pl,hz⟩:=I1.list hq
   refine wpAny_pyIter_list pl.isList ?_
   refine⟨s1.heap.objs.size,[s1.heap.objs.size],_,_,H1,rfl,I1.kept (t':=s1.toks) fun b o e=>Heap.get?_push_of_some _ e,zf1 a _,⟨_,Heap.get?_push_size _ rfl,rfl,rfl⟩,fun b hb=>?_,q⟩
   have e:b=s1.heap.objs.size:=by simpa using hb
   subst e
   exact I1.fpOk (Nat.le_refl _) (I1.hok.fresh (Nat.le_refl _))
 · obtain⟨its,rv,pl,hz⟩:=I1.tuple hq
   refine wpAny_pyIter_tuple (show s1.heap.IsTuple a its.toArray from pl) ?_
   refine⟨s1.heap.objs.size,[s1.heap.objs.size],_,_,H1,rfl,I1.kept (t':=s1.toks) fun b o e=>Heap.get?_push_of_some _ e,zfy a _,⟨_,Heap.get?_push_size _ rfl,rfl,rfl⟩,fun b hb=>?_,q⟩
   have e:b=s1.heap.objs.size:=by simpa using hb
   subst e
   exact I1.fpOk (Nat.le_refl _) (I1.hok.fresh (Nat.le_refl _))
theorem zei {K:PySem.W.Frag}{ι:List Addr}{H:Hp}{S:R.St}{a:Addr}{ds:List D}{lks:List Nat}(hl:∀l∈lks,l<S.len)
  (h:∀ι2 H2 S2,Ltr K ι H S lks ι2 H2 S2->∃xs,SqL K H2 a xs/\RVs K ι2 H2 ds xs/\∀ys,SqL K H2 a ys->True):Wk K (Itl K a) ds lks ι H S where
 go:=fun i ι2 H2 S2 lt hi=>by
  obtain⟨xs,hq,rr,_⟩:=h ι2 H2 S2 lt
  exact⟨xs,xs[i]'(by rw[rr.length];exact hi),hq,List.getElem?_eq_getElem _⟩
 yld:=fun i ι2 H2 S2 x H' lt hi y=>by
  obtain⟨xs,hq,rr,_⟩:=h ι2 H2 S2 lt
  obtain⟨rfl,y⟩:=y
  obtain⟨d,e,r⟩:=rr.get' (y xs hq)
  exact⟨Ext.refl _ _,lt.rh,d,e,r⟩
 stop:=fun i ι2 H2 S2 lt hi=>by
  obtain⟨xs,hq,rr,_⟩:=h ι2 H2 S2 lt
  exact⟨xs,hq,by rw[rr.length];exact hi⟩
 lks:=hl
theorem zkN {K:PySem.W.Frag}{ι:List Addr}{H:Hp}{S:R.St}{a:Addr}{ds:List D}{lks:List Nat}{xs:List V}(hl:∀l∈lks,l<S.len)(e:H a=some (.tup xs))(rr:RVs K ι H ds xs):Wk K (Itt K a) ds lks ι H S where
 go:=fun i ι2 H2 S2 lt hi=>⟨xs,xs[i]'(by rw[rr.length];exact hi),SqT.of (lt.ext.kp.tups _ _ e),List.getElem?_eq_getElem _⟩
 yld:=fun i ι2 H2 S2 x H' lt hi y=>by
  obtain⟨rfl,y⟩:=y
  obtain⟨d,e,r⟩:=(rr.ext lt.ext).get' (y xs (SqT.of (lt.ext.kp.tups _ _ e)))
  exact⟨Ext.refl _ _,lt.rh,d,e,r⟩
 stop:=fun i ι2 H2 S2 lt hi=>⟨xs,SqT.of (lt.ext.kp.tups _ _ e),by rw[rr.length];exact hi⟩
 lks:=hl
theorem ziK {cl:CL}{e:Expr}(he:PE X e (tL X.K cf cl))(hlk:∀{δ:Ev} {S:R.St} {Q:List D × List Nat->R.St->Prop},W (evL cf cl δ S) Q->W (evL cf cl δ S) fun r S'=>(∀l∈r.2,l<S'.len)/\Q r S'):PI X tg e (tI X.K cf cl):=by
 refine PI.imp (zlB he) fun σ H R ⟨δ,ι,S,Q,hs,hh,w,q⟩=>?_
 refine tL.run hs hh (hlk w) fun ds lks v ι1 H1 S1 x1 hs1 hh1 sq w1=>?_
 obtain⟨hl,w1⟩:=w1
 obtain⟨a,xs,rfl,rr,kd⟩:=sq
 refine⟨a,rfl,?_⟩
 cases kd with
 |tmp h e=>exact .inl ⟨⟨xs,SqL.of e⟩,q _ _ ⟨ds,lks,ι1,S1,x1,hh1,w1,zei hl fun ι2 H2 S2 lt=>⟨xs,SqL.of (lt.ext.keep h e (by simp)),rr.ext lt.ext,fun _ _=>trivial⟩⟩⟩
 |fix e=>exact .inl ⟨⟨xs,e.sq⟩,q _ _ ⟨ds,lks,ι1,S1,x1,hh1,w1,zei hl fun ι2 H2 S2 lt=>⟨xs,(e.kp lt.ext.kp).sq,rr.ext lt.ext,fun _ _=>trivial⟩⟩⟩
 |tup e=>exact .inr ⟨⟨xs,SqT.of e⟩,q _ _ ⟨ds,lks,ι1,S1,x1,hh1,w1,zkN hl e rr⟩⟩
 | own l hm hi hg e =>
   refine .inl ⟨⟨xs,SqL.of e⟩,q _ _ ⟨ds,lks,ι1,S1,x1,hh1,w1,zei hl fun ι2 H2 S2 lt=>?_⟩⟩
   obtain⟨b,h2,zs,hz,rz⟩:=lt.rh.obj l (.lst ds) ((lt.lck l hm).trans hg)
   rw[zbh lt.ext.pre hi] at h2;cases h2
   exact⟨zs,SqL.of hz,rz,fun _ _=>trivial⟩
theorem zl4 {ce:CE}{δ:Ev}{S:R.St}{Q:List D × List Nat->R.St->Prop}(h:W (evL cf (.val ce) δ S) Q):W (evL cf (.val ce) δ S) fun r S'=>(∀l∈r.2,l<S'.len)/\Q r S':=by
 simp only[evL,zac] at h⊢
 refine h.mono fun x S1 h1=>?_
 obtain⟨ds,e,h2⟩:=za6 h1
 rw[e]
 refine⟨fun l hl=>?_,h2⟩
 cases x with
 | ref l' =>
   simp[lkOf] at hl
   subst hl
   simp only[za7] at e
   split at e
   · rename_i e2;exact zaD e2
   · cases e
 |_=>simp[lkOf] at hl
theorem zj8 {n:Nat}{js g:List Nat}{it:CL}{c e:CE}{δ:Ev}{S:R.St}{Q:List D × List Nat->R.St->Prop}(h:W (evL cf (.comp n js g it c e) δ S) Q):W (evL cf (.comp n js g it c e) δ S) fun r S'=>(∀l∈r.2,l<S'.len)/\Q r S':=by
 simp only[evL,zac] at h⊢
 refine h.mono fun ds S1 h1=>h1.mono fun r S2 h2=>?_
 split at h2
 · rename_i c;rw[if_pos c];exact⟨fun l hl=>by simp at hl,h2⟩
 · exact h2.elim
theorem zhy {K:PySem.W.Frag}{ι:List Addr}{H:Hp}{S:R.St}(lo:Int)(n:Nat):Wk K (Itr lo n) ((List.range n).map fun (j:Nat)=>D.int (lo+j)) [] ι H S where
 go:=fun i ι2 H2 S2 lt hi=>by show i<n;simpa using hi
 yld:=fun i ι2 H2 S2 x H' lt hi y=>by
  obtain⟨rfl,rfl⟩:=y
  have hi:i<n:=by simpa using hi
  exact⟨Ext.refl _ _,lt.rh,.int (lo+i),by simp[hi],rfl⟩
 stop:=fun i ι2 H2 S2 lt hi=>by show n<=i;simpa using hi
 lks:=fun l hl=>by simp at hl
theorem zjr {ca:CE}{a:Expr}(hg:Gl X "range"/\X.mg "range"=none)(ha:PE X a (tE X.K cf ca))(hst:zav a=true):PI X tg (.Call (.Name "range" p) [a] [] pos) (tI X.K cf (.rng1 ca)):=by
 refine PI.imp (zgm hg.1 hg.2 (zbM ha hst) (zau hst [] X.env)) fun σ H R ⟨δ,ι,S,Q,hs,hh,w,q⟩=>?_
 simp only[evL,zac] at w
 refine tE.run hs hh w fun d v ι1 H1 S1 x1 hs1 hh1 r1 w1=>?_
 cases d with
 | int j =>
   obtain rfl:v=.int j:=r1
   dsimp only at w1
   split at w1
   · rename_i c
     have e:((List.range j.toNat).map fun (k:Nat)=>D.int k)=(List.range j.toNat).map fun (k:Nat)=>D.int (0+k):=by simp
     rw[e] at w1
     exact⟨j,rfl,c.1,c.2,q _ _ ⟨_,[],ι1,S1,x1,hh1,w1,zhy 0 j.toNat⟩⟩
   · exact w1.elim
 |_=>exact w1.elim
theorem zbZ {X:Cx}{pins:List (Addr × Obj)}{σ:L2.St}{H:Hp}{s:Shared}{h':Heap}{t':Nat}{fp:List Addr}(I:Inv X pins σ H s)(k:∀b o,b∉fp->s.heap.get? b=some o->h'.get? b=some o)(hf:∀b∈fp,FpOk X pins H b):Inv X pins σ H {s with heap:=h',toks:=t'}:=by
 have nit:∀b u,H b=some u->b∉fp:=fun b u e z=>by rw[(hf b z).1] at e;cases e
 refine I.step (g':=s.gens) (d':=s.drawn) (ch:=fp) (fun b hb=>?_) (fun b o _ _ hc e _=>k b o hc e) (fun b o _ _ hc e _=>⟨o.slots,k b o hc e⟩) (fun _ _ _ _ n=>n)
  (fun b o hc e=>⟨o,k b o hc e⟩) (fun _ _ e=>e) (fun _ _ _ e=>e) (fun b ps e=>⟨#[],by rw[e];simp⟩) (fun m hm=>?_) (fun b u e=>?_) I.bare
 · obtain⟨f0,f1,f2,f3,f4,f5⟩:=hf b hb
   exact⟨f3,f1,f4,f5⟩
 · obtain⟨o,es,ep,ho,r⟩:=hm
   exact⟨o,es,ep,k _ o (fun z=>(hf _ z).2.1 rfl) ho,r⟩
 · refine (I.hok b u e).stay (fun c v hc q=>k c v ?_ q) (fun _ q=>q) fun _ _ q=>q
   rcases hc with z|z
   · rw[z];exact nit b u e
   · exact nit c _ z
noncomputable def Itz (K:PySem.W.Frag)(a b:Addr):It:=
 ⟨fun i H => ∃ xs ys x y, SqL K H a xs ∧ SqL K H b ys ∧ xs[i]? = some x ∧ ys[i]? = some y,
  fun i H v H'=>∃T x y,H T=none/\v=.ref T/\H'=upd H T (.tup [x,y])/\(∀xs,SqL K H a xs->xs[i]?=some x)/\∀ys,SqL K H b ys->ys[i]?=some y,
  fun i H=>∃xs ys,SqL K H a xs/\SqL K H b ys/\(xs.length<=i\/ys.length<=i)⟩
theorem mem4 {z TI TO i1 i2 b:Addr}(h:¬b∈[z,TI,TO,i1,i2]):b≠z/\b≠TO/\b≠i1/\b≠i2:=by
 simp only[List.mem_cons,List.not_mem_nil,or_false,not_or] at h
 exact⟨h.1,h.2.2.1,h.2.2.2.1,h.2.2.2.2⟩
theorem zhA {P:Program}{w:World}{K:PySem.W.Frag}{es:List Expr}{j:Nat}{pt:Pos}{z TI TO i1 i2 a b:Addr}(D:ZipApart z TI TO i1 i2 a b):Turn P w K (.Tuple es j pt) (Itz K a b) [z,TI,TO,i1,i2] z
  (fun i h=>IsZip h z TI TO .none/\IsPair h TI (.ref i1) (.ref i2)/\(∃u v,IsPair h TO u v)/\h.IsListIter i1 a i/\h.IsListIter i2 b i) where
 mem:=by simp
 obj:=fun i h st c hc=>by
  obtain⟨h1,h2,⟨u,v,h3⟩,⟨o4,h4,_,d4⟩,⟨o5,h5,_,d5⟩⟩:=st
  simp only[List.mem_cons,List.not_mem_nil,or_false] at hc
  rcases hc with rfl|rfl|rfl|rfl|rfl
  · exact⟨_,h1,fun v z=>by cases z⟩
  · exact⟨_,h2,fun v z=>by cases z⟩
  · exact⟨_,h3,fun v z=>by cases z⟩
  · exact⟨_,h4,fun v z=>by rw[d4] at z;cases z⟩
  · exact⟨_,h5,fun v z=>by rw[d5] at z;cases z⟩
 keep:=fun i h h' st k=>by
  obtain⟨h1,h2,⟨u,v,h3⟩,h4,h5⟩:=st
  exact⟨k z (by simp) _ h1,k TI (by simp) _ h2,⟨u,v,k TO (by simp) _ h3⟩,h4.at fun o e=>k i1 (by simp) o e,h5.at fun o e=>k i2 (by simp) o e⟩
 item:=by
  intro X hP hw hK hc i pins s σ H E I hf st hg
  subst hP hw hK
  obtain⟨xs,ys,x,y,hq,hr,hx,hy⟩:=hg
  obtain⟨xv,rx,px,_⟩:=I.list hq
  obtain⟨yv,ry,py,_⟩:=I.list hr
  obtain⟨u,hu,ru⟩:=rx.get hx
  obtain⟨v,hv,rv⟩:=ry.get hy
  obtain⟨hz,hTI,⟨p,q,hTO⟩,h1,h2⟩:=st
  refine wpAny_pyNext_zip_item D hz hTI hTO h1 h2 px.isList py.isList (x:=u) (y:=v) (by simpa using hu) (by simpa using hv) fun h' a1 a2 a3 a4 a5 a6 hk=>?_
  have hn:H s.heap.objs.size=none:=I.hok.fresh (Nat.le_refl _)
  have I1:Inv X pins σ (upd H s.heap.objs.size (.tup [x,y])) {s with heap:=s.heap.push {cls:=.type "tuple",data:=.seq #[u,v]},toks:=s.toks}:=
   I.laid (t':=s.toks) (fun b u e=>Heap.get?_push_of_some _ e) (Nat.le_refl _) ⟨by rw[sizeLine_eq];simp,[u,v],.cons ru (.cons rv .nil),⟨_,Heap.get?_push_size _ rfl,rfl,_,rfl⟩⟩
  have lt:∀{c o},s.heap.get? c=some o->c≠s.heap.objs.size:=fun e=>Nat.ne_of_lt (Heap.lt_size e)
  have nf:∀c∈[z,TI,TO,i1,i2],c≠s.heap.objs.size:=by
   intro c hc
   simp only[List.mem_cons,List.not_mem_nil,or_false] at hc
   rcases hc with rfl|rfl|rfl|rfl|rfl
   · exact lt hz
   · exact lt hTI
   · exact lt hTO
   · obtain⟨o,e,_⟩:=h1;exact lt e
   · obtain⟨o,e,_⟩:=h2;exact lt e
  have hf1:∀c∈[z,TI,TO,i1,i2],FpOk X pins (upd H s.heap.objs.size (.tup [x,y])) c:=fun c hc=>by
   obtain⟨f0,f⟩:=hf c hc
   exact⟨by rw[zaf (nf c hc)];exact f0,f⟩
  have k2:∀c o,¬c∈[z,TI,TO,i1,i2]->(s.heap.push {cls:=.type "tuple",data:=.seq #[u,v]}).get? c=some o->h'.get? c=some o:=fun c o hc e=>by
   obtain⟨c1,c2,c3,c4⟩:=mem4 hc
   by_cases hs:c=s.heap.objs.size
   · subst hs
     have e2:(s.heap.push {cls:=.type "tuple",data:=.seq #[u,v]}).get? s.heap.objs.size=_:=Heap.get?_push_size _ rfl
     rw[e2] at e
     cases e
     exact a5
   · exact hk c o c1 c2 c3 c4 ((Heap.get?_push_ne _ _ _ hs).symm.trans e)
  have I2:Inv X pins σ (upd H s.heap.objs.size (.tup [x,y])) {s with heap:=h'}:=zbZ (s:={s with heap:=s.heap.push {cls:=.type "tuple",data:=.seq #[u,v]},toks:=s.toks}) (h':=h') (t':=s.toks) I1 k2 hf1
  refine⟨_,rfl,?_⟩
  refine wpAny_letOwnedTupleGo_zip a1 fun h2' hz' hs'=>?_
  refine⟨.ref s.heap.objs.size,upd H s.heap.objs.size (.tup [x,y]),zbZ (t':=s.toks) I2 (fun c o hc e=>hs'.extBut _ _ (mem4 hc).1 e) hf1,rfl,⟨_,x,y,hn,rfl,rfl,fun xs' hx'=>by rw[I.list_inj hx' hq];exact hx,fun ys' hy'=>by rw[I.list_inj hy' hr];exact hy⟩,
   ⟨hz',hs'.extBut _ _ D.TIz (hk _ _ D.TIz D.TITO D.TIi1 D.TIi2 hTI),⟨_,_,hs'.extBut _ _ D.TOz a2⟩,a3.extBut hs'.extBut D.i1z,a4.extBut hs'.extBut D.i2z⟩,fun c hc=>(hf1 c hc).1⟩
 done:=by
  intro X hP hw hK hc i pins s σ H E I hf st hg
  subst hP hw hK
  obtain⟨xs,ys,hq,hr,he⟩:=hg
  obtain⟨xv,rx,px,_⟩:=I.list hq
  obtain⟨yv,ry,py,_⟩:=I.list hr
  obtain⟨hz,hTI,⟨p,q,hTO⟩,h1,h2⟩:=st
  refine wpAny_pyNext_zip_end (I.ok.hd hc) D hz hTI hTO h1 h2 px.isList py.isList ?_ fun h' hk=>⟨rfl,zbZ (t':=s.toks) I (fun c o hc e=>(fun⟨c1,c2,c3,c4⟩=>hk c o c1 c2 c3 c4 e) (mem4 hc)) hf⟩
  have l1:=rx.length
  have l2:=ry.length
  rcases he with he|he
  · left;simp;omega
  · right;simp;omega
 self:=fun _ _ _ _ _ st h=>wpAny_pyIter_zip st.1 h
noncomputable def iZip (K:PySem.W.Frag)(t:TA):TI:=fun σ H R=>t σ H fun vs H1=>∃a b xs ys,vs=[.ref a,.ref b]/\SqL K H1 a xs/\SqL K H1 b ys/\R (Itz K a b) H1
theorem zlA {a b:Expr}{ta:TA}{p pos pt:Pos}{es:List Expr}{j:Nat}(hg:Gl X "zip")(hm:X.mg "zip"=none)(ha:PA X [a,b] ta)(hs:starEach [a,b] X.env=[(false,eval a X.env),(false,eval b X.env)])(hs2:starEach [b] X.env=[(false,eval b X.env)]) :
  PI X (.Tuple es j pt) (.Call (.Name "zip" p) [a,b] [] pos) (iZip X.K ta):=by
 intro pins s σ H R I h
 refine Call_ (zdT I hg hm boot_zip (PyProof.Rows.callWith_type1 (thn (ha pos pins s σ H _ I h) fun us s1 ⟨vs,H1,I1,r1,q1⟩=>?_) (by rw[hs,hs2]) (by rw[hs2];rfl)))
 obtain⟨l,m,xs,ys,e,q1,q2,q⟩:=q1
 subst e
 cases r1 with
 | cons r rr =>
   cases rr with
   | cons r' rr =>
     cases rr
     cases r
     cases r'
     obtain⟨xv,rx,px,_⟩:=I1.list q1
     obtain⟨yv,ry,py,_⟩:=I1.list q2
     refine call_zip_2 px.isList py.isList fun h' hz hTI hTO hi1 hi2 hsz hk=>?_
     refine wpAny_pyIter_zip hz ?_
     have l1:l<s1.heap.objs.size:=by obtain⟨_,e,_⟩:=px.isList;exact Heap.lt_size e
     have l2:m<s1.heap.objs.size:=by obtain⟨_,e,_⟩:=py.isList;exact Heap.lt_size e
     refine⟨_,_,_,_,H1,rfl,I1.kept (t':=s1.toks) hk,zhA (zipApart_new l1 l2),⟨hz,hTI,⟨_,_,hTO⟩,hi1,hi2⟩,fun c hc=>?_,q⟩
     simp only[List.mem_cons,List.not_mem_nil,or_false] at hc
     have:s1.heap.objs.size<=c:=by rcases hc with rfl|rfl|rfl|rfl|rfl<;>omega
     exact I1.fpOk this (I1.hok.fresh this)
theorem zkM {K:PySem.W.Frag}{ι:List Addr}{H:Hp}{S:R.St}{a b:Addr}{l m:Nat}{ds es:List D}(hl:S.get l=some (.lst ds))(hm:S.get m=some (.lst es))(ha:ι[l]?=some a)(hb:ι[m]?=some b):Wk K (Itz K a b) (List.zipWith zez ds es) [l,m] ι H S:=by
 have get:∀{ι2 H2 S2},Ltr K ι H S [l,m] ι2 H2 S2->∃xs ys,SqL K H2 a xs/\RVs K ι2 H2 ds xs/\SqL K H2 b ys/\RVs K ι2 H2 es ys:=fun {ι2 H2 S2} lt=>by
  obtain⟨a',h2,xs,hx,rx⟩:=lt.rh.obj l (.lst ds) ((lt.lck l (by simp)).trans hl)
  rw[zbh lt.ext.pre ha] at h2;cases h2
  obtain⟨b',h3,ys,hy,ry⟩:=lt.rh.obj m (.lst es) ((lt.lck m (by simp)).trans hm)
  rw[zbh lt.ext.pre hb] at h3;cases h3
  exact⟨xs,ys,SqL.of hx,rx,SqL.of hy,ry⟩
 refine⟨fun i ι2 H2 S2 lt hi=>?_,fun i ι2 H2 S2 x H' lt hi y=>?_,fun i ι2 H2 S2 lt hi=>?_,fun k hk=>?_⟩
 · obtain⟨xs,ys,hx,rx,hy,ry⟩:=get lt
   simp only[List.length_zipWith] at hi
   have h1:=rx.length
   have h2:=ry.length
   exact⟨xs,ys,xs[i]'(by omega),ys[i]'(by omega),hx,hy,List.getElem?_eq_getElem _,List.getElem?_eq_getElem _⟩
 · obtain⟨xs,ys,hx,rx,hy,ry⟩:=get lt
   obtain⟨T,u,v,hT,rfl,rfl,y1,y2⟩:=y
   obtain⟨d,ed,rd⟩:=rx.get' (y1 xs hx)
   obtain⟨e,ee,re⟩:=ry.get' (y2 ys hy)
   have x2:Ext ι2 H2 ι2 (upd H2 T (.tup [u,v])):=Ext.new hT _
   refine⟨x2,lt.rh.new hT _,zez d e,by rw[List.getElem?_zipWith,ed,ee],?_⟩
   exact⟨T,[u,v],rfl,zai,u,[v],rfl,rd.ext x2,v,[],rfl,re.ext x2,rfl⟩
 · obtain⟨xs,ys,hx,rx,hy,ry⟩:=get lt
   simp only[List.length_zipWith] at hi
   have h1:=rx.length
   have h2:=ry.length
   exact⟨xs,ys,hx,hy,by omega⟩
 · simp only[List.mem_cons,List.not_mem_nil,or_false] at hk
   rcases hk with rfl|rfl
   · exact zaD hl
   · exact zaD hm
theorem zfV {S:R.St}{x y:D}{r:List D × List Nat}(h:zeh S x y=some r):∃l m ds es,x=.ref l/\y=.ref m/\S.get l=some (.lst ds)/\S.get m=some (.lst es)/\r=(List.zipWith zez ds es,[l,m]):=by
 unfold zeh at h
 split at h
 · split at h
   · rename_i h1 h2;cases h;exact⟨_,_,_,_,rfl,rfl,h1,h2,rfl⟩
   · cases h
 · cases h
theorem zla {ca cb:CE}{a b:Expr}{es:List Expr}{j:Nat}{pt:Pos}(hg:Gl X "zip"/\X.mg "zip"=none)(ha:PE X a (tE X.K cf ca))(hb:PE X b (tE X.K cf cb))(hst:zav a=true)(hst2:zav b=true):PI X (.Tuple es j pt) (.Call (.Name "zip" p) [a,b] [] pos) (tI X.K cf (.zip ca cb)):=by
 refine PI.imp (zlA hg.1 hg.2 (zbr ha (zbM hb hst2) (zau hst [b] X.env)) (by rw[zau hst,zau hst2];rfl) (zau hst2 [] X.env)) fun σ H R ⟨δ,ι,S,Q,hs,hh,w,q⟩=>?_
 simp only[evL,zac] at w
 refine tE.run hs hh w fun d v ι1 H1 S1 x1 hs1 hh1 r1 w1=>tE.run hs1 hh1 w1 fun e u ι2 H2 S2 x2 hs2 hh2 r2 w2=>?_
 obtain⟨r,ez,w3⟩:=za6 w2
 obtain⟨l,m,ds,es,rfl,rfl,hl,hm,rfl⟩:=zfV ez
 obtain⟨a,ea,rfl⟩:=r1.ext x2
 obtain⟨b,eb,rfl⟩:=r2
 obtain⟨a',h2,xs,hx,rx⟩:=hh2.obj l _ hl
 rw[ea] at h2;cases h2
 obtain⟨b',h3,ys,hy,ry⟩:=hh2.obj m _ hm
 rw[eb] at h3;cases h3
 exact⟨a,b,xs,ys,rfl,SqL.of hx,SqL.of hy,q _ _ ⟨_,_,ι2,S2,x1.trans x2,hh2,w3,zkM hl hm ea eb⟩⟩
noncomputable def tG (K:PySem.W.Frag)(is:List Nat):TG:=fun v σ H Qv=>∃δ ι d δ',RS K ι H δ σ/\RV K ι H d v/\asgG is d δ=some δ'/\∀σ',RS K ι H δ' σ'->Qv σ' H
noncomputable def tGs (K:PySem.W.Frag)(is:List Nat):TGs:=fun vs σ H Qv=>∃δ ι ds,RS K ι H δ σ/\RVs K ι H ds vs/\ds.length=is.length/\∀σ',RS K ι H (zc3 is ds δ) σ'->Qv σ' H
theorem PG.imp {t t':TG}(h:PG X tg t)(i:∀v σ H Q,t' v σ H Q->t v σ H Q):PG X tg t':=fun pins s σ H v u Q I r q=>h pins s σ H v u Q I r (i v σ H Q q)
theorem PGs.imp {es:List Expr}{t t':TGs}(h:PGs X es t)(i:∀v σ H Q,t' v σ H Q->t v σ H Q):PGs X es t':=fun pins s σ H v u Q I r q=>h pins s σ H v u Q I r (i v σ H Q q)
theorem zjs (G:Gd T cf k N sc X){i:Nat}{x:Str}(hi:N[i]?=some x)(hl:zdX sc x=true):PG X (.Name x pos) (tG X.K [i]):=by
 refine PG.imp (zgn (i:=i) (by rw[G.nm];exact G.nd) (by rw[G.nm];exact hi) (G.lc hl).1 (G.lc hl).2) fun v σ H Qv ⟨δ,ι,d,δ',hs,r,e,q⟩=>?_
 simp only[asgG] at e
 cases e
 exact q _ (hs.set r i)
noncomputable def zbG (sc:Scope)(N:List Str):List Nat->List Expr->Bool
 | [],[]=>true
 |i::is,.Name x _::es=>(N[i]? == some x)&&zdX sc x&&zbG sc N is es
 |_,_=>false
theorem zdz (G:Gd T cf k N sc X):∀{is:List Nat} {es:List Expr},zbG sc N is es=true->PGs X es (tGs X.K is)/\(assignEach es X.env).length=is.length/\(assignEach es X.env).findIdx? (·.1)=none
 | [],[],_=>⟨PGs.imp zjV fun v σ H Qv ⟨δ,ι,ds,hs,r,hl,q⟩=>by
  have:ds=[]:=by simpa using hl
  subst this
  exact⟨r,q σ (by simpa[zc3] using hs)⟩,rfl,rfl⟩
 | [],_::_,h=>by simp[zbG] at h
 |_::_,[],h=>by simp[zbG] at h
 | i :: is, e :: es, h => by
   cases e with
   | Name x pos =>
     simp only[zbG,Bool.and_eq_true,beq_iff_eq] at h
     obtain⟨h1,h2,h3⟩:=zdz G (is:=is) (es:=es) h.2
     refine⟨PGs.imp (zhW (zgn (i:=i) (by rw[G.nm];exact G.nd) (by rw[G.nm];exact h.1.1) (G.lc h.1.2).1 (G.lc h.1.2).2) h1) fun v σ H Qv ⟨δ,ι,ds,hs,r,hl,q⟩=>?_,?_,?_⟩
     · cases ds with
       |nil=>simp at hl
       | cons d ds =>
         obtain⟨v1,vr,rfl,r1,r2⟩:=r
         refine⟨v1,vr,rfl,?_⟩
         exact⟨δ.set i (some d),ι,ds,hs.set r1 i,r2,by simpa using hl,fun σ' hs'=>q σ' (by simpa[zc3] using hs')⟩
     · show ((false,_)::assignEach es X.env).length=_
       simp[h2]
     · show ((false,_)::assignEach es X.env).findIdx? _=_
       simp[List.findIdx?_cons,h3]
   |_=>simp[zbG] at h
theorem ziD {is:List Nat}{d:D}{δ δ':Ev}(h2:2<=is.length)(e:asgG is d δ=some δ'):∃ds,d=.tup ds/\ds.length=is.length/\δ'=zc3 is ds δ:=by
 match is,h2 with
 | a :: b :: t, _ =>
   cases d with
   | tup ds =>
     simp only[asgG] at e
     split at e
     · rename_i c;cases e;exact⟨ds,rfl,c,rfl⟩
     · cases e
   |_=>cases e
theorem ziL (G:Gd T cf k N sc X){is:List Nat}{es:List Expr}{j:Nat}(h:zbG sc N is es=true)(h2:2<=is.length):PG X (.Tuple es j pos) (tG X.K is):=by
 obtain⟨h1,hn,hst⟩:=zdz G h
 refine PG.imp (zlC G.calm h1 hn hst) fun v σ H Qv ⟨δ,ι,d,δ',hs,r,e,q⟩=>?_
 obtain⟨ds,rfl,c,rfl⟩:=ziD h2 e
 obtain⟨a,xs,rfl,ha,rr⟩:=r
 exact⟨a,xs,rfl,SqT.of ha,by rw[rr.length];exact c,δ,ι,ds,hs,rr,c,q⟩
theorem Ext.tmp {ι ι':List Addr}{H H':Hp}{p:Addr}{vs us:List V}(x:Ext ι H ι' H')(hn:H p=none)(e:H' p=some (.lst vs)):Ext ι H ι' (upd H' p (.lst us)):=by
 refine⟨x.pre,x.kp.trans (.same (Tups.upd_lst e) (fun b o u h=>?_) fun b ps h=>?_),fun b o hb eb=>?_⟩
 · rw[zaf];exact h
   rintro rfl
   rw[e] at h;cases h
 · rw[zaf];exact h
   rintro rfl
   rw[e] at h;cases h
 · obtain⟨h1,h2⟩:=x.rest b o hb eb
   refine⟨?_,h2⟩
   rw[zaf];exact h1
   rintro rfl
   rw[hn] at eb;cases eb
theorem Kp.tmp {H:Hp}{p:Addr}{vs us:List V}(e:H p=some (.lst vs)):Kp H (upd H p (.lst us)):=.same (Tups.upd_lst e) (fun b o u h=>by
 rw[zaf];exact h
 rintro rfl
 rw[e] at h;cases h) fun b ps h=>by
 rw[zaf];exact h
 rintro rfl
 rw[e] at h;cases h
theorem RH.tmp {K:PySem.W.Frag}{ι:List Addr}{H:Hp}{S:R.St}{p:Addr}{vs us:List V}(hh:RH K ι H S)(hp:p∉ι)(e:H p=some (.lst vs)):RH K ι (upd H p (.lst us)) S:=
 ⟨hh.len,hh.nd,fun l o q=>by
  obtain⟨a,h1,h2,hm⟩:=hh.mem q
  exact⟨a,h1,h2.up (List.prefix_refl _) (Kp.tmp e) (zaf fun z=>hp (z▸hm))⟩,(Kp.tmp e).tab hh.tab⟩
theorem RS.up {K:PySem.W.Frag}{ι ι':List Addr}{H H':Hp}{δ:Ev}{σ:L2.St}(h:RS K ι H δ σ)(hp:ι <+: ι')(hk:Kp H H'):RS K ι' H' δ σ:=
 ⟨h.1,fun i d e=>let ⟨v,e1,r⟩:=h.2 i d e;⟨v,e1,r.up hp hk⟩⟩
theorem RH.lk {K:PySem.W.Frag}{ι:List Addr}{H:Hp}{S:R.St}(hh:RH K ι H S)(ks:List Nat):RH K ι H {S with lk:=ks}:=⟨hh.len,hh.nd,fun l o e=>hh.obj l o e,hh.tab⟩
theorem RS.csl {K:PySem.W.Frag}{ι:List Addr}{H:Hp}{δ:Ev}{σ:L2.St}(h:RS K ι H δ σ)(nt:Nat)(js:List Nat):RS K ι H (R.csl nt js δ) (L2.csl nt js σ):=by
 refine⟨by simp[R.csl,L2.csl],fun i d e=>?_⟩
 unfold R.csl at e
 unfold L2.csl
 by_cases hi:i<nt
 · rw[List.getElem?_append_left (by simpa using hi),List.getElem?_replicate] at e
   rw[if_pos hi] at e
   cases e
 · rw[List.getElem?_append_right (by simpa using hi)] at e⊢
   simp only[List.length_replicate,List.getElem?_map] at e⊢
   cases ej:js[i - nt]? with
   |none=>rw[ej] at e;cases e
   | some j =>
     rw[ej] at e
     simp only[Option.map_some,Option.some.injEq] at e⊢
     have e2:δ[j]?=some (some d):=by
      cases z:δ[j]? with
      |none=>rw[z] at e;cases e
      |some o=>rw[z] at e;simp at e;rw[e]
     obtain⟨v,ev,r⟩:=h.2 j d e2
     exact⟨v,by rw[ev];rfl,r⟩
theorem zd3 {α:Type}{xs:List α}{i:Nat}{x:α}(h:xs[i]?=some x):xs.drop i=x::xs.drop (i+1):=by
 obtain⟨h1,h2⟩:=List.getElem?_eq_some_iff.mp h
 rw[List.drop_eq_getElem_cons h1,h2]
noncomputable def CInv (K:PySem.W.Frag)(cf:CF)(g:List Nat)(c e:CE)(Q:List D × List Nat->R.St->Prop)(ds:List D)(lks:List Nat)(ι1:List Addr)(H1:Hp)(S1:R.St)(p:Addr)(i:Nat)(σ':L2.St)(H':Hp):Prop:=
 i<=ds.length/\∃δ' ι' S' acc vs,RS K ι' H' δ' σ'/\Ltr K ι1 H1 S1 lks ι' H' S'/\S'.lk=lks++S1.lk/\S1.len<=S'.len/\p∉ι'/\H' p=some (.lst vs)/\RVs K ι' H' acc vs/\
  W (zaG g (evT cf c) (evE cf e) (ds.drop i) δ' S') fun rest S2=>(acc++rest).length<=16777216/\Q (acc++rest,[]) {S2 with lk:=S1.lk}
theorem zfp {nt:Nat}{js is:List Nat}{it:CL}{c e:CE}{σ:L2.St}{H:Hp}{Qv:VK}(hcf:CFok cf)(h:tLt X.K cf (.comp nt js is it c e) σ H Qv):zjl nt js (tI X.K cf it) (tG X.K is) (tT X.K cf c) (tE X.K cf e) σ H Qv:=by
 obtain⟨δ,ι,S,Q,hs,hh,w,q⟩:=h
 simp only[evL,zac] at w
 refine⟨δ,ι,S,_,hs,hh,w,fun J H1 ⟨ds,lks,ι1,S1,x1,hh1,w1,wk⟩=>?_⟩
 dsimp only at w1
 unfold za1 at w1
 rw[zac] at w1
 intro p hp
 have hpi:=hh1.fresh hp
 refine⟨fun i m σ' H'=>m=ds.length - i/\CInv X.K cf is c e Q ds lks ι1 H1 S1 p i σ' H',⟨_,rfl,Nat.zero_le _,R.csl nt js δ,ι1,{S1 with lk:=lks++S1.lk},[],[],((hs.ext x1).csl _ _).up (List.prefix_refl _) (Kp.new hp _),⟨Ext.new hp _,(hh1.lk _).new hp _,fun l _=>rfl⟩,rfl,Nat.le_refl _,hpi,zai,rfl,?_⟩,?_⟩
 · refine w1.mono fun rest S2 w2=>?_
   simp only[W_ok] at w2
   split at w2
   · rename_i c;exact⟨by simpa using c,by simpa using w2⟩
   · exact w2.elim
 rintro i m σ' H' ⟨rfl,hle,δ',ι',S',acc,vs,hs',lt,hlk,hln,hpn,hpv,ra,wt⟩
 rcases Nat.lt_or_eq_of_le hle with hlt|rfl
 · refine .inr ⟨wk.go i ι' H' S' lt hlt,CInv X.K cf is c e Q ds lks ι1 H1 S1 p (i+1),fun σ2 H2 h=>⟨_,by omega,rfl,h⟩,fun x H2 hy=>?_⟩
   obtain⟨x2,hh2,d,hd,rd⟩:=wk.yld i ι' H' S' x H2 lt hlt hy
   have hs2:=hs'.ext x2
   have hp2:=x2.keep hpn hpv (by simp)
   rw[zd3 hd] at wt
   simp only[zaG] at wt
   cases ea:asgG is d δ' with
   |none=>rw[ea] at wt;exact wt.elim
   | some δ2 =>
     rw[ea] at wt
     dsimp only at wt
     rw[zac] at wt
     refine⟨δ',ι',d,δ2,hs2,rd,ea,fun σ2 hs3=>?_⟩
     refine tT.run hs3 hh2 (zd2 hcf c δ2 S' _ wt) fun b ι3 H3 S3 x3 hs4 hh3 w3=>?_
     obtain⟨w3,f3⟩:=w3
     have hp3:=x3.keep hpn hp2 (by simp)
     have hpn3:=(x3.rest p _ hpn hp2).2
     have keep:∀{S4:R.St},Frm S' S4->S4.lk=lks++S1.lk/\S1.len<=S4.len/\∀l∈lks,S4.get l=S1.get l:=fun f=>⟨f.lk.trans hlk,Nat.le_trans hln f.lens,fun l hl=>
      (f.same l (by rw[hlk];exact List.mem_append_left _ hl) (Nat.lt_of_lt_of_le (wk.lks l hl) hln)).trans (lt.lck l hl)⟩
     cases b with
     | false =>
       simp only[Bool.false_eq_true,if_false] at w3⊢
       obtain⟨k1,k2,k3⟩:=keep f3
       exact⟨hlt,δ2,ι3,S3,acc,vs,hs4,⟨(lt.ext.trans x2).trans x3,hh3,k3⟩,k1,k2,hpn3,hp3,(ra.ext x2).ext x3,w3⟩
     | true =>
       simp only[if_true] at w3⊢
       rw[zac] at w3
       refine tE.run hs4 hh3 (zaJ hcf e δ2 S3 _ w3) fun z v ι4 H4 S4 x4 hs5 hh4 rz w4=>?_
       obtain⟨w4,f4⟩:=w4
       obtain⟨k1,k2,k3⟩:=keep (f3.trans f4)
       have hp4:=x4.keep hpn3 hp3 (by simp)
       have hpn4:=(x4.rest p _ hpn3 hp3).2
       rw[zac] at w4
       have ra4:=((ra.ext x2).ext x3).ext x4
       have hlen:acc.length<16777216:=by
        obtain⟨rest,S5,_,w5⟩:=zfU w4
        have:=w5.1
        simp at this
        omega
       refine⟨vs,hp4,by rw[ra4.length,sizeLine_eq];exact hlen,hlt,δ2,ι4,S4,acc++[z],vs++[v],hs5.up (List.prefix_refl _) (Kp.tmp hp4),⟨(((lt.ext.trans x2).trans x3).trans x4).tmp hp hp4,hh4.tmp hpn4 hp4,k3⟩,k1,k2,hpn4,zai,?_,?_⟩
       · exact (RVs.append (es:=[z]) (us:=[v]) ra4 ⟨v,[],rfl,rz,rfl⟩).up (List.prefix_refl _) (Kp.tmp hp4)
       · refine w4.mono fun rest S5 w5=>?_
         simp only[W_ok] at w5
         simpa using w5
 · refine .inl ⟨wk.stop _ ι' H' S' lt (Nat.le_refl _),?_⟩
   rw[List.drop_length] at wt
   simp only[zaG,W_ok,List.append_nil] at wt
   exact q _ _ ⟨acc,ι',{S' with lk:=S1.lk},p,vs,x1.trans lt.ext,rfl,ra,hpn,hpv,lt.rh.lk _,zho hh1 x1 hp,wt.2⟩
end
end R
end
section
namespace R
open PySem PySem.Spec PyProof.Rows L2
variable [Mks]
section
variable {T:Tab} {cf:CF} {k:Nat} {N:List Str} {sc:Scope} {X:Cx} {pos p:Pos} {tg:Expr}
end
end R
end
section
set_option maxHeartbeats 4000000
namespace R
open PySem PySem.Spec PyProof.Rows L2
open AutoSeq1 (wpAny_loadPart')
section
variable {prog:Program} {w:World} {A:Around} {E:Value->Shared->Prop} {s:Shared}
end
variable [Mks]
section
variable {T:Tab} {cf:CF} {k:Nat} {N:List Str} {sc:Scope} {X:Cx} {pos p:Pos} {tg:Expr}
end
end R
end
section
namespace R
open PySem PySem.Spec PyProof.Rows L2
variable [Mks]
section
variable {T:Tab} {cf:CF} {k:Nat} {N:List Str} {sc:Scope} {X:Cx} {pos p:Pos}
theorem zlk {ca:CE}{o:Expr}{apos cpos:Pos}(ho:PE X o (tE X.K cf ca))(hsup:zct o=true)(hl:(apos.endLine == cpos.line)=true) :
  PE X (.Call (.Attribute o "clear" apos) [] [] cpos) (tE X.K cf (.clr ca)):=by
 refine PE.imp (zlJ PySem.F.plainAttrs_list PySem.F.slot_list_clear PySem.F.type_list_clear zib ho (zf5 hsup "clear" X.env _) hl) fun σ H Qv ⟨δ,ι,S,Q,hs,hh,w,q⟩=>?_
 simp only[evE,zac] at w
 refine tE.run hs hh w fun d v ι1 H1 S1 x1 hs1 hh1 r1 w1=>?_
 split at w1
 · rename_i c
   refine⟨zgT hh1 r1 c,?_⟩
   cases d with
   | ref l =>
     obtain⟨a,h1,rfl⟩:=r1
     dsimp only at w1
     cases e:S1.get l with
     |none=>simp[isL,e] at c
     | some o =>
       cases o with
       | lst es =>
         obtain⟨b',h2,zs,ha,rz⟩:=hh1.obj _ _ e
         rw[h1] at h2;cases h2
         obtain⟨c2,S',hp,w3⟩:=zhx w1
         exact⟨a,zs,rfl,rfl,ha,q _ _ (Lf.up x1 (Lf.wr (d:=.non) (xs:=[]) hh1 e h1 hp rfl rfl w3))⟩
       |_=>simp[isL,e] at c
   |_=>exact w1.elim
 · exact w1.elim
end
end R
end
section
namespace R
open PySem PySem.Spec PyProof.Rows L2
variable [Mks]
noncomputable def LfS (K:PySem.W.Frag)(ι:List Addr)(H:Hp)(Q:Fl->R.St->Prop)(E:Ends):Prop:=∀f ι' H' S',Ext ι H ι' H'->RH K ι' H' S'->Q f S'->(match f with
 |.nx δ'=>∀σ',RS K ι' H' δ' σ'->E.nx σ' H'
 |.rt d=>∀v,RV K ι' H' d v->E.rt v H')
noncomputable def tS (K:PySem.W.Frag)(cf:CF)(cs:CS):TS:=fun E σ H=>∃δ ι S Q,RS K ι H δ σ/\RH K ι H S/\W (exS cf cs δ S) Q/\LfS K ι H Q E
theorem LfS.up {K:PySem.W.Frag}{ι ι1:List Addr}{H H1:Hp}{Q:Fl->R.St->Prop}{E:Ends}(h:LfS K ι H Q E)(x:Ext ι H ι1 H1):LfS K ι1 H1 Q E:=fun f ι' H' S' x' hh q=>h f ι' H' S' (x.trans x') hh q
theorem PSs.imp {X:Cx}{st:List Stmt}{t t':TS}(h:PSs X st t)(i:∀E σ H,t' E σ H->t E σ H):PSs X st t':=fun pins s σ H E I q=>h pins s σ H E I (i E σ H q)
section
variable {T:Tab} {cf:CF} {k:Nat} {N:List Str} {sc:Scope} {X:Cx} {pos p:Pos} {rest:List Stmt}
theorem zk5:PSs X [] (tS X.K cf .nil):=PSs.imp zjP fun E σ H ⟨δ,ι,S,Q,hs,hh,w,l⟩=>by
 simp only[exS,W_ok] at w
 exact l _ ι H S (Ext.refl _ _) hh w σ hs
theorem zk7 (G:Gd T cf k N sc X){i:Nat}{x:Str}{ce:CE}{e:Expr}{r:CS}(hi:N[i]?=some x)(hl:zdX sc x=true)(he:PE X e (tE X.K cf ce))(hc:zbs e=true)(hr:PSs X rest (tS X.K cf r)) :
  PSs X (.Assign [.Name x p] e pos::rest) (tS X.K cf (.asg i ce r)):=by
 refine PSs.imp (za2 (ziX (i:=i) (by rw[G.nm];exact G.nd) (by rw[G.nm];exact hi) (G.lc hl).1 he (zem hc _ _ _) (G.lc hl).2) hr) fun E σ H ⟨δ,ι,S,Q,hs,hh,w,l⟩=>?_
 simp only[exS,zac] at w
 refine tE.run hs hh w fun d v ι1 H1 S1 x1 hs1 hh1 r1 w1=>?_
 exact⟨δ.set i (some d),ι1,S1,Q,hs1.set r1 i,hh1,w1,l.up x1⟩
theorem zjp (G:Gd T cf k N sc X){i:Nat}{x:Str}{ce:CE}{e:Expr}{r:CS}(hi:N[i]?=some x)(hps:∃t,PS X (.Assign [.Name x p] e pos) (tAsg t (zg4 i))/\∀σ H Qv,tE X.K cf ce σ H Qv->t σ H Qv)(hr:PSs X rest (tS X.K cf r)) :
  PSs X (.Assign [.Name x p] e pos::rest) (tS X.K cf (.asg i ce r)):=by
 obtain⟨t,hp,ht⟩:=hps
 refine PSs.imp (za2 hp hr) fun E σ H ⟨δ,ι,S,Q,hs,hh,w,l⟩=>?_
 simp only[exS,zac] at w
 refine ht _ _ _ (tE.run hs hh w fun d v ι1 H1 S1 x1 hs1 hh1 r1 w1=>?_)
 exact⟨δ.set i (some d),ι1,S1,Q,hs1.set r1 i,hh1,w1,l.up x1⟩
theorem zjm {ce:CE}{e:Expr}{r:CS}(he:PE X e (tE X.K cf ce))(hc:zbs e=true)(hr:PSs X rest (tS X.K cf r)):PSs X (.Expr e pos::rest) (tS X.K cf (.expr ce r)):=by
 refine PSs.imp (za2 (zjR he (zem hc _ _ _)) hr) fun E σ H ⟨δ,ι,S,Q,hs,hh,w,l⟩=>?_
 simp only[exS,zac] at w
 refine tE.run hs hh w fun d v ι1 H1 S1 x1 hs1 hh1 r1 w1=>?_
 exact⟨δ,ι1,S1,Q,hs1,hh1,w1,l.up x1⟩
theorem zk4 {ce:CE}{e:Expr}{r:CS}(he:PE X e (tE X.K cf ce))(hr:PSs X rest (tS X.K cf r)):PSs X (.Return (some e) pos::rest) (tS X.K cf (.ret ce r)):=by
 refine PSs.imp (za2 (ziY he) hr) fun E σ H ⟨δ,ι,S,Q,hs,hh,w,l⟩=>?_
 simp only[exS,zac,W_ok] at w
 refine tE.run hs hh w fun d v ι1 H1 S1 x1 hs1 hh1 r1 w1=>?_
 exact l _ _ _ _ x1 hh1 w1 v r1
theorem zmX {cc:CE}{c:Expr}{a b:List Stmt}{ca cb r:CS}(hc:PT X c (tT X.K cf cc))(ha:PSs X a (tS X.K cf ca))(hb:PSs X b (tS X.K cf cb))(hr:PSs X rest (tS X.K cf r)):PSs X (.If c a b pos::rest) (tS X.K cf (.ifS cc ca cb r)):=by
 refine PSs.imp (za2 (zm7 hc ha hb) hr) fun E σ H ⟨δ,ι,S,Q,hs,hh,w,l⟩=>?_
 simp only[exS,zac] at w
 refine tT.run hs hh w fun z ι1 H1 S1 x1 hs1 hh1 w1=>?_
 have fin:LfS X.K ι1 H1 (fun f S2=>W (match f with|.nx δ'=>exS cf r δ' S2|.rt d=>.ok (.rt d) S2) Q) {E with nx:=tS X.K cf r E}:=by
  intro f ι2 H2 S2 x2 hh2 q
  cases f with
  |nx δ'=>exact fun σ' hs'=>⟨δ',ι2,S2,Q,hs',hh2,q,(l.up x1).up x2⟩
  |rt d=>exact fun v rv=>(l.up x1) _ _ _ _ x2 hh2 q v rv
 cases z with
 |true=>exact⟨δ,ι1,S1,_,hs1,hh1,w1,fin⟩
 |false=>exact⟨δ,ι1,S1,_,hs1,hh1,w1,fin⟩
noncomputable def FInv (K:PySem.W.Frag)(cf:CF)(g:List Nat)(b:CS)(Qf:Fl->R.St->Prop)(ds:List D)(lks:List Nat)(ι1:List Addr)(H1:Hp)(S1:R.St)(i:Nat)(σ':L2.St)(H':Hp):Prop:=
 i<=ds.length/\∃δ' ι' S',RS K ι' H' δ' σ'/\Ltr K ι1 H1 S1 lks ι' H' S'/\S'.lk=lks++S1.lk/\S1.len<=S'.len/\W (zbb g (exS cf b) (ds.drop i) δ' S') fun f S2=>Qf f {S2 with lk:=S1.lk}
theorem zk6 (G:Gd T cf k N sc X){is:List Nat}{it:CL}{cb r:CS}{tg iter:Expr}{body:List Stmt}(hi:PI X tg iter (tI X.K cf it))(hg:PG X tg (tG X.K is))(hb:PSs X body (tS X.K cf cb))(hset:zbF iter=true)(hr:PSs X rest (tS X.K cf r)) :
  PSs X (.For tg iter body [] pos::rest) (tS X.K cf (.forS is it cb r)):=by
 have hp:PassesOwn (model X.prog X.w) X.A X.env X.xe:=by rw[G.xe];exact PassesOwn.never
 refine PSs.imp (za2 (zly hp G.calm hi hg hb (zeE hset X.env)) hr) fun E σ H ⟨δ,ι,S,Q,hs,hh,w,l⟩=>?_
 simp only[exS,zac] at w
 refine⟨δ,ι,S,_,hs,hh,w,fun J H1 ⟨ds,lks,ι1,S1,x1,hh1,w1,wk⟩=>?_⟩
 dsimp only at w1
 unfold za1 at w1
 rw[zac] at w1
 simp only[W_ok] at w1
 refine⟨fun i m σ' H'=>m=ds.length - i/\FInv X.K cf is cb (fun f S2=>W (match f with|.nx δ'=>exS cf r δ' S2|.rt d=>.ok (.rt d) S2) Q) ds lks ι1 H1 S1 i σ' H',⟨_,rfl,Nat.zero_le _,δ,ι1,{S1 with lk:=lks++S1.lk},hs.ext x1,⟨Ext.refl _ _,hh1.lk _,fun l _=>rfl⟩,rfl,Nat.le_refl _,w1⟩,?_⟩
 rintro i m σ' H' ⟨rfl,hle,δ',ι',S',hs',lt,hlk,hln,wt⟩
 have l1:=l.up (x1.trans lt.ext)
 rcases Nat.lt_or_eq_of_le hle with hlt|rfl
 · refine .inr ⟨wk.go i ι' H' S' lt hlt,FInv X.K cf is cb _ ds lks ι1 H1 S1 (i+1),fun σ2 H2 h=>⟨_,by omega,rfl,h⟩,fun x H2 hy=>?_⟩
   obtain⟨x2,hh2,d,hd,rd⟩:=wk.yld i ι' H' S' x H2 lt hlt hy
   rw[zd3 hd] at wt
   simp only[zbb] at wt
   cases ea:asgG is d δ' with
   |none=>rw[ea] at wt;exact wt.elim
   | some δ2 =>
     rw[ea] at wt
     dsimp only at wt
     rw[zac] at wt
     refine⟨δ',ι',d,δ2,hs'.ext x2,rd,ea,fun σ2 hs3=>⟨δ2,ι',S',_,hs3,hh2,zcF G.tab.frm cb δ2 S' _ wt,?_⟩⟩
     rintro f ι3 H3 S3 x3 hh3 ⟨w3,f3⟩
     have k1:S3.lk=lks++S1.lk:=f3.lk.trans hlk
     have k3:∀l∈lks,S3.get l=S1.get l:=fun l hl=>(f3.same l (by rw[hlk];exact List.mem_append_left _ hl) (Nat.lt_of_lt_of_le (wk.lks l hl) hln)).trans (lt.lck l hl)
     cases f with
     |nx δ3=>exact fun σ3 hs4=>⟨hlt,δ3,ι3,S3,hs4,⟨(lt.ext.trans x2).trans x3,hh3,k3⟩,k1,Nat.le_trans hln f3.lens,w3⟩
     |rt z=>exact fun v rv=>l1 _ _ _ _ (x2.trans x3) (hh3.lk _) w3 v rv
 · refine .inl ⟨wk.stop _ ι' H' S' lt (Nat.le_refl _),?_⟩
   rw[List.drop_length] at wt
   simp only[zbb,W_ok] at wt
   exact⟨δ',ι',{S' with lk:=S1.lk},Q,hs',lt.rh.lk _,wt,l1⟩
noncomputable def znO (H:Hp)(a:Addr)(y v:V)(H':Hp):Prop:=DPut H a y v H'\/∃kxs k c,H a=some (.ext (TriO a kxs))/\TriK H kxs/\y=.ref c/\Key3 H k c/\kxs.length<sizeLine/\H'=upd H a (.ext (TriO a (put3 kxs k c v)))
noncomputable def zlo (td ty tv:TE):TS:=fun D σ H=>tv σ H fun v H1=>td σ H1 fun x H2=>ty σ H2 fun y H3=>∃a H4,x=.ref a/\znO H3 a y v H4/\D.nx σ H4
theorem zhT {o i value:Expr}{td ty tv:TE}{pos':Pos}(hu:X.A.units+5<cLine)(ho:PE X o td)(hi:PE X i ty)(hv:PE X value tv)(hs:swapsWith value (some (.Subscript o i pos')) pos.line X.env=pure false) :
  PS X (.Assign [.Subscript o i pos'] value pos) (zlo td ty tv):=by
 intro pins s σ H D I h
 refine wpAny_Assign_Subscript (thn (hv pins s σ H _ I h) fun r s1 ⟨v,H1,I1,rv,q1⟩=>thn (ho pins s1 σ H1 _ I1 q1) fun u s2 ⟨x,H2,I2,rx,q2⟩=>thn (hi pins s2 σ H2 _ I2 q2) fun iv s3 ⟨y,H3,I3,ry,a,H4,ex,g,q3⟩=>?_) hs
 subst ex
 obtain rfl:u=Value.ref a:=rx
 rcases g with g|⟨kxs,k,c,e,tk,rfl,ek,hl,rfl⟩
 · exact zhe (by omega) I3 g ry rv fun s4 I4=>⟨σ,H4,I4,q3⟩
 · obtain rfl:iv=Value.ref c:=ry
   exact zfP hu I3 e tk ek hl rv fun s4 I4=>⟨σ,_,I4,q3⟩
theorem zhB (G:Gd T cf k N sc X){ca cb ce:CE}{a b e:Expr}{r:CS}(ha:PE X a (tE X.K cf ca))(hb:PE X b (tE X.K cf cb))(he:PE X e (tE X.K cf ce))(hc:zbs e=true)(hr:PSs X rest (tS X.K cf r)) :
  PSs X (.Assign [.Subscript a b p] e pos::rest) (tS X.K cf (.setIx ca cb ce r)):=by
 refine PSs.imp (za2 (zhT (by have:=G.hu;omega) ha hb he (zem hc _ _ _)) hr) fun E σ H ⟨δ,ι,S,Q,hs,hh,w,l⟩=>?_
 simp only[exS,zac] at w
 refine tE.run hs hh w fun d v ι1 H1 S1 x1 hs1 hh1 r1 w1=>?_
 refine tE.run hs1 hh1 w1 fun x vx ι2 H2 S2 x2 hs2 hh2 r2 w2=>?_
 refine tE.run hs2 hh2 w2 fun y vy ι3 H3 S3 x3 hs3 hh3 r3 w3=>?_
 cases ed:dPut S3 x y d with
 |none=>rw[ed] at w3;exact w3.elim
 | some S4 =>
   rw[ed] at w3
   unfold dPut at ed
   cases x with
   | ref i =>
     obtain⟨p,h1,rfl⟩:=r2.ext x3
     dsimp only at ed
     cases e:S3.get i with
     |none=>rw[e] at ed;cases ed
     | some ob =>
       rw[e] at ed
       obtain⟨b,h2,h3⟩:=hh3.obj _ _ e
       rw[h1] at h2;cases h2
       cases ob with
       | dtp kvs =>
         obtain⟨nd,ws,ha,rk⟩:=h3
         dsimp only at ed
         cases ek:zdj y with
         |none=>rw[ek] at ed;cases ed
         | some k =>
           rw[ek] at ed
           dsimp only[Option.bind_some] at ed
           split at ed
           · rename_i c
             obtain⟨b,rfl,hb⟩:=zma r3 ek
             have rv:=r1.ext (x2.trans x3)
             have xw:=Ext.wr hh3 e h1 (.dT (putK ws (kI k) v))
             refine⟨p,_,rfl,.inl <| DPut.t ha hb (by rw[rk.length,sizeLine_eq];exact c),δ,ι3,S4,Q,hs3.ext xw,hh3.wr e h1 ed ⟨zfD nd,_,zai,?_⟩,w3,l.up (((x1.trans x2).trans x3).trans xw)⟩
             exact (rk.put k rv nd).up xw.pre xw.kp
           · cases ed
       | dic kvs =>
         obtain⟨nd,ws,ha,rk⟩:=h3
         dsimp only at ed
         cases y with
         | int k =>
           obtain rfl:vy=.int k:=r3
           dsimp only[zdk,Option.bind_some] at ed
           split at ed
           · rename_i c
             have rv:=r1.ext (x2.trans x3)
             have xw:=Ext.wr hh3 e h1 (.dK (putK ws (.inl k) v))
             refine⟨p,_,rfl,.inl <| DPut.k (k:=.inl k) ha (by rw[rk.length,sizeLine_eq];exact c),δ,ι3,S4,Q,hs3.ext xw,hh3.wr e h1 ed ⟨zfE nd,_,zai,?_⟩,w3,l.up (((x1.trans x2).trans x3).trans xw)⟩
             exact (rk.put k rv nd).up xw.pre xw.kp
           · cases ed
         |_=>cases ed
       | d3 kvs =>
         obtain⟨nd,ws,ha,rk⟩:=h3
         dsimp only at ed
         cases ek:key3 y with
         |none=>rw[ek] at ed;cases ed
         | some k =>
           rw[ek] at ed
           dsimp only[Option.bind_some] at ed
           split at ed
           · rename_i c
             obtain⟨b,rfl,hb⟩:=zgM r3 ek
             have rv:=r1.ext (x2.trans x3)
             have xw:=Ext.wr hh3 e h1 (.ext (TriO p (put3 ws k b v)))
             refine⟨p,_,rfl,.inr ⟨ws,k,b,ha,rk.triK,rfl,hb,by rw[rk.length,sizeLine_eq];exact c,rfl⟩,δ,ι3,S4,Q,hs3.ext xw,hh3.wr e h1 ed ⟨zex nd,_,zai,?_⟩,w3,l.up (((x1.trans x2).trans x3).trans xw)⟩
             exact (rk.put rv hb).up xw.pre xw.kp
           · cases ed
       |_=>cases ed
   |_=>cases ed
theorem zjo (G:Gd T cf k N sc X){is:List Nat}{ce:CE}{e:Expr}{es:List Expr}{j:Nat}{r:CS}(hn:zbG sc N is es=true)(h2:2<=is.length)(he:PE X e (tE X.K cf ce))(hx:∃x q,e=.Name x q)(hr:PSs X rest (tS X.K cf r)) :
  PSs X (.Assign [.Tuple es j p] e pos::rest) (tS X.K cf (.asgT is ce r)):=by
 obtain⟨x,q,rfl⟩:=hx
 refine PSs.imp (za2 (zlz he (ziL G hn h2)) hr) fun E σ H ⟨δ,ι,S,Q,hs,hh,w,l⟩=>?_
 simp only[exS,zac] at w
 refine tE.run hs hh w fun d v ι1 H1 S1 x1 hs1 hh1 r1 w1=>?_
 obtain⟨δ2,ea,w2⟩:=za6 w1
 exact⟨δ,ι1,d,δ2,hs1,r1,ea,fun σ' hs'=>⟨δ2,ι1,S1,Q,hs',hh1,w2,l.up x1⟩⟩
end
end R
end
section
namespace R
open PySem PySem.Spec PyProof.Rows L2
variable [Mks]
noncomputable def zkf:CL->Bool|.comp ..=>true|_=>false
noncomputable def isR1:CL->Bool|.rng1 _=>true|_=>false
noncomputable def zig:CL->Bool|.rng1 _=>true|.zip _ _=>true|_=>false
noncomputable def zgP:CL->Bool|.zip _ _=>true|_=>false
noncomputable def zgR:Expr->Bool|.Tuple _ _ _=>true|_=>false
noncomputable def zbC:Expr->List Str
 |.Name x _=>[x]
 |.Tuple es _ _=>es.filterMap fun|.Name x _=>some x|_=>none
 |_=>[]
noncomputable def zkx (sc scope:Scope)(N:List Str)(js:List Nat):Bool:=
 decide (scope.kind=.function)&&scope.names.all (fun y=>decide (y.2≠.cell))&&scope.names.all (fun y=>decide (y.2≠.local) || decide (scope.names.lookup y.1=some .local))
  && scope.names.all (fun y=>decide (y.2≠.free) || decide (sc.names.lookup y.1=some .cell) || decide (sc.names.lookup y.1=some .free))&&js.all (fun j=>decide (scope.names.lookup (N.getD j "")=some .free)&&decide (j<N.length))
noncomputable def nmB (x:Str):Bool:=!(x == ("__debug__":Str))&&!(x == ("__classdict__":Str))&&!(x == ("__name__":Str))
noncomputable def tyB (t:String)(y:Str):Bool:=(t == "bool"&&y == ("bool":Str)) || (t == "int"&&y == ("int":Str)) || (t == "str"&&y == ("str":Str)) || (t == "list"&&y == ("list":Str)) || (t == "tuple"&&y == ("tuple":Str)) || (t == "dict"&&y == ("dict":Str))
noncomputable def biB:Bi->Str->Nat->Bool
 |.len,x,n=>x == ("len":Str)&&n == 1
 |.abs,x,n=>x == ("abs":Str)&&n == 1
 |.max2,x,n=>x == ("max":Str)&&n == 2
 |.min2,x,n=>x == ("min":Str)&&n == 2
 |.isin _,_,_=>false
noncomputable def zbk:Expr->Option Str|.Name x _=>some x|_=>none
noncomputable def zco:Expr->Option Const|.Constant c _ _=>some c|_=>none
noncomputable def zgf:Expr->Option (Expr × Operator × Expr)|.BinOp l o r _=>some (l,o,r)|_=>none
noncomputable def rdUn:Expr->Option (UnaryOp × Expr)|.UnaryOp o x _=>some (o,x)|_=>none
noncomputable def zfC:Expr->Option (Expr × List CmpOp × List Expr)|.Compare l os rs _=>some (l,os,rs)|_=>none
noncomputable def zb7:Expr->Option (BoolOp × List Expr × Pos)|.BoolOp o vs p=>some (o,vs,p)|_=>none
noncomputable def zer:Expr->Option (List Expr)|.Tuple xs _ _=>some xs|_=>none
noncomputable def zdH:Expr->Option (List Expr)|.List xs _=>some xs|_=>none
noncomputable def zeu:Expr->Option (Expr × Expr)|.Dict [some k] [v] _=>some (k,v)|_=>none
noncomputable def zcn:Expr->Bool|.Dict ks vs _=>ks.isEmpty&&vs.isEmpty|_=>false
noncomputable def zes:Expr->Option (Expr × Expr)|.Subscript x i _=>some (x,i)|_=>none
noncomputable def rdSl:Expr->Option (Option Expr × Option Expr)|.Slice l u st _=>(match st with|none=>some (l,u)|some _=>none)|_=>none
noncomputable def zbE:Expr->Option (Expr × List Expr × List Keyword × Pos)|.Call f as ks p=>some (f,as,ks,p)|_=>none
noncomputable def zb8:Expr->Option (Expr × Str × Pos)|.Attribute o x p=>some (o,x,p)|_=>none
noncomputable def rdLC:Expr->Option (Expr × List Comprehension × Scope × Pos)|.ListComp e gs sc p=>some (e,gs,sc,p)|_=>none
section
variable {e l r x y i f:Expr} {xs rs as:List Expr} {ks:List Keyword} {p:Pos}
theorem zaU {n:Str}(h:zbk e=some n):∃p,e=.Name n p:=by cases e<;>first|(cases h;exact⟨_,rfl⟩)|cases h
theorem zew {c:Const}(h:zco e=some c):∃j p,e=.Constant c j p:=by cases e<;>first|(cases h;exact⟨_,_,rfl⟩)|cases h
theorem zge {o:Operator}(h:zgf e=some (l,o,r)):∃p,e=.BinOp l o r p:=by cases e<;>first|(cases h;exact⟨_,rfl⟩)|cases h
theorem zdb {o:UnaryOp}(h:rdUn e=some (o,x)):∃p,e=.UnaryOp o x p:=by cases e<;>first|(cases h;exact⟨_,rfl⟩)|cases h
theorem zdI {os:List CmpOp}(h:zfC e=some (l,os,rs)):∃p,e=.Compare l os rs p:=by cases e<;>first|(cases h;exact⟨_,rfl⟩)|cases h
theorem zbz {o:BoolOp}(h:zb7 e=some (o,xs,p)):e=.BoolOp o xs p:=by cases e<;>first|(cases h;rfl)|cases h
theorem zck (h:zer e=some xs):∃j p,e=.Tuple xs j p:=by cases e<;>first|(cases h;exact⟨_,_,rfl⟩)|cases h
theorem zfB (h:zdH e=some xs):∃p,e=.List xs p:=by cases e<;>first|(cases h;exact⟨_,rfl⟩)|cases h
theorem zev (h:zcn e=true):∃p,e=.Dict [] [] p:=by
 cases e with
 | Dict ks vs p =>
   cases ks with
   |cons _ _=>cases h
   | nil =>
     cases vs with
     |cons _ _=>cases h
     |nil=>exact⟨_,rfl⟩
 |_=>cases h
theorem zcl (h:zes e=some (x,i)):∃p,e=.Subscript x i p:=by cases e<;>first|(cases h;exact⟨_,rfl⟩)|cases h
theorem zhM {a b:Option Expr}(h:rdSl e=some (a,b)):∃p,e=.Slice a b none p:=by
 cases e with
 | Slice l u st p =>
   cases st with
   |none=>cases h;exact⟨_,rfl⟩
   |some _=>cases h
 |_=>cases h
theorem zb1 (h:zbE e=some (f,as,ks,p)):e=.Call f as ks p:=by cases e<;>first|(cases h;rfl)|cases h
theorem zcU {n:Str}(h:zb8 e=some (x,n,p)):e=.Attribute x n p:=by cases e<;>first|(cases h;rfl)|cases h
theorem ze2 {gs:List Comprehension}{sc:Scope}(h:rdLC e=some (x,gs,sc,p)):e=.ListComp x gs sc p:=by cases e<;>first|(cases h;rfl)|cases h
end
theorem zag {α:Type}{o:Option α}{f:α->Bool}(h:o.any f=true):∃x,o=some x/\f x=true:=by
 cases o with
 |none=>cases h
 |some x=>exact⟨x,rfl,h⟩
noncomputable def one {α:Type}:List α->Option α | [x]=>some x|_=>none
theorem zba {α:Type}{xs:List α}{x:α}(h:one xs=some x):xs=[x]:=by
 match xs,h with
 | [y],h=>cases h;rfl
noncomputable def two {α:Type}:List α->Option (α × α) | [x,y]=>some (x,y)|_=>none
theorem two_inv {α:Type}{xs:List α}{x y:α}(h:two xs=some (x,y)):xs=[x,y]:=by
 match xs,h with
 | [a,b],h=>cases h;rfl
noncomputable def zaY (e:Expr):Option (Str × List Expr):=(zbE e).bind fun q=>if q.2.2.1.isEmpty then (zbk q.1).map fun x=>(x,q.2.1) else none
theorem zaV {e:Expr}{x:Str}{as:List Expr}(h:zaY e=some (x,as)):∃p2 p,e=.Call (.Name x p2) as [] p:=by
 unfold zaY at h
 cases q:zbE e with
 |none=>rw[q] at h;cases h
 | some z =>
   obtain⟨f,bs,ks,p⟩:=z
   rw[q] at h
   dsimp only[Option.bind_some] at h
   split at h
   · rename_i c
     cases q2:zbk f with
     |none=>rw[q2] at h;cases h
     | some y =>
       rw[q2] at h
       obtain⟨p2,rfl⟩:=zaU q2
       cases ks with
       |cons _ _=>cases c
       |nil=>cases h;exact⟨p2,p,zb1 q⟩
   · cases h
noncomputable def zbg (e:Expr):Option (Str × Expr):=(zaY e).bind fun q=>(one q.2).map fun a=>(q.1,a)
theorem zbf {e a:Expr}{x:Str}(h:zbg e=some (x,a)):∃p2 p,e=.Call (.Name x p2) [a] [] p:=by
 unfold zbg at h
 cases q:zaY e with
 |none=>rw[q] at h;cases h
 | some z =>
   obtain⟨y,bs⟩:=z
   rw[q] at h
   dsimp only[Option.bind_some] at h
   cases q2:one bs with
   |none=>rw[q2] at h;cases h
   | some b =>
     rw[q2] at h
     cases h
     rw[zba q2] at q
     exact zaV q
noncomputable def zcm (e:Expr):Option (Expr × Str × Pos × Expr × Pos):=(zbE e).bind fun q=>if q.2.2.1.isEmpty then (zb8 q.1).bind fun a=>(one q.2.1).map fun y=>(a.1,a.2.1,a.2.2,y,q.2.2.2) else none
theorem zcT {e o a:Expr}{x:Str}{ap cp:Pos}(h:zcm e=some (o,x,ap,a,cp)):e=.Call (.Attribute o x ap) [a] [] cp:=by
 unfold zcm at h
 cases q:zbE e with
 |none=>rw[q] at h;cases h
 | some z =>
   obtain⟨f,bs,ks,p⟩:=z
   rw[q] at h
   dsimp only[Option.bind_some] at h
   split at h
   · rename_i c
     cases q2:zb8 f with
     |none=>rw[q2] at h;cases h
     | some y =>
       obtain⟨o',x',ap'⟩:=y
       rw[q2] at h
       dsimp only[Option.bind_some] at h
       cases q3:one bs with
       |none=>rw[q3] at h;cases h
       | some b =>
         rw[q3] at h
         cases h
         cases ks with
         |cons _ _=>cases c
         |nil=>rw[zb1 q,zcU q2,zba q3]
   · cases h
noncomputable def zb0 (e:Expr):Option (Expr × Str × Pos × List Expr × Pos):=(zbE e).bind fun q=>if q.2.2.1.isEmpty then (zb8 q.1).map fun a=>(a.1,a.2.1,a.2.2,q.2.1,q.2.2.2) else none
theorem zet {e o:Expr}{as:List Expr}{x:Str}{ap cp:Pos}(h:zb0 e=some (o,x,ap,as,cp)):e=.Call (.Attribute o x ap) as [] cp:=by
 unfold zb0 at h
 cases q:zbE e with
 |none=>rw[q] at h;cases h
 | some z =>
   obtain⟨f,bs,ks,p⟩:=z
   rw[q] at h
   dsimp only[Option.bind_some] at h
   split at h
   · rename_i c
     cases q2:zb8 f with
     |none=>rw[q2] at h;cases h
     | some y =>
       obtain⟨o',x',ap'⟩:=y
       rw[q2] at h
       cases h
       cases ks with
       |cons _ _=>cases c
       |nil=>rw[zb1 q,zcU q2]
   · cases h
noncomputable def fnB (T:Tab)(f j:Nat)(x:Str):Bool:=match T.fns[f]? with|some (y,_,nd)=>(y == x)&&decide (j<=nd)|none=>false
noncomputable def conG (T:Tab)(d:D)(x:Str):Bool:=match T.cons.lookup x with|some d'=>eqC d' d|none=>false
noncomputable def zgU:CE->Bool|.con _=>true|_=>false
noncomputable def zkh:CL->Bool|.comp ..=>true|_=>false
noncomputable def zgS:CE->Bool|.tst (.con (.bl true))=>true|_=>false
noncomputable def zj4:CEs->Bool|.cons _ .nil=>true|_=>false
noncomputable def zl3:CE->Option Nat|.loc i=>some i|_=>none
theorem zgz {a:CE}{i:Nat}(h:zl3 a=some i):a=.loc i:=by cases a<;>first|(cases h;rfl)|cases h
noncomputable def zl0:CEs->Bool|.nil=>true|_=>false
noncomputable def mtN:Mt->Str->Bool
 |.append,x=>x == ("append":Str)
 |.popAt,x=>x == ("pop":Str)
 |.count,x=>x == ("count":Str)
noncomputable def znu:Bi->Option String|.isin t=>some t|_=>none
noncomputable def tgB (sc:Scope)(N:List Str)(g:List Nat)(tg:Expr):Bool:=match zbk tg with
 |some x=>(match one g with|some i=>(N[i]? == some x)&&zdX sc x|none=>false)
 |none=>(zer tg).any fun es=>decide (2<=g.length)&&zbG sc N g es
mutual
noncomputable def chkE (T:Tab):CE->List Str->Scope->Expr->Bool
 |.loc i,N,sc,e=>(zbk e).any fun x=>(N[i]? == some x)&&zgQ sc x&&nmB x
 |.con d,_,sc,e=>(zco e).any (fun c=>conB d c) || (zbk e).any fun x=>isGl sc x&&conG T d x&&nmB x
 |.tst _,_,_,_=>false
 |.bin op a b,N,sc,e=>(zgf e).any fun q=>decide (q.2.1=op)&&chkE T a N sc q.1&&chkE T b N sc q.2.2
 |.neg a,N,sc,e=>(rdUn e).any fun q=>decide (q.1=.USub)&&chkE T a N sc q.2
 |.nt a,N,sc,e=>(rdUn e).any fun q=>decide (q.1=.Not)&&chkE T a N sc q.2
 |.cmp op a b,N,sc,e=>(zfC e).any fun q=>decide (q.2.1=[op])&&(one q.2.2).any fun r=>zbF r&&chkE T a N sc q.1&&chkE T b N sc r
 |.and a b,N,sc,e=>(zb7 e).any fun q=>decide (q.1=.And)&&(match q.2.1 with
  |x::y::rest=>chkE T a N sc x&&(if rest.isEmpty then chkE T b N sc y else chkE T b N sc (.BoolOp .And (y::rest) q.2.2))
  |_=>false)
 |.or a b,N,sc,e=>(zb7 e).any fun q=>decide (q.1=.Or)&&(match q.2.1 with
  |x::y::rest=>chkE T a N sc x&&(if rest.isEmpty then chkE T b N sc y else chkE T b N sc (.BoolOp .Or (y::rest) q.2.2))
  |_=>false)
 |.tup es,N,sc,e=>(zer e).any fun xs=>zbw T es N sc xs
 |.lst es,N,sc,e=>(zdH e).any fun xs=>zbw T es N sc xs
 |.dnew3,_,_,e=>zcn e
 |.ix a b,N,sc,e=>(zes e).any fun q=>zde q.2&&chkE T a N sc q.1&&chkE T b N sc q.2
 |.mk c f x j es,N,sc,e=>(zaY e).any fun q=>decide (q.1=x)&&isGl sc x&&nmB x&&decide (T.cls[c]?=some x)&&T.inits.contains (c,f,j)&&(!q.2.isEmpty || zl0 es)&&zbw T es N sc q.2
 |.callV a es,N,sc,e=>(zaY e).any fun q=>(zl3 a).any fun i=>(N[i]? == some q.1)&&zgQ sc q.1&&nmB q.1&&!q.2.isEmpty&&zbw T es N sc q.2
 |.clr a,N,sc,e=>(zb0 e).any fun q=>(q.2.1 == ("clear":Str))&&zct q.1&&(q.2.2.1.endLine == q.2.2.2.2.line)&&q.2.2.2.1.isEmpty&&chkE T a N sc q.1
 |.sl a ml mh lo hi,N,sc,e=>(zes e).any fun q=>(rdSl q.2).any fun s=>chkE T a N sc q.1
  && (match s.1 with|none=>!ml&&zgU lo|some e=>ml&&chkE T lo N sc e)
  && (match s.2 with|none=>!mh&&zgU hi|some e=>mh&&chkE T hi N sc e)
 |.call f j es,N,sc,e=>(zaY e).any fun q=>isGl sc q.1&&nmB q.1&&fnB T f j q.1&&(!q.2.isEmpty || zl0 es)&&zbw T es N sc q.2
 |.bi b es,N,sc,e=>(zaY e).any fun q=>bltB T sc q.1&&nmB q.1&&(match znu b with
  |some t=>(two q.2).any fun z=>(zbk z.2).any fun y=>(q.1 == ("isinstance":Str))&&tyB t y&&bltB T sc y&&nmB y&&zj4 es&&zbw T es N sc [z.1]
  |none=>biB b q.1 q.2.length&&!q.2.isEmpty&&zbw T es N sc q.2)
 |.mt m o es,N,sc,e=>(zcm e).any fun q=>mtN m q.2.1&&zct q.1&&(q.2.2.1.endLine == q.2.2.2.2.line)&&zj4 es&&chkE T o N sc q.1&&zbw T es N sc [q.2.2.2.1]
 |.mkL l,N,sc,e=>if zkh l then (if (rdLC e).isSome then chkL T l N sc e else (zbg e).any fun q=>(q.1 == ("list":Str))&&bltB T sc q.1&&zav q.2&&chkL T l N sc q.2)
  else (zbg e).any fun q=>(q.1 == ("list":Str))&&bltB T sc q.1&&zav q.2&&(!(zig l) || isR1 l)&&chkL T l N sc q.2
 |.mkT l,N,sc,e=>(zbg e).any fun q=>(q.1 == ("tuple":Str))&&bltB T sc q.1&&zav q.2&&(!(zig l))&&chkL T l N sc q.2
 |.ext a l,N,sc,e=>(zcm e).any fun q=>(q.2.1 == ("extend":Str))&&zav q.2.2.2.1&&zct q.1&&(q.2.2.1.endLine == q.2.2.2.2.line)&&zkf l&&chkE T a N sc q.1&&chkL T l N sc q.2.2.2.1
noncomputable def zbw (T:Tab):CEs->List Str->Scope->List Expr->Bool
 |.nil,_,_,es=>es.isEmpty
 |.cons a r,N,sc,es=>(match es with | []=>false|e::es=>zav e&&chkE T a N sc e&&zbw T r N sc es)
noncomputable def chkT (T:Tab):CE->List Str->Scope->Expr->Bool
 |.cmp op a b,N,sc,e=>(zfC e).any fun q=>decide (q.2.1=[op])&&(one q.2.2).any fun r=>zbF r&&chkE T a N sc q.1&&chkE T b N sc r
 |.nt a,N,sc,e=>(rdUn e).any fun q=>decide (q.1=.Not)&&chkT T a N sc q.2
 |.and a b,N,sc,e=>(zb7 e).any fun q=>decide (q.1=.And)&&(match q.2.1 with
  |x::y::rest=>chkT T a N sc x&&(if rest.isEmpty then chkT T b N sc y else chkT T b N sc (.BoolOp .And (y::rest) q.2.2))
  |_=>false)
 |.or a b,N,sc,e=>(zb7 e).any fun q=>decide (q.1=.Or)&&(match q.2.1 with
  |x::y::rest=>chkT T a N sc x&&(if rest.isEmpty then chkT T b N sc y else chkT T b N sc (.BoolOp .Or (y::rest) q.2.2))
  |_=>false)
 |.tst a,N,sc,e=>ze3 e&&chkE T a N sc e
 |_,_,_,_=>false
noncomputable def chkL (T:Tab):CL->List Str->Scope->Expr->Bool
 |.val a,N,sc,e=>zbF e&&chkE T a N sc e
 |.rng1 a,N,sc,e=>(zbg e).any fun q=>(q.1 == ("range":Str))&&bltB T sc q.1&&zav q.2&&chkE T a N sc q.2
 |.zip a b,N,sc,e=>(zaY e).any fun q=>(two q.2).any fun z=>(q.1 == ("zip":Str))&&bltB T sc q.1&&zav z.1&&zav z.2&&chkE T a N sc z.1&&chkE T b N sc z.2
 |.comp nt js g it c e,N,sc,ex=>(rdLC ex).any fun q=>(one q.2.1).any fun z=>decide (z.is_async=0)&&zkx sc q.2.2.1 N js&&(zbF z.iter&&(zgR z.target || !(zgP it)))&&chkL T it N sc z.iter&&decide ((zbC z.target).length=nt)&&decide ((capN N (zbC z.target) js).Nodup)
  && tgB q.2.2.1 (capN N (zbC z.target) js) g z.target
  && (if z.ifs.isEmpty then zgS c else (one z.ifs).any fun t=>chkT T c (capN N (zbC z.target) js) q.2.2.1 t)
  && chkE T e (capN N (zbC z.target) js) q.2.2.1 q.1
end
noncomputable def zgg:Stmt->Option (Expr × Expr × Pos)|.Assign tgs v p=>(one tgs).map fun t=>(t,v,p)|_=>none
noncomputable def zlq:Stmt->Option (Expr × List Stmt × List Stmt)|.If e a b _=>some (e,a,b)|_=>none
noncomputable def zjG:Stmt->Option (Expr × Expr × List Stmt)|.For tg it b els _=>if els.isEmpty then some (tg,it,b) else none|_=>none
noncomputable def zjF:Stmt->Option Expr|.Return v _=>v|_=>none
noncomputable def zlr:Stmt->Option Expr|.Expr v _=>some v|_=>none
section
variable {s:Stmt} {e v tg it:Expr} {a b:List Stmt} {p:Pos}
theorem zcp (h:zgg s=some (tg,v,p)):s=.Assign [tg] v p:=by
 cases s with
 | Assign tgs v p =>
   simp only[zgg] at h
   cases q:one tgs with
   |none=>rw[q] at h;cases h
   |some t=>rw[q] at h;cases h;rw[zba q]
 |_=>cases h
theorem zgb (h:zlq s=some (e,a,b)):∃p,s=.If e a b p:=by cases s<;>first|(cases h;exact⟨_,rfl⟩)|cases h
theorem zgc (h:zjG s=some (tg,it,b)):∃p,s=.For tg it b [] p:=by
 cases s with
 | For tg it b els p =>
   simp only[zjG] at h
   cases els with
   |nil=>cases h;exact⟨_,rfl⟩
   |cons _ _=>cases h
 |_=>cases h
theorem zga (h:zjF s=some e):∃p,s=.Return (some e) p:=by
 cases s with
 |Return v p=>simp only[zjF] at h;subst h;exact⟨_,rfl⟩
 |_=>cases h
theorem zgd (h:zlr s=some e):∃p,s=.Expr e p:=by cases s<;>first|(cases h;exact⟨_,rfl⟩)|cases h
end
noncomputable def chkS (T:Tab):CS->List Str->Scope->List Stmt->Bool
 |.nil,_,_,st=>st.isEmpty
 |.stop,_,_,_=>true
 |.asg i e r,N,sc,st=>(match st with | []=>false|s::rest=>(zgg s).any fun q=>(zbk q.1).any fun x=>(N[i]? == some x)&&zdX sc x&&chkE T e N sc q.2.1&&chkS T r N sc rest)
 |.asgT g e r,N,sc,st=>(match st with | []=>false|s::rest=>(zgg s).any fun q=>(zer q.1).any fun es=>(zbk q.2.1).isSome&&decide (2<=g.length)&&zbG sc N g es&&chkE T e N sc q.2.1&&chkS T r N sc rest)
 |.setIx a b e r,N,sc,st=>(match st with | []=>false|s::rest=>(zgg s).any fun q=>(zes q.1).any fun z=>zbs q.2.1&&chkE T a N sc z.1&&chkE T b N sc z.2&&chkE T e N sc q.2.1&&chkS T r N sc rest)
 |.ifS c t u r,N,sc,st=>(match st with | []=>false|s::rest=>(zlq s).any fun q=>chkT T c N sc q.1&&chkS T t N sc q.2.1&&chkS T u N sc q.2.2&&chkS T r N sc rest)
 |.forS g l b r,N,sc,st=>(match st with | []=>false|s::rest=>(zjG s).any fun q=>zbF q.2.1&&chkL T l N sc q.2.1&&chkS T b N sc q.2.2&&chkS T r N sc rest&&(tgB sc N g q.1&&(zgR q.1 || !(zgP l))))
 |.ret e r,N,sc,st=>(match st with | []=>false|s::rest=>(zjF s).any fun v=>chkE T e N sc v&&chkS T r N sc rest)
 |.expr e r,N,sc,st=>(match st with | []=>false|s::rest=>(zlr s).any fun v=>zbs v&&chkE T e N sc v&&chkS T r N sc rest)
end R
end
section
set_option maxHeartbeats 8000000
namespace R
open PySem PySem.Spec PyProof.Rows L2
variable [Mks]
section
variable {T:Tab} {cf:CF} {k:Nat} {N:List Str} {sc:Scope} {X:Cx}
theorem zbt (env:Env)(x:Str):∀{names:List (Str × NameKind)} {k0:NameKind},names.lookup x=some k0->k0≠.free->(names.map (zbD env)).lookup x=some k0
 | [],_,h,_=>by simp at h
 | y :: r, k0, h, hk => by
   rw[List.map_cons]
   have f1:=zcj env y
   have f2:=zci env y
   obtain⟨n,k1⟩:=y
   generalize hz:zbD env (n,k1)=z at *
   obtain⟨zn,zk⟩:=z
   simp only at f1 f2
   subst f1
   rw[List.lookup_cons] at h⊢
   cases hx:x == zn with
   | true =>
     rw[hx] at h
     have e:k1=k0:=Option.some.inj h
     subst e
     rcases f2 with f2|⟨q,_⟩
     · show some zk=_;rw[f2]
     · exact absurd q hk
   | false =>
     rw[hx] at h
     exact zbt env x h hk
theorem zfq (G:Gd T cf k N sc X){scope:Scope}{js:List Nat}(h:zkx sc scope N js=true):CompOk X.env.scope scope X.N js:=by
 unfold zkx at h
 simp only[Bool.and_eq_true,List.all_eq_true,decide_eq_true_eq,Bool.or_eq_true] at h
 obtain⟨⟨⟨⟨h1,h2⟩,h3⟩,h4⟩,h5⟩:=h
 refine⟨h1,h2,fun y hy e=>?_,fun y hy e=>?_,fun j hj=>?_⟩
 · rcases h3 y hy with z|z
   · exact absurd e z
   · exact z
 · rcases h4 y hy with (z|z)|z
   · exact absurd e z
   · exact .inl (G.cell _ z)
   · exact (G.free _ z).symm
 · rw[G.nm];exact h5 j hj
theorem zg3 (G:Gd T cf k N sc X){scope:Scope}{tgs:List Str}{js:List Nat}(ok:CompOk X.env.scope scope X.N js)(hn:(capN N tgs js).Nodup)(cl:List (Str × Addr))(C:Addr)(fp:List Addr)(s:Shared)(H:Hp)(pn:List (Addr × Obj)) :
  Gd T cf k (capN N tgs js) scope (zaH X (capN X.N tgs js) scope cl C fp s H pn):=by
 have names:(zaH X (capN X.N tgs js) scope cl C fp s H pn).env.scope.names=scope.names.map (zbD X.env):=zbd scope X.env
 have noc:∀x,scope.names.lookup x≠some .cell:=fun x e=>ok.nocell _ (PySem.mem_of_lookup e) rfl
 refine⟨by rw[<-G.nm],hn,fun x e=>?_,fun x e=>absurd e (noc x),fun x e=>?_,fun x e=>?_,.inr noc,G.calm,rfl,G.room',G.tab⟩
 · rw[names];exact zbt _ _ e (by decide)
 · rw[names];exact zbe _ _ _ e
 · rw[names];exact zbt _ _ e (by decide)
theorem zcu {x:Str}(h:nmB x=true):(x == ("__debug__":Str))=false/\(x == ("__classdict__":Str))=false/\x≠("__name__":Str):=by
 unfold nmB at h
 simp only[Bool.and_eq_true,Bool.not_eq_true'] at h
 exact⟨h.1.1,h.1.2,fun e=>by rw[e] at h;simp at h⟩
theorem zkU {t:String}{y:Str}(h:tyB t y=true):t∈["bool","int","str","list","tuple","dict"]/\bootBuiltins y=some (.type t):=by
 unfold tyB at h
 simp only[Bool.or_eq_true,Bool.and_eq_true,beq_iff_eq] at h
 rcases h with ((((⟨rfl,rfl⟩|⟨rfl,rfl⟩)|⟨rfl,rfl⟩)|⟨rfl,rfl⟩)|⟨rfl,rfl⟩)|⟨rfl,rfl⟩
 · exact⟨by simp,zkG⟩
 · exact⟨by simp,zmA⟩
 · exact⟨by simp,zmw⟩
 · exact⟨by simp,zeQ⟩
 · exact⟨by simp,zfu⟩
 · exact⟨by simp,zkF⟩
theorem zmk {f j:Nat}{x:Str}(h:fnB T f j x=true):∃ps nd,T.fns[f]?=some (x,ps,nd)/\j<=nd:=by
 unfold fnB at h
 cases e:T.fns[f]? with
 |none=>rw[e] at h;cases h
 | some q =>
   obtain⟨y,ps,nd⟩:=q
   rw[e] at h
   simp only[Bool.and_eq_true,beq_iff_eq,decide_eq_true_eq] at h
   obtain⟨rfl,h2⟩:=h
   exact⟨ps,nd,rfl,h2⟩
theorem zaW:∀{ces:CEs} {N:List Str} {sc:Scope} {es:List Expr},zbw T ces N sc es=true->es.all zav=true
 | .nil, N, sc, es, h => by
   simp only[zbw,List.isEmpty_iff] at h
   subst h;rfl
 | .cons a r, N, sc, es, h => by
   cases es with
   |nil=>simp[zbw] at h
   | cons e es =>
     simp only[zbw,Bool.and_eq_true] at h
     simp[h.1.1,zaW h.2]
theorem zfr {es:CEs}(h:zj4 es=true):∃a,es=.cons a .nil:=by
 cases es with
 |nil=>cases h
 | cons a r =>
   cases r with
   |nil=>exact⟨a,rfl⟩
   |cons _ _=>cases h
theorem zfS (G:Gd T cf k N sc X){b:Bi}{x:Str}{n:Nat}(h:biB b x n=true):∃id,zbc X (.builtin id) (rB X.K fun S ds=>R.bi S b ds)/\bootBuiltins x=some (.builtin id):=by
 cases b with
 |len=>simp only[biB,Bool.and_eq_true,beq_iff_eq] at h;rw[h.1];exact⟨_,zl5,zmz⟩
 |abs=>simp only[biB,Bool.and_eq_true,beq_iff_eq] at h;rw[h.1];exact⟨_,zmD,zmB⟩
 |max2=>simp only[biB,Bool.and_eq_true,beq_iff_eq] at h;rw[h.1];exact⟨_,zl2 G.calm,zmy⟩
 |min2=>simp only[biB,Bool.and_eq_true,beq_iff_eq] at h;rw[h.1];exact⟨_,zl1 G.calm,zmx⟩
 |isin t=>simp[biB] at h
noncomputable def LOk (T:Tab)(cf:CF)(k:Nat)(cl:CL)(X:Cx)(e:Expr):Prop:=(zig cl=false->PE X e (tL X.K cf cl))/\(zkf cl=true->PE X e (tLt X.K cf cl))/\(∀tg,(zgR tg || !(zgP cl))=true->PI X tg e (tI X.K cf cl))/\
 ∀a,cl=.rng1 a->∃a' p2 p,e=.Call (.Name "range" p2) [a'] [] p/\(Gl X "range"/\X.mg "range"=none)/\PE X a' (tE X.K cf a)/\zav a'=true
noncomputable def EsOk (cf:CF)(ces:CEs)(X:Cx)(es:List Expr):Prop:=PA X es (tAs X.K cf ces)/\∀a r e es',ces=.cons a r->es=e::es'->PE X e (tE X.K cf a)
theorem zji {sc:Scope}{N:List Str}{X:Cx}{g:List Nat}{tg:Expr}(G:Gd T cf k N sc X)(h:tgB sc N g tg=true):PG X tg (tG X.K g):=by
 unfold tgB at h
 split at h
 · rename_i x q
   obtain⟨p,rfl⟩:=zaU q
   split at h
   · rename_i i q2
     rw[zba q2]
     simp only[Bool.and_eq_true,beq_iff_eq] at h
     exact zjs G h.1 h.2
   · cases h
 · replace h:=zag h
   obtain⟨es,q,h⟩:=h
   obtain⟨j,p,rfl⟩:=zck q
   simp only[Bool.and_eq_true,decide_eq_true_eq] at h
   exact ziL G h.2 h.1
theorem zeW {c:CE}{X:Cx}(h:zgS c=true):PTs X [] (tT X.K cf c):=by
 have hc:c=.tst (.con (.bl true)):=by
  cases c with
  | tst a =>
    cases a with
    | con d =>
      cases d with
      | bl b =>
        cases b with
        |true=>rfl
        |false=>cases h
      |_=>cases h
    |_=>cases h
  |_=>cases h
 subst hc
 intro pins s' σ H' Qv I q
 refine zjM pins s' σ H' Qv I ?_
 obtain⟨δ,ι,S,Q,hs,hh,w,q⟩:=q
 simp only[evT,evE,zaR,tru,zgA,W_ok] at w
 exact q _ _ ⟨ι,S,Ext.refl _ _,hh,w⟩
theorem zgq {m:Bool}{ce:CE}{o:Option Expr}{X:Cx}(h1:o=none->m=false/\zgU ce=true)(h2:∀e,o=some e->m=true/\PE X e (tE X.K cf ce)):PartOk X cf m ce o:=by
 cases o with
 | none =>
   obtain⟨rfl,h⟩:=h1 rfl
   cases ce with
   |con d=>exact .no ⟨d,rfl⟩
   |_=>cases h
 | some e =>
   obtain⟨rfl,h⟩:=h2 e rfl
   exact .yes h
theorem zbm {x y:Str}(h:(x == y)=true):x=y:=by simpa using h
mutual
theorem zak:∀(ce:CE) {N:List Str} {sc:Scope} {e:Expr} {X:Cx},Gd T cf k N sc X->chkE T ce N sc e=true->PE X e (tE X.K cf ce)
 | .loc i, N, sc, e, X, G, h => by
   simp only[chkE] at h
   replace h:=zag h
   obtain⟨x,q,h⟩:=h
   obtain⟨p,rfl⟩:=zaU q
   simp only[Bool.and_eq_true,beq_iff_eq] at h
   obtain⟨h1,h2,_⟩:=zcu h.2
   exact ziO G h.1.1 h.1.2 h1 h2
 | .con d, N, sc, e, X, G, h => by
   simp only[chkE] at h
   rw[Bool.or_eq_true] at h
   rcases h with h|h
   · replace h:=zag h
     obtain⟨c,q,h⟩:=h
     obtain⟨j,p,rfl⟩:=zew q
     exact zli h
   · replace h:=zag h
     obtain⟨x,q,h⟩:=h
     obtain⟨p,rfl⟩:=zaU q
     simp only[Bool.and_eq_true] at h
     obtain⟨h1,h2,_⟩:=zcu h.2
     have h3:=h.1.2
     unfold conG at h3
     split at h3
     · rename_i d' e'
       exact zjw G h.1.1 e' h3 h1
     · cases h3
 |.tst a,N,sc,e,X,G,h=>by simp only[chkE] at h;cases h
 | .bin op a b, N, sc, e, X, G, h => by
   simp only[chkE] at h
   replace h:=zag h
   obtain⟨⟨l,o,r⟩,q,h⟩:=h
   obtain⟨p,rfl⟩:=zge q
   simp only[Bool.and_eq_true,decide_eq_true_eq] at h
   obtain⟨⟨rfl,h1⟩,h2⟩:=h
   exact zll (zak a G h1) (zak b G h2)
 | .neg a, N, sc, e, X, G, h => by
   simp only[chkE] at h
   replace h:=zag h
   obtain⟨⟨o,x⟩,q,h⟩:=h
   obtain⟨p,rfl⟩:=zdb q
   simp only[Bool.and_eq_true,decide_eq_true_eq] at h
   obtain⟨rfl,h1⟩:=h
   exact zld (zak a G h1)
 | .nt a, N, sc, e, X, G, h => by
   simp only[chkE] at h
   replace h:=zag h
   obtain⟨⟨o,x⟩,q,h⟩:=h
   obtain⟨p,rfl⟩:=zdb q
   simp only[Bool.and_eq_true,decide_eq_true_eq] at h
   obtain⟨rfl,h1⟩:=h
   exact zmZ (zak a G h1)
 | .cmp op a b, N, sc, e, X, G, h => by
   simp only[chkE] at h
   replace h:=zag h
   obtain⟨⟨l,os,rs⟩,q,h⟩:=h
   obtain⟨p,rfl⟩:=zdI q
   rw[Bool.and_eq_true,decide_eq_true_eq] at h
   obtain⟨e1,h⟩:=h
   replace h:=zag h
   obtain⟨r,q2,h⟩:=h
   cases zba q2
   cases e1
   simp only[Bool.and_eq_true] at h
   exact zlj G (zak a G h.1.2) (zak b G h.2) h.1.1
 | .and a b, N, sc, e, X, G, h => by
   simp only[chkE] at h
   replace h:=zag h
   obtain⟨⟨o,vs,p⟩,q,h⟩:=h
   cases zbz q
   rw[Bool.and_eq_true,decide_eq_true_eq] at h
   obtain⟨e1,h⟩:=h
   cases e1
   dsimp only at h
   split at h
   · rename_i x y rest
     rw[Bool.and_eq_true] at h
     obtain⟨h1,h2⟩:=h
     split at h2
     · rename_i c
       cases List.isEmpty_iff.mp c
       exact ziP (zak a G h1) (zi0 (zak b G h2))
     · exact ziP (zak a G h1) (zak b G h2)
   · cases h
 | .or a b, N, sc, e, X, G, h => by
   simp only[chkE] at h
   replace h:=zag h
   obtain⟨⟨o,vs,p⟩,q,h⟩:=h
   cases zbz q
   rw[Bool.and_eq_true,decide_eq_true_eq] at h
   obtain⟨e1,h⟩:=h
   cases e1
   dsimp only at h
   split at h
   · rename_i x y rest
     rw[Bool.and_eq_true] at h
     obtain⟨h1,h2⟩:=h
     split at h2
     · rename_i c
       cases List.isEmpty_iff.mp c
       exact zlc (zak a G h1) (zi0 (zak b G h2))
     · exact zlc (zak a G h1) (zak b G h2)
   · cases h
 | .tup es, N, sc, e, X, G, h => by
   simp only[chkE] at h
   replace h:=zag h
   obtain⟨xs,q,h⟩:=h
   obtain⟨j,p,rfl⟩:=zck q
   exact zlb (za3 es G h).1
 | .lst es, N, sc, e, X, G, h => by
   simp only[chkE] at h
   replace h:=zag h
   obtain⟨xs,q,h⟩:=h
   obtain⟨p,rfl⟩:=zfB q
   exact zlg (za3 es G h).1
 | .ix a b, N, sc, e, X, G, h => by
   simp only[chkE] at h
   replace h:=zag h
   obtain⟨⟨x,i⟩,q,h⟩:=h
   obtain⟨p,rfl⟩:=zcl q
   simp only[Bool.and_eq_true] at h
   exact zm1 (zak a G h.1.2) (zak b G h.2) h.1.1
 | .mk c f x j es, N, sc, e, X, G, h => by
   simp only[chkE] at h
   replace h:=zag h
   obtain⟨⟨x',args⟩,q,h⟩:=h
   obtain⟨p2,p,rfl⟩:=zaV q
   simp only[Bool.and_eq_true,Bool.or_eq_true,decide_eq_true_eq] at h
   obtain⟨⟨⟨⟨⟨⟨rfl,h1⟩,h2⟩,h3⟩,h4⟩,h5⟩,h6⟩:=h
   obtain⟨n1,n2,n3⟩:=zcu h2
   have ha:=(za3 es G h6).1
   cases args with
   | nil =>
     have:es=.nil:=by
      cases es with
      |nil=>rfl
      |cons _ _=>rcases h5 with z|z<;>cases z
     rw[this]
     exact zlf G h4 h3 h1 n1
   |cons a as=>exact zm0 G h4 h3 h1 n1 ha (zaW h6)
 | .callV a es, N, sc, e, X, G, h => by
   simp only[chkE] at h
   replace h:=zag h
   obtain⟨⟨x,args⟩,q,h⟩:=h
   obtain⟨p2,p,rfl⟩:=zaV q
   replace h:=zag h
   obtain⟨i,q2,h⟩:=h
   obtain rfl:=zgz q2
   simp only[Bool.and_eq_true,beq_iff_eq] at h
   obtain⟨⟨⟨⟨h1,h2⟩,h3⟩,h4⟩,h5⟩:=h
   obtain⟨n1,n2,_⟩:=zcu h3
   have ha:=(za3 es G h5).1
   cases args with
   |nil=>cases h4
   |cons a as=>exact zhE G (ziO G h1 h2 n1 n2) ha (zaW h5)
 | .clr a, N, sc, e, X, G, h => by
   simp only[chkE] at h
   replace h:=zag h
   obtain⟨⟨oe,m',ap,args,cp⟩,q,h⟩:=h
   cases zet q
   simp only[Bool.and_eq_true,List.isEmpty_iff] at h
   obtain⟨⟨⟨⟨h0,h1⟩,h2⟩,rfl⟩,h4⟩:=h
   cases zbm h0
   exact zlk (zak a G h4) h1 h2
 | .sl a ml mh lo hi, N, sc, e, X, G, h => by
   simp only[chkE] at h
   replace h:=zag h
   obtain⟨⟨x,i⟩,q,h⟩:=h
   obtain⟨p,rfl⟩:=zcl q
   replace h:=zag h
   obtain⟨⟨l,u⟩,q2,h⟩:=h
   obtain⟨p2,rfl⟩:=zhM q2
   simp only[Bool.and_eq_true] at h
   obtain⟨⟨h1,h2⟩,h3⟩:=h
   refine zmY (zak a G h1) (zgq (fun z=>?_) fun e z=>?_) (zgq (fun z=>?_) fun e z=>?_)
   · subst z;simpa using h2
   · subst z
     simp only[Bool.and_eq_true] at h2
     exact⟨h2.1,zak lo G h2.2⟩
   · subst z;simpa using h3
   · subst z
     simp only[Bool.and_eq_true] at h3
     exact⟨h3.1,zak hi G h3.2⟩
 | .call f j es, N, sc, e, X, G, h => by
   simp only[chkE] at h
   replace h:=zag h
   obtain⟨⟨x,args⟩,q,h⟩:=h
   obtain⟨p2,p,rfl⟩:=zaV q
   simp only[Bool.and_eq_true,Bool.or_eq_true] at h
   obtain⟨⟨⟨⟨h1,h2⟩,h3⟩,h4⟩,h5⟩:=h
   obtain⟨n1,n2,n3⟩:=zcu h2
   obtain⟨ps,nd,hf,hj⟩:=zmk h3
   have ha:=(za3 es G h5).1
   cases args with
   | nil =>
     have:es=.nil:=by
      cases es with
      |nil=>rfl
      |cons _ _=>rcases h4 with z|z<;>cases z
     rw[this]
     exact zhF G hf hj h1 n1
   |cons a as=>exact zjx G hf hj h1 n1 ha (zaW h5)
 | .bi b es, N, sc, e, X, G, h => by
   simp only[chkE] at h
   replace h:=zag h
   obtain⟨⟨x,args⟩,q,h⟩:=h
   obtain⟨p2,p,rfl⟩:=zaV q
   rw[Bool.and_eq_true,Bool.and_eq_true] at h
   obtain⟨⟨h1,h2⟩,h3⟩:=h
   obtain⟨n1,n2,n3⟩:=zcu h2
   split at h3
   · rename_i t qt
     replace h3:=zag h3
     obtain⟨⟨e1,e2⟩,q2,h3⟩:=h3
     cases two_inv q2
     replace h3:=zag h3
     obtain⟨y,q3,h3⟩:=h3
     obtain⟨p3,rfl⟩:=zaU q3
     simp only[Bool.and_eq_true] at h3
     obtain⟨⟨⟨⟨⟨hx,h4⟩,h5⟩,h6⟩,h7⟩,h8⟩:=h3
     cases zbm hx
     obtain⟨m1,m2,m3⟩:=zcu h6
     obtain⟨t1,t2⟩:=zkU h4
     obtain⟨a,ea⟩:=zfr h7
     have he:=(za3 es G h8).2 a .nil e1 [] ea rfl
     have hst:=zaW h8
     have eb:b=.isin t:=by
      cases b with
      |isin _=>cases qt;rfl
      |_=>cases qt
     rw[ea,eb]
     exact zjv G (zbH G h1) (zbH G h5) t2 t1 m3 m1 he (by simpa using hst)
   · rw[Bool.and_eq_true,Bool.and_eq_true] at h3
     cases args with
     |nil=>cases h3.1.2
     | cons a as =>
       obtain⟨id,hc,hv⟩:=zfS G h3.1.1
       exact zm2 hc (zbH G h1) hv (za3 es G h3.2).1 (zaW h3.2) n3 n1
 | .mt m o es, N, sc, e, X, G, h => by
   simp only[chkE] at h
   replace h:=zag h
   obtain⟨⟨oe,x,ap,e1,cp⟩,q,h⟩:=h
   cases zcT q
   simp only[Bool.and_eq_true] at h
   obtain⟨⟨⟨⟨⟨h1,h2⟩,h3⟩,h4⟩,h5⟩,h6⟩:=h
   obtain⟨a,ea⟩:=zfr h4
   have he:=(za3 es G h6).2 a .nil e1 [] ea rfl
   have hst:zav e1=true:=by simpa using zaW h6
   rw[ea]
   cases m with
   | append =>
     cases zbm h1
     exact zjt PySem.F.slot_list_append PySem.F.type_list_append zht (zak o G h5) he hst h2 h3
   | popAt =>
     cases zbm h1
     exact zjt PySem.F.slot_list_pop PySem.F.type_list_pop zhU (zak o G h5) he hst h2 h3
   | count =>
     cases zbm h1
     exact zjt PySem.F.slot_list_count PySem.F.type_list_count ziw (zak o G h5) he hst h2 h3
 | .mkL l, N, sc, e, X, G, h => by
   simp only[chkE] at h
   split at h
   · rename_i c
     split at h
     · have ht:zkf l=true:=by
        cases l with
        |comp=>rfl
        |_=>cases c
       exact PE.imp ((zbv l G h).2.1 ht) fun σ H Qv q=>zgw q
     · replace h:=zag h
       obtain⟨⟨x,e1⟩,q,h⟩:=h
       obtain⟨p2,p,rfl⟩:=zbf q
       simp only[Bool.and_eq_true] at h
       obtain⟨⟨⟨hx,h1⟩,h2⟩,h4⟩:=h
       cases zbm hx
       have hr:zig l=false:=by
        cases l with
        |comp=>rfl
        |_=>cases c
       exact ziN G (zbH G h1) ((zbv l G h4).1 hr) h2
   · replace h:=zag h
     obtain⟨⟨x,e1⟩,q,h⟩:=h
     obtain⟨p2,p,rfl⟩:=zbf q
     simp only[Bool.and_eq_true,Bool.or_eq_true,Bool.not_eq_true'] at h
     obtain⟨⟨⟨⟨hx,h1⟩,h2⟩,h3⟩,h4⟩:=h
     cases zbm hx
     have hl:=zbv l G h4
     rcases h3 with h3|h3
     · exact ziN G (zbH G h1) (hl.1 h3) h2
     · have:∃a,l=.rng1 a:=by
        cases l with
        |rng1 a=>exact⟨a,rfl⟩
        |_=>cases h3
       obtain⟨a,ea⟩:=this
       obtain⟨a',p3,p4,rfl,hr,ha,hs⟩:=hl.2.2.2 a ea
       rw[ea]
       exact zju G (zbH G h1) hr ha hs
 | .mkT l, N, sc, e, X, G, h => by
   simp only[chkE] at h
   replace h:=zag h
   obtain⟨⟨x,e1⟩,q,h⟩:=h
   obtain⟨p2,p,rfl⟩:=zbf q
   simp only[Bool.and_eq_true,Bool.not_eq_true'] at h
   obtain⟨⟨⟨⟨hx,h1⟩,h2⟩,h3⟩,h4⟩:=h
   cases zbm hx
   have hl:=zbv l G h4
   exact zle G (zbH G h1) (hl.1 h3) h2
 | .ext a l, N, sc, e, X, G, h => by
   simp only[chkE] at h
   replace h:=zag h
   obtain⟨⟨oe,x,ap,e1,cp⟩,q,h⟩:=h
   cases zcT q
   simp only[Bool.and_eq_true] at h
   obtain⟨⟨⟨⟨⟨⟨hx,h1⟩,h2⟩,h3⟩,h4⟩,h5⟩,h6⟩:=h
   cases zbm hx
   exact zlh (zak a G h5) ((zbv l G h6).2.1 h4) h1 h2 h3
 | .dnew3, N, sc, e, X, G, h => by
   simp only[chkE] at h
   obtain⟨p,rfl⟩:=zev h
   exact zhD
theorem za3:∀(ces:CEs) {N:List Str} {sc:Scope} {es:List Expr} {X:Cx},Gd T cf k N sc X->zbw T ces N sc es=true->EsOk cf ces X es
 | .nil, N, sc, es, X, G, h => by
   simp only[zbw,List.isEmpty_iff] at h
   subst h
   exact⟨ziR,fun a r e es' z=>nomatch z⟩
 | .cons a r, N, sc, es, X, G, h => by
   cases es with
   |nil=>simp[zbw] at h
   | cons e es =>
     simp only[zbw,Bool.and_eq_true] at h
     have he:=zak a G h.1.2
     exact⟨zf7 he (za3 r G h.2).1 h.1.1,fun a' r' e' es' z1 z2=>by cases z1;cases z2;exact he⟩
theorem zaZ:∀(ce:CE) {N:List Str} {sc:Scope} {e:Expr} {X:Cx},Gd T cf k N sc X->chkT T ce N sc e=true->PT X e (tT X.K cf ce)/\((∃op v r p,e=.BoolOp op (v::r) p)->PW X e (tT X.K cf ce))
 | .cmp op a b, N, sc, e, X, G, h => by
   simp only[chkT] at h
   replace h:=zag h
   obtain⟨⟨l,os,rs⟩,q,h⟩:=h
   obtain⟨p,rfl⟩:=zdI q
   rw[Bool.and_eq_true,decide_eq_true_eq] at h
   obtain⟨e1,h⟩:=h
   replace h:=zag h
   obtain⟨r,q2,h⟩:=h
   cases zba q2
   cases e1
   simp only[Bool.and_eq_true] at h
   exact⟨zk3 G (zak a G h.1.2) (zak b G h.2) h.1.1,fun⟨_,_,_,_,z⟩=>nomatch z⟩
 | .nt a, N, sc, e, X, G, h => by
   simp only[chkT] at h
   replace h:=zag h
   obtain⟨⟨o,x⟩,q,h⟩:=h
   obtain⟨p,rfl⟩:=zdb q
   simp only[Bool.and_eq_true,decide_eq_true_eq] at h
   obtain⟨rfl,h1⟩:=h
   exact⟨zmW (zaZ a G h1).1,fun⟨_,_,_,_,z⟩=>nomatch z⟩
 | .and a b, N, sc, e, X, G, h => by
   simp only[chkT] at h
   replace h:=zag h
   obtain⟨⟨o,vs,p⟩,q,h⟩:=h
   cases zbz q
   rw[Bool.and_eq_true,decide_eq_true_eq] at h
   obtain⟨e1,h⟩:=h
   cases e1
   dsimp only at h
   split at h
   · rename_i x y rest
     rw[Bool.and_eq_true] at h
     obtain⟨h1,h2⟩:=h
     split at h2
     · rename_i c
       cases List.isEmpty_iff.mp c
       have w:=ziJ (pos:=p) (zaZ a G h1).1 (zjK (zaZ b G h2).1)
       exact⟨w.pt,fun _=>w⟩
     · have w:=ziJ (zaZ a G h1).1 ((zaZ b G h2).2 ⟨_,_,_,_,rfl⟩)
       exact⟨w.pt,fun _=>w⟩
   · cases h
 | .or a b, N, sc, e, X, G, h => by
   simp only[chkT] at h
   replace h:=zag h
   obtain⟨⟨o,vs,p⟩,q,h⟩:=h
   cases zbz q
   rw[Bool.and_eq_true,decide_eq_true_eq] at h
   obtain⟨e1,h⟩:=h
   cases e1
   dsimp only at h
   split at h
   · rename_i x y rest
     rw[Bool.and_eq_true] at h
     obtain⟨h1,h2⟩:=h
     split at h2
     · rename_i c
       cases List.isEmpty_iff.mp c
       have w:=zk2 (pos:=p) (zaZ a G h1).1 (zlv (zaZ b G h2).1)
       exact⟨w.pt,fun _=>w⟩
     · have w:=zk2 (zaZ a G h1).1 ((zaZ b G h2).2 ⟨_,_,_,_,rfl⟩)
       exact⟨w.pt,fun _=>w⟩
   · cases h
 | .tst a, N, sc, e, X, G, h => by
   simp only[chkT,Bool.and_eq_true] at h
   exact⟨zk1 (zak a G h.2) h.1,fun⟨_,_,_,_,z⟩=>by rw[z] at h;simp[ze3] at h⟩
 |.loc i,N,sc,e,X,G,h=>absurd h Bool.false_ne_true
 |.con d,N,sc,e,X,G,h=>absurd h Bool.false_ne_true
 |.bin op a b,N,sc,e,X,G,h=>absurd h Bool.false_ne_true
 |.neg a,N,sc,e,X,G,h=>absurd h Bool.false_ne_true
 |.tup es,N,sc,e,X,G,h=>absurd h Bool.false_ne_true
 |.lst es,N,sc,e,X,G,h=>absurd h Bool.false_ne_true
 |.ix a b,N,sc,e,X,G,h=>absurd h Bool.false_ne_true
 |.mk c f x j es,N,sc,e,X,G,h=>absurd h Bool.false_ne_true
 |.clr a,N,sc,e,X,G,h=>absurd h Bool.false_ne_true
 |.callV a es,N,sc,e,X,G,h=>absurd h Bool.false_ne_true
 |.sl a ml mh lo hi,N,sc,e,X,G,h=>absurd h Bool.false_ne_true
 |.call f j es,N,sc,e,X,G,h=>absurd h Bool.false_ne_true
 |.bi b es,N,sc,e,X,G,h=>absurd h Bool.false_ne_true
 |.mt m o es,N,sc,e,X,G,h=>absurd h Bool.false_ne_true
 |.mkL l,N,sc,e,X,G,h=>absurd h Bool.false_ne_true
 |.mkT l,N,sc,e,X,G,h=>absurd h Bool.false_ne_true
 |.ext a l,N,sc,e,X,G,h=>absurd h Bool.false_ne_true
 |.dnew3,N,sc,e,X,G,h=>absurd h Bool.false_ne_true
theorem zbv:∀(cl:CL) {N:List Str} {sc:Scope} {e:Expr} {X:Cx},Gd T cf k N sc X->chkL T cl N sc e=true->LOk T cf k cl X e
 | .val a, N, sc, e, X, G, h => by
   simp only[chkL,Bool.and_eq_true] at h
   have hp:=zk8 (zak a G h.2)
   exact⟨fun _=>hp,fun z=>(by cases z),fun tg _=>ziK hp zl4,fun a z=>nomatch z⟩
 | .rng1 a, N, sc, e, X, G, h => by
   simp only[chkL] at h
   replace h:=zag h
   obtain⟨⟨x,e1⟩,q,h⟩:=h
   obtain⟨p2,p,rfl⟩:=zbf q
   simp only[Bool.and_eq_true] at h
   obtain⟨⟨⟨hx,h1⟩,h2⟩,h3⟩:=h
   cases zbm hx
   have he:=zak a G h3
   exact⟨fun z=>(by cases z),fun z=>(by cases z),fun tg _=>zjr (zbH G h1) he h2,fun a z=>by cases z;exact⟨e1,p2,p,rfl,zbH G h1,he,h2⟩⟩
 | .zip a b, N, sc, e, X, G, h => by
   simp only[chkL] at h
   replace h:=zag h
   obtain⟨⟨x,args⟩,q,h⟩:=h
   obtain⟨p2,p,rfl⟩:=zaV q
   replace h:=zag h
   obtain⟨⟨e1,e2⟩,q2,h⟩:=h
   cases two_inv q2
   simp only[Bool.and_eq_true] at h
   obtain⟨⟨⟨⟨⟨hx,h1⟩,h2⟩,h3⟩,h4⟩,h5⟩:=h
   cases zbm hx
   refine⟨fun z=>(by cases z),fun z=>(by cases z),fun tg ht=>?_,fun a z=>nomatch z⟩
   cases tg with
   |Tuple es j pt=>exact zla (zbH G h1) (zak a G h4) (zak b G h5) h2 h3
   |_=>cases ht
 | .comp nt js g it c e, N, sc, ex, X, G, h => by
   simp only[chkL] at h
   replace h:=zag h
   obtain⟨⟨elt,gs,scope,p⟩,q,h⟩:=h
   cases ze2 q
   replace h:=zag h
   obtain⟨⟨tg,iter,ifs,asy⟩,q2,h⟩:=h
   cases zba q2
   rw[Bool.and_eq_true,Bool.and_eq_true,Bool.and_eq_true,Bool.and_eq_true,Bool.and_eq_true,Bool.and_eq_true,Bool.and_eq_true,Bool.and_eq_true,decide_eq_true_eq,decide_eq_true_eq,decide_eq_true_eq] at h
   obtain⟨⟨⟨⟨⟨⟨⟨⟨h1,h2⟩,h3⟩,h4⟩,h5⟩,h6⟩,h7⟩,h8⟩,h9⟩:=h
   dsimp only at h1 h2 h3 h4 h5 h6 h7 h8 h9
   rw[Bool.and_eq_true] at h3
   subst h1 h5
   have ok:=zfq G h2
   have G':=zg3 G (tgs:=zbC tg) ok h6
   have ht:∀cl C fp s H pn,PTs (zaH X (capN X.N (zbC tg) js) scope cl C fp s H pn) ifs (tT X.K cf c):=fun cl C fp s H pn=>by
    split at h8
    · rename_i ce
      cases List.isEmpty_iff.mp ce
      exact zeW (X:=zaH X (capN X.N (zbC tg) js) scope cl C fp s H pn) h8
    · replace h8:=zag h8
      obtain⟨t,q3,h8⟩:=h8
      cases zba q3
      exact zgj (zaZ c (G' cl C fp s H pn) h8).1
   have hp:PE X (.ListComp elt [⟨tg,iter,ifs,0⟩] scope p) (tLt X.K cf (.comp (zbC tg).length js g it c e)):=
    PE.imp (zhZ X.env.scope (zbC tg) js G.calm rfl ok ((zbv it G h4).2.2.1 tg h3.2) (fun cl C fp s H pn=>zji (G' cl C fp s H pn) h7) ht (fun cl C fp s H pn=>zak e (G' cl C fp s H pn) h9) (zeE h3.1 X.env)) fun σ H Qv q=>zfp G.tab.frm q
   exact⟨fun _=>(PE.ofT hp),fun _=>hp,fun tg _=>ziK (PE.ofT hp) zj8,fun a z=>nomatch z⟩
end
end
end R
end
section
set_option maxHeartbeats 4000000
namespace R
open PySem PySem.Spec PyProof.Rows L2
variable [Mks]
section
variable {T:Tab} {cf:CF} {k:Nat}
theorem zjn {N:List Str}{sc:Scope}{X:Cx}{rest:List Stmt}{p pos p2:Pos}(G:Gd T cf k N sc X){i:Nat}{x:Str}{l:CL}{elt:Expr}{gs:List Comprehension}{scope:Scope}{r:CS}(hi:N[i]?=some x)(hl:zdX sc x=true)(h:chkE T (.mkL l) N sc (.ListComp elt gs scope p2)=true)(hr:PSs X rest (tS X.K cf r)) :
  PSs X (.Assign [.Name x p] (.ListComp elt gs scope p2) pos::rest) (tS X.K cf (.asg i (.mkL l) r)):=by
 have hw:∃b,swapsWith (.ListComp elt gs scope p2) (some (.Name x p)) pos.line X.env=pure b:=⟨_,rfl⟩
 obtain⟨b,hw⟩:=hw
 cases b with
 | false =>
   refine PSs.imp (za2 (ziX (i:=i) (by rw[G.nm];exact G.nd) (by rw[G.nm];exact hi) (G.lc hl).1 (zak (.mkL l) G h) hw (G.lc hl).2) hr) fun E σ H ⟨δ,ι,S,Q,hs,hh,w,lf⟩=>?_
   simp only[exS,zac] at w
   refine tE.run hs hh w fun d v ι1 H1 S1 x1 hs1 hh1 r1 w1=>?_
   exact⟨δ.set i (some d),ι1,S1,Q,hs1.set r1 i,hh1,w1,lf.up x1⟩
 | true =>
   simp only[chkE] at h
   split at h
   · rename_i c0
     split at h
     · cases l with
       | comp nt js g it c e =>
         simp only[chkL] at h
         replace h:=zag h
         obtain⟨⟨elt',gs',scope',p'⟩,q,h⟩:=h
         cases ze2 q
         replace h:=zag h
         obtain⟨⟨tg,iter,ifs,asy⟩,q2,h⟩:=h
         cases zba q2
         rw[Bool.and_eq_true,Bool.and_eq_true,Bool.and_eq_true,Bool.and_eq_true,Bool.and_eq_true,Bool.and_eq_true,Bool.and_eq_true,Bool.and_eq_true,decide_eq_true_eq,decide_eq_true_eq,decide_eq_true_eq] at h
         obtain⟨⟨⟨⟨⟨⟨⟨⟨h1,h2⟩,h3⟩,h4⟩,h5⟩,h6⟩,h7⟩,h8⟩,h9⟩:=h
         dsimp only at h1 h2 h3 h4 h5 h6 h7 h8 h9
         rw[Bool.and_eq_true] at h3
         subst h1 h5
         have ok:=zfq G h2
         have G':=zg3 G (tgs:=zbC tg) ok h6
         have ht:∀cl C fp s H pn,PTs (zaH X (capN X.N (zbC tg) js) scope cl C fp s H pn) ifs (tT X.K cf c):=fun cl C fp s H pn=>by
          split at h8
          · rename_i ce
            cases List.isEmpty_iff.mp ce
            exact zeW (X:=zaH X (capN X.N (zbC tg) js) scope cl C fp s H pn) h8
          · replace h8:=zag h8
            obtain⟨t,q3,h8⟩:=h8
            cases zba q3
            exact zgj (zaZ c (G' cl C fp s H pn) h8).1
         have he:∀cl C fp s H pn,PE (zaH X (capN X.N (zbC tg) js) scope cl C fp s H pn) elt (tE X.K cf e):=fun cl C fp s H pn=>zak e (G' cl C fp s H pn) h9
         have hg:∀cl C fp s H pn,PG (zaH X (capN X.N (zbC tg) js) scope cl C fp s H pn) tg (tG X.K g):=fun cl C fp s H pn=>zji (G' cl C fp s H pn) h7
         have hps:=zjQ (spos:=pos) (py:=p) (pos:=p2) X.env.scope (zbC tg) js (i:=i) (y:=x) (by rw[G.nm];exact G.nd) (by rw[G.nm];exact hi) (G.lc hl).1 G.calm rfl ok ((zbv it G h4).2.2.1 tg h3.2) hg ht he hw (zeE h3.1 X.env) (G.lc hl).2
         exact zjp G hi ⟨_,hps,fun σ H Qv q=>zfp G.tab.frm (zgw q)⟩ hr
       |_=>cases c0
     · cases h
   · cases h
theorem zkw {v:Expr}(h:zbs v=false){e:CE}{N:List Str}{sc:Scope}(hc:chkE T e N sc v=true):∃l elt gs scope p,v=.ListComp elt gs scope p/\e=.mkL l:=by
 cases v with
 | ListComp elt gs scope p =>
   cases e with
   |mkL l=>exact⟨l,elt,gs,scope,p,rfl,rfl⟩
   |_=>simp[chkE,zbk,zco,zgf,rdUn,zfC,zb7,zer,zdH,zcn,zeu,zes,zaY,zbg,zbE,zcm,zb0,zb8] at hc
 |SetComp=>cases e<;>simp[chkE,zbk,zco,zgf,rdUn,zfC,zb7,zer,zdH,zcn,zeu,zes,zaY,zbg,zbE,zcm,zb0,zb8,rdLC,chkL] at hc
 |DictComp=>cases e<;>simp[chkE,zbk,zco,zgf,rdUn,zfC,zb7,zer,zdH,zcn,zeu,zes,zaY,zbg,zbE,zcm,zb0,zb8,rdLC,chkL] at hc
 |_=>cases h
theorem za0:∀(cs:CS) {N:List Str} {sc:Scope} {st:List Stmt} {X:Cx},Gd T cf k N sc X->chkS T cs N sc st=true->PSs X st (tS X.K cf cs)
 | .nil, N, sc, st, X, G, h => by
   simp only[chkS,List.isEmpty_iff] at h
   subst h
   exact zk5
 |.stop,N,sc,st,X,G,h=>fun pins s σ H E I ⟨δ,ι,S,Q,hs,hh,w,l⟩=>(by simp only[exS] at w;exact w.elim)
 | .asg i e r, N, sc, st, X, G, h => by
   cases st with
   |nil=>simp[chkS] at h
   | cons s rest =>
     simp only[chkS] at h
     replace h:=zag h
     obtain⟨⟨tg,v,pos⟩,q,h⟩:=h
     cases zcp q
     replace h:=zag h
     obtain⟨x,q2,h⟩:=h
     obtain⟨p,hx⟩:=zaU q2
     dsimp only at hx
     subst hx
     simp only[Bool.and_eq_true,beq_iff_eq] at h
     obtain⟨⟨⟨h1,h2⟩,h3⟩,h4⟩:=h
     have hr:=za0 r G h4
     cases hn:zbs v with
     |true=>exact zk7 G h1 h2 (zak e G h3) hn hr
     | false =>
       obtain⟨l,elt,gs,scope,p2,rfl,rfl⟩:=zkw hn h3
       exact zjn G h1 h2 h3 hr
 | .asgT g e r, N, sc, st, X, G, h => by
   cases st with
   |nil=>simp[chkS] at h
   | cons s rest =>
     simp only[chkS] at h
     replace h:=zag h
     obtain⟨⟨tg,v,pos⟩,q,h⟩:=h
     cases zcp q
     replace h:=zag h
     obtain⟨es,q2,h⟩:=h
     obtain⟨j,p,hx⟩:=zck q2
     dsimp only at hx
     subst hx
     simp only[Bool.and_eq_true,decide_eq_true_eq] at h
     obtain⟨⟨⟨⟨h1,h2⟩,h3⟩,h4⟩,h5⟩:=h
     obtain⟨x,hx⟩:=Option.isSome_iff_exists.mp h1
     obtain⟨p2,hv⟩:=zaU hx
     exact zjo G h3 h2 (zak e G h4) ⟨x,p2,hv⟩ (za0 r G h5)
 | .setIx a b e r, N, sc, st, X, G, h => by
   cases st with
   |nil=>simp[chkS] at h
   | cons s rest =>
     simp only[chkS] at h
     replace h:=zag h
     obtain⟨⟨tg,v,pos⟩,q,h⟩:=h
     cases zcp q
     replace h:=zag h
     obtain⟨⟨o,i⟩,q2,h⟩:=h
     obtain⟨p,hx⟩:=zcl q2
     dsimp only at hx
     subst hx
     simp only[Bool.and_eq_true] at h
     obtain⟨⟨⟨⟨h1,h2⟩,h3⟩,h4⟩,h5⟩:=h
     exact zhB G (zak a G h2) (zak b G h3) (zak e G h4) h1 (za0 r G h5)
 | .ifS c t u r, N, sc, st, X, G, h => by
   cases st with
   |nil=>simp[chkS] at h
   | cons s rest =>
     simp only[chkS] at h
     replace h:=zag h
     obtain⟨⟨e,a,b⟩,q,h⟩:=h
     obtain⟨p,rfl⟩:=zgb q
     simp only[Bool.and_eq_true] at h
     exact zmX (zaZ c G h.1.1.1).1 (za0 t G h.1.1.2) (za0 u G h.1.2) (za0 r G h.2)
 | .forS g l b r, N, sc, st, X, G, h => by
   cases st with
   |nil=>simp[chkS] at h
   | cons s rest =>
     simp only[chkS] at h
     replace h:=zag h
     obtain⟨⟨tg,it,body⟩,q,h⟩:=h
     obtain⟨p,rfl⟩:=zgc q
     simp only[Bool.and_eq_true] at h
     obtain⟨⟨⟨⟨h1,h2⟩,h3⟩,h4⟩,h5⟩:=h
     exact zk6 G ((zbv l G h2).2.2.1 tg h5.2) (zji G h5.1) (za0 b G h3) h1 (za0 r G h4)
 | .ret e r, N, sc, st, X, G, h => by
   cases st with
   |nil=>simp[chkS] at h
   | cons s rest =>
     simp only[chkS] at h
     replace h:=zag h
     obtain⟨v,q,h⟩:=h
     obtain⟨p,rfl⟩:=zga q
     simp only[Bool.and_eq_true] at h
     exact zk4 (zak e G h.1) (za0 r G h.2)
 | .expr e r, N, sc, st, X, G, h => by
   cases st with
   |nil=>simp[chkS] at h
   | cons s rest =>
     simp only[chkS] at h
     replace h:=zag h
     obtain⟨v,q,h⟩:=h
     obtain⟨p,rfl⟩:=zgd q
     simp only[Bool.and_eq_true] at h
     exact zjm (zak e G h.1.2) h.1.1 (za0 r G h.2)
theorem RS.start {K:PySem.W.Frag}{ι:List Addr}{H:Hp}{F:Fn}{N:List Str}{ds:List D}{vs:List V}(r:RVs K ι H ds vs)(hl:ds.length=F.np)(hn:F.nn=N.length):RS K ι H (zbj F ds) (L2.start N vs):=by
 have hlen:=r.length
 refine⟨by simp[zbj,L2.start,hlen,hl,hn],fun i d e=>?_⟩
 unfold zbj at e
 unfold L2.start
 by_cases hi:i<ds.length
 · rw[List.getElem?_append_left (by simpa using hi),List.getElem?_map] at e
   rw[List.getElem?_append_left (by simpa[hlen] using hi),List.getElem?_map]
   cases z:ds[i]? with
   |none=>rw[z] at e;cases e
   | some d' =>
     rw[z] at e
     simp only[Option.map_some,Option.some.injEq] at e
     subst e
     obtain⟨v,ev,rv⟩:=r.get z
     exact⟨v,by rw[ev];rfl,rv⟩
 · rw[List.getElem?_append_right (by simpa using hi),List.getElem?_replicate] at e
   split at e<;>cases e
structure DefOk (K:PySem.W.Frag) (mg:Str->Option Value) (T:Tab) (Pg:List Fn) (fi:Nat) (x:Str) (ps:List Str) (nd:Nat):Prop where
 ex:∃(F:Fn) (qual:Str) (st:Stmt) (dV:Value) (f:Addr) (fd:FuncData) (N:List Str),Pg[fi]?=some F/\F.prim=none/\FunV K x qual st dV f fd/\FnScope N ps (zae st)/\chkS T F.body N (zae st) (zah st)=true/\F.np=ps.length/\F.nn=N.length/\
  mg x=some (.ref f)/\∀j,j<=nd->Binds K fd ps (List.replicate j Value.none)
theorem zjS {S:R.St}{p:Prim}{ds:List D}{d:D}{T':R.St}(h:prm S p ds=.ok d T'):Frm S T':=by
 unfold prm at h
 split at h
 · split at h
   · split at h
     · split at h
       · injection h with _ h2;rw[<-h2];exact Frm.push _ _
       · cases h
     · cases h
   · cases h
 · split at h
   · split at h
     · injection h with _ h2;rw[<-h2];exact Frm.refl _
     · cases h
   · cases h
 · cases h
theorem zcD (Pg:List Fn):∀n:Nat,CFok (callF Pg n)
 |0,f,ds,S,d,T',h=>by cases h
 | n + 1, f, ds, S, d, T', h => by
   simp only[callF] at h
   cases e:Pg[f]? with
   |none=>rw[e] at h;cases h
   | some F =>
     rw[e] at h
     dsimp only at h
     split at h
     · cases ep:F.prim with
       | some p =>
         rw[ep] at h
         dsimp only at h
         split at h
         · exact zjS h
         · cases h
       |none=>
       rw[ep] at h
       dsimp only at h
       cases ex:exS (callF Pg n) F.body (zbj F ds) S with
       | ok r T2 =>
         rw[ex] at h
         have hf:=zcF (cf:=callF Pg n) (zcD Pg n) F.body (zbj F ds) S (fun r' T3=>r'=r/\T3=T2) (by rw[ex];exact⟨rfl,rfl⟩)
         rw[ex] at hf
         cases r with
         |nx δ=>injection h with _ h2;rw[<-h2];exact hf.2
         |rt z=>injection h with _ h2;rw[<-h2];exact hf.2
       |err z T2=>rw[ex] at h;cases h
       |bad=>rw[ex] at h;cases h
     · cases h
variable {P:Program} {w:World} {K:PySem.W.Frag} {mg:Str->Option Value} {base:Heap} {Pg:List Fn}
theorem zbL {n fi:Nat}{F:Fn}{ps:List Str}(hP:Pg[fi]?=some F)(hp:F.np=ps.length){vs:List V}{H:Hp}{Q:VK}{E:XK}(h:spF K (callF Pg n) fi vs H Q E):vs.length=ps.length:=by
 obtain⟨ι,S,ds,r,hh,w⟩:=h
 rw[r.length]
 cases n with
 |zero=>exact w.elim
 | succ n =>
   simp only[callF,hP] at w
   split at w
   · rename_i c;rw[c,hp]
   · exact w.elim
theorem zha {n m fi:Nat}{x qual:Str}{st:Stmt}{dV:Value}{f:Addr}{fd:FuncData}{N ps:List Str}{F:Fn}(tab:TabOk T (callF Pg n) m P w K mg base)(FV:FunV K x qual st dV f fd)(hP:Pg[fi]?=some F)(S:FnScope N ps (zae st))(ck:chkS T F.body N (zae st) (zah st)=true)(hp:F.np=ps.length)(hn:F.nn=N.length)(hq:F.prim=none:=by rfl) :
  FnOk P w K mg base CX0 (m+2) f fd ps (spF K (callF Pg (n+1)) fi):=by
 refine FV.ok S (fun vs H Q E h=>zbL hP hp h) fun cdv A outer s H vs Q E hr h=>?_
 obtain⟨ι,S0,ds,r,hh,hw⟩:=h
 have G:Gd T (callF Pg n) m N (zae st) (cxOf CX0 P w K mg base N qual (zae st) f cdv A outer s H E).nox:=
  ⟨rfl,S.nd,fun x e=>e,fun x e=>e,fun x e=>.inl e,fun x e=>e,.inl fun _=>rfl,rfl,rfl,hr,tab⟩
 refine⟨_,za0 F.body G ck,?_⟩
 simp only[callF,hP,hq] at hw
 split at hw
 · rename_i c
   rw[zac] at hw
   refine⟨zbj F ds,ι,S0,_,RS.start r c hn,hh,hw,?_⟩
   intro fl ι' H' S' x' hh' q
   cases fl with
   |nx δ'=>exact fun σ' hs'=>q .non H' ι' x' rfl hh'
   |rt d=>exact fun v rv=>q v H' ι' x' rv hh'
 · exact hw.elim
structure MOk (K:PySem.W.Frag) (T:Tab) (Pg:List Fn) (fi j:Nat) (Ex:Addr->Prop):Prop where
 ex:∃(F:Fn) (x qual:Str) (st:Stmt) (dV:Value) (f:Addr) (fd:FuncData) (N ps:List Str),Pg[fi]?=some F/\F.prim=none/\FunV K x qual st dV f fd/\FnScope N ps (zae st)/\chkS T F.body N (zae st) (zah st)=true/\F.np=ps.length/\F.nn=N.length/\
  Binds K fd ps (List.replicate j Value.none)/\Ex f
theorem zdf {fi j:Nat}{Ex:Addr->Prop}(z:MOk K T Pg fi j Ex):∃f fd ps,Ex f/\PySem.W.keepIn K (.ref f)=true/\Binds K fd ps (List.replicate j Value.none)/\FnOk P w K mg base CX0 0 f fd ps (spF K (callF Pg 0) fi):=by
 obtain⟨F,x,qual,st,dV,f,fd,N,ps,hP,hq,FV,S,ck,hp,hn,hb,e⟩:=z.ex
 refine⟨f,fd,ps,e,FV.kp,hb,⟨fun vs H Q E h=>zbL hP hp h,fun A outer s H args us vs Q E hr e0 b v h=>?_⟩⟩
 obtain⟨ι,S,ds,r,hh,w⟩:=h
 exact w.elim
theorem zdg {n m fi j:Nat}{Ex:Addr->Prop}(tab:TabOk T (callF Pg n) m P w K mg base)(z:MOk K T Pg fi j Ex):∃f fd ps,Ex f/\PySem.W.keepIn K (.ref f)=true/\Binds K fd ps (List.replicate j Value.none)/\FnOk P w K mg base CX0 (m+2) f fd ps (spF K (callF Pg (n+1)) fi):=by
 obtain⟨F,x,qual,st,dV,f,fd,N,ps,hP,hq,FV,S,ck,hp,hn,hb,e⟩:=z.ex
 exact⟨f,fd,ps,e,FV.kp,hb,zha tab FV hP S ck hp hn hq⟩
noncomputable def ExM (K:PySem.W.Frag)(c:Nat)(m:Str)(f:Addr):Prop:=∃C,Mks.cl[c]?=some C/\Cls K C/\Meth K C m f
noncomputable def ExI (K:PySem.W.Frag)(c:Nat)(f:Addr):Prop:=∃C,Mks.cl[c]?=some C/\Mk K C f
noncomputable def ExC (K:PySem.W.Frag)(mg:Str->Option Value)(x m:Str)(f:Addr):Prop:=∃(C:Addr) (mc:Value),mg x=some (.ref C)/\PySem.W.specialIn K (.ref C) "__getattribute__"=some (some (.builtin "type.__getattribute__"))/\PySem.W.readsIn K C mc=true/\PySem.W.findCls K (.ref C) mc m=some (.val (.ref f))
structure ClsOk (T:Tab) (K:PySem.W.Frag) (mg:Str->Option Value) (Pg:List Fn):Prop where
 cls:∀(c:Nat) (x:Str),T.cls[c]?=some x->∃C,Mks.cl[c]?=some C/\Cls K C/\mg x=some (.ref C)/\∀f,T.flds.contains f=true->zhv K C f
 mth:∀(c:Nat) (m:Str) (fi:Nat),T.mts.contains (c,m,fi)=true->MOk K T Pg fi 0 (ExM K c m)
 ini:∀(c fi j:Nat),T.inits.contains (c,fi,j)=true->MOk K T Pg fi j (ExI K c)
 cmd:∀(x m:Str) (fi:Nat),T.cms.contains (x,m,fi)=true->MOk K T Pg fi 0 (ExC K mg x m)
 cln:Mks.cl.length<=T.cls.length
 isa:∀(x:Str) (cs:List Nat),T.isas.contains (x,cs)=true->∃D,mg x=some (.ref D)/\∀c C,Mks.cl[c]?=some C->IsaOk K C/\PySem.W.kitOne K (.ref C) (.ref D)=some (cs.contains c)
theorem ClsOk.none (h1:T.cls=[])(h2:T.mts=[])(h3:T.inits=[])(h4:T.cms=[])(h5:T.isas=[])(h6:Mks.cl=[]):ClsOk T K mg Pg:=
 ⟨fun c x h=>by rw[h1] at h;simp at h,fun c m f h=>by rw[h2] at h;simp at h,fun c f j h=>by rw[h3] at h;simp at h,fun x m f h=>by rw[h4] at h;simp at h,by rw[h6];exact Nat.zero_le _,fun x cs h=>by rw[h5] at h;simp at h⟩
theorem zg0 {k c fi:Nat}{m:Str}(h:∃f fd ps,ExM K c m f/\PySem.W.keepIn K (.ref f)=true/\Binds K fd ps []/\FnOk P w K mg base CX0 k f fd ps (spF K cf fi)):HasM P w K mg base k c m (spF K cf fi):=by
 obtain⟨f,fd,ps,⟨C,h1,h2,h3⟩,_,h4,h5⟩:=h
 exact⟨C,f,fd,ps,h1,h2,h3,h5,h4⟩
theorem zg1 {k c fi j:Nat}(h:∃f fd ps,ExI K c f/\PySem.W.keepIn K (.ref f)=true/\Binds K fd ps (List.replicate j Value.none)/\FnOk P w K mg base CX0 k f fd ps (spF K cf fi)):HasI P w K mg base k c j (spF K cf fi):=by
 obtain⟨f,fd,ps,⟨C,h1,h2⟩,_,h4,h5⟩:=h
 exact⟨C,f,fd,ps,h1,h2,h5,h4⟩
theorem zg2 {k fi:Nat}{x m:Str}(h:∃f fd ps,ExC K mg x m f/\PySem.W.keepIn K (.ref f)=true/\Binds K fd ps []/\FnOk P w K mg base CX0 k f fd ps (spF K cf fi)):HasC P w K mg base k x m (spF K cf fi):=by
 obtain⟨f,fd,ps,⟨C,mc,h1,h2,h3,h6⟩,h7,h4,h5⟩:=h
 exact⟨C,f,fd,ps,mc,h1,h2,h3,h6,h7,h5,h4⟩
structure PrimOk (P:Program) (w:World) (K:PySem.W.Frag) (mg:Str->Option Value) (base:Heap) (Pg:List Fn) (fi:Nat) (x:Str) (ps:List Str) (nd:Nat):Prop where
 ex:∃(F:Fn) (p:Prim) (f:Addr) (fd:FuncData),Pg[fi]?=some F/\F.prim=some p/\F.np=ps.length/\mg x=some (.ref f)/\PySem.W.keepIn K (.ref f)=true/\(∀j,j<=nd->Binds K fd ps (List.replicate j Value.none))/\
  ∀n,3<=n->FnOk P w K mg base CX0 (n+2) f fd ps (spF K (callF Pg (n+1)) fi)
theorem zkZ (hb:∀x,T.blt.contains x=true->mg x=none)(hc:∀x d,T.cons.lookup x=some d->zhG d=true/\∃u,mg x=some u/\RelV (sV d) u)(hd:∀fi x ps nd,T.fns[fi]?=some (x,ps,nd)->DefOk K mg T Pg fi x ps nd\/PrimOk P w K mg base Pg fi x ps nd)(hk:ClsOk T K mg Pg) :
  ∀n,TabOk T (callF Pg n) (2 * n) P w K mg base:=by
 intro n
 induction n with
 | zero =>
   refine⟨hb,hc,fun fi x ps nd hf j hj=>?_,zcD Pg 0,hk.cls,fun c m fi h=>zg0 (zdf (hk.mth c m fi h)),fun c fi j h=>zg1 (zdf (hk.ini c fi j h)),fun x m fi h=>zg2 (zdf (hk.cmd x m fi h)),fun _=>hk.cln,hk.isa⟩
   rcases hd fi x ps nd hf with z|z
   · obtain⟨F,qual,st,dV,f,fd,N,hP,hq,FV,S,ck,hp,hn,hm,hbd⟩:=z.ex
     refine⟨f,fd,_,⟨fun vs H Q E h=>zbL hP hp h,fun A outer s H args us vs Q E hr e0 b v h=>?_⟩,hm,FV.kp,hbd j hj,Vals.nons j⟩
     obtain⟨ι,S,ds,r,hh,w⟩:=h
     exact w.elim
   · obtain⟨F,p,f,fd,hP,hq,hp,hm,kp,hbd,ok⟩:=z.ex
     refine⟨f,fd,_,⟨fun vs H Q E h=>zbL hP hp h,fun A outer s H args us vs Q E hr e0 b v h=>?_⟩,hm,kp,hbd j hj,Vals.nons j⟩
     obtain⟨ι,S,ds,r,hh,w⟩:=h
     exact w.elim
 | succ n ih =>
   refine⟨hb,hc,fun fi x ps nd hf j hj=>?_,zcD Pg (n+1),hk.cls,fun c m fi h=>zg0 (zdg ih (hk.mth c m fi h)),fun c fi j h=>zg1 (zdg ih (hk.ini c fi j h)),fun x m fi h=>zg2 (zdg ih (hk.cmd x m fi h)),fun _=>hk.cln,hk.isa⟩
   rcases hd fi x ps nd hf with z|z
   · obtain⟨F,qual,st,dV,f,fd,N,hP,hq,FV,S,ck,hp,hn,hm,hbd⟩:=z.ex
     refine⟨f,fd,_,?_,hm,FV.kp,hbd j hj,Vals.nons j⟩
     exact zha ih FV hP S ck hp hn hq
   · obtain⟨F,p,f,fd,hP,hq,hp,hm,kp,hbd,ok⟩:=z.ex
     refine⟨f,fd,_,?_,hm,kp,hbd j hj,Vals.nons j⟩
     by_cases c:3<=n
     · exact (ok n c).mono (by omega)
     · refine⟨fun vs H Q E h=>zbL hP hp h,fun A outer s H args us vs Q E hr e0 b v h=>?_⟩
       obtain⟨ι,S,ds,r,hh,w⟩:=h
       simp only[callF,hP,hq,c,if_false] at w
       split at w<;>exact w.elim
noncomputable def zhw {α:Type}(P:Nat->α->Prop):Nat->List α->Prop
 |_,[]=>True
 |k,a::r=>P k a/\zhw P (k+1) r
theorem zjd {α:Type}{P:Nat->α->Prop}:∀{l:List α} {k:Nat},zhw P k l->∀(i:Nat) (a:α),l[i]?=some a->P (k+i) a
 | [],_,_,i,a,h=>by simp at h
 |b::r,k,q,0,a,h=>by cases h;exact q.1
 | b :: r, k, q, i + 1, a, h => by
   have:=zjd q.2 i a (by simpa using h)
   rwa [Nat.add_right_comm] at this
theorem AllAt.get {α:Type}{P:Nat->α->Prop}{l:List α}(q:zhw P 0 l)(i:Nat)(a:α)(h:l[i]?=some a):P i a:=Nat.zero_add i▸zjd q i a h
noncomputable def zje {α:Type}(P:α->Prop):List α->Prop
 | []=>True
 |a::r=>P a/\zje P r
theorem AllIn.get {α:Type}[BEq α][LawfulBEq α]{P:α->Prop}:∀{l:List α},zje P l->∀a,l.contains a=true->P a
 | [],_,a,h=>by simp at h
 | b :: r, q, a, h => by
   rw[List.contains_cons,Bool.or_eq_true] at h
   rcases h with h|h
   · rw[eq_of_beq h];exact q.1
   · exact AllIn.get q.2 a h
theorem law_spT {k fi:Nat}{K:PySem.W.Frag}{H:Hp}{a:Addr}{ns:List Int}(hx:FixL K H a (ns.map V.int))(tb:TB H)
  (law:W (callF Pg k fi [.fix (ns.map .int)] ⟨[],[],[]⟩) fun d _=>d=.bl true):spF K (callF Pg k) fi [.ref a] H (fun v _=>v=.bl true) fun _ _ _=>False:=by
 refine⟨[],⟨[],[],[]⟩,[.fix (ns.map .int)],⟨.ref a,[],rfl,⟨a,_,rfl,hx,RVs.ints ns⟩,rfl⟩,⟨rfl,List.nodup_nil,fun l o e=>(by simp[St.get] at e),tb⟩,?_⟩
 obtain⟨d,T',e,q⟩:=zfU law
 rw[e]
 intro v H' ι' x r hT
 subst q
 exact r
end
end R
end
section
set_option maxHeartbeats 4000000
namespace R
open PySem PySem.Spec PyProof.Rows L2
variable [Mks]
noncomputable def zhL:CS:=.setIx (.loc 1) (.sl (.loc 2) false true (.con .non) (.con (.int 3))) (.ix (.loc 2) (.con (.int 3))) .nil
noncomputable def zdG:CS:=.asg 1 .dnew3 (.forS [2] (.val (.loc 0)) zhL .nil)
noncomputable def dW (kvs:List (K3 × Option Int)):List (K3 × D):=kvs.map fun kv=>(kv.1,wD kv.2)
theorem zmp (kvs:List (K3 × Option Int))(k:K3)(o:Option Int):zey (dW kvs) k (wD o)=dW (putW kvs k o):=by
 unfold zey putW dW
 have e:(kvs.map fun kv=>(kv.1,wD kv.2)).map (·.1)=kvs.map (·.1):=by rw[List.map_map];rfl
 rw[e]
 split
 · rw[List.map_map,List.map_map]
   refine List.map_congr_left fun x _=>?_
   show (if x.1=k then (x.1,wD o) else (x.1,wD x.2))=((if x.1=k then (x.1,o) else x).1,wD (if x.1=k then (x.1,o) else x).2)
   split<;>rfl
 · simp
theorem zhQ (kvs:List (K3 × Option Int))(k:K3)(o:Option Int):(putW kvs k o).length<=kvs.length+1:=by
 unfold putW
 split<;>simp
theorem zdF (l:K3 × Option Int):∀(ls kvs:List (K3 × Option Int)),zan kvs (ls++[l])=putW (zan kvs ls) l.1 l.2
 | [],kvs=>rfl
 |m::ls,kvs=>by rw[List.cons_append,zan,zan,zdF l ls]
theorem ze0:∀(ls kvs:List (K3 × Option Int)),(zan kvs ls).length<=kvs.length+ls.length
 | [],kvs=>Nat.le_refl _
 | m :: ls, kvs => by
   rw[zan]
   have:=ze0 ls (putW kvs m.1 m.2)
   have:=zhQ kvs m.1 m.2
   simp;omega
theorem zie {d:D}{l:K3 × Option Int}(h:lie4 d=some l):∃ds w,d=.tup [.int l.1.1,.tup ds,.int l.1.2.2,w]/\zaT ds=some l.1.2.1/\w=wD l.2:=by
 unfold lie4 at h
 split at h
 · rename_i a ds b w
   cases e:zaT ds with
   |none=>rw[e] at h;cases h
   | some p =>
     rw[e,Option.bind_some] at h
     cases e2:zcg w with
     |none=>rw[e2] at h;cases h
     | some o =>
       rw[e2] at h
       cases h
       refine⟨ds,w,rfl,e,?_⟩
       cases w<;>first|(cases e2;rfl)|cases e2
 · cases h
theorem zdQ {α β:Type}{f:α->Option β}:∀{xs:List α} {ys:List β},xs.mapM f=some ys->ys.length=xs.length/\∀(i:Nat) (x:α),xs[i]?=some x->∃y,ys[i]?=some y/\f x=some y
 | [], ys, h => by
   have h:ys=[]:=by simpa using h.symm
   subst h;exact⟨rfl,fun i x e=>by simp at e⟩
 | a :: xs, ys, h => by
   obtain⟨y,r,h1,h2,rfl⟩:=zaI h
   obtain⟨e1,e2⟩:=zdQ h2
   refine⟨by simp[e1],fun i x e=>?_⟩
   cases i with
   |zero=>cases e;exact⟨y,rfl,h1⟩
   |succ i=>exact e2 i x (by simpa using e)
theorem zhP (S:R.St)(lk:List Nat)(o u:MO)(h:lk.contains S.len=false):(St.mk S.frz (S.new++[o]) lk).put S.len u=some ⟨S.frz,S.new++[u],lk⟩:=by
 unfold St.put
 have h1:¬S.len<S.frz.length:=by unfold St.len;omega
 have h2:S.len - S.frz.length=S.new.length:=by unfold St.len;omega
 simp only[h1,if_false,h,Bool.false_eq_true,h2]
 congr 2
 simp
theorem zfi (S:R.St)(lk:List Nat)(o:MO):(St.mk S.frz (S.new++[o]) lk).get S.len=some o:=by
 unfold St.get
 have h1:¬S.len<S.frz.length:=by unfold St.len;omega
 have h2:S.len - S.frz.length=S.new.length:=by unfold St.len;omega
 simp only[h1,if_false,h2]
 simp
theorem zcq {S:R.St}{l:Nat}{o u:MO}(e:S.get l=some u):(S.push o).get l=some u:=by
 have h:=zaD e
 unfold St.get St.push at *
 by_cases c:l<S.frz.length
 · simp only[c,if_true] at e⊢;exact e
 · simp only[c,if_false] at e⊢
   rw[List.getElem?_append_left (List.getElem?_eq_some_iff.mp e).1];exact e
theorem zio {cf:CF}{S:R.St}{x:D}{lk:List Nat}{kvs:List (K3 × Option Int)}{d:D}{l:K3 × Option Int}(hl:lie4 d=some l)(hk:lk.contains S.len=false)(hn:kvs.length<16777216) :
  exS cf zhL [some x,some (.ref S.len),some d,none] ⟨S.frz,S.new++[.d3 (dW kvs)],lk⟩=.ok (.nx [some x,some (.ref S.len),some d,none]) ⟨S.frz,S.new++[.d3 (dW (putW kvs l.1 l.2))],lk⟩:=by
 obtain⟨ds,w,rfl,hp,rfl⟩:=zie hl
 unfold zhL
 refine W.eq (wS_W _ ?_)
 conv=>whnf
 refine zab (show R.atI [D.int l.1.1,.tup ds,.int l.1.2.2,wD l.2] 3=some (wD l.2) from rfl) ?_
 conv=>whnf
 have hc:R.cut [D.int l.1.1,.tup ds,.int l.1.2.2,wD l.2] none (some 3)=[.int l.1.1,.tup ds,.int l.1.2.2]:=rfl
 rw[hc]
 have hd:dPut ⟨S.frz,S.new++[.d3 (dW kvs)],lk⟩ (.ref S.len) (.tup [.int l.1.1,.tup ds,.int l.1.2.2]) (wD l.2)=some ⟨S.frz,S.new++[.d3 (dW (putW kvs l.1 l.2))],lk⟩:=by
  unfold dPut
  dsimp only
  rw[zfi]
  dsimp only
  have:key3 (.tup [.int l.1.1,.tup ds,.int l.1.2.2])=some l.1:=by unfold key3;dsimp only;rw[hp];rfl
  rw[this,Option.bind_some,if_pos (by unfold dW;simpa using hn),zmp]
  exact zhP S lk _ _ hk
 refine zab hd ?_
 exact⟨rfl,rfl⟩
theorem zkp {cf:CF}{S:R.St}{x:D}{ds:List D}{ls:List (K3 × Option Int)}(h1:za7 S x=some ds)(h2:ds.mapM lie4=some ls)(hl:ls.length<=1000)(hk:S.lk=[])(hx:∀n,x=.ref n->n<S.len) :
  W (exS cf zdG [some x,none,none,none] S) fun f T=>∃z,f=.nx [some x,some (.ref S.len),z,none]/\T=S.push (.d3 (dW (zan [] ls))):=by
 obtain⟨e1,e2⟩:=zdQ h2
 have hseq:za7 (S.push (.d3 [])) x=some ds:=by
  unfold za7 at h1⊢
  cases x with
  | ref n =>
    have hn:=hx n rfl
    dsimp only at h1⊢
    cases eg:S.get n with
    |none=>rw[eg] at h1;cases h1
    |some o=>rw[eg] at h1;rw[zcq eg];exact h1
  |_=>exact h1
 have hlk:(lkOf (S.push (.d3 [])) x).contains S.len=false:=by
  cases x with
  |ref n=>have:=hx n rfl;simp[lkOf];omega
  |_=>rfl
 unfold zdG
 rw[exS]
 simp only[evE,zaR]
 rw[exS]
 have eL:evL cf (.val (.loc 0)) ([some x,some (.ref S.len),none,none]:Ev) (S.push (.d3 []))=.ok (ds,lkOf (S.push (.d3 [])) x) (S.push (.d3 [])):=by
  simp only[evL,evE]
  show Out.bind (lift (S.push (.d3 [])) (za7 (S.push (.d3 [])) x)) _=_
  rw[hseq];rfl
 rw[show (([some x,none,none,none]:Ev).set 1 (some (.ref S.len)))=[some x,some (.ref S.len),none,none] from rfl,eL,zaR]
 unfold za1
 rw[zac,zac]
 have key:=zax (g:=[2]) (b:=exS cf zhL) (fun i δ T=>(∃z,δ=[some x,some (.ref S.len),z,none])/\T=⟨S.frz,S.new++[.d3 (dW (zan [] (ls.take i)))],lkOf (S.push (.d3 [])) x++S.lk⟩) (fun _ _=>False) ds 0 [some x,some (.ref S.len),none,none] ⟨S.frz,S.new++[.d3 []],lkOf (S.push (.d3 [])) x++S.lk⟩ ⟨⟨none,rfl⟩,rfl⟩ ?_
 · refine key.mono ?_
   rintro f T hf
   cases f with
   |rt d=>exact hf.elim
   | nx δ =>
     obtain⟨⟨z,rfl⟩,rfl⟩:=hf
     rw[W_ok]
     simp only[exS,W_ok]
     refine⟨z,rfl,?_⟩
     rw[Nat.zero_add,<-e1,List.take_length];rfl
 · rintro i d δ T hd ⟨⟨z,rfl⟩,rfl⟩
   rw[Nat.zero_add] at *
   obtain⟨l,hl',hd'⟩:=e2 i d hd
   refine⟨[some x,some (.ref S.len),some d,none],rfl,?_⟩
   have hlen:=ze0 (ls.take i) []
   have htl:(ls.take i).length<=1000:=by rw[List.length_take];omega
   rw[zio hd' (by rw[hk,List.append_nil];exact hlk) (by simp at hlen;omega)]
   refine⟨⟨_,rfl⟩,?_⟩
   have:ls.take (i+1)=ls.take i++[l]:=by rw[List.take_succ,hl'];rfl
   rw[this,zdF]
end R
end
section
set_option maxHeartbeats 4000000
namespace R
open PySem PySem.Spec PyProof.Rows L2
variable [Mks]
theorem zd1 (l2:List Stmt)(env:Env):∀l1:List Stmt,execs (l1++l2) env=(execs l1 env >>= fun f=>match f with|.next=>execs l2 env|f=>pure f)
 | []=>by show execs l2 env=((pure Flow.next:Sem Flow) >>= _);rw[pure_bind]
 | s :: l => by
   rw[List.cons_append,execs_cons,execs_cons,bind_assoc]
   congr 1
   funext f
   cases f with
   |next=>exact zd1 l2 env l
   |_=>rw[pure_bind]
theorem zce {M:Model}{A:Around}{E:Value->Shared->Prop}{s:Shared}{env:Env}{l1 l2:List Stmt}{Q:Flow->Shared->Prop}
  (h:wpAny M A (execs l1 env) (fun f s'=>match f with|.next=>wpAny M A (execs l2 env) Q E s'|f=>Q f s') E s):wpAny M A (execs (l1++l2) env) Q E s:=by
 rw[zd1]
 refine wpAny_bind (wpAny_mono h (fun f s' h'=>?_) fun _ _ x=>x)
 cases f<;>first|exact h'|exact wpAny_pure h'
section
variable {K:PySem.W.Frag} {ι ι':List Addr} {H H':Hp} {S T:R.St}
theorem RH.cutG (hh:RH K ι H S)(x:Ext ι H ι' H')(hT:RH K ι' H' T)(hg:∀l o,S.get l=some o->T.get l=some o):RH K ι H' S:=by
 refine⟨hh.len,hh.nd,fun l o e=>?_,hT.tab⟩
 obtain⟨a,h1,h2⟩:=hh.obj l o e
 obtain⟨b,h3,h4⟩:=hT.obj l o (hg l o e)
 rw[zbh x.pre h1] at h3;cases h3
 refine⟨a,h1,?_⟩
 cases o with
 | lst ds =>
   obtain⟨xs,_,r1⟩:=h2
   obtain⟨ys,e2,r2⟩:=h4
   exact⟨ys,e2,r2.restrict x.pre r1.flats⟩
 | dic kvs =>
   obtain⟨_,ws,_,r1⟩:=h2
   obtain⟨nd,ys,e2,r2⟩:=h4
   exact⟨nd,ys,e2,r2.restrict x.pre r1.flats⟩
 | ins c fs =>
   obtain⟨_,_,ws,_,_,r1⟩:=h2
   obtain⟨C,dx,ys,e0,e2,r2⟩:=h4
   exact⟨C,dx,ys,e0,e2,r2.restrict x.pre r1.flats⟩
 | dtp kvs =>
   obtain⟨_,ws,_,r1⟩:=h2
   obtain⟨nd,ys,e2,r2⟩:=h4
   exact⟨nd,ys,e2,r2.restrict x.pre r1.flats⟩
 | d3 kvs =>
   obtain⟨_,ws,_,r1⟩:=h2
   obtain⟨nd,ys,e2,r2⟩:=h4
   exact⟨nd,ys,e2,r2.restrict x.pre r1.flats⟩
theorem RH.offK (h:RH K ι H S)(k:Kp H H')(e:∀a∈ι,H' a=H a):RH K ι H' S:=
 ⟨h.len,h.nd,fun l o g=>let ⟨a,h1,h2⟩:=h.obj l o g;⟨a,h1,h2.up (List.prefix_refl _) k (e a (List.mem_of_getElem? h1))⟩,k.tab h.tab⟩
theorem zkS:∀{kvs:List (K3 × Option Int)} {ws:List (K3 × Addr × V)},R3s K ι H (dW kvs) ws->W3s H kvs ws
 | [],_,r=>r
 | (k, o) :: kvs, ws, r => by
   obtain⟨c,v,w,rfl,r0,r1,r2⟩:=r
   refine⟨c,w,?_,r0,zkS r2⟩
   have:v=vW o:=by cases o<;>exact r1
   rw[this]
end
theorem zhK {P:Program}{w:World}{fs:List Addr}{H H3:Hp}{h h5:Heap}{cc d:Addr}{ou od:Obj}{φ:Heap->Prop}(un:Un fs [] H H3 h h5)(hok:HOk P w H3 h5)(hcn:H3 cc=none)(hcs:h.objs.size<=cc)(hou:h5.get? cc=some ou)
  (hd:H3 d=some (.ext φ)) (hod:h5.get? d=some od) :
  Un fs [] H (upd (upd H3 cc (.frz ou (.own 0))) d (.frz od (.ext φ))) h h5/\HOk P w (upd (upd H3 cc (.frz ou (.own 0))) d (.frz od (.ext φ))) h5/\
  ∀b o,H3 b=some o->b≠d->upd (upd H3 cc (.frz ou (.own 0))) d (.frz od (.ext φ)) b=some o:=by
 have old:∀b o,H3 b=some o->b≠d->upd (upd H3 cc (.frz ou (.own 0))) d (.frz od (.ext φ)) b=some o:=fun b o e n=>by
  rw[zaf n,zaf (zaj e hcn)];exact e
 refine⟨⟨un.keep,un.slot,fun b o q n h=>?_,un.there,fun b xs q=>?_,fun b o u q=>?_,fun b ps q=>?_⟩,fun b o q=>?_,old⟩
 · have e:=un.free b o q n h
   rw[zaf (fun z=>by rw[z,hd] at e;cases e),zaf (Nat.ne_of_lt (Nat.lt_of_lt_of_le (Heap.lt_size q) hcs))];exact e
 · have e:=un.tups b xs q
   exact old b _ e fun z=>by rw[z,hd] at e;cases e
 · have e:=un.frzs b o u q
   exact old b _ e fun z=>by rw[z,hd] at e;cases e
 · obtain⟨more,e⟩:=un.tbls b ps q
   exact⟨more,old b _ e fun z=>by rw[z,hd] at e;cases e⟩
 · by_cases z:b=d
   · subst z;rw[zai] at q;cases q
     obtain⟨p1,p2,p3⟩:=(show ObjOk P w H3 h5 b (.ext φ) from hok b _ hd)
     exact⟨hod,p1,p2,p3⟩
   · rw[zaf z] at q
     by_cases y:b=cc
     · subst y;rw[zai] at q;cases q;exact⟨hou,_,hou⟩
     · rw[zaf y] at q
       exact (hok b o q).stay (fun _ _ _ q=>q) (fun x q=>old x _ q fun z=>by rw[z,hd] at q;cases q) fun x xs q=>old x _ q fun z=>by rw[z,hd] at q;cases q
theorem zdM {S:R.St}{ds:List D}{Q:D->R.St->Prop}(h:W (prm S .road ds) Q):∃x dd ls,ds=[x]/\za7 S x=some dd/\dd.mapM lie4=some ls/\ls.length<=1000/\S.lk=[]/\Q (.clo (zan [] ls)) S:=by
 unfold prm at h
 split at h
 · rename_i e;cases e
 · rename_i x _
   cases e:za7 S x with
   |none=>rw[e] at h;exact h.elim
   | some dd =>
     rw[e,Option.bind_some] at h
     cases e2:dd.mapM lie4 with
     |none=>rw[e2] at h;exact h.elim
     | some ls =>
       rw[e2] at h
       dsimp only at h
       split at h
       · rename_i c;exact⟨x,dd,ls,rfl,e,e2,c.1,c.2,h⟩
       · exact h.elim
 · exact h.elim
noncomputable abbrev roadN:List Str:=["lies","last","lie","word_on_arrival"]
structure RoadSt (st:Stmt):Prop where
 ex:∃(s1 s2 ist:Stmt) (p8 p9:Pos),zah st=[s1,s2,ist,.Return (some (.Name arrN p8)) p9]/\Mks.rs=some ist/\chkS zcN zdG roadN (zae st) [s1,s2]=true
 sc:FnScope roadN ["lies"] (zae st)
 hl:(zae st).names.lookup ("last":Str)=some .cell
 hw:(zae st).names.lookup arrN=some .local
theorem zjD {P:Program}{w:World}{K:PySem.W.Frag}{mg:Str->Option Value}{base:Heap}{Pg:List Fn}{n fi:Nat}{x:Str}{st:Stmt}{f c Tb:Addr}{oc:Value}{od an:Option Addr}{osl:Array (Option Value)}{dV kV doc pm ct:Value}{F:Fn}
  (lk:K.lookup f=some ⟨oc,od,.func (PySem.W.fnOf x "road" (zam st) (zah st) (zae st) dV kV doc pm an (.ref c) ct),osl⟩) (hcd:PySem.W.codeIn K (.ref c) "road"=true) (hC:PySem.W.codeHdIn K c Tb=true) (T:RoadSt st) (bm:BM mg base)
  (mem:(Tb,arrQ)∈Mks.ts) (one:∀p∈Mks.ts,p.1=Tb->p.2=arrQ) (hP:Pg[fi]?=some F) (hq:F.prim=some .road) (hp:F.np=1) (hn:3<=n) :
  FnOk P w K mg base CX0 (n+2) f (PySem.W.fnOf x "road" (zam st) (zah st) (zae st) dV kV doc pm an (.ref c) ct) ["lies"] (spF K (callF Pg (n+1)) fi):=by
 refine⟨fun vs H Q E h=>zbL (ps:=["lies"]) hP hp h,fun A outer s H args us vs Q E hr e0 hb r hsp=>?_⟩
 have hlen:vs.length=(["lies"]:List Str).length:=zbL (ps:=["lies"]) hP hp hsp
 have KX:K.In s.heap:=e0.mod.kin.keeps fun b o e=>(e0.bs b o e).1
 have lim:s.heap.NoLimit:=e0.mod.nolimit.keeps fun b o e=>(e0.bs b o e).1
 have hkind:∀y∈(["lies"]:List Str).zip us,(zae st).names.lookup y.1=some .local\/((zae st).names.lookup y.1=some .cell/\((cellsFrom (s.heap.objs.size+1) (zae st).names []).lookup y.1).isSome=true):=fun⟨n,v⟩ hy=>by
  rcases T.sc.par n (List.of_mem_zip hy).1 with q|q
  · exact .inl q
  · exact .inr ⟨q,PySem.W.cellsFrom_some _ _ _ (.inl q)⟩
 refine codeAny_call_function hr.depth (KX _ _ lk) rfl T.sc.co T.sc.gen rfl (PySem.W.codeRec_of KX hcd) (hb _ _ _ _ ?_)
 refine wpAny_newFunctionEnv_cells T.sc.kind hkind fun env he s1 xx=>?_
 subst he
 refine⟨lim.keeps xx.toInCall.keep,codeAny_func ?_⟩
 have I:Inv (cxOf CX0 P w K mg base roadN "road" (zae st) f (.ref c) A outer s H E) [] (start roadN vs) H s1:=zdY T.sc hr.hd e0 hlen r xx
 have hr':=hr.deeper (envOfC "road" (zae st) s.heap.objs.size f (.ref c))
 generalize hX:cxOf CX0 P w K mg base roadN "road" (zae st) f (.ref c) A outer s H E=X at I
 have eA:X.A=A.deeper (envOfC "road" (zae st) s.heap.objs.size f (.ref c)):=by rw[<-hX];rfl
 have eE:X.env=envOfC "road" (zae st) s.heap.objs.size f (.ref c):=by rw[<-hX];rfl
 obtain⟨ι,S0,ds,rr,hh,hw⟩:=hsp
 simp only[callF,hP,hq,hn,if_true] at hw
 split at hw
 · obtain⟨x0,dd,ls,rfl,h1,h2,h3,h4,q⟩:=zdM hw
   obtain⟨v,r0,rfl,rv,rn⟩:=rr
   cases (show r0=[] from rn)
   obtain⟨st1,st2,ist,p8,p9,eb,hrs,ck⟩:=T.ex
   have T3:CloSt ist:=by have:=Mks.ro;rw[hrs] at this;exact this
   have G:Gd zcN noCF n roadN (zae st) X.nox:=by
    rw[<-hX]
    exact⟨rfl,T.sc.nd,fun x e=>e,fun x e=>e,fun x e=>.inl e,fun x e=>e,.inl fun _=>rfl,rfl,rfl,hr',zh8⟩
   have eK:X.K=K:=by rw[<-hX];rfl
   have hx:∀m,x0=.ref m->m<S0.len:=fun m e=>by
    subst e
    obtain⟨a,ha,_⟩:=rv
    rw[<-hh.len];exact (List.getElem?_eq_some_iff.mp ha).1
   have w1:=za0 zdG G ck [] s1 (start roadN [v]) H {nx:=fun σ' H'=>∃z ι',RS K ι' H' [some x0,some (.ref S0.len),z,none] σ'/\RH K ι' H' (S0.push (.d3 (dW (zan [] ls))))/\Ext ι H ι' H',rt:=fun _ _=>False} (I.wish _) ?_
   · show wpAny (model P w) (A.deeper (envOfC "road" (zae st) s.heap.objs.size f (.ref c))) (execs (zah st) (envOfC "road" (zae st) s.heap.objs.size f (.ref c))) _ _ s1
     rw[eb,<-eA,<-eE]
     have eP:X.prog=P:=by rw[<-hX];rfl
     have ew:X.w=w:=by rw[<-hX];rfl
     refine zce (l1:=[st1,st2]) (l2:=[ist,.Return (some (.Name arrN p8)) p9]) (wpAny_mono (by rw[<-eP,<-ew];exact w1) (fun fl s2 hs=>?_) fun _ _ z=>False.elim z)
     cases fl with
     |ret u=>obtain⟨_,_,_,_,_,z⟩:=hs;exact False.elim z
     |brk=>obtain⟨_,_,_,z⟩:=hs;exact False.elim z
     |cont=>obtain⟨_,_,_,z⟩:=hs;exact False.elim z
     |next=>
     obtain⟨σ',H',J',z,ι',rs,rh,x'⟩:=hs
     have J:Inv X [] σ' H' s2:=J'.unwish
     obtain⟨v1,e1,d,hd,rfl⟩:=rs.2 1 (.ref S0.len) rfl
     obtain⟨d',hd',nd,ws,hdH,r3⟩:=rh.obj S0.len _ (zfi S0 S0.lk _)
     rw[hd] at hd';cases hd'
     have w3:=zkS r3
     have hlast:X.env.kindOf ("last":Str)=some .cell:=by rw[eE];exact T.hl
     have cellAt:∀{σ2:L2.St} {H2:Hp} {s':Shared},Inv X [] σ2 H2 s'->σ2[1]?=some (some (.ref d))->∃cc ou,X.env.cells.lookup ("last":Str)=some cc/\s'.heap.get? cc=some ou/\ou.data=.cell (some (.ref d)):=fun {σ2 H2 s'} I2 e=>by
      obtain⟨m,_,hl⟩:=I2.loc
      obtain⟨u,ru,lk⟩:=hl 1 "last" (.ref d) (by rw[<-hX];rfl) e (by rw[<-hX];exact .inr (.inl T.hl))
      cases (show u=Value.ref d from ru)
      rcases lk with ⟨a,_⟩|⟨_,cc,h1,ou,h2,h3⟩
      · rw[hlast] at a;cases a
      · exact⟨cc,ou,h1,h2,h3⟩
     obtain⟨cc,_,hcc,_,_⟩:=cellAt J e1
     have hqn:qualnameIn X.env arrN arrN=arrQ:=by
      unfold qualnameIn
      rw[eE,show (envOfC "road" (zae st) s.heap.objs.size f (.ref c)).kindOf arrN=some .local from T.hw]
      rfl
     obtain⟨pos,et⟩:=T3.text
     have eG:X.mg=mg:=by rw[<-hX];rfl
     have eB:X.base=base:=by rw[<-hX];rfl
     have tb:=rh.tab _ mem
     refine wpAny_execs_cons ?_
     rw[et]
     refine PySem.W.nestDef_K T3.d0 T3.k0 (T3.an _) ?_
     rw[hqn,<-eP,<-ew]
     refine zit J (by rw[eG,eB];exact bm) (by rw[eE];rfl) (by rw[eK];exact hC) tb (T3.clo _ cc hcc) fun f' H3 s3 J3 D3 tb3 S3=>?_
     refine zc8 (i:=3) (x:=arrN) (v:=.ref f') J3 (by rw[<-hX];exact T.sc.nd) (by rw[<-hX];rfl) (by rw[eE];exact .inl T.hw) rfl (fun s4 J4=>?_) (.inr (by rw[eE];exact T.hw))
     have l3:3<σ'.length:=by rw[J.len,<-hX];show 3<roadN.length;decide
     have pv:=(zcr (X:=X.nox) (pos:=p8) (i:=3) (x:=arrN) (by rw[<-hX];rfl) (show Vis X.env.scope arrN by rw[eE];exact .inl T.hw):PE X.nox (.Name arrN p8) (tVar 3)) [] s4 (σ'.set 3 (some (.ref f'))) H3 (fun v H2=>v=.ref f'/\H2=H3) (J4.wish _) ⟨.ref f',List.getElem?_set_self l3,rfl,rfl⟩
     refine wpAny_execs_cons (wpAny_Return_some (wpAny_mono pv (fun u s5 hs=>?_) fun e s' z=>?_))
     · obtain⟨v',H5,J5',ru,rfl,rfl⟩:=hs
       have J5:Inv X [] (σ'.set 3 (some (.ref f'))) H5 s5:=J5'.unwish
       cases (show u=Value.ref f' from ru)
       show L2.CE outer X.prog X.w H s Q (.ref f') s5
       rw[eP,ew]
       obtain⟨cc2,ou,hcc2,hou,hoc⟩:=cellAt J5 (by rw[List.getElem?_set_ne (by decide)];exact e1)
       rw[hcc] at hcc2;cases hcc2
       obtain⟨ps,hTb,_⟩:=id tb
       obtain⟨ps3,hTb3,_⟩:=id tb3
       have dTb:d≠Tb:=fun z=>by rw[z,hTb] at hdH;cases hdH
       have hd3:H5 d=some (.ext (TriO d ws)):=S3.rest d _ dTb hdH
       obtain⟨_,⟨od',hod⟩,_⟩:=(show ObjOk X.prog X.w H5 s5.heap d (.ext _) from J5.hok d _ hd3)
       have hcn:H5 cc=none:=J5.freeC _ _ hcc
       have hcs:s.heap.objs.size<=cc:=by
        have:=J5.ok.cab "last" cc (by rw[<-hX];rfl) hcc
        rw[<-hX] at this;exact this
       have un:Un (frs outer) [] H H5 s.heap s5.heap:=by have:=J5.base;rw[<-hX] at this;exact this
       have hok:HOk P w H5 s5.heap:=by have:=J5.hok;rw[eP,ew] at this;exact this
       have ccd:cc≠d:=fun z=>by rw[z,hd3] at hcn;cases hcn
       obtain⟨un6,hok6,old6⟩:=zhK un hok hcn hcs hou hd3 hod
       have at_d:upd (upd H5 cc (.frz ou (.own 0))) d (.frz od' (.ext (TriO d ws))) d=some (.frz od' (.ext (TriO d ws))):=zai
       have at_c:upd (upd H5 cc (.frz ou (.own 0))) d (.frz od' (.ext (TriO d ws))) cc=some (.frz ou (.own 0)):=by rw[zaf ccd];exact zai
       generalize upd (upd H5 cc (.frz ou (.own 0))) d (.frz od' (.ext (TriO d ws)))=H6 at un6 hok6 old6 at_d at_c
       have up6:∀b o,H' b=some o->b≠Tb->b≠d->H6 b=some o:=fun b o e n1 n2=>old6 b o (S3.rest b o n1 e) n2
       have frz6:∀b o u,H' b=some (.frz o u)->H6 b=some (.frz o u):=fun b o u e=>up6 b _ e (fun z=>by rw[z,hTb] at e;cases e) fun z=>by rw[z,hdH] at e;cases e
       have tup6:∀b xs,H' b=some (.tup xs)->H6 b=some (.tup xs):=fun b xs e=>up6 b _ e (fun z=>by rw[z,hTb] at e;cases e) fun z=>by rw[z,hdH] at e;cases e
       have frz56:∀b o u,H5 b=some (.frz o u)->H6 b=some (.frz o u):=fun b o u e=>old6 b _ e fun z=>by rw[z,hd3] at e;cases e
       have hTb6:H6 Tb=some (.tbl ps3):=old6 Tb _ hTb3 (Ne.symm dTb)
       have tb6:TB H6:=fun p hp=>by
        by_cases z:p.1=Tb
        · rw[one p hp z,z];exact tb3.up (hTb6.trans hTb3.symm) frz56
        · obtain⟨qs,hq,_⟩:=id (rh.tab p hp)
          exact (rh.tab p hp).up ((up6 p.1 _ hq z fun y=>by rw[y,hdH] at hq;cases hq).trans hq.symm) frz6
       have dm:d∈ι':=List.mem_of_getElem? hd
       have x6:Ext ι H ι H6:=by
        refine⟨List.prefix_refl _,⟨un6.tups,un6.frzs,fun _=>tb6⟩,fun a o ha e=>⟨?_,ha⟩⟩
        obtain⟨e2,hm⟩:=x'.rest a o ha e
        have nd:a≠d:=fun z=>hm (z▸dm)
        by_cases z:a=Tb
        · refine .inr ⟨?_,ps3,z▸hTb6⟩
          rcases e2 with e2|⟨t,_⟩
          · rw[z,hTb] at e2;cases e2;exact⟨ps,rfl⟩
          · exact t
        · rcases e2 with e2|⟨t,qs,e2⟩
          · exact .inl (up6 a o e2 z nd)
          · exact .inr ⟨t,qs,up6 a _ e2 z nd⟩
       have dn:d∉ι:=zgk x'.pre rh.nd hd (Nat.le_of_eq hh.len)
       have rh6:RH K ι H6 S0:=(hh.cutG x' rh fun l o e=>zcq e).offK ⟨tup6,frz6,fun _=>tb6⟩ fun a ha=>by
        obtain⟨o,ho,_,_,nt⟩:=(hh.cutG x' rh fun l o e=>zcq e).live ha
        rw[ho]
        exact up6 a o ho (fun z=>by rw[z,hTb] at ho;cases ho;exact nt _ rfl) fun z=>dn (z▸ha)
       refine⟨.ref f',H6,J5.os.trans (by rw[<-hX];rfl),J5.bare,un6,hok6,rfl,q _ H6 ι x6 ?_ rh6⟩
       obtain⟨pm',ct',doc',c2,oc2,vs2,t2,g1,g2,g3,g4⟩:=D3
       exact⟨f',rfl,cc,d,ou,od',ws,⟨ist,pm',ct',doc',c2,oc2,vs2,t2,hrs,frz56 _ _ _ g1,frz56 _ _ _ g2,g3,g4⟩,at_c,hoc,at_d,w3.up tup6⟩
     · exact False.elim z
   · show tS X.nox.K noCF zdG _ _ _
     rw[show X.nox.K=K from eK]
     refine⟨[some x0,none,none,none],ι,S0,_,⟨rfl,fun i d e=>?_⟩,hh,zkp h1 h2 h3 h4 hx,?_⟩
     · match i,e with
       |0,e=>cases e;exact⟨v,rfl,rv⟩
       |1,e=>cases e
       |2,e=>cases e
       |3,e=>cases e
       |i+4,e=>simp at e
     · rintro fl ι' H' S' x' hh' ⟨z,rfl,rfl⟩
       exact fun σ' hs=>⟨z,ι',hs,hh',x'⟩
 · exact hw.elim
omit [Mks] in
theorem zkA {scope:Scope}{env:Env}{c:Addr}(hn:scope.names=[(("turn":Str),.local),("path",.local),("to",.local),("word",.local),("last",.free)])(h:env.cells.lookup ("last":Str)=some c):closureFor scope env=pure [(("last":Str),c)]:=by
 unfold closureFor
 rw[hn]
 simp[cellOf,h]
end R
end
section
namespace R
open PySem PySem.Spec PyProof.Rows L2
variable [Mks]
noncomputable def H0 (K:PySem.W.Frag)(a:Addr)(o:Obj)(xs:List V):Hp:=fun b=>if b∈Mks.ts.map (·.1) then some (.tbl #[]) else if b=a then (match K.lookup a with|some _=>none|none=>some (.frz o (.lst xs))) else none
theorem zgJ {P:Program}{w:World}{K:PySem.W.Frag}{mg mb:Str->Option Value}{k:Nat}{fa a:Addr}{fd:FuncData}{x:Str}{sp:Sp}{s₁:Shared}{vs:List Value}{ns:List Int}
  (KX:K.In s₁.heap) (hns:s₁.heap.Ns mainGlobals mg) (hb:s₁.heap.Ns builtinsNs mb) (hbb:∀x:Str,x≠"__name__"->mb x=bootBuiltins x) (hlim:s₁.heap.NoLimit) (hg:s₁.gens = #[]) (bm:BM mg s₁.heap)
  (ha:s₁.heap.get? a=some {cls:=.type "list",data:=.seq vs.toArray}) (hi:IntsAre vs ns) (hl:ns.length<=sizeLine) (hr:Room k callerA)
  (tabs:∀p∈Mks.ts,s₁.heap.get? p.1=some (PySem.W.tabObj #[])/\K.lookup p.1=none/\isCodeTable s₁.heap p.1)
  (F:∀base:Heap,K.In base->base.Ns mainGlobals mg->BM mg base->FnOk P w K mg base CX0 k fa fd [x] sp) (hbind:∀(s:Shared) (u:Value),BindsTo s fd ⟨[u],[]⟩ [(x,u)])
  (hsp:∀H:Hp,FixL K H a (ns.map V.int)->TB H->sp [.ref a] H (fun v _=>v=.bl true) fun _ _ _=>False) :
  codeAny (model P w) callerA (.call (.ref fa) ⟨[.ref a],[]⟩) (fun r s'=>r=.ok (.ret (.bool true))/\OldK s₁.heap s'.heap/\s'.os=s₁.os/\AllBare s'.gens) s₁:=by
 have rv:=zdv hi
 have lenV:=hi.length
 generalize hH:H0 K a {cls:=.type "list",data:=.seq vs.toArray} (ns.map V.int)=H
 have cs:∀b,H b=none\/((∃p∈Mks.ts,p.1=b)/\H b=some (.tbl #[]))\/(b=a/\K.lookup a=none/\H b=some (.frz {cls:=.type "list",data:=.seq vs.toArray} (.lst (ns.map V.int)))):=fun b=>by
  rw[<-hH]
  unfold H0
  by_cases h1:b∈Mks.ts.map (·.1)
  · obtain⟨p,hp,e⟩:=List.mem_map.mp h1
    exact .inr (.inl ⟨⟨p,hp,e⟩,if_pos h1⟩)
  · rw[if_neg h1]
    by_cases h2:b=a
    · rw[if_pos h2]
      cases e:K.lookup a with
      |some o=>exact .inl rfl
      |none=>exact .inr (.inr ⟨h2,rfl,rfl⟩)
    · rw[if_neg h2];exact .inl rfl
 have tb:TB H:=fun p hp=>⟨#[],by rw[<-hH];unfold H0;exact if_pos (List.mem_map.mpr ⟨p,hp,rfl⟩),trivial,fun pos v e=>by simp[codeAmong] at e⟩
 have na:a∉Mks.ts.map (·.1):=fun z=>by
  obtain⟨p,hp,e⟩:=List.mem_map.mp z
  have:=(tabs p hp).1
  rw[e,ha] at this;cases this
 have hx:FixL K H a (ns.map V.int):=by
  cases e:K.lookup a with
  | some o =>
    have e':=KX a o e
    rw[ha] at e';cases e'
    exact .inr ⟨_,vs.toArray,_,e,rfl,rfl,rfl,by rw[List.size_toArray,lenV];exact hl,by simpa using rv⟩
  | none =>
    refine .inl ⟨{cls:=.type "list",data:=.seq vs.toArray},?_⟩
    rw[<-hH];unfold H0
    rw[if_neg na,if_pos rfl,e]
 have hok:HOk P w H s₁.heap:=fun b u e=>by
  rcases cs b with z|⟨⟨p,hp,rfl⟩,z⟩|⟨rfl,_,z⟩
  · rw[z] at e;cases e
  · rw[z] at e;cases e;exact (tabs p hp).1
  · rw[z] at e;cases e;exact⟨ha,by rw[List.length_map];exact hl,vs,_,rv,ha⟩
 have noD:∀{b:Addr} {o:Obj},s₁.heap.get? b=some o->(∀xs n,o.data≠.seq xs n)->(∀fs,o.data≠.fields fs)->H b=none:=fun {b o} e n1 n2=>by
  rcases cs b with z|⟨⟨p,hp,rfl⟩,_⟩|⟨rfl,_,_⟩
  · exact z
  · rw[(tabs p hp).1] at e;cases e;exact absurd rfl (n2 _)
  · rw[ha] at e;cases e;exact absurd rfl (n1 _ _)
 have base_of:∀{b:Addr} {o:Obj},s₁.heap.get? b=some o->H b=none->(hidT s₁.heap H).get? b=some o:=fun e n=>zij e n
 have nsK:∀{b:Addr} {m:Str->Option Value},s₁.heap.Ns b m->(hidT s₁.heap H).Ns b m:=fun {b m} ⟨o,es,ep,e,d,r⟩=>⟨o,es,ep,base_of e (noD e (fun _ _ z=>by rw[d] at z;cases z) fun _ z=>by rw[d] at z;cases z),d,r⟩
 have hKb:K.In (hidT s₁.heap H):=fun b o e=>base_of (KX b o e) (by
  rcases cs b with z|⟨⟨p,hp,rfl⟩,_⟩|⟨rfl,z,_⟩
  · exact z
  · rw[(tabs p hp).2.1] at e;cases e
  · rw[z] at e;cases e)
 have hbm:BM mg (hidT s₁.heap H):=by
  obtain⟨m,o,h1,h2,h3,h4,h5,h6,h7⟩:=bm
  exact⟨m,o,h1,h2,h3,base_of h4 (noD h4 (fun _ _ z=>by rw[h7] at z;cases z) fun _ z=>by rw[h7] at z;cases z),h5,h6,h7⟩
 have hM:Mod K mg (hidT s₁.heap H):=⟨hKb,nsK hns,⟨mb,nsK hb,hbb⟩,let ⟨mc,h1,h2⟩:=hlim;⟨mc,nsK h1,h2⟩⟩
 have e0:Env0 P w K mg (hidT s₁.heap H) callerA [] s₁ H:=⟨rfl,hM,fun b o e=>zj6 e,Nat.le_of_eq (zgZ _ _),trivial,fun b hb=>absurd (show b∈([]:List Addr) from hb) (by simp),hok,.of_eq hg⟩
 refine codeAny_mono ((F _ hKb (nsK hns) hbm).run callerA [] s₁ H ⟨[.ref a],[]⟩ [.ref a] [.ref a] _ _ hr e0 (hbind s₁ (.ref a)) (.cons rfl .nil) (hsp H hx tb)) fun r s' h=>?_
 cases r with
 |error e=>exact False.elim h
 | ok fl =>
   cases fl with
   | ret u =>
     obtain⟨v,H',os,bare,un,hok',r',q⟩:=h
     have q':v=.bl true:=q
     subst q'
     obtain rfl:u=Value.bool true:=r'
     have old:∀b o,s₁.heap.get? b=some o->asItWas s₁.heap s'.heap b o/\∃o',s'.heap.get? b=some o':=fun b o e=>by
      rcases cs b with z|⟨⟨p,hp,rfl⟩,z⟩|⟨rfl,_,z⟩
      · have k:=un.keep b o e z (by intro y;exact absurd (show b∈([]:List Addr) from y) (by simp)) (by simp)
        exact⟨.inl k,_,k⟩
      · obtain⟨more,z2⟩:=un.tbls _ _ z
        have k:s'.heap.get? p.1=some (PySem.W.tabObj (#[]++more)):=hok' _ _ z2
        have e':=(tabs p hp).1
        rw[e'] at e;cases e
        exact⟨.inr (.inl ⟨(tabs p hp).2.2,rfl,#[],more,rfl,k⟩),_,k⟩
      · have z2:=un.frzs _ _ _ z
        have k:=(hok' _ _ z2).1
        rw[ha] at e;cases e
        exact⟨.inl k,_,k⟩
     exact⟨rfl,⟨fun b o e=>(old b o e).1,fun b o e=>(old b o e).2⟩,os,bare⟩
   |_=>exact False.elim h
end R
end
section
namespace R
open PySem PySem.Spec PyProof.Rows L2
variable [Mks]
theorem walk_ofT {l:PySem.W.OpenLaw}{n k:Nat}{q:Program}{loose:List Str}{XP:(Str->Option Value)->Heap->Prop}{YP:World->Heap->Prop}{d:DefRec}{K:Params->PySem.W.Frag}{sp:World->Sp}{x:Str}
  (hn:l.most=some n) (hn2:n<=sizeLine) (hdf:d.params.defaults=[]) (hr:Room k callerA)
  (hY:∀(w:World) (h:Heap),YP w h->(K w.params).In h) (hT:∀(w:World) (h:Heap),YP w h->∀p∈Mks.ts,h.get? p.1=some (PySem.W.tabObj #[]))
  (hK:∀(w:World),∀p∈Mks.ts,(K w.params).lookup p.1=none/\∃c,PySem.W.codeHdIn (K w.params) c p.1=true)
  (F:∀(w:World) (mg:Str->Option Value) (fa:Addr) (h:Heap),(K w.params).In h->h.Ns mainGlobals mg->mg d.name=some (.ref fa)->
   ∃fd:FuncData,(∀(s:Shared) (u:Value),BindsTo s fd ⟨[u],[]⟩ [(x,u)])/\
    ∀base:Heap,(K w.params).In base->base.Ns mainGlobals mg->BM mg base->FnOk l.prog w (K w.params) mg base CX0 k fa fd [x] (sp w))
  (hsp:∀(w:World) (H:Hp) (a:Addr) (ns:List Int),ns.length<=n->FixL (K w.params) H a (ns.map V.int)->TB H->sp w [.ref a] H (fun v _=>v=.bl true) fun _ _ _=>False) :
  PySem.W.WalkO q loose XP YP l.row.toRowW d [] (fun f vs=>PySem.call f vs):=by
 refine Att.attach_call hn hdf fun w s₀ s₁ mg mb fa o pm cd doc a vs ns G Y ho hd hcd hmg hobj hints hlen hg=>?_
 have KX:=hY w _ Y
 obtain⟨fd,hb,hF⟩:=F w mg fa _ KX G.T.g hmg
 obtain⟨bm,ob,b1,b2,b3,b4,b5,b6⟩:=G.T.bmain
 have hbG:bm≠mainGlobals:=fun z=>by
  obtain⟨o,es,ep,e,hd,_⟩:=G.T.g
  rw[z,e] at b3;cases b3;rw[hd] at b6;cases b6
 refine zgJ KX G.T.g G.T.b G.T.builtins G.T.nolimit hg ⟨bm,ob,b1,b2,hbG,b3,b4,b5,b6⟩ hobj hints (Nat.le_trans hlen hn2) hr (fun p hp=>?_) hF hb fun H hx tb=>hsp w H a ns hlen hx tb
 obtain⟨k1,c,k2⟩:=hK w p hp
 have e:=hT w _ Y p hp
 exact⟨e,k1,((PySem.W.codeHd_of_K KX k2).tab e).isCodeTable⟩
end R
end
section
namespace R
noncomputable def oD:Option Int->D|some i=>.int i|none=>.non
open PySem (PyData)
theorem zdh {α β:Type}{f:α->Option β}:∀{xs:List α} {ys:List β},xs.mapM f=some ys->∀y∈ys,∃x∈xs,f x=some y
 | [],ys,h,y,hy=>by simp at h;subst h;cases hy
 | x :: xs, ys, h, y, hy => by
   rw[List.mapM_cons] at h
   cases e:f x with
   |none=>rw[e] at h;cases h
   | some z =>
     rw[e] at h
     cases e2:xs.mapM f with
     |none=>rw[e2] at h;cases h
     | some zs =>
       rw[e2] at h
       injection h with h
       subst h
       rcases List.mem_cons.mp hy with rfl|hy
       · exact⟨x,by simp,e⟩
       · obtain⟨u,hu,eu⟩:=zdh e2 y hy
         exact⟨u,by simp[hu],eu⟩
theorem zbP:∀{xs:List PyData},(∀x∈xs,PyData.eqv x x=true)->PyData.eqvAll xs xs=true
 | [],_=>by simp[PyData.eqvAll]
 |x::xs,h=>by simp[PyData.eqvAll,h x (by simp),zbP (xs:=xs) fun y hy=>h y (by simp[hy])]
theorem zj1 {S:St}:∀{n:Nat} {d:D} {a:PyData},pd S n d=some a->PyData.eqv a a=true:=by
 intro n
 induction n with
 | zero =>
   intro d a h
   cases d<;>simp only[pd] at h
   · cases h;simp[PyData.eqv]
   · cases h;simp[PyData.eqv]
   · cases h;simp[PyData.eqv]
   · split at h
     · cases h;simp[PyData.eqv]
     · cases h
   · cases h
   · cases h
   · cases h
   · cases h
 | succ n ih =>
   intro d a h
   cases d<;>simp only[pd] at h
   · cases h;simp[PyData.eqv]
   · cases h;simp[PyData.eqv]
   · cases h;simp[PyData.eqv]
   · split at h
     · cases h;simp[PyData.eqv]
     · cases h
   · rename_i ds
     cases e:ds.mapM (pd S n) with
     |none=>rw[e] at h;cases h
     | some xs =>
       rw[e] at h
       cases h
       rw[PyData.eqv]
       exact zbP fun x hx=>let ⟨d,_,hd⟩:=zdh e x hx;ih hd
   · split at h
     · rename_i ds _
       cases e:ds.mapM (pd S n) with
       |none=>rw[e] at h;cases h
       | some xs =>
         rw[e] at h
         cases h
         rw[PyData.eqv]
         exact zbP fun x hx=>let ⟨d,_,hd⟩:=zdh e x hx;ih hd
     · cases h
   · cases h
   · cases h
theorem zg8 {S:St}{x y:D}{a:PyData}(h1:pd S 60 x=some a)(h2:pd S 60 y=some a):eqD S x y=some true:=by
 unfold eqD
 rw[h1,h2]
 exact congrArg some (zj1 h1)
theorem zbi {S:St}{l n:Nat}{ds:List D}{xs:List PyData}(h:S.get l=some (.lst ds))(e:ds.mapM (pd S n)=some xs):pd S (n+1) (.ref l)=some (.list xs):=by
 simp only[pd,h,e];rfl
theorem zfo {S:St}{a:Nat}{ds:List D}(h:S.get a=some (.lst ds)):dKvs S (.ref a)=none:=by unfold dKvs;dsimp only;rw[h]
theorem zcG {S:St}{a:Nat}{y:D}{ds:List D}(h:S.get a=some (.lst ds)):zcc S (.ref a) y=eqD S (.ref a) y:=by unfold zcc;rw[zfo h]
theorem zeJ {S:St}{a b:Nat}{ds:List D}{xs:List PyData}(h1:S.get a=some (.lst ds))(h2:S.get b=some (.lst ds))(e:ds.mapM (pd S 59)=some xs):cmpO S .NotEq (.ref a) (.ref b)=some false:=by
 show (zcc S (.ref a) (.ref b)).map (!·)=_
 rw[zcG h1,zg8 (zbi h1 e) (zbi h2 e)];rfl
noncomputable def oP:Option Int->PyData|some i=>.int i|none=>.none
theorem zlN (S:St)(n:Nat):∀os:List (Option Int),(os.map oD).mapM (pd S n)=some (os.map oP)
 | []=>rfl
 | o :: os => by
   rw[List.map_cons,List.mapM_cons,zlN S n os]
   cases o<;>cases n<;>rfl
theorem zal (S:St)(o:MO):(S.push o).get S.len=some o:=by
 have h:¬S.len<S.frz.length:=by unfold St.len;omega
 unfold St.get St.push
 simp only[h,if_false]
 unfold St.len
 simp
theorem zad {S:St}{l:Nat}{o u:MO}(e:S.get l=some u):(S.push o).get l=some u:=by
 have h:=zaD e
 unfold St.len at h
 unfold St.get at e⊢
 unfold St.push
 simp only
 split
 · rename_i c;rw[if_pos c] at e;exact e
 · rename_i c;rw[if_neg c] at e;rw[List.getElem?_append_left (by omega)];exact e
theorem zbu {α β:Type}(f:α->β)(xs:List α)(lo hi:Option Int):cut (xs.map f) lo hi=(cut xs lo hi).map f:=by
 unfold cut
 rw[List.length_map,List.map_take,List.map_drop]
theorem zbS {S:St}{l:Nat}(o:MO)(h1:S.frz.length<=l)(h2:S.lk.contains l=false):∃S',S.put l o=some S'/\S'.frz=S.frz/\S'.lk=S.lk/\S'.len=S.len/\(∀m,m≠l->S'.get m=S.get m)/\(l<S.len->S'.get l=some o):=by
 refine⟨{S with new:=S.new.set (l - S.frz.length) o},?_,rfl,rfl,by simp[St.len],fun m hm=>?_,fun hl=>?_⟩
 · unfold St.put
   rw[if_neg (by omega),h2];rfl
 · unfold St.get
   simp only
   split
   · rfl
   · rw[List.getElem?_set_ne (by omega)]
 · unfold St.len at hl
   unfold St.get
   simp only[show ¬l<S.frz.length by omega,if_false]
   rw[List.getElem?_set_self (by omega)]
theorem zkr (S:St)(i j:Int):eqD S (.int i) (.int j)=some (i == j):=by
 unfold eqD
 have e:∀k,pd S 60 (.int k)=some (.int k):=fun k=>rfl
 rw[e,e]
 show some (PyData.eqv (.int i) (.int j))=_
 rw[L2.eqv_int]
theorem zff (S:St)(x:Int):∀ks:List Int,inD S (.int x) (ks.map .int)=some (decide (x∈ks)):=by
 intro ks
 have e:(ks.map D.int).mapM (fun z=>eqD S z (.int x))=some (ks.map fun k=>k == x):=by
  induction ks with
  |nil=>rfl
  |cons k ks ih=>rw[List.map_cons,List.mapM_cons,zkr,ih];rfl
 have f:∀ks:List Int,((ks.map fun k=>k == x).any id)=decide (x∈ks):=by
  intro ks
  induction ks with
  |nil=>rfl
  | cons k ks ih =>
    rw[List.map_cons,List.any_cons,ih]
    by_cases c:k=x
    · subst c;simp
    · have c':¬x=k:=fun z=>c z.symm
      have b:(k == x)=false:=beq_eq_false_iff_ne.mpr c
      simp only[b,id,Bool.false_or,List.mem_cons,c',false_or]
 unfold inD
 rw[e]
 exact congrArg some (f ks)
theorem zgs (S:St)(x:Int)(ks:List Int):cmpO S .NotIn (.int x) (.tup (ks.map .int))=some (!decide (x∈ks)):=by
 show ((some (ks.map D.int)).bind fun ys=>inD S (.int x) ys).map (!·)=_
 rw[Option.bind_some,zff];rfl
theorem zi5 {S:St}{l:Nat}{ks:List Int}(h:S.get l=some (.lst (ks.map .int)))(x:Int):cmpO S .In (.int x) (.ref l)=some (decide (x∈ks)):=by
 show zeD S (.int x) (.ref l)=_
 unfold zeD
 rw[zfo h]
 have h3:d3K S (.ref l)=none:=by unfold d3K;dsimp only;rw[h]
 dsimp only
 rw[h3]
 show ((match S.get l with|some (.lst ds)=>some ds|_=>none).bind fun ys=>inD S (.int x) ys)=_
 rw[h]
 exact zff S x ks
theorem ziC {α:Type}(xs:List α)(x:α):R.atI (xs++[x]) (-1)=some x:=by
 have:R.ixN (xs++[x]).length (-1)=some xs.length:=by
  unfold R.ixN
  rw[if_neg (by omega),if_pos (by simp;omega)]
  simp
  omega
 unfold R.atI
 rw[this]
 simp
theorem zdw {α:Type}{os:List α}{i:Nat}{o:α}(h:os[i]?=some o):os.take (i+1)=os.take i++[o]:=by
 rw[List.take_add_one,h];rfl
theorem zcJ {α:Type}{xs:List α}{k:Nat}{x:α}(h:xs[k]?=some x):R.atI xs (k:Int)=some x:=by
 have hl:=(List.getElem?_eq_some_iff.mp h).1
 have e:R.ixN xs.length (k:Int)=some k:=by simp[R.ixN,hl]
 unfold R.atI
 rw[e];exact h
theorem zhr {α:Type}{x:α}{xs:List α}:R.atI (x::xs) 0=some x:=by
 have:R.ixN (x::xs).length 0=some 0:=by simp[R.ixN]
 unfold R.atI;rw[this];rfl
theorem zeg {α:Type}{x y:α}{xs:List α}:R.atI (x::y::xs) 1=some y:=by
 have:R.ixN (x::y::xs).length 1=some 1:=by simp[R.ixN];omega
 unfold R.atI;rw[this];rfl
noncomputable def cellZ (ns:List Int)(k:Nat):Int:=match ns[k]? with|some v=>v % 10 ^ 64|none=>0
theorem zbN:∀ks:List Int,zaT (ks.map D.int)=some ks
 | []=>rfl
 | k :: ks => by
   unfold zaT
   rw[List.map_cons,List.mapM_cons,show (ks.map D.int).mapM zdk=some ks from zbN ks];rfl
end R
end
section
namespace R
noncomputable def hnds (n:Nat):List Int:=(List.range n).map fun (k:Nat)=>(k:Int)
theorem hnds_mem {n:Nat}{x:Int}:x∈hnds n↔0<=x/\x<n:=by
 unfold hnds
 constructor
 · intro h
   obtain⟨k,hk,rfl⟩:=List.mem_map.mp h
   rw[List.mem_range] at hk
   omega
 · intro h
   exact List.mem_map.mpr ⟨x.toNat,List.mem_range.mpr (by omega),by omega⟩
end R
end
section
namespace K23
section
open PySem R L2
noncomputable def zjc:Fn:=⟨1,4,.nil,some .road⟩
noncomputable def c_lies_of:Fn:=⟨3,4,(.asg 3 (.mkL (.comp 1 [1] [0] (.val (.loc 0)) (.cmp .In (.ix (.ix (.loc 0) (.con (D.int 1))) (.neg (.con (D.int 1)))) (.loc 1)) (.loc 0))) (.ret (.mkL (.comp 2 [] [0,1] (.zip (.loc 3) (.loc 2)) (.tst (.con (D.bl true))) (.bin .Add (.sl (.loc 0) false true (.con .non) (.con (D.int 3))) (.tup (.cons (.loc 1) .nil))))) .nil)),none⟩
noncomputable def c_heard:Fn:=⟨2,2,(.ret (.mkL (.comp 1 [1] [0] (.val (.loc 0)) (.cmp .Eq (.ix (.loc 0) (.con (D.int 2))) (.loc 1)) (.tup (.cons (.ix (.loc 0) (.con (D.int 0))) (.cons (.ix (.loc 0) (.con (D.int 1))) (.cons (.ix (.loc 0) (.con (D.int 3))) .nil)))))) .nil),none⟩
noncomputable def c_law_cell_at:Fn:=⟨2,2,(.ifS (.cmp .Lt (.loc 1) (.bi .len (.cons (.loc 0) .nil))) (.ret (.bin .Mod (.ix (.loc 0) (.loc 1)) (.bin .Pow (.con (D.int 10)) (.con (D.int 64)))) .nil) .nil (.ret (.con (D.int 0)) .nil)),none⟩
noncomputable def c_law_word:Fn:=⟨1,1,(.ifS (.cmp .Eq (.bin .Mod (.loc 0) (.con (D.int 5))) (.con (D.int 0))) (.ret (.con D.non) .nil) .nil (.ifS (.cmp .Eq (.bin .Mod (.loc 0) (.con (D.int 5))) (.con (D.int 1))) (.ret (.bin .Sub (.bin .Mod (.bin .FloorDiv (.loc 0) (.con (D.int 5))) (.bin .Sub (.bin .Mult (.con (D.int 2)) (.bin .Pow (.con (D.int 10)) (.con (D.int 60)))) (.con (D.int 1)))) (.bin .Sub (.bin .Pow (.con (D.int 10)) (.con (D.int 60))) (.con (D.int 1)))) .nil) .nil (.ret (.bin .Sub (.bin .Mod (.bin .FloorDiv (.loc 0) (.con (D.int 5))) (.con (D.int 7))) (.con (D.int 3))) .nil))),none⟩
noncomputable def c_law_order:Fn:=⟨2,6,(.asg 2 (.mkL (.rng1 (.loc 1))) (.asg 3 (.lst .nil) (.forS [4] (.rng1 (.loc 1)) (.asg 5 (.bin .Mod (.loc 0) (.bi .len (.cons (.loc 2) .nil))) (.asg 0 (.bin .FloorDiv (.loc 0) (.con (D.int 7))) (.expr (.mt .append (.loc 3) (.cons (.ix (.loc 2) (.loc 5)) .nil)) (.asg 2 (.bin .Add (.sl (.loc 2) false true (.con .non) (.loc 5)) (.sl (.loc 2) true false (.bin .Add (.loc 5) (.con (D.int 1))) (.con .non))) .nil)))) (.ret (.loc 3) .nil)))),none⟩
noncomputable def c_law_turned:Fn:=⟨3,9,(.asgT [3,4,5,6] (.loc 0) (.asg 7 (.mkL (.comp 1 [4,5] [0] (.rng1 (.loc 2)) (.and (.cmp .NotIn (.loc 0) (.loc 1)) (.cmp .NotEq (.loc 0) (.loc 2))) (.loc 0))) (.asg 8 (.bin .Mod (.loc 1) (.bi .len (.cons (.loc 4) .nil))) (.ifS (.or (.cmp .Eq (.bin .Mod (.bin .FloorDiv (.loc 1) (.con (D.int 3))) (.con (D.int 4))) (.con (D.int 0))) (.cmp .Eq (.loc 7) (.lst .nil))) (.ret (.tup (.cons (.bin .Add (.con (D.int 1)) (.bin .Mod (.bin .Add (.loc 3) (.bin .FloorDiv (.loc 1) (.con (D.int 12)))) (.con (D.int 29)))) (.cons (.loc 4) (.cons (.loc 5) .nil)))) .nil) .nil (.ifS (.cmp .Eq (.bin .Mod (.bin .FloorDiv (.loc 1) (.con (D.int 3))) (.con (D.int 4))) (.con (D.int 1))) (.ret (.tup (.cons (.loc 3) (.cons (.loc 4) (.cons (.ix (.loc 7) (.bin .Mod (.bin .FloorDiv (.loc 1) (.con (D.int 12))) (.bi .len (.cons (.loc 7) .nil)))) .nil)))) .nil) .nil (.ret (.tup (.cons (.loc 3) (.cons (.bin .Add (.bin .Add (.sl (.loc 4) false true (.con .non) (.loc 8)) (.tup (.cons (.ix (.loc 7) (.bin .Mod (.bin .FloorDiv (.loc 1) (.con (D.int 12))) (.bi .len (.cons (.loc 7) .nil)))) .nil))) (.sl (.loc 4) true false (.bin .Add (.loc 8) (.con (D.int 1))) (.con .non))) (.cons (.loc 5) .nil)))) .nil)))))),none⟩
noncomputable def c_law_lines:Fn:=⟨2,8,(.asg 2 (.lst .nil) (.forS [3] (.val (.loc 0)) (.asg 4 (.bin .Mod (.bin .Mult (.loc 3) (.con (D.int 48271))) (.con (D.int 2147483647))) (.asg 5 (.call 5 0 (.cons (.bin .FloorDiv (.loc 4) (.con (D.int 64))) (.cons (.loc 1) .nil))) (.asg 6 (.bin .Add (.con (D.int 1)) (.bin .Mod (.bin .FloorDiv (.loc 4) (.con (D.int 4))) (.bi .min2 (.cons (.con (D.int 4)) (.cons (.bin .Sub (.loc 1) (.con (D.int 1))) .nil))))) (.asg 7 (.tup (.cons (.ix (.lst (.cons (.con (D.int 1)) (.cons (.con (D.int 2)) (.cons (.con (D.int 3)) (.cons (.con (D.int 29)) .nil))))) (.bin .Mod (.bin .FloorDiv (.loc 4) (.con (D.int 16))) (.con (D.int 4)))) (.cons (.mkT (.val (.sl (.loc 5) false true (.con .non) (.loc 6)))) (.cons (.ix (.loc 5) (.loc 6)) .nil)))) (.ifS (.and (.cmp .Eq (.bin .Mod (.loc 4) (.con (D.int 4))) (.con (D.int 1))) (.cmp .NotEq (.loc 2) (.lst .nil))) (.asg 7 (.sl (.ix (.loc 2) (.bin .Mod (.bin .FloorDiv (.loc 4) (.con (D.int 64))) (.bi .len (.cons (.loc 2) .nil)))) false true (.con .non) (.con (D.int 3))) .nil) .nil (.ifS (.and (.cmp .Gt (.bin .Mod (.loc 4) (.con (D.int 4))) (.con (D.int 1))) (.cmp .NotEq (.loc 2) (.lst .nil))) (.asg 7 (.call 6 0 (.cons (.ix (.loc 2) (.bin .Mod (.bin .FloorDiv (.loc 4) (.con (D.int 64))) (.bi .len (.cons (.loc 2) .nil)))) (.cons (.bin .FloorDiv (.loc 4) (.con (D.int 4096))) (.cons (.loc 1) .nil)))) .nil) .nil (.expr (.mt .append (.loc 2) (.cons (.bin .Add (.loc 7) (.tup (.cons (.call 4 0 (.cons (.bin .Mod (.bin .Mult (.loc 3) (.con (D.int 69621))) (.bin .Add (.bin .Pow (.con (D.int 10)) (.con (D.int 63))) (.con (D.int 7)))) .nil)) .nil))) .nil)) .nil))))))) (.ret (.loc 2) .nil))),none⟩
noncomputable def c_law_heard:Fn:=⟨2,7,(.forS [2] (.rng1 (.loc 1)) (.asg 3 (.mkL (.val (.loc 0))) (.asg 4 (.call 2 0 (.cons (.loc 3) (.cons (.loc 2) .nil))) (.asg 5 (.mkL (.comp 1 [2] [0] (.val (.loc 0)) (.cmp .Eq (.ix (.loc 0) (.con (D.int 2))) (.loc 1)) (.tup (.cons (.ix (.loc 0) (.con (D.int 0))) (.cons (.ix (.loc 0) (.con (D.int 1))) (.cons (.ix (.loc 0) (.con (D.int 3))) .nil)))))) (.ifS (.or (.nt (.tst (.bi (.isin "list") (.cons (.loc 4) .nil)))) (.or (.cmp .NotEq (.loc 3) (.loc 0)) (.cmp .NotEq (.bi .len (.cons (.loc 4) .nil)) (.bi .len (.cons (.loc 5) .nil))))) (.ret (.con (D.bl false)) .nil) .nil (.forS [6] (.rng1 (.bi .len (.cons (.loc 5) .nil))) (.ifS (.or (.nt (.tst (.bi (.isin "tuple") (.cons (.ix (.loc 4) (.loc 6)) .nil)))) (.or (.cmp .NotEq (.bi .len (.cons (.ix (.loc 4) (.loc 6)) .nil)) (.con (D.int 3))) (.cmp .NotEq (.sl (.ix (.loc 4) (.loc 6)) false true (.con .non) (.con (D.int 2))) (.sl (.ix (.loc 5) (.loc 6)) false true (.con .non) (.con (D.int 2)))))) (.ret (.con (D.bl false)) .nil) .nil (.ifS (.nt (.tst (.call 10 0 (.cons (.ix (.ix (.loc 4) (.loc 6)) (.con (D.int 2))) (.cons (.ix (.ix (.loc 5) (.loc 6)) (.con (D.int 2))) .nil))))) (.ret (.con (D.bl false)) .nil) .nil .nil)) .nil))))) (.ret (.con (D.bl true)) .nil)),none⟩
noncomputable def c_law_last:Fn:=⟨5,7,(.asg 5 (.loc 4) (.forS [6] (.val (.loc 0)) (.ifS (.and (.cmp .Eq (.ix (.loc 6) (.con (D.int 0))) (.loc 1)) (.and (.cmp .Eq (.ix (.loc 6) (.con (D.int 1))) (.loc 2)) (.cmp .Eq (.ix (.loc 6) (.con (D.int 2))) (.loc 3)))) (.asg 5 (.ix (.loc 6) (.con (D.int 3))) .nil) .nil .nil) (.ret (.loc 5) .nil))),none⟩
noncomputable def c_law_same:Fn:=⟨2,2,(.ifS (.cmp .Is (.loc 1) (.con D.non)) (.ret (.cmp .Is (.loc 0) (.con D.non)) .nil) .nil (.ret (.and (.bi (.isin "int") (.cons (.loc 0) .nil)) (.and (.nt (.bi (.isin "bool") (.cons (.loc 0) .nil))) (.cmp .Eq (.loc 0) (.loc 1)))) .nil)),none⟩
noncomputable def c_law_roads:Fn:=⟨1,9,(.asg 1 (.mkL (.val (.loc 0))) (.asg 2 (.call 0 0 (.cons (.loc 1) .nil)) (.ifS (.cmp .NotEq (.loc 1) (.loc 0)) (.ret (.con (D.bl false)) .nil) .nil (.expr (.clr (.loc 1)) (.forS [3,4,5,6] (.val (.loc 0)) (.forS [7] (.rng1 (.con (D.int 2))) (.asg 8 (.bin .Add (.loc 3) (.loc 7)) (.ifS (.nt (.tst (.call 10 0 (.cons (.callV (.loc 2) (.cons (.loc 8) (.cons (.loc 4) (.cons (.loc 5) (.cons (.bin .Add (.bin .Pow (.con (D.int 10)) (.con (D.int 59))) (.loc 8)) .nil))))) (.cons (.call 9 0 (.cons (.loc 0) (.cons (.loc 8) (.cons (.loc 4) (.cons (.loc 5) (.cons (.bin .Add (.bin .Pow (.con (D.int 10)) (.con (D.int 59))) (.loc 8)) .nil)))))) .nil))))) (.ret (.con (D.bl false)) .nil) .nil (.ifS (.nt (.tst (.call 10 0 (.cons (.callV (.loc 2) (.cons (.loc 8) (.cons (.loc 4) (.cons (.loc 5) (.cons (.con D.non) .nil))))) (.cons (.call 9 0 (.cons (.loc 0) (.cons (.loc 8) (.cons (.loc 4) (.cons (.loc 5) (.cons (.con D.non) .nil)))))) .nil))))) (.ret (.con (D.bl false)) .nil) .nil .nil))) .nil) (.ret (.con (D.bl true)) .nil)))))),none⟩
noncomputable def c_law_laid:Fn:=⟨3,5,(.asg 3 (.lst .nil) (.forS [4] (.val (.loc 0)) (.ifS (.and (.cmp .In (.ix (.ix (.loc 4) (.con (D.int 1))) (.neg (.con (D.int 1)))) (.loc 1)) (.cmp .Lt (.bi .len (.cons (.loc 3) .nil)) (.bi .len (.cons (.loc 2) .nil)))) (.expr (.mt .append (.loc 3) (.cons (.tup (.cons (.ix (.loc 4) (.con (D.int 0))) (.cons (.ix (.loc 4) (.con (D.int 1))) (.cons (.ix (.loc 4) (.con (D.int 2))) (.cons (.ix (.loc 2) (.bi .len (.cons (.loc 3) .nil))) .nil))))) .nil)) .nil) .nil .nil) (.ret (.loc 3) .nil))),none⟩
noncomputable def c_law_alike:Fn:=⟨2,3,(.ifS (.or (.nt (.tst (.bi (.isin "list") (.cons (.loc 0) .nil)))) (.cmp .NotEq (.bi .len (.cons (.loc 0) .nil)) (.bi .len (.cons (.loc 1) .nil)))) (.ret (.con (D.bl false)) .nil) .nil (.forS [2] (.rng1 (.bi .len (.cons (.loc 1) .nil))) (.ifS (.or (.nt (.tst (.bi (.isin "tuple") (.cons (.ix (.loc 0) (.loc 2)) .nil)))) (.or (.cmp .NotEq (.bi .len (.cons (.ix (.loc 0) (.loc 2)) .nil)) (.con (D.int 4))) (.nt (.tst (.bi (.isin "tuple") (.cons (.ix (.ix (.loc 0) (.loc 2)) (.con (D.int 1))) .nil)))))) (.ret (.con (D.bl false)) .nil) .nil (.ifS (.or (.cmp .NotEq (.sl (.ix (.loc 0) (.loc 2)) false true (.con .non) (.con (D.int 3))) (.sl (.ix (.loc 1) (.loc 2)) false true (.con .non) (.con (D.int 3)))) (.nt (.tst (.call 10 0 (.cons (.ix (.ix (.loc 0) (.loc 2)) (.con (D.int 3))) (.cons (.ix (.ix (.loc 1) (.loc 2)) (.con (D.int 3))) .nil)))))) (.ret (.con (D.bl false)) .nil) .nil .nil)) (.ret (.con (D.bl true)) .nil))),none⟩
noncomputable def c_law:Fn:=⟨1,7,(.asg 1 (.bin .Add (.con (D.int 2)) (.bin .Mod (.call 3 0 (.cons (.loc 0) (.cons (.con (D.int 0)) .nil))) (.con (D.int 6)))) (.asg 2 (.call 7 0 (.cons (.mkL (.comp 1 [] [0] (.val (.sl (.loc 0) true true (.con (D.int 4)) (.con (D.int 62)))) (.tst (.con (D.bl true))) (.bin .Mod (.loc 0) (.bin .Pow (.con (D.int 10)) (.con (D.int 64)))))) (.cons (.loc 1) .nil))) (.asg 3 (.mkL (.comp 1 [0] [0] (.rng1 (.loc 1)) (.cmp .Eq (.bin .Mod (.bin .FloorDiv (.call 3 0 (.cons (.loc 1) (.cons (.con (D.int 1)) .nil))) (.ix (.lst (.cons (.con (D.int 1)) (.cons (.con (D.int 3)) (.cons (.con (D.int 9)) (.cons (.con (D.int 27)) (.cons (.con (D.int 81)) (.cons (.con (D.int 243)) (.cons (.con (D.int 729)) .nil)))))))) (.loc 0))) (.con (D.int 3))) (.con (D.int 1))) (.loc 0))) (.ifS (.or (.nt (.tst (.call 11 0 (.cons (.loc 2) .nil)))) (.nt (.tst (.call 8 0 (.cons (.loc 2) (.cons (.loc 1) .nil)))))) (.ret (.con (D.bl false)) .nil) .nil (.asg 4 (.mkL (.comp 1 [] [0] (.val (.sl (.loc 0) true true (.con (D.int 4)) (.con (D.int 62)))) (.tst (.con (D.bl true))) (.call 4 0 (.cons (.bin .FloorDiv (.bin .Mod (.loc 0) (.bin .Pow (.con (D.int 10)) (.con (D.int 64)))) (.con (D.int 3))) .nil)))) (.asg 4 (.sl (.loc 4) false true (.con .non) (.bin .Mod (.call 3 0 (.cons (.loc 0) (.cons (.con (D.int 2)) .nil))) (.con (D.int 60)))) (.asg 5 (.lst (.cons (.mkL (.val (.loc 2))) (.cons (.mkL (.val (.loc 3))) (.cons (.mkL (.val (.loc 4))) .nil)))) (.asg 6 (.call 1 0 (.cons (.ix (.loc 5) (.con (D.int 0))) (.cons (.ix (.loc 5) (.con (D.int 1))) (.cons (.ix (.loc 5) (.con (D.int 2))) .nil)))) (.ifS (.or (.cmp .NotEq (.loc 5) (.lst (.cons (.loc 2) (.cons (.loc 3) (.cons (.loc 4) .nil))))) (.nt (.tst (.call 13 0 (.cons (.loc 6) (.cons (.call 12 0 (.cons (.loc 2) (.cons (.loc 3) (.cons (.loc 4) .nil)))) .nil)))))) (.ret (.con (D.bl false)) .nil) .nil (.expr (.mt .append (.loc 6) (.cons (.tup (.cons (.con (D.int 1)) (.cons (.tup (.cons (.con (D.int 0)) .nil)) (.cons (.con (D.int 1)) (.cons (.con (D.int 0)) .nil))))) .nil)) (.ret (.call 13 0 (.cons (.call 1 0 (.cons (.ix (.loc 5) (.con (D.int 0))) (.cons (.ix (.loc 5) (.con (D.int 1))) (.cons (.ix (.loc 5) (.con (D.int 2))) .nil)))) (.cons (.call 12 0 (.cons (.loc 2) (.cons (.loc 3) (.cons (.loc 4) .nil)))) .nil))) .nil))))))))))),none⟩
noncomputable def prog:List Fn:=[zjc,c_lies_of,c_heard,c_law_cell_at,c_law_word,c_law_order,c_law_turned,c_law_lines,c_law_heard,c_law_last,c_law_same,c_law_roads,c_law_laid,c_law_alike,c_law]
noncomputable def top (i:Nat):Stmt:=PySem.Challenge.pw_traitorround_k23_roads_of_lies.main.body.getD i (.Pass ⟨0,0,0,0⟩)
noncomputable abbrev zb2:Stmt:=top 1
noncomputable abbrev zaS:Stmt:=top 2
noncomputable abbrev za8:Stmt:=top 4
noncomputable abbrev zar:Stmt:=top 6
noncomputable abbrev zaK:Stmt:=top 7
noncomputable abbrev zaz:Stmt:=top 8
noncomputable abbrev zat:Stmt:=top 9
noncomputable abbrev zaA:Stmt:=top 10
noncomputable abbrev zaB:Stmt:=top 11
noncomputable abbrev zaM:Stmt:=top 12
noncomputable abbrev zaL:Stmt:=top 13
noncomputable abbrev zay:Stmt:=top 14
noncomputable abbrev zaN:Stmt:=top 15
noncomputable abbrev zaC:Stmt:=top 16
noncomputable abbrev zbp:Stmt:=top 17
noncomputable abbrev zgi:Stmt:=(zah zb2).getD 2 (.Pass ⟨0,0,0,0⟩)
theorem zmr:CloSt zgi:=⟨⟨_,_,_,_,_,_,_,_,_,_,rfl,rfl⟩,rfl,rfl,rfl,by decide +kernel,by decide +kernel,rfl,rfl,rfl,rfl,rfl,fun _ _ _ _ _ _ _ _ _=>rfl,⟨_,rfl⟩,rfl,rfl,fun _=>rfl,fun _ _ h=>zkA rfl h⟩
noncomputable instance mks:R.Mks:={ts:=[(16,"road.<locals>.word_on_arrival")],cl:=[],rs:=some zgi,ro:=zmr}
noncomputable def tab:Tab:=⟨["bool","int","isinstance","len","list","min","range","tuple","zip"],[],[("road",["lies"],0),("lies_of",["letters","liars","row"],0),("heard",["letters","place"],0),("_law_cell_at",["_law_script","_law_k"],0),("_law_word",["_law_cell"],0),("_law_order",["_law_number","_law_many"],0),("_law_turned",["_law_line","_law_number","_law_many"],0),("_law_lines",["_law_cells","_law_many"],0),("_law_heard",["_law_lines_here","_law_many"],0),("_law_last",["_law_lies","_law_turn","_law_path","_law_to","_law_word_here"],0),("_law_same",["_law_found","_law_due"],0),("_law_roads",["_law_lies"],0),("_law_laid",["_law_letters","_law_liars","_law_words"],0),("_law_alike",["_law_found","_law_due"],0),("law",["_law_script"],0)],[],[],[],[],[],[]⟩
theorem zjC:RoadSt zb2:=⟨⟨_,_,zgi,_,_,rfl,rfl,by decide +kernel⟩,⟨rfl,rfl,rfl,by decide +kernel,rfl,by decide +kernel,by decide +kernel⟩,rfl,rfl⟩
theorem zfA:FnScope ["letters","liars","row","lying"] ["letters","liars","row"] (zae zaS):=⟨rfl,rfl,rfl,by decide +kernel,rfl,by decide +kernel,by decide +kernel⟩
theorem zfR:chkS tab c_lies_of.body ["letters","liars","row","lying"] (zae zaS) (zah zaS)=true:=by decide +kernel
theorem zhH:FnScope ["letters","place"] ["letters","place"] (zae za8):=⟨rfl,rfl,rfl,by decide +kernel,rfl,by decide +kernel,by decide +kernel⟩
theorem ziy:chkS tab c_heard.body ["letters","place"] (zae za8) (zah za8)=true:=by decide +kernel
theorem zcM:FnScope ["_law_script","_law_k"] ["_law_script","_law_k"] (zae zar):=⟨rfl,rfl,rfl,by decide +kernel,rfl,by decide +kernel,by decide +kernel⟩
theorem zcQ:chkS tab c_law_cell_at.body ["_law_script","_law_k"] (zae zar) (zah zar)=true:=by decide +kernel
theorem zen:FnScope ["_law_cell"] ["_law_cell"] (zae zaK):=⟨rfl,rfl,rfl,by decide +kernel,rfl,by decide +kernel,by decide +kernel⟩
theorem zeL:chkS tab c_law_word.body ["_law_cell"] (zae zaK) (zah zaK)=true:=by decide +kernel
theorem zdB:FnScope ["_law_number","_law_many","_law_left","_law_found","_law_k","_law_at"] ["_law_number","_law_many"] (zae zaz):=⟨rfl,rfl,rfl,by decide +kernel,rfl,by decide +kernel,by decide +kernel⟩
theorem zd7:chkS tab c_law_order.body ["_law_number","_law_many","_law_left","_law_found","_law_k","_law_at"] (zae zaz) (zah zaz)=true:=by decide +kernel
theorem zda:FnScope ["_law_line","_law_number","_law_many","_law_turn","_law_path","_law_to","_law_word_here","_law_off","_law_at"] ["_law_line","_law_number","_law_many"] (zae zat):=⟨rfl,rfl,rfl,by decide +kernel,rfl,by decide +kernel,by decide +kernel⟩
theorem zdq:chkS tab c_law_turned.body ["_law_line","_law_number","_law_many","_law_turn","_law_path","_law_to","_law_word_here","_law_off","_law_at"] (zae zat) (zah zat)=true:=by decide +kernel
theorem zdC:FnScope ["_law_cells","_law_many","_law_found","_law_cell","_law_number","_law_order_here","_law_size","_law_line"] ["_law_cells","_law_many"] (zae zaA):=⟨rfl,rfl,rfl,by decide +kernel,rfl,by decide +kernel,by decide +kernel⟩
theorem zd8:chkS tab c_law_lines.body ["_law_cells","_law_many","_law_found","_law_cell","_law_number","_law_order_here","_law_size","_law_line"] (zae zaA) (zah zaA)=true:=by decide +kernel
theorem zdD:FnScope ["_law_lines_here","_law_many","_law_place","_law_handed","_law_found","_law_due","_law_k"] ["_law_lines_here","_law_many"] (zae zaB):=⟨rfl,rfl,rfl,by decide +kernel,rfl,by decide +kernel,by decide +kernel⟩
theorem zd9:chkS tab c_law_heard.body ["_law_lines_here","_law_many","_law_place","_law_handed","_law_found","_law_due","_law_k"] (zae zaB) (zah zaB)=true:=by decide +kernel
theorem zep:FnScope ["_law_lies","_law_turn","_law_path","_law_to","_law_word_here","_law_found","_law_lie"] ["_law_lies","_law_turn","_law_path","_law_to","_law_word_here"] (zae zaM):=⟨rfl,rfl,rfl,by decide +kernel,rfl,by decide +kernel,by decide +kernel⟩
theorem zeN:chkS tab c_law_last.body ["_law_lies","_law_turn","_law_path","_law_to","_law_word_here","_law_found","_law_lie"] (zae zaM) (zah zaM)=true:=by decide +kernel
theorem zeo:FnScope ["_law_found","_law_due"] ["_law_found","_law_due"] (zae zaL):=⟨rfl,rfl,rfl,by decide +kernel,rfl,by decide +kernel,by decide +kernel⟩
theorem zeM:chkS tab c_law_same.body ["_law_found","_law_due"] (zae zaL) (zah zaL)=true:=by decide +kernel
theorem zdA:FnScope ["_law_lies","_law_handed","_law_lie","_law_turn","_law_path","_law_to","_law_word_here","_law_later","_law_at"] ["_law_lies"] (zae zay):=⟨rfl,rfl,rfl,by decide +kernel,rfl,by decide +kernel,by decide +kernel⟩
theorem zd6:chkS tab c_law_roads.body ["_law_lies","_law_handed","_law_lie","_law_turn","_law_path","_law_to","_law_word_here","_law_later","_law_at"] (zae zay) (zah zay)=true:=by decide +kernel
theorem zeq:FnScope ["_law_letters","_law_liars","_law_words","_law_found","_law_letter"] ["_law_letters","_law_liars","_law_words"] (zae zaN):=⟨rfl,rfl,rfl,by decide +kernel,rfl,by decide +kernel,by decide +kernel⟩
theorem zeO:chkS tab c_law_laid.body ["_law_letters","_law_liars","_law_words","_law_found","_law_letter"] (zae zaN) (zah zaN)=true:=by decide +kernel
theorem zdE:FnScope ["_law_found","_law_due","_law_k"] ["_law_found","_law_due"] (zae zaC):=⟨rfl,rfl,rfl,by decide +kernel,rfl,by decide +kernel,by decide +kernel⟩
theorem zea:chkS tab c_law_alike.body ["_law_found","_law_due","_law_k"] (zae zaC) (zah zaC)=true:=by decide +kernel
theorem ziQ:FnScope ["_law_script","_law_many","_law_lines_here","_law_liars","_law_words","_law_handed","_law_found"] ["_law_script"] (zae zbp):=⟨rfl,rfl,rfl,by decide +kernel,rfl,by decide +kernel,by decide +kernel⟩
theorem zjb:chkS tab c_law.body ["_law_script","_law_many","_law_lines_here","_law_liars","_law_words","_law_handed","_law_found"] (zae zbp) (zah zbp)=true:=by decide +kernel
end
section
open R
theorem plen (S:R.St)(o:MO):(S.push o).len=S.len+1:=by simp[St.push,St.len];omega
theorem W_ex {α:Type}{o:Out α}{Q:α->R.St->Prop}(h:W o Q):∃a T,o=.ok a T/\Q a T:=W.iff.mp h
noncomputable abbrev pD (p:List Int):D:=.tup (p.map .int)
theorem enter_len (S:R.St):S.enter.len=S.len:=by simp[St.enter,St.len]
theorem zaO {cf:CF}{i:Nat}{e:CE}{r:CS}{δ:Ev}{S S':R.St}{d:D}{Q:Fl->R.St->Prop}(h:evE cf e δ S=.ok d S')(w:W (exS cf r (δ.set i (some d)) S') Q):W (exS cf (.asg i e r) δ S) Q:=by rw[exS,h,zaR];exact w
theorem ze7 {cf:CF}{δ:Ev}{S:R.St}{Q:Fl->R.St->Prop}(h:Q (.nx δ) S):W (exS cf .nil δ S) Q:=by rw[exS];exact h
theorem zkk {cf:CF}{c:CE}{u r:CS}{δ:Ev}{S S1:R.St}{Q:Fl->R.St->Prop}(e:evT cf c δ S=.ok false S1)(w:W (exS cf r δ S1) Q):W (exS cf (.ifS c u .nil r) δ S) Q:=by
 rw[exS,e,zaR]
 simp only[exS,Bool.false_eq_true,if_false,zaR]
 exact w
theorem zfj {cf:CF}{g:List Nat}{l:CL}{b r:CS}{δ:Ev}{S S1:R.St}{xs:List D}{ls:List Nat}{Q:Fl->R.St->Prop}(h:evL cf l δ S=.ok (xs,ls) S1)
  (w:W (zbb g (exS cf b) xs δ {S1 with lk:=ls++S1.lk}) fun f T=>match f with|.nx δ'=>W (exS cf r δ' {T with lk:=S1.lk}) Q|.rt d=>Q (.rt d) {T with lk:=S1.lk}):W (exS cf (.forS g l b r) δ S) Q:=by
 rw[exS,h,zaR]
 unfold za1
 dsimp only
 rw[zac,zac]
 refine w.mono fun f T hf=>?_
 rw[W_ok]
 cases f with
 |nx δ'=>exact hf
 |rt d=>exact hf
theorem zf8 {n:Nat}{S:R.St}{ns:List Int}{k:Nat}:app (callF prog (n+1)) 3 [.fix (ns.map .int),.int k] S=.ok (.int (cellZ ns k)) S:=by
 refine zbI (F:=c_law_cell_at) rfl rfl ?_
 conv=>whnf
 refine zcL (fun c=>?_) (fun c=>?_)
 · have c:k<ns.length:=by simpa using c
   conv=>whnf
   refine zab (zcJ (x:=D.int ns[k]) (by simp[c])) ?_
   conv=>whnf
   refine zaa (by decide) ?_
   conv=>whnf
   refine zaa (by decide) ?_
   conv=>whnf
   refine zaw rfl ⟨?_,rfl⟩
   unfold cellZ
   rw[List.getElem?_eq_getElem c]
   rfl
 · have c:¬k<ns.length:=by simpa using c
   conv=>whnf
   refine zaw rfl ⟨?_,rfl⟩
   unfold cellZ
   rw[List.getElem?_eq_none (by omega)]
noncomputable abbrev Ly:=K3 × Option Int
noncomputable def kD (k:K3):D:=.tup [.int k.1,pD k.2.1,.int k.2.2]
noncomputable def lD (l:Ly):D:=.tup [.int l.1.1,pD l.1.2.1,.int l.1.2.2,oD l.2]
theorem zg5 (N:Nat)(p:List Int):flat N (pD p)=true:=by simp[zaP]
theorem zeF (N:Nat)(o:Option Int):flat N (oD o)=true:=by cases o<;>rfl
theorem zko (N:Nat)(l:Ly):flat N (lD l)=true:=by
 unfold lD
 rw[zfk,zaP]
 intro d hd
 simp only[List.mem_cons,List.not_mem_nil,or_false] at hd
 rcases hd with rfl|rfl|rfl|rfl
 · rfl
 · exact zg5 _ _
 · rfl
 · exact zeF _ _
theorem zdm (N:Nat)(ls:List Ly):flats N (ls.map lD)=true:=by
 rw[zaP]
 intro d hd
 obtain⟨l,_,rfl⟩:=List.mem_map.mp hd
 exact zko _ _
theorem zgC (l:Ly):lie4 (lD l)=some l:=by
 obtain⟨⟨a,p,b⟩,w⟩:=l
 unfold lD lie4
 dsimp only
 rw[zbN]
 cases w<;>rfl
theorem zgB:∀ls:List Ly,(ls.map lD).mapM lie4=some ls
 | []=>rfl
 |l::ls=>by rw[List.map_cons,List.mapM_cons,zgC,zgB ls];rfl
noncomputable def atK (kvs:List Ly)(k:K3):Option (Option Int):=(kvs.find? fun kv=>decide (kv.1=k)).map (·.2)
theorem zkH (kvs:List Ly)(k j:K3)(o:Option Int):atK (putW kvs k o) j=if j=k then some o else atK kvs j:=by
 unfold putW
 by_cases hk:k∈kvs.map (·.1)
 · rw[if_pos hk]
   induction kvs with
   |nil=>simp at hk
   | cons x kvs ih =>
     obtain⟨y,v⟩:=x
     unfold atK at ih⊢
     rw[List.map_cons]
     by_cases hy:y=k
     · subst hy
       by_cases hj:j=y
       · subst hj;simp
       · have hj':¬y=j:=fun e=>hj e.symm
         rw[if_neg hj]
         simp only[if_true,List.find?_cons,hj',decide_false]
         by_cases hm:y∈kvs.map (·.1)
         · have:=ih hm
           rw[if_neg hj] at this
           exact this
         · have e:(kvs.map fun x=>if x.1=y then (x.1,o) else x)=kvs:=by
            refine (List.map_congr_left fun x hx=>?_).trans (List.map_id kvs)
            rw[if_neg fun e=>hm (List.mem_map.mpr ⟨x,hx,e⟩)];rfl
           rw[e]
     · have hm:k∈kvs.map (·.1):=by
        rw[List.map_cons] at hk
        rcases List.mem_cons.mp hk with e|e
        · exact absurd e.symm hy
        · exact e
       have:=ih hm
       rw[if_neg hy]
       by_cases hj:y=j
       · subst hj
         rw[if_neg hy];simp
       · simp only[List.find?_cons,hj,decide_false]
         exact this
 · rw[if_neg hk]
   unfold atK
   rw[List.find?_append]
   by_cases hj:j=k
   · subst hj
     have:(kvs.find? fun kv=>decide (kv.1=j))=none:=by
      rw[List.find?_eq_none]
      intro x hx e
      exact hk (List.mem_map.mpr ⟨x,hx,by simpa using e⟩)
     rw[this];simp
   · have hj':¬k=j:=fun e=>hj e.symm
     rw[if_neg hj]
     simp[hj']
noncomputable def zcz (k:K3):Option Int->List Ly->Option Int
 |w,[]=>w
 |w,l::ls=>zcz k (if l.1=k then l.2 else w) ls
theorem zfv (k:K3)(w:Option Int):∀(ls kvs:List Ly),(atK (zan kvs ls) k).getD w=zcz k ((atK kvs k).getD w) ls
 | [],kvs=>rfl
 | l :: ls, kvs => by
   rw[zan,zcz,zfv k w ls,zkH]
   by_cases h:k=l.1
   · rw[if_pos h,if_pos h.symm];rfl
   · rw[if_neg h,if_neg fun e=>h e.symm]
theorem zhi (ls:List Ly)(t:Int)(p:List Int)(b:Int)(w:Option Int):zbY (.clo (zan [] ls)) [.int t,pD p,.int b,oD w]=some (oD (zcz (t,p,b) w ls)):=by
 have:=zfv (t,p,b) w ls []
 unfold zbY
 dsimp only
 rw[zbN,Option.map_some]
 congr 1
 rw[show (atK [] (t,p,b)).getD w=w from rfl] at this
 rw[<-this]
 unfold atK
 cases (zan [] ls).find? fun kv=>decide (kv.1=(t,p,b)) with
 |none=>rfl
 |some kv=>cases h:kv.2<;>simp[h,wD,oD]
theorem zlm {n a:Nat}{S:R.St}{ls:List Ly}(h:S.get a=some (.lst (ls.map lD)))(hl:ls.length<=1000):app (callF prog (n+4)) 0 [.ref a] S=.ok (.clo (zan [] ls)) S:=by
 have e:callF prog (n+4) 0 [.ref a] S.enter=.ok (.clo (zan [] ls)) S.enter:=by
  show (if 3<=n+3 then prm S.enter .road [.ref a] else .bad)=_
  rw[if_pos (by omega)]
  unfold prm
  dsimp only
  have:(za7 S.enter (.ref a)).bind (fun ds=>ds.mapM lie4)=some ls:=by
   unfold za7
   dsimp only
   rw[zap,h]
   exact zgB ls
  rw[this]
  dsimp only
  rw[if_pos ⟨hl,rfl⟩]
 unfold app
 rw[e,zaR]
 unfold zb3
 rw[if_pos (by simp[flat])]
theorem zeX {n:Nat}{S:R.St}{o:Option Int}:app (callF prog (n+1)) 10 [oD o,oD o] S=.ok (.bl true) S:=by
 refine zbI (F:=c_law_same) rfl rfl ?_
 cases o with
 | none =>
   conv=>whnf
   exact zaw rfl ⟨rfl,rfl⟩
 | some i =>
   conv=>whnf
   refine zab ((show tyOf S.enter (.int i)=some "int" from rfl)) ?_
   conv=>whnf
   refine zab ((show tyOf S.enter (.int i)=some "int" from rfl)) ?_
   conv=>whnf
   exact zaw rfl ⟨by simp,rfl⟩
noncomputable def zcf (c:Int):Option Int:=if c % 5=0 then none else if c % 5=1 then some (c / 5 % (2 * 10 ^ 60 - 1) - (10 ^ 60 - 1)) else some (c / 5 % 7 - 3)
theorem ziS {n:Nat}{S:R.St}{c:Int}:app (callF prog (n+1)) 4 [.int c] S=.ok (oD (zcf c)) S:=by
 refine zbI (F:=c_law_word) rfl rfl ?_
 conv=>whnf
 refine zaa (by first|decide|omega|(simp;done)|(simp;omega)) ?_
 conv=>whnf
 refine zcL (fun c1=>?_) (fun c1=>?_)
 · conv=>whnf
   refine zaw rfl ⟨?_,rfl⟩
   unfold zcf;rw[if_pos c1];rfl
 · conv=>whnf
   refine zaa (by first|decide|omega|(simp;done)|(simp;omega)) ?_
   conv=>whnf
   refine zcL (fun c2=>?_) (fun c2=>?_)
   · conv=>whnf
     refine zaa (by first|decide|omega|(simp;done)|(simp;omega)) ?_
     conv=>whnf
     refine zaa (by first|decide|omega|(simp;done)|(simp;omega)) ?_
     conv=>whnf
     refine zaa (by decide) ?_
     conv=>whnf
     refine zaa (by first|decide|omega|(simp;done)|(simp;omega)) ?_
     conv=>whnf
     refine zaa (by first|decide|omega|(simp;done)|(simp;omega)) ?_
     conv=>whnf
     refine zaw rfl ⟨?_,rfl⟩
     unfold zcf;rw[if_neg c1,if_pos c2];rfl
   · conv=>whnf
     refine zaa (by first|decide|omega|(simp;done)|(simp;omega)) ?_
     conv=>whnf
     refine zaa (by first|decide|omega|(simp;done)|(simp;omega)) ?_
     conv=>whnf
     refine zaw rfl ⟨?_,rfl⟩
     unfold zcf;rw[if_neg c1,if_neg c2];rfl
theorem zdo {α:Type}(xs:List α)(k:Nat):cut xs none (some (k:Int))=xs.take k:=by
 unfold cut
 have h1:sIx xs.length xs.length (some (k:Int))=min k xs.length:=by
  unfold sIx
  dsimp only
  rw[if_neg (by omega)]
  simp
 have h0:sIx xs.length 0 none=0:=rfl
 rw[h1,h0,List.drop_zero,Nat.sub_zero]
 by_cases c:k<=xs.length
 · rw[Nat.min_eq_left c]
 · rw[Nat.min_eq_right (by omega),List.take_of_length_le (Nat.le_refl _),List.take_of_length_le (by omega)]
theorem ziv {α:Type}(xs:List α)(k:Nat):cut xs (some (k:Int)) none=xs.drop k:=by
 unfold cut
 have h1:sIx xs.length 0 (some (k:Int))=min k xs.length:=by
  unfold sIx
  dsimp only
  rw[if_neg (by omega)]
  simp
 have h0:sIx xs.length xs.length none=xs.length:=rfl
 rw[h1,h0,List.take_of_length_le (by simp)]
 by_cases c:k<=xs.length
 · rw[Nat.min_eq_left c]
 · rw[Nat.min_eq_right (by omega),List.drop_eq_nil_of_le (Nat.le_refl _),List.drop_eq_nil_of_le (by omega)]
theorem zbX {α:Type}(xs:List α){k:Int}(h:0<=k):cut xs none (some k)=xs.take k.toNat:=by
 have:=zdo xs k.toNat
 rw[show ((k.toNat:Nat):Int)=k by omega] at this
 exact this
theorem zd4 {α:Type}(xs:List α){k:Int}(h:0<=k):cut xs (some k) none=xs.drop k.toNat:=by
 have:=ziv xs k.toNat
 rw[show ((k.toNat:Nat):Int)=k by omega] at this
 exact this
theorem atZ {α:Type}{xs:List α}{i:Int}(h0:0<=i)(h1:i<xs.length):atI xs i=some (xs[i.toNat]'(by omega)):=by
 have:=zcJ (xs:=xs) (k:=i.toNat) (x:=xs[i.toNat]'(by omega)) (by rw[List.getElem?_eq_getElem])
 rw[show ((i.toNat:Nat):Int)=i by omega] at this
 exact this
@[irreducible] noncomputable def EO (F:List MO)(m n:Int)(l:Nat)(v4 v5:Option D):Ev:=[some (.int m),some (.int n),some (.ref l),some (.ref (F.length+1)),v4,v5]
theorem zjz {f n:Nat}{S:R.St}{m:Int}(hn:n<=7):∃os:List Int,os.length=n/\app (callF prog (f+1)) 5 [.int m,.int n] S=.ok (.ref S.len) (S.push (.lst (os.map .int))):=by
 have key:W (app (callF prog (f+1)) 5 [.int m,.int n] S) fun d T=>d=.ref S.len/\∃os:List Int,os.length=n/\T=S.push (.lst (os.map .int)):=by
  refine ziE (F:=c_law_order) rfl rfl ?_
  have hF:(S.frz++S.new).length=S.len:=zcw S
  conv=>whnf
  refine zaa (by omega) ?_
  conv=>whnf
  refine zaa (by simp;omega) ?_
  conv=>whnf
  refine zaa (by first|decide|omega|(simp;done)|(simp;omega)) ?_
  conv=>whnf
  refine zaa (by omega) ?_
  conv=>whnf
  refine zaE ?_
  obtain⟨F,hFd⟩:∃F,F=S.frz++S.new:=⟨_,rfl⟩
  rw[<-hFd] at hF
  refine W.mono (zax (fun i δ T=>∃(m:Int) (ls os:List Int) (l:Nat) (v4 v5:Option D),δ=EO F m n l v4 v5/\T.frz=F/\T.lk=[]/\T.get l=some (.lst (ls.map .int))/\T.get (F.length+1)=some (.lst (os.map .int))/\os.length=i/\ls.length+i=n/\l≠F.length+1) (fun _ _=>False) _ 0 _ _ ?_ ?_) ?_
  · refine⟨m,(List.range n).map fun (k:Nat)=>(k:Int),[],F.length+0,none,none,?_,hFd.symm,rfl,?_,?_,rfl,by simp,by omega⟩
    · unfold EO;rw[hFd];rfl
    · rw[List.map_map,hFd];exact zdl _ _ _ 0
    · rw[hFd];exact zdl _ _ _ 1
  · rintro i x δ T hx ⟨m,ls,os,l,v4,v5,rfl,hfz,hlk,gl,gf,ho,hls,hne⟩
    rw[Nat.zero_add] at ho hls
    rw[List.getElem?_map] at hx
    cases hr:(List.range (n:Int).toNat)[i]? with
    |none=>rw[hr] at hx;cases hx
    |some k=>
    rw[hr] at hx
    cases hx
    have hi:i<n:=by have:=(List.getElem?_eq_some_iff.mp hr).1;simpa using this
    refine⟨EO F m n l (some (.int k)) v5,by unfold EO;rfl,?_⟩
    have hp:0<ls.length:=by omega
    have hpz:(0:Int)<(ls.length:Int):=by omega
    have a0:=Int.emod_nonneg m (show (ls.length:Int)≠0 by omega)
    have a1:=Int.emod_lt_of_pos m hpz
    have hlen:((ls.map D.int).length:Int)=(ls.length:Int):=by simp
    obtain⟨U,u1,u2,u3,u4,u5,u6⟩:=zbS (S:=T) (l:=F.length+1) (.lst ((os++[ls[(m % ls.length).toNat]'(by omega)]).map .int)) (by rw[hfz];omega) (by rw[hlk];rfl)
    have gl':U.get l=some (.lst (ls.map .int)):=(u5 l hne).trans gl
    have k1:cut (ls.map D.int) none (some (m % ls.length))=(ls.take (m % ls.length).toNat).map D.int:=by rw[zbu,zbX _ a0]
    have k2:cut (ls.map D.int) (some (m % ls.length+1)) none=(ls.drop ((m % ls.length).toNat+1)).map D.int:=by
     rw[zbu,zd4 _ (by omega)]
     congr 2
     omega
    have u1':T.put (F.length+1) (.lst (os.map D.int++[(ls.map D.int)[(m % ls.length).toNat]'(by simp;omega)]))=some U:=by rw[<-u1];simp
    refine wS_W _ ?_
    unfold EO
    conv=>whnf
    refine zab (gl) ?_
    conv=>whnf
    refine zaa (by simp;omega) ?_
    conv=>whnf
    rw[hlen]
    refine zaa (by first|decide|omega|(simp;done)|(simp;omega)) ?_
    conv=>whnf
    refine zab (gf) ?_
    conv=>whnf
    refine zab (gl) ?_
    conv=>whnf
    refine zab (atZ (xs:=ls.map D.int) a0 (by simpa using a1)) ?_
    conv=>whnf
    refine zab (gf) ?_
    conv=>whnf
    refine zaa (by simp;omega) ?_
    conv=>whnf
    refine zab (u1') ?_
    conv=>whnf
    refine zab (gl') ?_
    conv=>whnf
    rw[k1]
    refine zaa (by simp;omega) ?_
    conv=>whnf
    refine zab (zad gl') ?_
    conv=>whnf
    rw[k2]
    refine zaa (by simp;omega) ?_
    conv=>whnf
    refine zab (zad (zal _ _)) ?_
    conv=>whnf
    refine zab (zal _ _) ?_
    conv=>whnf
    refine zaa (by simp;omega) ?_
    conv=>whnf
    refine⟨m / 7,ls.take (m % ls.length).toNat++ls.drop ((m % ls.length).toNat+1),os++[ls[(m % ls.length).toNat]'(by omega)],_,some (.int k),some (.int (m % ls.length)),rfl,u2.trans hfz,u3.trans hlk,?_,zad (zad (zad (u6 (zaD gf)))),by simp;omega,by simp;omega,?_⟩
    · rw[List.map_append];exact zal _ _
    · have:=zaD (show U.get (F.length+1)=_ from u6 (zaD gf));rw[plen,plen];omega
  · intro r T h
    cases r with
    |rt d=>exact h.elim
    | nx δ =>
      obtain⟨m,ls,os,l,v4,v5,rfl,hfz,hlk,gl,gf,ho,hls,hne⟩:=h
      unfold EO
      conv=>whnf
      refine zbQ (by omega) gf (by simp[zaP]) ⟨rfl,os,by simpa using ho,rfl⟩
 obtain⟨d,T,e,rfl,os,ho,rfl⟩:=W_ex key
 exact⟨os,ho,e⟩
open PySem (PyData) in
theorem zi8 {S:R.St}{a b:Nat}{ds:List D}{xs:List PyData}(h1:S.get a=some (.lst ds))(h2:S.get b=some (.lst []))(e:ds.mapM (pd S 59)=some xs):cmpO S .Eq (.ref a) (.ref b)=some (decide (ds=[])):=by
 show zcc S _ _=_
 rw[zcG h1]
 unfold eqD
 rw[zbi h1 e,zbi (n:=59) h2 rfl,Option.bind_some,Option.map_some,PyData.eqv]
 congr 1
 cases ds with
 | nil =>
   have:xs=[]:=by simpa using e.symm
   subst this;simp[PyData.eqvAll]
 | cons d ds =>
   cases xs with
   | nil =>
     rw[List.mapM_cons] at e
     cases h3:pd S 59 d with
     |none=>rw[h3] at e;cases e
     | some y =>
       cases h4:ds.mapM (pd S 59) with
       |none=>rw[h3,h4] at e;cases e
       |some ys=>rw[h3,h4] at e;cases e
   |cons x xs=>simp[PyData.eqvAll]
open PySem (PyData) in
theorem zi3 {S:R.St}{a b:Nat}{ds:List D}{xs:List PyData}(h1:S.get a=some (.lst ds))(h2:S.get b=some (.lst []))(e:ds.mapM (pd S 59)=some xs):cmpO S .NotEq (.ref a) (.ref b)=some (!decide (ds=[])):=by
 have:=zi8 h1 h2 e
 show (zcc S _ _).map _=_
 rw[show zcc S (.ref a) (.ref b)=some (decide (ds=[])) from this];rfl
theorem zdc (S:R.St)(n:Nat):∀p:List Int,(p.map D.int).mapM (pd S n)=some (p.map PySem.PyData.int)
 | []=>rfl
 | a :: p => by
   rw[List.map_cons,List.mapM_cons,zdc S n p]
   cases n<;>rfl
theorem zgo (S:R.St)(n:Nat)(p:List Int):pd S (n+1) (pD p)=some (.tuple (p.map .int)):=by
 unfold pd
 rw[zdc];rfl
noncomputable def lP (l:Ly):PySem.PyData:=.tuple [.int l.1.1,.tuple (l.1.2.1.map .int),.int l.1.2.2,oP l.2]
theorem pd_o (S:R.St)(n:Nat)(o:Option Int):pd S n (oD o)=some (oP o):=by cases o<;>cases n<;>rfl
theorem zne (S:R.St)(n:Nat)(l:Ly):pd S (n+2) (lD l)=some (lP l):=by
 unfold lD pd
 rw[List.mapM_cons,List.mapM_cons,List.mapM_cons,List.mapM_cons,zgo,pd_o]
 rfl
theorem zdO (S:R.St)(n:Nat):∀ls:List Ly,(ls.map lD).mapM (pd S (n+2))=some (ls.map lP)
 | []=>rfl
 |l::ls=>by rw[List.map_cons,List.mapM_cons,zne,zdO S n ls];rfl
noncomputable def offZ (n:Nat)(p:List Int)(b:Int):List Int:=(hnds n).filter fun x=>!decide (x∈p)&&!decide (x=b)
theorem ze1 (n:Nat):((List.range (n:Int).toNat).map fun (k:Nat)=>D.int k)=(hnds n).map D.int:=by
 unfold hnds
 rw[List.map_map]
 rfl
theorem znJ {cf:CF}{T:R.St}{n:Nat}{p:List Int}{b:Int}(v:Option D):zaG [0] (evT cf (.and (.cmp .NotIn (.loc 0) (.loc 1)) (.cmp .NotEq (.loc 0) (.loc 2)))) (evE cf (.loc 0)) ((hnds n).map D.int) [v,some (pD p),some (.int b)] T=.ok ((offZ n p b).map D.int) T:=by
 have h:=za5 (c:=evT cf (.and (.cmp .NotIn (.loc 0) (.loc 1)) (.cmp .NotEq (.loc 0) (.loc 2)))) (e:=evE cf (.loc 0)) (S:=T) (rest:=[some (pD p),some (.int b)]) (fun d=>match d with|.int x=>!decide (x∈p)&&!decide (x=b)|_=>false) id ((hnds n).map D.int) v (fun x hx=>?_) (fun x hx _=>rfl)
 · rw[h,List.map_id]
   unfold offZ
   rw[List.filter_map]
   rfl
 · obtain⟨i,_,rfl⟩:=List.mem_map.mp hx
   refine W.eq (wT_W _ ?_)
   conv=>whnf
   refine zab (zgs T i p) ?_
   conv=>whnf
   refine zek (fun c=>?_) (fun c=>?_)
   · conv=>whnf
     exact⟨by show _=(!decide (i∈p)&&!decide (i=b));rw[c];simp,rfl⟩
   · exact⟨by show _=(!decide (i∈p)&&!decide (i=b));rw[c];simp,rfl⟩
theorem zj5 {n:Nat}(p:List Int)(b:Int):(offZ n p b).length<=n:=by
 unfold offZ
 exact Nat.le_trans (List.length_filter_le _ _) (by simp[hnds])
theorem zhI {f n:Nat}{S:R.St}{m:Int}{l:Ly}(hn:n<=7)(hp:1<=l.1.2.1.length)(hp7:l.1.2.1.length<=7):∃k:K3,k.2.1.length=l.1.2.1.length/\app (callF prog (f+1)) 6 [lD l,.int m,.int n] S=.ok (kD k) S:=by
 obtain⟨⟨t,p,b⟩,w⟩:=l
 dsimp only at hp hp7
 have key:W (app (callF prog (f+1)) 6 [lD ((t,p,b),w),.int m,.int n] S) fun d T=>T=S/\∃k:K3,k.2.1.length=p.length/\d=kD k:=by
  refine ziE (F:=c_law_turned) rfl rfl ?_
  have fin:∀(T:R.St) (k:K3),k.2.1.length=p.length->wFin S (.rt (kD k)) T fun d T=>T=S/\∃k:K3,k.2.1.length=p.length/\d=kD k:=fun T k hk=>zaw (by simp[kD,zaP]) ⟨rfl,k,hk,rfl⟩
  have hpz:(0:Int)<(p.length:Int):=by omega
  have hlen:((p.map D.int).length:Int)=(p.length:Int):=by simp
  have a0:=Int.emod_nonneg m (show (p.length:Int)≠0 by omega)
  have a1:=Int.emod_lt_of_pos m hpz
  have g7:∀nw:List MO,(St.mk (S.frz++S.new) (.lst ((offZ n p b).map D.int)::nw) []).get ((S.frz++S.new).length+0)=some (.lst ((offZ n p b).map D.int)):=fun nw=>zdl _ _ _ 0
  have ho:=zj5 (n:=n) p b
  conv=>whnf
  refine zab (rfl) ?_
  conv=>whnf
  conv=>whnf
  refine zaa (by omega) ?_
  conv=>whnf
  refine zaE ?_
  refine W.of (by rw[ze1];exact znJ none) ?_
  refine zaa (by simp;omega) ?_
  conv=>whnf
  refine zaa (by simp;omega) ?_
  conv=>whnf
  refine zaa (by simp;omega) ?_
  conv=>whnf
  rw[hlen]
  refine zaa (by first|decide|omega|(simp;done)|(simp;omega)) ?_
  conv=>whnf
  refine zaa (by first|decide|omega|(simp;done)|(simp;omega)) ?_
  conv=>whnf
  have g1:(S.enter.push (.lst ((offZ n p b).map D.int))).get S.enter.len=some (.lst ((offZ n p b).map D.int)):=zal _ _
  have one:∀T:R.St,wFin S (.rt (.tup [.int (1+(t+m / 12) % 29),pD p,.int b])) T fun d T=>T=S/\∃k:K3,k.2.1.length=p.length/\d=kD k:=fun T=>fin T (1+(t+m / 12) % 29,p,b) rfl
  refine zcL (fun c1=>?_) (fun c1=>?_)
  · conv=>whnf
    refine zaa (by first|decide|omega|(simp;done)|(simp;omega)) ?_
    conv=>whnf
    refine zaa (by first|decide|omega|(simp;done)|(simp;omega)) ?_
    conv=>whnf
    refine zaa (by simp) ?_
    conv=>whnf
    exact one _
  · conv=>whnf
    refine zaa (by first|decide|omega|(simp;done)|(simp;omega)) ?_
    conv=>whnf
    refine zab ((zi8 (zad g1) (zal _ _) (zdc _ _ _))) ?_
    conv=>whnf
    refine zek (fun c2=>?_) (fun c2=>?_)
    · conv=>whnf
      refine zaa (by first|decide|omega|(simp;done)|(simp;omega)) ?_
      conv=>whnf
      refine zaa (by first|decide|omega|(simp;done)|(simp;omega)) ?_
      conv=>whnf
      refine zaa (by simp) ?_
      conv=>whnf
      exact one _
    · have hne:offZ n p b≠[]:=by simpa using c2
      have g2:((S.enter.push (.lst ((offZ n p b).map D.int))).push (.lst [])).get S.enter.len=some (.lst ((offZ n p b).map D.int)):=zad g1
      have hol:((offZ n p b).length:Int)≠0:=by have:=List.length_pos_iff.mpr hne;omega
      have hop:(0:Int)<((offZ n p b).length:Int):=by omega
      have hlo:(((offZ n p b).map D.int).length:Int)=((offZ n p b).length:Int):=by simp
      have b0:=Int.emod_nonneg (m / 12) hol
      have b1:=Int.emod_lt_of_pos (m / 12) hop
      conv=>whnf
      refine zaa (by first|decide|omega|(simp;done)|(simp;omega)) ?_
      conv=>whnf
      refine zaa (by first|decide|omega|(simp;done)|(simp;omega)) ?_
      conv=>whnf
      refine zcL (fun c3=>?_) (fun c3=>?_)
      · conv=>whnf
        refine zaa (by first|decide|omega|(simp;done)|(simp;omega)) ?_
        conv=>whnf
        refine zab (g2) ?_
        conv=>whnf
        rw[hlo]
        refine zaa (by omega) ?_
        conv=>whnf
        refine zab (g2) ?_
        conv=>whnf
        refine zab (atZ (xs:=(offZ n p b).map D.int) b0 (by rw[hlo];exact b1)) ?_
        conv=>whnf
        refine zaa (by simp) ?_
        conv=>whnf
        rw[List.getElem_map]
        exact fin _ (t,p,(offZ n p b)[(m / 12 % ((offZ n p b).length:Int)).toNat]'(by omega)) rfl
      · conv=>whnf
        refine zaa (by first|decide|omega|(simp;done)|(simp;omega)) ?_
        conv=>whnf
        refine zab (g2) ?_
        conv=>whnf
        rw[hlo]
        refine zaa (by omega) ?_
        conv=>whnf
        refine zab (g2) ?_
        conv=>whnf
        refine zab (atZ (xs:=(offZ n p b).map D.int) b0 (by rw[hlo];exact b1)) ?_
        conv=>whnf
        refine zaa (by simp) ?_
        conv=>whnf
        have k1:cut (p.map D.int) none (some (m % p.length))=(p.take (m % p.length).toNat).map D.int:=by rw[zbu,zbX _ a0]
        have k2:cut (p.map D.int) (some (m % p.length+1)) none=(p.drop ((m % p.length).toNat+1)).map D.int:=by
         rw[zbu,zd4 _ (by omega)]
         congr 2
         omega
        rw[k1]
        refine zaa (by simp;omega) ?_
        conv=>whnf
        rw[k2]
        refine zaa (by simp;omega) ?_
        conv=>whnf
        refine zaa (by simp) ?_
        conv=>whnf
        rw[List.getElem_map]
        refine zaw ?_ ⟨rfl,(t,p.take (m % p.length).toNat++[(offZ n p b)[(m / 12 % ((offZ n p b).length:Int)).toNat]'(by omega)]++p.drop ((m % p.length).toNat+1),b),by simp;omega,?_⟩
        · simp[zaP]
          have all:∀d∈p.map D.int,flat S.len d=true:=fun d hd=>by obtain⟨x,_,rfl⟩:=List.mem_map.mp hd;rfl
          exact⟨fun d hd=>all d (List.mem_of_mem_take hd),fun d hd=>all d (List.mem_of_mem_drop hd)⟩
        · unfold kD pD
          simp only[List.map_append,List.map_cons,List.map_nil]
 obtain⟨d,T,e,rfl,k,hk,rfl⟩:=W_ex key
 exact⟨k,hk,e⟩
structure LOk (l:Ly):Prop where
 lo:1<=l.1.2.1.length
 hi:l.1.2.1.length<=7
@[irreducible] noncomputable def EL (c n a:D)(v3 v4 v5 v6 v7:Option D):Ev:=[some c,some n,some a,v3,v4,v5,v6,v7]
noncomputable def bLin:CS:=(.ifS (.and (.cmp .Eq (.bin .Mod (.loc 4) (.con (D.int 4))) (.con (D.int 1))) (.cmp .NotEq (.loc 2) (.lst .nil))) (.asg 7 (.sl (.ix (.loc 2) (.bin .Mod (.bin .FloorDiv (.loc 4) (.con (D.int 64))) (.bi .len (.cons (.loc 2) .nil)))) false true (.con .non) (.con (D.int 3))) .nil) .nil (.ifS (.and (.cmp .Gt (.bin .Mod (.loc 4) (.con (D.int 4))) (.con (D.int 1))) (.cmp .NotEq (.loc 2) (.lst .nil))) (.asg 7 (.call 6 0 (.cons (.ix (.loc 2) (.bin .Mod (.bin .FloorDiv (.loc 4) (.con (D.int 64))) (.bi .len (.cons (.loc 2) .nil)))) (.cons (.bin .FloorDiv (.loc 4) (.con (D.int 4096))) (.cons (.loc 1) .nil)))) .nil) .nil (.expr (.mt .append (.loc 2) (.cons (.bin .Add (.loc 7) (.tup (.cons (.call 4 0 (.cons (.bin .Mod (.bin .Mult (.loc 3) (.con (D.int 69621))) (.bin .Add (.bin .Pow (.con (D.int 10)) (.con (D.int 63))) (.con (D.int 7)))) .nil)) .nil))) .nil)) .nil)))
structure Tk (F:List MO) (a:Nat) (ls:List Ly) (T:R.St):Prop where
 fz:T.frz=F
 lk:T.lk.contains a=false
 g:T.get a=some (.lst (ls.map lD))
 ok:∀l∈ls,LOk l
 sh:ls.length<=100
theorem Tk.push {F:List MO}{a:Nat}{ls:List Ly}{T:R.St}(h:Tk F a ls T)(o:MO):Tk F a ls (T.push o):=⟨h.fz,h.lk,zad h.g,h.ok,h.sh⟩
theorem cut3 (l:Ly):cut [D.int l.1.1,pD l.1.2.1,.int l.1.2.2,oD l.2] none (some 3)=[.int l.1.1,pD l.1.2.1,.int l.1.2.2]:=by
 have:=zdo [D.int l.1.1,pD l.1.2.1,.int l.1.2.2,oD l.2] 3
 exact this
theorem zj9 {f:Nat}{F:List MO}{a:Nat}{ls:List Ly}{T:R.St}{c n:D}{z m:Int}{v5 v6:Option D}{k:K3}(h:Tk F a ls T)(hF:F.length<=a)(hk1:1<=k.2.1.length)(hk7:k.2.1.length<=7)(hs:ls.length<100) :
  W (exS (callF prog (f+1)) (.expr (.mt .append (.loc 2) (.cons (.bin .Add (.loc 7) (.tup (.cons (.call 4 0 (.cons (.bin .Mod (.bin .Mult (.loc 3) (.con (D.int 69621))) (.bin .Add (.bin .Pow (.con (D.int 10)) (.con (D.int 63))) (.con (D.int 7)))) .nil)) .nil))) .nil)) .nil) (EL c n (.ref a) (some (.int z)) (some (.int m)) v5 v6 (some (kD k))) T)
   fun r U=>∃(l:Ly),r=.nx (EL c n (.ref a) (some (.int z)) (some (.int m)) v5 v6 (some (kD k)))/\U.lk=T.lk/\Tk F a (ls++[l]) U:=by
 obtain⟨U,u1,u2,u3,u4,u5,u6⟩:=zbS (S:=T) (l:=a) (.lst ((ls++[(k,zcf (z * 69621 % (10 ^ 63+7)))]).map lD)) (by rw[h.fz];exact hF) h.lk
 have u1':T.put a (.lst (ls.map lD++[.tup ([.int k.1,pD k.2.1,.int k.2.2]++[oD (zcf (z * 69621 % (10 ^ 63+7)))])]))=some U:=by rw[<-u1];simp[lD]
 refine wS_W _ ?_
 unfold EL
 conv=>whnf
 refine zab (h.g) ?_
 conv=>whnf
 refine zaa (by simp[zgu]) ?_
 conv=>whnf
 refine zaa (by decide) ?_
 conv=>whnf
 refine zaa (by decide) ?_
 conv=>whnf
 refine zas (ziS) ?_
 conv=>whnf
 refine zaa (by simp) ?_
 conv=>whnf
 unfold kD
 conv=>whnf
 refine zaa (by simp) ?_
 conv=>whnf
 refine zab (h.g) ?_
 conv=>whnf
 refine zaa (by have:=h.sh;simp;omega) ?_
 conv=>whnf
 refine zab (u1') ?_
 conv=>whnf
 refine⟨(k,zcf (z * 69621 % (10 ^ 63+7))),rfl,u3,⟨u2.trans h.fz,by rw[u3];exact h.lk,u6 (zaD h.g),fun l hl=>?_,by simp;omega⟩⟩
 rcases List.mem_append.mp hl with q|q
 · exact h.ok l q
 · simp at q;subst q;exact⟨hk1,hk7⟩
theorem zi6 {cf:CF}{c:CE}{u r:CS}{δ:Ev}{S:R.St}{Q:Fl->R.St->Prop}(P:Ev->R.St->Prop)(h:W (exS cf (.ifS c u .nil .nil) δ S) fun f T=>∃δ',f=.nx δ'/\P δ' T)(k:∀δ' T,P δ' T->W (exS cf r δ' T) Q):W (exS cf (.ifS c u .nil r) δ S) Q:=by
 simp only[exS,zac] at h⊢
 refine h.mono fun b S1 h1=>?_
 refine h1.mono fun f S2 h2=>?_
 cases f with
 | rt d =>
   obtain⟨δ',e,_⟩:=h2
   cases e
 | nx δ2 =>
   obtain⟨δ',e,p⟩:=h2
   cases e
   exact k _ _ p
noncomputable def PK (c n:D)(a:Nat)(z m:Int)(v5 v6:Option D)(F:List MO)(ls:List Ly)(lk:List Nat)(δ:Ev)(T:R.St):Prop:=∃k:K3,δ=EL c n (.ref a) (some (.int z)) (some (.int m)) v5 v6 (some (kD k))/\1<=k.2.1.length/\k.2.1.length<=7/\T.lk=lk/\Tk F a ls T
section
variable {f:Nat} {F:List MO} {a:Nat} {ls:List Ly} {T:R.St} {c:D} {n:Nat} {z m:Int} {v5 v6:Option D} {lk:List Nat} {δ:Ev}
theorem znm (h:PK c (.int n) a z m v5 v6 F ls lk δ T):W (exS (callF prog (f+1)) (.ifS (.and (.cmp .Eq (.bin .Mod (.loc 4) (.con (D.int 4))) (.con (D.int 1))) (.cmp .NotEq (.loc 2) (.lst .nil))) (.asg 7 (.sl (.ix (.loc 2) (.bin .Mod (.bin .FloorDiv (.loc 4) (.con (D.int 64))) (.bi .len (.cons (.loc 2) .nil)))) false true (.con .non) (.con (D.int 3))) .nil) .nil .nil) δ T) fun f T=>∃δ',f=.nx δ'/\PK c (.int n) a z m v5 v6 F ls lk δ' T:=by
 obtain⟨k,rfl,h1,h7,hlk,tk⟩:=h
 have same:∀U:R.St,U.lk=lk->Tk F a ls U->∃δ',Fl.nx [some c,some (.int n),some (.ref a),some (.int z),some (.int m),v5,v6,some (kD k)]=.nx δ'/\PK c (.int n) a z m v5 v6 F ls lk δ' U:=fun U e t=>⟨_,rfl,k,by unfold EL;rfl,h1,h7,e,t⟩
 refine wS_W _ ?_
 unfold EL
 conv=>whnf
 refine zaa (by first|decide|omega|(simp;done)|(simp;omega)) ?_
 conv=>whnf
 refine zcL (fun c1=>?_) (fun c1=>?_)
 · conv=>whnf
   refine zaa (by first|decide|omega|(simp;done)|(simp;omega)) ?_
   conv=>whnf
   refine zab (zi3 (zad tk.g) (zal _ _) (zdO _ 57 ls)) ?_
   conv=>whnf
   refine zek (fun c2=>?_) (fun c2=>?_)
   · have hne:ls≠[]:=by simpa using c2
     have hl:=List.length_pos_iff.mpr hne
     have tk2:=tk.push (.lst [])
     have hlen:((ls.map lD).length:Int)=(ls.length:Int):=by simp
     have a0:=Int.emod_nonneg (m / 64) (show (ls.length:Int)≠0 by omega)
     have a1:=Int.emod_lt_of_pos (m / 64) (show (0:Int)<(ls.length:Int) by omega)
     conv=>whnf
     refine zaa (by first|decide|omega|(simp;done)|(simp;omega)) ?_
     conv=>whnf
     refine zab (tk2.g) ?_
     conv=>whnf
     rw[hlen]
     refine zaa (by omega) ?_
     conv=>whnf
     refine zab (tk2.g) ?_
     conv=>whnf
     refine zab (atZ (xs:=ls.map lD) a0 (by rw[hlen];exact a1)) ?_
     conv=>whnf
     rw[List.getElem_map]
     have hm:ls[(m / 64 % (ls.length:Int)).toNat]'(by omega)∈ls:=List.getElem_mem _
     generalize ls[(m / 64 % (ls.length:Int)).toNat]'(by omega)=l at *
     unfold lD
     conv=>whnf
     rw[cut3]
     refine⟨_,rfl,l.1,by unfold EL kD;rfl,(tk.ok l hm).lo,(tk.ok l hm).hi,hlk,tk2⟩
   · conv=>whnf
     exact same _ hlk (tk.push _)
 · conv=>whnf
   exact same _ hlk tk
theorem znl (hn:n<=7)(h:PK c (.int n) a z m v5 v6 F ls lk δ T):W (exS (callF prog (f+2)) (.ifS (.and (.cmp .Gt (.bin .Mod (.loc 4) (.con (D.int 4))) (.con (D.int 1))) (.cmp .NotEq (.loc 2) (.lst .nil))) (.asg 7 (.call 6 0 (.cons (.ix (.loc 2) (.bin .Mod (.bin .FloorDiv (.loc 4) (.con (D.int 64))) (.bi .len (.cons (.loc 2) .nil)))) (.cons (.bin .FloorDiv (.loc 4) (.con (D.int 4096))) (.cons (.loc 1) .nil)))) .nil) .nil .nil) δ T) fun f T=>∃δ',f=.nx δ'/\PK c (.int n) a z m v5 v6 F ls lk δ' T:=by
 obtain⟨k,rfl,h1,h7,hlk,tk⟩:=h
 have same:∀U:R.St,U.lk=lk->Tk F a ls U->∃δ',Fl.nx [some c,some (.int n),some (.ref a),some (.int z),some (.int m),v5,v6,some (kD k)]=.nx δ'/\PK c (.int n) a z m v5 v6 F ls lk δ' U:=fun U e t=>⟨_,rfl,k,by unfold EL;rfl,h1,h7,e,t⟩
 refine wS_W _ ?_
 unfold EL
 conv=>whnf
 refine zaa (by first|decide|omega|(simp;done)|(simp;omega)) ?_
 conv=>whnf
 refine zcL (fun c1=>?_) (fun c1=>?_)
 · conv=>whnf
   refine zaa (by first|decide|omega|(simp;done)|(simp;omega)) ?_
   conv=>whnf
   refine zab (zi3 (zad tk.g) (zal _ _) (zdO _ 57 ls)) ?_
   conv=>whnf
   refine zek (fun c2=>?_) (fun c2=>?_)
   · have hne:ls≠[]:=by simpa using c2
     have hl:=List.length_pos_iff.mpr hne
     have tk2:=tk.push (.lst [])
     have hlen:((ls.map lD).length:Int)=(ls.length:Int):=by simp
     have a0:=Int.emod_nonneg (m / 64) (show (ls.length:Int)≠0 by omega)
     have a1:=Int.emod_lt_of_pos (m / 64) (show (0:Int)<(ls.length:Int) by omega)
     conv=>whnf
     refine zaa (by first|decide|omega|(simp;done)|(simp;omega)) ?_
     conv=>whnf
     refine zab (tk2.g) ?_
     conv=>whnf
     rw[hlen]
     refine zaa (by omega) ?_
     conv=>whnf
     refine zab (tk2.g) ?_
     conv=>whnf
     refine zab (atZ (xs:=ls.map lD) a0 (by rw[hlen];exact a1)) ?_
     conv=>whnf
     rw[List.getElem_map]
     have hm:ls[(m / 64 % (ls.length:Int)).toNat]'(by omega)∈ls:=List.getElem_mem _
     generalize ls[(m / 64 % (ls.length:Int)).toNat]'(by omega)=l at *
     refine zaa (by first|decide|omega|(simp;done)|(simp;omega)) ?_
     conv=>whnf
     obtain⟨k',hk',e⟩:=zhI (f:=f+1) (S:=T.push (.lst [])) (m:=m / 4096) (l:=l) hn (tk.ok l hm).lo (tk.ok l hm).hi
     refine zas (e) ?_
     conv=>whnf
     exact⟨_,rfl,k',by unfold EL;rfl,by rw[hk'];exact (tk.ok l hm).lo,by rw[hk'];exact (tk.ok l hm).hi,hlk,tk2⟩
   · conv=>whnf
     exact same _ hlk (tk.push _)
 · conv=>whnf
   exact same _ hlk tk
end
theorem znK {f n a:Nat}{F:List MO}{ls:List Ly}{T:R.St}{z:Int}{c:D}{v4 v5 v6 v7:Option D}(hn:n<=7)(h2:2<=n)(tk:Tk F a ls T)(hF:F.length<=a)(hs:ls.length<100) :
  W (exS (callF prog (f+3)) (.asg 4 (.bin .Mod (.bin .Mult (.loc 3) (.con (D.int 48271))) (.con (D.int 2147483647))) (.asg 5 (.call 5 0 (.cons (.bin .FloorDiv (.loc 4) (.con (D.int 64))) (.cons (.loc 1) .nil))) (.asg 6 (.bin .Add (.con (D.int 1)) (.bin .Mod (.bin .FloorDiv (.loc 4) (.con (D.int 4))) (.bi .min2 (.cons (.con (D.int 4)) (.cons (.bin .Sub (.loc 1) (.con (D.int 1))) .nil))))) (.asg 7 (.tup (.cons (.ix (.lst (.cons (.con (D.int 1)) (.cons (.con (D.int 2)) (.cons (.con (D.int 3)) (.cons (.con (D.int 29)) .nil))))) (.bin .Mod (.bin .FloorDiv (.loc 4) (.con (D.int 16))) (.con (D.int 4)))) (.cons (.mkT (.val (.sl (.loc 5) false true (.con .non) (.loc 6)))) (.cons (.ix (.loc 5) (.loc 6)) .nil))))
  bLin)))) (EL c (.int n) (.ref a) (some (.int z)) v4 v5 v6 v7) T) fun r U=>∃(l:Ly) (v4 v5 v6 v7:Option D),r=.nx (EL c (.int n) (.ref a) (some (.int z)) v4 v5 v6 v7)/\U.lk=T.lk/\Tk F a (ls++[l]) U:=by
 generalize hm:z * 48271 % 2147483647=m
 refine zaO (d:=.int m) (S':=T) (W.eq (wE_W _ ?_)) ?_
 · unfold EL
   conv=>whnf
   refine zaa (by simp[zgu]) ?_
   conv=>whnf
   refine zaa (by first|decide|omega|(simp;done)|(simp;omega)) ?_
   conv=>whnf
   exact⟨by rw[hm],rfl⟩
 obtain⟨os,ho,e⟩:=zjz (f:=f+2) (S:=T) (m:=m / 64) hn
 refine zaO (d:=.ref T.len) (S':=T.push (.lst (os.map .int))) (W.eq (wE_W _ ?_)) ?_
 · unfold EL
   conv=>whnf
   refine zaa (by first|decide|omega|(simp;done)|(simp;omega)) ?_
   conv=>whnf
   refine zas (e) ?_
   conv=>whnf
   exact⟨rfl,rfl⟩
 generalize hj:(if ((n:Int) - 1)<4 then ((n:Int) - 1) else 4)=j
 have hj0:0<j/\j<n:=by subst hj;split<;>omega
 have a0:=Int.emod_nonneg (m / 4) (show j≠0 by omega)
 have a1:=Int.emod_lt_of_pos (m / 4) hj0.1
 refine zaO (d:=.int (1+m / 4 % j)) (S':=T.push (.lst (os.map .int))) (W.eq (wE_W _ ?_)) ?_
 · unfold EL
   conv=>whnf
   refine zaa (by first|decide|omega|(simp;done)|(simp;omega)) ?_
   conv=>whnf
   rw[hj]
   refine zaa hj0.1 ?_
   conv=>whnf
   exact⟨rfl,rfl⟩
 have g5:(T.push (.lst (os.map .int))).get T.len=some (.lst (os.map .int)):=zal _ _
 have tk2:=tk.push (.lst (os.map .int))
 have b0:=Int.emod_nonneg (m / 16) (show (4:Int)≠0 by omega)
 have b1:=Int.emod_lt_of_pos (m / 16) (show (0:Int)<4 by omega)
 have hol:((os.map D.int).length:Int)=(n:Int):=by simp[ho]
 refine zaO (d:=kD (([1,2,3,29]:List Int)[(m / 16 % 4).toNat]'(by simp;omega),os.take (1+m / 4 % j).toNat,os[(1+m / 4 % j).toNat]'(by omega))) (S':=((T.push (.lst (os.map .int))).push (.lst [.int 1,.int 2,.int 3,.int 29])).push (.lst ((os.take (1+m / 4 % j).toNat).map .int))) (W.eq (wE_W _ ?_)) ?_
 · unfold EL
   conv=>whnf
   refine zaa (by first|decide|omega|(simp;done)|(simp;omega)) ?_
   conv=>whnf
   refine zaa (by first|decide|omega|(simp;done)|(simp;omega)) ?_
   conv=>whnf
   refine zaa (by first|decide|omega|(simp;done)|(simp;omega)) ?_
   conv=>whnf
   refine zab (zal _ _) ?_
   conv=>whnf
   refine zab (atZ (xs:=[D.int 1,.int 2,.int 3,.int 29]) b0 b1) ?_
   conv=>whnf
   refine zab (zad g5) ?_
   conv=>whnf
   have k1:cut (os.map D.int) none (some (1+m / 4 % j))=(os.take (1+m / 4 % j).toNat).map D.int:=by rw[zbu,zbX _ (by omega)]
   rw[k1]
   refine zaa (by simp;omega) ?_
   conv=>whnf
   refine zab (zal _ _) ?_
   conv=>whnf
   refine zaa (by simp;omega) ?_
   conv=>whnf
   refine zab (zad (zad g5)) ?_
   conv=>whnf
   refine zab (atZ (xs:=os.map D.int) (by omega) (by rw[hol];omega)) ?_
   conv=>whnf
   refine zaa (by simp) ?_
   conv=>whnf
   refine⟨?_,rfl⟩
   rw[List.getElem_map]
   unfold kD
   have:∀i:Nat,∀h:i<4,([D.int 1,.int 2,.int 3,.int 29][i]'h)=D.int (([1,2,3,29]:List Int)[i]'h):=by
    intro i h
    match i,h with
    |0,_=>rfl
    |1,_=>rfl
    |2,_=>rfl
    |3,_=>rfl
   rw[this]
 have tk3:=(tk2.push (.lst [.int 1,.int 2,.int 3,.int 29])).push (.lst ((os.take (1+m / 4 % j).toNat).map .int))
 have hp:(os.take (1+m / 4 % j).toNat).length=(1+m / 4 % j).toNat:=by rw[List.length_take];omega
 generalize ([1,2,3,29]:List Int)[(m / 16 % 4).toNat]'(by simp;omega)=t
 generalize os[(1+m / 4 % j).toNat]'(by omega)=b
 have pk:PK c (.int n) a z m (some (.ref T.len)) (some (.int (1+m / 4 % j))) F ls T.lk ((((((EL c (.int n) (.ref a) (some (.int z)) v4 v5 v6 v7).set 4 (some (.int m))).set 5 (some (.ref T.len))).set 6 (some (.int (1+m / 4 % j)))).set 7 (some (kD (t,os.take (1+m / 4 % j).toNat,b))))) (((T.push (.lst (os.map .int))).push (.lst [.int 1,.int 2,.int 3,.int 29])).push (.lst ((os.take (1+m / 4 % j).toNat).map .int))):=
  ⟨_,by unfold EL;rfl,by dsimp only;rw[hp];omega,by dsimp only;rw[hp];omega,rfl,tk3⟩
 unfold bLin
 refine zi6 _ (znm (f:=f+2) pk) fun δ' U pk'=>?_
 refine zi6 _ (znl (f:=f+1) hn pk') fun δ2 V pk2=>?_
 obtain⟨k,rfl,h1,h7,hlk,tk4⟩:=pk2
 refine (zj9 (f:=f+2) tk4 hF h1 h7 hs).mono fun r Y ⟨l,e,ek,tk5⟩=>⟨l,_,_,_,_,e,ek.trans hlk,tk5⟩
theorem zjA {f n q:Nat}{S:R.St}{cs:List Int}(hn:n<=7)(h2:2<=n)(hg:S.get q=some (.lst (cs.map .int)))(hc:cs.length<=60):∃ls:List Ly,(∀l∈ls,LOk l)/\ls.length=cs.length/\app (callF prog (f+4)) 7 [.ref q,.int n] S=.ok (.ref S.len) (S.push (.lst (ls.map lD))):=by
 have key:W (app (callF prog (f+4)) 7 [.ref q,.int n] S) fun d T=>d=.ref S.len/\∃ls:List Ly,(∀l∈ls,LOk l)/\ls.length=cs.length/\T=S.push (.lst (ls.map lD)):=by
  refine ziE (F:=c_law_lines) rfl rfl ?_
  have hF:(S.frz++S.new).length=S.len:=zcw S
  have hq:q≠S.len:=by have:=zaD hg;omega
  have hg':S.enter.get q=some (.lst (cs.map .int)):=by rw[zap];exact hg
  conv=>whnf
  refine zaa (by first|decide|omega|(simp;done)|(simp;omega)) ?_
  conv=>whnf
  refine zab (zad hg') ?_
  conv=>whnf
  refine zaE ?_
  refine W.mono (zax (fun i δ T=>∃(v3 v4 v5 v6 v7:Option D) (ls:List Ly),δ=EL (.ref q) (.int n) (.ref S.len) v3 v4 v5 v6 v7/\T.lk=[q]/\Tk (S.frz++S.new) S.len ls T/\ls.length=i) (fun _ _=>False) _ 0 _ _ ?_ ?_) ?_
  · refine⟨none,none,none,none,none,[],?_,rfl,⟨rfl,?_,?_,fun l hl=>(by cases hl),Nat.zero_le _⟩,rfl⟩
    · unfold EL;rw[<-hF];rfl
    · show ([q]:List Nat).contains S.len=false
      simp;exact fun e=>hq e.symm
    · rw[<-enter_len];exact zal S.enter _
  · rintro i x δ T hx ⟨v3,v4,v5,v6,v7,ls,rfl,hlk,tk,hl⟩
    rw[Nat.zero_add] at hl
    rw[List.getElem?_map] at hx
    cases hr:cs[i]? with
    |none=>rw[hr] at hx;cases hx
    |some z=>
    rw[hr] at hx
    cases hx
    have hi:i<cs.length:=(List.getElem?_eq_some_iff.mp hr).1
    refine⟨EL (.ref q) (.int n) (.ref S.len) (some (.int z)) v4 v5 v6 v7,by unfold EL;rfl,?_⟩
    refine (znK (f:=f) hn h2 tk (by omega) (by omega)).mono ?_
    rintro r U ⟨l,w4,w5,w6,w7,rfl,ek,tk'⟩
    exact⟨_,_,_,_,_,ls++[l],rfl,ek.trans hlk,tk',by simp;omega⟩
  · intro r T h
    cases r with
    |rt d=>exact h.elim
    | nx δ =>
      obtain⟨v3,v4,v5,v6,v7,ls,rfl,hlk,tk,hl⟩:=h
      unfold EL
      conv=>whnf
      exact zbQ (Nat.le_refl _) tk.g (zdm _ _) ⟨rfl,ls,tk.ok,by simpa using hl,rfl⟩
 obtain⟨d,T,e,rfl,ls,h1,h2,rfl⟩:=W_ex key
 exact⟨ls,h1,h2,e⟩
theorem zfl:∀p q:List Int,PySem.PyData.eqvAll (p.map PySem.PyData.int) (q.map PySem.PyData.int)=decide (p=q)
 | [],[]=>by simp[PySem.PyData.eqvAll]
 | [],_::_=>by simp[PySem.PyData.eqvAll]
 |_::_,[]=>by simp[PySem.PyData.eqvAll]
 | a :: p, b :: q => by
   rw[List.map_cons,List.map_cons,PySem.PyData.eqvAll,L2.eqv_int,zfl p q]
   by_cases h:a=b<;>by_cases k:p=q<;>simp[h,k]
theorem znC (S:R.St)(p q:List Int):cmpO S .Eq (pD p) (pD q)=some (decide (p=q)):=by
 show eqD S (pD p) (pD q)=_
 unfold eqD
 rw[zgo,zgo,Option.bind_some,Option.map_some,PySem.PyData.eqv,zfl]
theorem zdU (k:K3)(l:Ly):∀(ls:List Ly) (w:Option Int),zcz k w (ls++[l])=if l.1=k then l.2 else zcz k w ls
 | [],w=>rfl
 |x::ls,w=>by rw[List.cons_append,zcz,zcz,zdU k l ls]
@[irreducible] noncomputable def EA (q:Nat)(t:Int)(p:List Int)(b:Int)(w o:Option Int)(v6:Option D):Ev:=[some (.ref q),some (.int t),some (pD p),some (.int b),some (oD w),some (oD o),v6]
theorem ziU {f q:Nat}{S:R.St}{ls:List Ly}{t b:Int}{p:List Int}{w:Option Int}(hg:S.get q=some (.lst (ls.map lD))):app (callF prog (f+1)) 9 [.ref q,.int t,pD p,.int b,oD w] S=.ok (oD (zcz (t,p,b) w ls)) S:=by
 refine zbI (F:=c_law_last) rfl rfl ?_
 have hg':S.enter.get q=some (.lst (ls.map lD)):=by rw[zap];exact hg
 conv=>whnf
 refine zab (hg') ?_
 conv=>whnf
 refine zaE ?_
 refine W.mono (zax (fun i δ T=>∃v6:Option D,δ=EA q t p b w (zcz (t,p,b) w (ls.take i)) v6) (fun _ _=>False) _ 0 _ _ ?_ ?_) ?_
 · exact⟨none,by unfold EA;rfl⟩
 · rintro i x δ T hx ⟨v6,rfl⟩
   rw[Nat.zero_add] at *
   rw[List.getElem?_map] at hx
   cases hr:ls[i]? with
   |none=>rw[hr] at hx;cases hx
   |some l=>
   rw[hr] at hx
   cases hx
   refine⟨EA q t p b w (zcz (t,p,b) w (ls.take i)) (some (lD l)),by unfold EA;rfl,?_⟩
   rw[zdw hr,zdU]
   obtain⟨⟨t',p',b'⟩,w'⟩:=l
   refine wS_W _ ?_
   unfold EA lD
   conv=>whnf
   refine zab (zhr) ?_
   conv=>whnf
   refine zcL (fun c1=>?_) (fun c1=>?_)
   · conv=>whnf
     refine zab (zeg) ?_
     conv=>whnf
     refine zab (znC _ _ _) ?_
     conv=>whnf
     refine zek (fun c2=>?_) (fun c2=>?_)
     · conv=>whnf
       refine zab ((show atI [D.int t',pD p',.int b',oD w'] 2=some (.int b') from rfl)) ?_
       conv=>whnf
       refine zcL (fun c3=>?_) (fun c3=>?_)
       · conv=>whnf
         refine zab ((show atI [D.int t',pD p',.int b',oD w'] 3=some (oD w') from rfl)) ?_
         conv=>whnf
         have c2:p'=p:=by simpa using c2
         refine⟨some (lD ((t',p',b'),w')),?_⟩
         rw[if_pos (show ((t',p',b'),w').fst=(t,p,b) by rw[<-c1,<-c2,<-c3])];rfl
       · conv=>whnf
         refine⟨some (lD ((t',p',b'),w')),?_⟩
         rw[if_neg (by intro e;cases e;exact c3 rfl)];rfl
     · conv=>whnf
       have c2':¬p'=p:=by simpa using c2
       clear c2
       refine⟨some (lD ((t',p',b'),w')),?_⟩
       rw[if_neg (by intro e;cases e;exact c2' rfl)];rfl
   · conv=>whnf
     refine⟨some (lD ((t',p',b'),w')),?_⟩
     rw[if_neg (by intro e;cases e;exact c1 rfl)];rfl
 · intro r T h
   cases r with
   |rt d=>exact h.elim
   | nx δ =>
     obtain⟨v6,rfl⟩:=h
     unfold EA
     rw[Nat.zero_add,List.length_map,List.take_length]
     conv=>whnf
     exact zaw (zeF _ _) ⟨rfl,rfl⟩
theorem zgt {S:R.St}{a b:Nat}{ls:List Ly}(h1:S.get a=some (.lst (ls.map lD)))(h2:S.get b=some (.lst (ls.map lD))):cmpO S .NotEq (.ref a) (.ref b)=some false:=zeJ h1 h2 (zdO S 57 ls)
@[irreducible] noncomputable def ER (q h:Nat)(kvs:List Ly)(v3 v4 v5 v6 v7 v8:Option D):Ev:=[some (.ref q),some (.ref h),some (.clo kvs),v3,v4,v5,v6,v7,v8]
theorem zjE {f q:Nat}{S:R.St}{ls:List Ly}{h:Nat}{l:Ly}{x:Int}{v8:Option D}(hg:S.get q=some (.lst (ls.map lD))) :
  W (exS (callF prog (f+1)) (.asg 8 (.bin .Add (.loc 3) (.loc 7)) (.ifS (.nt (.tst (.call 10 0 (.cons (.callV (.loc 2) (.cons (.loc 8) (.cons (.loc 4) (.cons (.loc 5) (.cons (.bin .Add (.bin .Pow (.con (D.int 10)) (.con (D.int 59))) (.loc 8)) .nil))))) (.cons (.call 9 0 (.cons (.loc 0) (.cons (.loc 8) (.cons (.loc 4) (.cons (.loc 5) (.cons (.bin .Add (.bin .Pow (.con (D.int 10)) (.con (D.int 59))) (.loc 8)) .nil)))))) .nil))))) (.ret (.con (D.bl false)) .nil) .nil (.ifS (.nt (.tst (.call 10 0 (.cons (.callV (.loc 2) (.cons (.loc 8) (.cons (.loc 4) (.cons (.loc 5) (.cons (.con D.non) .nil))))) (.cons (.call 9 0 (.cons (.loc 0) (.cons (.loc 8) (.cons (.loc 4) (.cons (.loc 5) (.cons (.con D.non) .nil)))))) .nil))))) (.ret (.con (D.bl false)) .nil) .nil .nil))) (ER q h (zan [] ls) (some (.int l.1.1)) (some (pD l.1.2.1)) (some (.int l.1.2.2)) (some (oD l.2)) (some (.int x)) v8) S) fun r T=>T=S/\r=.nx (ER q h (zan [] ls) (some (.int l.1.1)) (some (pD l.1.2.1)) (some (.int l.1.2.2)) (some (oD l.2)) (some (.int x)) (some (.int (l.1.1+x)))):=by
 refine wS_W _ ?_
 unfold ER
 conv=>whnf
 refine zaa (by first|decide|omega|(simp;done)|(simp;omega)) ?_
 conv=>whnf
 refine zab (zhi ls (l.1.1+x) l.1.2.1 l.1.2.2 (some _)) ?_
 conv=>whnf
 refine zaa (by first|decide|omega|(simp;done)|(simp;omega)) ?_
 conv=>whnf
 refine zas (ziU (f:=f) (w:=some _) hg) ?_
 conv=>whnf
 refine zas (zeX (n:=f)) ?_
 conv=>whnf
 refine zab (zhi ls (l.1.1+x) l.1.2.1 l.1.2.2 none) ?_
 conv=>whnf
 refine zas (ziU (f:=f) (w:=none) hg) ?_
 conv=>whnf
 refine zas (zeX (n:=f)) ?_
 conv=>whnf
 exact⟨rfl,rfl⟩
theorem zjy {f q:Nat}{S:R.St}{ls:List Ly}(hg:S.get q=some (.lst (ls.map lD)))(hl:ls.length<=100):app (callF prog (f+5)) 11 [.ref q] S=.ok (.bl true) S:=by
 refine zbI (F:=c_law_roads) rfl rfl ?_
 have hg':S.enter.get q=some (.lst (ls.map lD)):=by rw[zap];exact hg
 have hq:=zaD hg
 rw[<-enter_len] at hq
 have g1:(S.enter.push (.lst (ls.map lD))).get S.enter.len=some (.lst (ls.map lD)):=zal _ _
 obtain⟨U,u1,u2,u3,u4,u5,u6⟩:=zbS (S:=S.enter.push (.lst (ls.map lD))) (l:=S.enter.len) (.lst []) (by simp[St.push,St.enter,St.len]) rfl
 have gU:U.get q=some (.lst (ls.map lD)):=(u5 q (by omega)).trans (zad hg')
 conv=>whnf
 refine zab (hg') ?_
 conv=>whnf
 refine zaa (by simp;omega) ?_
 conv=>whnf
 refine zas (zlm (n:=f) (S:=S.enter.push (.lst (ls.map lD))) g1 (by omega)) ?_
 conv=>whnf
 refine zab (zgt g1 (zad hg')) ?_
 conv=>whnf
 refine zab (g1) ?_
 conv=>whnf
 refine zaa (by first|decide|omega|(simp;done)|(simp;omega)) ?_
 conv=>whnf
 refine zab (u1) ?_
 conv=>whnf
 refine zab (gU) ?_
 conv=>whnf
 refine zaE ?_
 refine W.mono (zax (fun i δ T=>T.get q=some (.lst (ls.map lD))/\∃v3 v4 v5 v6 v7 v8:Option D,δ=ER q S.enter.len (zan [] ls) v3 v4 v5 v6 v7 v8) (fun _ _=>False) _ 0 _ _ ?_ ?_) ?_
 · exact⟨gU,none,none,none,none,none,none,by unfold ER;rfl⟩
 · rintro i x δ T hx ⟨gT,v3,v4,v5,v6,v7,v8,rfl⟩
   rw[List.getElem?_map] at hx
   cases hr:ls[i]? with
   |none=>rw[hr] at hx;cases hx
   |some l=>
   rw[hr] at hx
   cases hx
   refine⟨ER q S.enter.len (zan [] ls) (some (.int l.1.1)) (some (pD l.1.2.1)) (some (.int l.1.2.2)) (some (oD l.2)) v7 v8,by unfold ER;rfl,?_⟩
   refine zfj (xs:=[.int 0,.int 1]) (ls:=[]) (S1:=T) (W.eq (wL_W _ ?_)) ?_
   · conv=>whnf
     refine zaa (by first|decide|omega|(simp;done)|(simp;omega)) ?_
     conv=>whnf
     exact⟨rfl,rfl⟩
   refine W.mono (zax (fun i δ T=>T.get q=some (.lst (ls.map lD))/\∃v7 v8:Option D,δ=ER q S.enter.len (zan [] ls) (some (.int l.1.1)) (some (pD l.1.2.1)) (some (.int l.1.2.2)) (some (oD l.2)) v7 v8) (fun _ _=>False) _ 0 _ _ ?_ ?_) ?_
   · exact⟨gT,v7,v8,rfl⟩
   · rintro j x δ V hx ⟨gV,w7,w8,rfl⟩
     have:∃z:Int,x=.int z:=by
      match j,hx with
      |0,hx=>cases hx;exact⟨_,rfl⟩
      |1,hx=>cases hx;exact⟨_,rfl⟩
      |j+2,hx=>simp at hx
     obtain⟨z,rfl⟩:=this
     refine⟨ER q S.enter.len (zan [] ls) (some (.int l.1.1)) (some (pD l.1.2.1)) (some (.int l.1.2.2)) (some (oD l.2)) (some (.int z)) w8,by unfold ER;rfl,?_⟩
     refine (zjE (f:=f+3) (l:=l) (x:=z) (v8:=w8) gV).mono ?_
     rintro r Y ⟨rfl,rfl⟩
     exact⟨gV,_,_,rfl⟩
   · intro r V h
     cases r with
     |rt d=>exact h.elim
     | nx δ =>
       obtain⟨gV,w7,w8,rfl⟩:=h
       exact ze7 ⟨gV,_,_,_,_,_,_,rfl⟩
 · intro r T h
   cases r with
   |rt d=>exact h.elim
   | nx δ =>
     obtain⟨gT,v3,v4,v5,v6,v7,v8,rfl⟩:=h
     conv=>whnf
     exact zaw rfl ⟨rfl,rfl⟩
noncomputable def hD (l:Ly):D:=.tup [.int l.1.1,pD l.1.2.1,oD l.2]
noncomputable def atP (b:Int)(ls:List Ly):List Ly:=ls.filter fun l=>decide (l.1.2.2=b)
noncomputable def lB (d:D):Ly:=(lie4 d).getD ((0,[],0),none)
theorem zfL (l:Ly):lB (lD l)=l:=by unfold lB;rw[zgC];rfl
theorem zg6 (p:Ly->Bool)(g:Ly->D)(ls:List Ly):(((ls.map lD).filter fun d=>p (lB d)).map fun d=>g (lB d))=(ls.filter p).map g:=by
 rw[List.filter_map,List.map_map]
 have e1:((fun d=>p (lB d))∘lD)=p:=by funext l;simp[zfL]
 have e2:((fun d=>g (lB d))∘lD)=g:=by funext l;simp[zfL]
 rw[e1,e2]
theorem zft {cf:CF}{T:R.St}{b:Int}{ls:List Ly}(v:Option D):zaG [0] (evT cf (.cmp .Eq (.ix (.loc 0) (.con (D.int 2))) (.loc 1))) (evE cf (.tup (.cons (.ix (.loc 0) (.con (D.int 0))) (.cons (.ix (.loc 0) (.con (D.int 1))) (.cons (.ix (.loc 0) (.con (D.int 3))) .nil))))) (ls.map lD) [v,some (.int b)] T=.ok ((atP b ls).map hD) T:=by
 have h:=za5 (c:=evT cf (.cmp .Eq (.ix (.loc 0) (.con (D.int 2))) (.loc 1))) (e:=evE cf (.tup (.cons (.ix (.loc 0) (.con (D.int 0))) (.cons (.ix (.loc 0) (.con (D.int 1))) (.cons (.ix (.loc 0) (.con (D.int 3))) .nil))))) (S:=T) (rest:=[some (.int b)]) (fun d=>decide ((lB d).1.2.2=b)) (fun d=>hD (lB d)) (ls.map lD) v (fun x hx=>?_) (fun x hx _=>?_)
 · rw[h]
   exact congrArg (fun z=>Out.ok z T) (zg6 (fun l=>decide (l.1.2.2=b)) hD ls)
 · obtain⟨l,_,rfl⟩:=List.mem_map.mp hx
   rw[zfL]
   obtain⟨⟨t',p',b'⟩,w'⟩:=l
   refine W.eq (wT_W _ ?_)
   unfold lD
   conv=>whnf
   refine zab ((show atI [D.int t',pD p',.int b',oD w'] 2=some (.int b') from rfl)) ?_
   conv=>whnf
   exact⟨rfl,rfl⟩
 · obtain⟨l,_,rfl⟩:=List.mem_map.mp hx
   rw[zfL]
   obtain⟨⟨t',p',b'⟩,w'⟩:=l
   refine W.eq (wE_W _ ?_)
   unfold lD
   conv=>whnf
   refine zab (zhr) ?_
   conv=>whnf
   refine zab (zeg) ?_
   conv=>whnf
   refine zab ((show atI [D.int t',pD p',.int b',oD w'] 3=some (oD w') from rfl)) ?_
   conv=>whnf
   refine zaa (by simp) ?_
   conv=>whnf
   exact⟨rfl,rfl⟩
theorem zhq (b:Int)(ls:List Ly):(atP b ls).length<=ls.length:=List.length_filter_le _ _
theorem zin (N:Nat)(ls:List Ly):flats N (ls.map hD)=true:=by
 rw[zaP]
 intro d hd
 obtain⟨l,_,rfl⟩:=List.mem_map.mp hd
 unfold hD
 rw[zfk,zaP]
 intro d hd
 simp only[List.mem_cons,List.not_mem_nil,or_false] at hd
 rcases hd with rfl|rfl|rfl
 · rfl
 · exact zg5 _ _
 · exact zeF _ _
theorem zjB {f q:Nat}{S:R.St}{ls:List Ly}{b:Int}(hg:S.get q=some (.lst (ls.map lD)))(hl:ls.length<=100):app (callF prog (f+1)) 2 [.ref q,.int b] S=.ok (.ref S.len) (S.push (.lst ((atP b ls).map hD))):=by
 refine zbI (F:=c_heard) rfl rfl ?_
 have hg':S.enter.get q=some (.lst (ls.map lD)):=by rw[zap];exact hg
 have:=zhq b ls
 conv=>whnf
 refine zab (hg') ?_
 conv=>whnf
 refine zaE ?_
 refine W.of (zft none) ?_
 refine zaa (by simp;omega) ?_
 conv=>whnf
 refine zaa (by simp;omega) ?_
 conv=>whnf
 exact zeT (i:=0) rfl (zin _ _) ⟨rfl,rfl⟩
theorem ziG {S:R.St}{l:Nat}{ds:List D}(h:S.get l=some (.lst ds)):tyOf S (.ref l)=some "list":=by unfold tyOf;dsimp only;rw[h]
theorem znI (l:Ly):cut [D.int l.1.1,pD l.1.2.1,oD l.2] none (some 2)=[.int l.1.1,pD l.1.2.1]:=zdo [D.int l.1.1,pD l.1.2.1,oD l.2] 2
theorem zlM (S:R.St)(n:Nat)(t:Int)(p:List Int):pd S (n+2) (.tup [.int t,pD p])=some (.tuple [.int t,.tuple (p.map .int)]):=by
 unfold pd
 rw[List.mapM_cons,List.mapM_cons,zgo]
 rfl
theorem zh3 (S:R.St)(n:Nat)(t:Int)(p:List Int)(b:Int):pd S (n+2) (.tup [.int t,pD p,.int b])=some (.tuple [.int t,.tuple (p.map .int),.int b]):=by
 unfold pd
 rw[List.mapM_cons,List.mapM_cons,List.mapM_cons,zgo]
 rfl
theorem zi2 {S:R.St}{xs:List D}{a:PySem.PyData}(h:pd S 60 (.tup xs)=some a):cmpO S .NotEq (.tup xs) (.tup xs)=some false:=by
 show (eqD S _ _).map _=_
 rw[zg8 h h];rfl
@[irreducible] noncomputable def EH (q:Nat)(n:Int)(b:Int)(h x y:Nat)(v6:Option D):Ev:=[some (.ref q),some (.int n),some (.int b),some (.ref h),some (.ref x),some (.ref y),v6]
noncomputable def zmj:CS:=(.ifS (.or (.nt (.tst (.bi (.isin "tuple") (.cons (.ix (.loc 4) (.loc 6)) .nil)))) (.or (.cmp .NotEq (.bi .len (.cons (.ix (.loc 4) (.loc 6)) .nil)) (.con (D.int 3))) (.cmp .NotEq (.sl (.ix (.loc 4) (.loc 6)) false true (.con .non) (.con (D.int 2))) (.sl (.ix (.loc 5) (.loc 6)) false true (.con .non) (.con (D.int 2)))))) (.ret (.con (D.bl false)) .nil) .nil (.ifS (.nt (.tst (.call 10 0 (.cons (.ix (.ix (.loc 4) (.loc 6)) (.con (D.int 2))) (.cons (.ix (.ix (.loc 5) (.loc 6)) (.con (D.int 2))) .nil))))) (.ret (.con (D.bl false)) .nil) .nil .nil))
theorem zmi {f q h x y i:Nat}{n b:Int}{T:R.St}{zs:List Ly}{l:Ly}(gx:T.get x=some (.lst (zs.map hD)))(gy:T.get y=some (.lst (zs.map hD)))(hl:zs[i]?=some l) :
  W (exS (callF prog (f+1)) zmj (EH q n b h x y (some (.int i))) T) fun r U=>U=T/\r=.nx (EH q n b h x y (some (.int i))):=by
 have at':atI (zs.map hD) (i:Int)=some (hD l):=zcJ (by rw[List.getElem?_map,hl];rfl)
 obtain⟨⟨t,p,c⟩,w⟩:=l
 unfold zmj
 refine wS_W _ ?_
 unfold EH
 conv=>whnf
 refine zab (gx) ?_
 conv=>whnf
 refine zab (at') ?_
 conv=>whnf
 refine zab ((show tyOf T (hD ((t,p,c),w))=some "tuple" from rfl)) ?_
 conv=>whnf
 refine zab (gx) ?_
 conv=>whnf
 refine zab (at') ?_
 conv=>whnf
 refine zab (gx) ?_
 conv=>whnf
 refine zab (at') ?_
 conv=>whnf
 refine zab (gy) ?_
 conv=>whnf
 refine zab (at') ?_
 conv=>whnf
 rw[znI ((t,p,c),w)]
 refine zab (zi2 (zlM T 58 t p)) ?_
 conv=>whnf
 refine zab (gx) ?_
 conv=>whnf
 refine zab (at') ?_
 conv=>whnf
 refine zab ((show atI [D.int t,pD p,oD w] 2=some (oD w) from rfl)) ?_
 conv=>whnf
 refine zab (gy) ?_
 conv=>whnf
 refine zab (at') ?_
 conv=>whnf
 refine zab ((show atI [D.int t,pD p,oD w] 2=some (oD w) from rfl)) ?_
 conv=>whnf
 refine zas (zeX (n:=f)) ?_
 conv=>whnf
 exact⟨rfl,rfl⟩
theorem zhJ {f q n:Nat}{S:R.St}{ls:List Ly}(hn:n<=7)(hg:S.get q=some (.lst (ls.map lD)))(hl:ls.length<=100):app (callF prog (f+3)) 8 [.ref q,.int n] S=.ok (.bl true) S:=by
 refine zbI (F:=c_law_heard) rfl rfl ?_
 have hg':S.enter.get q=some (.lst (ls.map lD)):=by rw[zap];exact hg
 conv=>whnf
 refine zaa (by omega) ?_
 conv=>whnf
 refine zaE ?_
 refine W.mono (zax (fun i δ T=>T.get q=some (.lst (ls.map lD))/\∃v2 v3 v4 v5 v6:Option D,δ=[some (.ref q),some (.int n),v2,v3,v4,v5,v6]) (fun _ _=>False) _ 0 _ _ ?_ ?_) ?_
 · exact⟨hg',none,none,none,none,none,rfl⟩
 · rintro i x δ T hx ⟨gT,v2,v3,v4,v5,v6,rfl⟩
   rw[List.getElem?_map] at hx
   cases hr:(List.range (n:Int).toNat)[i]? with
   |none=>rw[hr] at hx;cases hx
   |some b=>
   rw[hr] at hx
   cases hx
   refine⟨_,rfl,?_⟩
   generalize hδ:List.set _ 2 _=δ1
   have hlen:=zhq (b:Int) ls
   have g1:(T.push (.lst (ls.map lD))).get T.len=some (.lst (ls.map lD)):=zal _ _
   refine zaO (d:=.ref T.len) (S':=T.push (.lst (ls.map lD))) (W.eq (wE_W _ ?_)) ?_
   · subst hδ
     conv=>whnf
     refine zab (gT) ?_
     conv=>whnf
     refine zaa (by simp;omega) ?_
     conv=>whnf
     exact⟨rfl,rfl⟩
   have g2:((T.push (.lst (ls.map lD))).push (.lst ((atP b ls).map hD))).get (T.len+1)=some (.lst ((atP b ls).map hD)):=by
    have:=zal (T.push (.lst (ls.map lD))) (.lst ((atP b ls).map hD))
    rw[plen] at this;exact this
   refine zaO (d:=.ref (T.len+1)) (S':=(T.push (.lst (ls.map lD))).push (.lst ((atP b ls).map hD))) (W.eq (wE_W _ ?_)) ?_
   · subst hδ
     conv=>whnf
     refine zas (zjB (f:=f+1) (b:=(b:Int)) g1 hl) ?_
     conv=>whnf
     exact⟨by rw[plen],rfl⟩
   have g3:(((T.push (.lst (ls.map lD))).push (.lst ((atP b ls).map hD))).push (.lst ((atP b ls).map hD))).get (T.len+2)=some (.lst ((atP b ls).map hD)):=by
    have:=zal ((T.push (.lst (ls.map lD))).push (.lst ((atP b ls).map hD))) (.lst ((atP b ls).map hD))
    rw[plen,plen] at this;exact this
   refine zaO (d:=.ref (T.len+2)) (S':=((T.push (.lst (ls.map lD))).push (.lst ((atP b ls).map hD))).push (.lst ((atP b ls).map hD))) (W.eq (wE_W _ ?_)) ?_
   · subst hδ
     conv=>whnf
     refine zab (zad (zad gT)) ?_
     conv=>whnf
     refine zaE ?_
     refine W.of (zft none) ?_
     refine zaa (by simp;omega) ?_
     conv=>whnf
     refine zaa (by simp;omega) ?_
     conv=>whnf
     exact⟨by rw[plen,plen],rfl⟩
   have e1:((δ1.set 3 (some (.ref T.len))).set 4 (some (.ref (T.len+1)))).set 5 (some (.ref (T.len+2)))=EH q n b T.len (T.len+1) (T.len+2) v6:=by subst hδ;unfold EH;rfl
   rw[e1]
   have gq:=zad (o:=.lst ((atP b ls).map hD)) (zad (o:=.lst ((atP b ls).map hD)) (zad (o:=.lst (ls.map lD)) gT))
   have gc:=zad (o:=.lst ((atP b ls).map hD)) (zad (o:=.lst ((atP b ls).map hD)) g1)
   have gx:=zad (o:=.lst ((atP b ls).map hD)) g2
   generalize ((T.push (.lst (ls.map lD))).push (.lst ((atP b ls).map hD))).push (.lst ((atP b ls).map hD))=U at *
   clear e1 hδ g1 g2
   refine zkk (S1:=U) (W.eq (wT_W _ ?_)) ?_
   · unfold EH
     conv=>whnf
     refine zab (ziG gx) ?_
     conv=>whnf
     refine zab (zgt gc gq) ?_
     conv=>whnf
     refine zab (gx) ?_
     conv=>whnf
     refine zab (g3) ?_
     conv=>whnf
     exact⟨by simp,rfl⟩
   refine zfj (xs:=(List.range (atP b ls).length).map fun (k:Nat)=>.int k) (ls:=[]) (S1:=U) (W.eq (wL_W _ ?_)) ?_
   · unfold EH
     conv=>whnf
     refine zab (g3) ?_
     conv=>whnf
     refine zaa (by simp;omega) ?_
     conv=>whnf
     exact⟨by simp,rfl⟩
   refine W.mono (zax (fun i δ V=>V=U/\∃w6:Option D,δ=EH q n b T.len (T.len+1) (T.len+2) w6) (fun _ _=>False) _ 0 _ _ ⟨rfl,v6,rfl⟩ ?_) ?_
   · rintro j x δ V hx ⟨rfl,w6,rfl⟩
     rw[List.getElem?_map] at hx
     cases hj:(List.range (atP b ls).length)[j]? with
     |none=>rw[hj] at hx;cases hx
     |some k=>
     rw[hj] at hx
     cases hx
     have hk:k<(atP b ls).length:=by
      have:=List.mem_of_getElem? hj
      simpa using this
     refine⟨EH q n b T.len (T.len+1) (T.len+2) (some (.int k)),by unfold EH;rfl,?_⟩
     refine (zmi (f:=f+1) gx g3 (List.getElem?_eq_getElem hk)).mono ?_
     rintro r Y ⟨rfl,rfl⟩
     exact⟨rfl,_,rfl⟩
   · intro r V h
     cases r with
     |rt d=>exact h.elim
     | nx δ =>
       obtain⟨rfl,w6,rfl⟩:=h
       exact ze7 ⟨gq,_,_,_,_,_,by unfold EH;rfl⟩
 · intro r T h
   cases r with
   |rt d=>exact h.elim
   | nx δ =>
     obtain⟨gT,v2,v3,v4,v5,v6,rfl⟩:=h
     conv=>whnf
     exact zaw rfl ⟨rfl,rfl⟩
noncomputable def lstP (l:Ly):Int:=l.1.2.1.getLastD 0
noncomputable def lyn (qs:List Int)(ls:List Ly):List Ly:=ls.filter fun l=>decide (lstP l∈qs)
noncomputable def lay2 (ls:List Ly)(ws:List (Option Int)):List Ly:=List.zipWith (fun l w=>(l.1,w)) ls ws
theorem zhp {p:List Int}(h:1<=p.length):atI (p.map D.int) (-1)=some (.int (p.getLastD 0)):=by
 have hne:p≠[]:=by intro e;subst e;simp at h
 have e:p=p.dropLast++[p.getLast hne]:=(List.dropLast_concat_getLast hne).symm
 have e2:p.getLastD 0=p.getLast hne:=by
  rw[List.getLastD_eq_getLast?,List.getLast?_eq_some_getLast hne];rfl
 rw[e2]
 conv=>lhs;rw[e]
 rw[List.map_append]
 exact ziC _ _
theorem zkC {cf:CF}{T:R.St}{a:Nat}{qs:List Int}{ls:List Ly}(hq:T.get a=some (.lst (qs.map .int)))(hk:∀l∈ls,LOk l)(v:Option D):zaG [0] (evT cf (.cmp .In (.ix (.ix (.loc 0) (.con (D.int 1))) (.neg (.con (D.int 1)))) (.loc 1))) (evE cf (.loc 0)) (ls.map lD) [v,some (.ref a)] T=.ok ((lyn qs ls).map lD) T:=by
 have h:=za5 (c:=evT cf (.cmp .In (.ix (.ix (.loc 0) (.con (D.int 1))) (.neg (.con (D.int 1)))) (.loc 1))) (e:=evE cf (.loc 0)) (S:=T) (rest:=[some (.ref a)]) (fun d=>decide (lstP (lB d)∈qs)) (fun d=>lD (lB d)) (ls.map lD) v (fun x hx=>?_) (fun x hx _=>?_)
 · rw[h]
   exact congrArg (fun z=>Out.ok z T) (zg6 (fun l=>decide (lstP l∈qs)) lD ls)
 · obtain⟨l,hl,rfl⟩:=List.mem_map.mp hx
   rw[zfL]
   have h1:=(hk l hl).lo
   obtain⟨⟨t',p',b'⟩,w'⟩:=l
   refine W.eq (wT_W _ ?_)
   unfold lD
   conv=>whnf
   refine zab (zeg) ?_
   conv=>whnf
   refine zab (zhp h1) ?_
   conv=>whnf
   refine zab (zi5 hq _) ?_
   conv=>whnf
   exact⟨rfl,rfl⟩
 · obtain⟨l,hl,rfl⟩:=List.mem_map.mp hx
   rw[zfL];rfl
theorem zkL {S:R.St}{x y:Nat}{ds es:List D}(h1:S.get x=some (.lst ds))(h2:S.get y=some (.lst es)):zeh S (.ref x) (.ref y)=some (List.zipWith zez ds es,[x,y]):=by
 unfold zeh;dsimp only;rw[h1,h2]
theorem zmt {cf:CF}{T:R.St}:∀(ls:List Ly) (ws:List (Option Int)) (v u:Option D),zaG [0,1] (evT cf (.tst (.con (D.bl true)))) (evE cf (.bin .Add (.sl (.loc 0) false true (.con .non) (.con (D.int 3))) (.tup (.cons (.loc 1) .nil)))) (List.zipWith zez (ls.map lD) (ws.map oD)) [v,u] T=.ok ((lay2 ls ws).map lD) T
 | [],ws,v,u=>by simp[zaG,lay2]
 |l::ls,[],v,u=>by simp[zaG,lay2]
 | l :: ls, w :: ws, v, u => by
   have ih:=zmt (cf:=cf) (T:=T) ls ws (some (lD l)) (some (oD w))
   rw[List.map_cons,List.map_cons,List.zipWith_cons_cons]
   unfold zaG
   show Out.bind (.ok true T) _=_
   rw[zaR,if_pos rfl]
   have e:evE cf (.bin .Add (.sl (.loc 0) false true (.con .non) (.con (D.int 3))) (.tup (.cons (.loc 1) .nil))) [some (lD l),some (oD w)] T=.ok (lD (l.1,w)) T:=by
    refine W.eq (wE_W _ ?_)
    unfold lD
    conv=>whnf
    refine zaa (by simp) ?_
    conv=>whnf
    rw[cut3 l]
    refine zaa (by simp) ?_
    conv=>whnf
    exact⟨rfl,rfl⟩
   show Out.bind (evE cf _ [some (lD l),some (oD w)] T) _=_
   rw[e,zaR]
   show Out.bind (zaG [0,1] _ _ (List.zipWith zez (ls.map lD) (ws.map oD)) [some (lD l),some (oD w)] T) _=_
   rw[ih];rfl
theorem zeC (qs:List Int)(ls:List Ly):(lyn qs ls).length<=ls.length:=List.length_filter_le _ _
theorem zfd (ls:List Ly)(ws:List (Option Int)):(lay2 ls ws).length<=ls.length:=by
 unfold lay2;rw[List.length_zipWith];omega
section
variable {f x y z:Nat} {S:R.St} {ls:List Ly} {qs:List Int} {ws:List (Option Int)}
theorem ziT (h1:S.get x=some (.lst (ls.map lD)))(h2:S.get y=some (.lst (qs.map .int)))(h3:S.get z=some (.lst (ws.map oD)))(hk:∀l∈ls,LOk l)(hl:ls.length<=100) :
  app (callF prog (f+1)) 1 [.ref x,.ref y,.ref z] S=.ok (.ref S.len) (S.push (.lst ((lay2 (lyn qs ls) ws).map lD))):=by
 refine zbI (F:=c_lies_of) rfl rfl ?_
 have l1:=zeC qs ls
 have l2:=zfd (lyn qs ls) ws
 have g1:S.enter.get x=some (.lst (ls.map lD)):=by rw[zap];exact h1
 have g2:S.enter.get y=some (.lst (qs.map .int)):=by rw[zap];exact h2
 have g3:S.enter.get z=some (.lst (ws.map oD)):=by rw[zap];exact h3
 conv=>whnf
 refine zab (g1) ?_
 conv=>whnf
 refine zaE ?_
 refine W.of (zkC (T:=⟨S.enter.frz,S.enter.new,[x]⟩) (a:=y) g2 hk none) ?_
 refine zaa (by simp;omega) ?_
 conv=>whnf
 refine zaa (by simp;omega) ?_
 conv=>whnf
 refine zab (zkL (zal _ _) (zad g3)) ?_
 conv=>whnf
 refine zaE ?_
 refine W.of (zmt (lyn qs ls) ws none none) ?_
 refine zaa (by simp;omega) ?_
 conv=>whnf
 refine zaa (by simp;omega) ?_
 conv=>whnf
 exact zeT (i:=1) rfl (zdm _ _) ⟨rfl,rfl⟩
theorem zfc (l:Ly)(ws:List (Option Int)):∀ls:List Ly,lay2 (ls++[l]) ws=if ls.length<ws.length then lay2 ls ws++[(l.1,ws.getD ls.length none)] else lay2 ls ws
 | [] => by
   cases ws with
   |nil=>simp[lay2]
   |cons w ws=>simp[lay2]
 | m :: ls => by
   cases ws with
   |nil=>simp[lay2]
   | cons w ws =>
     have ih:=zfc l ws ls
     unfold lay2 at ih⊢
     rw[List.cons_append,List.zipWith_cons_cons,ih,List.zipWith_cons_cons]
     by_cases c:ls.length<ws.length
     · rw[if_pos c,if_pos (by simp;omega)]
       simp
     · rw[if_neg c,if_neg (by simp;omega)]
theorem zkb (ls:List Ly)(ws:List (Option Int)):(lay2 ls ws).length=min ls.length ws.length:=by unfold lay2;exact List.length_zipWith
@[irreducible] noncomputable def ELd (x y z a:Nat)(v4:Option D):Ev:=[some (.ref x),some (.ref y),some (.ref z),some (.ref a),v4]
theorem ziV (h1:S.get x=some (.lst (ls.map lD)))(h2:S.get y=some (.lst (qs.map .int)))(h3:S.get z=some (.lst (ws.map oD)))(hk:∀l∈ls,LOk l)(hl:ls.length<=100) :
  app (callF prog (f+1)) 12 [.ref x,.ref y,.ref z] S=.ok (.ref S.len) (S.push (.lst ((lay2 (lyn qs ls) ws).map lD))):=by
 refine zbI (F:=c_law_laid) rfl rfl ?_
 have g1:S.enter.get x=some (.lst (ls.map lD)):=by rw[zap];exact h1
 have g2:S.enter.get y=some (.lst (qs.map .int)):=by rw[zap];exact h2
 have g3:S.enter.get z=some (.lst (ws.map oD)):=by rw[zap];exact h3
 have q1:=zaD h1
 have q2:=zaD h2
 have q3:=zaD h3
 have hF:(S.frz++S.new).length=S.len:=zcw S
 conv=>whnf
 refine zaa (by first|decide|omega|(simp;done)|(simp;omega)) ?_
 conv=>whnf
 refine zab (zad g1) ?_
 conv=>whnf
 refine zaE ?_
 refine W.mono (zax (fun i δ T=>T.get y=some (.lst (qs.map .int))/\T.get z=some (.lst (ws.map oD))/\T.frz=S.frz++S.new/\T.lk=[x]/\T.get S.len=some (.lst ((lay2 (lyn qs (ls.take i)) ws).map lD))/\∃v4:Option D,δ=ELd x y z S.len v4) (fun _ _=>False) _ 0 _ _ ?_ ?_) ?_
 · refine⟨zad g2,zad g3,rfl,rfl,?_,none,?_⟩
   · rw[<-enter_len];exact zal S.enter _
   · unfold ELd;rw[<-hF];rfl
 · rintro i d δ T hx ⟨t2,t3,tf,tl,ta,v4,rfl⟩
   rw[Nat.zero_add] at *
   rw[List.getElem?_map] at hx
   cases hr:ls[i]? with
   |none=>rw[hr] at hx;cases hx
   |some l=>
   rw[hr] at hx
   cases hx
   have hlo:=(hk l (List.mem_of_getElem? hr)).lo
   refine⟨ELd x y z S.len (some (lD l)),by unfold ELd;rfl,?_⟩
   rw[zdw hr]
   have e1:lyn qs (ls.take i++[l])=if lstP l∈qs then lyn qs (ls.take i)++[l] else lyn qs (ls.take i):=by
    unfold lyn
    rw[List.filter_append]
    by_cases c:lstP l∈qs
    · rw[if_pos c];simp[c]
    · rw[if_neg c];simp[c]
   have l1:=zeC qs (ls.take i)
   have l3:(ls.take i).length<=100:=by rw[List.length_take];omega
   have lm:=zkb (lyn qs (ls.take i)) ws
   rw[e1]
   generalize lyn qs (ls.take i)=A at *
   have same:lay2 (if lstP l∈qs then A++[l] else A) ws=lay2 A ws->∃v4:Option D,Fl.nx [some (.ref x),some (.ref y),some (.ref z),some (.ref S.len),some (lD l)]=Fl.nx (ELd x y z S.len v4):=fun _=>⟨some (lD l),by unfold ELd;rfl⟩
   refine wS_W _ ?_
   unfold ELd
   have e4:∀(t':Int) (p':List Int) (b':Int) (w':Option Int),atI [D.int t',pD p',.int b',oD w'] 2=some (.int b'):=fun _ _ _ _=>rfl
   conv=>whnf
   refine zab (zeg) ?_
   conv=>whnf
   refine zab (zhp hlo) ?_
   conv=>whnf
   refine zab (zi5 t2 _) ?_
   conv=>whnf
   refine zek (fun c1=>?_) (fun c1=>?_)
   · have c1:lstP l∈qs:=by simpa[lstP] using c1
     rw[if_pos c1,zfc]
     have hal:((List.map lD (lay2 A ws)).length:Int)=(lay2 A ws).length:=by simp
     have hwl:((ws.map oD).length:Int)=ws.length:=by simp
     conv=>whnf
     refine zab (ta) ?_
     conv=>whnf
     refine zab (t3) ?_
     conv=>whnf
     refine zcL (fun c2=>?_) (fun c2=>?_)
     · have c2:(lay2 A ws).length<ws.length:=by simpa using c2
       have c3:A.length<ws.length:=by omega
       have c4:(lay2 A ws).length=A.length:=by omega
       rw[if_pos c3]
       obtain⟨U,u1,u2,u3,u4,u5,u6⟩:=zbS (S:=T) (l:=S.len) (.lst ((lay2 A ws++[(l.1,ws.getD A.length none)]).map lD)) (by rw[tf];omega) (by rw[tl];simp;omega)
       have u1':T.put S.len (.lst ((lay2 A ws).map lD++[.tup [.int l.1.1,pD l.1.2.1,.int l.1.2.2,oD (ws.getD A.length none)]]))=some U:=by rw[<-u1];simp[lD]
       conv=>whnf
       refine zab (ta) ?_
       conv=>whnf
       refine zab (zhr) ?_
       conv=>whnf
       refine zab (zeg) ?_
       conv=>whnf
       refine zab (e4 _ _ _ _) ?_
       conv=>whnf
       refine zab (ta) ?_
       conv=>whnf
       refine zab (t3) ?_
       conv=>whnf
       have e5:atI (ws.map oD) (((lay2 A ws).map lD).length:Int)=some (oD (ws.getD A.length none)):=by
        rw[List.length_map,c4]
        refine zcJ ?_
        rw[List.getElem?_map,List.getElem?_eq_getElem c3]
        simp[c3]
       refine zab (e5) ?_
       conv=>whnf
       refine zaa (by simp) ?_
       conv=>whnf
       refine zab (ta) ?_
       conv=>whnf
       refine zaa (by simp;omega) ?_
       conv=>whnf
       refine zab (u1') ?_
       conv=>whnf
       exact⟨(u5 y (by omega)).trans t2,(u5 z (by omega)).trans t3,u2.trans tf,u3.trans tl,u6 (zaD ta),some (lD l),rfl⟩
     · have c2:¬(lay2 A ws).length<ws.length:=by simpa using c2
       have c3:¬A.length<ws.length:=by omega
       rw[if_neg c3]
       conv=>whnf
       exact⟨t2,t3,tf,tl,ta,some (lD l),rfl⟩
   · have c1:¬lstP l∈qs:=by simpa[lstP] using c1
     rw[if_neg c1]
     conv=>whnf
     exact⟨t2,t3,tf,tl,ta,some (lD l),rfl⟩
 · intro r T h
   cases r with
   |rt d=>exact h.elim
   | nx δ =>
     obtain⟨t2,t3,tf,tl,ta,v4,rfl⟩:=h
     rw[Nat.zero_add,List.length_map,List.take_length] at ta
     unfold ELd
     conv=>whnf
     exact zbQ (Nat.le_refl _) ta (zdm _ _) ⟨rfl,rfl⟩
end
@[irreducible] noncomputable def EK (x y:Nat)(v2:Option D):Ev:=[some (.ref x),some (.ref y),v2]
noncomputable def zmF:CS:=(.ifS (.or (.nt (.tst (.bi (.isin "tuple") (.cons (.ix (.loc 0) (.loc 2)) .nil)))) (.or (.cmp .NotEq (.bi .len (.cons (.ix (.loc 0) (.loc 2)) .nil)) (.con (D.int 4))) (.nt (.tst (.bi (.isin "tuple") (.cons (.ix (.ix (.loc 0) (.loc 2)) (.con (D.int 1))) .nil)))))) (.ret (.con (D.bl false)) .nil) .nil (.ifS (.or (.cmp .NotEq (.sl (.ix (.loc 0) (.loc 2)) false true (.con .non) (.con (D.int 3))) (.sl (.ix (.loc 1) (.loc 2)) false true (.con .non) (.con (D.int 3)))) (.nt (.tst (.call 10 0 (.cons (.ix (.ix (.loc 0) (.loc 2)) (.con (D.int 3))) (.cons (.ix (.ix (.loc 1) (.loc 2)) (.con (D.int 3))) .nil)))))) (.ret (.con (D.bl false)) .nil) .nil .nil))
theorem zmE {f x y i:Nat}{T:R.St}{zs:List Ly}{l:Ly}(gx:T.get x=some (.lst (zs.map lD)))(gy:T.get y=some (.lst (zs.map lD)))(hl:zs[i]?=some l) :
  W (exS (callF prog (f+1)) zmF (EK x y (some (.int i))) T) fun r U=>U=T/\r=.nx (EK x y (some (.int i))):=by
 have at':atI (zs.map lD) (i:Int)=some (lD l):=zcJ (by rw[List.getElem?_map,hl];rfl)
 obtain⟨⟨t,p,c⟩,w⟩:=l
 have e3:atI [D.int t,pD p,.int c,oD w] 3=some (oD w):=rfl
 unfold zmF
 refine wS_W _ ?_
 unfold EK
 conv=>whnf
 refine zab (gx) ?_
 conv=>whnf
 refine zab (at') ?_
 conv=>whnf
 refine zab ((show tyOf T (lD ((t,p,c),w))=some "tuple" from rfl)) ?_
 conv=>whnf
 refine zab (gx) ?_
 conv=>whnf
 refine zab (at') ?_
 conv=>whnf
 refine zab (gx) ?_
 conv=>whnf
 refine zab (at') ?_
 conv=>whnf
 refine zab (zeg) ?_
 conv=>whnf
 refine zab ((show tyOf T (pD p)=some "tuple" from rfl)) ?_
 conv=>whnf
 refine zab (gx) ?_
 conv=>whnf
 refine zab (at') ?_
 conv=>whnf
 refine zab (gy) ?_
 conv=>whnf
 refine zab (at') ?_
 conv=>whnf
 rw[cut3 ((t,p,c),w)]
 refine zab (zi2 (zh3 T 58 t p c)) ?_
 conv=>whnf
 refine zab (gx) ?_
 conv=>whnf
 refine zab (at') ?_
 conv=>whnf
 refine zab (e3) ?_
 conv=>whnf
 refine zab (gy) ?_
 conv=>whnf
 refine zab (at') ?_
 conv=>whnf
 refine zab (e3) ?_
 conv=>whnf
 refine zas (zeX (n:=f)) ?_
 conv=>whnf
 exact⟨rfl,rfl⟩
theorem zf9 {f x y:Nat}{S:R.St}{zs:List Ly}(h1:S.get x=some (.lst (zs.map lD)))(h2:S.get y=some (.lst (zs.map lD)))(hl:zs.length<=100):app (callF prog (f+2)) 13 [.ref x,.ref y] S=.ok (.bl true) S:=by
 refine zbI (F:=c_law_alike) rfl rfl ?_
 have g1:S.enter.get x=some (.lst (zs.map lD)):=by rw[zap];exact h1
 have g2:S.enter.get y=some (.lst (zs.map lD)):=by rw[zap];exact h2
 conv=>whnf
 refine zab (ziG g1) ?_
 conv=>whnf
 refine zab (g1) ?_
 conv=>whnf
 refine zab (g2) ?_
 conv=>whnf
 refine zkP (by simp) ?_
 conv=>whnf
 refine zab (g2) ?_
 conv=>whnf
 refine zaa (by simp;omega) ?_
 conv=>whnf
 refine zaE ?_
 rw[show (((zs.map lD).length:Int)).toNat=zs.length by simp]
 refine W.mono (zax (fun i δ V=>V.get x=some (.lst (zs.map lD))/\V.get y=some (.lst (zs.map lD))/\∃w2:Option D,δ=EK x y w2) (fun _ _=>False) _ 0 _ _ ⟨g1,g2,none,by unfold EK;rfl⟩ ?_) ?_
 · rintro j d δ V hx ⟨v1,v2,w2,rfl⟩
   rw[List.getElem?_map] at hx
   cases hj:(List.range zs.length)[j]? with
   |none=>rw[hj] at hx;cases hx
   |some k=>
   rw[hj] at hx
   cases hx
   have hk:k<zs.length:=by
    have:=List.mem_of_getElem? hj
    simpa using this
   refine⟨EK x y (some (.int k)),by unfold EK;rfl,?_⟩
   refine (zmE (f:=f) v1 v2 (List.getElem?_eq_getElem hk)).mono ?_
   rintro r Y ⟨rfl,rfl⟩
   exact⟨v1,v2,_,rfl⟩
 · intro r V h
   cases r with
   |rt d=>exact h.elim
   | nx δ =>
     obtain⟨v1,v2,w2,rfl⟩:=h
     unfold EK
     conv=>whnf
     exact zaw rfl ⟨rfl,rfl⟩
theorem zkE {cf:CF}{T:R.St}(cs:List Int)(v:Option D):zaG [0] (evT cf (.tst (.con (D.bl true)))) (evE cf (.bin .Mod (.loc 0) (.bin .Pow (.con (D.int 10)) (.con (D.int 64))))) (cs.map D.int) [v] T=.ok ((cs.map fun c=>c % 10 ^ 64).map D.int) T:=by
 have h:=zcR (c:=evT cf (.tst (.con (D.bl true)))) (e:=evE cf (.bin .Mod (.loc 0) (.bin .Pow (.con (D.int 10)) (.con (D.int 64))))) (S:=T) (rest:=[]) (fun d=>match d with|.int c=>.int (c % 10 ^ 64)|d=>d) (cs.map D.int) v (fun x hx=>rfl) (fun x hx=>?_)
 · rw[h,List.map_map,List.map_map];rfl
 · obtain⟨c,_,rfl⟩:=List.mem_map.mp hx
   refine W.eq (wE_W _ ?_)
   conv=>whnf
   refine zaa (by first|decide|omega|(simp;done)|(simp;omega)) ?_
   conv=>whnf
   refine zaa (by first|decide|omega|(simp;done)|(simp;omega)) ?_
   conv=>whnf
   exact⟨rfl,rfl⟩
theorem zkB {f:Nat}{T:R.St}(cs:List Int)(v:Option D):zaG [0] (evT (callF prog (f+1)) (.tst (.con (D.bl true)))) (evE (callF prog (f+1)) (.call 4 0 (.cons (.bin .FloorDiv (.bin .Mod (.loc 0) (.bin .Pow (.con (D.int 10)) (.con (D.int 64)))) (.con (D.int 3))) .nil))) (cs.map D.int) [v] T=.ok ((cs.map fun c=>zcf (c % 10 ^ 64 / 3)).map oD) T:=by
 have h:=zcR (c:=evT (callF prog (f+1)) (.tst (.con (D.bl true)))) (e:=evE (callF prog (f+1)) (.call 4 0 (.cons (.bin .FloorDiv (.bin .Mod (.loc 0) (.bin .Pow (.con (D.int 10)) (.con (D.int 64)))) (.con (D.int 3))) .nil))) (S:=T) (rest:=[]) (fun d=>match d with|.int c=>oD (zcf (c % 10 ^ 64 / 3))|d=>d) (cs.map D.int) v (fun x hx=>rfl) (fun x hx=>?_)
 · rw[h,List.map_map,List.map_map];rfl
 · obtain⟨c,_,rfl⟩:=List.mem_map.mp hx
   refine W.eq (wE_W _ ?_)
   conv=>whnf
   refine zaa (by first|decide|omega|(simp;done)|(simp;omega)) ?_
   conv=>whnf
   refine zaa (by first|decide|omega|(simp;done)|(simp;omega)) ?_
   conv=>whnf
   refine zaa (by first|decide|omega|(simp;done)|(simp;omega)) ?_
   conv=>whnf
   refine zas (ziS (n:=f)) ?_
   conv=>whnf
   exact⟨rfl,rfl⟩
noncomputable def pw3 (k:Int):Int:=match k with|0=>1|1=>3|2=>9|3=>27|4=>81|5=>243|_=>729
theorem znL {k:Int}(h0:0<=k)(h7:k<7):atI [D.int 1,.int 3,.int 9,.int 27,.int 81,.int 243,.int 729] k=some (.int (pw3 k)):=by
 have:k=0\/k=1\/k=2\/k=3\/k=4\/k=5\/k=6:=by omega
 rcases this with rfl|rfl|rfl|rfl|rfl|rfl|rfl<;>rfl
theorem pw_b (k:Int):0<pw3 k/\pw3 k<1073741824:=by unfold pw3;split<;>omega
noncomputable def lgr (ns:List Int)(n:Nat):List Int:=(hnds n).filter fun k=>decide (cellZ ns 1 / pw3 k % 3=1)
theorem zkD {f n:Nat}{T:R.St}{ns:List Int}(hn:n<=7):∀(xs:List Int) (v:Option D) (T:R.St),(∀x∈xs,x∈hnds n)->W (zaG [0] (evT (callF prog (f+1)) (.cmp .Eq (.bin .Mod (.bin .FloorDiv (.call 3 0 (.cons (.loc 1) (.cons (.con (D.int 1)) .nil))) (.ix (.lst (.cons (.con (D.int 1)) (.cons (.con (D.int 3)) (.cons (.con (D.int 9)) (.cons (.con (D.int 27)) (.cons (.con (D.int 81)) (.cons (.con (D.int 243)) (.cons (.con (D.int 729)) .nil)))))))) (.loc 0))) (.con (D.int 3))) (.con (D.int 1)))) (evE (callF prog (f+1)) (.loc 0)) (xs.map D.int) [v,some (.fix (ns.map .int))] T)
  fun ds U=>ds=(xs.filter fun k=>decide (cellZ ns 1 / pw3 k % 3=1)).map D.int/\U.frz=T.frz/\U.lk=T.lk/\∀l o,T.get l=some o->U.get l=some o:=by
 intro xs
 induction xs with
 |nil=>intro v T _;exact⟨rfl,rfl,rfl,fun _ _ h=>h⟩
 | cons x xs ih =>
   intro v T hx
   have hb:=hnds_mem.mp (hx x List.mem_cons_self)
   have hp:=pw_b x
   rw[List.map_cons]
   unfold zaG
   show W (Out.bind (evT _ _ [some (.int x),some (.fix (ns.map .int))] T) _) _
   rw[zac]
   refine W.of (d:=decide (cellZ ns 1 / pw3 x % 3=1)) (S:=T.push (.lst [.int 1,.int 3,.int 9,.int 27,.int 81,.int 243,.int 729])) (W.eq (wT_W _ ?_)) ?_
   · conv=>whnf
     refine zas (zf8 (n:=f) (k:=1)) ?_
     conv=>whnf
     refine zaa (by first|decide|omega|(simp;done)|(simp;omega)) ?_
     conv=>whnf
     refine zab (zal _ _) ?_
     conv=>whnf
     refine zab (znL hb.1 (by omega)) ?_
     conv=>whnf
     refine zaa hp ?_
     conv=>whnf
     refine zaa (by first|decide|omega|(simp;done)|(simp;omega)) ?_
     conv=>whnf
     exact⟨rfl,rfl⟩
   · have ih':=ih (some (.int x)) (T.push (.lst [.int 1,.int 3,.int 9,.int 27,.int 81,.int 243,.int 729])) (fun y hy=>hx y (List.mem_cons_of_mem _ hy))
     by_cases c:cellZ ns 1 / pw3 x % 3=1
     · rw[decide_eq_true c,if_pos rfl]
       show W (Out.bind (Out.ok (D.int x) _) _) _
       rw[zaR,zac]
       refine ih'.mono ?_
       rintro ds U ⟨rfl,h1,h2,h3⟩
       exact⟨by simp[c],h1,h2,fun l o e=>h3 l o (zad e)⟩
     · rw[decide_eq_false c,if_neg (by simp)]
       refine ih'.mono ?_
       rintro ds U ⟨rfl,h1,h2,h3⟩
       exact⟨by simp[c],h1,h2,fun l o e=>h3 l o (zad e)⟩
theorem zms {P:List Fn}{F:Fn}{f n:Nat}{ds:List D}{S:R.St}{Q:D->R.St->Prop}(h:P[f]?=some F)(hl:ds.length=F.np)(hp:F.prim=none)(w:W (exS (callF P n) F.body (zbj F ds) S) fun r T=>match r with|.nx _=>Q .non T|.rt d=>Q d T):W (callF P (n+1) f ds S) Q:=by
 simp only[callF,h,hl,hp,if_true,zac]
 refine w.mono fun r T q=>?_
 cases r<;>exact q
theorem zhs {cf:CF}{i:Nat}{e:CE}{r:CS}{δ:Ev}{S:R.St}{Q:Fl->R.St->Prop}(h:W (evE cf e δ S) fun d S'=>W (exS cf r (δ.set i (some d)) S') Q):W (exS cf (.asg i e r) δ S) Q:=by rw[exS,zac];exact h
@[irreducible] noncomputable def E (ns:List Int)(v1 v2 v3 v4 v5 v6:Option D):Ev:=[some (.fix (ns.map .int)),v1,v2,v3,v4,v5,v6]
theorem cutn {ns:List Int}:∃cs:List Int,cut ns (some 4) (some 62)=cs/\cs.length<=58:=by
 refine⟨_,rfl,?_⟩
 unfold cut
 have h1:sIx ns.length ns.length (some 62)<=62:=by unfold sIx;simp;omega
 have h2:sIx ns.length 0 (some 4)=min 4 ns.length:=by unfold sIx;simp
 have h3:sIx ns.length ns.length (some 62)<=ns.length:=by unfold sIx;simp;omega
 rw[List.length_take]
 omega
structure Gs (A B:R.St):Prop where
 old:∀l o,A.get l=some o->B.get l=some o
 frz:B.frz=A.frz
 lk:B.lk=A.lk
theorem zgp {S:R.St}{x y z:Nat}{ls:List Ly}{qs:List Int}{ws:List (Option Int)}(h1:S.get x=some (.lst (ls.map lD)))(h2:S.get y=some (.lst (qs.map .int)))(h3:S.get z=some (.lst (ws.map oD))):[D.ref x,.ref y,.ref z].mapM (pd S 59)=some [.list (ls.map lP),.list (qs.map .int),.list (ws.map oP)]:=by
 rw[List.mapM_cons,List.mapM_cons,List.mapM_cons,zbi h1 (zdO S 56 ls),zbi h2 (zdc S 58 qs),zbi h3 (zlN S 58 ws)]
 rfl
theorem zj7 {S:R.St}{a b x y z x' y' z':Nat}{ls:List Ly}{qs:List Int}{ws:List (Option Int)}(ha:S.get a=some (.lst [.ref x,.ref y,.ref z]))(hb:S.get b=some (.lst [.ref x',.ref y',.ref z']))(h1:S.get x=some (.lst (ls.map lD)))(h2:S.get y=some (.lst (qs.map .int)))(h3:S.get z=some (.lst (ws.map oD)))(h1':S.get x'=some (.lst (ls.map lD)))(h2':S.get y'=some (.lst (qs.map .int)))(h3':S.get z'=some (.lst (ws.map oD))):cmpO S .NotEq (.ref a) (.ref b)=some false:=by
 show (zcc S _ _).map _=_
 rw[zcG ha,zg8 (zbi ha (zgp h1 h2 h3)) (zbi hb (zgp h1' h2' h3'))];rfl
theorem znq {f x y z a n:Nat}{ns:List Int}{S:R.St}{ls:List Ly}{qs:List Int}{ws:List (Option Int)}{x' y' z':Nat}{v6:Option D}(h1:S.get x=some (.lst (ls.map lD)))(h2:S.get y=some (.lst (qs.map .int)))(h3:S.get z=some (.lst (ws.map oD)))(h1':S.get x'=some (.lst (ls.map lD)))(h2':S.get y'=some (.lst (qs.map .int)))(h3':S.get z'=some (.lst (ws.map oD)))
  (ha:S.get a=some (.lst [.ref x',.ref y',.ref z'])) (hk:∀l∈ls,LOk l) (hl:ls.length<=100) (hfz:S.frz=[]) (hlk:S.lk=[]) :
  W (exS (callF prog (f+2)) (.asg 6 (.call 1 0 (.cons (.ix (.loc 5) (.con (D.int 0))) (.cons (.ix (.loc 5) (.con (D.int 1))) (.cons (.ix (.loc 5) (.con (D.int 2))) .nil)))) (.ifS (.or (.cmp .NotEq (.loc 5) (.lst (.cons (.loc 2) (.cons (.loc 3) (.cons (.loc 4) .nil))))) (.nt (.tst (.call 13 0 (.cons (.loc 6) (.cons (.call 12 0 (.cons (.loc 2) (.cons (.loc 3) (.cons (.loc 4) .nil)))) .nil)))))) (.ret (.con (D.bl false)) .nil) .nil (.expr (.mt .append (.loc 6) (.cons (.tup (.cons (.con (D.int 1)) (.cons (.tup (.cons (.con (D.int 0)) .nil)) (.cons (.con (D.int 1)) (.cons (.con (D.int 0)) .nil))))) .nil)) (.ret (.call 13 0 (.cons (.call 1 0 (.cons (.ix (.loc 5) (.con (D.int 0))) (.cons (.ix (.loc 5) (.con (D.int 1))) (.cons (.ix (.loc 5) (.con (D.int 2))) .nil)))) (.cons (.call 12 0 (.cons (.loc 2) (.cons (.loc 3) (.cons (.loc 4) .nil)))) .nil))) .nil)))) (E ns (some (.int n)) (some (.ref x)) (some (.ref y)) (some (.ref z)) (some (.ref a)) v6) S) fun r T=>match r with|.nx _=>D.non=.bl true|.rt d=>d=.bl true:=by
 have l1:=zfd (lyn qs ls) ws
 have l2:=zeC qs ls
 have e2:atI [D.ref x',.ref y',.ref z'] 2=some (.ref z'):=rfl
 refine zaO (d:=.ref S.len) (S':=S.push (.lst ((lay2 (lyn qs ls) ws).map lD))) (W.eq (wE_W _ ?_)) ?_
 · unfold E
   conv=>whnf
   refine zab (ha) ?_
   conv=>whnf
   refine zab (zhr) ?_
   conv=>whnf
   refine zab (ha) ?_
   conv=>whnf
   refine zab (zeg) ?_
   conv=>whnf
   refine zab (ha) ?_
   conv=>whnf
   refine zab (e2) ?_
   conv=>whnf
   refine zas (ziT (f:=f+1) h1' h2' h3' hk hl) ?_
   conv=>whnf
   exact⟨rfl,rfl⟩
 have g6:(S.push (.lst ((lay2 (lyn qs ls) ws).map lD))).get S.len=some (.lst ((lay2 (lyn qs ls) ws).map lD)):=zal _ _
 have a1:=zad (o:=.lst ((lay2 (lyn qs ls) ws).map lD)) h1
 have a2:=zad (o:=.lst ((lay2 (lyn qs ls) ws).map lD)) h2
 have a3:=zad (o:=.lst ((lay2 (lyn qs ls) ws).map lD)) h3
 have b1:=zad (o:=.lst ((lay2 (lyn qs ls) ws).map lD)) h1'
 have b2:=zad (o:=.lst ((lay2 (lyn qs ls) ws).map lD)) h2'
 have b3:=zad (o:=.lst ((lay2 (lyn qs ls) ws).map lD)) h3'
 have aa:=zad (o:=.lst ((lay2 (lyn qs ls) ws).map lD)) ha
 have hfz':(S.push (.lst ((lay2 (lyn qs ls) ws).map lD))).frz=[]:=hfz
 have hlk':(S.push (.lst ((lay2 (lyn qs ls) ws).map lD))).lk=[]:=hlk
 have nx:S.len≠x:=by have:=zaD h1;omega
 have ny:S.len≠y:=by have:=zaD h2;omega
 have nz:S.len≠z:=by have:=zaD h3;omega
 have mx:S.len≠x':=by have:=zaD h1';omega
 have my:S.len≠y':=by have:=zaD h2';omega
 have mz:S.len≠z':=by have:=zaD h3';omega
 have na:S.len≠a:=by have:=zaD ha;omega
 generalize S.push (.lst ((lay2 (lyn qs ls) ws).map lD))=T at *
 generalize hj:S.len=j at *
 refine zkk (S1:=(T.push (.lst [.ref x,.ref y,.ref z])).push (.lst ((lay2 (lyn qs ls) ws).map lD))) (W.eq (wT_W _ ?_)) ?_
 · unfold E
   conv=>whnf
   refine zaa (by first|decide|omega|(simp;done)|(simp;omega)) ?_
   conv=>whnf
   refine zab (zj7 (zad aa) (zal _ _) (zad b1) (zad b2) (zad b3) (zad a1) (zad a2) (zad a3)) ?_
   conv=>whnf
   refine zas (ziV (f:=f+1) (zad a1) (zad a2) (zad a3) hk hl) ?_
   conv=>whnf
   refine zas (zf9 (f:=f) (zad (zad g6)) (zal _ _) (by omega)) ?_
   conv=>whnf
   exact⟨rfl,rfl⟩
 have g6':=zad (o:=.lst ((lay2 (lyn qs ls) ws).map lD)) (zad (o:=.lst [.ref x,.ref y,.ref z]) g6)
 have a1':=zad (o:=.lst ((lay2 (lyn qs ls) ws).map lD)) (zad (o:=.lst [.ref x,.ref y,.ref z]) a1)
 have a2':=zad (o:=.lst ((lay2 (lyn qs ls) ws).map lD)) (zad (o:=.lst [.ref x,.ref y,.ref z]) a2)
 have a3':=zad (o:=.lst ((lay2 (lyn qs ls) ws).map lD)) (zad (o:=.lst [.ref x,.ref y,.ref z]) a3)
 have b1':=zad (o:=.lst ((lay2 (lyn qs ls) ws).map lD)) (zad (o:=.lst [.ref x,.ref y,.ref z]) b1)
 have b2':=zad (o:=.lst ((lay2 (lyn qs ls) ws).map lD)) (zad (o:=.lst [.ref x,.ref y,.ref z]) b2)
 have b3':=zad (o:=.lst ((lay2 (lyn qs ls) ws).map lD)) (zad (o:=.lst [.ref x,.ref y,.ref z]) b3)
 have aa':=zad (o:=.lst ((lay2 (lyn qs ls) ws).map lD)) (zad (o:=.lst [.ref x,.ref y,.ref z]) aa)
 have fz2:((T.push (.lst [.ref x,.ref y,.ref z])).push (.lst ((lay2 (lyn qs ls) ws).map lD))).frz=[]:=hfz'
 have lk2:((T.push (.lst [.ref x,.ref y,.ref z])).push (.lst ((lay2 (lyn qs ls) ws).map lD))).lk=[]:=hlk'
 generalize (T.push (.lst [.ref x,.ref y,.ref z])).push (.lst ((lay2 (lyn qs ls) ws).map lD))=U at *
 obtain⟨V,u1,u2,u3,u4,u5,u6⟩:=zbS (S:=U) (l:=j) (.lst ((lay2 (lyn qs ls) ws).map lD++[.tup [.int 1,.tup [.int 0],.int 1,.int 0]])) (by rw[fz2];simp) (by rw[lk2];rfl)
 have v1:=(u5 x nx.symm).trans a1'
 have v2:=(u5 y ny.symm).trans a2'
 have v3:=(u5 z nz.symm).trans a3'
 have w1:=(u5 x' mx.symm).trans b1'
 have w2:=(u5 y' my.symm).trans b2'
 have w3:=(u5 z' mz.symm).trans b3'
 have va:=(u5 a na.symm).trans aa'
 refine wS_W _ ?_
 unfold E
 conv=>whnf
 refine zab (g6') ?_
 conv=>whnf
 refine zaa (by simp) ?_
 conv=>whnf
 refine zaa (by simp) ?_
 conv=>whnf
 refine zab (g6') ?_
 conv=>whnf
 refine zaa (by simp;omega) ?_
 conv=>whnf
 refine zab (u1) ?_
 conv=>whnf
 refine zab (va) ?_
 conv=>whnf
 refine zab (zhr) ?_
 conv=>whnf
 refine zab (va) ?_
 conv=>whnf
 refine zab (zeg) ?_
 conv=>whnf
 refine zab (va) ?_
 conv=>whnf
 refine zab (e2) ?_
 conv=>whnf
 refine zas (ziT (f:=f+1) w1 w2 w3 hk hl) ?_
 conv=>whnf
 refine zas (ziV (f:=f+1) (zad v1) (zad v2) (zad v3) hk hl) ?_
 conv=>whnf
 refine zas (zf9 (f:=f) (zad (zal _ _)) (zal _ _) (by omega)) ?_
 conv=>whnf
theorem zgI {f x n:Nat}{ns:List Int}{S:R.St}{ls:List Ly}{v2 v3 v4 v5 v6:Option D}(hn:n<=7)(h1:S.get x=some (.lst (ls.map lD)))(hfz:S.frz=[])(hlk:S.lk=[]):W (evE (callF prog (f+5)) (.mkL (.comp 1 [0] [0] (.rng1 (.loc 1)) (.cmp .Eq (.bin .Mod (.bin .FloorDiv (.call 3 0 (.cons (.loc 1) (.cons (.con (D.int 1)) .nil))) (.ix (.lst (.cons (.con (D.int 1)) (.cons (.con (D.int 3)) (.cons (.con (D.int 9)) (.cons (.con (D.int 27)) (.cons (.con (D.int 81)) (.cons (.con (D.int 243)) (.cons (.con (D.int 729)) .nil)))))))) (.loc 0))) (.con (D.int 3))) (.con (D.int 1))) (.loc 0))) (E ns (some (.int n)) v2 v3 v4 v5 v6) S) fun d T=>d=.ref (T.len - 1)/\0<T.len/\T.frz=[]/\T.lk=[]/\T.get x=some (.lst (ls.map lD))/\T.get (T.len - 1)=some (.lst ((lgr ns n).map .int)):=by
 refine wE_W _ ?_
 unfold E
 conv=>whnf
 refine zaa (by omega) ?_
 conv=>whnf
 refine zaE ?_
 have hl2:(lgr ns n).length<=n:=by
  unfold lgr
  exact Nat.le_trans (List.length_filter_le _ _) (by simp[hnds])
 rw[show ((List.range (n:Int).toNat).map fun (k:Nat)=>D.int k)=(hnds n).map D.int from ze1 n]
 refine (zkD (f:=f+4) (T:=S) hn (hnds n) none _ (fun _ h=>h)).mono ?_
 rintro ds U ⟨rfl,u1,u2,u3⟩
 refine zaa (by show (((hnds n).filter _).map _).length<=_;rw[List.length_map];exact Nat.le_trans hl2 (by omega)) ?_
 conv=>whnf
 refine zaa (by show (((hnds n).filter _).map _).length<=_;rw[List.length_map];exact Nat.le_trans hl2 (by omega)) ?_
 conv=>whnf
 refine⟨?_,?_,u1.trans hfz,hlk,zad (u3 x _ h1),?_⟩
 · rw[plen];rfl
 · rw[plen];omega
 · rw[plen];exact zal _ _
theorem zgF {f:Nat}{ns cs:List Int}{T:R.St}{v1 v2 v3 v4 v5 v6:Option D}(hcs:cut ns (some 4) (some 62)=cs)(hcl:cs.length<=58):evE (callF prog (f+5)) (.mkL (.comp 1 [] [0] (.val (.sl (.loc 0) true true (.con (D.int 4)) (.con (D.int 62)))) (.tst (.con (D.bl true))) (.call 4 0 (.cons (.bin .FloorDiv (.bin .Mod (.loc 0) (.bin .Pow (.con (D.int 10)) (.con (D.int 64)))) (.con (D.int 3))) .nil)))) (E ns v1 v2 v3 v4 v5 v6) T=.ok (.ref (T.len+1)) ((T.push (.lst (cs.map .int))).push (.lst ((cs.map fun c=>zcf (c % 10 ^ 64 / 3)).map oD))):=by
 refine W.eq (wE_W _ ?_)
 unfold E
 conv=>whnf
 rw[zbu,hcs]
 refine zaa (by simp;omega) ?_
 conv=>whnf
 refine zab (zal _ _) ?_
 conv=>whnf
 refine zaE ?_
 refine W.of (zkB (f:=f+4) cs none) ?_
 refine zaa (by simp;omega) ?_
 conv=>whnf
 refine zaa (by simp;omega) ?_
 conv=>whnf
 exact⟨congrArg D.ref (plen T (.lst (cs.map D.int))),rfl⟩
theorem zgH {f j:Nat}{ns:List Int}{U:R.St}{v1 v2 v3 v5 v6:Option D}{ws:List (Option Int)}(wl:ws.length<=60)(p3:U.get j=some (.lst (ws.map oD))):evE (callF prog (f+5)) (.sl (.loc 4) false true (.con .non) (.bin .Mod (.call 3 0 (.cons (.loc 0) (.cons (.con (D.int 2)) .nil))) (.con (D.int 60)))) (E ns v1 v2 v3 (some (.ref j)) v5 v6) U=.ok (.ref U.len) (U.push (.lst ((ws.take (cellZ ns 2 % 60).toNat).map oD))):=by
 have a0:=Int.emod_nonneg (cellZ ns 2) (show (60:Int)≠0 by omega)
 refine W.eq (wE_W _ ?_)
 unfold E
 conv=>whnf
 refine zas (zf8 (n:=f+4) (k:=2)) ?_
 conv=>whnf
 refine zaa (by first|decide|omega|(simp;done)|(simp;omega)) ?_
 conv=>whnf
 refine zab (p3) ?_
 conv=>whnf
 rw[zbu,zbX _ a0]
 refine zaa (by simp;omega) ?_
 conv=>whnf
 exact⟨rfl,rfl⟩
theorem zgG {f x y z:Nat}{ns:List Int}{V:R.St}{ls:List Ly}{qs:List Int}{zs:List (Option Int)}{v1 v5 v6:Option D}(q1:V.get x=some (.lst (ls.map lD)))(q2:V.get y=some (.lst (qs.map .int)))(q3:V.get z=some (.lst (zs.map oD)))(hl:ls.length<=100)(hql:qs.length<=7)(wl2:zs.length<=60):evE (callF prog (f+5)) (.lst (.cons (.mkL (.val (.loc 2))) (.cons (.mkL (.val (.loc 3))) (.cons (.mkL (.val (.loc 4))) .nil)))) (E ns v1 (some (.ref x)) (some (.ref y)) (some (.ref z)) v5 v6) V=.ok (.ref (V.len+3)) ((((V.push (.lst (ls.map lD))).push (.lst (qs.map .int))).push (.lst (zs.map oD))).push (.lst [.ref V.len,.ref (V.len+1),.ref (V.len+2)])):=by
 refine W.eq (wE_W _ ?_)
 unfold E
 conv=>whnf
 refine zab (q1) ?_
 conv=>whnf
 refine zaa (by simp;omega) ?_
 conv=>whnf
 refine zab (zad q2) ?_
 conv=>whnf
 refine zaa (by simp;omega) ?_
 conv=>whnf
 refine zab (zad (zad q3)) ?_
 conv=>whnf
 refine zaa (by simp;omega) ?_
 conv=>whnf
 refine zaa (by first|decide|omega|(simp;done)|(simp;omega)) ?_
 conv=>whnf
 refine⟨?_,?_⟩
 · rw[plen,plen,plen]
 · rw[plen,plen,plen]
noncomputable def q6:CS:=(.asg 6 (.call 1 0 (.cons (.ix (.loc 5) (.con (D.int 0))) (.cons (.ix (.loc 5) (.con (D.int 1))) (.cons (.ix (.loc 5) (.con (D.int 2))) .nil)))) (.ifS (.or (.cmp .NotEq (.loc 5) (.lst (.cons (.loc 2) (.cons (.loc 3) (.cons (.loc 4) .nil))))) (.nt (.tst (.call 13 0 (.cons (.loc 6) (.cons (.call 12 0 (.cons (.loc 2) (.cons (.loc 3) (.cons (.loc 4) .nil)))) .nil)))))) (.ret (.con (D.bl false)) .nil) .nil (.expr (.mt .append (.loc 6) (.cons (.tup (.cons (.con (D.int 1)) (.cons (.tup (.cons (.con (D.int 0)) .nil)) (.cons (.con (D.int 1)) (.cons (.con (D.int 0)) .nil))))) .nil)) (.ret (.call 13 0 (.cons (.call 1 0 (.cons (.ix (.loc 5) (.con (D.int 0))) (.cons (.ix (.loc 5) (.con (D.int 1))) (.cons (.ix (.loc 5) (.con (D.int 2))) .nil)))) (.cons (.call 12 0 (.cons (.loc 2) (.cons (.loc 3) (.cons (.loc 4) .nil)))) .nil))) .nil))))
noncomputable def q5:CS:=(.asg 5 (.lst (.cons (.mkL (.val (.loc 2))) (.cons (.mkL (.val (.loc 3))) (.cons (.mkL (.val (.loc 4))) .nil))))
 q6)
noncomputable def q4b:CS:=(.asg 4 (.sl (.loc 4) false true (.con .non) (.bin .Mod (.call 3 0 (.cons (.loc 0) (.cons (.con (D.int 2)) .nil))) (.con (D.int 60))))
 q5)
noncomputable def q4:CS:=(.asg 4 (.mkL (.comp 1 [] [0] (.val (.sl (.loc 0) true true (.con (D.int 4)) (.con (D.int 62)))) (.tst (.con (D.bl true))) (.call 4 0 (.cons (.bin .FloorDiv (.bin .Mod (.loc 0) (.bin .Pow (.con (D.int 10)) (.con (D.int 64)))) (.con (D.int 3))) .nil))))
 q4b)
noncomputable def qif:CS:=(.ifS (.or (.nt (.tst (.call 11 0 (.cons (.loc 2) .nil)))) (.nt (.tst (.call 8 0 (.cons (.loc 2) (.cons (.loc 1) .nil)))))) (.ret (.con (D.bl false)) .nil) .nil
 q4)
noncomputable def q3:CS:=(.asg 3 (.mkL (.comp 1 [0] [0] (.rng1 (.loc 1)) (.cmp .Eq (.bin .Mod (.bin .FloorDiv (.call 3 0 (.cons (.loc 1) (.cons (.con (D.int 1)) .nil))) (.ix (.lst (.cons (.con (D.int 1)) (.cons (.con (D.int 3)) (.cons (.con (D.int 9)) (.cons (.con (D.int 27)) (.cons (.con (D.int 81)) (.cons (.con (D.int 243)) (.cons (.con (D.int 729)) .nil)))))))) (.loc 0))) (.con (D.int 3))) (.con (D.int 1))) (.loc 0)))
 qif)
theorem zno {f x y z n:Nat}{ns:List Int}{V:R.St}{ls:List Ly}{qs:List Int}{zs:List (Option Int)}{v5 v6:Option D}(q1:V.get x=some (.lst (ls.map lD)))(q2:V.get y=some (.lst (qs.map .int)))(q3:V.get z=some (.lst (zs.map oD)))(hk:∀l∈ls,LOk l)(hl:ls.length<=100)(hql:qs.length<=7)(wl2:zs.length<=60)(qf:V.frz=[])(qk:V.lk=[]) :
  W (exS (callF prog (f+5)) q5 (E ns (some (.int n)) (some (.ref x)) (some (.ref y)) (some (.ref z)) v5 v6) V) fun r T=>match r with|.nx _=>D.non=.bl true|.rt d=>d=.bl true:=by
 unfold q5
 refine zaO (zgG q1 q2 q3 hl hql wl2) ?_
 have r1:=zad (o:=.lst [.ref V.len,.ref (V.len+1),.ref (V.len+2)]) (zad (o:=.lst (zs.map oD)) (zad (o:=.lst (qs.map .int)) (zad (o:=.lst (ls.map lD)) q1)))
 have r2:=zad (o:=.lst [.ref V.len,.ref (V.len+1),.ref (V.len+2)]) (zad (o:=.lst (zs.map oD)) (zad (o:=.lst (qs.map .int)) (zad (o:=.lst (ls.map lD)) q2)))
 have r3:=zad (o:=.lst [.ref V.len,.ref (V.len+1),.ref (V.len+2)]) (zad (o:=.lst (zs.map oD)) (zad (o:=.lst (qs.map .int)) (zad (o:=.lst (ls.map lD)) q3)))
 have s1:=zad (o:=.lst [.ref V.len,.ref (V.len+1),.ref (V.len+2)]) (zad (o:=.lst (zs.map oD)) (zad (o:=.lst (qs.map .int)) (zal V (.lst (ls.map lD)))))
 have s2:=zad (o:=.lst [.ref V.len,.ref (V.len+1),.ref (V.len+2)]) (zad (o:=.lst (zs.map oD)) (zal (V.push (.lst (ls.map lD))) (.lst (qs.map .int))))
 have s3:=zad (o:=.lst [.ref V.len,.ref (V.len+1),.ref (V.len+2)]) (zal ((V.push (.lst (ls.map lD))).push (.lst (qs.map .int))) (.lst (zs.map oD)))
 have sa:=zal (((V.push (.lst (ls.map lD))).push (.lst (qs.map .int))).push (.lst (zs.map oD))) (.lst [.ref V.len,.ref (V.len+1),.ref (V.len+2)])
 rw[plen] at s2
 rw[plen,plen] at s3
 rw[plen,plen,plen] at sa
 have e:((E ns (some (.int n)) (some (.ref x)) (some (.ref y)) (some (.ref z)) v5 v6).set 5 (some (.ref (V.len+3))))=E ns (some (.int n)) (some (.ref x)) (some (.ref y)) (some (.ref z)) (some (.ref (V.len+3))) v6:=by unfold E;rfl
 rw[e]
 unfold q6
 exact znq (f:=f+3) r1 r2 r3 s1 s2 s3 sa hk hl qf qk
theorem zl7 {f x y j n:Nat}{ns:List Int}{U:R.St}{ls:List Ly}{qs:List Int}{ws:List (Option Int)}{v5 v6:Option D}(p1:U.get x=some (.lst (ls.map lD)))(p2:U.get y=some (.lst (qs.map .int)))(p3:U.get j=some (.lst (ws.map oD)))(hk:∀l∈ls,LOk l)(hl:ls.length<=100)(hql:qs.length<=7)(wl:ws.length<=60)(pf:U.frz=[])(pk:U.lk=[]) :
  W (exS (callF prog (f+5)) q4b (E ns (some (.int n)) (some (.ref x)) (some (.ref y)) (some (.ref j)) v5 v6) U) fun r T=>match r with|.nx _=>D.non=.bl true|.rt d=>d=.bl true:=by
 unfold q4b
 refine zaO (zgH wl p3) ?_
 rw[show (E ns (some (.int n)) (some (.ref x)) (some (.ref y)) (some (.ref j)) v5 v6).set 4 (some (.ref U.len))=E ns (some (.int n)) (some (.ref x)) (some (.ref y)) (some (.ref U.len)) v5 v6 by unfold E;rfl]
 exact zno (zad p1) (zad p2) (zal _ _) hk hl hql (by rw[List.length_take];omega) pf pk
theorem znp {f x y n:Nat}{ns:List Int}{T:R.St}{ls:List Ly}{qs:List Int}{v4 v5 v6:Option D}(t1:T.get x=some (.lst (ls.map lD)))(t2:T.get y=some (.lst (qs.map .int)))(hk:∀l∈ls,LOk l)(hl:ls.length<=100)(hql:qs.length<=7)(tfz:T.frz=[])(tlk:T.lk=[]) :
  W (exS (callF prog (f+5)) q4 (E ns (some (.int n)) (some (.ref x)) (some (.ref y)) v4 v5 v6) T) fun r T=>match r with|.nx _=>D.non=.bl true|.rt d=>d=.bl true:=by
 unfold q4
 obtain⟨cs,hcs,hcl⟩:=cutn (ns:=ns)
 refine zaO (zgF hcs hcl) ?_
 rw[show (E ns (some (.int n)) (some (.ref x)) (some (.ref y)) v4 v5 v6).set 4 (some (.ref (T.len+1)))=E ns (some (.int n)) (some (.ref x)) (some (.ref y)) (some (.ref (T.len+1))) v5 v6 by unfold E;rfl]
 have p3:=zal (T.push (.lst (cs.map .int))) (.lst ((cs.map fun c=>zcf (c % 10 ^ 64 / 3)).map oD))
 rw[plen] at p3
 exact zl7 (zad (zad t1)) (zad (zad t2)) p3 hk hl hql (by simp;omega) tfz tlk
theorem znB {f x n:Nat}{ns:List Int}{T:R.St}{ls:List Ly}{v3 v4 v5 v6:Option D}(t1:T.get x=some (.lst (ls.map lD)))(hl:ls.length<=100):evE (callF prog (f+5)) (.call 11 0 (.cons (.loc 2) .nil)) (E ns (some (.int n)) (some (.ref x)) v3 v4 v5 v6) T=.ok (.bl true) T:=by
 unfold E
 exact zjy t1 hl
theorem ziq {cf:CF}{f:Nat}{a b:CE}{δ:Ev}{T:R.St}{x y:D}(h1:evE cf a δ T=.ok x T)(h2:evE cf b δ T=.ok y T):evE cf (.call f 0 (.cons a (.cons b .nil))) δ T=app cf f [x,y] T:=by
 simp only[evE,evEs,h1,h2,zaR,List.replicate_zero,List.append_nil]
theorem ev_8 {f x n:Nat}{ns:List Int}{T:R.St}{ls:List Ly}{v3 v4 v5 v6:Option D}(hn:n<=7)(t1:T.get x=some (.lst (ls.map lD)))(hl:ls.length<=100):evE (callF prog (f+3)) (.call 8 0 (.cons (.loc 2) (.cons (.loc 1) .nil))) (E ns (some (.int n)) (some (.ref x)) v3 v4 v5 v6) T=.ok (.bl true) T:=by
 have a1:evE (callF prog (f+3)) (.loc 2) (E ns (some (.int n)) (some (.ref x)) v3 v4 v5 v6) T=.ok (.ref x) T:=by unfold E;rfl
 have a2:evE (callF prog (f+3)) (.loc 1) (E ns (some (.int n)) (some (.ref x)) v3 v4 v5 v6) T=.ok (.int n) T:=by unfold E;rfl
 exact (ziq a1 a2).trans (zhJ hn t1 hl)
theorem znA {cf:CF}{a b:CE}{δ:Ev}{T:R.St}(h1:evE cf a δ T=.ok (.bl true) T)(h2:evE cf b δ T=.ok (.bl true) T):evT cf (.or (.nt (.tst a)) (.nt (.tst b))) δ T=.ok false T:=by
 simp only[evT,h1,h2,zaR,tru,lift,Bool.not_true,Bool.false_eq_true,if_false]
theorem zl6 {f x y n:Nat}{ns:List Int}{T:R.St}{ls:List Ly}{qs:List Int}{v4 v5 v6:Option D}(hn:n<=7)(t1:T.get x=some (.lst (ls.map lD)))(t2:T.get y=some (.lst (qs.map .int)))(hk:∀l∈ls,LOk l)(hl:ls.length<=100)(hql:qs.length<=7)(tfz:T.frz=[])(tlk:T.lk=[]) :
  W (exS (callF prog (f+5)) qif (E ns (some (.int n)) (some (.ref x)) (some (.ref y)) v4 v5 v6) T) fun r T=>match r with|.nx _=>D.non=.bl true|.rt d=>d=.bl true:=by
 unfold qif
 exact zkk (znA (znB t1 hl) (ev_8 (f:=f+2) hn t1 hl)) (znp t1 t2 hk hl hql tfz tlk)
theorem znr {f x n:Nat}{ns:List Int}{S:R.St}{ls:List Ly}{v3 v4 v5 v6:Option D}(hn:n<=7)(h1:S.get x=some (.lst (ls.map lD)))(hk:∀l∈ls,LOk l)(hl:ls.length<=100)(hfz:S.frz=[])(hlk:S.lk=[]) :
  W (exS (callF prog (f+5)) q3 (E ns (some (.int n)) (some (.ref x)) v3 v4 v5 v6) S) fun r T=>match r with|.nx _=>D.non=.bl true|.rt d=>d=.bl true:=by
 unfold q3
 refine zhs ((zgI hn h1 hfz hlk).mono ?_)
 rintro d T ⟨rfl,tp,tfz,tlk,t1,t2⟩
 rw[show (E ns (some (.int n)) (some (.ref x)) v3 v4 v5 v6).set 3 (some (.ref (T.len - 1)))=E ns (some (.int n)) (some (.ref x)) (some (.ref (T.len - 1))) v4 v5 v6 by unfold E;rfl]
 have hql:(lgr ns n).length<=7:=by
  unfold lgr
  exact Nat.le_trans (List.length_filter_le _ _) (by simp[hnds];omega)
 exact zl6 hn t1 t2 hk hl hql tfz tlk
theorem law_true (ns:List Int)(hl:ns.length<=63):W (callF prog 8 14 [.fix (ns.map .int)] ⟨[],[],[]⟩) fun d _=>d=.bl true:=by
 refine zms (F:=c_law) rfl rfl rfl ?_
 have b0:=Int.emod_nonneg (cellZ ns 0) (show (6:Int)≠0 by omega)
 have b1:=Int.emod_lt_of_pos (cellZ ns 0) (show (0:Int)<6 by omega)
 obtain⟨n,hn⟩:∃n:Nat,2+cellZ ns 0 % 6=n:=⟨(2+cellZ ns 0 % 6).toNat,by omega⟩
 show W (exS (callF prog 7) c_law.body [some (.fix (ns.map .int)),none,none,none,none,none,none] ⟨[],[],[]⟩) _
 rw[show ([some (.fix (ns.map .int)),none,none,none,none,none,none]:Ev)=E ns none none none none none none by unfold E;rfl]
 refine zaO (d:=.int n) (S':=⟨[],[],[]⟩) (W.eq (wE_W _ ?_)) ?_
 · unfold E
   conv=>whnf
   refine zas (zf8 (n:=6) (k:=0)) ?_
   conv=>whnf
   refine zaa (by first|decide|omega|(simp;done)|(simp;omega)) ?_
   conv=>whnf
   exact⟨by rw[<-hn],rfl⟩
 obtain⟨cs,hcs,hcl⟩:=cutn (ns:=ns)
 obtain⟨ls,hk,hll,e⟩:=zjA (f:=3) (n:=n) (q:=1) (S:=⟨[],[.lst (cs.map .int),.lst ((cs.map fun c=>c % 10 ^ 64).map .int)],[]⟩) (cs:=cs.map fun c=>c % 10 ^ 64) (by omega) (by omega) rfl (by simp;omega)
 refine zaO (d:=.ref 2) (S':=⟨[],[.lst (cs.map .int),.lst ((cs.map fun c=>c % 10 ^ 64).map .int),.lst (ls.map lD)],[]⟩) (W.eq (wE_W _ ?_)) ?_
 · unfold E
   conv=>whnf
   rw[zbu,hcs]
   refine zaa (by simp;omega) ?_
   conv=>whnf
   refine zab (zal _ _) ?_
   conv=>whnf
   refine zaE ?_
   refine W.of (zkE cs none) ?_
   refine zaa (by simp;omega) ?_
   conv=>whnf
   refine zaa (by simp;omega) ?_
   conv=>whnf
   refine zas (e) ?_
   conv=>whnf
   exact⟨rfl,rfl⟩
 rw[show ((E ns none none none none none none).set 1 (some (.int n))).set 2 (some (.ref 2))=E ns (some (.int n)) (some (.ref 2)) none none none none by unfold E;rfl]
 simp only[List.length_map] at hll
 exact znr (f:=2) (by omega) rfl hk (by omega) rfl rfl
end
section
open PySem R L2
set_option maxHeartbeats 0 in
theorem all_mk {l:PySem.W.OpenLaw}{w:World}{K:PySem.W.Frag}{h:Heap}{mg:Str->Option Value}{fa f1 f2 f3 f4 f5 f6 f7 f8 f9 f10 f11 f12 f13 f14 f15:Addr}(X:K.In h)(G:h.Ns mainGlobals mg)(hfa:mg "law"=some (.ref fa))
  {od1 an1 od2 an2 od3 an3 od4 an4 od5 an5 od6 an6 od7 an7 od8 an8 od9 an9 od10 an10 od11 an11 od12 an12 od13 an13 od14 an14 od15 an15:Option Addr} {sl1 sl2 sl3 sl4 sl5 sl6 sl7 sl8 sl9 sl10 sl11 sl12 sl13 sl14 sl15:Array (Option Value)} {oc1 kV1 dc1 pm1 ct1 oc2 kV2 dc2 pm2 cd2 ct2 oc3 kV3 dc3 pm3 cd3 ct3 oc4 kV4 dc4 pm4 cd4 ct4 oc5 kV5 dc5 pm5 cd5 ct5 oc6 kV6 dc6 pm6 cd6 ct6 oc7 kV7 dc7 pm7 cd7 ct7 oc8 kV8 dc8 pm8 cd8 ct8 oc9 kV9 dc9 pm9 cd9 ct9 oc10 kV10 dc10 pm10 cd10 ct10 oc11 kV11 dc11 pm11 cd11 ct11 oc12 kV12 dc12 pm12 cd12 ct12 oc13 kV13 dc13 pm13 cd13 ct13 oc14 kV14 dc14 pm14 cd14 ct14 oc15 kV15 dc15 pm15 cd15 ct15:Value}
  {cc1:Addr} (a1:PySem.W.nsIn K mainGlobals "road"=some (some (.ref f1))) (l1:K.lookup f1=some ⟨oc1,od1,.func (PySem.W.fnOf "road" "road" (zam zb2) (zah zb2) (zae zb2) .none kV1 dc1 pm1 an1 (.ref cc1) ct1),sl1⟩) (c1:PySem.W.codeIn K (.ref cc1) "road"=true) (k1:PySem.W.keepIn K (.ref f1)=true) (h1:PySem.W.codeHdIn K cc1 16=true)
  (a2:PySem.W.nsIn K mainGlobals "lies_of"=some (some (.ref f2))) (l2:K.lookup f2=some ⟨oc2,od2,.func (PySem.W.fnOf "lies_of" "lies_of" (zam zaS) (zah zaS) (zae zaS) .none kV2 dc2 pm2 an2 cd2 ct2),sl2⟩) (c2:PySem.W.codeIn K cd2 "lies_of"=true) (k2:PySem.W.keepIn K (.ref f2)=true)
  (a3:PySem.W.nsIn K mainGlobals "heard"=some (some (.ref f3))) (l3:K.lookup f3=some ⟨oc3,od3,.func (PySem.W.fnOf "heard" "heard" (zam za8) (zah za8) (zae za8) .none kV3 dc3 pm3 an3 cd3 ct3),sl3⟩) (c3:PySem.W.codeIn K cd3 "heard"=true) (k3:PySem.W.keepIn K (.ref f3)=true)
  (a4:PySem.W.nsIn K mainGlobals "_law_cell_at"=some (some (.ref f4))) (l4:K.lookup f4=some ⟨oc4,od4,.func (PySem.W.fnOf "_law_cell_at" "_law_cell_at" (zam zar) (zah zar) (zae zar) .none kV4 dc4 pm4 an4 cd4 ct4),sl4⟩) (c4:PySem.W.codeIn K cd4 "_law_cell_at"=true) (k4:PySem.W.keepIn K (.ref f4)=true)
  (a5:PySem.W.nsIn K mainGlobals "_law_word"=some (some (.ref f5))) (l5:K.lookup f5=some ⟨oc5,od5,.func (PySem.W.fnOf "_law_word" "_law_word" (zam zaK) (zah zaK) (zae zaK) .none kV5 dc5 pm5 an5 cd5 ct5),sl5⟩) (c5:PySem.W.codeIn K cd5 "_law_word"=true) (k5:PySem.W.keepIn K (.ref f5)=true)
  (a6:PySem.W.nsIn K mainGlobals "_law_order"=some (some (.ref f6))) (l6:K.lookup f6=some ⟨oc6,od6,.func (PySem.W.fnOf "_law_order" "_law_order" (zam zaz) (zah zaz) (zae zaz) .none kV6 dc6 pm6 an6 cd6 ct6),sl6⟩) (c6:PySem.W.codeIn K cd6 "_law_order"=true) (k6:PySem.W.keepIn K (.ref f6)=true)
  (a7:PySem.W.nsIn K mainGlobals "_law_turned"=some (some (.ref f7))) (l7:K.lookup f7=some ⟨oc7,od7,.func (PySem.W.fnOf "_law_turned" "_law_turned" (zam zat) (zah zat) (zae zat) .none kV7 dc7 pm7 an7 cd7 ct7),sl7⟩) (c7:PySem.W.codeIn K cd7 "_law_turned"=true) (k7:PySem.W.keepIn K (.ref f7)=true)
  (a8:PySem.W.nsIn K mainGlobals "_law_lines"=some (some (.ref f8))) (l8:K.lookup f8=some ⟨oc8,od8,.func (PySem.W.fnOf "_law_lines" "_law_lines" (zam zaA) (zah zaA) (zae zaA) .none kV8 dc8 pm8 an8 cd8 ct8),sl8⟩) (c8:PySem.W.codeIn K cd8 "_law_lines"=true) (k8:PySem.W.keepIn K (.ref f8)=true)
  (a9:PySem.W.nsIn K mainGlobals "_law_heard"=some (some (.ref f9))) (l9:K.lookup f9=some ⟨oc9,od9,.func (PySem.W.fnOf "_law_heard" "_law_heard" (zam zaB) (zah zaB) (zae zaB) .none kV9 dc9 pm9 an9 cd9 ct9),sl9⟩) (c9:PySem.W.codeIn K cd9 "_law_heard"=true) (k9:PySem.W.keepIn K (.ref f9)=true)
  (a10:PySem.W.nsIn K mainGlobals "_law_last"=some (some (.ref f10))) (l10:K.lookup f10=some ⟨oc10,od10,.func (PySem.W.fnOf "_law_last" "_law_last" (zam zaM) (zah zaM) (zae zaM) .none kV10 dc10 pm10 an10 cd10 ct10),sl10⟩) (c10:PySem.W.codeIn K cd10 "_law_last"=true) (k10:PySem.W.keepIn K (.ref f10)=true)
  (a11:PySem.W.nsIn K mainGlobals "_law_same"=some (some (.ref f11))) (l11:K.lookup f11=some ⟨oc11,od11,.func (PySem.W.fnOf "_law_same" "_law_same" (zam zaL) (zah zaL) (zae zaL) .none kV11 dc11 pm11 an11 cd11 ct11),sl11⟩) (c11:PySem.W.codeIn K cd11 "_law_same"=true) (k11:PySem.W.keepIn K (.ref f11)=true)
  (a12:PySem.W.nsIn K mainGlobals "_law_roads"=some (some (.ref f12))) (l12:K.lookup f12=some ⟨oc12,od12,.func (PySem.W.fnOf "_law_roads" "_law_roads" (zam zay) (zah zay) (zae zay) .none kV12 dc12 pm12 an12 cd12 ct12),sl12⟩) (c12:PySem.W.codeIn K cd12 "_law_roads"=true) (k12:PySem.W.keepIn K (.ref f12)=true)
  (a13:PySem.W.nsIn K mainGlobals "_law_laid"=some (some (.ref f13))) (l13:K.lookup f13=some ⟨oc13,od13,.func (PySem.W.fnOf "_law_laid" "_law_laid" (zam zaN) (zah zaN) (zae zaN) .none kV13 dc13 pm13 an13 cd13 ct13),sl13⟩) (c13:PySem.W.codeIn K cd13 "_law_laid"=true) (k13:PySem.W.keepIn K (.ref f13)=true)
  (a14:PySem.W.nsIn K mainGlobals "_law_alike"=some (some (.ref f14))) (l14:K.lookup f14=some ⟨oc14,od14,.func (PySem.W.fnOf "_law_alike" "_law_alike" (zam zaC) (zah zaC) (zae zaC) .none kV14 dc14 pm14 an14 cd14 ct14),sl14⟩) (c14:PySem.W.codeIn K cd14 "_law_alike"=true) (k14:PySem.W.keepIn K (.ref f14)=true)
  (a15:PySem.W.nsIn K mainGlobals "law"=some (some (.ref f15))) (l15:K.lookup f15=some ⟨oc15,od15,.func (PySem.W.fnOf "law" "law" (zam zbp) (zah zbp) (zae zbp) .none kV15 dc15 pm15 an15 cd15 ct15),sl15⟩) (c15:PySem.W.codeIn K cd15 "law"=true) (k15:PySem.W.keepIn K (.ref f15)=true)
  (z_bool:PySem.W.nsIn K mainGlobals "bool"=some none)
  (z_int:PySem.W.nsIn K mainGlobals "int"=some none)
  (z_isinstance:PySem.W.nsIn K mainGlobals "isinstance"=some none)
  (z_len:PySem.W.nsIn K mainGlobals "len"=some none)
  (z_list:PySem.W.nsIn K mainGlobals "list"=some none)
  (z_min:PySem.W.nsIn K mainGlobals "min"=some none)
  (z_range:PySem.W.nsIn K mainGlobals "range"=some none)
  (z_tuple:PySem.W.nsIn K mainGlobals "tuple"=some none)
  (z_zip:PySem.W.nsIn K mainGlobals "zip"=some none)
  : ∃fd:FuncData,(∀(s:Shared) (v:Value),BindsTo s fd ⟨[v],[]⟩ [("_law_script",v)])/\∀base:Heap,K.In base->base.Ns mainGlobals mg->BM mg base->FnOk l.prog w K mg base CX0 16 fa fd ["_law_script"] (spF K (callF prog 8) 14):=by
 have e:=hfa.symm.trans (PySem.W.mg_of X G a15)
 cases e
 have F1:=zaQ (st:=zb2) l1 c1 k1
 have m1:=PySem.W.mg_of X G a1
 have b1_0:=F1.binds (ps:=["lies"]) fun _ _ _ _ _ _ us hl=>match us,hl with | [_],_=>rfl
 have F2:=zaQ (st:=zaS) l2 c2 k2
 have m2:=PySem.W.mg_of X G a2
 have b2_0:=F2.binds (ps:=["letters","liars","row"]) fun _ _ _ _ _ _ us hl=>match us,hl with | [_,_,_],_=>rfl
 have F3:=zaQ (st:=za8) l3 c3 k3
 have m3:=PySem.W.mg_of X G a3
 have b3_0:=F3.binds (ps:=["letters","place"]) fun _ _ _ _ _ _ us hl=>match us,hl with | [_,_],_=>rfl
 have F4:=zaQ (st:=zar) l4 c4 k4
 have m4:=PySem.W.mg_of X G a4
 have b4_0:=F4.binds (ps:=["_law_script","_law_k"]) fun _ _ _ _ _ _ us hl=>match us,hl with | [_,_],_=>rfl
 have F5:=zaQ (st:=zaK) l5 c5 k5
 have m5:=PySem.W.mg_of X G a5
 have b5_0:=F5.binds (ps:=["_law_cell"]) fun _ _ _ _ _ _ us hl=>match us,hl with | [_],_=>rfl
 have F6:=zaQ (st:=zaz) l6 c6 k6
 have m6:=PySem.W.mg_of X G a6
 have b6_0:=F6.binds (ps:=["_law_number","_law_many"]) fun _ _ _ _ _ _ us hl=>match us,hl with | [_,_],_=>rfl
 have F7:=zaQ (st:=zat) l7 c7 k7
 have m7:=PySem.W.mg_of X G a7
 have b7_0:=F7.binds (ps:=["_law_line","_law_number","_law_many"]) fun _ _ _ _ _ _ us hl=>match us,hl with | [_,_,_],_=>rfl
 have F8:=zaQ (st:=zaA) l8 c8 k8
 have m8:=PySem.W.mg_of X G a8
 have b8_0:=F8.binds (ps:=["_law_cells","_law_many"]) fun _ _ _ _ _ _ us hl=>match us,hl with | [_,_],_=>rfl
 have F9:=zaQ (st:=zaB) l9 c9 k9
 have m9:=PySem.W.mg_of X G a9
 have b9_0:=F9.binds (ps:=["_law_lines_here","_law_many"]) fun _ _ _ _ _ _ us hl=>match us,hl with | [_,_],_=>rfl
 have F10:=zaQ (st:=zaM) l10 c10 k10
 have m10:=PySem.W.mg_of X G a10
 have b10_0:=F10.binds (ps:=["_law_lies","_law_turn","_law_path","_law_to","_law_word_here"]) fun _ _ _ _ _ _ us hl=>match us,hl with | [_,_,_,_,_],_=>rfl
 have F11:=zaQ (st:=zaL) l11 c11 k11
 have m11:=PySem.W.mg_of X G a11
 have b11_0:=F11.binds (ps:=["_law_found","_law_due"]) fun _ _ _ _ _ _ us hl=>match us,hl with | [_,_],_=>rfl
 have F12:=zaQ (st:=zay) l12 c12 k12
 have m12:=PySem.W.mg_of X G a12
 have b12_0:=F12.binds (ps:=["_law_lies"]) fun _ _ _ _ _ _ us hl=>match us,hl with | [_],_=>rfl
 have F13:=zaQ (st:=zaN) l13 c13 k13
 have m13:=PySem.W.mg_of X G a13
 have b13_0:=F13.binds (ps:=["_law_letters","_law_liars","_law_words"]) fun _ _ _ _ _ _ us hl=>match us,hl with | [_,_,_],_=>rfl
 have F14:=zaQ (st:=zaC) l14 c14 k14
 have m14:=PySem.W.mg_of X G a14
 have b14_0:=F14.binds (ps:=["_law_found","_law_due"]) fun _ _ _ _ _ _ us hl=>match us,hl with | [_,_],_=>rfl
 have F15:=zaQ (st:=zbp) l15 c15 k15
 have m15:=PySem.W.mg_of X G a15
 have b15_0:=F15.binds (ps:=["_law_script"]) fun _ _ _ _ _ _ us hl=>match us,hl with | [_],_=>rfl
 have hb:∀x,tab.blt.contains x=true->mg x=none:=AllIn.get (l:=tab.blt) (And.intro (PySem.W.mg_none_of X G z_bool) (And.intro (PySem.W.mg_none_of X G z_int) (And.intro (PySem.W.mg_none_of X G z_isinstance) (And.intro (PySem.W.mg_none_of X G z_len) (And.intro (PySem.W.mg_none_of X G z_list) (And.intro (PySem.W.mg_none_of X G z_min) (And.intro (PySem.W.mg_none_of X G z_range) (And.intro (PySem.W.mg_none_of X G z_tuple) (And.intro (PySem.W.mg_none_of X G z_zip) trivial)))))))))
 have hc:∀x d,tab.cons.lookup x=some d->zhG d=true/\∃u,mg x=some u/\RelV (sV d) u:=by
  intro x d hx
  cases hx
 have hd:∀base:Heap,BM mg base->∀fi x ps nd,tab.fns[fi]?=some (x,ps,nd)->DefOk K mg tab prog fi x ps nd\/PrimOk l.prog w K mg base prog fi x ps nd:=fun base bm fi x ps nd hf=>AllAt.get (P:=fun fi q=>DefOk K mg tab prog fi q.1 q.2.1 q.2.2\/PrimOk l.prog w K mg base prog fi q.1 q.2.1 q.2.2) (l:=tab.fns)
  (And.intro (.inr ⟨⟨zjc,.road,_,_,rfl,rfl,rfl,m1,k1,(fun j hj=>(Nat.le_zero.mp hj).symm▸b1_0),fun n hn=>zjD l1 c1 h1 zjC bm (by simp only[Mks.ts,mks,List.mem_cons,true_or,or_true]) (fun p hp z=>by simp only[Mks.ts,mks,List.mem_cons,List.not_mem_nil,or_false] at hp;subst hp;rfl) rfl rfl rfl hn⟩⟩) (And.intro (.inl ⟨⟨c_lies_of,_,zaS,_,_,_,_,rfl,rfl,F2,zfA,zfR,rfl,rfl,m2,(fun j hj=>(Nat.le_zero.mp hj).symm▸b2_0)⟩⟩) (And.intro (.inl ⟨⟨c_heard,_,za8,_,_,_,_,rfl,rfl,F3,zhH,ziy,rfl,rfl,m3,(fun j hj=>(Nat.le_zero.mp hj).symm▸b3_0)⟩⟩) (And.intro (.inl ⟨⟨c_law_cell_at,_,zar,_,_,_,_,rfl,rfl,F4,zcM,zcQ,rfl,rfl,m4,(fun j hj=>(Nat.le_zero.mp hj).symm▸b4_0)⟩⟩) (And.intro (.inl ⟨⟨c_law_word,_,zaK,_,_,_,_,rfl,rfl,F5,zen,zeL,rfl,rfl,m5,(fun j hj=>(Nat.le_zero.mp hj).symm▸b5_0)⟩⟩) (And.intro (.inl ⟨⟨c_law_order,_,zaz,_,_,_,_,rfl,rfl,F6,zdB,zd7,rfl,rfl,m6,(fun j hj=>(Nat.le_zero.mp hj).symm▸b6_0)⟩⟩) (And.intro (.inl ⟨⟨c_law_turned,_,zat,_,_,_,_,rfl,rfl,F7,zda,zdq,rfl,rfl,m7,(fun j hj=>(Nat.le_zero.mp hj).symm▸b7_0)⟩⟩) (And.intro (.inl ⟨⟨c_law_lines,_,zaA,_,_,_,_,rfl,rfl,F8,zdC,zd8,rfl,rfl,m8,(fun j hj=>(Nat.le_zero.mp hj).symm▸b8_0)⟩⟩) (And.intro (.inl ⟨⟨c_law_heard,_,zaB,_,_,_,_,rfl,rfl,F9,zdD,zd9,rfl,rfl,m9,(fun j hj=>(Nat.le_zero.mp hj).symm▸b9_0)⟩⟩) (And.intro (.inl ⟨⟨c_law_last,_,zaM,_,_,_,_,rfl,rfl,F10,zep,zeN,rfl,rfl,m10,(fun j hj=>(Nat.le_zero.mp hj).symm▸b10_0)⟩⟩) (And.intro (.inl ⟨⟨c_law_same,_,zaL,_,_,_,_,rfl,rfl,F11,zeo,zeM,rfl,rfl,m11,(fun j hj=>(Nat.le_zero.mp hj).symm▸b11_0)⟩⟩) (And.intro (.inl ⟨⟨c_law_roads,_,zay,_,_,_,_,rfl,rfl,F12,zdA,zd6,rfl,rfl,m12,(fun j hj=>(Nat.le_zero.mp hj).symm▸b12_0)⟩⟩) (And.intro (.inl ⟨⟨c_law_laid,_,zaN,_,_,_,_,rfl,rfl,F13,zeq,zeO,rfl,rfl,m13,(fun j hj=>(Nat.le_zero.mp hj).symm▸b13_0)⟩⟩) (And.intro (.inl ⟨⟨c_law_alike,_,zaC,_,_,_,_,rfl,rfl,F14,zdE,zea,rfl,rfl,m14,(fun j hj=>(Nat.le_zero.mp hj).symm▸b14_0)⟩⟩) (And.intro (.inl ⟨⟨c_law,_,zbp,_,_,_,_,rfl,rfl,F15,ziQ,zjb,rfl,rfl,m15,(fun j hj=>(Nat.le_zero.mp hj).symm▸b15_0)⟩⟩) trivial))))))))))))))) fi _ hf
 refine⟨PySem.W.fnOf "law" "law" (zam zbp) (zah zbp) (zae zbp) .none kV15 dc15 pm15 an15 cd15 ct15,fun s v=>.of_eq rfl,fun base _ _ bm=>?_⟩
 have hk:ClsOk tab K mg prog:=.none rfl rfl rfl rfl rfl rfl
 exact zha (zkZ hb hc (hd base bm) hk 7) F15 rfl ziQ zjb rfl rfl
end
end K23
open PySem PySem.W PyProof.Rows
set_option maxRecDepth 100000 in
set_option maxHeartbeats 0 in
theorem PySem.Challenge.cw_traitorround_k23_roads_of_lies_holds : PySem.Challenge.rw_traitorround_k23_roads_of_lies.Holds := by
 w_on;o_law;k_head;(case hw=>w_witness2)
 k_fill
 refine R.walk_ofT (l:=PySem.Challenge.rw_traitorround_k23_roads_of_lies) (n:=63) (k:=16) (x:="_law_script") (sp:=fun w=>R.spF _ (R.callF K23.prog 8) 14) rfl (by decide) rfl ⟨rfl,by decide,by decide⟩ (fun w h Y=>PySem.W.km_in_of Y) ?hT ?hK ?F (fun _ _ a ns hl hx tb=>R.law_spT hx tb (K23.law_true ns hl))
 case hT=>
  intro w h Y p hp
  simp only[R.Mks.ts,K23.mks,List.mem_cons,List.not_mem_nil,or_false] at hp
  subst hp
  exact PySem.W.km_tabs_of Y 16 (by simp)
 case hK=>
  intro w p hp
  simp only[R.Mks.ts,K23.mks,List.mem_cons,List.not_mem_nil,or_false] at hp
  subst hp
  exact⟨by with_unfolding_all rfl,20,by with_unfolding_all rfl⟩
 case F=>
  intro w mg fa h KX G hmg
  refine' K23.all_mk KX G hmg ?a1 ?l1 ?c1 ?k1 ?h1 ?a2 ?l2 ?c2 ?k2 ?a3 ?l3 ?c3 ?k3 ?a4 ?l4 ?c4 ?k4 ?a5 ?l5 ?c5 ?k5 ?a6 ?l6 ?c6 ?k6 ?a7 ?l7 ?c7 ?k7 ?a8 ?l8 ?c8 ?k8 ?a9 ?l9 ?c9 ?k9 ?a10 ?l10 ?c10 ?k10 ?a11 ?l11 ?c11 ?k11 ?a12 ?l12 ?c12 ?k12 ?a13 ?l13 ?c13 ?k13 ?a14 ?l14 ?c14 ?k14 ?a15 ?l15 ?c15 ?k15 ?z_bool ?z_int ?z_isinstance ?z_len ?z_list ?z_min ?z_range ?z_tuple ?z_zip
  (case a1=>k_is)
  (case l1=>k_is)
  (case c1=>k_is)
  (case k1=>k_is)
  (case h1=>with_unfolding_all rfl)
  (case a2=>k_is)
  (case l2=>k_is)
  (case c2=>k_is)
  (case k2=>k_is)
  (case a3=>k_is)
  (case l3=>k_is)
  (case c3=>k_is)
  (case k3=>k_is)
  (case a4=>k_is)
  (case l4=>k_is)
  (case c4=>k_is)
  (case k4=>k_is)
  (case a5=>k_is)
  (case l5=>k_is)
  (case c5=>k_is)
  (case k5=>k_is)
  (case a6=>k_is)
  (case l6=>k_is)
  (case c6=>k_is)
  (case k6=>k_is)
  (case a7=>k_is)
  (case l7=>k_is)
  (case c7=>k_is)
  (case k7=>k_is)
  (case a8=>k_is)
  (case l8=>k_is)
  (case c8=>k_is)
  (case k8=>k_is)
  (case a9=>k_is)
  (case l9=>k_is)
  (case c9=>k_is)
  (case k9=>k_is)
  (case a10=>k_is)
  (case l10=>k_is)
  (case c10=>k_is)
  (case k10=>k_is)
  (case a11=>k_is)
  (case l11=>k_is)
  (case c11=>k_is)
  (case k11=>k_is)
  (case a12=>k_is)
  (case l12=>k_is)
  (case c12=>k_is)
  (case k12=>k_is)
  (case a13=>k_is)
  (case l13=>k_is)
  (case c13=>k_is)
  (case k13=>k_is)
  (case a14=>k_is)
  (case l14=>k_is)
  (case c14=>k_is)
  (case k14=>k_is)
  (case a15=>k_is)
  (case l15=>k_is)
  (case c15=>k_is)
  (case k15=>k_is)
  (case z_bool=>k_is)
  (case z_int=>k_is)
  (case z_isinstance=>k_is)
  (case z_len=>k_is)
  (case z_list=>k_is)
  (case z_min=>k_is)
  (case z_range=>k_is)
  (case z_tuple=>k_is)
  (case z_zip=>k_is)
end

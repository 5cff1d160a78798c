import PyProof.Rows.All
import Wide.All
import OpenK.AllK
import Wide.FinOn
import Lean
import PyProof.EqAt
import PyProof.EqKinds
import PyProof.TupleCall
import PyProof.P3Statements
import PyProof.Dict
import PySem.Syntax
import PySem.Challenge.RW_traitorround_k62_a_flood_hand
set_option Elab.async false
set_option linter.all false
set_option maxRecDepth 100000
set_option bootstrap.genMatcherCode false
namespace PySem.W.Fast
end PySem.W.Fast
namespace PySem.W.Fast
def tw12477193527139605940:=0
def tw5508259336916115213:=0
def tw9824457688205468551:=0
def tw9273117076659057105:=0
def tw3316415271872152183:=0
def tw10903819385061181864:=0
def tw190862736806810527:=0
def tw1528789832946066621:=0
def tw8865653946190344319:=0
def tw8242626713170425975:=0
def tw2334456441025316272:=0
def tw17739537530367616688:=0
def tw5223057738495288501:=0
def tw17784885384726829431:=0
def tw1107078579036394163:=0
def tw7087623695892701743:=0
def tw322507881768741664:=0
def tw4072386088076750417:=0
def tw16034503183558197690:=0
def tw17252401264832906892:=0
def tw3420784649169583359:=0
def tw15061491341463616538:=0
def tw400753120839158790:=0
def tw11732252975883946860:=0
def tw13999758663130180861:=0
def tw4505194847917561068:=0
def tw3588795326629364040:=0
def tw14801687218661695652:=0
def tw7841481671953263330:=0
def tw16288455648931743592:=0
def tw9039379238006924001:=0
def tw4706985752221409560:=0
def tw9818009764612325311:=0
def tw2144260227930489158:=0
def tw4016134952086001496:=0
def tw12796264935490147030:=0
def tw11938257916056635042:=0
def tw5412750003463178710:=0
def tw18334243621653304923:=0
def tw2090819928529170578:=0
def tw8624694279410819243:=0
def tw9969426061097247988:=0
def tw6935340249073403439:=0
def tw12607474308137662983:=0
def tw12632484892446310396:=0
def tw18295453754021113098:=0
def tw6806152715685582933:=0
def tw526168975904336730:=0
def tw13618398781745559214:=0
def tw560323149481531825:=0
def tw3943854903990132034:=0
def tw10946224972550703574:=0
def tw14509872395043088127:=0
def tw11937081393528068650:=0
def tw15160136477363648127:=0
def tw16296151464945653720:=0
def tw6197614022449530680:=0
def tw16552441911919582352:=0
def tw8109782930710751761:=0
def tw13756207965237887644:=0
def tw7372299792161292708:=0
def tw5689160975763488034:=0
def tw16623533636415204825:=0
def tw14685986645668139556:=0
def tw281373154681594765:=0
def tw14131307984016541705:=0
def tw1184225369333307974:=0
def tw8264698089108505916:=0
def tw17411281283286478306:=0
def tw5373753477727767055:=0
def tw16250347055716543067:=0
def tw16826716241325703575:=0
def tw7083778381715767552:=0
def tw4241273448130479863:=0
def tw14102871197155882836:=0
def tw15068632266956678628:=0
def tw4164495107642343612:=0
def tw9843692163990082804:=0
def tw3010575306920883390:=0
def tw2648093430535428570:=0
def tw2135696905885432806:=0
def tw4683841228478759376:=0
def tw3933530481661556713:=0
def tw9826150959584166410:=0
def tw9585703911992670963:=0
def tw6210789677139619956:=0
def tw3935216558829200116:=0
def tw1125477925688123041:=0
def tw11033905678986122225:=0
def tw8157998255569252345:=0
def tw2292239503211804647:=0
def tw15207919840865942608:=0
def tw12721315980747281895:=0
def tw10943075902877517860:=0
def tw1580936724254323982:=0
def tw10823289839464223098:=0
def tw10760120660786020117:=0
def tw13900289481265854403:=0
def tw12471363721658576047:=0
def tw7856621880506790968:=0
def tw9306895428802289471:=0
def tw15366505556132656072:=0
def tw6781505928497729957:=0
def tw8916195357601772300:=0
def tw15806283041232316607:=0
def tw17878000548744788633:=0
def tw10791725204033798656:=0
def tw10231022501348627899:=0
def tw16222786294721630405:=0
def tw16701595966250717523:=0
def tw1169817119086375629:=0
def tw1282100029323609602:=0
def tw3193022548750122938:=0
def tw15698226190700781775:=0
def tw16313879153379398968:=0
def tw1293974323995491888:=0
def tw6506977553061795429:=0
def tw11674065740650302059:=0
def tw15109212650172396859:=0
def tw17778184871050398712:=0
def tw17585152594833763697:=0
def tw17090436069003806620:=0
def tw8393201312096721921:=0
def tw1547227130069303237:=0
def tw3110005413771450305:=0
def tw7725903415004704127:=0
def tw12298560123540970860:=0
def tw18310465999084330444:=0
def tw15341275226760365565:=0
def tw12344543031540111507:=0
def tw4399483245764650169:=0
def tw16136943579618454897:=0
def tw10600198299111884775:=0
def tw12164043444893004604:=0
def tw2330074472980584537:=0
def tw9767025520399860121:=0
def tw13398912534125805996:=0
def tw4264728349152176424:=0
def tw12056536222883747563:=0
def tw17888988966924203977:=0
def tw17131517793864901515:=0
def tw8229563939072974717:=0
def tw15031553308815380017:=0
def tw13235064164032208417:=0
def tw2010457675721072792:=0
def tw99486583397014468:=0
def tw6482328008275032683:=0
def tw5227076192449331414:=0
def tw11393720575458232262:=0
def tw627153860295974868:=0
def tw16539632337108883171:=0
def tw4466699907368849941:=0
def tw16416131511232338486:=0
end PySem.W.Fast
section
namespace L2
open PySem PySem.Spec PyProof.Rows
noncomputable abbrev Key:=Sum Int Str
noncomputable def zft:Key->Value->Bool
 |.inl k,v=>Value.isInt k v
 |.inr x,v=>Value.isStrOf x v
noncomputable def keyH (w:World):Key->Int
 |.inl k=>hashInt k
 |.inr x=>hashStr w x
theorem zaG:∀{k:Key} {v:Value},zft k v=true->(∃i t,k=Sum.inl i/\v=Value.int i t)\/(∃x t,k=Sum.inr x/\v=Value.str x t)
 | .inl i, v, h => by
   obtain⟨t,e⟩:=Value.isInt_shape (k:=i) (v:=v) h
   exact .inl ⟨i,t,rfl,e⟩
 | .inr x, v, h => by
   obtain⟨t,e⟩:=Value.isStrOf_shape (x:=x) (v:=v) h
   exact .inr ⟨x,t,rfl,e⟩
theorem zhU (i:Int)(t:Tok):zft (.inl i) (.int i t)=true:=by simp[zft,Value.isInt]
theorem zhT (x:Str)(t:Tok):zft (.inr x) (.str x t)=true:=by simp[zft,Value.isStrOf]
theorem zno (a b:Int):decide ((Sum.inl a:Key)=Sum.inl b)=(a == b):=by
 by_cases e:a=b
 · subst e;simp
 · have h:¬(Sum.inl a:Key)=Sum.inl b:=fun q=>e (Sum.inl.inj q)
   rw[decide_eq_false h]
   exact (beq_eq_false_iff_ne.mpr e).symm
theorem znk (a b:Str):decide ((Sum.inr a:Key)=Sum.inr b)=decide (a=b):=by
 by_cases e:a=b
 · subst e;simp
 · have h:¬(Sum.inr a:Key)=Sum.inr b:=fun q=>e (Sum.inr.inj q)
   rw[decide_eq_false h,decide_eq_false e]
theorem znn (a:Int)(b:Str):decide ((Sum.inl a:Key)=Sum.inr b)=false:=decide_eq_false (fun q=>nomatch q)
theorem znl (a:Str)(b:Int):decide ((Sum.inr a:Key)=Sum.inl b)=false:=decide_eq_false (fun q=>nomatch q)
noncomputable def zaI (prog:Program)(w:World):PySem.KeyKind prog w Key where
 is:=zft
 hash:=keyH w
 inj:=fun v a b ha hb=>by
  rcases zaG ha with ⟨i,t,rfl,rfl⟩|⟨x,t,rfl,rfl⟩
  · rcases zaG hb with ⟨j,u,rfl,e⟩|⟨y,u,rfl,e⟩
    · injection e with e1 _;rw[e1]
    · exact nomatch e
  · rcases zaG hb with ⟨j,u,rfl,e⟩|⟨y,u,rfl,e⟩
    · exact nomatch e
    · injection e with e1 _;rw[e1]
 byValue:=fun k v h=>by
  rcases zaG h with ⟨i,t,rfl,rfl⟩|⟨x,t,rfl,rfl⟩<;>rfl
 pyHash:=fun hv h=>by
  rcases zaG hv with ⟨i,t,rfl,rfl⟩|⟨x,t,rfl,rfl⟩
  · exact wpAny_pyHash_int h
  · exact wpAny_pyHash_str h
 eqBool:=fun hu hv h=>by
  rcases zaG hu with ⟨i,t,rfl,rfl⟩|⟨x,t,rfl,rfl⟩
  · rcases zaG hv with ⟨j,u,rfl,rfl⟩|⟨y,u,rfl,rfl⟩
    · rw[zno] at h;exact wpAny_eqBool_int h
    · rw[znn] at h;exact SeqAt.EqAt.int_str i t y u _ _ _ _ h
  · rcases zaG hv with ⟨j,u,rfl,rfl⟩|⟨y,u,rfl,rfl⟩
    · rw[znl] at h;exact SeqAt.EqAt.str_int x t j u _ _ _ _ h
    · rw[znk] at h;exact wpAny_eqBool_str h
 «strs»:=fun k x t v h=>by
  rcases zaG h with ⟨i,u,rfl,e⟩|⟨y,u,rfl,e⟩
  · exact nomatch e
  · injection e with e1 _
    subst e1
    cases v<;>rfl
theorem zfr (prog:Program)(w:World)(i:Int)(t:Tok):(zaI prog w).is (.inl i) (.int i t)=true:=zhU i t
theorem zfq (prog:Program)(w:World)(x:Str)(t:Tok):(zaI prog w).is (.inr x) (.str x t)=true:=zhT x t
end L2
namespace L2
open PySem PySem.Spec PyProof.Rows
inductive V where
 |non|bl (b:Bool)|int (i:Int)|str (x:Str)|byt (b:Array UInt8)|flt (b:UInt64)|ref (a:Addr)|ty (n:String)
 deriving DecidableEq
noncomputable def RelV:V->Value->Prop
 |.non,u=>u=Value.none
 |.bl b,u=>u=Value.bool b
 |.int i,u=>∃t,u=Value.int i t
 |.str x,u=>∃t,u=Value.str x t
 |.byt b,u=>∃t,u=Value.bytes b t
 |.flt b,u=>∃t,u=Value.float b t
 |.ref a,u=>u=Value.ref a
 |.ty n,u=>u=Value.type n
noncomputable abbrev Vals:List V->List Value->Prop:=Paired RelV
theorem Vals.length {xs:List V}{us:List Value}(r:Vals xs us):xs.length=us.length:=Paired.length r
theorem Vals.get:∀{xs:List V} {us:List Value} {i:Nat} {x:V},Vals xs us->xs[i]?=some x->∃u,us[i]?=some u/\RelV x u
 |_,_,_,_,.nil,e=>by simp at e
 |_,_,0,_,.cons r _,e=>by simp at e;subst e;exact⟨_,rfl,r⟩
 | _, _, i + 1, x, .cons _ t, e => by
   obtain⟨u,h1,h2⟩:=Vals.get (i:=i) (x:=x) t (by simpa using e)
   exact⟨u,by simpa using h1,h2⟩
theorem Vals.append:∀{xs ys:List V} {us ws:List Value},Vals xs us->Vals ys ws->Vals (xs++ys) (us++ws)
 |_,_,_,_,.nil,s=>s
 |_,_,_,_,.cons r t,s=>.cons r (Vals.append t s)
theorem Vals.take:∀{xs:List V} {us:List Value} (n:Nat),Vals xs us->Vals (xs.take n) (us.take n)
 |_,_,0,_=>.nil
 |_,_,_+1,.nil=>.nil
 |_,_,n+1,.cons r t=>.cons r (Vals.take n t)
theorem Vals.drop:∀{xs:List V} {us:List Value} (n:Nat),Vals xs us->Vals (xs.drop n) (us.drop n)
 |_,_,0,r=>r
 |_,_,_+1,.nil=>.nil
 |_,_,n+1,.cons _ t=>Vals.drop n t
noncomputable def RelO:Option V->Option Value->Prop
 |some v,some u=>RelV v u
 |none,none=>True
 |_,_=>False
noncomputable def KV {κ:Type}:List (κ × V)->List (κ × Value)->Prop:=Paired fun (p:κ × V) (q:κ × Value)=>p.1=q.1/\RelV p.2 q.2
noncomputable def kV:Key->V
 |.inl i=>.int i
 |.inr x=>.str x
inductive HO where
 |lst (xs:List V)
 |tup (xs:List V)
 |dK (kvs:List (Key × V))|dT (kvs:List (List Key × V))
 |set (S:Int->Bool) (n:Nat)
 |ins (C dx:Addr) (fs:List (Str × V))
 |own (x:Addr)
 |xd (fs:List (Str × V))
 |met (f x:Addr)
 |rng (lo hi:Int)
 |frz (o:Obj) (u:HO)
 |tbl (ps:Array Value)
 |ext (φ:Heap->Prop)
noncomputable abbrev Hp:=Addr->Option HO
noncomputable def upd (H:Hp)(a:Addr)(o:HO):Hp:=fun b=>if b=a then some o else H b
theorem zaw {H:Hp}{a:Addr}{o:HO}:upd H a o a=some o:=by unfold upd;rw[if_pos rfl]
theorem zap {H:Hp}{a b:Addr}{o:HO}(h:b≠a):upd H a o b=H b:=by unfold upd;rw[if_neg h]
theorem ne_of {H:Hp}{a b:Addr}{o u:HO}(h:H a=some o)(h':H b=some u)(d:o≠u):a≠b:=by
 intro e;subst e;rw[h] at h';exact d (Option.some.inj h')
theorem zaN {H:Hp}{a b:Addr}{o:HO}(h:H a=some o)(h':H b=none):a≠b:=by
 intro e;subst e;rw[h] at h';cases h'
section
variable (P:Program) (w:World)
noncomputable def ObjOk (H:Hp)(h:Heap)(a:Addr):HO->Prop
 |.lst xs=>xs.length<=sizeLine/\∃(its:List Value) (n:Nat),Vals xs its/\h.get? a=some {cls:=.type "list",data:=.seq its.toArray n}
 |.tup xs=>xs.length<=sizeLine/\∃its:List Value,Vals xs its/\IsTup h a its.toArray
 |.dK kvs=>kvs.length<=sizeLine/\(a == sysModules)=false/\∃vs,KV kvs vs/\h.DictOf (zaI P w) a vs
 |.dT kvs=>kvs.length<=sizeLine/\(a == sysModules)=false/\∃xs:List (List Key × Addr × Value),
  Paired (fun (p:List Key × V) (q:List Key × Addr × Value)=>p.1=q.1/\H q.2.1=some (.tup (p.1.map kV))/\RelV p.2 q.2.2) kvs xs/\
  ∃o es ep,h.get? a=some o/\o.ExactDict/\o.data=.dict es ep/\es.toList=xs.map (entryOfKey (tupleKind (zaI P w)))/\(xs.map (·.1)).Nodup
 |.set S n=>h.SetOf (intKind P w) a S n
 |.ins C dx fs=>H dx=some (.own a)/\fs.length<=1000/\dx≠a/\h.get? a=some (PySem.W.instObj C dx)/\
  ∃mA,h.Ns1 dx mA/\(∀f,RelO (fs.lookup f) (mA f))/\PySem.Within mA (fs.map (·.1))
 |.own _=>∃o,h.get? a=some o
 |.xd fs=>∃mA,h.Ns1 a mA/\∀f,RelO (fs.lookup f) (mA f)
 |.rng lo hi=>∃t u v,h.get? a=some {cls:=.type "range",data:=.fields #[.int lo t,.int hi u,.int 1 v]}
 |.frz o u=>h.get? a=some o/\ObjOk H h a u
 |.tbl ps=>h.get? a=some {cls:=.none,data:=.fields ps}
 |.met f x=>h.get? a=some (PySem.W.methodObj (.ref f) (.ref x))
 |.ext φ=>φ h/\(∃o,h.get? a=some o)/\∀h1 h2:Heap,φ h1->(∀o,h1.get? a=some o->h2.get? a=some o)->φ h2
noncomputable def HOk (H:Hp)(h:Heap):Prop:=∀a o,H a=some o->ObjOk P w H h a o
end
section
variable {P:Program} {w:World} {H H':Hp} {h h':Heap} {a:Addr} {o:HO}
theorem ObjOk.lt (x:ObjOk P w H h a o):a<h.objs.size:=by
 cases o with
 |lst xs=>obtain⟨_,_,_,_,e⟩:=x;exact Heap.lt_size e
 |tup xs=>obtain⟨_,_,_,p⟩:=x;exact p.lt
 |dK kvs=>obtain⟨_,_,_,_,o,_,_,e,_⟩:=x;exact Heap.lt_size e
 |dT kvs=>obtain⟨_,_,_,_,o,_,_,e,_⟩:=x;exact Heap.lt_size e
 |set S n=>obtain⟨o,_,_,_,e,_⟩:=x;exact Heap.lt_size e
 |ins C dx fs=>obtain⟨_,_,_,e,_⟩:=x;exact Heap.lt_size e
 |own y=>obtain⟨_,e⟩:=x;exact Heap.lt_size e
 |xd fs=>obtain⟨_,⟨_,_,_,e,_⟩,_⟩:=x;exact Heap.lt_size e
 |rng lo hi=>obtain⟨_,_,_,e⟩:=x;exact Heap.lt_size e
 |frz ob u=>obtain⟨e,_⟩:=x;exact Heap.lt_size e
 |tbl ps=>exact Heap.lt_size (show h.get? a=some _ from x)
 |met f y=>exact Heap.lt_size (show h.get? a=some _ from x)
 |ext φ=>obtain⟨_,⟨_,e⟩,_⟩:=x;exact Heap.lt_size e
theorem Paired.mapP {α β:Type}{F G:α->β->Prop}:∀{l₁:List α} {l₂:List β},Paired F l₁ l₂->(∀a b,F a b->G a b)->Paired G l₁ l₂
 |_,_,.nil,_=>.nil
 |_,_,.cons r t,f=>.cons (f _ _ r) (Paired.mapP t f)
theorem ObjOk.stay (x:ObjOk P w H h a o)(k:∀b u,(b=a\/H b=some (.own a))->h.get? b=some u->h'.get? b=some u)
  (ho:∀b,H b=some (.own a)->H' b=some (.own a)) (ht:∀b xs,H b=some (.tup xs)->H' b=some (.tup xs)):ObjOk P w H' h' a o:=by
 induction o with
 |lst xs=>obtain⟨z,its,n,r,e⟩:=x;exact⟨z,its,n,r,k _ _ (.inl rfl) e⟩
 |tup xs=>obtain⟨z,its,r,ob,e,c⟩:=x;exact⟨z,its,r,ob,k _ _ (.inl rfl) e,c⟩
 |dK kvs=>obtain⟨z,y,vs,r,ob,es,ep,e,c⟩:=x;exact⟨z,y,vs,r,ob,es,ep,k _ _ (.inl rfl) e,c⟩
 | dT kvs =>
   obtain⟨z,y,xs,r,ob,es,ep,e,c⟩:=x
   exact⟨z,y,xs,Paired.mapP r fun p q z=>⟨z.1,ht _ _ z.2.1,z.2.2⟩,ob,es,ep,k _ _ (.inl rfl) e,c⟩
 |set S n=>obtain⟨ob,es,ep,t,e,c⟩:=x;exact⟨ob,es,ep,t,k _ _ (.inl rfl) e,c⟩
 | ins C dx fs =>
   obtain⟨d,z,ne,e,mA,⟨od,es,ep,e2,c⟩,r⟩:=x
   exact⟨ho _ d,z,ne,k _ _ (.inl rfl) e,mA,⟨od,es,ep,k _ _ (.inr d) e2,c⟩,r⟩
 |own y=>obtain⟨ob,e⟩:=x;exact⟨ob,k _ _ (.inl rfl) e⟩
 |xd fs=>obtain⟨mA,⟨od,es,ep,e,c⟩,r⟩:=x;exact⟨mA,⟨od,es,ep,k _ _ (.inl rfl) e,c⟩,r⟩
 |rng lo hi=>obtain⟨t,u,v,e⟩:=x;exact⟨t,u,v,k _ _ (.inl rfl) e⟩
 |frz ob u ih=>obtain⟨e,q⟩:=x;exact⟨k _ _ (.inl rfl) e,ih q⟩
 | tbl ps =>
   have e:h.get? a=some {cls:=.none,data:=.fields ps}:=x
   show h'.get? a=some {cls:=.none,data:=.fields ps}
   exact k a _ (.inl rfl) e
 | met f y =>
   have e:h.get? a=some (PySem.W.methodObj (.ref f) (.ref y)):=x
   show h'.get? a=some (PySem.W.methodObj (.ref f) (.ref y))
   exact k a _ (.inl rfl) e
 |ext φ=>obtain⟨p,⟨o,e⟩,st⟩:=x;exact⟨st _ _ p fun o q=>k _ _ (.inl rfl) q,⟨o,k _ _ (.inl rfl) e⟩,st⟩
theorem HOk.lt (x:HOk P w H h)(e:H a=some o):a<h.objs.size:=(x a o e).lt
theorem HOk.fresh (x:HOk P w H h)(e:h.objs.size<=a):H a=none:=by
 cases q:H a with
 |none=>rfl
 |some u=>exact absurd (Nat.lt_of_lt_of_le (x.lt q) e) (Nat.lt_irrefl _)
theorem HOk.kept (x:HOk P w H h)(k:∀b u,h.get? b=some u->h'.get? b=some u):HOk P w H h':=fun a o e=>
 (x a o e).stay (fun b u _ q=>k b u q) (fun _ q=>q) fun _ _ q=>q
theorem HOk.laid (x:HOk P w H h)(k:∀b u,h.get? b=some u->h'.get? b=some u)(hp:h.objs.size<=a)(new:ObjOk P w (upd H a o) h' a o):HOk P w (upd H a o) h':=fun b u e=>by
 have hn:=x.fresh hp
 by_cases hb:b=a
 · subst hb;rw[zaw] at e;cases e;exact new
 · rw[zap hb] at e
   exact (x b u e).stay (fun c v _ q=>k c v q) (fun c q=>by rw[zap (zaN q hn)];exact q) fun c xs q=>by rw[zap (zaN q hn)];exact q
end
noncomputable def Rd (H:Hp)(a:Addr)(u:HO):Prop:=H a=some u\/∃o,H a=some (.frz o u)
theorem Rd.ok {P:Program}{w:World}{H:Hp}{h:Heap}{a:Addr}{u:HO}(r:Rd H a u)(x:HOk P w H h):ObjOk P w H h a u:=by
 rcases r with r|⟨o,r⟩
 · exact x a u r
 · obtain⟨_,q⟩:=x a _ r
   exact q
noncomputable def Mut:Option HO->Prop
 |some (.lst _)=>True
 |some (.dK _)=>True
 |some (.dT _)=>True
 |some (.set _ _)=>True
 |some (.ins _ _ _)=>True
 |some (.ext _)=>True
 |_=>False
section
variable {P:Program} {w:World} {H:Hp} {h h':Heap} {x e:Addr} {o':HO}
theorem HOk.write (ok:HOk P w H h)(mu:Mut (H x))(he:e=x\/H e=some (.own x))(k:∀b u,b≠e->h.get? b=some u->h'.get? b=some u)(heo:∃u,h'.get? e=some u)
  (new:ObjOk P w (upd H x o') h' x o'):HOk P w (upd H x o') h':=fun b u q=>by
 have nown:∀c y,H c=some (.own y)->c≠x:=fun c y r z=>by subst z;rw[r] at mu;exact mu
 have ntup:∀c xs,H c=some (.tup xs)->c≠x:=fun c xs r z=>by subst z;rw[r] at mu;exact mu
 by_cases hb:b=x
 · subst hb;rw[zaw] at q;cases q;exact new
 · rw[zap hb] at q
   by_cases hbe:b=e
   · have q':H b=some (.own x):=by
      rcases he with z|z
      · exact absurd (hbe.trans z) hb
      · rw[hbe];exact z
     rw[q] at q';cases q'
     obtain⟨v,hv⟩:=heo
     exact⟨v,by rw[hbe];exact hv⟩
   · refine (ok b u q).stay (fun c v hc r=>k c v ?_ r) (fun c r=>by rw[zap (nown c b r)];exact r) fun c xs r=>by rw[zap (ntup c xs r)];exact r
     rcases hc with rfl|hc
     · exact hbe
     · rintro rfl
       rcases he with z|z
       · exact nown c b hc z
       · rw[hc] at z;cases z;exact hb rfl
end
structure Un (fs ex:List Addr) (H H':Hp) (h h':Heap):Prop where
 keep:∀b o,h.get? b=some o->H b=none->b∉fs->b∉ex->h'.get? b=some o
 slot:∀b o,h.get? b=some o->H b=none->b∈fs->b∉ex->∃sl,h'.get? b=some {o with slots:=sl}
 free:∀b o,h.get? b=some o->H b=none->b∉ex->H' b=none
 there:∀b o,h.get? b=some o->b∉ex->∃o',h'.get? b=some o'
 tups:∀b xs,H b=some (.tup xs)->H' b=some (.tup xs)
 frzs:∀b o u,H b=some (.frz o u)->H' b=some (.frz o u)
 tbls:∀b ps,H b=some (.tbl ps)->∃more,H' b=some (.tbl (ps++more))
section
variable {fs fs' ex ex':List Addr} {H H1 H2:Hp} {h h1 h2 h':Heap} {a x e:Addr} {o:HO}
theorem Un.any (u:Un fs ex H H1 h h1){b:Addr}{ob:Obj}(q:h.get? b=some ob)(n:H b=none)(hx:b∉ex):∃sl,h1.get? b=some {ob with slots:=sl}:=by
 by_cases hb:b∈fs
 · exact u.slot b ob q n hb hx
 · exact⟨ob.slots,u.keep b ob q n hb hx⟩
theorem Un.kept (k:∀b u,h.get? b=some u->h'.get? b=some u):Un fs ex H H h h':=
 ⟨fun b ob q _ _ _=>k b ob q,fun b ob q _ _ _=>⟨ob.slots,k b ob q⟩,fun _ _ _ n _=>n,fun b ob q _=>⟨ob,k b ob q⟩,fun _ _ q=>q,fun _ _ _ q=>q,fun _ ps q=>⟨#[],by rw[q];simp⟩⟩
theorem Un.refl:Un fs ex H H h h:=Un.kept fun _ _ q=>q
theorem Un.laid (k:∀b u,h.get? b=some u->h'.get? b=some u)(hp:h.objs.size<=a)(hn:H a=none):Un fs ex H (upd H a o) h h' where
 keep:=fun b u q _ _ _=>k b u q
 slot:=fun b u q _ _ _=>⟨u.slots,k b u q⟩
 free:=fun b u q n _=>by rw[zap (Nat.ne_of_lt (Nat.lt_of_lt_of_le (Heap.lt_size q) hp))];exact n
 there:=fun b u q _=>⟨u,k b u q⟩
 tups:=fun b xs q=>by rw[zap (zaN q hn)];exact q
 frzs:=fun b u xs q=>by rw[zap (zaN q hn)];exact q
 tbls:=fun b ps q=>⟨#[],by rw[zap (zaN q hn),q];simp⟩
theorem Un.write (mu:Mut (H x))(he:e=x\/H e=some (.own x))(k:∀b u,b≠e->h.get? b=some u->h'.get? b=some u)(heo:∃u,h'.get? e=some u):Un fs ex H (upd H x o) h h':=by
 have hx:∀b,H b=none->b≠x:=fun b n z=>by subst z;rw[n] at mu;exact mu
 have hb:∀b,H b=none->b≠e:=fun b n z=>by
  subst z
  rcases he with r|r
  · exact hx b n r
  · rw[n] at r;cases r
 have hm:∀b u,H b=some u->¬Mut (some u)->b≠x:=fun b u q nm z=>by subst z;rw[q] at mu;exact nm mu
 refine⟨fun b u q n _ _=>k b u (hb b n) q,fun b u q n _ _=>⟨u.slots,k b u (hb b n) q⟩,fun b u q n _=>by rw[zap (hx b n)];exact n,fun b u q _=>?_,
  fun b xs q=>by rw[zap (hm b _ q fun z=>z)];exact q,fun b u xs q=>by rw[zap (hm b _ q fun z=>z)];exact q,fun b ps q=>⟨#[],by rw[zap (hm b _ q fun z=>z),q];simp⟩⟩
 by_cases hbe:b=e
 · subst hbe;exact heo
 · exact⟨u,k b u hbe q⟩
end
noncomputable def trk (h:Heap)(H:Hp):List Addr:=(List.range h.objs.size).filter fun a=>(H a).isSome
noncomputable def hidT (h:Heap)(H:Hp):Heap:=PySem.W.hideAll h (trk h H)
theorem zh6 (h:Heap)(H:Hp):(hidT h H).objs.size=h.objs.size:=PySem.W.hideAll_size _ _
theorem zjq {h:Heap}{H:Hp}{b:Addr}{o:Obj}(e:h.get? b=some o)(n:H b=none):(hidT h H).get? b=some o:=
 PySem.W.hideAll_get _ e fun hm=>by
  have q:(H b).isSome=true:=(List.mem_filter.mp hm).2
  rw[n] at q;simp at q
theorem zk9 {h:Heap}{H:Hp}{b:Addr}{o:Obj}(e:(hidT h H).get? b=some o):h.get? b=some o/\H b=none:=by
 have e':h.get? b=some o:=PySem.W.of_hideAll (trk h H) e
 refine⟨e',?_⟩
 cases q:H b with
 |none=>rfl
 | some x =>
   have hm:b∈trk h H:=List.mem_filter.mpr ⟨List.mem_range.mpr (Heap.lt_size e'),by simp[q]⟩
   have z:(hidT h H).get? b=none:=PySem.W.hideAll_none (trk h H) hm
   rw[z] at e;cases e
end L2
namespace L2
open PySem PySem.Spec PyProof.Rows
structure Mod (K:PySem.W.Frag) (mg:Str->Option Value) (base:Heap):Prop where
 kin:K.In base
 glob:base.Ns mainGlobals mg
 blt:∃mb,base.Ns builtinsNs mb/\∀x:Str,x≠"__name__"->mb x=bootBuiltins x
 nolimit:base.NoLimit
structure Cx where
 prog:Program
 w:World
 K:PySem.W.Frag
 mg:Str->Option Value
 base:Heap
 A:Around
 N:List Str
 s₀:Shared
 H₀:Hp
 env:Env
 outer:List Env
 stack:List Env
 ex:List Addr
 fn:Str->Bool
 calm:Bool
 pn:List (Addr × Obj)
 xe:Value->Shared->Prop
noncomputable def frs (l:List Env):List Addr:=l.filterMap (·.frame)
noncomputable abbrev Cx.fs (X:Cx):List Addr:=frs X.outer
noncomputable def Vis (sc:Scope)(x:Str):Prop:=sc.names.lookup x=some .local\/sc.names.lookup x=some .cell\/sc.names.lookup x=some .free
noncomputable def Loc (sc:Scope)(x:Str):Prop:=sc.names.lookup x=some .local\/sc.names.lookup x=some .cell
noncomputable def Look (env:Env)(h:Heap)(m:Str->Option Value)(x:Str)(u:Value):Prop:=
 (env.kindOf x=some .local/\m x=some u)\/((env.kindOf x=some .cell\/env.kindOf x=some .free)/\∃c,env.cells.lookup x=some c/\h.IsCell c (some u))
structure Cx.Ok (X:Cx):Prop where
 mod:Mod X.K X.mg X.base
 kind:X.env.scope.kind=.function
 glob:X.env.globals=mainGlobals
 blt:X.env.builtins=builtinsNs
 above:X.s₀.heap.objs.size<=X.env.locals
 inj:∀x y c,X.env.cells.lookup x=some c->X.env.cells.lookup y=some c->x=y
 has:∀x,(X.env.kindOf x=some .cell\/X.env.kindOf x=some .free)->∃c,X.env.cells.lookup x=some c
 cab:∀x c,X.fn x=true->X.env.cells.lookup x=some c->X.s₀.heap.objs.size<=c
 hd:X.calm=true->X.A.handled=none
 frames:X.A.frames=some X.stack
 stk:X.stack=X.outer\/(X.stack=X.env::X.outer/\X.env.frame=some X.env.locals)
 exf:∀b∈X.ex,b≠X.env.locals/\∀x c,X.env.cells.lookup x=some c->c≠b
 bs:∀b o,X.base.get? b=some o->X.s₀.heap.get? b=some o/\X.H₀ b=none
 bsz:X.base.objs.size<=X.s₀.heap.objs.size
 noex:∀b o,X.base.get? b=some o->b∉X.ex
 exfs:∀b∈X.ex,b∉X.fs
 funs:X.s₀.heap.FunFrames X.base X.outer
 frf:∀b∈X.fs,X.H₀ b=none
structure Inv (X:Cx) (pins:List (Addr × Obj)) (σ:List (Option V)) (H:Hp) (s:Shared):Prop where
 ok:X.Ok
 os:s.os=X.s₀.os
 bare:AllBare s.gens
 base:Un X.fs X.ex X.H₀ H X.s₀.heap s.heap
 loc:∃m,s.heap.Ns X.env.locals m/\∀(i:Nat) (x:Str) (v:V),X.N[i]?=some x->σ[i]?=some (some v)->Vis X.env.scope x->∃u,RelV v u/\Look X.env s.heap m x u
 cell:∀x c,X.env.cells.lookup x=some c->∃v,s.heap.IsCell c v
 free:H X.env.locals=none
 freeC:∀x c,X.env.cells.lookup x=some c->H c=none
 pin:∀p∈X.pn++pins,s.heap.get? p.1=some p.2/\H p.1=none/\p.1≠X.env.locals/\p.1∉X.fs/\∀v,p.2.data≠.cell v
 hok:HOk X.prog X.w H s.heap
 len:σ.length=X.N.length
section
variable {X:Cx} {pins:List (Addr × Obj)} {σ:List (Option V)} {H H':Hp} {s:Shared} {h':Heap}
theorem Cx.Ok.nofr (ok:X.Ok){b:Addr}{o:Obj}(e:X.base.get? b=some o):b∉X.fs:=fun hb=>by
 have:=(ok.funs.mem hb).1
 rw[e] at this;cases this
theorem Inv.bs (I:Inv X pins σ H s):∀b o,X.base.get? b=some o->s.heap.get? b=some o/\H b=none:=fun b o e=>
 ⟨I.base.keep b o (I.ok.bs b o e).1 (I.ok.bs b o e).2 (I.ok.nofr e) (I.ok.noex b o e),I.base.free b o (I.ok.bs b o e).1 (I.ok.bs b o e).2 (I.ok.noex b o e)⟩
theorem Inv.bk (I:Inv X pins σ H s):∀b o,X.base.get? b=some o->s.heap.get? b=some o:=fun b o e=>(I.bs b o e).1
theorem Inv.mod (I:Inv X pins σ H s):Mod X.K X.mg X.base:=I.ok.mod
theorem Inv.kIn (I:Inv X pins σ H s):X.K.In s.heap:=I.ok.mod.kin.keeps I.bk
theorem Inv.lt (I:Inv X pins σ H s):X.env.locals<s.heap.objs.size:=let ⟨_,hn,_⟩:=I.loc;hn.lt
theorem Inv.sz (I:Inv X pins σ H s):X.s₀.heap.objs.size<=s.heap.objs.size:=Nat.le_trans I.ok.above (Nat.le_of_lt I.lt)
theorem Inv.nofs (I:Inv X pins σ H s){a:Addr}(h:s.heap.objs.size<=a):a∉X.fs:=fun hb=>by
 obtain⟨_,o,ho,_⟩:=I.ok.funs.mem hb
 exact absurd (Nat.lt_of_lt_of_le (Heap.lt_size ho) (Nat.le_trans I.sz h)) (Nat.lt_irrefl _)
theorem Inv.cne (I:Inv X pins σ H s):∀x c,X.env.cells.lookup x=some c->c≠X.env.locals:=fun x c e z=>by
 obtain⟨v,o,ho,hd⟩:=I.cell x c e
 obtain⟨m,⟨o',es,ep,ho',hd',_⟩,_⟩:=I.loc
 rw[z,ho'] at ho;cases ho;rw[hd'] at hd;cases hd
theorem Inv.funs (I:Inv X pins σ H s):s.heap.FunFrames X.base X.outer:=by
 have all:∀(l:List Env),(∀b∈frs l,b∈X.fs)->X.s₀.heap.FunFrames X.base l->s.heap.FunFrames X.base l:=by
  intro l
  induction l with
  |nil=>intro _ _;trivial
  | cons env r ih =>
    intro hs hl
    obtain⟨hk,⟨L,o,hf,hn,ho,hd⟩,hr⟩:=hl
    have hL:L∈X.fs:=hs L (by unfold frs;rw[List.filterMap_cons,hf];exact List.mem_cons_self)
    obtain⟨sl,e⟩:=I.base.slot L o ho (I.ok.frf L hL) hL fun z=>I.ok.exfs L z hL
    exact⟨hk,⟨L,_,hf,hn,e,hd⟩,ih (fun b hb=>hs b (by unfold frs;rw[List.filterMap_cons,hf];exact List.mem_cons_of_mem _ hb)) hr⟩
 exact all X.outer (fun _ hb=>hb) I.ok.funs
theorem Inv.stack (I:Inv X pins σ H s):s.heap.FunFrames X.base X.stack:=by
 rcases I.ok.stk with e|⟨e,hf⟩
 · rw[e];exact I.funs
 · rw[e]
   obtain⟨m,hn,_⟩:=I.loc
   refine .cons (by rw[I.ok.kind];decide) hf hn ?_ I.funs
   exact Heap.get?_none_of_le (Nat.le_trans I.ok.bsz I.ok.above)
theorem Inv.stkSub (I:Inv X pins σ H s):∀b∈frs X.stack,b∈X.env.locals::X.fs:=fun b hb=>by
 rcases I.ok.stk with e|⟨e,hf⟩
 · rw[e] at hb;exact List.mem_cons_of_mem _ hb
 · rw[e] at hb
   unfold frs at hb
   rw[List.filterMap_cons,hf] at hb
   exact hb
theorem Inv.stkFree (I:Inv X pins σ H s):∀b∈frs X.stack,H b=none:=fun b hb=>by
 rcases List.mem_cons.mp (I.stkSub b hb) with e|hb
 · rw[e];exact I.free
 · obtain⟨_,o,ho,_⟩:=I.ok.funs.mem hb
   exact I.base.free b o ho (I.ok.frf b hb) fun z=>I.ok.exfs b z hb
theorem Inv.step {g':Array GenState}{t':Nat}{d':Drawn}{ch:List Addr}(I:Inv X pins σ H s)
  (hch:∀b∈ch,(b∈X.ex\/X.s₀.heap.objs.size<=b)/\b≠X.env.locals/\(∀x c,X.env.cells.lookup x=some c->c≠b)/\∀p∈X.pn++pins,p.1≠b)
  (keep:∀b o,b≠X.env.locals->b∉X.fs->b∉ch->s.heap.get? b=some o->H b=none->h'.get? b=some o)
  (slot:∀b o,b≠X.env.locals->b∈X.fs->b∉ch->s.heap.get? b=some o->H b=none->∃sl,h'.get? b=some {o with slots:=sl}) (free:∀b o,b∉ch->s.heap.get? b=some o->H b=none->H' b=none)
  (there:∀b o,b∉ch->s.heap.get? b=some o->∃o',h'.get? b=some o')
  (tups:∀b xs,H b=some (.tup xs)->H' b=some (.tup xs)) (frzs:∀b o u,H b=some (.frz o u)->H' b=some (.frz o u)) (tbls:∀b ps,H b=some (.tbl ps)->∃more,H' b=some (.tbl (ps++more)))
  (ns:∀m,s.heap.Ns X.env.locals m->h'.Ns X.env.locals m) (hok:HOk X.prog X.w H' h') (hg:AllBare g') :
  Inv X pins σ H' {s with heap:=h',gens:=g',drawn:=d',toks:=t'}:=by
 have neL:∀b o,X.s₀.heap.get? b=some o->b≠X.env.locals:=fun b o e=>Nat.ne_of_lt (Nat.lt_of_lt_of_le (Heap.lt_size e) I.ok.above)
 have neC:∀b o,X.s₀.heap.get? b=some o->b∉X.ex->b∉ch:=fun b o e hx hb=>by
  rcases (hch b hb).1 with z|z
  · exact hx z
  · exact absurd (Nat.lt_of_lt_of_le (Heap.lt_size e) z) (Nat.lt_irrefl _)
 have cellK:∀x c,X.env.cells.lookup x=some c->∀v,s.heap.IsCell c v->h'.IsCell c v:=fun x c e v ⟨o,ho,hd⟩=>by
  have nch:c∉ch:=fun z=>(hch c z).2.2.1 x c e rfl
  by_cases hc:c∈X.fs
  · obtain⟨sl,q⟩:=slot c o (I.cne x c e) hc nch ho (I.freeC x c e)
    exact⟨_,q,hd⟩
  · exact⟨o,keep c o (I.cne x c e) hc nch ho (I.freeC x c e),hd⟩
 refine⟨I.ok,I.os,hg,⟨fun b o e n hb hx=>?_,fun b o e n hb hx=>?_,fun b o e n hx=>?_,fun b o e hx=>?_,fun b xs e=>tups b xs (I.base.tups b xs e),fun b o xs e=>frzs b o xs (I.base.frzs b o xs e),fun b ps e=>?_⟩,?_,fun x c e=>?_,?_,fun x c e=>?_,fun p hp=>?_,hok,I.len⟩
 · exact keep b o (neL b o e) hb (neC b o e hx) (I.base.keep b o e n hb hx) (I.base.free b o e n hx)
 · obtain⟨sl,e1⟩:=I.base.slot b o e n hb hx
   obtain⟨sl',e2⟩:=slot b _ (neL b o e) hb (neC b o e hx) e1 (I.base.free b o e n hx)
   exact⟨sl',e2⟩
 · obtain⟨o',e1⟩:=I.base.there b o e hx
   exact free b o' (neC b o e hx) e1 (I.base.free b o e n hx)
 · obtain⟨o',e1⟩:=I.base.there b o e hx
   exact there b o' (neC b o e hx) e1
 · obtain⟨m1,e1⟩:=I.base.tbls b ps e
   obtain⟨m2,e2⟩:=tbls b _ e1
   exact⟨m1++m2,by rw[e2,Array.append_assoc]⟩
 · obtain⟨m,hn,hl⟩:=I.loc
   refine⟨m,ns m hn,fun i x v e1 e2 e3=>?_⟩
   obtain⟨u,r,l⟩:=hl i x v e1 e2 e3
   refine⟨u,r,?_⟩
   rcases l with l|⟨k,c,e,z⟩
   · exact .inl l
   · exact .inr ⟨k,c,e,cellK x c e _ z⟩
 · obtain⟨v,z⟩:=I.cell x c e
   exact⟨v,cellK x c e v z⟩
 · obtain⟨m,⟨o,_,_,ho,_⟩,_⟩:=I.loc
   exact free _ o (fun z=>(hch _ z).2.1 rfl) ho I.free
 · obtain⟨v,o,ho,hd⟩:=I.cell x c e
   exact free c o (fun z=>(hch c z).2.2.1 x c e rfl) ho (I.freeC x c e)
 · obtain⟨e,n,ne,nf,d⟩:=I.pin p hp
   have nch:p.1∉ch:=fun z=>(hch p.1 z).2.2.2 p hp rfl
   exact⟨keep p.1 p.2 ne nf nch e n,free p.1 p.2 nch e n,ne,nf,d⟩
theorem Inv.un {t':Nat}(I:Inv X pins σ H s)(u:Un X.fs [] H H' s.heap h')(hok:HOk X.prog X.w H' h'):Inv X pins σ H' {s with heap:=h',toks:=t'}:=by
 obtain⟨m,⟨o,es,ep,ho,r⟩,_⟩:=id I.loc
 obtain⟨sl,hL⟩:=u.any ho I.free (by simp)
 exact I.step (g':=s.gens) (d':=s.drawn) (ch:=[]) (fun _ z=>nomatch z) (fun b o _ hb _ e n=>u.keep b o e n hb (by simp)) (fun b o _ hb _ e n=>u.slot b o e n hb (by simp)) (fun b o _ e n=>u.free b o e n (by simp)) (fun b o _ e=>u.there b o e (by simp)) u.tups u.frzs u.tbls (fun m' hm=>by
  obtain⟨o',es',ep',ho',r'⟩:=hm
  rw[ho] at ho';cases ho'
  exact⟨_,es',ep',hL,r'⟩) hok I.bare
theorem Inv.call {g':Array GenState}{t':Nat}{d':Drawn}{ch:List Addr}(I:Inv X pins σ H s)(u:Un (frs X.stack) ch H H' s.heap h')(hok:HOk X.prog X.w H' h')(hg:AllBare g')
  (hch:∀b∈ch,(b∈X.ex\/X.s₀.heap.objs.size<=b)/\b≠X.env.locals/\(∀x c,X.env.cells.lookup x=some c->c≠b)/\∀p∈X.pn++pins,p.1≠b) :
  Inv X pins σ H' {s with heap:=h',gens:=g',drawn:=d',toks:=t'}:=by
 obtain⟨m,⟨o,es,ep,ho,r⟩,_⟩:=id I.loc
 obtain⟨sl,hL⟩:=u.any ho I.free fun z=>(hch _ z).2.1 rfl
 exact I.step (ch:=ch) hch (fun b o hL hb hc e n=>u.keep b o e n (fun z=>(List.mem_cons.mp (I.stkSub b z)).elim hL hb) hc) (fun b o _ _ hc e n=>u.any e n hc) (fun b o hc e n=>u.free b o e n hc) (fun b o hc e=>u.there b o e hc) u.tups u.frzs u.tbls (fun m' hm=>by
  obtain⟨o',es',ep',ho',r'⟩:=hm
  rw[ho] at ho';cases ho'
  exact⟨_,es',ep',hL,r'⟩) hok hg
theorem Inv.turned {t':Nat}{it:Addr}(I:Inv X pins σ H s)(k:∀b o,b≠it->s.heap.get? b=some o->h'.get? b=some o)(hn:H it=none)(hL:it≠X.env.locals)
  (h1:it∈X.ex\/X.s₀.heap.objs.size<=it) (h2:∀x c,X.env.cells.lookup x=some c->c≠it) (h3:∀p∈X.pn++pins,p.1≠it):Inv X pins σ H {s with heap:=h',toks:=t'}:=by
 have nit:∀b u,H b=some u->b≠it:=fun b u e z=>by rw[z,hn] at e;cases e
 refine I.step (g':=s.gens) (d':=s.drawn) (ch:=[it]) (fun b hb=>?_) (fun b o _ _ hc e _=>k b o (fun z=>hc (by simp[z])) e) (fun b o _ _ hc e _=>⟨o.slots,k b o (fun z=>hc (by simp[z])) e⟩) (fun _ _ _ _ n=>n)
  (fun b o hc e=>⟨o,k b o (fun z=>hc (by simp[z])) e⟩) (fun _ _ e=>e) (fun _ _ _ e=>e) (fun b ps e=>⟨#[],by rw[e];simp⟩) (fun m hm=>?_) (fun b u e=>?_) I.bare
 · have e:b=it:=by simpa using hb
   subst e
   exact⟨h1,hL,h2,h3⟩
 · obtain⟨o,es,ep,ho,r⟩:=hm
   exact⟨o,es,ep,k _ o (Ne.symm hL) ho,r⟩
 · refine (I.hok b u e).stay (fun c v hc q=>k c v ?_ q) (fun _ q=>q) fun _ _ q=>q
   rcases hc with z|z
   · rw[z];exact nit b u e
   · exact nit c _ z
theorem Inv.tok (I:Inv X pins σ H s)(t:Nat):Inv X pins σ H {s with toks:=t}:=I.un (h':=s.heap) (t':=t) Un.refl I.hok
theorem Inv.kept {t':Nat}(I:Inv X pins σ H s)(k:∀b u,s.heap.get? b=some u->h'.get? b=some u):Inv X pins σ H {s with heap:=h',toks:=t'}:=I.un (Un.kept k) (I.hok.kept k)
theorem Inv.laid {a:Addr}{o:HO}{t':Nat}(I:Inv X pins σ H s)(k:∀b u,s.heap.get? b=some u->h'.get? b=some u)(hp:s.heap.objs.size<=a)(new:ObjOk X.prog X.w (upd H a o) h' a o) :
 Inv X pins σ (upd H a o) {s with heap:=h',toks:=t'}:=I.un (Un.laid k hp (I.hok.fresh hp)) (I.hok.laid k hp new)
theorem Inv.write {x e:Addr}{o:HO}{t':Nat}(I:Inv X pins σ H s)(mu:Mut (H x))(he:e=x\/H e=some (.own x))(k:∀b u,b≠e->s.heap.get? b=some u->h'.get? b=some u)(heo:∃u,h'.get? e=some u)
 (new:ObjOk X.prog X.w (upd H x o) h' x o):Inv X pins σ (upd H x o) {s with heap:=h',toks:=t'}:=I.un (Un.write mu he k heo) (I.hok.write mu he k heo new)
theorem Inv.pins_of {pins':List (Addr × Obj)}(I:Inv X pins σ H s)(h:∀p∈pins',s.heap.get? p.1=some p.2/\H p.1=none/\p.1≠X.env.locals/\p.1∉X.fs/\∀v,p.2.data≠.cell v):Inv X pins' σ H s:=
 ⟨I.ok,I.os,I.bare,I.base,I.loc,I.cell,I.free,I.freeC,fun p hp=>(List.mem_append.mp hp).elim (fun z=>I.pin p (List.mem_append_left _ z)) (h p),I.hok,I.len⟩
theorem zfZ {N:List Str}(hN:N.Nodup){i j:Nat}{x:Str}(a:N[i]?=some x)(b:N[j]?=some x):i=j:=by
 obtain⟨h1,e1⟩:=List.getElem?_eq_some_iff.mp a
 obtain⟨h2,e2⟩:=List.getElem?_eq_some_iff.mp b
 exact (List.getElem_inj hN).mp (e1.trans e2.symm)
theorem zeA {M:Model}{A:Around}{E:Value->Shared->Prop}{i:Nat}{x:Str}{v:V}{u:Value}{Q:Unit->Shared->Prop}(I:Inv X pins σ H s)(hN:X.N.Nodup)(hi:X.N[i]?=some x)(hx:Loc X.env.scope x)(r:RelV v u)
  (h:∀s',Inv X pins (σ.set i (some v)) H s'->(∃a,Heap.SameBut a s.heap s'.heap/\(a=X.env.locals\/X.env.cells.lookup x=some a))->Q () s') (hf:X.fn x=true\/X.env.scope.names.lookup x=some .local:=by first|exact .inl rfl|exact .inr rfl|assumption):wpAny M A (storeName X.env x u) Q E s:=by
 obtain⟨m,hn,hl⟩:=id I.loc
 have hcls:(X.env.scope.kind == .class || (X.env.scope.kind == .module&&X.env.locals != X.env.globals))=false:=by rw[I.ok.kind];rfl
 have hiσ:i<σ.length:=by rw[I.len];exact (List.getElem?_eq_some_iff.mp hi).1
 have cne:=I.cne
 have tracked:∀{a:Addr} {h':Heap},(∃o,s.heap.get? a=some o/\H a=none)->Heap.SameBut a s.heap h'->HOk X.prog X.w H h':=fun {a h'} ha hs b ob e=>by
  obtain⟨_,_,hfree⟩:=ha
  refine (I.hok b ob e).stay (fun c w' hc q=>(hs.2 c ?_).trans q) (fun _ q=>q) fun _ _ q=>q
  rintro rfl
  rcases hc with rfl|hc
  · rw[hfree] at e;cases e
  · rw[hfree] at hc;cases hc
 rcases hx with hk|hk
 · refine wpAny_storeName_local hk hn (fun h' hn' hs=>?_) hcls
   obtain⟨oL,_,_,hoL,_⟩:=id hn
   refine h _ ⟨I.ok,I.os,I.bare,⟨fun b o e n hb hx=>?_,fun b o e n hb hx=>?_,I.base.free,fun b o e hx=>?_,I.base.tups,I.base.frzs,I.base.tbls⟩,⟨_,hn',fun j y v' e1 e2 e3=>?_⟩,fun y c e=>?_,I.free,I.freeC,fun p hp=>?_,tracked ⟨oL,hoL,I.free⟩ hs,by simpa using I.len⟩ ⟨_,hs,.inl rfl⟩
   · exact (hs.2 b (Nat.ne_of_lt (Nat.lt_of_lt_of_le (Heap.lt_size e) I.ok.above))).trans (I.base.keep b o e n hb hx)
   · obtain⟨sl,e1⟩:=I.base.slot b o e n hb hx
     exact⟨sl,(hs.2 b (Nat.ne_of_lt (Nat.lt_of_lt_of_le (Heap.lt_size e) I.ok.above))).trans e1⟩
   · obtain⟨o',e1⟩:=I.base.there b o e hx
     exact⟨o',(hs.2 b (Nat.ne_of_lt (Nat.lt_of_lt_of_le (Heap.lt_size e) I.ok.above))).trans e1⟩
   · by_cases hj:j=i
     · subst hj
       rw[hi] at e1;cases e1
       rw[List.getElem?_set_self hiσ] at e2
       cases e2
       exact⟨u,r,.inl ⟨hk,by simp⟩⟩
     · rw[List.getElem?_set_ne (Ne.symm hj)] at e2
       obtain⟨u',r',q⟩:=hl j y v' e1 e2 e3
       refine⟨u',r',?_⟩
       rcases q with ⟨k,e⟩|⟨k,c,e,z⟩
       · refine .inl ⟨k,?_⟩
         have:y≠x:=fun e=>hj (zfZ hN e1 (e▸hi))
         simp[this,e]
       · exact .inr ⟨k,c,e,z.sameBut hs (cne y c e)⟩
   · obtain⟨w',z⟩:=I.cell y c e
     exact⟨w',z.sameBut hs (cne y c e)⟩
   · obtain⟨e,n,ne,nf,d⟩:=I.pin p hp
     exact⟨(hs.2 p.1 ne).trans e,n,ne,nf,d⟩
 · have hfn:X.fn x=true:=by
    rcases hf with z|z
    · exact z
    · rw[z] at hk;cases hk
   obtain⟨c,hc⟩:=I.ok.has x (.inl hk)
   obtain⟨w',z⟩:=I.cell x c hc
   refine wpAny_storeName_cell I.ok.kind hk hc z (fun h' hc' hs=>?_)
   obtain⟨oc,hoc,hocd⟩:=id z
   refine h {s with heap:=h'} ⟨I.ok,I.os,I.bare,⟨fun b o e n hb hx=>?_,fun b o e n hb hx=>?_,I.base.free,fun b o e hx=>?_,I.base.tups,I.base.frzs,I.base.tbls⟩,⟨m,hn.sameBut hs (Ne.symm (cne x c hc)),fun j y v' e1 e2 e3=>?_⟩,fun y c' e=>?_,I.free,I.freeC,fun p hp=>?_,tracked ⟨oc,hoc,I.freeC x c hc⟩ hs,by simpa using I.len⟩ ⟨c,hs,.inr hc⟩
   · exact (hs.2 b (Nat.ne_of_lt (Nat.lt_of_lt_of_le (Heap.lt_size e) (I.ok.cab x c hfn hc)))).trans (I.base.keep b o e n hb hx)
   · obtain⟨sl,e1⟩:=I.base.slot b o e n hb hx
     exact⟨sl,(hs.2 b (Nat.ne_of_lt (Nat.lt_of_lt_of_le (Heap.lt_size e) (I.ok.cab x c hfn hc)))).trans e1⟩
   · obtain⟨o',e1⟩:=I.base.there b o e hx
     exact⟨o',(hs.2 b (Nat.ne_of_lt (Nat.lt_of_lt_of_le (Heap.lt_size e) (I.ok.cab x c hfn hc)))).trans e1⟩
   · by_cases hj:j=i
     · subst hj
       rw[hi] at e1;cases e1
       rw[List.getElem?_set_self hiσ] at e2
       cases e2
       exact⟨u,r,.inr ⟨.inl hk,c,hc,hc'⟩⟩
     · rw[List.getElem?_set_ne (Ne.symm hj)] at e2
       obtain⟨u',r',q⟩:=hl j y v' e1 e2 e3
       refine⟨u',r',?_⟩
       rcases q with q|⟨k,c',e,z'⟩
       · exact .inl q
       · refine .inr ⟨k,c',e,z'.sameBut hs ?_⟩
         rintro rfl
         exact hj (zfZ hN e1 (I.ok.inj _ _ _ e hc▸hi))
   · by_cases hcc:c'=c
     · subst hcc;exact⟨_,hc'⟩
     · obtain⟨w2,z2⟩:=I.cell y c' e
       exact⟨w2,z2.sameBut hs hcc⟩
   · obtain⟨e,n,ne,nf,d⟩:=I.pin p hp
     refine⟨(hs.2 p.1 ?_).trans e,n,ne,nf,d⟩
     intro q
     rw[q,hoc] at e
     have q':oc=p.2:=Option.some.inj e
     exact d w' (by rw[<-q'];exact hocd)
theorem zfO {M:Model}{A:Around}{E:Value->Shared->Prop}{i:Nat}{x:Str}{v:V}{u:Value}{Q:Unit->Shared->Prop}(I:Inv X pins σ H s)(hN:X.N.Nodup)(hi:X.N[i]?=some x)(hx:Loc X.env.scope x)(r:RelV v u)
  (h:∀s',Inv X pins (σ.set i (some v)) H s'->Q () s') (hf:X.fn x=true\/X.env.scope.names.lookup x=some .local:=by first|exact .inl rfl|exact .inr rfl|assumption):wpAny M A (storeName X.env x u) Q E s:=
 zeA I hN hi hx r (fun s' I' _=>h s' I') hf
theorem Inv.call' {s':Shared}{ch:List Addr}(I:Inv X pins σ H s)(ho:s'.os=s.os)(u:Un (frs X.stack) ch H H' s.heap s'.heap)(hok:HOk X.prog X.w H' s'.heap)(hg:AllBare s'.gens)
  (hch:∀b∈ch,(b∈X.ex\/X.s₀.heap.objs.size<=b)/\b≠X.env.locals/\(∀x c,X.env.cells.lookup x=some c->c≠b)/\∀p∈X.pn++pins,p.1≠b):Inv X pins σ H' s':=by
 obtain⟨h',g',d',t',o'⟩:=s'
 have e:o'=s.os:=ho
 subst e
 exact I.call (g':=g') (t':=t') (d':=d') u hok hg hch
end
noncomputable abbrev XK:=Value->Option Addr->Hp->Prop
noncomputable abbrev St:=List (Option V)
noncomputable abbrev VK:=V->Hp->Prop
noncomputable abbrev TE:=St->Hp->VK->Prop
noncomputable abbrev TT:=St->Hp->(Bool->Hp->Prop)->Prop
noncomputable abbrev TA:=St->Hp->(List V->Hp->Prop)->Prop
structure Ends where
 nx:St->Hp->Prop
 rt:VK
 bk:St->Hp->Prop:=fun _ _=>False
 ct:St->Hp->Prop:=fun _ _=>False
noncomputable abbrev TS:=Ends->St->Hp->Prop
noncomputable def EP (X:Cx)(pins:List (Addr × Obj))(σ:St)(Q:VK)(u:Value)(s':Shared):Prop:=∃v H',Inv X pins σ H' s'/\RelV v u/\Q v H'
noncomputable def TP (X:Cx)(pins:List (Addr × Obj))(σ:St)(Q:Bool->Hp->Prop)(b:Bool)(s':Shared):Prop:=∃H',Inv X pins σ H' s'/\Q b H'
noncomputable def AP (X:Cx)(pins:List (Addr × Obj))(σ:St)(Q:List V->Hp->Prop)(us:List Value)(s':Shared):Prop:=∃vs H',Inv X pins σ H' s'/\Vals vs us/\Q vs H'
noncomputable def SP (X:Cx)(pins:List (Addr × Obj))(D:Ends)(f:Flow)(s':Shared):Prop:=
 match f with
 |.next=>∃σ' H',Inv X pins σ' H' s'/\D.nx σ' H'
 |.brk=>∃σ' H',Inv X pins σ' H' s'/\D.bk σ' H'
 |.cont=>∃σ' H',Inv X pins σ' H' s'/\D.ct σ' H'
 |.ret u=>∃v σ' H',Inv X pins σ' H' s'/\RelV v u/\D.rt v H'
noncomputable def PE (X:Cx)(e:Expr)(t:TE):Prop:=
 ∀(pins:List (Addr × Obj)) (s:Shared) (σ:St) (H:Hp) (Q:VK),Inv X pins σ H s->t σ H Q->wpAny (model X.prog X.w) X.A (eval e X.env) (EP X pins σ Q) X.xe s
noncomputable def PT (X:Cx)(e:Expr)(t:TT):Prop:=
 ∀(pins:List (Addr × Obj)) (s:Shared) (σ:St) (H:Hp) (Q:Bool->Hp->Prop),Inv X pins σ H s->t σ H Q->wpAny (model X.prog X.w) X.A (isTrue e X.env (eval e X.env)) (TP X pins σ Q) X.xe s
noncomputable def PW (X:Cx)(e:Expr)(t:TT):Prop:=
 ∀(whole:Sem Value) (pins:List (Addr × Obj)) (s:Shared) (σ:St) (H:Hp) (Q:Bool->Hp->Prop),Inv X pins σ H s->t σ H Q->wpAny (model X.prog X.w) X.A (isTrue e X.env whole) (TP X pins σ Q) X.xe s
theorem PW.pt {X:Cx}{e:Expr}{t:TT}(h:PW X e t):PT X e t:=h _
noncomputable def PA (X:Cx)(es:List Expr)(t:TA):Prop:=
 ∀(pos:Pos) (pins:List (Addr × Obj)) (s:Shared) (σ:St) (H:Hp) (Q:List V->Hp->Prop),Inv X pins σ H s->t σ H Q->wpAny (model X.prog X.w) X.A (spliced (backTo pos (starEach es X.env))) (AP X pins σ Q) X.xe s
noncomputable def PS (X:Cx)(st:Stmt)(t:TS):Prop:=
 ∀(pins:List (Addr × Obj)) (s:Shared) (σ:St) (H:Hp) (D:Ends),Inv X pins σ H s->t D σ H->wpAny (model X.prog X.w) X.A (exec st X.env) (SP X pins D) X.xe s
noncomputable def PSs (X:Cx)(st:List Stmt)(t:TS):Prop:=
 ∀(pins:List (Addr × Obj)) (s:Shared) (σ:St) (H:Hp) (D:Ends),Inv X pins σ H s->t D σ H->wpAny (model X.prog X.w) X.A (execs st X.env) (SP X pins D) X.xe s
theorem thn {α:Type}{t:Sem α}{Q Q':α->Shared->Prop}{M:Model}{A:Around}{E:Value->Shared->Prop}{s:Shared}(h:wpAny M A t Q E s)(hQ:∀a s,Q a s->Q' a s):wpAny M A t Q' E s:=wpAny_mono h hQ fun _ _ x=>x
end L2
namespace L2
open PySem PySem.Spec PyProof.Rows
section
variable {X:Cx}
theorem bin {a b:Expr}{ta tb:TE}(ha:PE X a ta)(hb:PE X b tb){pins:List (Addr × Obj)}{s:Shared}{σ:St}{H:Hp}{R:V->V->Hp->Prop}(I:Inv X pins σ H s)(h:ta σ H fun x H1=>tb σ H1 fun y H2=>R x y H2)
  {α:Type} {Q:α->Shared->Prop} {f:Value->Value->Sem α}
  (hf:∀v u s2 x y H2,Inv X pins σ H2 s2->RelV x v->RelV y u->R x y H2->wpAny (model X.prog X.w) X.A (f v u) Q X.xe s2) :
  wpAny (model X.prog X.w) X.A (eval a X.env) (fun v s₁=>wpAny (model X.prog X.w) X.A (eval b X.env) (fun u s₂=>wpAny (model X.prog X.w) X.A (f v u) Q X.xe s₂) X.xe s₁) X.xe s:=by
 refine thn (ha pins s σ H _ I h) fun v s1 ⟨x,H1,I1,r1,q1⟩=>?_
 refine thn (hb pins s1 σ H1 _ I1 q1) fun u s2 ⟨y,H2,I2,r2,q2⟩=>?_
 exact hf v u s2 x y H2 I2 r1 r2 q2
noncomputable def tVar (i:Nat):TE:=fun σ H Q=>∃v,σ[i]?=some (some v)/\Q v H
noncomputable def tC (v:V):TE:=fun _ H Q=>Q v H
theorem zmM {i:Nat}{x:Str}{pos:Pos}(hN:X.N[i]?=some x)(hv:Vis X.env.scope x)(hd:(x == ("__debug__":Str))=false:=by decide)(hcd:(x == ("__classdict__":Str))=false:=by decide):PE X (.Name x pos) (tVar i):=by
 intro pins s σ H Q I h
 obtain⟨v,e,h⟩:=h
 obtain⟨m,hn,hl⟩:=I.loc
 obtain⟨u,r,l⟩:=hl i x v hN e hv
 have fin:EP X pins σ Q u s:=⟨v,H,I,r,h⟩
 rcases l with ⟨hk,hm⟩|⟨hk,c,hc,hcell⟩
 · exact wpAny_Name (wpAny_loadName_local I.ok.kind hk hn hm fin) hd
 · rcases hk with hk|hk
   · exact wpAny_Name (wpAny_loadName_cell I.ok.kind hk hc hcell fin) hd
   · exact wpAny_Name (wpAny_loadName_free I.ok.kind hk hc hcell fin hcd) hd
theorem zmS {i j pos}:PE X (.Constant (.int i) j pos) (tC (.int i)):=fun _ _ _ H _ I h=>wpAny_Constant_int ⟨.int i,H,I.tok _,⟨_,rfl⟩,h⟩
theorem zos {b j pos}:PE X (.Constant (.bool b) j pos) (tC (.bl b)):=fun _ _ _ H _ I h=>Constant_bool ⟨.bl b,H,I,rfl,h⟩
theorem zmQ {j pos}:PE X (.Constant .none j pos) (tC .non):=fun _ _ _ H _ I h=>Constant_none ⟨.non,H,I,rfl,h⟩
theorem zmO {x j pos}:PE X (.Constant (.str x) j pos) (tC (.str x)):=fun _ _ _ H _ I h=>Calls.Constant_str ⟨.str x,H,I.tok _,⟨_,rfl⟩,h⟩
noncomputable def Gl (X:Cx)(x:Str):Prop:=X.env.kindOf x=some .globalImplicit
theorem zde {E:Value->Shared->Prop}{pins:List (Addr × Obj)}{s:Shared}{σ:St}{H:Hp}{x:Str}{u:Value}{pos:Pos}{Q:Value->Shared->Prop}(I:Inv X pins σ H s)(hg:Gl X x)(hm:X.mg x=some u)(h:Q u s)
  (hd:(x == ("__debug__":Str))=false:=by decide):wpAny (model X.prog X.w) X.A (eval (.Name x pos) X.env) Q E s:=
 Calls.Name_function_global I.ok.kind hg (Calls.loadGlobal_global (by rw[I.ok.glob];exact I.mod.glob.keeps I.bk) hm h) hd
theorem zeU {E:Value->Shared->Prop}{pins:List (Addr × Obj)}{s:Shared}{σ:St}{H:Hp}{x:Str}{u:Value}{pos:Pos}{Q:Value->Shared->Prop}(I:Inv X pins σ H s)(hg:Gl X x)(hm:X.mg x=none)(hv:bootBuiltins x=some u)(h:Q u s)
  (hn:x≠"__name__":=by decide) (hd:(x == ("__debug__":Str))=false:=by decide):wpAny (model X.prog X.w) X.A (eval (.Name x pos) X.env) Q E s:=by
 obtain⟨mb,h1,h2⟩:=I.mod.blt
 exact Calls.Name_function_global I.ok.kind hg (Calls.loadGlobal_builtin (by rw[I.ok.glob];exact I.mod.glob.keeps I.bk) hm (by rw[I.ok.blt];exact h1.keeps I.bk) ((h2 x hn).trans hv) h) hd
theorem zfo {x:Str}{v:V}{u:Value}{pos:Pos}(hg:Gl X x)(hm:X.mg x=some u)(r:RelV v u)(hd:(x == ("__debug__":Str))=false:=by decide):PE X (.Name x pos) (tC v):=
 fun _ _ _ H _ I h=>zde I hg hm ⟨v,H,I,r,h⟩ hd
theorem zk4 {x:Str}{v:V}{u:Value}{pos:Pos}(hg:Gl X x)(hm:X.mg x=none)(hv:bootBuiltins x=some u)(r:RelV v u)(hn:x≠"__name__":=by decide)(hd:(x == ("__debug__":Str))=false:=by decide):PE X (.Name x pos) (tC v):=
 fun _ _ _ H _ I h=>zeU I hg hm hv ⟨v,H,I,r,h⟩ hn hd
variable {a b:Expr} {ta tb:TE} {pos:Pos}
theorem RelV.none_iff {x:V}{v:Value}(r:RelV x v):(v == Value.none)=decide (x=.non):=by
 cases x with
 |non=>cases r;rfl
 |bl _=>cases r;rfl
 |int _=>obtain⟨t,rfl⟩:=r;rfl
 |str _=>obtain⟨t,rfl⟩:=r;rfl
 |byt _=>obtain⟨t,rfl⟩:=r;rfl
 |flt _=>obtain⟨t,rfl⟩:=r;rfl
 |ref _=>cases r;rfl
 |ty _=>cases r;rfl
variable {tA tB':TT} {rest:List Expr}
noncomputable def tAnd (t u:TT):TT:=fun σ H Q=>t σ H fun c H1=>if c=true then u σ H1 Q else Q false H1
noncomputable def tOr (t u:TT):TT:=fun σ H Q=>t σ H fun c H1=>if c=true then Q true H1 else u σ H1 Q
noncomputable def tNot (t:TT):TT:=fun σ H Q=>t σ H fun c H1=>Q (!c) H1
theorem zkL (ha:PT X a tA):PW X (.BoolOp .And [a] pos) tA:=by
 intro wh pins s σ H Q I h
 refine isTrue_and (thn (ha pins s σ H Q I h) fun c s1 e=>?_)
 cases c with
 |true=>exact isTrue_and_nil e
 |false=>exact e
theorem zmE (ha:PT X a tA):PW X (.BoolOp .Or [a] pos) tA:=by
 intro wh pins s σ H Q I h
 refine isTrue_or (thn (ha pins s σ H Q I h) fun c s1 e=>?_)
 cases c with
 |false=>exact isTrue_or_nil e
 |true=>exact e
theorem zmF (ha:PT X a tA)(hb:PW X (.BoolOp .And (b::rest) pos) tB'):PW X (.BoolOp .And (a::b::rest) pos) (tAnd tA tB'):=by
 intro wh pins s σ H Q I h
 refine isTrue_and (thn (ha pins s σ H _ I h) fun c s1 ⟨H1,I1,q1⟩=>?_)
 cases c with
 |true=>exact hb wh pins s1 σ H1 Q I1 q1
 |false=>exact⟨H1,I1,q1⟩
theorem zol (ha:PT X a tA)(hb:PW X (.BoolOp .Or (b::rest) pos) tB'):PW X (.BoolOp .Or (a::b::rest) pos) (tOr tA tB'):=by
 intro wh pins s σ H Q I h
 refine isTrue_or (thn (ha pins s σ H _ I h) fun c s1 ⟨H1,I1,q1⟩=>?_)
 cases c with
 |true=>exact⟨H1,I1,q1⟩
 |false=>exact hb wh pins s1 σ H1 Q I1 q1
theorem zmG (ha:PT X a tA):PT X (.UnaryOp .Not a pos) (tNot tA):=by
 intro pins s σ H Q I h
 exact isTrue_not (ha pins s σ H (fun c H1=>Q (!c) H1) I h)
noncomputable def zn7 (ta tb:TE):TE:=fun σ H Q=>ta σ H fun x H1=>∃c,x=.bl c/\if c=true then tb σ H1 Q else Q (.bl false) H1
noncomputable def tOrV (ta tb:TE):TE:=fun σ H Q=>ta σ H fun x H1=>∃c,x=.bl c/\if c=true then Q (.bl true) H1 else tb σ H1 Q
noncomputable def zn3 (ta:TE):TE:=fun σ H Q=>ta σ H fun x H1=>∃c,x=.bl c/\Q (.bl (!c)) H1
theorem zjT {op}{t:TE}(h:PE X a t):PE X (.BoolOp op [a] pos) t:=fun pins s σ H Q I hw=>BoolOp_one (h pins s σ H Q I hw)
theorem zmX (ha:PE X a ta)(hb:PE X (.BoolOp .And (b::rest) pos) tb):PE X (.BoolOp .And (a::b::rest) pos) (zn7 ta tb):=by
 intro pins s σ H Q I h
 refine BoolOp_and (thn (ha pins s σ H _ I h) fun v s1 ⟨x,H1,I1,r1,q1⟩=>?_)
 obtain⟨c,rfl,q1⟩:=q1
 cases r1
 refine wpAny_truthy_bool ?_
 cases c with
 |true=>exact hb pins s1 σ H1 Q I1 q1
 |false=>exact⟨.bl false,H1,I1,rfl,q1⟩
theorem zoo (ha:PE X a ta)(hb:PE X (.BoolOp .Or (b::rest) pos) tb):PE X (.BoolOp .Or (a::b::rest) pos) (tOrV ta tb):=by
 intro pins s σ H Q I h
 refine BoolOp_or (thn (ha pins s σ H _ I h) fun v s1 ⟨x,H1,I1,r1,q1⟩=>?_)
 obtain⟨c,rfl,q1⟩:=q1
 cases r1
 refine wpAny_truthy_bool ?_
 cases c with
 |false=>exact hb pins s1 σ H1 Q I1 q1
 |true=>exact⟨.bl true,H1,I1,rfl,q1⟩
theorem zmP (ha:PE X a ta):PE X (.UnaryOp .Not a pos) (zn3 ta):=by
 intro pins s σ H Q I h
 refine UnaryOp_ (thn (ha pins s σ H _ I h) fun v s1 ⟨x,H1,I1,r1,q1⟩=>?_)
 obtain⟨c,rfl,q1⟩:=q1
 cases r1
 exact not_of (wpAny_truthy_bool ⟨.bl (!c),H1,I1,rfl,q1⟩)
noncomputable def tIf (t:TT)(ta tb:TE):TE:=fun σ H Q=>t σ H fun c H1=>if c=true then ta σ H1 Q else tb σ H1 Q
theorem zi9 {c:Expr}(hc:PT X c tA)(ha:PE X a ta)(hb:PE X b tb):PE X (.IfExp c a b pos) (tIf tA ta tb):=by
 intro pins s σ H Q I h
 refine wpAny_IfExp (thn (hc pins s σ H _ I h) fun d s1 ⟨H1,I1,q1⟩=>?_)
 cases d with
 |true=>exact ha pins s1 σ H1 Q I1 q1
 |false=>exact hb pins s1 σ H1 Q I1 q1
end
end L2
namespace L2
open PySem PySem.Spec PyProof.Rows
noncomputable def SqL (K:PySem.W.Frag)(H:Hp)(a:Addr)(xs:List V):Prop:=
 Rd H a (.lst xs)\/
  ∃(o:Obj) (its:Array Value) (n:Nat),K.lookup a=some o/\o.cls=.type "list"/\o.dict=none/\o.data=.seq its n/\its.size<=sizeLine/\Vals xs its.toList
noncomputable def SqT (K:PySem.W.Frag)(H:Hp)(a:Addr)(xs:List V):Prop:=
 Rd H a (.tup xs)\/
  ∃(o:Obj) (its:Array Value) (n:Nat),K.lookup a=some o/\o.cls=.type "tuple"/\o.data=.seq its n/\its.size<=sizeLine/\Vals xs its.toList
noncomputable def absV:Value->Option V
 |.none=>some .non
 |.bool b=>some (.bl b)
 |.int i _=>some (.int i)
 |.str x _=>some (.str x)
 |.bytes b _=>some (.byt b)
 |.float b _=>some (.flt b)
 |.ref a=>some (.ref a)
 |.type n=>some (.ty n)
 |_=>none
theorem RelV.abs {x:V}{u:Value}(r:RelV x u):absV u=some x:=by
 cases x with
 |non=>cases r;rfl
 |bl _=>cases r;rfl
 |int _=>obtain⟨t,rfl⟩:=r;rfl
 |str _=>obtain⟨t,rfl⟩:=r;rfl
 |byt _=>obtain⟨t,rfl⟩:=r;rfl
 |flt _=>obtain⟨t,rfl⟩:=r;rfl
 |ref _=>cases r;rfl
 |ty _=>cases r;rfl
theorem RelV.inj {x y:V}{u:Value}(r:RelV x u)(q:RelV y u):x=y:=Option.some.inj (r.abs.symm.trans q.abs)
theorem Vals.inj:∀{xs ys:List V} {us:List Value},Vals xs us->Vals ys us->xs=ys
 |_,_,_,.nil,.nil=>rfl
 |_,_,_,.cons r t,.cons r' t'=>by rw[r.inj r',Vals.inj t t']
section
variable {X:Cx} {pins:List (Addr × Obj)} {σ:St} {H:Hp} {s:Shared} {a:Addr} {xs ys:List V}
theorem SqL.of {K:PySem.W.Frag}(h:H a=some (.lst xs)):SqL K H a xs:=.inl (.inl h)
theorem SqT.of {K:PySem.W.Frag}(h:H a=some (.tup xs)):SqT K H a xs:=.inl (.inl h)
theorem Inv.list (I:Inv X pins σ H s)(h:SqL X.K H a xs):∃its:List Value,Vals xs its/\PlainL s.heap a its.toArray/\xs.length<=sizeLine:=by
 rcases h with h|⟨o,its,n,hk,hc,hd,hs,hz,r⟩
 · obtain⟨z,its,n,r,e⟩:=h.ok I.hok
   exact⟨its,r,⟨_,n,e,rfl,rfl,rfl⟩,z⟩
 · refine⟨its.toList,r,⟨o,n,I.kIn a o hk,hc,hd,by simpa using hs⟩,?_⟩
   have e:=r.length
   simp only[Array.length_toList] at e
   omega
theorem Inv.tuple (I:Inv X pins σ H s)(h:SqT X.K H a xs):∃its:List Value,Vals xs its/\IsTup s.heap a its.toArray/\xs.length<=sizeLine:=by
 rcases h with h|⟨o,its,n,hk,hc,hs,hz,r⟩
 · obtain⟨z,its,r,p⟩:=h.ok I.hok
   exact⟨its,r,p,z⟩
 · refine⟨its.toList,r,⟨o,I.kIn a o hk,hc,n,by simpa using hs⟩,?_⟩
   have e:=r.length
   simp only[Array.length_toList] at e
   omega
theorem Inv.list_inj (I:Inv X pins σ H s)(h:SqL X.K H a xs)(h':SqL X.K H a ys):xs=ys:=by
 obtain⟨its,r,⟨o,n,e,_,_,d⟩,_⟩:=I.list h
 obtain⟨its',r',⟨o',n',e',_,_,d'⟩,_⟩:=I.list h'
 rw[e] at e';cases e'
 rw[d] at d'
 injection d' with d1 _
 have:its=its':=by simpa using congrArg Array.toList d1
 subst this
 exact r.inj r'
theorem Inv.tuple_inj (I:Inv X pins σ H s)(h:SqT X.K H a xs)(h':SqT X.K H a ys):xs=ys:=by
 obtain⟨its,r,⟨o,e,_,n,d⟩,_⟩:=I.tuple h
 obtain⟨its',r',⟨o',e',_,n',d'⟩,_⟩:=I.tuple h'
 rw[e] at e';cases e'
 rw[d] at d'
 injection d' with d1 _
 have:its=its':=by simpa using congrArg Array.toList d1
 subst this
 exact r.inj r'
end
noncomputable abbrev Cx.wish (X:Cx)(E:Value->Shared->Prop):Cx:={X with xe:=E}
noncomputable abbrev Cx.nox (X:Cx):Cx:=X.wish fun _ _=>False
theorem Cx.Ok.wish {X:Cx}(ok:X.Ok)(E:Value->Shared->Prop):(X.wish E).Ok:=
 ⟨ok.mod,ok.kind,ok.glob,ok.blt,ok.above,ok.inj,ok.has,ok.cab,ok.hd,ok.frames,ok.stk,ok.exf,ok.bs,ok.bsz,ok.noex,ok.exfs,ok.funs,ok.frf⟩
theorem Cx.Ok.unwish {X:Cx}{E:Value->Shared->Prop}(ok:(X.wish E).Ok):X.Ok:=
 ⟨ok.mod,ok.kind,ok.glob,ok.blt,ok.above,ok.inj,ok.has,ok.cab,ok.hd,ok.frames,ok.stk,ok.exf,ok.bs,ok.bsz,ok.noex,ok.exfs,ok.funs,ok.frf⟩
section
variable {X:Cx} {pins:List (Addr × Obj)} {σ:St} {H:Hp} {s:Shared} {E:Value->Shared->Prop}
theorem Inv.wish (I:Inv X pins σ H s)(E:Value->Shared->Prop):Inv (X.wish E) pins σ H s:=⟨I.ok.wish E,I.os,I.bare,I.base,I.loc,I.cell,I.free,I.freeC,I.pin,I.hok,I.len⟩
theorem Inv.unwish (I:Inv (X.wish E) pins σ H s):Inv X pins σ H s:=⟨I.ok.unwish,I.os,I.bare,I.base,I.loc,I.cell,I.free,I.freeC,I.pin,I.hok,I.len⟩
theorem SP.unwish {D:Ends}{f:Flow}{s':Shared}(h:SP (X.wish E) pins D f s'):SP X pins D f s':=by
 cases f with
 |next=>obtain⟨σ',H',I,q⟩:=h;exact⟨σ',H',I.unwish,q⟩
 |brk=>obtain⟨σ',H',I,q⟩:=h;exact⟨σ',H',I.unwish,q⟩
 |cont=>obtain⟨σ',H',I,q⟩:=h;exact⟨σ',H',I.unwish,q⟩
 |ret u=>obtain⟨v,σ',H',I,r,q⟩:=h;exact⟨v,σ',H',I.unwish,r,q⟩
theorem PSs.nox {st:List Stmt}{t:TS}(h:PSs X.nox st t):PSs X st t:=fun pins s σ H D I hw=>
 wpAny_mono (h pins s σ H D (I.wish _) hw) (fun _ _ q=>q.unwish) fun _ _ z=>False.elim z
end
section
variable {X:Cx} {st:Stmt} {rest:List Stmt} {t u:TS} {e:Expr} {te:TE} {pos:Pos}
noncomputable def zn4:TS:=fun D σ H=>D.nx σ H
noncomputable def tSeq (t u:TS):TS:=fun D σ H=>t {D with nx:=u D} σ H
theorem zkQ:PSs X [] zn4:=fun _ _ σ H _ I h=>wpAny_execs_nil ⟨σ,H,I,h⟩
theorem zbg (h1:PS X st t)(h2:PSs X rest u):PSs X (st::rest) (tSeq t u):=by
 intro pins s σ H D I h
 refine wpAny_execs_cons (thn (h1 pins s σ H {D with nx:=u D} I h) fun f s1 q=>?_)
 cases f with
 | next =>
   obtain⟨σ',H',I',q⟩:=q
   exact h2 pins s1 σ' H' D I' q
 |ret v=>exact q
 |brk=>exact q
 |cont=>exact q
theorem Inv.quiet {pins:List (Addr × Obj)}{σ:St}{H:Hp}{s:Shared}(I:Inv X pins σ H s):interactive X.env=false:=by simp[interactive,I.ok.kind]
noncomputable def zn5 (te:TE):TS:=fun D σ H=>te σ H fun _ H1=>D.nx σ H1
theorem zkS (he:PE X e te)(hs:swapsWith e none pos.line X.env=pure false:=by rfl):PS X (.Expr e pos) (zn5 te):=by
 intro pins s σ H D I h
 exact wpAny_Expr_any (thn (he pins s σ H _ I h) fun v s1 ⟨x,H1,I1,r1,q1⟩=>⟨σ,H1,I1,q1⟩) I.quiet hs
noncomputable def tRet (te:TE):TS:=fun D σ H=>te σ H D.rt
theorem zmH (he:PE X e te):PS X (.Return (some e) pos) (tRet te):=by
 intro pins s σ H D I h
 exact wpAny_Return_some (thn (he pins s σ H _ I h) fun v s1 ⟨x,H1,I1,r1,q1⟩=>⟨x,σ,H1,I1,r1,q1⟩)
noncomputable def tIfS (c:TT)(t u:TS):TS:=fun D σ H=>c σ H fun b H1=>if b=true then t D σ H1 else u D σ H1
theorem zom {c:Expr}{a b:List Stmt}{tc:TT}(hc:PT X c tc)(ha:PSs X a t)(hb:PSs X b u):PS X (.If c a b pos) (tIfS tc t u):=by
 intro pins s σ H D I h
 refine wpAny_If (thn (hc pins s σ H _ I h) fun d s1 ⟨H1,I1,q1⟩=>?_)
 cases d with
 |true=>exact ha pins s1 σ H1 D I1 q1
 |false=>exact hb pins s1 σ H1 D I1 q1
end
noncomputable abbrev TG:=V->St->Hp->(St->Hp->Prop)->Prop
noncomputable abbrev TGs:=List V->St->Hp->(St->Hp->Prop)->Prop
noncomputable def PG (X:Cx)(target:Expr)(t:TG):Prop:=
 ∀(pins:List (Addr × Obj)) (s:Shared) (σ:St) (H:Hp) (v:V) (u:Value) (Q:St->Hp->Prop),Inv X pins σ H s->RelV v u->t v σ H Q->
  wpAny (model X.prog X.w) X.A (assign target X.env u) (fun _ s'=>∃σ' H',Inv X pins σ' H' s'/\Q σ' H') X.xe s
noncomputable def PGs (X:Cx)(ts:List Expr)(t:TGs):Prop:=
 ∀(pins:List (Addr × Obj)) (s:Shared) (σ:St) (H:Hp) (vs:List V) (us:List Value) (Q:St->Hp->Prop),Inv X pins σ H s->Vals vs us->t vs σ H Q->
  wpAny (model X.prog X.w) X.A (assignInOrder ((assignEach ts X.env).map (·.2)) us) (fun _ s'=>∃σ' H',Inv X pins σ' H' s'/\Q σ' H') X.xe s
section
variable {X:Cx} {pos:Pos}
noncomputable def zid (i:Nat):TG:=fun v σ H Q=>Q (σ.set i (some v)) H
theorem zhE {i:Nat}{x:Str}(hN:X.N.Nodup)(hi:X.N[i]?=some x)(hx:Loc X.env.scope x)(hf:X.fn x=true\/X.env.scope.names.lookup x=some .local:=by first|exact .inl rfl|exact .inr rfl|assumption):PG X (.Name x pos) (zid i):=by
 intro pins s σ H v u Q I r h
 exact wpAny_assign_Name (zfO I hN hi hx r (fun s' I'=>⟨_,H,I',h⟩) hf)
noncomputable def gNil:TGs:=fun vs σ H Q=>vs=[]/\Q σ H
noncomputable def zoK (t:TG)(u:TGs):TGs:=fun vs σ H Q=>∃v r,vs=v::r/\t v σ H fun σ' H'=>u r σ' H' Q
theorem zkZ:PGs X [] gNil:=by
 intro pins s σ H vs us Q I r h
 obtain⟨e,h⟩:=h
 subst e
 cases r
 exact assignInOrder_nil ⟨σ,H,I,h⟩
theorem zi4 {e:Expr}{es:List Expr}{t:TG}{u:TGs}(h1:PG X e t)(h2:PGs X es u)
  (hs:(assignEach (e::es) X.env).map (·.2)=assign e X.env::(assignEach es X.env).map (·.2):=by rfl):PGs X (e::es) (zoK t u):=by
 intro pins s σ H vs us Q I r h
 obtain⟨v,vr,e1,h⟩:=h
 subst e1
 cases r with
 | cons r rr =>
   rw[hs]
   refine assignInOrder_cons (thn (h1 pins s σ H _ _ _ I r h) fun _ s1 ⟨σ1,H1,I1,q1⟩=>?_)
   exact h2 pins s1 σ1 H1 _ _ Q I1 rr q1
noncomputable def gTup (K:PySem.W.Frag)(n:Nat)(t:TGs):TG:=fun v σ H Q=>∃a xs,v=.ref a/\SqT K H a xs/\xs.length=n/\t xs σ H Q
theorem zmL {es:List Expr}{k:Nat}{t:TGs}{n:Nat}(hc:X.calm=true)(h:PGs X es t)
  (hn:(assignEach es X.env).length=n:=by rfl) (hst:(assignEach es X.env).findIdx? (·.1)=none:=by rfl):PG X (.Tuple es k pos) (gTup X.K n t):=by
 intro pins s σ H v u Q I r hw
 obtain⟨a,xs,e1,hq,hl,hw⟩:=hw
 subst e1
 cases r
 obtain⟨its,rv,ht,hz⟩:=I.tuple hq
 refine assign_Tuple_tuple (I.ok.hd hc) ht (by simp[hn,<-hl,rv.length]) hst fun h' hx=>?_
 have I1:Inv X pins σ H {s with heap:=h'}:=I.kept (t':=s.toks) fun b o e=>hx b o (Nat.ne_of_lt (Heap.lt_size e)) e
 exact h pins _ σ H xs _ Q I1 (by simpa using rv) hw
noncomputable def tAsg (te:TE)(g:TG):TS:=fun D σ H=>te σ H fun x H1=>g x σ H1 D.nx
theorem zjS {i:Nat}{x:Str}{e:Expr}{te:TE}{pos':Pos}(hN:X.N.Nodup)(hi:X.N[i]?=some x)(hx:Loc X.env.scope x)(he:PE X e te)(hs:swapsWith e (some (.Name x pos')) pos.line X.env=pure false:=by rfl)(hf:X.fn x=true\/X.env.scope.names.lookup x=some .local:=by first|exact .inl rfl|exact .inr rfl|assumption) :
  PS X (.Assign [.Name x pos'] e pos) (tAsg te (zid i)):=by
 intro pins s σ H D I h
 refine wpAny_Assign_Name (thn (he pins s σ H _ I h) fun v s1 ⟨y,H1,I1,r1,q1⟩=>?_) hs
 exact zfO I1 hN hi hx r1 (fun s2 I2=>⟨_,H1,I2,q1⟩) hf
end
section
variable {X:Cx} {pos:Pos}
end
structure It where
 go:Nat->Hp->Prop
 yld:Nat->Hp->V->Hp->Prop
 stop:Nat->Hp->Prop
noncomputable def FpOk (X:Cx)(pins:List (Addr × Obj))(H:Hp)(b:Addr):Prop:=
 H b=none/\b≠X.env.locals/\b∉X.fs/\(b∈X.ex\/X.s₀.heap.objs.size<=b)/\(∀x c,X.env.cells.lookup x=some c->c≠b)/\∀p∈X.pn++pins,p.1≠b
theorem Inv.fpOk {X:Cx}{pins:List (Addr × Obj)}{σ:St}{H H':Hp}{s:Shared}{b:Addr}(I:Inv X pins σ H s)(hb:s.heap.objs.size<=b)(hn:H' b=none):FpOk X pins H' b:=by
 refine⟨hn,Nat.ne_of_gt (Nat.lt_of_lt_of_le I.lt hb),I.nofs hb,.inr (Nat.le_trans I.sz hb),fun x c e z=>?_,fun p hp z=>?_⟩
 · obtain⟨v,q⟩:=I.cell x c e
   exact absurd (Nat.lt_of_lt_of_le q.lt (by rw[z];exact hb)) (Nat.lt_irrefl _)
 · exact absurd (Nat.lt_of_lt_of_le (Heap.lt_size (I.pin p hp).1) (by rw[z];exact hb)) (Nat.lt_irrefl _)
structure Turn (P:Program) (w:World) (K:PySem.W.Frag) (tg:Expr) (J:It) (fp:List Addr) (it:Addr) (tn:Nat->Heap->Prop):Prop where
 mem:it∈fp
 obj:∀i h,tn i h->∀b∈fp,∃o,h.get? b=some o/\∀v,o.data≠.cell v
 keep:∀i h h',tn i h->(∀b∈fp,∀o,h.get? b=some o->h'.get? b=some o)->tn i h'
 item:∀(X:Cx),X.prog=P->X.w=w->X.K=K->X.calm=true->∀(i:Nat) (pins:List (Addr × Obj)) (s:Shared) (σ:St) (H:Hp) (E:Value->Shared->Prop),Inv X pins σ H s->(∀b∈fp,FpOk X pins H b)->tn i s.heap->J.go i H->
  wpAny (model P w) X.A (pyNext (.ref it)) (fun r s1=>∃u,r=some u/\
   wpAny (model P w) X.A (letOwnedTupleGo tg (.ref it) u) (fun _ s2=>∃x H',Inv X pins σ H' s2/\RelV x u/\J.yld i H x H'/\tn (i+1) s2.heap/\∀b∈fp,H' b=none) E s1) E s
 done:∀(X:Cx),X.prog=P->X.w=w->X.K=K->X.calm=true->∀(i:Nat) (pins:List (Addr × Obj)) (s:Shared) (σ:St) (H:Hp) (E:Value->Shared->Prop),Inv X pins σ H s->(∀b∈fp,FpOk X pins H b)->tn i s.heap->J.stop i H->
  wpAny (model P w) X.A (pyNext (.ref it)) (fun r s1=>r=none/\Inv X pins σ H s1) E s
 self:∀(A:Around) (i:Nat) (s:Shared) (Q:Value->Shared->Prop) (E:Value->Shared->Prop),tn i s.heap->Q (.ref it) s->wpAny (model P w) A (pyIter (.ref it)) Q E s
noncomputable abbrev TI:=St->Hp->(It->Hp->Prop)->Prop
noncomputable def PIE (X:Cx)(pins:List (Addr × Obj))(σ:St)(tg:Expr)(R:It->Hp->Prop)(itv:Value)(s2:Shared):Prop:=
 ∃(it:Addr) (fp:List Addr) (tn:Nat->Heap->Prop) (J:It) (H':Hp),itv=.ref it/\Inv X pins σ H' s2/\Turn X.prog X.w X.K tg J fp it tn/\tn 0 s2.heap/\(∀b∈fp,FpOk X pins H' b)/\R J H'
noncomputable def PI (X:Cx)(tg iter:Expr)(wi:TI):Prop:=
 ∀(pins:List (Addr × Obj)) (s:Shared) (σ:St) (H:Hp) (R:It->Hp->Prop),Inv X pins σ H s->wi σ H R->
  wpAny (model X.prog X.w) X.A (eval iter X.env) (fun v s1=>wpAny (model X.prog X.w) X.A (pyIter v) (PIE X pins σ tg R) X.xe s1) X.xe s
theorem zlq {M:Model}{A:Around}{E:Value->Shared->Prop}{s:Shared}{tg:Expr}{it:Addr}{u:Value}{o:Obj}{n:String}{vs:Array Value}{Q:Unit->Shared->Prop}(ho:s.heap.get? it=some o)(hc:o.cls=.type n)(hd:o.data=.fields vs)
  (hn:["enumerate","zip","dict_itemiterator","dict_reverseitemiterator","odict_iterator","itertools.zip_longest","itertools.pairwise"].contains n=false) (hQ:Q () s):wpAny M A (letOwnedTupleGo tg (.ref it) u) Q E s:=by
 unfold letOwnedTupleGo
 cases tg<;>first
  |exact wpAny_pure hQ
  |(cases u<;>first
   |exact wpAny_pure hQ
   | (refine wpAny_bind (wpAny_load ho ?_)
      rw[hc,hd]
      show wpAny M A (if (["enumerate","zip","dict_itemiterator","dict_reverseitemiterator","odict_iterator","itertools.zip_longest","itertools.pairwise"].contains n&&vs[0]? == some (rawInt _))=true then _ else _) Q E s
      rw[if_neg (by intro h;rw[hn,Bool.false_and] at h;cases h)]
      exact wpAny_pure hQ))
noncomputable def Itl (K:PySem.W.Frag)(a:Addr):It:=
 ⟨fun i H=>∃xs x,SqL K H a xs/\xs[i]?=some x,fun i H x H'=>H'=H/\∀xs,SqL K H a xs->xs[i]?=some x,fun i H=>∃xs,SqL K H a xs/\xs.length<=i⟩
noncomputable def Itt (K:PySem.W.Frag)(a:Addr):It:=
 ⟨fun i H=>∃xs x,SqT K H a xs/\xs[i]?=some x,fun i H x H'=>H'=H/\∀xs,SqT K H a xs->xs[i]?=some x,fun i H=>∃xs,SqT K H a xs/\xs.length<=i⟩
noncomputable def Itr (lo:Int)(n:Nat):It:=⟨fun i _=>i<n,fun i H x H'=>H'=H/\x=.int (lo+i),fun i _=>n<=i⟩
theorem zhc {P:Program}{w:World}{K:PySem.W.Frag}{tg:Expr}(a it:Addr):Turn P w K tg (Itl K a) [it] it (fun i h=>h.IsListIter it a i) where
 mem:=by simp
 obj:=fun i h st b hb=>by
  have e:b=it:=by simpa using hb
  subst e
  obtain⟨o,e,c,d⟩:=st
  exact⟨o,e,fun v z=>by rw[d] at z;cases z⟩
 keep:=fun i h h' st k=>st.at fun o e=>k it (by simp) o e
 item:=by
  intro X hP hw hK hc i pins s σ H E I hf st hg
  subst hP hw hK
  obtain⟨xs,x,hq,hx⟩:=hg
  obtain⟨its,rv,p,hz⟩:=I.list hq
  obtain⟨u,hu,ru⟩:=rv.get hx
  obtain⟨f0,f1,f2,f3,f4,f5⟩:=hf it (by simp)
  refine wpAny_pyNext_list_item st p.isList (x:=u) (by simpa using hu) fun h' st' sb=>?_
  have I1:Inv X pins σ H {s with heap:=h'}:=I.turned (t':=s.toks) (fun b o hb e=>(sb.2 b hb).trans e) f0 f1 f3 f4 f5
  obtain⟨o,e,c,d⟩:=id st'
  exact⟨u,rfl,zlq (s:={s with heap:=h'}) e c d (by decide) ⟨x,H,I1,ru,⟨rfl,fun ys hy=>by rw[I.list_inj hy hq];exact hx⟩,st',fun b hb=>(hf b hb).1⟩⟩
 done:=by
  intro X hP hw hK hc i pins s σ H E I hf st hg
  subst hP hw hK
  obtain⟨xs,hq,hx⟩:=hg
  obtain⟨its,rv,p,hz⟩:=I.list hq
  obtain⟨f0,f1,f2,f3,f4,f5⟩:=hf it (by simp)
  have hl:=rv.length
  exact wpAny_pyNext_list_end (I.ok.hd hc) st p.isList (by simp;omega) fun h' eb=>⟨rfl,I.turned (t':=s.toks) (fun b o hb e=>eb b o hb e) f0 f1 f3 f4 f5⟩
 self:=fun _ _ _ _ _ st h=>wpAny_pyIter_listiter st h
theorem zgt {P:Program}{w:World}{K:PySem.W.Frag}{tg:Expr}(a it:Addr):Turn P w K tg (Itt K a) [it] it (fun i h=>h.IsTupleIter it a i) where
 mem:=by simp
 obj:=fun i h st b hb=>by
  have e:b=it:=by simpa using hb
  subst e
  obtain⟨o,e,c,d⟩:=st
  exact⟨o,e,fun v z=>by rw[d] at z;cases z⟩
 keep:=fun i h h' st k=>st.at fun o e=>k it (by simp) o e
 item:=by
  intro X hP hw hK hc i pins s σ H E I hf st hg
  subst hP hw hK
  obtain⟨xs,x,hq,hx⟩:=hg
  obtain⟨its,rv,p,hz⟩:=I.tuple hq
  obtain⟨u,hu,ru⟩:=rv.get hx
  obtain⟨f0,f1,f2,f3,f4,f5⟩:=hf it (by simp)
  refine wpAny_pyNext_tuple_item st (show s.heap.IsTuple a its.toArray from p) (x:=u) (by simpa using hu) fun h' st' sb=>?_
  have I1:Inv X pins σ H {s with heap:=h'}:=I.turned (t':=s.toks) (fun b o hb e=>(sb.2 b hb).trans e) f0 f1 f3 f4 f5
  obtain⟨o,e,c,d⟩:=id st'
  exact⟨u,rfl,zlq (s:={s with heap:=h'}) e c d (by decide) ⟨x,H,I1,ru,⟨rfl,fun ys hy=>by rw[I.tuple_inj hy hq];exact hx⟩,st',fun b hb=>(hf b hb).1⟩⟩
 done:=by
  intro X hP hw hK hc i pins s σ H E I hf st hg
  subst hP hw hK
  obtain⟨xs,hq,hx⟩:=hg
  obtain⟨its,rv,p,hz⟩:=I.tuple hq
  obtain⟨f0,f1,f2,f3,f4,f5⟩:=hf it (by simp)
  have hl:=rv.length
  exact wpAny_pyNext_tuple_end (I.ok.hd hc) st (show s.heap.IsTuple a its.toArray from p) (by simp;omega) fun h' eb=>⟨rfl,I.turned (t':=s.toks) (fun b o hb e=>eb b o hb e) f0 f1 f3 f4 f5⟩
 self:=fun _ _ _ _ _ st h=>wpAny_pyIter_tupleiter st h
theorem zgu {P:Program}{w:World}{K:PySem.W.Frag}{tg:Expr}(it:Addr)(lo:Int)(n:Nat):Turn P w K tg (Itr lo n) [it] it (fun i h=>IsRangeIter h it (lo+(i:Nat) * 1) ((n:Int) - (i:Nat)) 1) where
 mem:=by simp
 obj:=fun i h st b hb=>by
  have e:b=it:=by simpa using hb
  subst e
  exact⟨_,st,fun v z=>by
   have z':Data.fields _=Data.cell v:=z
   cases z'⟩
 keep:=fun i h h' st k=>k it (by simp) _ st
 item:=by
  intro X hP hw hK hc i pins s σ H E I hf st hg
  subst hP hw hK
  obtain⟨f0,f1,f2,f3,f4,f5⟩:=hf it (by simp)
  have W:=Walks.range (prog:=X.prog) (w:=X.w) (I.ok.hd hc) it lo 1 n
  refine W.item i s _ _ hg st fun v h' tk hv st' kk=>?_
  obtain⟨t,rfl⟩:=hv
  have I1:Inv X pins σ H {s with heap:=h',toks:=tk}:=I.turned (fun b o hb e=>kk b o (by simpa using hb) e) f0 f1 f3 f4 f5
  refine⟨_,rfl,zlq (s:={s with heap:=h',toks:=tk}) (n:="range_iterator") st' rfl rfl (by decide) ⟨.int (lo+i),H,I1,⟨t,?_⟩,⟨rfl,rfl⟩,st',fun b hb=>(hf b hb).1⟩⟩
  rw[Int.mul_one]
 done:=by
  intro X hP hw hK hc i pins s σ H E I hf st hg
  subst hP hw hK
  obtain⟨f0,f1,f2,f3,f4,f5⟩:=hf it (by simp)
  exact wpAny_pyNext_range_end (I.ok.hd hc) st (by have:n<=i:=hg;omega) fun h' eb=>⟨rfl,I.turned (t':=s.toks) (fun b o hb e=>eb b o hb e) f0 f1 f3 f4 f5⟩
 self:=fun _ _ _ _ _ st h=>wpAny_pyIter_rangeiter st h
end L2
namespace L2
open PySem PySem.Spec PyProof.Rows
section
variable {X:Cx} {tg:Expr}
theorem zfV {pins:List (Addr × Obj)}{σ:St}{H:Hp}{s:Shared}{R:It->Hp->Prop}{E:Value->Shared->Prop}{lo hi:Int}{t u v:Tok}{tk:Nat}(I:Inv X pins σ H s)(h1:-(2 ^ 62)<=lo)(h2:lo<2 ^ 62)(h3:-(2 ^ 62)<=hi)(h4:hi<2 ^ 62)
  (q:R (Itr lo (hi - lo).toNat) H):wpAny (model X.prog X.w) X.A (pyIter (.ref s.heap.objs.size)) (PIE X pins σ tg R) E {s with heap:=s.heap.push {cls:=.type "range",data:=.fields #[.int lo t,.int hi u,.int 1 v]},toks:=tk}:=by
 refine wpAny_pyIter_range (IsRange.new ..) (small_one h1 h2 h3 h4) ?_
 have I1:Inv X pins σ H {s with heap:=s.heap.push {cls:=.type "range",data:=.fields #[.int lo t,.int hi u,.int 1 v]},toks:=tk}:=I.kept fun b o e=>Heap.get?_push_of_some _ e
 refine⟨(s.heap.push {cls:=.type "range",data:=.fields #[.int lo t,.int hi u,.int 1 v]}).objs.size,[(s.heap.push {cls:=.type "range",data:=.fields #[.int lo t,.int hi u,.int 1 v]}).objs.size],_,_,H,rfl,
  I1.kept (t':=tk) fun b o e=>Heap.get?_push_of_some _ e,zgu _ lo (hi - lo).toNat,?_,fun b hb=>?_,q⟩
 · have e1:lo+((0:Nat):Int) * 1=lo:=by simp
   have e2:(((hi - lo).toNat:Nat):Int) - ((0:Nat):Int)=Builtin.Range.rangeSize lo hi 1:=by rw[rangeSize_one];split<;>omega
   show IsRangeIter _ _ (lo+((0:Nat):Int) * 1) ((((hi - lo).toNat:Nat):Int) - ((0:Nat):Int)) 1
   rw[e1,e2]
   exact Heap.get?_push_size _ rfl
 · have e:b=(s.heap.push {cls:=.type "range",data:=.fields #[.int lo t,.int hi u,.int 1 v]}).objs.size:=by simpa using hb
   subst e
   exact I1.fpOk (Nat.le_refl _) (I1.hok.fresh (Nat.le_refl _))
noncomputable def zoI (ta:TA):TI:=fun σ H R=>ta σ H fun vs H1=>∃j:Int,vs=[.int j]/\-(2 ^ 62)<=j/\j<2 ^ 62/\R (Itr 0 j.toNat) H1
noncomputable def zoH (ta:TA):TI:=fun σ H R=>ta σ H fun vs H1=>∃i j:Int,vs=[.int i,.int j]/\(-(2 ^ 62)<=i/\i<2 ^ 62/\-(2 ^ 62)<=j/\j<2 ^ 62)/\R (Itr i (j - i).toNat) H1
theorem zhD {a:Expr}{ta:TA}{p pos:Pos}(hg:Gl X "range")(hm:X.mg "range"=none)(ha:PA X [a] ta)(hs:starEach [a] X.env=[(false,eval a X.env)]:=by rfl):PI X tg (.Call (.Name "range" p) [a] [] pos) (zoI ta):=by
 intro pins s σ H R I h
 refine Call_ (zeU I hg hm boot_range (PyProof.Rows.callWith_type1 (thn (ha pos pins s σ H _ I h) fun us s1 ⟨vs,H1,I1,r1,q1⟩=>?_) hs rfl))
 obtain⟨j,e,q1,q2,q⟩:=q1
 subst e
 cases r1 with
 | cons r rr =>
   cases rr
   obtain⟨t,rfl⟩:=r
   exact call_range_1 (zfV I1 (by omega) (by omega) q1 q2 (by simpa using q))
theorem zhC {a b:Expr}{ta:TA}{p pos:Pos}(hg:Gl X "range")(hm:X.mg "range"=none)(ha:PA X [a,b] ta)(hs:starEach [a,b] X.env=[(false,eval a X.env),(false,eval b X.env)]:=by rfl)(hs2:starEach [b] X.env=[(false,eval b X.env)]:=by rfl) :
  PI X tg (.Call (.Name "range" p) [a,b] [] pos) (zoH ta):=by
 intro pins s σ H R I h
 refine Call_ (zeU I hg hm boot_range (PyProof.Rows.callWith_type1 (thn (ha pos pins s σ H _ I h) fun us s1 ⟨vs,H1,I1,r1,q1⟩=>?_) (by rw[hs,hs2]) (by rw[hs2];rfl)))
 obtain⟨i,j,e,⟨q1,q2,q3,q4⟩,q⟩:=q1
 subst e
 cases r1 with
 | cons r rr =>
   cases rr with
   | cons r' rr =>
     cases rr
     obtain⟨t,rfl⟩:=r
     obtain⟨t',rfl⟩:=r'
     exact call_range_2 (zfV I1 q1 q2 q3 q4 q)
noncomputable def tFor (wi:TI)(g:TG)(tb:TS):TS:=fun D σ H=>wi σ H fun J H1=>∃W:Nat->Nat->St->Hp->Prop,(∃m,W 0 m σ H1)/\∀i m σ H,W i m σ H->
 (J.stop i H/\D.nx σ H)\/(J.go i H/\∃N:St->Hp->Prop,(∀σ' H',N σ' H'->∃m',m'<m/\W (i+1) m' σ' H')/\∀x H',J.yld i H x H'->g x σ H' fun σ2 H2=>tb {D with nx:=N,ct:=N,bk:=D.nx} σ2 H2)
noncomputable def zeQ (fp:List Addr)(h:Heap):List (Addr × Obj):=fp.filterMap fun b=>(h.get? b).map fun o=>(b,o)
theorem zb2 {fp:List Addr}{h:Heap}{b:Addr}{o:Obj}(hb:b∈fp)(e:h.get? b=some o):(b,o)∈zeQ fp h:=List.mem_filterMap.mpr ⟨b,hb,by rw[e];rfl⟩
theorem zhI {fp:List Addr}{h:Heap}{p:Addr × Obj}(hp:p∈zeQ fp h):p.1∈fp/\h.get? p.1=some p.2:=by
 obtain⟨b,hb,e⟩:=List.mem_filterMap.mp hp
 cases q:h.get? b with
 |none=>rw[q] at e;cases e
 | some o =>
   rw[q] at e
   have e':(b,o)=p:=Option.some.inj e
   subst e'
   exact⟨hb,q⟩
theorem Inv.pinned {pins:List (Addr × Obj)}{σ:St}{H:Hp}{s:Shared}{fp:List Addr}(I:Inv X pins σ H s)(hf:∀b∈fp,FpOk X pins H b)(ho:∀b∈fp,∃o,s.heap.get? b=some o/\∀v,o.data≠.cell v):Inv X (pins++zeQ fp s.heap) σ H s:=
 I.pins_of fun p hp=>(List.mem_append.mp hp).elim (fun z=>I.pin p (List.mem_append_right _ z)) fun z=>by
  obtain⟨hb,e⟩:=zhI z
  obtain⟨f0,f1,f2,_⟩:=hf p.1 hb
  obtain⟨o,e',d⟩:=ho p.1 hb
  rw[e] at e';cases e'
  exact⟨e,f0,f1,f2,d⟩
theorem Inv.unpinned {pins pl:List (Addr × Obj)}{σ:St}{H:Hp}{s:Shared}(I:Inv X (pins++pl) σ H s):Inv X pins σ H s:=I.pins_of fun p hp=>I.pin p (List.mem_append_right _ (List.mem_append_left _ hp))
theorem zmI {iter:Expr}{body:List Stmt}{wi:TI}{g:TG}{tb:TS}{pos:Pos}(hp:PassesOwn (model X.prog X.w) X.A X.env X.xe)(hc:X.calm=true)(hi:PI X tg iter wi)(hg:PG X tg g)(hb:PSs X body tb)
  (hs:∀x,foldedSetIterable iter X.env x=pure x:=by intro _;rfl):PS X (.For tg iter body [] pos) (tFor wi g tb):=by
 intro pins s σ H D I h
 refine wpAny_For (thn (hi pins s σ H _ I h) fun v s1 h1=>thn h1 fun itv s2 h2=>?_) hs
 obtain⟨it,fp,tn,J,H2,e,I2,T,st2,f2,W,⟨m0,w0⟩,turn⟩:=h2
 subst e
 -- what stays true of the iterator's objects through the loop
 have stat:∀{H':Hp},(∀b∈fp,H' b=none)->∀b∈fp,FpOk X pins H' b:=fun hn b hb=>⟨hn b hb,(f2 b hb).2⟩
 refine codeAny_forLoop_any (fun n s'=>∃i σ' H',Inv X pins σ' H' s'/\tn i s'.heap/\(∀b∈fp,H' b=none)/\W i n σ' H') ?_ m0 ⟨0,σ,H2,I2,st2,fun b hb=>(f2 b hb).1,w0⟩
 rintro n s3 ⟨i,σ3,H3,I3,st3,fr3,w3⟩
 rcases turn i n σ3 H3 w3 with ⟨stop,qn⟩|⟨go,N,hN,step⟩
 · refine wpAny_passesOwn hp (thn (T.done X rfl rfl rfl hc i pins s3 σ3 H3 X.xe I3 (stat fr3) st3 stop) fun r s4 ⟨hr,I4⟩=>?_)
   subst hr
   exact wpAny_execs_nil ⟨σ3,H3,I4,qn⟩
 · refine wpAny_passesOwn hp (thn (T.item X rfl rfl rfl hc i pins s3 σ3 H3 X.xe I3 (stat fr3) st3 go) fun r s4 ⟨u,hr,h4⟩=>?_)
   subst hr
   refine wpAny_passesOwn hp (thn h4 fun _ s5 ⟨x,H5,I5,r5,y5,st5,fr5⟩=>?_)
   have I5':=I5.pinned (stat fr5) (T.obj _ _ st5)
   refine wpAny_passesOwn hp (thn (hg _ s5 σ3 H5 x u _ I5' r5 (step x H5 y5)) fun _ s6 ⟨σ6,H6,I6,q6⟩=>?_)
   refine wpAny_passesOwn hp (thn (hb _ s6 σ6 H6 _ I6 q6) fun f s7 q7=>?_)
   have again:∀{σ7:St} {H7:Hp},Inv X (pins++zeQ fp s5.heap) σ7 H7 s7->N σ7 H7->∃m,m<n/\∃i σ' H',Inv X pins σ' H' s7/\tn i s7.heap/\(∀b∈fp,H' b=none)/\W i m σ' H':=fun {σ7 H7} I7 n7=>by
    obtain⟨m',hm,w7⟩:=hN σ7 H7 n7
    refine⟨m',hm,i+1,σ7,H7,I7.unpinned,T.keep _ _ _ st5 fun b hb o e=>(I7.pin (b,o) (List.mem_append_right _ (List.mem_append_right _ (zb2 hb e)))).1,fun b hb=>?_,w7⟩
    obtain⟨o,e,d⟩:=T.obj _ _ st5 b hb
    exact (I7.pin (b,o) (List.mem_append_right _ (List.mem_append_right _ (zb2 hb e)))).2.1
   cases f with
   |next=>obtain⟨σ7,H7,I7,n7⟩:=q7;exact again I7 n7
   |cont=>obtain⟨σ7,H7,I7,n7⟩:=q7;exact again I7 n7
   |brk=>obtain⟨σ7,H7,I7,q7⟩:=q7;exact⟨σ7,H7,I7.unpinned,q7⟩
   |ret v=>obtain⟨x7,σ7,H7,I7,r7,q7⟩:=q7;exact⟨x7,σ7,H7,I7.unpinned,r7,q7⟩
end
end L2
namespace L2
open PySem PySem.Spec PyProof.Rows
noncomputable abbrev R2:=V->V->Hp->VK->Prop
noncomputable def OpR (X:Cx)(f:Value->Value->Sem Value)(r:R2):Prop:=
 ∀(pins:List (Addr × Obj)) (s:Shared) (σ:St) (H:Hp) (x y:V) (v u:Value) (Q:VK),Inv X pins σ H s->RelV x v->RelV y u->r x y H Q->
  wpAny (model X.prog X.w) X.A (f v u) (EP X pins σ Q) X.xe s
noncomputable def UnR (X:Cx)(f:Value->Sem Value)(r:V->Hp->VK->Prop):Prop:=
 ∀(pins:List (Addr × Obj)) (s:Shared) (σ:St) (H:Hp) (x:V) (v:Value) (Q:VK),Inv X pins σ H s->RelV x v->r x H Q->
  wpAny (model X.prog X.w) X.A (f v) (EP X pins σ Q) X.xe s
noncomputable def za7 (X:Cx)(f:Value)(r:List V->Hp->VK->Prop):Prop:=
 ∀(pins:List (Addr × Obj)) (s:Shared) (σ:St) (H:Hp) (xs:List V) (us:List Value) (Q:VK),Inv X pins σ H s->Vals xs us->r xs H Q->
  wpAny (model X.prog X.w) X.A (call f us) (EP X pins σ Q) X.xe s
noncomputable def TruR (X:Cx)(r:V->Hp->(Bool->Hp->Prop)->Prop):Prop:=
 ∀(pins:List (Addr × Obj)) (s:Shared) (σ:St) (H:Hp) (x:V) (v:Value) (Q:Bool->Hp->Prop),Inv X pins σ H s->RelV x v->r x H Q->
  wpAny (model X.prog X.w) X.A (truthy v) (TP X pins σ Q) X.xe s
noncomputable def tOp (r:R2)(ta tb:TE):TE:=fun σ H Q=>ta σ H fun x H1=>tb σ H1 fun y H2=>r x y H2 Q
noncomputable def tUn (r:V->Hp->VK->Prop)(ta:TE):TE:=fun σ H Q=>ta σ H fun x H1=>r x H1 Q
noncomputable def rI (C:Int->Int->Prop)(g:Int->Int->V):R2:=fun x y H Q=>∃i j,x=.int i/\y=.int j/\C i j/\Q (g i j) H
noncomputable def rI0 (g:Int->Int->V):R2:=fun x y H Q=>∃i j,x=.int i/\y=.int j/\Q (g i j) H
noncomputable def rU (g:Int->V):V->Hp->VK->Prop:=fun x H Q=>∃i,x=.int i/\Q (g i) H
section
variable {X:Cx} {a b c:Expr} {ta tb tc:TE} {pos:Pos}
theorem binT (ha:PE X a ta)(hb:PE X b tb){pins:List (Addr × Obj)}{s:Shared}{σ:St}{H:Hp}{R:V->V->Hp->Prop}(I:Inv X pins σ H s)
  (h:ta σ H fun x H1=>tb σ H1 fun y H2=>R x y H2) {Q:Value->Shared->Prop} {f:Value->Value->Sem Value}
  (hf:∀v u s2 x y H2,Inv X pins σ H2 s2->RelV x v->RelV y u->R x y H2->wpAny (model X.prog X.w) X.A (f v u) Q X.xe s2) :
  wpAny (model X.prog X.w) X.A (eval a X.env) (fun v s₁=>wpAny (model X.prog X.w) X.A (eval b X.env) (fun u s₂=>wpAny (model X.prog X.w) X.A (f v u) Q X.xe s₂) X.xe s₁) X.xe s:=by
 refine thn (ha pins s σ H _ I h) fun v s1 ⟨x,H1,I1,r1,q1⟩=>?_
 refine thn (hb pins s1 σ H1 _ I1 q1) fun u s2 ⟨y,H2,I2,r2,q2⟩=>?_
 exact hf v u s2 x y H2 I2 r1 r2 q2
theorem zop {op:Operator}{r:R2}(ho:OpR X (binaryOp op) r)(ha:PE X a ta)(hb:PE X b tb):PE X (.BinOp a op b pos) (tOp r ta tb):=by
 intro pins s σ H Q I h
 exact wpAny_BinOp (binT ha hb I h fun v u s2 x y H2 I2 rx ry q=>ho pins s2 σ H2 x y v u Q I2 rx ry q)
theorem zon {op:UnaryOp}{r:V->Hp->VK->Prop}(ho:UnR X (unaryOp op) r)(ha:PE X a ta):PE X (.UnaryOp op a pos) (tUn r ta):=by
 intro pins s σ H Q I h
 exact UnaryOp_ (thn (ha pins s σ H _ I h) fun v s1 ⟨x,H1,I1,r1,q1⟩=>ho pins s1 σ H1 x v Q I1 r1 q1)
theorem opI {f:Value->Value->Sem Value}{C:Int->Int->Prop}{g:Int->Int->Int}
  (rule:∀(i j:Int) (t u:Tok) (s:Shared) (Q:Value->Shared->Prop) (E:Value->Shared->Prop),C i j->Q (.int (g i j) s.toks) {s with toks:=s.toks+1}->wpAny (model X.prog X.w) X.A (f (.int i t) (.int j u)) Q E s) :
  OpR X f (rI C fun i j=>.int (g i j)):=by
 intro pins s σ H x y v u Q I rx ry h
 obtain⟨i,j,rfl,rfl,hc,q⟩:=h
 obtain⟨t,rfl⟩:=rx
 obtain⟨t',rfl⟩:=ry
 exact rule i j t t' s _ _ hc ⟨.int (g i j),H,I.tok _,⟨_,rfl⟩,q⟩
theorem opI0 {f:Value->Value->Sem Value}{g:Int->Int->Int}
  (rule:∀(i j:Int) (t u:Tok) (s:Shared) (Q:Value->Shared->Prop) (E:Value->Shared->Prop),Q (.int (g i j) s.toks) {s with toks:=s.toks+1}->wpAny (model X.prog X.w) X.A (f (.int i t) (.int j u)) Q E s) :
  OpR X f (rI0 fun i j=>.int (g i j)):=by
 intro pins s σ H x y v u Q I rx ry h
 obtain⟨i,j,rfl,rfl,q⟩:=h
 obtain⟨t,rfl⟩:=rx
 obtain⟨t',rfl⟩:=ry
 exact rule i j t t' s _ _ ⟨.int (g i j),H,I.tok _,⟨_,rfl⟩,q⟩
theorem opB0 {f:Value->Value->Sem Value}{g:Int->Int->Bool}
  (rule:∀(i j:Int) (t u:Tok) (s:Shared) (Q:Value->Shared->Prop) (E:Value->Shared->Prop),Q (.bool (g i j)) s->wpAny (model X.prog X.w) X.A (f (.int i t) (.int j u)) Q E s) :
  OpR X f (rI0 fun i j=>.bl (g i j)):=by
 intro pins s σ H x y v u Q I rx ry h
 obtain⟨i,j,rfl,rfl,q⟩:=h
 obtain⟨t,rfl⟩:=rx
 obtain⟨t',rfl⟩:=ry
 exact rule i j t t' s _ _ ⟨.bl (g i j),H,I,rfl,q⟩
noncomputable def CDiv (i j:Int):Prop:=0<j/\j<1073741824
noncomputable def CPow (i j:Int):Prop:=0<=j/\j<=1000000/\i.natAbs<2 ^ 64
noncomputable def CMul (i j:Int):Prop:=(-(2 ^ 64)<i/\i<2 ^ 64)\/(-(2 ^ 64)<j/\j<2 ^ 64)
theorem CMul.ok {i j:Int}(h:CMul i j):IntMulOk i j:=by
 rcases h with ⟨h1,h2⟩|⟨h1,h2⟩
 · exact .of_left (intBits_le_64 h1 h2)
 · exact .of_right (intBits_le_64 h1 h2)
theorem zm8:OpR X (binaryOp .Add) (rI0 fun i j=>.int (i+j)):=opI0 fun _ _ _ _ _ _ _ q=>add_int q
theorem zmZ:OpR X (binaryOp .Sub) (rI0 fun i j=>.int (i - j)):=opI0 fun _ _ _ _ _ _ _ q=>sub_int q
theorem zm2:OpR X (binaryOp .Mult) (rI CMul fun i j=>.int (i * j)):=opI fun _ _ _ _ _ _ _ hc q=>mul_int q hc.ok
theorem zk6:OpR X (binaryOp .FloorDiv) (rI CDiv fun i j=>.int (i / j)):=opI fun i j _ _ _ _ _ hc q=>by
 have h1:(0:Int)<j:=hc.1
 have h2:j<1073741824:=hc.2
 exact floordiv_int (by omega) (by rw[Int.fdiv_eq_ediv_of_nonneg i (by omega)];exact q) (.inl (PyProof.noPylong_small (by omega)))
theorem zm3:OpR X (binaryOp .Mod) (rI (fun _ j=>0<j) fun i j=>.int (i % j)):=opI fun i j _ _ _ _ _ hc q=>by
 have h1:(0:Int)<j:=hc
 exact mod_int' (by omega) (by rw[Int.fmod_eq_emod_of_nonneg i (by omega)];exact q)
theorem zm0:OpR X (binaryOp .Pow) (rI CPow fun i j=>.int (i ^ j.toNat)):=opI fun _ _ _ _ _ _ _ hc q=>pow_int_small hc.1 hc.2.1 hc.2.2 q
theorem unI {f:Value->Sem Value}{g:Int->Int}
  (rule:∀(i:Int) (t:Tok) (s:Shared) (Q:Value->Shared->Prop) (E:Value->Shared->Prop),Q (.int (g i) s.toks) {s with toks:=s.toks+1}->wpAny (model X.prog X.w) X.A (f (.int i t)) Q E s) :
  UnR X f (rU fun i=>.int (g i)):=by
 intro pins s σ H x v Q I rx h
 obtain⟨i,rfl,q⟩:=h
 obtain⟨t,rfl⟩:=rx
 exact rule i t s _ _ ⟨.int (g i),H,I.tok _,⟨_,rfl⟩,q⟩
theorem zlW:UnR X (unaryOp .USub) (rU fun i=>.int (-i)):=unI fun _ _ _ _ _ q=>neg_int q
end
noncomputable def scal:V->V->Bool
 |.non,.non=>true|.non,.int _=>true|.int _,.non=>true|.non,.bl _=>true|.bl _,.non=>true|.non,.str _=>true|.str _,.non=>true
 |.int _,.int _=>true|.bl _,.bl _=>true|.str _,.str _=>true|.byt _,.byt _=>true
 |.int _,.str _=>true|.str _,.int _=>true|.bl _,.str _=>true|.str _,.bl _=>true
 |_,_=>false
noncomputable def rEq:R2:=fun x y H Q=>scal x y=true/\Q (.bl (decide (x=y))) H
noncomputable def rNe:R2:=fun x y H Q=>scal x y=true/\Q (.bl (!decide (x=y))) H
theorem zin {i j:Int}:decide (V.int i=V.int j)=(i == j):=by
 rw[Bool.eq_iff_iff]
 simp
theorem zj5 {i j:Bool}:decide (V.bl i=V.bl j)=(i == j):=by
 rw[Bool.eq_iff_iff]
 simp
theorem zim {i j:Str}:decide (V.str i=V.str j)=(i == j):=by
 rw[Bool.eq_iff_iff]
 simp
theorem zio {i j:Array UInt8}:decide (V.byt i=V.byt j)=(i.toList == j.toList):=by
 rw[Bool.eq_iff_iff]
 cases i
 cases j
 simp
section
variable {X:Cx} {a b c:Expr} {ta tb tc:TE} {pos:Pos}
theorem zav {pins:List (Addr × Obj)}{σ:St}{H:Hp}{s:Shared}{Q:VK}{k k':Bool}(I:Inv X pins σ H s)(q:Q (.bl k) H)(e:k=k'):EP X pins σ Q (.bool k') s:=by
 subst e
 exact⟨.bl k,H,I,rfl,q⟩
theorem zoz:OpR X (compareOp .Eq) rEq:=by
 intro pins s σ H x y v u Q I rx ry h
 obtain⟨hs,q⟩:=h
 cases x with
 | non =>
   cases rx
   cases y with
   |non=>cases ry;exact PySem.EqNone.eq_none_none (zav I q (by simp))
   |bl j=>cases ry;exact PySem.EqNone.eq_none_bool (zav I q (by simp))
   |int j=>obtain⟨t',rfl⟩:=ry;exact PySem.EqNone.eq_none_int (zav I q (by simp))
   |str j=>obtain⟨t',rfl⟩:=ry;exact PySem.EqNone.eq_none_str (zav I q (by simp))
   |_=>exact absurd (show false=true from hs) Bool.false_ne_true
 | bl i =>
   cases rx
   cases y with
   |non=>cases ry;exact PySem.EqNone.eq_bool_none (zav I q (by simp))
   |bl j=>cases ry;exact eq_bool (zav I q zj5)
   |str j=>obtain⟨t',rfl⟩:=ry;exact PySem.EqMixed.eq_bool_str (zav I q (by simp))
   |_=>exact absurd (show false=true from hs) Bool.false_ne_true
 | int i =>
   obtain⟨t,rfl⟩:=rx
   cases y with
   |non=>cases ry;exact PySem.EqNone.eq_int_none (zav I q (by simp))
   |int j=>obtain⟨t',rfl⟩:=ry;exact eq_int (zav I q zin)
   |str j=>obtain⟨t',rfl⟩:=ry;exact PySem.EqMixed.eq_int_str (zav I q (by simp))
   |_=>exact absurd (show false=true from hs) Bool.false_ne_true
 | str i =>
   obtain⟨t,rfl⟩:=rx
   cases y with
   |non=>cases ry;exact PySem.EqNone.eq_str_none (zav I q (by simp))
   |bl j=>cases ry;exact PySem.EqMixed.eq_str_bool (zav I q (by simp))
   |int j=>obtain⟨t',rfl⟩:=ry;exact PySem.EqMixed.eq_str_int (zav I q (by simp))
   |str j=>obtain⟨t',rfl⟩:=ry;exact eq_str (zav I q zim)
   |_=>exact absurd (show false=true from hs) Bool.false_ne_true
 | byt i =>
   obtain⟨t,rfl⟩:=rx
   cases y with
   |byt j=>obtain⟨t',rfl⟩:=ry;exact PySem.W.eq_bytes (zav I q zio)
   |_=>exact absurd (show false=true from hs) Bool.false_ne_true
 |_=>cases y<;>exact absurd (show false=true from hs) Bool.false_ne_true
theorem zou:OpR X (compareOp .NotEq) rNe:=by
 intro pins s σ H x y v u Q I rx ry h
 obtain⟨hs,q⟩:=h
 cases x with
 | non =>
   cases rx
   cases y with
   |non=>cases ry;exact PySem.EqNone.ne_none_none (zav I q (by simp))
   |bl j=>cases ry;exact PySem.EqNone.ne_none_bool (zav I q (by simp))
   |int j=>obtain⟨t',rfl⟩:=ry;exact PySem.EqNone.ne_none_int (zav I q (by simp))
   |str j=>obtain⟨t',rfl⟩:=ry;exact PySem.EqNone.ne_none_str (zav I q (by simp))
   |_=>exact absurd (show false=true from hs) Bool.false_ne_true
 | bl i =>
   cases rx
   cases y with
   |non=>cases ry;exact PySem.EqNone.ne_bool_none (zav I q (by simp))
   |bl j=>cases ry;exact ne_bool (zav I q (congrArg not zj5))
   |str j=>obtain⟨t',rfl⟩:=ry;exact PySem.EqMixed.ne_bool_str (zav I q (by simp))
   |_=>exact absurd (show false=true from hs) Bool.false_ne_true
 | int i =>
   obtain⟨t,rfl⟩:=rx
   cases y with
   |non=>cases ry;exact PySem.EqNone.ne_int_none (zav I q (by simp))
   |int j=>obtain⟨t',rfl⟩:=ry;exact ne_int (zav I q (congrArg not zin))
   |str j=>obtain⟨t',rfl⟩:=ry;exact PySem.EqMixed.ne_int_str (zav I q (by simp))
   |_=>exact absurd (show false=true from hs) Bool.false_ne_true
 | str i =>
   obtain⟨t,rfl⟩:=rx
   cases y with
   |non=>cases ry;exact PySem.EqNone.ne_str_none (zav I q (by simp))
   |bl j=>cases ry;exact PySem.EqMixed.ne_str_bool (zav I q (by simp))
   |int j=>obtain⟨t',rfl⟩:=ry;exact PySem.EqMixed.ne_str_int (zav I q (by simp))
   |str j=>obtain⟨t',rfl⟩:=ry;exact ne_str (zav I q (congrArg not zim))
   |_=>exact absurd (show false=true from hs) Bool.false_ne_true
 | byt i =>
   obtain⟨t,rfl⟩:=rx
   cases y with
   |byt j=>obtain⟨t',rfl⟩:=ry;exact PySem.W.ne_bytes (zav I q (congrArg not zio))
   |_=>exact absurd (show false=true from hs) Bool.false_ne_true
 |_=>cases y<;>exact absurd (show false=true from hs) Bool.false_ne_true
theorem zov:OpR X (compareOp .Lt) (rI0 fun i j=>.bl (decide (i<j))):=opB0 fun _ _ _ _ _ _ _ q=>lt_int q
theorem zow:OpR X (compareOp .LtE) (rI0 fun i j=>.bl (decide (i<=j))):=opB0 fun _ _ _ _ _ _ _ q=>le_int q
theorem zox:OpR X (compareOp .Gt) (rI0 fun i j=>.bl (decide (j<i))):=opB0 fun _ _ _ _ _ _ _ q=>gt_int q
theorem zoy:OpR X (compareOp .GtE) (rI0 fun i j=>.bl (decide (j<=i))):=opB0 fun _ _ _ _ _ _ _ q=>ge_int q
theorem zk2 {op:CmpOp}{r:R2}(ho:OpR X (compareOp op) r)(ha:PE X a ta)(hb:PE X b tb)(hm:behindInMarks op b=false):PE X (.Compare a [op] [b] pos) (tOp r ta tb):=by
 intro pins s σ H Q I h
 exact wpAny_Compare1 (binT ha hb I h fun v u s2 x y H2 I2 rx ry q=>ho pins s2 σ H2 x y v u Q I2 rx ry q) hm
noncomputable def zn1 (t:TE):TT:=fun σ H Q=>t σ H fun x H'=>∃k,x=.bl k/\Q k H'
theorem zkP {op:CmpOp}{r:R2}(ho:OpR X (compareOp op) r)(ha:PE X a ta)(hb:PE X b tb)(hm:behindInMarks op b=false):PT X (.Compare a [op] [b] pos) (zn1 (tOp r ta tb)):=by
 intro pins s σ H Q I h
 refine wpAny_isTrue_Compare1 (thn (ha pins s σ H _ I h) fun v s1 ⟨x,H1,I1,r1,q1⟩=>thn (hb pins s1 σ H1 _ I1 q1) fun u s2 ⟨y,H2,I2,r2,q2⟩=>
  thn (ho pins s2 σ H2 x y v u _ I2 r1 r2 q2) fun c s3 ⟨z,H3,I3,r3,k,e,q3⟩=>?_) hm
 subst e
 cases r3
 exact wpAny_truthy_bool ⟨H3,I3,q3⟩
noncomputable def TruV (K:PySem.W.Frag)(x:V)(H:Hp)(k:Bool):Prop:=
 match x with
 |.non=>k=false
 |.bl b=>k=b
 |.int i=>k=(i != 0)
 |.str y=>y.length<=sizeLine/\k=((y.length:Int) != 0)
 |.byt y=>y.size<=sizeLine/\k=((y.size:Int) != 0)
 |.ref p=>(∃xs,SqL K H p xs/\k = !xs.isEmpty)\/(∃xs,SqT K H p xs/\k = !xs.isEmpty)\/∃kvs,H p=some (.dK kvs)/\k = !kvs.isEmpty
 |_=>False
theorem zgP {κ:Type}{kvs:List (κ × V)}{vs:List (κ × Value)}(r:KV kvs vs):(!vs.isEmpty) = !kvs.isEmpty:=by
 cases r<;>rfl
theorem zdP {xs:List V}{its:List Value}(r:Vals xs its):(!its.toArray.isEmpty) = !xs.isEmpty:=by
 cases r<;>simp
theorem zeS:(sizeLine:Nat)<2 ^ 63:=by rw[sizeLine_eq];decide
theorem zlY:TruR X (fun x H Q=>∃k,TruV X.K x H k/\Q k H):=by
 intro pins s σ H x v Q I rx h
 obtain⟨k,e,q⟩:=h
 have hl:=zeS
 have hs:sizeLine=16777216:=sizeLine_eq
 cases x with
 | non =>
   cases rx
   have e':k=false:=e
   subst e'
   exact truthy_none ⟨H,I,q⟩
 | bl b =>
   cases rx
   have e':k=b:=e
   subst e'
   exact wpAny_truthy_bool ⟨H,I,q⟩
 | int i =>
   obtain⟨t,rfl⟩:=rx
   have e':k=(i != 0):=e
   subst e'
   exact PySem.P.truthy_int ⟨H,I,q⟩
 | str y =>
   obtain⟨t,rfl⟩:=rx
   obtain⟨hy,e'⟩:y.length<=sizeLine/\k=((y.length:Int) != 0):=e
   subst e'
   exact PySem.P.truthy_str (by omega) ⟨H,I.tok _,q⟩
 | byt y =>
   obtain⟨t,rfl⟩:=rx
   obtain⟨hy,e'⟩:y.size<=sizeLine/\k=((y.size:Int) != 0):=e
   subst e'
   exact PySem.W.truthy_bytes (by omega) ⟨H,I.tok _,q⟩
 | ref p =>
   cases rx
   have e':(∃xs,SqL X.K H p xs/\k = !xs.isEmpty)\/(∃xs,SqT X.K H p xs/\k = !xs.isEmpty)\/∃kvs,H p=some (.dK kvs)/\k = !kvs.isEmpty:=e
   rcases e' with ⟨xs,hx,e'⟩|⟨xs,hx,e'⟩|⟨kvs,hx,e'⟩
   · subst e'
     obtain⟨its,r,pl,hz⟩:=I.list hx
     have hlen:=r.length
     exact wpAny_truthy_list pl.isList (by simp only[List.size_toArray];omega) ⟨H,I.tok _,by rw[zdP r];exact q⟩
   · subst e'
     obtain⟨its,r,pl,hz⟩:=I.tuple hx
     have hlen:=r.length
     exact truthy_tuple pl (by simp only[List.size_toArray];omega) ⟨H,I.tok _,by rw[zdP r];exact q⟩
   · subst e'
     obtain⟨hz,hS,vs,r,m⟩:kvs.length<=sizeLine/\(p == sysModules)=false/\∃vs,KV kvs vs/\s.heap.DictOf (zaI X.prog X.w) p vs:=I.hok p _ hx
     have hlen:kvs.length=vs.length:=Paired.length r
     exact wpAny_truthy_dict hS m (by omega) ⟨H,I.tok _,by rw[zgP r];exact q⟩
 |_=>exact (show False from e).elim
theorem ziZ (ha:PE X a ta)(he:∀whole,isTrue a X.env whole=(do let v <-whole;standAt a.pos;holding [v] (truthy v))) :
  PT X a (fun σ H Q=>ta σ H fun x H'=>∃k,TruV X.K x H' k/\Q k H'):=by
 intro pins s σ H Q I h
 exact isTrue_plain (thn (ha pins s σ H _ I h) fun v s1 ⟨x,H1,I1,r1,q1⟩=>zlY pins s1 σ H1 x v Q I1 r1 q1) (he _)
theorem zha {x:V}{us:List Value}(r:Vals [x] us):∃u,us=[u]/\RelV x u:=by
 cases r with
 |cons r1 r2=>cases r2;exact⟨_,rfl,r1⟩
theorem ziG {x y:V}{us:List Value}(r:Vals [x,y] us):∃u w',us=[u,w']/\RelV x u/\RelV y w':=by
 cases r with
 | cons r1 r2 =>
   cases r2 with
   |cons r3 r4=>cases r4;exact⟨_,_,rfl,r1,r3⟩
theorem zjD:za7 X (.builtin "abs") (fun xs H Q=>∃i,xs=[.int i]/\Q (.int (if i<0 then -i else i)) H):=by
 intro pins s σ H xs us Q I r h
 obtain⟨i,rfl,q⟩:=h
 obtain⟨u,rfl,t,rfl⟩:=zha r
 exact call_abs_int fun u tk=>⟨.int (if i<0 then -i else i),H,I.tok _,⟨_,rfl⟩,q⟩
theorem ziv (hc:X.calm=true):za7 X (.builtin "max") (fun xs H Q=>∃i j,xs=[.int i,.int j]/\Q (.int (if j > i then j else i)) H):=by
 intro pins s σ H xs us Q I r h
 obtain⟨i,j,rfl,q⟩:=h
 obtain⟨u,w',rfl,⟨t,rfl⟩,⟨t',rfl⟩⟩:=ziG r
 refine max_two_ints (I.ok.hd hc) fun h' tk k=>⟨_,H,I.kept k,?_,q⟩
 by_cases hj:j > i
 · rw[if_pos hj,if_pos hj];exact⟨_,rfl⟩
 · rw[if_neg hj,if_neg hj];exact⟨_,rfl⟩
theorem ziu (hc:X.calm=true):za7 X (.builtin "min") (fun xs H Q=>∃i j,xs=[.int i,.int j]/\Q (.int (if j<i then j else i)) H):=by
 intro pins s σ H xs us Q I r h
 obtain⟨i,j,rfl,q⟩:=h
 obtain⟨u,w',rfl,⟨t,rfl⟩,⟨t',rfl⟩⟩:=ziG r
 refine min_two_ints (I.ok.hd hc) fun h' tk k=>⟨_,H,I.kept k,?_,q⟩
 by_cases hj:j<i
 · rw[if_pos hj,if_pos hj];exact⟨_,rfl⟩
 · rw[if_neg hj,if_neg hj];exact⟨_,rfl⟩
end
end L2
namespace L2
open PySem PySem.Spec PyProof.Rows
structure ObjM (h:Heap) (x dx C:Addr) (mA:Str->Option Value):Prop where
 obj:h.get? x=some (PySem.W.instObj C dx)
 ns:h.Ns1 dx mA
 ne:dx≠x
theorem zhO {h:Heap}{dx:Addr}{mA:Str->Option Value}(n:h.Ns1 dx mA):∃od,h.get? dx=some od/\∀name,PySem.W.lookIn name od=some (mA name):=by
 obtain⟨o,es,ep,ho,hd,hk,_,hm⟩:=n
 refine⟨o,ho,fun name=>?_⟩
 have e:=hm name
 unfold nsFind findBy at e
 rw[<-Array.find?_toList] at e
 unfold PySem.W.lookIn
 rw[hd]
 dsimp only
 split
 · rename_i y q
   rw[q] at e
   exact congrArg some e
 · rename_i q
   rw[q] at e
   have a:es.toList.any (·.refKey)=false:=by
    rw[List.any_eq_false]
    intro y hy
    obtain⟨z,t,hkey⟩:=hk y (Array.mem_toList_iff.mp hy)
    simp[DictEntry.refKey,hkey]
   have a':¬es.toList.any (·.refKey)=true:=by rw[a];exact Bool.false_ne_true
   rw[if_neg a']
   exact congrArg some e
theorem ObjM.look {h:Heap}{x dx C:Addr}{mA:Str->Option Value}(I:ObjM h x dx C mA):∃od,PySem.W.InstAt h x (PySem.W.instObj C dx) C (some od)/\∀name,PySem.W.lookIn name od=some (mA name):=
 let ⟨od,ho,hl⟩:=zhO I.ns
 ⟨od,⟨I.obj,rfl,rfl,ho⟩,hl⟩
section
variable {prog:Program} {w:World} {A:Around} {E:Value->Shared->Prop} {s:Shared} {K:PySem.W.Frag} {x dx C f:Addr} {mA:Str->Option Value} {name:Str} {v:Value}
theorem zlr {expr:Bool}{Q:Value->Shared->Prop}(X:K.In s.heap)(I:ObjM s.heap x dx C mA)(hg:PySem.W.plainGet K C name=true)(hh:PySem.W.hasDictIn K C=true)
  (ha:PySem.W.findIn K (.ref C) name=some none) (hv:mA name=some v) (hv':PySem.W.handedIn v=true) (h:Q v {s with toks:=s.toks+1}) :
  wpAny (model prog w) A (getAttr (.ref x) name expr) Q E s:=by
 obtain⟨od,J,hl⟩:=I.look
 exact PySem.W.get_value X J (PySem.W.plainGet_of hg).1 (PySem.W.findObj_own hh ha rfl (by rw[hl,hv])) hv' h
theorem zjt {pl:Sem Bool}{Q:Value × List Value->Shared->Prop}(X:K.In s.heap)(I:ObjM s.heap x dx C mA)(hg:PySem.W.plainGet K C name=true)
  (hf:PySem.W.findIn K (.ref C) name=some (some (.ref f))) (ht:PySem.W.isFn K (.ref f)=true) (hv:mA name=none) (h:Q (.ref f,[.ref x]) s) :
  wpAny (model prog w) A (getMethod (.ref x) name pl) Q E s:=by
 obtain⟨od,J,hl⟩:=I.look
 exact PySem.W.method_fn X J (PySem.W.plainGet_of hg).1 (PySem.W.plainGet_of hg).2 hf (beq_iff_eq.mp ht) (by show (PySem.W.lookIn name od).map (·.isSome)=some false;rw[hl,hv];rfl) h
theorem zks {ns:List Str}{Q:Unit->Shared->Prop}(X:K.In s.heap)(I:ObjM s.heap x dx C mA)
  (hs:PySem.W.findIn K (.ref C) "__setattr__"=some (some (.builtin "object.__setattr__"))) (hp:PySem.W.plainOver K C=true) (ht:PySem.W.takerIn K C name=some none) (hh:PySem.W.hasDictIn K C=true)
  (hw:PySem.Within mA ns) (hsz:ns.length<=sizeLine)
  (h:∀h',ObjM h' x dx C (fun y=>if y=name then some v else mA y)->Heap.SameBut dx s.heap h'->Q () {s with heap:=h',toks:=s.toks+2}) :
  wpAny (model prog w) A (setAttr (.ref x) name v) Q E s:=by
 obtain⟨od,J,hl⟩:=I.look
 refine PySem.W.set_plain X J hs (PySem.W.osa_open (s:={s with toks:=s.toks+1}) (r:=none) X J hp ht fun b=>?_)
 obtain⟨cd,hc,hd'⟩:=PySem.W.any_some hh
 have hx:s.heap.get? x=some ⟨.ref C,some dx,.plain,#[]⟩:=I.obj
 refine wpAny_bind (wpAny_pure (wpAny_bind (wpAny_bind (wpAny_loadPart hx (wpAny_bind (PySem.W.Looks.here (s:={s with toks:=s.toks+1}) (PySem.W.looks_clsIn X hc) ?_))))))
 rw[hd']
 refine wpAny_pure (a:=some dx) (wpAny_bind (wpAny_pure (wpAny_bind ?_)))
 refine wpAny_nsSet1 (s:={s with toks:=s.toks+1}) I.ns fun h' hn2 hs2=>?_
 obtain⟨oD,esD,epD,hoD,hdD,hcD⟩:=hn2.count (PySem.Within.cons name v hw)
 refine wpAny_bind (wpAny_lookBehind hoD (by rw[hdD];exact pastItsLine_dict (Nat.le_trans hcD (by rw[List.length_cons];omega))) ?_)
 exact wpAny_pure (h _ ⟨(hs2.2 _ (Ne.symm I.ne)).trans I.obj,hn2,I.ne⟩ hs2)
theorem zjj {R:Result->Shared->Prop}{vs:List Value}{kw:List (Str × Value)}(X:K.In s.heap)(hm:PySem.W.makesIn K C=true)
  (hi:PySem.W.findIn K (.ref C) "__init__"=some (some (.ref f))) (hf:PySem.W.typeIn K (.ref f)=some (.type "function"))
  (h:codeAny (model prog w) (A.under (.builtin "type.__call__" ⟨.ref C::vs,kw⟩)) (.call (.ref f) ⟨.ref (s.heap.objs.size+1)::vs,kw⟩) (PySem.W.InitBack (s.heap.objs.size+1) R)
   {s with heap:=(s.heap.push PySem.W.emptyDict).push (PySem.W.instObj C s.heap.objs.size)}) :
  codeAny (model prog w) A (.call (.ref C) ⟨vs,kw⟩) R s:=by
 obtain⟨hh,g,d,t,os⟩:=s
 exact PySem.W.make_core (PySem.W.makes_of X hm) (PySem.W.looks_findIn X hi) (fun self=>PySem.W.bind_fn X self hf) (.inl rfl) h
end
noncomputable def putF (f:Str)(v:V):List (Str × V)->List (Str × V)
 | []=>[(f,v)]
 |(g,x)::r=>if g=f then (g,v)::r else (g,x)::putF f v r
theorem zdb (f g:Str)(v:V):∀fs:List (Str × V),(putF f v fs).lookup g=if g=f then some v else fs.lookup g
 | [] => by
   show List.lookup g [(f,v)]=_
   by_cases h:g=f
   · have hb:(g == f)=true:=beq_iff_eq.mpr h
     simp only[List.lookup,hb,if_pos h]
   · have hb:(g == f)=false:=beq_eq_false_iff_ne.mpr h
     simp only[List.lookup,hb,if_neg h]
 | (k, x) :: r => by
   have ih:=zdb f g v r
   rw[show putF f v ((k,x)::r)=(if k=f then (k,v)::r else (k,x)::putF f v r) from rfl]
   by_cases hk:k=f
   · rw[if_pos hk]
     by_cases h:g=k
     · have hb:(g == k)=true:=beq_iff_eq.mpr h
       simp only[List.lookup,hb,if_pos (h.trans hk)]
     · have hb:(g == k)=false:=beq_eq_false_iff_ne.mpr h
       simp only[List.lookup,hb,if_neg (fun e:g=f=>h (e.trans hk.symm))]
   · rw[if_neg hk]
     by_cases h:g=k
     · have hb:(g == k)=true:=beq_iff_eq.mpr h
       simp only[List.lookup,hb,if_neg (fun e:g=f=>hk (h.symm.trans e))]
     · have hb:(g == k)=false:=beq_eq_false_iff_ne.mpr h
       simp only[List.lookup,hb]
       exact ih
theorem zdg (f:Str)(v:V):∀fs:List (Str × V),f∈(putF f v fs).map (·.1)/\∀g,g∈fs.map (·.1)->g∈(putF f v fs).map (·.1)
 | []=>⟨by simp[putF],fun g h=>by simp at h⟩
 | (k, x) :: r => by
   obtain⟨i1,i2⟩:=zdg f v r
   rw[show putF f v ((k,x)::r)=(if k=f then (k,v)::r else (k,x)::putF f v r) from rfl]
   by_cases hk:k=f
   · rw[if_pos hk]
     subst hk
     exact⟨by simp,fun g h=>by simpa using h⟩
   · rw[if_neg hk]
     refine⟨?_,fun g h=>?_⟩
     · rw[List.map_cons]
       exact List.mem_cons_of_mem _ i1
     · rw[List.map_cons] at h⊢
       rcases List.mem_cons.mp h with e|e
       · exact List.mem_cons.mpr (.inl e)
       · exact List.mem_cons_of_mem _ (i2 g e)
theorem zdd (f:Str)(v:V):∀fs:List (Str × V),(putF f v fs).length<=fs.length+1
 | []=>by simp[putF]
 | (k, x) :: r => by
   have ih:=zdd f v r
   rw[show putF f v ((k,x)::r)=(if k=f then (k,v)::r else (k,x)::putF f v r) from rfl]
   by_cases hk:k=f
   · rw[if_pos hk,List.length_cons,List.length_cons];omega
   · rw[if_neg hk,List.length_cons,List.length_cons];omega
theorem RelO.some_of {v:V}{o:Option Value}(r:RelO (some v) o):∃u,o=some u/\RelV v u:=by
 cases o with
 |none=>exact (show False from r).elim
 |some u=>exact⟨u,rfl,r⟩
theorem RelO.none_of {o:Option Value}(r:RelO none o):o=none:=by
 cases o with
 |none=>rfl
 |some u=>exact (show False from r).elim
theorem zia {v:V}{u:Value}(r:RelV v u):PySem.W.handedIn u=true:=by
 cases v with
 |non=>cases (show u=Value.none from r);rfl
 |bl b=>cases (show u=Value.bool b from r);rfl
 |int i=>obtain⟨t,e⟩:=(show ∃t,u=Value.int i t from r);cases e;rfl
 |str x=>obtain⟨t,e⟩:=(show ∃t,u=Value.str x t from r);cases e;rfl
 |byt b=>obtain⟨t,e⟩:=(show ∃t,u=Value.bytes b t from r);cases e;rfl
 |flt b=>obtain⟨t,e⟩:=(show ∃t,u=Value.float b t from r);cases e;rfl
 |ref a=>cases (show u=Value.ref a from r);rfl
 |ty n=>cases (show u=Value.type n from r);rfl
section
variable {P:Program} {w:World} {H H':Hp} {h h':Heap} {a C dx:Addr} {fs fs':List (Str × V)}
theorem zek (hok:HOk P w H h)(e:H a=some (.ins C dx fs)):∃mA,ObjM h a dx C mA/\(∀f,RelO (fs.lookup f) (mA f))/\PySem.Within mA (fs.map (·.1))/\fs.length<=1000/\H dx=some (.own a):=by
 obtain⟨d,z,ne,ob,mA,n,r,q⟩:=(show ObjOk P w H h a (.ins C dx fs) from hok a _ e)
 exact⟨mA,⟨ob,n,ne⟩,r,q,z,d⟩
end
structure Cls (K:PySem.W.Frag) (C:Addr):Prop where
 pg:PySem.W.plainGet K C Str.empty=true
 hd:PySem.W.hasDictIn K C=true
 po:PySem.W.plainOver K C=true
 sa:PySem.W.findIn K (.ref C) "__setattr__"=some (some (.builtin "object.__setattr__"))
theorem Cls.get {K:PySem.W.Frag}{C:Addr}(c:Cls K C)(f:Str):PySem.W.plainGet K C f=true:=c.pg
noncomputable def NoAttr (K:PySem.W.Frag)(C:Addr)(f:Str):Prop:=PySem.W.findIn K (.ref C) f=some none
theorem NoAttr.taker {K:PySem.W.Frag}{C:Addr}{f:Str}(n:NoAttr K C f):PySem.W.takerIn K C f=some none:=by
 unfold PySem.W.takerIn
 rw[show PySem.W.findIn K (.ref C) f=some none from n]
 rfl
structure Con (K:PySem.W.Frag) (C:Addr) (f:Str) (v:V) (u:Value):Prop where
 at_:PySem.W.findIn K (.ref C) f=some (some u)
 rel:RelV v u
 get:PySem.W.specialIn K u "__get__"=some none
 cp:PySem.W.copiedNames.contains f=false
structure Meth (K:PySem.W.Frag) (C:Addr) (m:Str) (f:Addr):Prop where
 at_:PySem.W.findIn K (.ref C) m=some (some (.ref f))
 fn:PySem.W.isFn K (.ref f)=true
 kp:PySem.W.keepIn K (.ref f)=true
section
variable {X:Cx} {pins:List (Addr × Obj)} {σ:St} {H:Hp} {s:Shared} {a C dx:Addr} {fs:List (Str × V)} {f:Str} {v:V} {A:Around} {E:Value->Shared->Prop}
theorem zgR {b:Bool}{Q:Value->Shared->Prop}(I:Inv X pins σ H s)(e:H a=some (.ins C dx fs))(c:Cls X.K C)(n:NoAttr X.K C f)(l:fs.lookup f=some v)
  (h:∀u s',Inv X pins σ H s'->RelV v u->Q u s'):wpAny (model X.prog X.w) A (getAttr (.ref a) f b) Q E s:=by
 obtain⟨mA,O,r,_,_,_⟩:=zek I.hok e
 obtain⟨u,hu,ru⟩:=RelO.some_of (v:=v) (o:=mA f) (by rw[<-l];exact r f)
 exact zlr I.kIn O (c.get f) c.hd n hu (zia ru) (h u _ (I.tok _) ru)
theorem zdR {m:Str}{g:Addr}{pl:Sem Bool}{Q:Value × List Value->Shared->Prop}(I:Inv X pins σ H s)(e:H a=some (.ins C dx fs))(c:Cls X.K C)(k:Meth X.K C m g)(l:fs.lookup m=none)
  (h:Q (.ref g,[.ref a]) s):wpAny (model X.prog X.w) A (getMethod (.ref a) m pl) Q E s:=by
 obtain⟨mA,O,r,_,_,_⟩:=zek I.hok e
 have hn:mA m=none:=RelO.none_of (by rw[<-l];exact r m)
 exact zjt I.kIn O (c.get m) k.at_ k.fn hn h
theorem zgy {y:V}{u:Value}{Q:Unit->Shared->Prop}(I:Inv X pins σ H s)(e:H a=some (.ins C dx fs))(c:Cls X.K C)(n:NoAttr X.K C f)(hl:fs.length<1000)(ry:RelV y u)
  (h:∀s',Inv X pins σ (upd H a (.ins C dx (putF f y fs))) s'->Q () s'):wpAny (model X.prog X.w) A (setAttr (.ref a) f u) Q E s:=by
 obtain⟨mA,O,r,wi,_,ho⟩:=zek I.hok e
 have hz:(fs.map (·.1)).length<=sizeLine:=by rw[List.length_map,sizeLine_eq];omega
 refine zks I.kIn O c.sa c.po n.taker c.hd wi hz fun h' O' sb=>h _ ?_
 have hd:∃o,h'.get? dx=some o:=let ⟨o,_,_,e',_⟩:=O'.ns;⟨o,e'⟩
 refine I.write (x:=a) (e:=dx) (by rw[e];exact True.intro) (.inr ho) (fun b q hb z=>(sb.2 b hb).trans z) hd ?_
 refine⟨by rw[zap O.ne];exact ho,?_,O.ne,O'.obj,_,O'.ns,fun g=>?_,fun g hg=>?_⟩
 · have:=zdd f y fs;omega
 · show RelO ((putF f y fs).lookup g) (if g=f then some u else mA g)
   rw[zdb]
   by_cases q:g=f
   · rw[if_pos q,if_pos q];exact ry
   · rw[if_neg q,if_neg q];exact r g
 · by_cases q:g=f
   · rw[q];exact (zdg f y fs).1
   · refine (zdg f y fs).2 g (wi g fun z=>hg ?_)
     show (if g=f then some u else mA g)=none
     rw[if_neg q];exact z
theorem Inv.made (I:Inv X pins σ H s):Inv X pins σ (upd (upd H s.heap.objs.size (.own (s.heap.objs.size+1))) (s.heap.objs.size+1) (.ins C s.heap.objs.size []))
  {s with heap:=(s.heap.push PySem.W.emptyDict).push (PySem.W.instObj C s.heap.objs.size)}:=by
 have e1:(s.heap.push PySem.W.emptyDict).get? s.heap.objs.size=some PySem.W.emptyDict:=Heap.get?_push_size s.heap rfl
 have e2:((s.heap.push PySem.W.emptyDict).push (PySem.W.instObj C s.heap.objs.size)).get? (s.heap.objs.size+1)=some (PySem.W.instObj C s.heap.objs.size):=by
  have:=Heap.get?_push_size (s.heap.push PySem.W.emptyDict) (o:=PySem.W.instObj C s.heap.objs.size) rfl
  rwa [Heap.size_push] at this
 have e3:(s.heap.push PySem.W.emptyDict).Ns s.heap.objs.size (fun _=>none):=⟨PySem.W.emptyDict,#[],_,e1,rfl,(fun e he=>absurd he (by simp)),fun _=>rfl⟩
 have I1:=I.laid (a:=s.heap.objs.size) (o:=.own (s.heap.objs.size+1)) (h':=s.heap.push PySem.W.emptyDict) (t':=s.toks) (fun b u q=>Heap.get?_push_of_some _ q) (Nat.le_refl _) ⟨_,e1⟩
 refine I1.laid (a:=s.heap.objs.size+1) (o:=.ins C s.heap.objs.size []) (t':=s.toks) (fun b u q=>Heap.get?_push_of_some _ q) (Nat.le_of_eq (Heap.size_push _ _)) ?_
 have ne:s.heap.objs.size≠s.heap.objs.size+1:=Nat.ne_of_lt (Nat.lt_succ_self _)
 refine⟨by rw[zap ne,zaw],Nat.zero_le _,ne,e2,fun _=>none,(Heap.Ns1.of_empty e3).at fun o q=>Heap.get?_push_of_some _ q,fun _=>True.intro,fun y hy=>absurd rfl hy⟩
theorem zlJ {prog:Program}{w:World}{env:Env}{e:Expr}{f:Str}{pos:Pos}{s:Shared}{Q:Value->Shared->Prop}(hb:attributeBase e f env (eval e env)=eval e env)
  (h:wpAny (model prog w) A (eval e env) (fun o s₁=>wpAny (model prog w) A (getAttr o f true) Q E s₁) E s):wpAny (model prog w) A (eval (.Attribute e f pos) env) Q E s:=
 Attribute_any_ h (by rw[arm_eval_Attribute,hb])
end
noncomputable def tFld (K:PySem.W.Frag)(ta:TE)(f:Str):TE:=fun σ H Q=>ta σ H fun x H1=>∃a C dx fs v,x=.ref a/\H1 a=some (.ins C dx fs)/\Cls K C/\NoAttr K C f/\fs.lookup f=some v/\Q v H1
noncomputable def sFld (K:PySem.W.Frag)(ta tv:TE)(f:Str):TS:=fun D σ H=>tv σ H fun y H1=>ta σ H1 fun x H2=>∃a C dx fs,x=.ref a/\H2 a=some (.ins C dx fs)/\Cls K C/\NoAttr K C f/\fs.length<1000/\
 D.nx σ (upd H2 a (.ins C dx (putF f y fs)))
section
variable {X:Cx} {o e value:Expr} {f:Str} {pos pos' tpos:Pos} {ta tv:TE}
theorem zmV (he:PE X e ta)(hb:attributeBase e f X.env (eval e X.env)=eval e X.env):PE X (.Attribute e f pos) (tFld X.K ta f):=by
 intro pins s σ H Q I h
 refine zlJ hb (thn (he pins s σ H _ I h) fun u s1 ⟨x,H1,I1,rx,a,C,dx,fs,v,ex,ea,c,n,l,q⟩=>?_)
 subst ex
 obtain rfl:u=Value.ref a:=rx
 exact zgR I1 ea c n l fun u' s2 I2 ru=>⟨v,H1,I2,ru,q⟩
theorem zmJ (ha:PE X o ta)(hv:PE X value tv)(hs:swapsWith value (some (.Attribute o f pos')) pos.line X.env=pure false):PS X (.Assign [.Attribute o f pos'] value pos) (sFld X.K ta tv f):=by
 intro pins s σ H D I h
 refine plainObj_wpAny_Assign_Attribute (thn (hv pins s σ H _ I h) fun u s1 ⟨y,H1,I1,ry,q⟩=>thn (ha pins s1 σ H1 _ I1 q) fun ov s2 ⟨x,H2,I2,rx,a,C,dx,fs,ex,ea,c,n,l,q2⟩=>?_) hs
 subst ex
 obtain rfl:ov=Value.ref a:=rx
 exact zgy I2 ea c n l ry fun s3 I3=>⟨σ,_,I3,q2⟩
end
section
variable {X:Cx} {pins:List (Addr × Obj)} {σ:St} {H:Hp} {s:Shared} {A:Around} {E:Value->Shared->Prop} {Q:Value->Shared->Prop} {c:Value} {b:Bool}
inductive TyOf (K:PySem.W.Frag) (H:Hp):V->Value->Prop where
 |non:TyOf K H .non (.type "NoneType")
 |bl (x:Bool):TyOf K H (.bl x) (.type "bool")
 |int (i:Int):TyOf K H (.int i) (.type "int")
 |str (x:Str):TyOf K H (.str x) (.type "str")
 |flt (x:UInt64):TyOf K H (.flt x) (.type "float")
 |lst {a:Addr} {xs:List V} (e:H a=some (.lst xs)):TyOf K H (.ref a) (.type "list")
 |frz {a:Addr} {o:Obj} {xs:List V} (e:H a=some (.frz o (.lst xs))):TyOf K H (.ref a) (.type "list")
 |tup {a:Addr} {xs:List V} (e:H a=some (.tup xs)):TyOf K H (.ref a) (.type "tuple")
 |dK {a:Addr} {kvs:List (Key × V)} (e:H a=some (.dK kvs)):TyOf K H (.ref a) (.type "dict")
 |dT {a:Addr} {kvs:List (List Key × V)} (e:H a=some (.dT kvs)):TyOf K H (.ref a) (.type "dict")
 |ins {a C dx:Addr} {fs:List (Str × V)} (e:H a=some (.ins C dx fs)) (cl:Cls K C) (ha:PySem.W.findIn K (.ref C) "__class__"=some (some (.builtin "object.__class__")))
  (hn:PySem.W.specialIn K (.builtin "object.__class__") "__get__"=some (some (.builtin "getset_descriptor.__get__"))) (htk:PySem.W.takesIn K (.builtin "object.__class__")=some true)
  (hm:PySem.W.mroIn K C (.type "object")=some true):TyOf K H (.ref a) (.ref C)
theorem zeX {x:V}{u t:Value}(I:Inv X pins σ H s)(rx:RelV x u)(ty:TyOf X.K H x t)(e:PySem.W.kitOne X.K t c=some b)(h:∀tk,Q (.bool b) {s with toks:=tk}) :
  wpAny (model X.prog X.w) A (call (.builtin "isinstance") [u,c]) Q E s:=by
 cases ty with
 |non=>cases (show u=Value.none from rx);exact PySem.W.kia_one PySem.W.kitx_none I.kIn True.intro e (fun z=>nomatch z) h
 |bl y=>cases (show u=Value.bool y from rx);exact PySem.W.kia_one PySem.W.kitx_bool I.kIn True.intro e (fun z=>nomatch z) h
 |int i=>obtain⟨t,q⟩:=(show ∃t,u=Value.int i t from rx);cases q;exact PySem.W.kia_one PySem.W.kitx_int I.kIn True.intro e (fun z=>nomatch z) h
 |str y=>obtain⟨t,q⟩:=(show ∃t,u=Value.str y t from rx);cases q;exact PySem.W.kia_one PySem.W.kitx_str I.kIn True.intro e (fun z=>nomatch z) h
 |flt y=>obtain⟨t,q⟩:=(show ∃t,u=Value.float y t from rx);cases q;exact PySem.W.kia_one PySem.W.kitx_float I.kIn True.intro e (fun z=>nomatch z) h
 | @lst a xs ea =>
   cases (show u=Value.ref a from rx)
   obtain⟨_,_,n,_,h1⟩:=(show ObjOk X.prog X.w H s.heap a (.lst xs) from I.hok a _ ea)
   exact PySem.W.kia_one PySem.W.kitx_list I.kIn ⟨_,h1,rfl⟩ e (fun z=>nomatch z) h
 | @frz a ob xs ea =>
   cases (show u=Value.ref a from rx)
   obtain⟨_,_,_,n,_,h1⟩:=(show ObjOk X.prog X.w H s.heap a (.frz ob (.lst xs)) from I.hok a _ ea)
   exact PySem.W.kia_one PySem.W.kitx_list I.kIn ⟨_,h1,rfl⟩ e (fun z=>nomatch z) h
 | @tup a xs ea =>
   cases (show u=Value.ref a from rx)
   obtain⟨_,_,_,p⟩:=(show ObjOk X.prog X.w H s.heap a (.tup xs) from I.hok a _ ea)
   obtain⟨o,h1,h2,_⟩:=p
   exact PySem.W.kia_one PySem.W.kitx_tuple I.kIn ⟨o,h1,h2⟩ e (fun z=>nomatch z) h
 | @dK a kvs ea =>
   cases (show u=Value.ref a from rx)
   obtain⟨_,_,vs,_,p⟩:=(show ObjOk X.prog X.w H s.heap a (.dK kvs) from I.hok a _ ea)
   obtain⟨o,es,ep,h1,h2,_⟩:=p
   exact PySem.W.kia_one PySem.W.kitx_dict I.kIn ⟨o,h1,h2.1⟩ e (fun z=>nomatch z) h
 | @dT a kvs ea =>
   cases (show u=Value.ref a from rx)
   obtain⟨_,_,xs,_,o,es,ep,h1,h2,_⟩:=(show ObjOk X.prog X.w H s.heap a (.dT kvs) from I.hok a _ ea)
   exact PySem.W.kia_one PySem.W.kitx_dict I.kIn ⟨o,h1,h2.1⟩ e (fun z=>nomatch z) h
 | @ins a C dx fs ea cl ha hn htk hm =>
   cases (show u=Value.ref a from rx)
   obtain⟨mA,O,_⟩:=zek I.hok ea
   obtain⟨od,J,_⟩:=O.look
   exact PySem.W.kia_one (PySem.W.kitx_own (cl.get _) cl.hd ha hn htk hm) I.kIn J e (fun z=>nomatch z) h
end
end L2
namespace L2
open PySem PySem.Spec PyProof.Rows
structure Room (k:Nat) (A:Around):Prop where
 hd:A.handled=none
 dp:A.depth+3 * k+5<recursionLimit
 un:A.units+16 * k+200<cLine
theorem Room.mono {j k:Nat}{A:Around}(r:Room k A)(h:j<=k):Room j A:=⟨r.hd,by have:=r.dp;omega,by have:=r.un;omega⟩
theorem Room.deeper {k:Nat}{A:Around}(r:Room (k+1) A)(env:Env):Room k (A.deeper env):=
 ⟨r.hd,by have:=r.dp;show A.depth+1+3 * k+5<_;omega,by have:=r.un;show A.units+3+16 * k+200<_;omega⟩
theorem Room.in1 {k:Nat}{A:Around}(r:Room (k+1) A):Room k A.in1:=
 ⟨r.hd,by have:=r.dp;show A.depth+3 * k+5<_;omega,by have:=r.un;show A.units+1+16 * k+200<_;omega⟩
theorem zgL {A:Around}{C:Addr}{us:List Value}{kw:List (Str × Value)}:(A.under (.builtin "type.__call__" ⟨.ref C::us,kw⟩)).depth=A.depth+1:=by
 first|rfl|simp[Around.under,Code.weight,Code.isCreation,Code.isGuard,Code.isCaller,Code.frames,Code.isFrame,guardIds]
theorem zgK {A:Around}{C:Addr}{us:List Value}{kw:List (Str × Value)}:(A.under (.builtin "type.__call__" ⟨.ref C::us,kw⟩)).units=A.units+1:=by
 first|rfl|simp[Around.under,Code.cUnits,Code.frames,Code.isFrame]
theorem Room.make {k:Nat}{A:Around}(r:Room (k+1) A)(C:Addr)(us:List Value)(kw:List (Str × Value)):Room k (A.under (.builtin "type.__call__" ⟨.ref C::us,kw⟩)):=
 ⟨r.hd,by have:=r.dp;rw[zgL];omega,by have:=r.un;rw[zgK];omega⟩
theorem Room.depth {k:Nat}{A:Around}(r:Room k A):A.depth<recursionLimit:=by have:=r.dp;omega
theorem Room.units {k:Nat}{A:Around}(r:Room k A):A.units+64<cLine:=by have:=r.un;omega
noncomputable def tNil:TA:=fun _ H Q=>Q [] H
noncomputable def zl5 (ta:TE)(tr:TA):TA:=fun σ H Q=>ta σ H fun x H1=>tr σ H1 fun xs H2=>Q (x::xs) H2
section
variable {X:Cx} {e:Expr} {es:List Expr} {te:TE} {t:TA} {pos:Pos}
theorem zfY:PA X [] tNil:=fun _ _ _ _ H Q I h=>Calls.spliced_nil ⟨[],H,I,.nil,h⟩
theorem zce (ha:PE X e te)(hr:PA X es t)(hs:starEach (e::es) X.env=(false,eval e X.env)::starEach es X.env:=by rfl):PA X (e::es) (zl5 te t):=by
 intro pos pins s σ H Q I h
 rw[hs]
 show wpAny _ _ (spliced ((false,eval e X.env)::backTo pos (starEach es X.env))) _ _ s
 refine Calls.spliced_cons (thn (ha pins s σ H _ I h) fun u s1 ⟨x,H1,I1,r1,q1⟩=>?_)
 exact thn (hr pos pins s1 σ H1 _ I1 q1) fun us s2 ⟨xs,H2,I2,r2,q2⟩=>⟨x::xs,H2,I2,.cons r1 r2,q2⟩
noncomputable def tTup (t:TA):TE:=fun σ H Q=>t σ H fun xs H1=>xs.length<=sizeLine/\∀p,H1 p=none->Q (.ref p) (upd H1 p (.tup xs))
noncomputable def tLst (t:TA):TE:=fun σ H Q=>t σ H fun xs H1=>xs.length<=sizeLine/\∀p,H1 p=none->Q (.ref p) (upd H1 p (.lst xs))
theorem zmN {x1}(h:PA X es t):PE X (.Tuple es x1 pos) (tTup t):=by
 intro pins s σ H Q I hq
 refine wpAny_Tuple_spliced (thn (h pos pins s σ H _ I hq) fun us s1 ⟨xs,H1,I1,r,z,q⟩=>⟨by rw[<-r.length];exact z,?_⟩)
 have hf:H1 s1.heap.objs.size=none:=I1.hok.fresh (Nat.le_refl _)
 refine⟨.ref s1.heap.objs.size,upd H1 s1.heap.objs.size (.tup xs),I1.laid (t':=s1.toks) (fun b u e=>Heap.get?_push_of_some _ e) (Nat.le_refl _) ?_,rfl,q _ hf⟩
 exact⟨z,us,r,⟨_,Heap.get?_push_size _ rfl,rfl,_,rfl⟩⟩
theorem zmR (h:PA X es t):PE X (.List es pos) (tLst t):=by
 intro pins s σ H Q I hq
 refine wpAny_List_spliced (thn (h pos pins s σ H _ I hq) fun us s1 ⟨xs,H1,I1,r,z,q⟩=>⟨by rw[<-r.length];exact z,?_⟩)
 have hf:H1 s1.heap.objs.size=none:=I1.hok.fresh (Nat.le_refl _)
 refine⟨.ref s1.heap.objs.size,upd H1 s1.heap.objs.size (.lst xs),I1.laid (t':=s1.toks) (fun b u e=>Heap.get?_push_of_some _ e) (Nat.le_refl _) ?_,rfl,q _ hf⟩
 exact⟨z,us,0,r,Heap.get?_push_size _ rfl⟩
end
noncomputable abbrev Sp:=List V->Hp->VK->XK->Prop
noncomputable abbrev CXT:=List Env->Hp->Shared->XK->Value->Shared->Prop
structure Env0 (P:Program) (w:World) (K:PySem.W.Frag) (mg:Str->Option Value) (base:Heap) (A:Around) (outer:List Env) (s:Shared) (H:Hp):Prop where
 frames:A.frames=some outer
 mod:Mod K mg base
 bs:∀b o,base.get? b=some o->s.heap.get? b=some o/\H b=none
 bsz:base.objs.size<=s.heap.objs.size
 funs:s.heap.FunFrames base outer
 frf:∀b∈frs outer,H b=none
 hok:HOk P w H s.heap
 bare:AllBare s.gens
noncomputable def CE (outer:List Env)(P:Program)(w:World)(H:Hp)(s:Shared)(Q:VK)(u:Value)(s':Shared):Prop:=
 ∃v H',s'.os=s.os/\AllBare s'.gens/\Un (frs outer) [] H H' s.heap s'.heap/\HOk P w H' s'.heap/\RelV v u/\Q v H'
noncomputable def CR (CX:CXT)(outer:List Env)(P:Program)(w:World)(H:Hp)(s:Shared)(Q:VK)(E:XK)(r:Result)(s':Shared):Prop:=
 match r with
 |.ok (.ret u)=>CE outer P w H s Q u s'
 |.ok _=>False
 |.error e=>CX outer H s E e s'
structure FnOk (P:Program) (w:World) (K:PySem.W.Frag) (mg:Str->Option Value) (base:Heap) (CX:CXT) (k:Nat) (f:Addr) (fd:FuncData) (ps:List Str) (sp:Sp):Prop where
 len:∀vs H Q E,sp vs H Q E->vs.length=ps.length
 run:∀(A:Around) (outer:List Env) (s:Shared) (H:Hp) (args:Args) (us:List Value) (vs:List V) (Q:VK) (E:XK),Room k A->Env0 P w K mg base A outer s H->BindsTo s fd args (ps.zip us)->Vals vs us->sp vs H Q E->
  codeAny (model P w) A (.call (.ref f) args) (CR CX outer P w H s Q E) s
theorem FnOk.mono {P:Program}{w:World}{K:PySem.W.Frag}{mg:Str->Option Value}{base:Heap}{CX:CXT}{j k:Nat}{f:Addr}{fd:FuncData}{ps:List Str}{sp:Sp}(F:FnOk P w K mg base CX j f fd ps sp)(h:j<=k) :
 FnOk P w K mg base CX k f fd ps sp:=⟨F.len,fun A outer s H args us vs Q E hr=>F.run A outer s H args us vs Q E (hr.mono h)⟩
theorem Env0.make {P:Program}{w:World}{K:PySem.W.Frag}{mg:Str->Option Value}{base:Heap}{A:Around}{outer:List Env}{s:Shared}{H:Hp}(e:Env0 P w K mg base A outer s H)(C:Addr)(us:List Value)(kw:List (Str × Value)) :
 Env0 P w K mg base (A.under (.builtin "type.__call__" ⟨.ref C::us,kw⟩)) outer s H:=⟨by first|exact e.frames|(simpa[Around.under,Code.envs,Code.isFrame,pushEnvs] using e.frames),e.mod,e.bs,e.bsz,e.funs,e.frf,e.hok,e.bare⟩
theorem Env0.in1 {P:Program}{w:World}{K:PySem.W.Frag}{mg:Str->Option Value}{base:Heap}{A:Around}{outer:List Env}{s:Shared}{H:Hp}(e:Env0 P w K mg base A outer s H) :
 Env0 P w K mg base A.in1 outer s H:=⟨e.frames,e.mod,e.bs,e.bsz,e.funs,e.frf,e.hok,e.bare⟩
section
variable {X:Cx} {pins:List (Addr × Obj)} {σ:St} {H:Hp} {s s':Shared}
theorem Inv.env0 (I:Inv X pins σ H s):Env0 X.prog X.w X.K X.mg X.base X.A X.stack s H:=
 ⟨I.ok.frames,I.ok.mod,I.bs,Nat.le_trans I.ok.bsz I.sz,I.stack,I.stkFree,I.hok,I.bare⟩
theorem Inv.after {Q:VK}{u:Value}(I:Inv X pins σ H s)(h:CE X.stack X.prog X.w H s Q u s'):EP X pins σ Q u s':=by
 obtain⟨v,H',os,bare,un,hok,r,q⟩:=h
 obtain⟨hh,g,d,t,os'⟩:=s'
 obtain rfl:os'=s.os:=os
 exact⟨v,H',I.call (h':=hh) (g':=g) (d':=d) (t':=t) (ch:=[]) un hok bare (fun b z=>absurd z (by simp)),r,q⟩
end
noncomputable def zd4 (sp:Sp)(dvs:List V)(E:XK)(t:TA):TE:=fun σ H Q=>t σ H fun vs H1=>sp (vs++dvs) H1 Q E
noncomputable def zki (C:Addr)(sp:Sp)(dvs:List V)(E:XK)(t:TA):TE:=fun σ H Q=>t σ H fun vs H1=>∀x dx,H1 x=none->H1 dx=none->dx≠x->
 sp (.ref x::(vs++dvs)) (upd (upd H1 dx (.own x)) x (.ins C dx [])) (fun v H2=>v=.non/\Q (.ref x) H2) E
noncomputable def Binds (K:PySem.W.Frag)(fd:FuncData)(ps:List Str)(ds:List Value):Prop:=
 ∀(s:Shared) (us:List Value),K.In s.heap->(us++ds).length=ps.length->BindsTo s fd ⟨us,[]⟩ (ps.zip (us++ds))
theorem Binds.all {K:PySem.W.Frag}{fd:FuncData}{ps:List Str}(h:∀us:List Value,us.length=ps.length->bindArgs fd ⟨us,[]⟩=pure (ps.zip us)):Binds K fd ps []:=fun s us _ hl=>by
 rw[List.append_nil] at hl⊢
 exact .of_eq (h us hl)
noncomputable def zdy (CX:CXT)(X:Cx)(E:XK):Prop:=∀(pins:List (Addr × Obj)) (σ:St) (H:Hp) (s:Shared) (e:Value) (s':Shared),Inv X pins σ H s->CX X.stack H s E e s'->X.xe e s'
section
variable {X:Cx} {CX:CXT} {k:Nat} {f C:Addr} {fd:FuncData} {ps:List Str} {sp:Sp} {dvs:List V} {ds:List Value} {E:XK} {x m:Str} {p pos apos:Pos} {e o:Expr} {es:List Expr} {ta:TE} {t:TA}
theorem zeI {pins:List (Addr × Obj)}{σ:St}{H:Hp}{s:Shared}{Q:VK}{us:List Value}{vs:List V}(F:FnOk X.prog X.w X.K X.mg X.base CX k f fd ps sp)(hr:Room k X.A)(hb:Binds X.K fd ps ds)(hd:Vals dvs ds)(hx:zdy CX X E)
  (I:Inv X pins σ H s) (r:Vals vs us) (h:sp (vs++dvs) H Q E):wpAny (model X.prog X.w) X.A (call (.ref f) us) (EP X pins σ Q) X.xe s:=by
 have r2:Vals (vs++dvs) (us++ds):=r.append hd
 have hl:(us++ds).length=ps.length:=by rw[<-r2.length];exact F.len _ _ _ _ h
 refine wpAny_call (codeAny_mono (F.run X.A X.stack s H ⟨us,[]⟩ (us++ds) (vs++dvs) Q E hr I.env0 (hb s us I.kIn hl) r2 h) fun r s' hq=>?_)
 cases r with
 |error e=>exact hx pins σ H s e s' I hq
 | ok fl =>
   cases fl with
   |ret u=>exact I.after hq
   |next=>exact False.elim hq
   |brk=>exact False.elim hq
   |cont=>exact False.elim hq
theorem zk3 (F:FnOk X.prog X.w X.K X.mg X.base CX k f fd ps sp)(hr:Room k X.A)(hg:Gl X x)(hm:X.mg x=some (.ref f))(hk:PySem.W.keepIn X.K (.ref f)=true)(hb:Binds X.K fd ps ds)(hd:Vals dvs ds)(hx:zdy CX X E)
  (ha:PA X (e::es) t) (hdb:(x == ("__debug__":Str))=false:=by decide) (he:starEach (e::es) X.env=(false,eval e X.env)::starEach es X.env:=by rfl) (hpl:(backTo pos (starEach es X.env)).any (·.1)=false:=by rfl) :
  PE X (.Call (.Name x p) (e::es) [] pos) (zd4 sp dvs E t):=by
 intro pins s σ H Q I h
 refine wpAny_Call_Name_kw (zde I hg hm ?_ hdb)
 refine PySem.W.callWith_K (h₀:=X.base) I.ok.mod.kin hk (thn (ha pos pins s σ H _ I h) fun us s1 ⟨vs,H1,I1,r,q⟩=>⟨I1.kIn,?_⟩) he hpl
 exact zeI F hr hb hd hx I1 r q
theorem zjd (F:FnOk X.prog X.w X.K X.mg X.base CX k f fd ps sp)(hr:Room k X.A)(hg:Gl X x)(hm:X.mg x=some (.ref f))(hk:PySem.W.keepIn X.K (.ref f)=true)(hb:Binds X.K fd ps ds)(hd:Vals dvs ds)(hx:zdy CX X E)
  (hdb:(x == ("__debug__":Str))=false:=by decide):PE X (.Call (.Name x p) [] [] pos) (zd4 sp dvs E tNil):=by
 intro pins s σ H Q I h
 refine wpAny_Call_Name_kw (zde I hg hm ?_ hdb)
 exact PySem.W.callWith_K0 I.kIn hk (zeI (us:=[]) F hr hb hd hx I .nil h)
structure Mk (K:PySem.W.Frag) (C f:Addr):Prop where
 makes:PySem.W.makesIn K C=true
 init:PySem.W.findIn K (.ref C) "__init__"=some (some (.ref f))
 fn:PySem.W.isFn K (.ref f)=true
 kp:PySem.W.keepIn K (.ref C)=true
theorem zfT {pins:List (Addr × Obj)}{σ:St}{H:Hp}{s:Shared}{Q:VK}{us:List Value}{vs:List V}(M:Mk X.K C f)(F:FnOk X.prog X.w X.K X.mg X.base CX k f fd ps sp)(hr:Room (k+1) X.A)(hb:Binds X.K fd ps ds)(hd:Vals dvs ds)
  (hx:zdy CX X E) (I:Inv X pins σ H s) (r:Vals vs us)
  (h:∀x dx,H x=none->H dx=none->dx≠x->sp (.ref x::(vs++dvs)) (upd (upd H dx (.own x)) x (.ins C dx [])) (fun v H2=>v=.non/\Q (.ref x) H2) E) :
  wpAny (model X.prog X.w) X.A (call (.ref C) us) (EP X pins σ Q) X.xe s:=by
 have hq:=h (s.heap.objs.size+1) s.heap.objs.size (I.hok.fresh (Nat.le_succ _)) (I.hok.fresh (Nat.le_refl _)) (Nat.ne_of_lt (Nat.lt_succ_self _))
 have I2:=Inv.made (C:=C) I
 have r2:Vals (V.ref (s.heap.objs.size+1)::(vs++dvs)) (Value.ref (s.heap.objs.size+1)::(us++ds)):=.cons rfl (r.append hd)
 have hl:(Value.ref (s.heap.objs.size+1)::us++ds).length=ps.length:=by
  have e:=r2.length
  rw[F.len _ _ _ _ hq] at e
  exact e.symm
 refine wpAny_call (zjj (f:=f) I.kIn M.makes M.init (beq_iff_eq.mp M.fn) (codeAny_mono (F.run _ X.stack _ _ ⟨Value.ref (s.heap.objs.size+1)::us,[]⟩ (Value.ref (s.heap.objs.size+1)::(us++ds)) _ _ E (hr.make C us [])
  (I2.env0.make C us []) (hb _ (Value.ref (s.heap.objs.size+1)::us) I2.kIn hl) r2 hq) fun r s' hq'=>?_))
 cases r with
 |error e=>exact hx pins σ _ _ e s' I2 hq'
 | ok fl =>
   cases fl with
   | ret u =>
     obtain⟨v,H',I3,rv,ev,q3⟩:=I2.after hq'
     subst ev
     exact⟨rv,⟨V.ref (s.heap.objs.size+1),H',I3,rfl,q3⟩⟩
   |next=>exact False.elim hq'
   |brk=>exact False.elim hq'
   |cont=>exact False.elim hq'
theorem zk0 (M:Mk X.K C f)(F:FnOk X.prog X.w X.K X.mg X.base CX k f fd ps sp)(hr:Room (k+1) X.A)(hg:Gl X x)(hm:X.mg x=some (.ref C))(hb:Binds X.K fd ps ds)(hd:Vals dvs ds)(hx:zdy CX X E)
  (ha:PA X (e::es) t) (hdb:(x == ("__debug__":Str))=false:=by decide) (he:starEach (e::es) X.env=(false,eval e X.env)::starEach es X.env:=by rfl) (hpl:(backTo pos (starEach es X.env)).any (·.1)=false:=by rfl) :
  PE X (.Call (.Name x p) (e::es) [] pos) (zki C sp dvs E t):=by
 intro pins s σ H Q I h
 refine wpAny_Call_Name_kw (zde I hg hm ?_ hdb)
 refine PySem.W.callWith_K (h₀:=X.base) I.ok.mod.kin M.kp (thn (ha pos pins s σ H _ I h) fun us s1 ⟨vs,H1,I1,r,q⟩=>⟨I1.kIn,?_⟩) he hpl
 exact zfT M F hr hb hd hx I1 r q
theorem zi7 (M:Mk X.K C f)(F:FnOk X.prog X.w X.K X.mg X.base CX k f fd ps sp)(hr:Room (k+1) X.A)(hg:Gl X x)(hm:X.mg x=some (.ref C))(hb:Binds X.K fd ps ds)(hd:Vals dvs ds)(hx:zdy CX X E)
  (hdb:(x == ("__debug__":Str))=false:=by decide):PE X (.Call (.Name x p) [] [] pos) (zki C sp dvs E tNil):=by
 intro pins s σ H Q I h
 refine wpAny_Call_Name_kw (zde I hg hm ?_ hdb)
 exact PySem.W.callWith_K0 I.kIn M.kp (zfT (us:=[]) M F hr hb hd hx I .nil h)
end
section
variable {X:Cx} {CX:CXT} {k:Nat} {f C:Addr} {fd:FuncData} {ps ks:List Str} {sp:Sp} {E:XK} {x m:Str} {p pos apos kpos:Pos} {e o:Expr} {es:List Expr} {kws:List Keyword} {te ta:TE} {t tk:TA} {nm:Option Str}
structure KBinds (K:PySem.W.Frag) (fd:FuncData) (ps ks:List Str) (g:List Value->List Value->List Value) (gV:List V->List V->List V):Prop where
 to:∀(s:Shared) (us ws:List Value),K.In s.heap->(g us ws).length=ps.length->BindsTo s fd ⟨us,ks.zip ws⟩ (ps.zip (g us ws))
 rel:∀{vs:List V} {us:List Value} {zs:List V} {ws:List Value},Vals vs us->Vals zs ws->Vals (gV vs zs) (g us ws)
variable {g:List Value->List Value->List Value} {gV:List V->List V->List V}
end
structure FnScope (N P:List Str) (sc:Scope):Prop where
 kind:sc.kind=.function
 co:sc.isCoroutine=false
 gen:sc.isGenerator=false
 nd:N.Nodup
 pre:N.take P.length=P
 par:∀x∈P,sc.names.lookup x=some .local\/sc.names.lookup x=some .cell
 nofree:∀y∈sc.names,y.2≠.free
theorem ze9 {kindOf:Str->Option NameKind}{x:Str}:∀{binds:List (Str × Value)} {m:Str->Option Value},(∀v,(x,v)∉binds)->bindL kindOf binds m x=m x
 | [],_,_=>rfl
 | (n, v) :: r, m, h => by
   unfold bindL
   rw[ze9 fun w hw=>h w (List.mem_cons_of_mem _ hw)]
   split
   · have:x≠n:=by rintro rfl;exact h v List.mem_cons_self
     simp[this]
   · rfl
theorem zfb {kindOf:Str->Option NameKind}{x:Str}:∀{binds:List (Str × Value)} {m:Str->Option Value},(∀v,(x,v)∉binds)->bindC kindOf binds m x=m x
 | [],_,_=>rfl
 | (n, v) :: r, m, h => by
   unfold bindC
   rw[zfb fun w hw=>h w (List.mem_cons_of_mem _ hw)]
   split
   · rfl
   · have:x≠n:=by rintro rfl;exact h v List.mem_cons_self
     simp[this]
theorem zfa {kindOf:Str->Option NameKind}{x:Str}{v:Value}:∀{P:List Str} {vs:List Value} {i:Nat} {m:Str->Option Value},P.Nodup->P[i]?=some x->vs[i]?=some v->kindOf x=some .local->
  bindL kindOf (P.zip vs) m x=some v
 | [],_,_,_,_,h,_,_=>by simp at h
 |_::_,[],_,_,_,_,h,_=>by simp at h
 | p :: P, w :: vs, 0, m, nd, h1, h2, hk => by
   simp at h1 h2;subst h1;subst h2
   show bindL kindOf ((p,w)::P.zip vs) m p=_
   unfold bindL
   rw[ze9 fun v hv=>(List.nodup_cons.mp nd).1 (List.of_mem_zip hv).1,if_pos hk]
   simp
 | p :: P, w :: vs, i + 1, m, nd, h1, h2, hk => by
   show bindL kindOf ((p,w)::P.zip vs) m x=_
   unfold bindL
   exact zfa (i:=i) (List.nodup_cons.mp nd).2 (by simpa using h1) (by simpa using h2) hk
theorem zfc {kindOf:Str->Option NameKind}{x:Str}{v:Value}:∀{P:List Str} {vs:List Value} {i:Nat} {m:Str->Option Value},P.Nodup->P[i]?=some x->vs[i]?=some v->kindOf x≠some .local->
  bindC kindOf (P.zip vs) m x=some v
 | [],_,_,_,_,h,_,_=>by simp at h
 |_::_,[],_,_,_,_,h,_=>by simp at h
 | p :: P, w :: vs, 0, m, nd, h1, h2, hk => by
   simp at h1 h2;subst h1;subst h2
   show bindC kindOf ((p,w)::P.zip vs) m p=_
   unfold bindC
   rw[zfb fun v hv=>(List.nodup_cons.mp nd).1 (List.of_mem_zip hv).1,if_neg hk]
   simp
 | p :: P, w :: vs, i + 1, m, nd, h1, h2, hk => by
   show bindC kindOf ((p,w)::P.zip vs) m x=_
   unfold bindC
   exact zfc (i:=i) (List.nodup_cons.mp nd).2 (by simpa using h1) (by simpa using h2) hk
noncomputable def start (N:List Str)(vs:List V):St:=vs.map some++List.replicate (N.length - vs.length) none
noncomputable def cxOf (CX:CXT)(P:Program)(w:World)(K:PySem.W.Frag)(mg:Str->Option Value)(base:Heap)(N:List Str)(qual:Str)(scope:Scope)(f:Addr)(cd:Value)(A:Around)(outer:List Env)(s:Shared)(H:Hp)(E:XK):Cx where
 prog:=P
 w:=w
 K:=K
 mg:=mg
 base:=base
 A:=A.deeper (envOfC qual scope s.heap.objs.size f cd)
 N:=N
 s₀:=s
 H₀:=H
 env:=envOfC qual scope s.heap.objs.size f cd
 outer:=outer
 stack:=envOfC qual scope s.heap.objs.size f cd::outer
 ex:=[]
 calm:=true
 fn:=fun _=>true
 pn:=[]
 xe:=fun e s'=>wpAny (model P w) (A.deeper (envOfC qual scope s.heap.objs.size f cd)) (leaving (envOfC qual scope s.heap.objs.size f cd) e) (fun _ s''=>CX outer H s E e s'') (fun e' s''=>CX outer H s E e' s'') s'
theorem zgn {sc:Scope}{n:Nat}{x:Str}(h:sc.names.lookup x=some .cell):∃c,(cellsFrom n sc.names []).lookup x=some c:=by
 have q:=PySem.W.cellsFrom_some sc.names n [] (.inl h)
 exact Option.isSome_iff_exists.mp q
theorem zh2 {CX:CXT}{P:Program}{w:World}{K:PySem.W.Frag}{mg:Str->Option Value}{base:Heap}{N ps:List Str}{qual:Str}{scope:Scope}{f:Addr}{cd:Value}{A:Around}{outer:List Env}{s s1:Shared}{H:Hp}{E:XK}{us:List Value}{vs:List V}
  (S:FnScope N ps scope) (hd:A.handled=none) (e0:Env0 P w K mg base A outer s H) (hl:vs.length=ps.length) (r:Vals vs us)
  (x:InCallC s s.heap.objs.size (bindL (envOfC qual scope s.heap.objs.size f cd).kindOf (ps.zip us) fun _=>none) (cellsFrom (s.heap.objs.size+1) scope.names []) (bindC (envOfC qual scope s.heap.objs.size f cd).kindOf (ps.zip us) fun _=>none) s1) :
  Inv (cxOf CX P w K mg base N qual scope f cd A outer s H E) [] (start N vs) H s1:=by
 have hpl:ps.length<=N.length:=by have:=congrArg List.length S.pre;rw[List.length_take] at this;omega
 obtain⟨h1,tk,rfl,hk⟩:=x.done
 have noA:∀b:Addr,b∉(cxOf CX P w K mg base N qual scope f cd A outer s H E).ex:=fun b z=>absurd (show b∈([]:List Addr) from z) (by simp)
 refine⟨⟨e0.mod,S.kind,rfl,rfl,Nat.le_refl _,fun y z c h1 h2=>?_,fun y hy=>?_,fun y c _ h=>?_,fun _=>hd,Around.frames_deeper e0.frames,.inr ⟨rfl,rfl⟩,fun b z=>absurd z (noA b),e0.bs,e0.bsz,fun b _ _=>noA b,fun b z=>absurd z (noA b),e0.funs,e0.frf⟩,
  rfl,e0.bare,Un.kept hk,⟨_,x.toInCall.ns,fun i y v h1 h2 h3=>?_⟩,fun y c h=>⟨_,x.cell y c h⟩,e0.hok.fresh (Nat.le_refl _),fun y c h=>?_,fun p hp=>absurd (show p∈([]:List (Addr × Obj)) from hp) (by simp),e0.hok.kept hk,?_⟩
 · exact name_of_addr x.apart (PySem.mem_of_lookup h1) (PySem.mem_of_lookup h2)
 · have hy:scope.names.lookup y=some .cell\/scope.names.lookup y=some .free:=hy
   rcases hy with hy|hy
   · exact zgn hy
   · exact absurd rfl (S.nofree _ (PySem.mem_of_lookup hy))
 · exact Nat.le_of_lt (x.above y c (PySem.mem_of_lookup h))
 · have hi:i<vs.length:=by
    unfold start at h2
    by_cases hi:i<vs.length
    · exact hi
    · rw[List.getElem?_append_right (by simpa using hi)] at h2
      rw[List.getElem?_replicate] at h2
      split at h2<;>cases h2
   have ha:vs[i]?=some v:=by
    unfold start at h2
    rw[List.getElem?_append_left (by simpa using hi),List.getElem?_map] at h2
    cases e:vs[i]? with
    |none=>rw[e] at h2;cases h2
    |some a=>rw[e] at h2;cases h2;rfl
   obtain⟨u,hu,rv⟩:=r.get ha
   have hp:ps[i]?=some y:=by
    rw[<-S.pre,List.getElem?_take_of_lt (by omega)];exact h1
   have ndP:ps.Nodup:=by rw[<-S.pre];exact S.nd.sublist (List.take_sublist _ _)
   refine⟨u,rv,?_⟩
   rcases S.par y (List.mem_of_getElem? hp) with k|k
   · exact .inl ⟨k,zfa ndP hp hu k⟩
   · obtain⟨c,e⟩:=zgn (n:=s.heap.objs.size+1) k
     refine .inr ⟨.inl k,c,e,?_⟩
     have q:=x.cell y c e
     rw[zfc ndP hp hu (by show scope.names.lookup y≠_;rw[k];decide)] at q
     exact q
 · exact e0.hok.fresh (Nat.le_of_lt (x.above y c (PySem.mem_of_lookup h)))
 · unfold start
   show _=N.length
   rw[List.length_append,List.length_map,List.length_replicate]
   omega
theorem zoL {CX:CXT}{P:Program}{w:World}{K:PySem.W.Frag}{mg:Str->Option Value}{base:Heap}{k:Nat}{f:Addr}{name qual:Str}{params:Arguments}{body:List Stmt}{scope:Scope}{dV kV doc pm cdv ct oc:Value}{an od:Option Addr}
  {osl:Array (Option Value)} {N ps:List Str} {sp:Sp} (lk:K.lookup f=some ⟨oc,od,.func (PySem.W.fnOf name qual params body scope dV kV doc pm an cdv ct),osl⟩) (hcd:PySem.W.codeIn K cdv qual=true) (S:FnScope N ps scope)
  (len:∀vs H Q E,sp vs H Q E->vs.length=ps.length)
  (hbody:∀(A:Around) (outer:List Env) (s:Shared) (H:Hp) (vs:List V) (Q:VK) (E:XK),Room k (A.deeper (envOfC qual scope s.heap.objs.size f cdv))->sp vs H Q E->
   ∃t,PSs (cxOf CX P w K mg base N qual scope f cdv A outer s H E) body t/\t {nx:=fun _ H'=>Q .non H',rt:=Q} (start N vs) H) :
  FnOk P w K mg base CX (k+1) f (PySem.W.fnOf name qual params body scope dV kV doc pm an cdv ct) ps sp:=by
 refine⟨len,fun A outer s H args us vs Q E hr e0 hb r hsp=>?_⟩
 have hl:=len _ _ _ _ hsp
 have KX:K.In s.heap:=e0.mod.kin.keeps fun b o e=>(e0.bs b o e).1
 have lim:s.heap.NoLimit:=e0.mod.nolimit.keeps fun b o e=>(e0.bs b o e).1
 have hkind:∀y∈ps.zip us,scope.names.lookup y.1=some .local\/(scope.names.lookup y.1=some .cell/\((cellsFrom (s.heap.objs.size+1) scope.names []).lookup y.1).isSome=true):=fun⟨n,v⟩ hy=>by
  rcases S.par n (List.of_mem_zip hy).1 with q|q
  · exact .inl q
  · exact .inr ⟨q,PySem.W.cellsFrom_some _ _ _ (.inl q)⟩
 refine codeAny_call_function hr.depth (KX _ _ lk) rfl S.co S.gen rfl (PySem.W.codeRec_of KX hcd) (hb _ _ _ _ ?_)
 refine wpAny_newFunctionEnv_cells S.kind hkind fun env he s1 x=>?_
 subst he
 refine⟨lim.keeps x.toInCall.keep,codeAny_func ?_⟩
 obtain⟨t,ht,hq⟩:=hbody A outer s H vs Q E (hr.deeper _) hsp
 have I:Inv (cxOf CX P w K mg base N qual scope f cdv A outer s H E) [] (start N vs) H s1:=zh2 S hr.hd e0 hl r x
 refine wpAny_mono (ht [] s1 (start N vs) H _ I hq) (fun fl s' hs=>?_) fun e s' hs=>hs
 have fin:∀{σ':St} {H':Hp} {v:V} {u:Value},Inv (cxOf CX P w K mg base N qual scope f cdv A outer s H E) [] σ' H' s'->RelV v u->Q v H'->CE outer P w H s Q u s':=
  fun {σ' H' v u} J rv q=>⟨v,H',J.os,J.bare,J.base,J.hok,rv,q⟩
 cases fl with
 | ret u =>
   obtain⟨v,σ',H',J,rv,q⟩:=hs
   exact fin J rv q
 | next =>
   obtain⟨σ',H',J,q⟩:=hs
   exact fin (v:=V.non) (u:=Value.none) J rfl q
 | brk =>
   obtain⟨_,_,_,q⟩:=hs
   exact False.elim q
 | cont =>
   obtain⟨_,_,_,q⟩:=hs
   exact False.elim q
end L2
namespace L2
open PySem PySem.Spec PyProof.Rows
section
variable {X:Cx} {x:Str} {p pos:Pos} {e:Expr} {es:List Expr} {t:TA} {id T:String} {r:List V->Hp->VK->Prop}
noncomputable def tCB (r:List V->Hp->VK->Prop)(t:TA):TE:=fun σ H Q=>t σ H fun vs H1=>r vs H1 Q
theorem zbp (hc:za7 X (.builtin id) r)(hg:Gl X x)(hm:X.mg x=none)(hv:bootBuiltins x=some (.builtin id))(ha:PA X (e::es) t)(hn:x≠"__name__":=by decide)(hdb:(x == ("__debug__":Str))=false:=by decide)
  (he:starEach (e::es) X.env=(false,eval e X.env)::starEach es X.env:=by rfl) (hpl:(backTo pos (starEach es X.env)).any (·.1)=false:=by rfl):PE X (.Call (.Name x p) (e::es) [] pos) (tCB r t):=by
 intro pins s σ H Q I h
 refine wpAny_Call_Name_kw (zeU I hg hm hv ?_ hn hdb)
 exact PyProof.Rows.callWith_builtin1 (thn (ha pos pins s σ H _ I h) fun us s1 ⟨vs,H1,I1,r1,q1⟩=>hc pins s1 σ H1 vs us Q I1 r1 q1) he hpl
theorem zbl (hc:za7 X (.type T) r)(hg:Gl X x)(hm:X.mg x=none)(hv:bootBuiltins x=some (.type T))(ha:PA X (e::es) t)(hn:x≠"__name__":=by decide)(hdb:(x == ("__debug__":Str))=false:=by decide)
  (he:starEach (e::es) X.env=(false,eval e X.env)::starEach es X.env:=by rfl) (hpl:(backTo pos (starEach es X.env)).any (·.1)=false:=by rfl):PE X (.Call (.Name x p) (e::es) [] pos) (tCB r t):=by
 intro pins s σ H Q I h
 refine wpAny_Call_Name_kw (zeU I hg hm hv ?_ hn hdb)
 exact PyProof.Rows.callWith_type1 (thn (ha pos pins s σ H _ I h) fun us s1 ⟨vs,H1,I1,r1,q1⟩=>hc pins s1 σ H1 vs us Q I1 r1 q1) he hpl
end
end L2
namespace L2
open PySem PySem.Spec PyProof.Rows
section
variable {κ:Type} [DecidableEq κ]
noncomputable def valV (kvs:List (κ × V))(k:κ):Option V:=(kvs.find? fun kv=>decide (kv.1=k)).map (·.2)
noncomputable def putK (kvs:List (κ × V))(k:κ)(v:V):List (κ × V):=
 if (kvs.any fun kv=>decide (kv.1=k))=true then kvs.map (fun kv=>if kv.1=k then (kv.1,v) else kv) else kvs++[(k,v)]
theorem zd0 {p:κ × V}{r:List (κ × V)}{k:κ}(e:p.1=k):valV (p::r) k=some p.2:=by simp[valV,List.find?_cons,e]
theorem zd1 {p:κ × V}{r:List (κ × V)}{k:κ}(e:¬p.1=k):valV (p::r) k=valV r k:=by simp[valV,List.find?_cons,e]
theorem zfL (k:κ):∀kvs:List (κ × V),(kvs.any fun kv=>decide (kv.1=k))=(valV kvs k).isSome
 | []=>rfl
 | p :: r => by
   rw[List.any_cons]
   by_cases e:p.1=k
   · simp only[zd0 e,decide_eq_true e,Bool.true_or,Option.isSome_some]
   · rw[zd1 e,decide_eq_false e,Bool.false_or];exact zfL k r
theorem zcf (kvs:List (κ × V))(k:κ)(v:V):(putK kvs k v).length<=kvs.length+1:=by
 unfold putK
 split
 · rw[List.length_map];omega
 · rw[List.length_append,List.length_cons,List.length_nil];omega
theorem RelO.isSome_eq {o:Option V}{u:Option Value}(r:RelO o u):o.isSome=u.isSome:=by
 cases o with
 | none => cases u with
   |none=>rfl
   |some _=>exact (show False from r).elim
 | some _ => cases u with
   |none=>exact (show False from r).elim
   |some _=>rfl
theorem RelO.getD {o:Option V}{u:Option Value}{d:V}{d':Value}(r:RelO o u)(rd:RelV d d'):RelV (o.getD d) (u.getD d'):=by
 cases o with
 | none => cases u with
   |none=>exact rd
   |some _=>exact (show False from r).elim
 | some _ => cases u with
   |none=>exact (show False from r).elim
   |some _=>exact r
theorem KV.val {kvs:List (κ × V)}{vs:List (κ × Value)}(r:KV kvs vs)(k:κ):RelO (valV kvs k) (valueAt vs k):=by
 unfold KV at r
 induction r with
 |nil=>exact True.intro
 | @cons p q ps qs h t ih =>
   obtain⟨h1,h2⟩:=h
   by_cases e:p.1=k
   · have e':q.1=k:=h1.symm.trans e
     have b:valueAt (q::qs) k=some q.2:=by simp[valueAt,List.find?_cons,e']
     rw[zd0 e,b];exact h2
   · have e':¬q.1=k:=fun z=>e (h1.trans z)
     have b:valueAt (q::qs) k=valueAt qs k:=by simp[valueAt,List.find?_cons,e']
     rw[zd1 e,b];exact ih
theorem KV.any {kvs:List (κ × V)}{vs:List (κ × Value)}(r:KV kvs vs)(k:κ):(kvs.any fun kv=>decide (kv.1=k))=vs.any fun kv=>decide (kv.1=k):=by
 unfold KV at r
 induction r with
 |nil=>rfl
 |cons h t ih=>rw[List.any_cons,List.any_cons,ih,h.1]
theorem KV.repl {kvs:List (κ × V)}{vs:List (κ × Value)}(r:KV kvs vs)(k:κ){y:V}{u:Value}(ry:RelV y u) :
  KV (kvs.map fun kv=>if kv.1=k then (kv.1,y) else kv) (vs.map fun kv=>if kv.1=k then (kv.1,u) else kv):=by
 unfold KV at r⊢
 induction r with
 |nil=>exact .nil
 | @cons p q ps qs h t ih =>
   rw[List.map_cons,List.map_cons]
   refine .cons ?_ ih
   obtain⟨h1,h2⟩:=h
   by_cases e:p.1=k
   · rw[if_pos e,if_pos (h1.symm.trans e)];exact⟨h1,ry⟩
   · rw[if_neg e,if_neg (fun z=>e (h1.trans z))];exact⟨h1,h2⟩
theorem KV.put {kvs:List (κ × V)}{vs:List (κ × Value)}(r:KV kvs vs)(k:κ){y:V}{u:Value}(ry:RelV y u):KV (putK kvs k y) (stored vs k u):=by
 unfold putK stored
 rw[r.any k]
 by_cases e:(vs.any fun kv=>decide (kv.1=k))=true
 · rw[if_pos e,if_pos e];exact r.repl k ry
 · rw[if_neg e,if_neg e];exact Paired.snoc r ⟨rfl,ry⟩
theorem KV.length {kvs:List (κ × V)}{vs:List (κ × Value)}(r:KV kvs vs):kvs.length=vs.length:=Paired.length r
end
theorem zhV {P:Program}{w:World}{k:Key}{u:Value}(r:RelV (kV k) u):(zaI P w).is k u=true:=by
 cases k with
 |inl i=>obtain⟨t,e⟩:=(show ∃t,u=Value.int i t from r);subst e;exact zfr P w i t
 |inr x=>obtain⟨t,e⟩:=(show ∃t,u=Value.str x t from r);subst e;exact zfq P w x t
theorem zeW {P:Program}{w:World}:∀{ks:List Key} {us:List Value},Vals (ks.map kV) us->ItemsAre (zaI P w) ks us
 | [],_,r=>by rw[List.map_nil] at r;cases r;exact .nil
 | k :: ks, _, r => by
   rw[List.map_cons] at r
   cases r with
   |cons h t=>exact .cons (zhV h) (zeW t)
noncomputable abbrev KT (H:Hp):List (List Key × V)->List (List Key × Addr × Value)->Prop:=Paired fun p q=>p.1=q.1/\H q.2.1=some (.tup (p.1.map kV))/\RelV p.2 q.2.2
theorem KT.val {H:Hp}{kvs:List (List Key × V)}{xs:List (List Key × Addr × Value)}(r:KT H kvs xs)(k:List Key):RelO (valV kvs k) ((atKey xs k).map (·.2)):=by
 induction r with
 |nil=>exact True.intro
 | @cons p q ps qs h t ih =>
   obtain⟨h1,_,h2⟩:=h
   by_cases e:p.1=k
   · have e':q.1=k:=h1.symm.trans e
     have b:atKey (q::qs) k=some q.2:=by simp[atKey,List.find?_cons,e']
     rw[zd0 e,b];exact h2
   · have e':¬q.1=k:=fun z=>e (h1.trans z)
     have b:atKey (q::qs) k=atKey qs k:=by simp[atKey,List.find?_cons,e']
     rw[zd1 e,b];exact ih
theorem KT.repl {H:Hp}{kvs:List (List Key × V)}{xs:List (List Key × Addr × Value)}(r:KT H kvs xs)(k:List Key){y:V}{u:Value}(ry:RelV y u) :
  KT H (kvs.map fun kv=>if kv.1=k then (kv.1,y) else kv) (xs.map (putAt k u)):=by
 induction r with
 |nil=>exact .nil
 | @cons p q ps qs h t ih =>
   rw[List.map_cons,List.map_cons]
   refine .cons ?_ ih
   obtain⟨h1,h2,h3⟩:=h
   unfold putAt
   by_cases e:p.1=k
   · rw[if_pos e,if_pos (h1.symm.trans e)];exact⟨h1,h2,ry⟩
   · rw[if_neg e,if_neg (fun z=>e (h1.trans z))];exact⟨h1,h2,h3⟩
theorem KT.put {H:Hp}{kvs:List (List Key × V)}{xs:List (List Key × Addr × Value)}(r:KT H kvs xs)(k:List Key){b:Addr}{y:V}{u:Value}(hb:H b=some (.tup (k.map kV)))(ry:RelV y u) :
  KT H (putK kvs k y) (storedH xs k b u):=by
 have e:(kvs.any fun kv=>decide (kv.1=k))=(atKey xs k).isSome:=by
  rw[zfL,(r.val k).isSome_eq,Option.isSome_map]
 unfold putK storedH
 rw[e]
 by_cases q:(atKey xs k).isSome=true
 · rw[if_pos q,if_pos q];exact r.repl k ry
 · rw[if_neg q,if_neg q];exact Paired.snoc r ⟨rfl,hb,ry⟩
theorem KT.keeps {H H':Hp}{kvs:List (List Key × V)}{xs:List (List Key × Addr × Value)}(r:KT H kvs xs)(ht:∀b ys,H b=some (.tup ys)->H' b=some (.tup ys)):KT H' kvs xs:=
 Paired.mapP r fun _ _ z=>⟨z.1,ht _ _ z.2.1,z.2.2⟩
section
variable {P:Program} {w:World} {H:Hp} {h:Heap} {a:Addr}
theorem zmz {u:HO}(ok:HOk P w H h)(e:Rd H a u):ObjOk P w H h a u:=e.ok ok
theorem zjx {kvs:List (Key × V)}(ok:HOk P w H h)(e:Rd H a (.dK kvs)):kvs.length<=sizeLine/\(a == sysModules)=false/\∃vs,KV kvs vs/\h.DictOf (zaI P w) a vs:=
 show ObjOk P w H h a (.dK kvs) from zmz ok e
theorem zlz {kvs:List (Key × V)}(ok:HOk P w H h)(e:H a=some (.dK kvs)):kvs.length<=sizeLine/\(a == sysModules)=false/\∃vs,KV kvs vs/\h.DictOf (zaI P w) a vs:=zjx ok (.inl e)
theorem zgb {ks:List Key}(ok:HOk P w H h)(e:H a=some (.tup (ks.map kV))):(tupleKind (zaI P w)).is h ks a:=by
 obtain⟨_,its,r,o,h1,h2,n,h3⟩:=(show ObjOk P w H h a (.tup (ks.map kV)) from ok a _ e)
 exact⟨o,its.toArray,n,h1,h2,h3,by simpa using zeW r⟩
theorem zlx {kvs:List (List Key × V)}(ok:HOk P w H h)(e:Rd H a (.dT kvs)):kvs.length<=sizeLine/\(a == sysModules)=false/\
  ∃xs,KT H kvs xs/\h.DictOfH (tupleKind (zaI P w)) a xs:=by
 obtain⟨z,y,xs,r,o,es,ep,h1,h2,h3,h4,h5⟩:=(show ObjOk P w H h a (.dT kvs) from zmz ok e)
 refine⟨z,y,xs,r,o,es,ep,h1,h2,h3,h4,fun x hx=>?_,h5⟩
 have all:∀{l:List (List Key × V)} {m:List (List Key × Addr × Value)},KT H l m->∀x∈m,(tupleKind (zaI P w)).is h x.1 x.2.1:=by
  intro l m q
  induction q with
  |nil=>intro x hx;exact nomatch hx
  | @cons p q ps qs hq t ih =>
    intro x hx
    rcases List.mem_cons.mp hx with e|hx
    · subst e
      exact zgb ok (by rw[<-hq.1];exact hq.2.1)
    · exact ih x hx
 exact all r x hx
theorem zgS {kvs:List (List Key × V)}(ok:HOk P w H h)(e:H a=some (.dT kvs)):kvs.length<=sizeLine/\(a == sysModules)=false/\
 ∃xs,KT H kvs xs/\h.DictOfH (tupleKind (zaI P w)) a xs:=zlx ok (.inl e)
end
noncomputable def DGet (H:Hp)(a:Addr)(y:V)(r:Option V):Prop:=
 (∃kvs k,Rd H a (.dK kvs)/\y=kV k/\r=valV kvs k)\/∃kvs k b,Rd H a (.dT kvs)/\y=.ref b/\H b=some (.tup (k.map kV))/\r=valV kvs k
noncomputable def DPut (H:Hp)(a:Addr)(y v:V)(H':Hp):Prop:=
 (∃kvs k,H a=some (.dK kvs)/\y=kV k/\kvs.length<sizeLine/\H'=upd H a (.dK (putK kvs k v)))\/
 ∃kvs k b,H a=some (.dT kvs)/\y=.ref b/\H b=some (.tup (k.map kV))/\kvs.length<sizeLine/\H'=upd H a (.dT (putK kvs k v))
theorem DGet.k {H:Hp}{a:Addr}{kvs:List (Key × V)}{k:Key}(e:H a=some (.dK kvs)):DGet H a (kV k) (valV kvs k):=.inl ⟨kvs,k,.inl e,rfl,rfl⟩
theorem DGet.t {H:Hp}{a b:Addr}{kvs:List (List Key × V)}{k:List Key}(e:H a=some (.dT kvs))(eb:H b=some (.tup (k.map kV))):DGet H a (.ref b) (valV kvs k):=.inr ⟨kvs,k,b,.inl e,rfl,eb,rfl⟩
theorem DPut.k {H:Hp}{a:Addr}{kvs:List (Key × V)}{k:Key}{v:V}(e:H a=some (.dK kvs))(hl:kvs.length<sizeLine):DPut H a (kV k) v (upd H a (.dK (putK kvs k v))):=.inl ⟨kvs,k,e,rfl,hl,rfl⟩
theorem DPut.t {H:Hp}{a b:Addr}{kvs:List (List Key × V)}{k:List Key}{v:V}(e:H a=some (.dT kvs))(eb:H b=some (.tup (k.map kV)))(hl:kvs.length<sizeLine) :
 DPut H a (.ref b) v (upd H a (.dT (putK kvs k v))):=.inr ⟨kvs,k,b,e,rfl,eb,hl,rfl⟩
section
variable {X:Cx} {pins:List (Addr × Obj)} {σ:St} {H:Hp} {s:Shared} {a:Addr} {y v:V} {u r:Value} {o:Option V} {A:Around} {E:Value->Shared->Prop}
theorem Inv.big (I:Inv X pins σ H s):sysModules<s.heap.objs.size:=by
 have h:mainGlobals<s.heap.objs.size:=(I.mod.glob.keeps I.bk).lt
 exact Nat.lt_trans (by decide) h
theorem d_in {Q:Value->Shared->Prop}(hu:A.units+1<cLine)(I:Inv X pins σ H s)(g:DGet H a y o)(ry:RelV y u)(h:∀s',Inv X pins σ H s'->Q (.bool o.isSome) s') :
  wpAny (model X.prog X.w) A (compareOp .In u (.ref a)) Q E s:=by
 rcases g with ⟨kvs,k,e,ey,l⟩|⟨kvs,k,b,e,ey,eb,l⟩
 · subst ey
   obtain⟨z,hd,vs,rel,dd⟩:=zjx I.hok e
   refine wpAny_in_of (zhV ry) hd dd.mapOf ?_
   rw[<-(rel.val k).isSome_eq,<-l]
   exact h _ (I.tok _)
 · subst ey
   cases (show u=Value.ref b from ry)
   obtain⟨z,hd,xs,rel,dd⟩:=zlx I.hok e
   refine wpAny_in_heap (tupleKind_room_in1 hu) (zgb I.hok eb) hd dd ?_
   have q:=(rel.val k).isSome_eq
   rw[Option.isSome_map] at q
   rw[<-q,<-l]
   exact h _ (I.tok _)
theorem zlB {Q:Value->Shared->Prop}(hu:A.units+1<cLine)(I:Inv X pins σ H s)(g:DGet H a y o)(ry:RelV y u)(h:∀s',Inv X pins σ H s'->Q (.bool (!o.isSome)) s') :
  wpAny (model X.prog X.w) A (compareOp .NotIn u (.ref a)) Q E s:=by
 rcases g with ⟨kvs,k,e,ey,l⟩|⟨kvs,k,b,e,ey,eb,l⟩
 · subst ey
   obtain⟨z,hd,vs,rel,dd⟩:=zjx I.hok e
   refine wpAny_notIn_of (zhV ry) hd dd.mapOf ?_
   rw[<-(rel.val k).isSome_eq,<-l]
   exact h _ (I.tok _)
 · subst ey
   cases (show u=Value.ref b from ry)
   obtain⟨z,hd,xs,rel,dd⟩:=zlx I.hok e
   refine wpAny_notIn_heap (tupleKind_room_in1 hu) (zgb I.hok eb) hd dd ?_
   have q:=(rel.val k).isSome_eq
   rw[Option.isSome_map] at q
   rw[<-q,<-l]
   exact h _ (I.tok _)
theorem zfz {h':Heap}{t':Nat}{ob:HO}(I:Inv X pins σ H s)(mu:Mut (H a))(hs:Heap.SameBut a s.heap h')(he:∃q,h'.get? a=some q)(new:ObjOk X.prog X.w (upd H a ob) h' a ob) :
  Inv X pins σ (upd H a ob) {s with heap:=h',toks:=t'}:=
 I.write (x:=a) (e:=a) mu (.inl rfl) (fun b q hb z=>(hs.2 b hb).trans z) he new
theorem zj4 {P:Program}{w:World}{H':Hp}{h':Heap}{kvs:List (Key × V)}{vs:List (Key × Value)}(z:kvs.length<=sizeLine)(hd:(a == sysModules)=false)(rel:KV kvs vs)(dd:h'.DictOf (zaI P w) a vs) :
 ObjOk P w H' h' a (.dK kvs):=⟨z,hd,vs,rel,dd⟩
theorem ziq {H':Hp}{Q:Unit->Shared->Prop}(hu:A.units+1<cLine)(I:Inv X pins σ H s)(g:DPut H a y v H')(ry:RelV y u)(rv:RelV v r)(h:∀s',Inv X pins σ H' s'->Q () s') :
  wpAny (model X.prog X.w) A (setItem (.ref a) u r) Q E s:=by
 rcases g with ⟨kvs,k,e,ey,l,eH⟩|⟨kvs,k,b,e,ey,eb,l,eH⟩
 · subst ey eH
   obtain⟨z,hd,vs,rel,dd⟩:=zlz I.hok e
   have hz:vs.length<=sizeLine:=by rw[<-rel.length];exact z
   have hl:(putK kvs k v).length<=sizeLine:=by have:=zcf kvs k v;omega
   refine wpAny_setItem_pairs (hsz:=hz) (zhV ry) dd fun h' dd' hs=>h _ ?_
   have he:∃q,h'.get? a=some q:=let ⟨q,_,_,hq,_⟩:=dd';⟨q,hq⟩
   exact zfz I (by rw[e];exact True.intro) hs he (zj4 hl hd (rel.put k rv) dd')
 · subst ey eH
   cases (show u=Value.ref b from ry)
   obtain⟨z,hd,xs,rel,dd⟩:=zgS I.hok e
   have hz:xs.length<=sizeLine:=by rw[<-Paired.length rel];exact z
   have hl:(putK kvs k v).length<=sizeLine:=by have:=zcf kvs k v;omega
   refine wpAny_setItem_heap (hsz:=hz) (tupleKind_room_in1 hu) (zgb I.hok eb) dd fun h' dd' hs=>h _ ?_
   obtain⟨q,es,ep,hq,h2,h3,h4,_,h5⟩:=dd'
   refine zfz I (by rw[e];exact True.intro) hs ⟨q,hq⟩ ⟨hl,hd,_,(rel.put k eb rv).keeps fun c ys ec=>?_,q,es,ep,hq,h2,h3,h4,h5⟩
   rw[zap (ne_of ec e (fun z=>nomatch z))]
   exact ec
end
section
variable {X:Cx} {pins:List (Addr × Obj)} {σ:St} {H:Hp} {s:Shared} {a:Addr} {kvs:List (Key × V)} {k:Key} {u:Value} {A:Around} {E:Value->Shared->Prop}
theorem zoP {Q:Value->Shared->Prop}(I:Inv X pins σ H s)(e:Rd H a (.dK kvs))(h:∀t s',Inv X pins σ H s'->Q (.int kvs.length t) s'):wpAny (model X.prog X.w) A (call (.builtin "len") [.ref a]) Q E s:=by
 obtain⟨z,hd,vs,rel,dd⟩:=zjx I.hok e
 refine call_len_dict hd dd (by rw[<-rel.length];rw[sizeLine_eq] at z;omega) ?_
 rw[<-rel.length]
 exact h _ _ (I.tok _)
end
noncomputable def zoi (td ty tv:TE):TS:=fun D σ H=>tv σ H fun v H1=>td σ H1 fun x H2=>ty σ H2 fun y H3=>∃a H4,x=.ref a/\DPut H3 a y v H4/\D.nx σ H4
section
variable {X:Cx} {o i e value:Expr} {pos pos' tpos:Pos} {td ty tv:TE}
theorem zkT (hu:X.A.units+1<cLine)(ho:PE X o td)(hi:PE X i ty)(hv:PE X value tv)(hs:swapsWith value (some (.Subscript o i pos')) pos.line X.env=pure false) :
  PS X (.Assign [.Subscript o i pos'] value pos) (zoi td ty tv):=by
 intro pins s σ H D I h
 refine wpAny_Assign_Subscript (thn (hv pins s σ H _ I h) fun r s1 ⟨v,H1,I1,rv,q1⟩=>thn (ho pins s1 σ H1 _ I1 q1) fun u s2 ⟨x,H2,I2,rx,q2⟩=>thn (hi pins s2 σ H2 _ I2 q2) fun iv s3 ⟨y,H3,I3,ry,a,H4,ex,g,q3⟩=>?_) hs
 subst ex
 obtain rfl:u=Value.ref a:=rx
 exact ziq hu I3 g ry rv fun s4 I4=>⟨σ,H4,I4,q3⟩
end
theorem zgj {P:Program}{w:World}{H:Hp}(h:Heap)(hb:sysModules<h.objs.size):ObjOk P w H (h.push {cls:=.type "dict",data:=.dict #[]}) h.objs.size (.dK []):=
 ⟨Nat.zero_le _,beq_eq_false_iff_ne.mpr (Ne.symm (Nat.ne_of_lt hb)),[],.nil,Heap.DictOf.new h⟩
theorem zjw {P:Program}{w:World}{H:Hp}(h:Heap)(hb:sysModules<h.objs.size):ObjOk P w H (h.push {cls:=.type "dict",data:=.dict #[]}) h.objs.size (.dT []):=
 ⟨Nat.zero_le _,beq_eq_false_iff_ne.mpr (Ne.symm (Nat.ne_of_lt hb)),[],.nil,_,#[],0,Heap.get?_push_size _ rfl,⟨rfl,rfl,rfl⟩,rfl,rfl,List.nodup_nil⟩
noncomputable def zl4:TE:=fun _ H Q=>∀p,H p=none->Q (.ref p) (upd H p (.dK []))
noncomputable def zl3:TE:=fun _ H Q=>∀p,H p=none->Q (.ref p) (upd H p (.dT []))
section
variable {X:Cx} {pos:Pos}
theorem zjb:PE X (.Dict [] [] pos) zl4:=fun pins s σ H Q I h=>
 wpAny_Dict_empty ⟨.ref s.heap.objs.size,_,I.laid (a:=s.heap.objs.size) (o:=.dK []) (t':=s.toks) (fun _ _ q=>Heap.get?_push_of_some _ q) (Nat.le_refl _) (zgj s.heap I.big),rfl,h _ (I.hok.fresh (Nat.le_refl _))⟩
theorem zja:PE X (.Dict [] [] pos) zl3:=fun pins s σ H Q I h=>
 wpAny_Dict_empty ⟨.ref s.heap.objs.size,_,I.laid (a:=s.heap.objs.size) (o:=.dT []) (t':=s.toks) (fun _ _ q=>Heap.get?_push_of_some _ q) (Nat.le_refl _) (zjw s.heap I.big),rfl,h _ (I.hok.fresh (Nat.le_refl _))⟩
end
noncomputable def zhe:List (TE × TE)->St->Hp->(List (V × V)->Hp->Prop)->Prop
 | [],_,H,Q=>Q [] H
 |(tk,tv)::r,σ,H,Q=>tk σ H fun x H1=>tv σ H1 fun y H2=>zhe r σ H2 fun ps H3=>Q ((x,y)::ps) H3
noncomputable abbrev VV:List (V × V)->List (Value × Value)->Prop:=Paired fun p q=>RelV p.1 q.1/\RelV p.2 q.2
noncomputable def PPs (X:Cx)(pos:Pos)(keys:List (Option Expr))(values:List Expr)(trs:List (TE × TE)):Prop:=
 ∀(pins:List (Addr × Obj)) (s:Shared) (σ:St) (H:Hp) (Q:List (V × V)->Hp->Prop),Inv X pins σ H s->zhe trs σ H Q->
  wpAny (model X.prog X.w) X.A (evalPairs (pairTrees keys values X.env pos)) (fun vs s'=>∃ps H',Inv X pins σ H' s'/\VV ps vs/\Q ps H') X.xe s
theorem zkW {X:Cx}{pos:Pos}:PPs X pos [] [] []:=fun pins s σ H Q I h=>pairTrees_nil_walk ⟨[],H,I,.nil,h⟩
theorem zi0 {X:Cx}{pos:Pos}{k v:Expr}{ks:List (Option Expr)}{vs:List Expr}{tk tv:TE}{trs:List (TE × TE)}(hk:PE X k tk)(hv:PE X v tv)(hr:PPs X pos ks vs trs) :
  PPs X pos (some k::ks) (v::vs) ((tk,tv)::trs):=fun pins s σ H Q I h=>
 pairTrees_cons_walk (thn (hk pins s σ H _ I h) fun u s1 ⟨x,H1,I1,rx,q1⟩=>thn (hv pins s1 σ H1 _ I1 q1) fun w2 s2 ⟨y,H2,I2,ry,q2⟩=>
  thn (hr pins s2 σ H2 _ I2 q2) fun ws s3 ⟨ps,H3,I3,rel,q3⟩=>⟨(x,y)::ps,H3,I3,.cons ⟨rx,ry⟩ rel,q3⟩)
noncomputable def zcQ (kvs more:List (Key × V)):List (Key × V):=more.foldl (fun acc kv=>putK acc kv.1 kv.2) kvs
theorem KV.merge:∀{more:List (Key × V)} {rs:List (Key × Value)} {kvs:List (Key × V)} {vs:List (Key × Value)},KV more rs->KV kvs vs->KV (zcQ kvs more) (merged vs rs):=by
 intro more rs kvs vs r
 unfold KV at r
 induction r generalizing kvs vs with
 |nil=>intro q;exact q
 | @cons p q ps qs h t ih =>
   intro r0
   have e:KV (putK kvs p.1 p.2) (stored vs q.1 q.2):=by
    have:=r0.put p.1 h.2
    rw[<-h.1];exact this
   exact ih e
theorem zcs:∀(more kvs:List (Key × V)),(zcQ kvs more).length<=kvs.length+more.length
 | [],kvs=>by show kvs.length<=kvs.length+0;omega
 | p :: r, kvs => by
   have h1:=zcs r (putK kvs p.1 p.2)
   have h2:=zcf kvs p.1 p.2
   show (zcQ (putK kvs p.1 p.2) r).length<=_
   rw[List.length_cons];omega
theorem zdX {P:Program}{w:World}:∀{kvs:List (Key × V)} {ws:List (Value × Value)},VV (kvs.map fun kv=>(kV kv.1,kv.2)) ws->∃rs,Carries (zaI P w) ws rs/\KV kvs rs
 | [],_,r=>by rw[List.map_nil] at r;cases r;exact⟨[],True.intro,.nil⟩
 | p :: kvs, _, r => by
   rw[List.map_cons] at r
   cases r with
   | @cons a b as bs h t =>
     obtain⟨rs,c,q⟩:=zdX (P:=P) (w:=w) t
     obtain⟨b1,b2⟩:=b
     exact⟨(p.1,b2)::rs,⟨zhV h.1,rfl,c⟩,.cons ⟨rfl,h.2⟩ q⟩
noncomputable def zn6 (trs:List (TE × TE)):TE:=fun σ H Q=>∀p,H p=none->zhe trs σ (upd H p (.dK [])) fun ps H2=>H2 p=some (.dK [])/\∃kvs:List (Key × V),ps=kvs.map (fun kv=>(kV kv.1,kv.2))/\kvs.length<=15/\Q (.ref p) (upd H2 p (.dK (zcQ [] kvs)))
theorem zk1 {X:Cx}{pos:Pos}{keys:List (Option Expr)}{values:List Expr}{trs:List (TE × TE)}(h:PPs X pos keys values trs)(hall:keys.all (·.isSome)=true)(hl:keys.length=values.length)(h0:keys≠[])
  (h15:keys.length<=15):PE X (.Dict keys values pos) (zn6 trs):=by
 intro pins s σ H Q I q
 have hn:=I.hok.fresh (Nat.le_refl s.heap.objs.size)
 have I1:=I.laid (a:=s.heap.objs.size) (o:=.dK []) (h':=s.heap.push {cls:=.type "dict",data:=.dict #[]}) (t':=s.toks) (fun _ _ q=>Heap.get?_push_of_some _ q) (Nat.le_refl _) (zgj s.heap I.big)
 refine wpAny_Dict_walk (knd:=zaI X.prog X.w) hall hl h0 h15 (thn (h pins _ σ _ _ I1 (q _ hn)) fun ws s2 ⟨ps,H2,I2,rel,e,kvs,ep,lk,q2⟩=>?_)
 subst ep
 obtain⟨rs,c,rk⟩:=zdX (P:=X.prog) (w:=X.w) rel
 obtain⟨z,hd,vs0,r0,dd⟩:=zlz I2.hok e
 cases r0
 refine⟨rs,c,dd,fun h' dd' hs=>⟨.ref s.heap.objs.size,_,?_,rfl,q2⟩⟩
 have hz:(zcQ [] kvs).length<=sizeLine:=by
  have h1:=zcs kvs []
  rw[List.length_nil] at h1
  rw[sizeLine_eq];omega
 have he:∃q,h'.get? s.heap.objs.size=some q:=let ⟨q,_,_,hq,_⟩:=dd';⟨q,hq⟩
 exact zfz I2 (by rw[e];exact True.intro) hs he (zj4 hz hd (rk.merge .nil) dd')
structure M1 (X:Cx) (o:Expr) (m:Str) (apos:Pos) (e:Expr) (cpos:Pos):Prop where
 base:attributeBase o m X.env (eval o X.env)=eval o X.env
 few:((backTo cpos (starEach [e] X.env)).all (fun x=>!x.1)&&(backToKw cpos (keywordEach [] X.env)).all (fun x=>x.1.isSome)
  && decide (([e]:List Expr).length+([]:List Keyword).length+(if ([]:List Keyword).isEmpty then 0 else 1)<30))=true
 line:(apos.endLine == cpos.line)=true
 trees:backTo cpos (starEach [e] X.env)=[(false,eval e X.env)]
structure M2 (X:Cx) (o:Expr) (m:Str) (apos:Pos) (e f:Expr) (cpos:Pos):Prop where
 base:attributeBase o m X.env (eval o X.env)=eval o X.env
 few:((backTo cpos (starEach [e,f] X.env)).all (fun x=>!x.1)&&(backToKw cpos (keywordEach [] X.env)).all (fun x=>x.1.isSome)
  && decide (([e,f]:List Expr).length+([]:List Keyword).length+(if ([]:List Keyword).isEmpty then 0 else 1)<30))=true
 line:(apos.endLine == cpos.line)=true
 trees:backTo cpos (starEach [e,f] X.env)=[(false,eval e X.env),(false,eval f X.env)]
section
variable {X:Cx} {pins:List (Addr × Obj)} {σ:St} {H:Hp} {s:Shared} {a:Addr} {y d:V} {u r:Value} {o:Option V} {A:Around} {E:Value->Shared->Prop}
end
section
variable {X:Cx} {o e f:Expr} {apos cpos:Pos} {td ty tx:TE}
end
section
variable {X:Cx} {pins:List (Addr × Obj)} {σ:St} {H:Hp} {s:Shared} {a:Addr} {kvs:List (Key × V)} {A:Around} {E:Value->Shared->Prop}
end
section
variable {X:Cx} {pins:List (Addr × Obj)} {σ:St} {H:Hp} {s:Shared} {a:Addr} {y:V} {u:Value} {A:Around} {E:Value->Shared->Prop}
end
end L2
namespace HT
open PySem PyProof.Rows
noncomputable def lexLt:List Int->List Int->Bool
 | [],[]=>false
 | [],_::_=>true
 |_::_,[]=>false
 |x::xs,y::ys=>if x=y then lexLt xs ys else decide (x<y)
theorem zgN (x y:Int)(xs ys:List Int):lexLt (x::xs) (y::ys)=if x=y then lexLt xs ys else decide (x<y):=rfl
theorem zeh:lexLt [] []=false:=rfl
theorem zdC (y:Int)(ys:List Int):lexLt [] (y::ys)=true:=rfl
theorem zdD (x:Int)(xs:List Int):lexLt (x::xs) []=false:=rfl
theorem zjv (A:Around)(s:Shared)(a:Int)(t:Tok)(c:Int)(u:Tok):∃e,SeqAt.EqAt A s (.int a t) (.int c u) e/\(e=true↔a=c):=
 ⟨(a == c),SeqAt.EqAt.int_int a t c u,by simp⟩
theorem ziY (A:Around)(s:Shared)(a:Int)(t:Tok)(c:Int)(u:Tok)(prog:Program)(w:World)(E:Value->Shared->Prop)(Q:Value->Shared->Prop)(h:Q (.bool (decide (a<c))) s) :
  wpAny (model prog w) A (richCompare .Lt (.int a t) (.int c u)) Q E s:=
 (PyProof.Rows.lt_int h:wpAny (model prog w) A (compareOp .Lt (.int a t) (.int c u)) Q E s)
section
open PySem.SeqAt
open PySem.AutoSeq1 (wpAny_loadPart')
open PySem.MeetsSeq PySem.MeetsSeq2 PySem.MeetsSeq3
theorem zd3 (l b:Addr)(items items2:Array Value)(n n2:Nat)(dd dd2:Option Addr)(sl sl2:Array (Option Value))(ns ms:List Int)(hi:IntsAre items.toList ns)(hj:IntsAre items2.toList ms) :
  Meets (Builtin.«tuple.__lt__» ⟨[.ref l,.ref b],[]⟩)
   (fun _ R s=>s.heap.get? l=some {cls:=.type "tuple",dict:=dd,data:=.seq items n,slots:=sl}/\s.heap.get? b=some {cls:=.type "tuple",dict:=dd2,data:=.seq items2 n2,slots:=sl2}/\
    R (.ok (.ret (.bool (lexLt ns ms)))) s):=
 .of_wp fun prog w A R s h=>by
  obtain⟨hp,g,d,tk,os⟩:=s;obtain⟨hl,hb,h⟩:=h
  have f2:=AutoSeq1.sub_tuple_tuple
  have z1:items.size=ns.length:=by rw[<-hi.length];simp
  have z2:items2.size=ms.length:=by rw[<-hj.length];simp
  wp_walk using wpAny_loadPart' hl,wpAny_loadPart' hb,wpAny_forIn_list _ (fun rest b s'=>b.1=none/\s'=⟨hp,g,d,tk,os⟩/\∃(vs ws:List Value) (ns' ms':List Int),rest=vs.zip ws/\
   IntsAre vs ns'/\IntsAre ws ms'/\ns'.length+items2.size=ms'.length+items.size/\R (.ok (.ret (.bool (lexLt ns' ms')))) ⟨hp,g,d,tk,os⟩) _
  case turn=>
   rintro⟨y,x⟩ rest b s' ⟨hb',rfl,vs,ws,ns',ms',hz,hvi,hwi,hlen,hR⟩
   cases hvi with
   |nil=>rw[List.zip_nil_left] at hz;cases hz
   | cons a t hvi' =>
     cases hwi with
     |nil=>rw[List.zip_nil_right] at hz;cases hz
     | cons c u hwi' =>
       rw[List.zip_cons_cons] at hz
       injection hz with hyx hrest
       injection hyx with hy hx
       subst hy hx
       rw[zgN] at hR
       simp only[List.length_cons] at hlen
       obtain⟨e,he,hiff⟩:=zjv A.in1 ⟨hp,g,d,tk,os⟩ a t c u
       refine wpAny_bind (he prog w _ _ ?_)
       cases e with
       | true =>
         rw[if_pos (hiff.mp rfl)] at hR
         wp_walk
         exact⟨rfl,rfl,_,_,_,_,hrest,hvi',hwi',by omega,hR⟩
       | false =>
         rw[if_neg (fun q=>absurd (hiff.mpr q) Bool.false_ne_true)] at hR
         have hri:=ziY A.in1 ⟨hp,g,d,tk,os⟩ a t c u prog w
         wp_walk using hri
         exact⟨_,rfl,by simpa using hR⟩
  case fin=>
   rintro⟨b1,b2⟩ s' ⟨hb',rfl,vs,ws,ns',ms',hz,hvi,hwi,hlen,hR⟩
   simp only at hb'
   subst hb'
   have hv:lexLt ns' ms'=decide (items.size<items2.size):=by
    cases hvi with
    | nil =>
      cases hwi with
      | nil =>
        simp only[List.length_nil] at hlen
        rw[zeh]
        exact (decide_eq_false (by omega)).symm
      | cons c u hw =>
        simp only[List.length_nil,List.length_cons] at hlen
        rw[zdC]
        exact (decide_eq_true (by omega)).symm
    | cons a t hv =>
      cases hwi with
      | nil =>
        simp only[List.length_nil,List.length_cons] at hlen
        rw[zdD]
        exact (decide_eq_false (by omega)).symm
      | cons c u hw =>
        rw[List.zip_cons_cons] at hz
        cases hz
   rw[hv] at hR
   wp_walk
   exact⟨_,rfl,by simpa[Builtin.Tuple.tupleCompareSizes] using hR⟩
  case h=>
   exact⟨rfl,rfl,items.toList,items2.toList,ns,ms,rfl,hi,hj,by omega,h⟩
end
section
variable {prog:Program} {w:World} {A:Around} {E:Value->Shared->Prop} {s:Shared}
theorem lt_tupInts {l b:Addr}{items items2:Array Value}{ns ms:List Int}{Q:Value->Shared->Prop}(hl:IsTup s.heap l items)(hb:IsTup s.heap b items2)(hi:IntsAre items.toList ns)(hj:IntsAre items2.toList ms)
  (hu:A.units<cLine) (h:Q (.bool (lexLt ns ms)) s):wpAny (model prog w) A (compareOp .Lt (.ref l) (.ref b)) Q E s:=by
 obtain⟨⟨cls,dd,data,sl⟩,ho,hc,n,hd⟩:=id hl
 obtain⟨⟨cls2,dd2,data2,sl2⟩,ho2,hc2,n2,hd2⟩:=id hb
 simp only at hc hd hc2 hd2
 subst hc hd hc2 hd2
 exact richCompare_meets_room (op:=.Lt) ⟨_,ho,rfl⟩ ⟨_,ho2,rfl⟩ PySem.F.slot_tuple_lt PySem.F.entry_tuple_lt (PySem.F.args_tuple_lt_2 _ _) (zd3 l b items items2 n n2 dd dd2 sl sl2 ns ms hi hj)
  ⟨ho,ho2,show Value.bool (lexLt ns ms)≠Value.notImplemented/\Q (.bool (lexLt ns ms)) s from⟨(fun x=>nomatch x),h⟩⟩ hu
theorem cat_tup {t b:Addr}{vs ws:List Value}{Q:Value->Shared->Prop}(ht:IsTup s.heap t vs.toArray)(hb:IsTup s.heap b ws.toArray)(hv:vs≠[])
  (h1:ws=[]->Q (.ref t) s) (h2:ws≠[]->Q (.ref s.heap.objs.size) {s with heap:=s.heap.push {cls:=.type "tuple",data:=.seq (vs++ws).toArray}})
  (hsz:vs.length+ws.length<=sizeLine):wpAny (model prog w) A (binaryOp .Add (.ref t) (.ref b)) Q E s:=by
 obtain⟨⟨cls,dd,data,sl⟩,ho,hc,n,hd⟩:=id ht
 obtain⟨⟨cls2,dd2,data2,sl2⟩,ho2,hc2,n2,hd2⟩:=id hb
 simp only at hc hd hc2 hd2
 subst hc hd hc2 hd2
 have e:vs.toArray++ws.toArray=(vs++ws).toArray:=by simp
 by_cases hw:ws=[]
 · exact concat_meets ⟨_,ho,rfl⟩ ⟨_,ho2,rfl⟩ noFill_tuple_add seq_tuple_add PySem.F.slot_tuple_add PySem.F.entry_tuple_add (PySem.F.args_tuple_add_2 _ _)
    (tuple_addW1 t b vs.toArray ws.toArray n n2 dd dd2 sl sl2 (by simpa using hv) (by simp[hw])) ⟨ho,ho2,h1 hw⟩
 · refine concat_meets ⟨_,ho,rfl⟩ ⟨_,ho2,rfl⟩ noFill_tuple_add seq_tuple_add PySem.F.slot_tuple_add PySem.F.entry_tuple_add (PySem.F.args_tuple_add_2 _ _)
    (tuple_addW2 t b vs.toArray ws.toArray n n2 dd dd2 sl sl2 (by simpa using hv) (by simpa using hw) (by rw[List.size_toArray,List.size_toArray];exact hsz)) ⟨ho,ho2,?_⟩
   rw[e]
   exact h2 hw
noncomputable def sIx (n d:Nat):Option Int->Nat
 |none=>d
 |some v=>if v<0 then (v+(n:Int)).toNat else min v.toNat n
theorem zmy (n d:Nat)(hd:d<=n)(o:Option Int):sIx n d o<=n:=by
 cases o with
 |none=>exact hd
 | some v =>
   show (if v<0 then (v+(n:Int)).toNat else min v.toNat n)<=n
   by_cases hv:v<0
   · rw[if_pos hv];omega
   · rw[if_neg hv];exact Nat.min_le_right _ _
theorem zit (v:Int)(n d:Nat):(if v<0 then max (v+(n:Int)) 0 else min v (n:Int))=((sIx n d (some v):Nat):Int):=by
 show (if v<0 then max (v+(n:Int)) 0 else min v (n:Int))=(((if v<0 then (v+(n:Int)).toNat else min v.toNat n):Nat):Int)
 by_cases hv:v<0
 · simp only[if_pos hv];omega
 · simp only[if_neg hv];omega
theorem zg2 (lo hi:Option Int)(n:Nat):Builtin.Slice.sliceAdjust lo hi 1 (n:Int)=(((sIx n 0 lo:Nat):Int),((sIx n n hi:Nat):Int)):=by
 have h1:¬((1:Int)<0):=by omega
 unfold Builtin.Slice.sliceAdjust
 simp only[h1,if_false]
 refine Prod.ext ?_ ?_
 · cases lo with
   |none=>rfl
   |some v=>exact zit v n 0
 · cases hi with
   |none=>rfl
   |some v=>exact zit v n n
theorem zgH (i j:Nat):Builtin.Slice.slicePlaces (i:Int) (j:Int) 1=j - i:=by
 unfold Builtin.Slice.slicePlaces
 have h1:(1:Int) > 0:=by omega
 simp only[h1,if_true,Int.ediv_one]
 split<;>omega
theorem zdL {v:Value}{o:Option Int}{Q:Option Int->Shared->Prop}(p:IsPart v o)(h:Q o s):wpAny (model prog w) A (Builtin.Slice.slicePartIndex v) Q E s:=by
 cases p with
 |none=>exact slicePart_none h
 |int i t=>exact slicePart_int h
theorem sliceApplied_gen {sl:Addr}{vl vu:Value}{lo hi:Option Int}{n:Nat}{Q:Int × Int × Nat->Shared->Prop}(hs:s.heap.IsSliceOf sl vl vu .none)(pl:IsPart vl lo)(pu:IsPart vu hi)
  (h:Q (((sIx n 0 lo:Nat):Int),1,sIx n n hi - sIx n 0 lo) s):wpAny (model prog w) A (Builtin.Slice.sliceApplied (.ref sl) (pure (n:Int))) Q E s:=by
 obtain⟨os,hos,hcs,hds⟩:=id hs
 unfold Builtin.Slice.sliceApplied Builtin.Slice.sliceFields
 refine wpAny_bind (wpAny_bind (wpAny_field hos hds (x:=vl) rfl (wpAny_bind (wpAny_field hos hds (x:=vu) rfl (wpAny_bind (wpAny_field hos hds (x:=.none) rfl (wpAny_pure ?_)))))))
 refine wpAny_bind (slicePart_none ?_)
 show wpAny _ _ (if ((1:Int) == 0)=true then _ else _) _ _ s
 rw[if_neg (by decide)]
 refine wpAny_bind (zdL pl (wpAny_bind (zdL pu (wpAny_bind (wpAny_pure ?_)))))
 show wpAny _ _ (match Builtin.Slice.sliceAdjust lo hi 1 (n:Int) with|(lo,hi)=>pure (lo,(1:Int),Builtin.Slice.slicePlaces lo hi 1)) _ _ s
 rw[zg2 lo hi n]
 show wpAny _ _ (pure (((sIx n 0 lo:Nat):Int),(1:Int),Builtin.Slice.slicePlaces ((sIx n 0 lo:Nat):Int) ((sIx n n hi:Nat):Int) 1)) _ _ s
 rw[zgH]
 exact wpAny_pure h
theorem zi2 (xs:Array Value)(i k:Nat):((List.range k).filterMap fun (m:Nat)=>xs[((i:Int)+(m:Int) * 1).toNat]?).toArray=((xs.toList.drop i).take k).toArray:=by
 have e:(fun (m:Nat)=>xs[((i:Int)+(m:Int) * 1).toNat]?)=fun m=>xs[i+m]?:=by
  funext m
  have:((i:Int)+(m:Int) * 1).toNat=i+m:=by omega
  rw[this]
 rw[e]
 have:=pick_run xs i k
 rw[List.filterMap_map] at this
 have e2:((fun x=>xs[x]?)∘fun x=>i+x)=fun m=>xs[i+m]?:=rfl
 rw[e2] at this
 rw[this]
theorem getItem_tuple_cut {t sl:Addr}{items:Array Value}{vl vu:Value}{lo hi:Option Int}{Q:Value->Shared->Prop}(ht:IsTup s.heap t items)(hs:s.heap.IsSliceOf sl vl vu .none)(pl:IsPart vl lo)(pu:IsPart vu hi)
  (hw:¬(sIx items.size 0 lo=0/\sIx items.size items.size hi=items.size))
  (h:Q (.ref s.heap.objs.size) {s with heap:=s.heap.push {cls:=.type "tuple",data:=.seq ((items.toList.drop (sIx items.size 0 lo)).take (sIx items.size items.size hi - sIx items.size 0 lo)).toArray}})
  (hsz:items.size<=sizeLine):wpAny (model prog w) A (getItem (.ref t) (.ref sl)) Q E s:=by
 have htake:sizeOk (.seq ((items.toList.drop (sIx items.size 0 lo)).take (sIx items.size items.size hi - sIx items.size 0 lo)).toArray):=by
  show ((items.toList.drop (sIx items.size 0 lo)).take (sIx items.size items.size hi - sIx items.size 0 lo)).toArray.size<=sizeLine
  rw[List.size_toArray,List.length_take,List.length_drop,Array.length_toList]
  omega
 have hj:sIx items.size items.size hi<=items.size:=zmy _ _ (Nat.le_refl _) hi
 obtain⟨os,hos,hcs,hds⟩:=id hs
 have hTs:s.TypeIs (.ref sl) "slice":=⟨os,hos,hcs⟩
 unfold getItem
 try with_reducible refine wpAny_holding ?_
 first|refine wpAny_bind (wpAny_pure ?_)|skip
 refine wpAny_bind (wpAny_sequenceKey ht.typeIs (by decide) ?_)
 refine wpAny_bind (wpAny_callSpecial?_slot (name:=Str.ofString "__getitem__") ht.typeIs PyProof.Rows.slot_tuple_getitem
  (wpAny_call_entry PyProof.Rows.slot_tuple_getitem ht.typeIs entry_tuple_getitem ?_ (args_tuple_getitem _ _)))
 show wpAny _ _ (Builtin.Tuple.tupleItemsOf (.ref t) >>= _) _ _ s
 refine wpAny_bind (tupleItemsOf_ ht ?_)
 refine wpAny_bind (wpAny_typeOf hTs ?_)
 rw[if_pos (by decide)]
 refine wpAny_bind (sliceApplied_gen hs pl pu ?_)
 have hno:¬((((sIx items.size 0 lo:Nat):Int) == 0&&(1:Int) == 1&&(sIx items.size items.size hi - sIx items.size 0 lo) == items.size)=true):=by
  intro q
  rw[Bool.and_eq_true,Bool.and_eq_true] at q
  have q1:((sIx items.size 0 lo:Nat):Int)=0:=eq_of_beq q.1.1
  have q2:sIx items.size items.size hi - sIx items.size 0 lo=items.size:=eq_of_beq q.2
  exact hw ⟨by omega,by omega⟩
 show wpAny _ _ (if (((sIx items.size 0 lo:Nat):Int) == 0&&(1:Int) == 1&&(sIx items.size items.size hi - sIx items.size 0 lo) == items.size)=true then _ else _) _ _ s
 rw[if_neg hno,zi2]
 first
  |exact wpAny_bind (m:=Builtin.Tuple.tupleExact _) (wpAny_newObj_type (wpAny_pure ⟨_,rfl,wpAny_pure h⟩) htake)
  |exact wpAny_bind (m:=Builtin.Tuple.tupleExact _) (wpAny_newObj_type (wpAny_bind (wpAny_pure (wpAny_pure ⟨_,rfl,wpAny_pure h⟩))) htake)
  |exact wpAny_bind (wpAny_bind (m:=Builtin.Tuple.tupleExact _) (wpAny_newObj_type (wpAny_pure (wpAny_pure ⟨_,rfl,wpAny_pure h⟩)) htake))
  |exact wpAny_bind (wpAny_bind (m:=Builtin.Tuple.tupleExact _) (wpAny_newObj_type (wpAny_pure ⟨_,rfl,wpAny_pure h⟩) htake))
end
end HT
namespace L2
open PySem PySem.Spec PyProof.Rows
noncomputable abbrev TO:=St->Hp->(Option Int->Hp->Prop)->Prop
noncomputable def PO (X:Cx)(e:Option Expr)(t:TO):Prop:=
 ∀(pins:List (Addr × Obj)) (s:Shared) (σ:St) (H:Hp) (Q:Option Int->Hp->Prop),Inv X pins σ H s->t σ H Q->
  wpAny (model X.prog X.w) X.A (evalPart e X.env) (fun u s'=>∃o H',Inv X pins σ H' s'/\IsPart u o/\Q o H') X.xe s
noncomputable def zkh:TO:=fun _ H Q=>Q none H
noncomputable def zn2 (t:TE):TO:=fun σ H Q=>t σ H fun x H1=>∃i,x=.int i/\Q (some i) H1
theorem zbz {ns:List Int}:∀{us:List Value},Vals (ns.map V.int) us->IntsAre us ns:=by
 induction ns with
 |nil=>intro us r;rw[List.map_nil] at r;cases r;exact .nil
 | cons n ns ih =>
   intro us r
   rw[List.map_cons] at r
   cases r with
   | cons r1 r2 =>
     obtain⟨t,e⟩:=r1
     subst e
     exact .cons n t (ih r2)
section
variable {X:Cx} {e:Expr} {te:TE} {lo hi:Option Expr} {tl th:TO} {pos p2:Pos}
theorem zkY:PO X none zkh:=by
 intro pins s σ H Q I h
 rw[evalPart_none]
 exact wpAny_pure ⟨none,H,I,.none,h⟩
theorem zkX (h:PE X e te):PO X (some e) (zn2 te):=by
 intro pins s σ H Q I hw
 rw[evalPart_some]
 refine thn (h pins s σ H _ I hw) fun u s1 ⟨x,H1,I1,r1,q1⟩=>?_
 obtain⟨i,rfl,q⟩:=q1
 obtain⟨t,rfl⟩:=r1
 exact⟨some i,H1,I1,.int i t,q⟩
noncomputable def SlR (X:Cx)(r:V->Option Int->Option Int->Hp->VK->Prop):Prop:=
 ∀(pins:List (Addr × Obj)) (s:Shared) (σ:St) (H:Hp) (x:V) (v vl vu:Value) (lo hi:Option Int) (sl:Addr) (Q:VK),Inv X pins σ H s->RelV x v->s.heap.IsSliceOf sl vl vu .none->IsPart vl lo->IsPart vu hi->r x lo hi H Q->
  ∃T id,typeLookup (.type T) "__getitem__"=pure (some (.builtin id))/\s.TypeIs v T/\wpAny (model X.prog X.w) X.A (getItem v (.ref sl)) (EP X pins σ Q) X.xe s
theorem SlR.or {r r':V->Option Int->Option Int->Hp->VK->Prop}(h:SlR X r)(h':SlR X r'):SlR X (fun x lo hi H Q=>r x lo hi H Q\/r' x lo hi H Q):=by
 intro pins s σ H x v vl vu lo hi sl Q I rx hs pl pu q
 rcases q with q|q
 · exact h pins s σ H x v vl vu lo hi sl Q I rx hs pl pu q
 · exact h' pins s σ H x v vl vu lo hi sl Q I rx hs pl pu q
noncomputable def tSl (r:V->Option Int->Option Int->Hp->VK->Prop)(te:TE)(tl th:TO):TE:=fun σ H Q=>te σ H fun x H1=>tl σ H1 fun l H2=>th σ H2 fun u H3=>r x l u H3 Q
theorem zi5 {r:V->Option Int->Option Int->Hp->VK->Prop}(hr:SlR X r)(he:PE X e te)(hl:PO X lo tl)(hu:PO X hi th):PE X (.Subscript e (.Slice lo hi none p2) pos) (tSl r te tl th):=by
 intro pins s σ H Q I h
 refine Subscript_ (thn (he pins s σ H _ I h) fun v s1 ⟨x,H1,I1,r1,q1⟩=>?_)
 refine wpAny_Slice (thn (hl pins s1 σ H1 _ I1 q1) fun vl s2 ⟨l,H2,I2,pl,q2⟩=>thn (hu pins s2 σ H2 _ I2 q2) fun vu s3 ⟨u,H3,I3,pu,q3⟩=>?_)
 rw[evalPart_none]
 refine wpAny_pure ?_
 have I4:Inv X pins σ H3 {s3 with heap:=s3.heap.push {cls:=.type "slice",data:=.fields #[vl,vu,.none]}}:=I3.kept (t':=s3.toks) fun b ob q=>Heap.get?_push_of_some _ q
 obtain⟨T,id,hT,ht,hg⟩:=hr pins {s3 with heap:=s3.heap.push {cls:=.type "slice",data:=.fields #[vl,vu,.none]}} σ H3 x v vl vu l u s3.heap.objs.size Q I4 r1 (Heap.IsSliceOf.new ..) pl pu q3
 show wpAny (model X.prog X.w) X.A (subscriptTail e (.Slice lo hi none p2) v (.ref s3.heap.objs.size)) (EP X pins σ Q) X.xe {s3 with heap:=s3.heap.push {cls:=.type "slice",data:=.fields #[vl,vu,.none]}}
 exact tail_any (ops:=[.ref s3.heap.objs.size,v]) ht hT hg (by with_unfolding_all rfl)
noncomputable def cutV (xs:List V)(lo hi:Option Int):List V:=(xs.drop (HT.sIx xs.length 0 lo)).take (HT.sIx xs.length xs.length hi - HT.sIx xs.length 0 lo)
theorem zds (xs:List V)(lo hi:Option Int):(cutV xs lo hi).length<=xs.length:=by
 unfold cutV
 rw[List.length_take,List.length_drop]
 omega
noncomputable def rSlT (K:PySem.W.Frag):V->Option Int->Option Int->Hp->VK->Prop:=fun x lo hi H Q=>∃a xs,x=.ref a/\SqT K H a xs/\
 ¬(HT.sIx xs.length 0 lo=0/\HT.sIx xs.length xs.length hi=xs.length)/\∀p,H p=none->Q (.ref p) (upd H p (.tup (cutV xs lo hi)))
theorem zmf:SlR X (rSlT X.K):=by
 intro pins s σ H x v vl vu lo hi sl Q I rx hs pl pu h
 obtain⟨a,xs,rfl,hx,hw,q⟩:=h
 cases rx
 obtain⟨its,r,ht,hz⟩:=I.tuple hx
 have hlen:its.toArray.size=xs.length:=by rw[List.size_toArray];exact r.length.symm
 refine⟨"tuple",_,PyProof.Rows.slot_tuple_getitem.lookup,ht.typeIs,?_⟩
 refine HT.getItem_tuple_cut ht hs pl pu (by rw[hlen];exact hw) ?_ (by rw[hlen];exact hz)
 rw[hlen]
 refine⟨.ref s.heap.objs.size,_,I.laid (t':=s.toks) (o:=.tup (cutV xs lo hi)) (fun b ob q=>Heap.get?_push_of_some _ q) (Nat.le_refl _) ?_,rfl,q _ (I.hok.fresh (Nat.le_refl _))⟩
 exact⟨Nat.le_trans (zds xs lo hi) hz,_,(r.drop (HT.sIx xs.length 0 lo)).take (HT.sIx xs.length xs.length hi - HT.sIx xs.length 0 lo),IsTup.new _ _⟩
noncomputable def rLtT (K:PySem.W.Frag):R2:=fun x y H Q=>∃a b ns ms,x=.ref a/\y=.ref b/\SqT K H a (ns.map V.int)/\SqT K H b (ms.map V.int)/\Q (.bl (HT.lexLt ns ms)) H
theorem zm4 (hu:X.A.units<cLine):OpR X (compareOp .Lt) (rLtT X.K):=by
 intro pins s σ H x y v u Q I rx ry h
 obtain⟨a,b,ns,ms,rfl,rfl,ha,hb,q⟩:=h
 cases rx
 cases ry
 obtain⟨its,r1,p1,_⟩:=I.tuple ha
 obtain⟨its2,r2,p2,_⟩:=I.tuple hb
 have i1:IntsAre its.toArray.toList ns:=zbz r1
 have i2:IntsAre its2.toArray.toList ms:=zbz r2
 exact HT.lt_tupInts p1 p2 i1 i2 hu ⟨.bl (HT.lexLt ns ms),H,I,rfl,q⟩
noncomputable def zok (K:PySem.W.Frag):R2:=fun x y H Q=>∃a b xs ys,x=.ref a/\y=.ref b/\SqT K H a xs/\SqT K H b ys/\xs≠[]/\xs.length+ys.length<=sizeLine/\
 (ys=[]->Q (.ref a) H)/\(ys≠[]->∀p,H p=none->Q (.ref p) (upd H p (.tup (xs++ys))))
theorem Vals.nil_iff {xs:List V}{us:List Value}(r:Vals xs us):us=[]↔xs=[]:=by
 cases r with
 |nil=>simp
 |cons _ _=>simp
theorem zk7:OpR X (binaryOp .Add) (zok X.K):=by
 intro pins s σ H x y v u Q I rx ry h
 obtain⟨a,b,xs,ys,rfl,rfl,ha,hb,hx,hz,q1,q2⟩:=h
 cases rx
 cases ry
 obtain⟨its,r1,p1,_⟩:=I.tuple ha
 obtain⟨its2,r2,p2,_⟩:=I.tuple hb
 refine HT.cat_tup p1 p2 (fun z=>hx (r1.nil_iff.mp z)) (fun z=>⟨.ref a,H,I,rfl,q1 (r2.nil_iff.mp z)⟩) (fun z=>?_) (by rw[<-r1.length,<-r2.length];exact hz)
 refine⟨.ref s.heap.objs.size,_,I.laid (t':=s.toks) (o:=.tup (xs++ys)) (fun b ob q=>Heap.get?_push_of_some _ q) (Nat.le_refl _) ?_,rfl,q2 (fun w=>z (r2.nil_iff.mpr w)) _ (I.hok.fresh (Nat.le_refl _))⟩
 exact⟨by rw[List.length_append];exact hz,_,r1.append r2,IsTup.new _ _⟩
end
end L2
namespace L2
open PySem PySem.Spec PyProof.Rows
noncomputable def ixN (n:Nat)(i:Int):Option Nat:=if 0<=i then (if i<n then some i.toNat else none) else if -(n:Int)<=i then some (i+n).toNat else none
noncomputable def atI {α:Type}(xs:List α)(i:Int):Option α:=(ixN xs.length i).bind fun j=>xs[j]?
theorem zlm {n:Nat}{i:Int}{j:Nat}(h:ixN n i=some j):seqIndex? i n=some j/\j<n/\-(n:Int)<=i/\i<n:=by
 unfold ixN at h
 by_cases h0:0<=i
 · rw[if_pos h0] at h
   by_cases h1:i<n
   · rw[if_pos h1] at h
     have e:i.toNat=j:=Option.some.inj h
     exact⟨by rw[seqIndex_of h0 h1,e],by omega,by omega,h1⟩
   · rw[if_neg h1] at h;cases h
 · rw[if_neg h0] at h
   by_cases h1:-(n:Int)<=i
   · rw[if_pos h1] at h
     have e:(i+n).toNat=j:=Option.some.inj h
     exact⟨by rw[seqIndex_neg (by omega) h1,e],by omega,h1,by omega⟩
   · rw[if_neg h1] at h;cases h
theorem zfG {α:Type}{xs:List α}{i:Int}{v:α}(h:atI xs i=some v):∃j,seqIndex? i xs.length=some j/\xs[j]?=some v/\j<xs.length/\-(xs.length:Int)<=i/\i<xs.length:=by
 unfold atI at h
 cases e:ixN xs.length i with
 |none=>rw[e] at h;cases h
 | some j =>
   rw[e] at h
   obtain⟨h1,h2,h3,h4⟩:=zlm e
   exact⟨j,h1,h,h2,h3,h4⟩
noncomputable def ziC (b:Expr):Prop:=∀o i,subscripted b false o i=operate [o,i] (getItem o i)
noncomputable def IxR (X:Cx)(r:R2):Prop:=
 ∀(value slice:Expr) (pins:List (Addr × Obj)) (s:Shared) (σ:St) (H:Hp) (x y:V) (v u:Value) (Q:VK),Inv X pins σ H s->RelV x v->RelV y u->r x y H Q->
  subscripted slice false v u=operate [v,u] (getItem v u)->wpAny (model X.prog X.w) X.A (subscriptTail value slice v u) (EP X pins σ Q) X.xe s
noncomputable def MtR (X:Cx)(id:String)(r:V->List V->Hp->VK->Prop):Prop:=
 ∀(pins:List (Addr × Obj)) (s:Shared) (σ:St) (H:Hp) (x:V) (xs:List V) (v:Value) (us:List Value) (Q:VK),Inv X pins σ H s->RelV x v->Vals xs us->r x xs H Q->
  wpAny (model X.prog X.w) X.A (call (.builtin id) (v::us)) (EP X pins σ Q) X.xe s
section
variable {X:Cx} {a b:Expr} {ta tb:TE} {pos:Pos}
theorem IxR.or {r r':R2}(h:IxR X r)(h':IxR X r'):IxR X (fun x y H Q=>r x y H Q\/r' x y H Q):=by
 intro value slice pins s σ H x y v u Q I rx ry q hs
 rcases q with q|q
 · exact h value slice pins s σ H x y v u Q I rx ry q hs
 · exact h' value slice pins s σ H x y v u Q I rx ry q hs
theorem zoq {r:R2}(hr:IxR X r)(ha:PE X a ta)(hb:PE X b tb)(hs:ziC b):PE X (.Subscript a b pos) (tOp r ta tb):=by
 intro pins s σ H Q I h
 exact Subscript_ (binT ha hb I h fun v u s2 x y H2 I2 rx ry q=>hr a b pins s2 σ H2 x y v u Q I2 rx ry q (hs _ _))
noncomputable def rIxL (K:PySem.W.Frag):R2:=fun x y H Q=>∃p xs i v,x=.ref p/\y=.int i/\SqL K H p xs/\atI xs i=some v/\Q v H
noncomputable def rIxT (K:PySem.W.Frag):R2:=fun x y H Q=>∃p xs i v,x=.ref p/\y=.int i/\SqT K H p xs/\atI xs i=some v/\Q v H
noncomputable def rIxS:R2:=fun x y H Q=>∃z i c,x=.str z/\y=.int i/\z.length<=sizeLine/\atI z.cps.toList i=some c/\Q (.str ⟨#[c]⟩) H
theorem ix_list:IxR X (rIxL X.K):=by
 intro value slice pins s σ H x y v u Q I rx ry h hs
 obtain⟨p,xs,i,z,rfl,rfl,hq,he,q⟩:=h
 cases rx
 obtain⟨t,rfl⟩:=ry
 obtain⟨its,r,pl,hz⟩:=I.list hq
 obtain⟨j,h1,h2,h3,h4,h5⟩:=zfG he
 obtain⟨w,ew,rw'⟩:=r.get h2
 have hl:=r.length
 have hn:=zeS
 have fin:EP X pins σ Q w s:=⟨z,H,I,rw',q⟩
 by_cases h0:0<=i
 · have hj:i.toNat=j:=by
    rw[seqIndex_of h0 h5] at h1
    exact Option.some.inj h1
   exact item_listR pl.isList h0 (by omega) (by rw[hj];simpa using ew) fin hs
 · have hj:(i+(its.toArray.size:Int)).toNat=j:=by
    rw[seqIndex_neg (by omega) h4] at h1
    rw[List.size_toArray,<-hl]
    exact Option.some.inj h1
   exact subscriptTail_builtinR (x:=w) pl.isList.typeIs slot_list_getitem.lookup
    (wpAny_getItem_list_neg (Q:=fun r s'=>r=w/\EP X pins σ Q r s') pl.isList (by omega) (by rw[List.size_toArray]<;>omega) (by omega) (by rw[hj];simpa using ew) ⟨rfl,fin⟩) hs
theorem ix_tup:IxR X (rIxT X.K):=by
 intro value slice pins s σ H x y v u Q I rx ry h hs
 obtain⟨p,xs,i,z,rfl,rfl,hq,he,q⟩:=h
 cases rx
 obtain⟨t,rfl⟩:=ry
 obtain⟨its,r,pl,hz⟩:=I.tuple hq
 obtain⟨j,h1,h2,h3,h4,h5⟩:=zfG he
 obtain⟨w,ew,rw'⟩:=r.get h2
 have hl:=r.length
 have hn:=zeS
 have fin:EP X pins σ Q w s:=⟨z,H,I,rw',q⟩
 exact subscriptTail_builtinR (x:=w) pl.typeIs slot_tuple_getitem.lookup
  (getItem_tuple (j:=j) (Q:=fun r s'=>r=w/\EP X pins σ Q r s') pl (by omega) (by omega) (by rw[List.size_toArray,<-hl];exact h1) (by simpa using ew) ⟨rfl,fin⟩) hs
theorem znq:IxR X rIxS:=by
 intro value slice pins s σ H x y v u Q I rx ry h hs
 obtain⟨z,i,c,rfl,rfl,hz,he,q⟩:=h
 obtain⟨t,rfl⟩:=rx
 obtain⟨t',rfl⟩:=ry
 obtain⟨j,h1,h2,h3,h4,h5⟩:=zfG he
 have hl:z.cps.toList.length=z.length:=by simp[Str.length]
 rw[hl] at h1 h4 h5
 have hn:=zeS
 exact tail_any (typeIs_str s z t) slot_str_getitem.lookup (getItem_str (c:=c) (by
  have e1:decide (i < -(2 ^ 63:Int))=false:=decide_eq_false (by omega)
  have e2:decide (i≥2 ^ 63)=false:=decide_eq_false (by omega)
  rw[e1,e2,Bool.or_false]) (by rw[h1];simpa using h2) ⟨.str ⟨#[c]⟩,H,I.tok _,⟨_,rfl⟩,q⟩) hs
noncomputable def rIx (K:PySem.W.Frag):R2:=fun x y H Q=>rIxL K x y H Q\/rIxT K x y H Q\/rIxS x y H Q
theorem znr:IxR X (rIx X.K):=ix_list.or (ix_tup.or znq)
theorem Inv.lst {pins:List (Addr × Obj)}{σ:St}{H:Hp}{s:Shared}{p:Addr}{xs:List V}(I:Inv X pins σ H s)(h:H p=some (.lst xs)) :
  ∃(its:List Value) (n:Nat),Vals xs its/\s.heap.get? p=some {cls:=.type "list",data:=.seq its.toArray n}/\xs.length<=sizeLine:=by
 obtain⟨z,its,n,r,e⟩:=I.hok p _ h
 exact⟨its,n,r,e,z⟩
theorem zeC (lo hi:Option Int)(n:Nat):(sliceBounds lo hi none n).1=((HT.sIx n 0 lo:Nat):Int)/\(sliceBounds lo hi none n).2.1=((HT.sIx n n hi:Nat):Int)/\(sliceBounds lo hi none n).2.2=1:=by
 refine⟨?_,?_,rfl⟩
 · cases lo with
   |none=>simp[sliceBounds,HT.sIx]
   | some i =>
     simp only[sliceBounds,HT.sIx,Option.getD_none,show (1:Int) > 0 by decide,if_true]
     by_cases h:i<0
     · simp only[h,if_true]<;>omega
     · simp only[h,if_false]<;>omega
 · cases hi with
   |none=>simp[sliceBounds,HT.sIx]
   | some i =>
     simp only[sliceBounds,HT.sIx,Option.getD_none,show (1:Int) > 0 by decide,if_true]
     by_cases h:i<0
     · simp only[h,if_true]<;>omega
     · simp only[h,if_false]<;>omega
theorem zd6 (its:List Value)(lo hi:Option Int):slicePick its.toArray lo hi none=((its.drop (HT.sIx its.length 0 lo)).take (HT.sIx its.length its.length hi - HT.sIx its.length 0 lo)).toArray:=by
 obtain⟨h1,h2,h3⟩:=zeC lo hi its.toArray.size
 unfold slicePick
 rw[h1,h2,h3]
 simp only[sliceRange_one,pick_run,List.size_toArray]<;>rfl
noncomputable def rSlL (K:PySem.W.Frag):V->Option Int->Option Int->Hp->VK->Prop:=fun x lo hi H Q=>∃a xs,x=.ref a/\SqL K H a xs/\∀p,H p=none->Q (.ref p) (upd H p (.lst (cutV xs lo hi)))
theorem zko:SlR X (rSlL X.K):=by
 intro pins s σ H x v vl vu lo hi sl Q I rx hs pl pu h
 obtain⟨a,xs,rfl,hx,q⟩:=h
 cases rx
 obtain⟨its,r,ht,hz⟩:=I.list hx
 have hlen:=r.length
 refine⟨"list",_,slot_list_getitem.lookup,ht.isList.typeIs,?_⟩
 refine wpAny_getItem_list_slice ht.isList hs pl pu .none (by simp) ?_ (by rw[List.size_toArray]<;>omega)
 rw[zd6,<-hlen]
 refine⟨.ref s.heap.objs.size,_,I.laid (t':=s.toks) (o:=.lst (cutV xs lo hi)) (fun b ob q=>Heap.get?_push_of_some _ q) (Nat.le_refl _) ?_,rfl,q _ (I.hok.fresh (Nat.le_refl _))⟩
 exact⟨Nat.le_trans (zds xs lo hi) hz,_,0,(r.drop (HT.sIx xs.length 0 lo)).take (HT.sIx xs.length xs.length hi - HT.sIx xs.length 0 lo),Heap.get?_push_size _ rfl⟩
theorem zbY:za7 X (.builtin "len") (fun xs H Q=>∃p ys,xs=[.ref p]/\(SqL X.K H p ys\/SqT X.K H p ys)/\Q (.int ys.length) H):=by
 intro pins s σ H xs us Q I r h
 obtain⟨p,ys,rfl,hq,q⟩:=h
 obtain⟨u,rfl,rx⟩:=zha r
 cases rx
 have hn:=zeS
 rcases hq with hq|hq
 · obtain⟨its,r',pl,hz⟩:=I.list hq
   have hlen:=r'.length
   exact Calls.call_len_list pl.isList (by simp only[List.size_toArray]<;>omega) ⟨.int ys.length,H,I.tok _,⟨s.toks+1,by rw[List.size_toArray,hlen]⟩,q⟩
 · obtain⟨its,r',pl,hz⟩:=I.tuple hq
   have hlen:=r'.length
   exact len_tuple pl (by simp only[List.size_toArray]<;>omega) ⟨.int ys.length,H,I.tok _,⟨s.toks+1,by rw[List.size_toArray,hlen]⟩,q⟩
theorem ze8:za7 X (.type "list") (fun xs H Q=>∃p ys,xs=[.ref p]/\(SqL X.K H p ys\/SqT X.K H p ys)/\∀l,H l=none->Q (.ref l) (upd H l (.lst ys))):=by
 intro pins s σ H xs us Q I r h
 obtain⟨p,ys,rfl,hq,q⟩:=h
 obtain⟨u,rfl,rx⟩:=zha r
 cases rx
 have fin:∀(its:List Value),Vals ys its->ys.length<=sizeLine->∀(h':Heap) (c':Nat),(∀b o',s.heap.get? b=some o'->h'.get? b=some o')->
   h'.get? s.heap.objs.size=some {cls:=.type "list",dict:=none,data:=.seq its.toArray c',slots:=#[]}->EP X pins σ Q (.ref s.heap.objs.size) {s with heap:=h'}:=fun its r' hz h' c' kp e=>
  ⟨.ref s.heap.objs.size,_,I.laid (t':=s.toks) kp (Nat.le_refl _) (show ObjOk X.prog X.w _ h' _ (.lst ys) from⟨hz,its,c',r',e⟩),rfl,q _ (I.hok.fresh (Nat.le_refl _))⟩
 rcases hq with hq|hq
 · obtain⟨its,r',pl,hz⟩:=I.list hq
   have hlen:=r'.length
   obtain⟨o,ho,hc,n,hd⟩:=pl.isList
   exact call_list_seq p (.inl rfl) ho hc hd (fun h' c' kp e=>fin its r' hz h' c' kp e) (by simp only[List.size_toArray]<;>omega)
 · obtain⟨its,r',pl,hz⟩:=I.tuple hq
   have hlen:=r'.length
   obtain⟨o,ho,hc,n,hd⟩:=pl
   exact call_list_seq p (.inr rfl) ho hc hd (fun h' c' kp e=>fin its r' hz h' c' kp e) (by simp only[List.size_toArray]<;>omega)
theorem zeq:za7 X (.type "tuple") (fun xs H Q=>∃p ys,xs=[.ref p]/\((SqL X.K H p ys/\∀l,H l=none->Q (.ref l) (upd H l (.tup ys)))\/(SqT X.K H p ys/\Q (.ref p) H))):=by
 intro pins s σ H xs us Q I r h
 obtain⟨p,ys,rfl,h⟩:=h
 obtain⟨u,rfl,rx⟩:=zha r
 cases rx
 rcases h with ⟨hq,q⟩|⟨hq,q⟩
 · obtain⟨its,r',pl,hz⟩:=I.list hq
   have hlen:=r'.length
   refine call_tuple_list pl.isList (fun h' kp=>?_) (by simp only[List.size_toArray]<;>omega)
   have I1:Inv X pins σ H {s with heap:=h'}:=I.kept (t':=s.toks) kp
   have I2:Inv X pins σ (upd H h'.objs.size (.tup ys)) {s with heap:=h'.push {cls:=.type "tuple",data:=.seq its.toArray}}:=
    I1.laid (t':=s.toks) (fun b o e=>Heap.get?_push_of_some _ e) (Nat.le_refl _) (show ObjOk X.prog X.w _ _ _ (.tup ys) from⟨hz,its,r',IsTup.new _ _⟩)
   exact⟨.ref h'.objs.size,_,I2,rfl,q _ (I1.hok.fresh (Nat.le_refl _))⟩
 · obtain⟨its,r',pl,hz⟩:=I.tuple hq
   exact call_tuple_same pl ⟨.ref p,H,I,rfl,q⟩
noncomputable def tyV (K:PySem.W.Frag)(T:String)(x:V)(H:Hp):Prop:=match x with
 |.str _=>T="str"
 |.int _=>T="int"
 |.ref p=>(T="list"/\∃xs,SqL K H p xs)\/(T="tuple"/\∃o,K.lookup p=some o/\o.cls=.type "tuple"/\o.dict=none)\/
  (T="dict"/\((∃kvs,H p=some (.dK kvs))\/∃kvs,H p=some (.dT kvs)))\/(T="set"/\∃S n,H p=some (.set S n))
 |_=>False
theorem zjJ {pins:List (Addr × Obj)}{σ:St}{H:Hp}{s:Shared}{T:String}{x:V}{v:Value}(I:Inv X pins σ H s)(r:RelV x v)(ty:tyV X.K T x H) :
  s.TypeIs v T/\∀a,v=.ref a->∃ob,s.heap.get? a=some ob/\ob.dict=none:=by
 cases x with
 | str z =>
   obtain⟨t,rfl⟩:=r
   cases (show T="str" from ty)
   exact⟨typeIs_str s z t,fun _ e=>nomatch e⟩
 | int i =>
   obtain⟨t,rfl⟩:=r
   cases (show T="int" from ty)
   exact⟨typeIs_int s i t,fun _ e=>nomatch e⟩
 | ref p =>
   cases r
   rcases ty with ⟨rfl,xs,hq⟩|⟨rfl,o,hk,hc,hd⟩|⟨rfl,hk⟩|⟨rfl,S,n,hk⟩
   · obtain⟨its,_,pl,_⟩:=I.list hq
     refine⟨pl.isList.typeIs,fun a e=>?_⟩
     cases e
     obtain⟨o,n,e,c,hd,_⟩:=pl
     exact⟨o,e,hd⟩
   · refine⟨⟨o,I.kIn p o hk,hc⟩,fun a e=>?_⟩
     cases e
     exact⟨o,I.kIn _ o hk,hd⟩
   · have z:∃o,s.heap.get? p=some o/\o.ExactDict:=by
      rcases hk with ⟨kvs,hk⟩|⟨kvs,hk⟩
      · obtain⟨_,_,_,_,o,_,_,e,ex,_⟩:=I.hok p _ hk
        exact⟨o,e,ex⟩
      · obtain⟨_,_,_,_,o,_,_,e,ex,_⟩:=I.hok p _ hk
        exact⟨o,e,ex⟩
     obtain⟨o,e,ex⟩:=z
     refine⟨⟨o,e,ex.1⟩,fun a e2=>?_⟩
     cases e2
     exact⟨o,e,ex.2.1⟩
   · obtain⟨o,_,_,_,e,ex,_⟩:=I.hok p _ hk
     refine⟨⟨o,e,ex.1⟩,fun a e2=>?_⟩
     cases e2
     exact⟨o,e,ex.2.1⟩
 |_=>exact False.elim ty
noncomputable def tBM0 (K:PySem.W.Frag)(T:String)(r:V->List V->Hp->VK->Prop)(to:TE):TE:=fun σ H Q=>to σ H fun x H1=>tyV K T x H1/\r x [] H1 Q
noncomputable def tBM (K:PySem.W.Frag)(T:String)(r:V->List V->Hp->VK->Prop)(to:TE)(t:TA):TE:=fun σ H Q=>to σ H fun x H1=>tyV K T x H1/\t σ H1 fun xs H2=>r x xs H2 Q
variable {o e:Expr} {es:List Expr} {to:TE} {t:TA} {name:Str} {apos cpos:Pos} {T id:String} {r:V->List V->Hp->VK->Prop}
theorem zmW (pa:PlainAttrs T)(slot:Slot T name id)(hty:typeOf (.builtin id)=pure (.type "method_descriptor"))(hm:MtR X id r)(ho:PE X o to)
  (hbase:attributeBase o name X.env (eval o X.env)=eval o X.env:=by rfl) (hline:(apos.endLine == cpos.line)=true:=by rfl):PE X (.Call (.Attribute o name apos) [] [] cpos) (tBM0 X.K T r to):=by
 intro pins s σ H Q I h
 refine wpAny_Call_method0_late hbase hline (thn (ho pins s σ H _ I h) fun v s1 ⟨x,H1,I1,r1,ty,q1⟩=>?_)
 obtain⟨h1,h2⟩:=zjJ I1 r1 ty
 exact⟨T,id,pa,slot,hty,h1,h2,Calls.callWith_builtin rfl (PySem.evalArgs_none (hm pins s1 σ H1 x [] v [] Q I1 r1 .nil q1))⟩
theorem zor (pa:PlainAttrs T)(slot:Slot T name id)(hty:typeOf (.builtin id)=pure (.type "method_descriptor"))(hm:MtR X id r)(ho:PE X o to)(ha:PA X (e::es) t)
  (hbase:attributeBase o name X.env (eval o X.env)=eval o X.env:=by rfl)
  (hfew:((backTo cpos (starEach (e::es) X.env)).all (fun x=>!x.1)&&(backToKw cpos (keywordEach [] X.env)).all (fun x=>x.1.isSome)
   && decide ((e::es).length+([]:List Keyword).length+(if ([]:List Keyword).isEmpty then 0 else 1)<30))=true:=by rfl)
  (hline:(apos.endLine == cpos.line)=true:=by rfl) (hs:starEach (e::es) X.env=(false,eval e X.env)::starEach es X.env:=by rfl) (hplain:(backTo cpos (starEach es X.env)).any (·.1)=false:=by rfl) :
  PE X (.Call (.Attribute o name apos) (e::es) [] cpos) (tBM X.K T r to t):=by
 intro pins s σ H Q I h
 refine wpAny_Call_method_late hbase hfew hline rfl (thn (ho pins s σ H _ I h) fun v s1 ⟨x,H1,I1,r1,ty,q1⟩=>?_)
 obtain⟨h1,h2⟩:=zjJ I1 r1 ty
 refine⟨T,id,pa,slot,hty,h1,h2,?_⟩
 have hA:=ha cpos pins s1 σ H1 _ I1 q1
 rw[hs] at hA⊢
 refine Calls.callWith_builtin (by show (false || (backTo cpos (starEach es X.env)).any (·.1))=false;rw[hplain]<;>rfl) (Calls.evalArgs_plain ?_)
 exact thn hA fun us s2 ⟨vs,H2,I2,r2,q2⟩=>hm pins s2 σ H2 x vs v us Q I2 r1 r2 q2
/- xs.append(e),list.index on a module's tuple .. are MtR facts of 06m -/
end
end L2
namespace L2
open PySem PySem.Spec PyProof.Rows
noncomputable def MtM (X:Cx)(id:String)(r:V->List V->Hp->VK->Prop):Prop:=
 ∀(pins:List (Addr × Obj)) (s:Shared) (σ:St) (H:Hp) (x:V) (xs:List V) (v:Value) (us:List Value) (Q:VK),Inv X pins σ H s->RelV x v->Vals xs us->r x xs H Q->
  wpAny (model X.prog X.w) X.A (call (.builtin id) (v::us)) (EP X pins σ Q) X.xe s
theorem Vals.one:∀{x:V} {us:List Value},Vals [x] us->∃u,us=[u]/\RelV x u
 |_,_,.cons r .nil=>⟨_,rfl,r⟩
theorem Vals.zero:∀{us:List Value},Vals [] us->us=[]
 |_,.nil=>rfl
theorem Vals.eraseIdx:∀{xs:List V} {us:List Value} (i:Nat),Vals xs us->Vals (xs.eraseIdx i) (us.eraseIdx i)
 |_,_,_,.nil=>.nil
 |_,_,0,.cons _ t=>t
 |_,_,i+1,.cons r t=>.cons r (Vals.eraseIdx i t)
theorem Vals.reverse {xs:List V}{us:List Value}(h:Vals xs us):Vals xs.reverse us.reverse:=by
 induction h with
 |nil=>exact .nil
 |cons r t ih=>rw[List.reverse_cons,List.reverse_cons];exact Vals.append ih (.cons r .nil)
theorem zeT {α:Type}:∀(l:List α) (i:Nat),(l.eraseIdx i).length<=l.length
 | [],_=>Nat.le_refl _
 |_::_,0=>Nat.le_succ _
 |_::r,i+1=>Nat.succ_le_succ (zeT r i)
section
variable {X:Cx} {pins:List (Addr × Obj)} {σ:St} {H:Hp} {s:Shared} {l b:Addr} {xs ys zs:List V}
theorem Inv.lset {its its':List Value}{n:Nat}{f:Array Value->Array Value}{t':Nat}(I:Inv X pins σ H s)(hH:H l=some (.lst xs))
  (e:s.heap.get? l=some {cls:=.type "list",data:=.seq its.toArray n}) (hf:f its.toArray=its'.toArray) (hv:Vals ys its') (hz:ys.length<=sizeLine) :
  Inv X pins σ (upd H l (.lst ys)) {s with heap:=s.heap.update l (Obj.mapSeq f),toks:=t'}:=by
 have q:=PySem.IsL.update e f
 rw[hf] at q
 refine I.write (x:=l) (e:=l) (by rw[hH];exact trivial) (.inl rfl) (fun b' u hb hu=>(Heap.get?_update_other s.heap (Obj.mapSeq f) (Ne.symm hb)).trans hu) ⟨_,q⟩ ?_
 exact⟨hz,its',_,hv,q⟩
theorem Inv.lnew {its:List Value}{t':Nat}(I:Inv X pins σ H s)(hv:Vals ys its)(hz:ys.length<=sizeLine) :
  Inv X pins σ (upd H s.heap.objs.size (.lst ys)) {s with heap:=s.heap.push {cls:=.type "list",data:=.seq its.toArray},toks:=t'}:=
 I.laid (fun _ _ q=>Heap.get?_push_of_some _ q) (Nat.le_refl _) ⟨hz,its,0,hv,Heap.get?_push_size _ rfl⟩
theorem Inv.fresh (I:Inv X pins σ H s):H s.heap.objs.size=none:=I.hok.fresh (Nat.le_refl _)
theorem Inv.lstM (I:Inv X pins σ H s)(hH:H l=some (.lst xs)):xs.length<=sizeLine/\∃(its:List Value) (n:Nat),Vals xs its/\xs.length=its.length/\s.heap.get? l=some {cls:=.type "list",data:=.seq its.toArray n}:=by
 obtain⟨z,its,n,r,e⟩:=I.hok l _ hH
 exact⟨z,its,n,r,r.length,e⟩
end
section
variable {X:Cx}
noncomputable def zkK:V->List V->Hp->VK->Prop:=fun x vs H Q=>∃l xs y,x=.ref l/\vs=[y]/\H l=some (.lst xs)/\xs.length<sizeLine/\Q .non (upd H l (.lst (xs++[y])))
theorem zeR:MtM X "list.append" zkK:=by
 intro pins s σ H x vs v us Q I rx rv h
 obtain⟨l,xs,y,rfl,rfl,hH,hz,q⟩:=h
 cases rx
 obtain⟨u,rfl,ru⟩:=rv.one
 obtain⟨z,its,n,r,hl,e⟩:=I.lstM hH
 refine call_meets F.slot_list_append ⟨_,e,rfl⟩ F.entry_list_append (F.args_list_append_2 _ _) (PySem.list_append l its.toArray n u (by rw[List.size_toArray];omega)) ⟨e,?_⟩
 refine⟨.non,_,I.lset (its':=its++[u]) hH e (by simp) (r.append (.cons ru .nil)) ?_,rfl,q⟩
 rw[List.length_append,List.length_singleton]
 omega
noncomputable def zmC:V->List V->Hp->VK->Prop:=fun x vs H Q=>∃l xs i k y,x=.ref l/\vs=[.int i]/\H l=some (.lst xs)/\-(2 ^ 63)<=i/\i<2 ^ 63/\seqIndex? i xs.length=some k/\xs[k]?=some y/\Q y (upd H l (.lst (xs.eraseIdx k)))
theorem zjg:MtM X "list.pop" zmC:=by
 intro pins s σ H x vs v us Q I rx rv h
 obtain⟨l,xs,i,k,y,rfl,rfl,hH,h1,h2,hk,hy,q⟩:=h
 cases rx
 obtain⟨u,rfl,ru⟩:=rv.one
 obtain⟨t,rfl⟩:=ru
 obtain⟨z,its,n,r,hl,e⟩:=I.lstM hH
 obtain⟨w,hw,rw'⟩:=r.get hy
 refine call_meets F.slot_list_pop ⟨_,e,rfl⟩ F.entry_list_pop (F.args_list_pop_2 _ _)
  (MeetsSeq.list_pop_at l its.toArray n i t k w (fitsIndex_both h1 h2) (by rw[List.size_toArray,<-hl];exact hk) (by rw[<-Array.getElem?_toList];exact hw) (by rw[List.size_toArray];omega)) ⟨e,?_⟩
 refine⟨y,_,I.lset (its':=its.eraseIdx k) hH e ?_ (r.eraseIdx k) ?_,rw',q⟩
 · show its.toArray.eraseIdxIfInBounds k=(its.eraseIdx k).toArray
   rw[List.eraseIdxIfInBounds_toArray]
 · have:=zeT xs k
   omega
noncomputable def zmD:V->List V->Hp->VK->Prop:=fun x vs H Q=>∃l xs,x=.ref l/\vs=[]/\H l=some (.lst xs)/\Q .non (upd H l (.lst []))
theorem zjh:MtM X "list.clear" zmD:=by
 intro pins s σ H x vs v us Q I rx rv h
 obtain⟨l,xs,rfl,rfl,hH,q⟩:=h
 cases rx
 have hus:=rv.zero
 subst hus
 obtain⟨z,its,n,r,hl,e⟩:=I.lstM hH
 refine call_meets F.slot_list_clear ⟨_,e,rfl⟩ F.entry_list_clear (F.args_list_clear_1 _) (AutoSeq1.list_clear_list_0 l its.toArray n (by rw[List.size_toArray];omega)) ⟨e,?_⟩
 exact⟨.non,_,I.lset (its':=[]) (ys:=[]) hH e rfl .nil (Nat.zero_le _),rfl,q⟩
noncomputable def rCat:R2:=fun x y H Q=>∃l b xs zs,x=.ref l/\y=.ref b/\H l=some (.lst xs)/\H b=some (.lst zs)/\xs.length+zs.length<=sizeLine/\∀p,H p=none->Q (.ref p) (upd H p (.lst (xs++zs)))
theorem zm7:OpR X (binaryOp .Add) rCat:=by
 intro pins s σ H x y v u Q I rx ry h
 obtain⟨l,b,xs,zs,rfl,rfl,hH,hB,hz,q⟩:=h
 cases rx
 cases ry
 obtain⟨z,its,n,r,hl,e⟩:=I.lstM hH
 obtain⟨z2,its2,n2,r2,hl2,e2⟩:=I.lstM hB
 refine PySem.P.add_list e e2 ?_ (by rw[List.size_toArray,List.size_toArray];omega)
 have ea:its.toArray++its2.toArray=(its++its2).toArray:=by simp
 rw[ea]
 exact⟨.ref _,_,I.lnew (t':=s.toks) (r.append r2) (by rw[List.length_append];omega),rfl,q _ I.fresh⟩
end
section
variable {prog:Program} {w:World} {A:Around} {E:Value->Shared->Prop} {s:Shared}
end
section
variable {X:Cx}
end
end L2
namespace Att
open PySem PySem.W PySem.Calls PyProof.Rows
theorem zdh {P:Params}{h:Heap}:∀(ns:List Int) (vs:List Value),WellAll P h vs (ns.map WData.int)->IntsAre vs ns:=by
 intro ns
 induction ns with
 | nil =>
   intro vs w
   rw[List.map_nil] at w
   cases w
   exact .nil
 | cons n ns ih =>
   intro vs w
   rw[List.map_cons] at w
   cases w with
   | cons a b =>
     cases a
     exact .cons _ _ (ih _ b)
theorem zhk {l:OpenLaw}{n:Nat}(hn:l.most=some n){P:Params}{h:Heap}{args:List WData}{vals:List Value}
  (hpre:l.row.toRowW.claim.pre args=true) (hwl:WellAll P h vals args) :
  ∃a vs ns,vals=[Value.ref a]/\args=[WData.list (ns.map WData.int)]/\h.get? a=some {cls:=.type "list",data:=.seq vs.toArray}/\IntsAre vs ns/\ns.length<=n:=by
 have hsh:WShape.hasAll [] args [.list .int]=true:=(pre_splitW hpre).1
 have hc:l.pre.holds [] {args:=args}=true:=(pre_splitW hpre).2
 obtain⟨d,r,rfl,h1,h2⟩:=hasAllW_cons hsh
 obtain rfl:=hasAllW_nil h2
 obtain⟨xs,rfl,h3⟩:=hasW_list h1
 obtain⟨ns,rfl⟩:=items_int h3
 have hlen:ns.length<=n:=by
  unfold OpenLaw.pre at hc
  have h4:(WTm.not (.lt (.lit (.int (n:Int))) (.len (.arg 0)))).holds [] {args:=[.list (ns.map .int)]}=true:=by
   have h4:=(holds_andW hc).1
   rw[hn] at h4
   exact h4
  have h5:=condW_of h4 (w_not (w_lt w_lit (w_len_list (w_arg rfl))))
  rw[List.length_map] at h5
  refine Nat.le_of_not_lt fun q=>?_
  have q':(n:Int)<((ns.length:Nat):Int):=by omega
  first
   |(rw[decide_eq_true q'] at h5;exact absurd h5 (by decide))
   |(simp at h5;omega)
 cases hwl with
 | cons w1 w2 =>
   cases w2
   cases w1 with
   |list ho hall=>exact⟨_,_,ns,rfl,rfl,ho,zdh ns _ hall,hlen⟩
theorem zhz (l:OpenLaw)(args:List WData):l.row.toRowW.claim.post args (.bool true) args=true:=
 postW_of (r:=l.row.toRowW) (X:=(true == true))
  (show WShape.has [] (.bool true) .bool=true by first|rfl|decide|simp[WShape.has,WShape.arms,WShape.armsAll])
  (show (WTm.eq .res (.lit (.bool true))).value [] {args:=args,res:=some (.bool true),after:=args}=some (.bool (true == true)) from w_eq_bool (w_res rfl) w_lit) rfl
theorem attach_call {l:OpenLaw}{n:Nat}{q:Program}{loose:List Str}{XP:(Str->Option Value)->Heap->Prop}{YP:World->Heap->Prop}{d:DefRec}
  (hn:l.most=some n) (hdf:d.params.defaults=[])
  (call:∀(w:World) (s₀ s₁:Shared) (mg mb:Str->Option Value) (fa:Addr) (o:Obj) (pm cd doc:Value) (a:Addr) (vs:List Value) (ns:List Int),
   Ground q loose [] XP w s₀ mg mb s₁.heap->YP w s₁.heap->
   s₁.heap.get? fa=some o->o.data=.func (docDef d.name d.params d.body d.scope pm cd doc)->s₁.heap.CodeRec cd d.name->mg d.name=some (.ref fa)->
   s₁.heap.get? a=some {cls:=.type "list",data:=.seq vs.toArray}->IntsAre vs ns->ns.length<=n->s₁.gens = #[]->
   codeAny (model l.prog w) callerA (.call (.ref fa) ⟨[.ref a],[]⟩) (fun r s'=>r=.ok (.ret (.bool true))/\OldK s₁.heap s'.heap/\s'.os=s₁.os/\AllBare s'.gens) s₁) :
  WalkO q loose XP YP l.row.toRowW d [] (fun f vs=>PySem.call f vs):=by
 intro w s₀ s₁ mg mb G Y fa o pm cd doc dV kV ho hd hcd hD hmg hg args vals as hpre hlay hrd hwl hlo
 obtain rfl:dV=.none:=Dflts.none hD hdf
 obtain rfl:kV=.none:=Dflts.noKw hD
 obtain⟨a,vs,ns,rfl,rfl,hobj,hints,hlen⟩:=zhk hn hpre hwl
 refine enter_call (codeAny_mono (call w s₀ s₁ mg mb fa o pm cd doc a vs ns G Y ho (fd_plain hd) hcd hmg hobj hints hlen hg) fun r s' hq=>?_)
 obtain⟨rfl,h2,h3,h4⟩:=hq
 exact⟨.inl ⟨.bool true,.bool true,[],rfl,fun _=>rfl,.bool true,zhz l _,fun _=>⟨List.Pairwise.nil,fun _ hm=>(nomatch hm)⟩⟩,h2,h3,h4⟩
section
variable {prog:Program} {w:World} {A:Around} {E:Value->Shared->Prop} {s:Shared} {K:Frag}
end
end Att
namespace L2
open PySem PySem.Spec PyProof.Rows
theorem zbK:∀{vs:List Value} {ns:List Int},IntsAre vs ns->Vals (ns.map V.int) vs
 |_,_,.nil=>.nil
 |_,_,.cons n t h=>.cons ⟨t,rfl⟩ (zbK h)
noncomputable def Only (H:Hp):Prop:=∀b,H b=none\/∃o xs,H b=some (.frz o (.lst xs))
theorem zjl {P:Program}{w:World}{K:PySem.W.Frag}{mg mb:Str->Option Value}{CX:CXT}{k:Nat}{fa a:Addr}{fd:FuncData}{x:Str}{sp:Sp}{s₁:Shared}{vs:List Value}{ns:List Int}
  (KX:K.In s₁.heap) (hns:s₁.heap.Ns mainGlobals mg) (hb:s₁.heap.Ns builtinsNs mb) (hbb:∀x:Str,x≠"__name__"->mb x=bootBuiltins x) (hlim:s₁.heap.NoLimit) (hg:s₁.gens = #[])
  (ha:s₁.heap.get? a=some {cls:=.type "list",data:=.seq vs.toArray}) (hi:IntsAre vs ns) (hl:ns.length<=sizeLine) (hr:Room k callerA)
  (F:∀base:Heap,K.In base->base.Ns mainGlobals mg->FnOk P w K mg base CX k fa fd [x] sp) (hbind:∀(s:Shared) (u:Value),BindsTo s fd ⟨[u],[]⟩ [(x,u)])
  (hsp:∀H:Hp,Only H->SqL K H a (ns.map V.int)->sp [.ref a] H (fun v _=>v=.bl true) fun _ _ _=>False)
  (hCX:∀H e s',CX [] H s₁ (fun _ _ _=>False) e s'->False) :
  codeAny (model P w) callerA (.call (.ref fa) ⟨[.ref a],[]⟩) (fun r s'=>r=.ok (.ret (.bool true))/\OldK s₁.heap s'.heap/\s'.os=s₁.os/\AllBare s'.gens) s₁:=by
 have rv:=zbK hi
 have lenV:=hi.length
 -- from an abstract heap in which nothing but the script may be tracked
 have core:∀H:Hp,Only H->SqL K H a (ns.map V.int)->HOk P w H s₁.heap->(∀b,H b≠none->b=a)->(H a≠none->K.lookup a=none)->
   codeAny (model P w) callerA (.call (.ref fa) ⟨[.ref a],[]⟩) (fun r s'=>r=.ok (.ret (.bool true))/\OldK s₁.heap s'.heap/\s'.os=s₁.os/\AllBare s'.gens) s₁:=by
  intro H hO hS hok hA hK
  have base_of:∀{b:Addr} {o:Obj},s₁.heap.get? b=some o->H b=none->(hidT s₁.heap H).get? b=some o:=fun e n=>zjq e n
  have noA:∀{b:Addr} {o:Obj} {es:Array DictEntry} {ep:Nat},s₁.heap.get? b=some o->o.data=.dict es ep->H b=none:=fun {b o es ep} e d=>by
   cases q:H b with
   |none=>rfl
   | some u =>
     have e':b=a:=hA b (by rw[q];simp)
     subst e'
     rw[ha] at e;cases e
     have d':Data.seq vs.toArray _=Data.dict es ep:=d
     cases d'
  have nsK:∀{b:Addr} {m:Str->Option Value},s₁.heap.Ns b m->(hidT s₁.heap H).Ns b m:=fun {b m} ⟨o,es,ep,e,d,r⟩=>⟨o,es,ep,base_of e (noA e d),d,r⟩
  have hKb:K.In (hidT s₁.heap H):=fun b o e=>base_of (KX b o e) (by
   cases q:H b with
   |none=>rfl
   | some u =>
     have e':b=a:=hA b (by rw[q];simp)
     subst e'
     rw[hK (by rw[q];simp)] at e;cases e)
  have hM:Mod K mg (hidT s₁.heap H):=⟨hKb,nsK hns,⟨mb,nsK hb,hbb⟩,let ⟨mc,h1,h2⟩:=hlim;⟨mc,nsK h1,h2⟩⟩
  have e0:Env0 P w K mg (hidT s₁.heap H) callerA [] s₁ H:=⟨rfl,hM,fun b o e=>zk9 e,Nat.le_of_eq (zh6 _ _),trivial,fun b hb=>absurd (show b∈([]:List Addr) from hb) (by simp),hok,.of_eq hg⟩
  refine codeAny_mono ((F _ hKb (nsK hns)).run callerA [] s₁ H ⟨[.ref a],[]⟩ [.ref a] [.ref a] _ _ hr e0 (hbind s₁ (.ref a)) (.cons rfl .nil) (hsp H hO hS)) fun r s' h=>?_
  cases r with
  |error e=>exact (hCX H e s' h).elim
  | ok fl =>
    cases fl with
    |next=>exact False.elim h
    |brk=>exact False.elim h
    |cont=>exact False.elim h
    | ret u =>
      obtain⟨v,H',os,bare,un,hok',r',q⟩:=h
      have q':v=.bl true:=q
      subst q'
      obtain rfl:u=Value.bool true:=r'
      refine⟨rfl,OldK.of_keep fun b o e=>?_,os,bare⟩
      cases q:H b with
      |none=>exact un.keep b o e q (by intro z;exact absurd (show b∈([]:List Addr) from z) (by simp)) (by simp)
      | some u =>
        rcases hO b with z|⟨ob,xs,z⟩
        · rw[q] at z;cases z
        · have z2:=un.frzs b ob _ z
          obtain⟨e1,_⟩:=hok b _ z
          obtain⟨e2,_⟩:=hok' b _ z2
          rw[e] at e1;cases e1
          exact e2
 cases hk:K.lookup a with
 | some o =>
   -- the script is one of the module's own objects
   have e:=KX a o hk
   rw[ha] at e
   cases e
   refine core (fun _=>none) (fun _=>.inl rfl) (.inr ⟨_,vs.toArray,_,hk,rfl,rfl,rfl,by rw[List.size_toArray,lenV];exact hl,by simpa using rv⟩) (fun b u z=>by have z':(none:Option HO)=some u:=z;cases z') (fun b z=>absurd rfl z) fun z=>absurd rfl z
 | none =>
   refine core (fun b=>if b=a then some (.frz {cls:=.type "list",data:=.seq vs.toArray} (.lst (ns.map V.int))) else none) (fun b=>?_) (.inl (.inr ⟨{cls:=.type "list",data:=.seq vs.toArray},if_pos rfl⟩)) (fun b u z=>?_) (fun b z=>?_) fun _=>hk
   · by_cases hb:b=a
     · exact .inr ⟨_,_,if_pos hb⟩
     · exact .inl (if_neg hb)
   · by_cases hb:b=a
     · have z':=(if_pos hb).symm.trans z
       cases z'
       subst hb
       exact⟨ha,by rw[List.length_map];exact hl,vs,_,rv,ha⟩
     · have z':=(if_neg hb).symm.trans z
       cases z'
   · by_cases hb:b=a
     · exact hb
     · exact absurd (if_neg hb) z
end L2
namespace L2
open PySem PySem.Spec PyProof.Rows
theorem walk_of {l:PySem.W.OpenLaw}{n k:Nat}{q:Program}{loose:List Str}{XP:(Str->Option Value)->Heap->Prop}{YP:World->Heap->Prop}{d:DefRec}{K:Params->PySem.W.Frag}{CX:World->CXT}{sp:World->Sp}{x:Str}
  (hn:l.most=some n) (hn2:n<=sizeLine) (hdf:d.params.defaults=[]) (hr:Room k callerA)
  (hY:∀(w:World) (h:Heap),YP w h->(K w.params).In h)
  (F:∀(w:World) (mg:Str->Option Value) (fa:Addr) (h:Heap),(K w.params).In h->h.Ns mainGlobals mg->mg d.name=some (.ref fa)->
   ∃fd:FuncData,(∀(s:Shared) (u:Value),BindsTo s fd ⟨[u],[]⟩ [(x,u)])/\
    ∀base:Heap,(K w.params).In base->base.Ns mainGlobals mg->FnOk l.prog w (K w.params) mg base (CX w) k fa fd [x] (sp w))
  (hsp:∀(w:World) (H:Hp) (a:Addr) (ns:List Int),ns.length<=n->Only H->SqL (K w.params) H a (ns.map V.int)->sp w [.ref a] H (fun v _=>v=.bl true) fun _ _ _=>False)
  (hCX:∀(w:World) (H:Hp) (s:Shared) (e:Value) (s':Shared),CX w [] H s (fun _ _ _=>False) e s'->False) :
  PySem.W.WalkO q loose XP YP l.row.toRowW d [] (fun f vs=>PySem.call f vs):=by
 refine Att.attach_call hn hdf fun w s₀ s₁ mg mb fa o pm cd doc a vs ns G Y ho hd hcd hmg hobj hints hlen hg=>?_
 have KX:=hY w _ Y
 obtain⟨fd,hb,hF⟩:=F w mg fa _ KX G.T.g hmg
 exact zjl KX G.T.g G.T.b G.T.builtins G.T.nolimit hg hobj hints (Nat.le_trans hlen hn2) hr hF hb (fun H hO hS=>hsp w H a ns hlen hO hS) fun H e s'=>hCX w H s₁ e s'
end L2
/- THE LAST THEOREM (shape;LID,My.* are yours):
 My.Adr: a structure of the addresses that your layer names (classes,functions);My.Txt K t: a structure (Prop) of the equations over K;
 My.txt_mk:{K} {implicit addresses ..} (e1:nsIn K mainGlobals "law"=some (some (.ref f))) (e2:K.lookup f=some ⟨oc,od,.func (fnOf "law" "law" params body scope dV kV doc pm an cdv ct),sl⟩) (e3:codeIn K cdv "law"=true) ..:∃t,My.Txt K t
set_option maxRecDepth 100000 in
set_option maxHeartbeats 0 in
theorem PySem.Challenge.cw_LID_holds : PySem.Challenge.rw_LID.Holds := by
 w_on;o_law;k_head;(case hw=>w_witness2)
 k_fill
 refine L2.walk_of (l:=PySem.Challenge.rw_LID) (n:=63) (k:=40) (x:="script") (CX:=fun w=>..) (sp:=fun _=>My.sp_law) rfl (by decide) rfl ⟨rfl,by decide,by decide⟩ (fun w h Y=>PySem.W.kIn_of Y) ?F ?S ?C
 case F=>
  intro w mg fa h KX G hmg
  have T:∃t,My.Txt (L2.KOf KX) t:=by
   dsimp only[L2.KOf] -- K must stand as «<heap const> w.params» for k_is
   refine' My.txt_mk ?e1 ?e2 ?e3 ..
   (case e1=>PySem.W.k_is) -- in the order: a name -> its address -> its object -> its parts
   (case e2=>PySem.W.k_is)
   ..
  obtain⟨t,T⟩:=T
  have e0:=hmg.symm.trans (PySem.W.mg_of KX G T.law)
  cases e0 -- fa is the law's own address
  exact⟨_,fun s u=>.of_eq rfl,fun base kb nb=>My.law_fn T kb nb⟩ -- if «.of_eq rfl» comes too early: refine'⟨_,?b,fun base kb nb=>My.law_fn T kb nb⟩;exact fun s u=>.of_eq rfl
 case S=>exact fun w H a ns hl hO hS=>..
 case C=>exact ..
(the tactic k_is has no namespace: write k_is) -/
namespace L2
open PySem PySem.Spec PyProof.Rows
noncomputable def zoG (s:Stmt)(j:Nat):Stmt:=match s with
 |.ClassDef _ _ _ body _ _ _ _ _ _ _=>body.getD j (.Pass ⟨0,0,0,0⟩)
 |_=>.Pass ⟨0,0,0,0⟩
noncomputable def zaC (s:Stmt):Arguments:=match s with
 |.FunctionDef _ a _ _ _ _ _ _ _ _=>a
 |_=>{posonlyargs:=[],args:=[],vararg:=none,kwonlyargs:=[],kw_defaults:=[],kwarg:=none,defaults:=[]}
noncomputable def zai (s:Stmt):List Stmt:=match s with
 |.FunctionDef _ _ b _ _ _ _ _ _ _=>b
 |_=>[]
noncomputable def zad (s:Stmt):Scope:=match s with
 |.FunctionDef _ _ _ _ _ _ sc _ _ _=>sc
 |_=>{kind:=.function,names:=[],isGenerator:=false,isCoroutine:=false}
noncomputable abbrev CX0:CXT:=fun _ _ _ _ _ _=>False
noncomputable abbrev E0:XK:=fun _ _ _=>False
theorem zfp {X:Cx}:zdy CX0 X E0:=fun _ _ _ _ _ _ _ h=>h.elim
structure Fun (K:PySem.W.Frag) (x qual:Str) (st:Stmt) (f:Addr) (fd:FuncData):Prop where
 ex:∃(oc:Value) (od:Option Addr) (kV doc pm:Value) (an:Option Addr) (cdv ct:Value) (osl:Array (Option Value)),
  fd=PySem.W.fnOf x qual (zaC st) (zai st) (zad st) .none kV doc pm an cdv ct/\K.lookup f=some ⟨oc,od,.func fd,osl⟩/\PySem.W.codeIn K cdv qual=true
 kp:PySem.W.keepIn K (.ref f)=true
section
variable {P:Program} {w:World} {K:PySem.W.Frag} {mg:Str->Option Value} {base:Heap}
end
section
variable {X:Cx}
end
noncomputable def Same (H H':Hp):Prop:=∀b o,H b=some o->H' b=some o
end L2
namespace L2
open PySem PySem.Spec PyProof.Rows
section
variable {X:Cx}
theorem ziw:za7 X (.builtin "len") (fun xs H Q=>∃a kvs,xs=[V.ref a]/\H a=some (.dK kvs)/\Q (.int kvs.length) H):=by
 intro pins s σ H xs us Q I r h
 obtain⟨a,kvs,rfl,ha,q⟩:=h
 obtain⟨u,rfl,ru⟩:=zha r
 cases ru
 exact zoP I (.inl ha) fun t s' I'=>⟨.int kvs.length,H,I',⟨t,rfl⟩,q⟩
end
section
variable {κ:Type} [DecidableEq κ]
end
end L2
end
section
namespace L2
open PySem PySem.Spec PyProof.Rows
noncomputable def zbh (cells:List (Str × Addr))(y:Str × NameKind)(acc:List (Str × Addr)):List (Str × Addr):=
 if (y.2 == NameKind.free)=true then (match cells.lookup y.1 with|some c=>(y.1,c)::acc|none=>acc) else acc
noncomputable def zfA (cells:List (Str × Addr))(names:List (Str × NameKind))(acc:List (Str × Addr)):List (Str × Addr):=names.foldl (fun a y=>zbh cells y a) acc
theorem zdo {α β:Type}(f:α->β->Sem (ForInStep β))(g:α->β->β):∀(l:List α) (b:β),(∀x∈l,∀b,f x b=pure (.yield (g x b)))->forIn l b f=(pure (l.foldl (fun b x=>g x b) b):Sem β)
 | [],b,_=>rfl
 | x :: l, b, h => by
   rw[List.forIn_cons,h x List.mem_cons_self,pure_bind]
   exact zdo f g l _ fun y hy=>h y (List.mem_cons_of_mem _ hy)
theorem zbJ {scope:Scope}{env:Env}(h:∀y∈scope.names,y.2=.free->∃c,env.cells.lookup y.1=some c) :
  closureFor scope env=pure (zfA env.cells scope.names []):=by
 unfold closureFor zfA
 dsimp only
 rw[zdo _ (fun y a=>zbh env.cells y a)]
 · simp
 · intro y hy a
   obtain⟨n,k⟩:=y
   by_cases hk:k=.free
   · obtain⟨c,hc⟩:=h _ hy hk
     subst hk
     simp at hc
     simp[cellOf,hc,zbh]
   · have:(k == NameKind.free)=false:=by simpa using hk
     simp[this,zbh]
theorem ze4 {cells:List (Str × Addr)}:∀(names:List (Str × NameKind)) (acc:List (Str × Addr)),(∀x c,acc.lookup x=some c->cells.lookup x=some c)->
  ∀x c,(zfA cells names acc).lookup x=some c->cells.lookup x=some c
 | [],acc,h=>h
 | y :: r, acc, h => by
   refine ze4 r (zbh cells y acc) ?_
   intro x c e
   unfold zbh at e
   split at e
   · split at e
     · rename_i c' hc'
       rw[List.lookup_cons] at e
       cases hx:x == y.1 with
       | true =>
         rw[hx] at e
         have q:x=y.1:=beq_iff_eq.mp hx
         have e':c'=c:=Option.some.inj e
         rw[q,<-e']
         exact hc'
       |false=>rw[hx] at e;exact h x c e
     · exact h x c e
   · exact h x c e
theorem zdu {cells:List (Str × Addr)}:∀(names:List (Str × NameKind)) (acc:List (Str × Addr)) (x:Str),(∀y∈names,y.2=.free->∃c,cells.lookup y.1=some c)->
  ((∃c,acc.lookup x=some c)\/(x,NameKind.free)∈names)->∃c,(zfA cells names acc).lookup x=some c
 | [], acc, x, _, h => by
   rcases h with h|h
   · exact h
   · cases h
 | y :: r, acc, x, hf, h => by
   refine zdu r (zbh cells y acc) x (fun z hz=>hf z (List.mem_cons_of_mem _ hz)) ?_
   rcases h with ⟨c,h⟩|h
   · left
     unfold zbh
     split
     · split
       · rename_i c' hc'
         rw[List.lookup_cons]
         cases hx:x == y.1 with
         |true=>exact⟨c',rfl⟩
         |false=>exact⟨c,h⟩
       · exact⟨c,h⟩
     · exact⟨c,h⟩
   · rcases List.mem_cons.mp h with h|h
     · left
       subst h
       obtain⟨c,hc⟩:=hf _ List.mem_cons_self rfl
       refine⟨c,?_⟩
       simp at hc
       simp[zbh,hc]
     · exact .inr h
noncomputable def zb4 (env:Env)(y:Str × NameKind):Str × NameKind:=if (y.2 == .free&&env.scope.kind == .function&&env.kindOf y.1 == some .cell)=true then (y.1,.cell) else y
theorem zbB (scope:Scope)(env:Env):(relabel scope env).names=scope.names.map (zb4 env):=by
 unfold relabel
 show scope.names.map _=_
 refine List.map_congr_left fun y _=>?_
 obtain⟨n,k⟩:=y
 rfl
theorem zc2 (env:Env)(y:Str × NameKind):(zb4 env y).1=y.1:=by unfold zb4;split<;>rfl
theorem zc1 (env:Env)(y:Str × NameKind):(zb4 env y).2=y.2\/(y.2=.free/\(zb4 env y).2=.cell):=by
 unfold zb4
 split
 · rename_i h
   simp only[Bool.and_eq_true,beq_iff_eq] at h
   exact .inr ⟨h.1.1,rfl⟩
 · exact .inl rfl
theorem zbM (env:Env)(x:Str):∀names:List (Str × NameKind),∀k,(names.map (zb4 env)).lookup x=some k->∃k0,(x,k0)∈names/\names.lookup x=some k0/\(k=k0\/(k0=.free/\k=.cell))
 | [],k,h=>by simp at h
 | y :: r, k, h => by
   rw[List.map_cons] at h
   have f1:=zc2 env y
   have f2:=zc1 env y
   obtain⟨n,k1⟩:=y
   generalize hz:zb4 env (n,k1)=z at *
   obtain⟨zn,zk⟩:=z
   simp only at f1 f2
   subst f1
   rw[List.lookup_cons] at h
   rw[List.lookup_cons]
   cases hx:x == zn with
   | true =>
     rw[hx] at h
     have q:x=zn:=beq_iff_eq.mp hx
     subst q
     have e:zk=k:=Option.some.inj h
     subst e
     exact⟨k1,List.mem_cons_self,rfl,f2⟩
   | false =>
     rw[hx] at h
     obtain⟨k0,m,l,q⟩:=zbM env x r k h
     exact⟨k0,List.mem_cons_of_mem _ m,l,q⟩
theorem zbC (env:Env)(x:Str):∀names:List (Str × NameKind),names.lookup x=some .free->(names.map (zb4 env)).lookup x=some .free\/(names.map (zb4 env)).lookup x=some .cell
 | [],h=>by simp at h
 | y :: r, h => by
   rw[List.map_cons]
   have f1:=zc2 env y
   have f2:=zc1 env y
   obtain⟨n,k1⟩:=y
   generalize hz:zb4 env (n,k1)=z at *
   obtain⟨zn,zk⟩:=z
   simp only at f1 f2
   subst f1
   rw[List.lookup_cons] at h
   rw[List.lookup_cons]
   cases hx:x == zn with
   | true =>
     rw[hx] at h
     have e:k1=.free:=Option.some.inj h
     subst e
     rcases f2 with f2|⟨_,f2⟩
     · left;show some zk=_;rw[f2]
     · right;show some zk=_;rw[f2]
   | false =>
     rw[hx] at h
     exact zbC env x r h
structure CompOk (sc scope:Scope) (N0:List Str) (js:List Nat):Prop where
 kind:scope.kind=.function
 nocell:∀y∈scope.names,y.2≠.cell
 locs:∀y∈scope.names,y.2=.local->scope.names.lookup y.1=some .local
 frees:∀y∈scope.names,y.2=.free->sc.names.lookup y.1=some .cell\/sc.names.lookup y.1=some .free
 caps:∀j∈js,scope.names.lookup (N0.getD j "")=some .free/\j<N0.length
noncomputable abbrev zaM (X:Cx)(N':List Str)(scope:Scope)(cl:List (Str × Addr))(C:Addr)(fp:List Addr)(s:Shared)(H:Hp)(pn:List (Addr × Obj)):Cx:=
 {X with N:=N',s₀:=s,H₀:=H,env:=compEnvC scope cl C X.env,outer:=X.stack,stack:=X.stack,ex:=fp,fn:=fun _=>false,pn:=pn,xe:=fun _ _=>False}
noncomputable def csl (nt:Nat)(js:List Nat)(σ:St):St:=List.replicate nt none++js.map fun j=>(σ[j]?).join
noncomputable abbrev capN (N0:List Str)(tgs:List Str)(js:List Nat):List Str:=tgs++js.map fun j=>N0.getD j ""
noncomputable def PTs (X:Cx)(ifs:List Expr)(t:TT):Prop:=
 ∀(pins:List (Addr × Obj)) (s:Shared) (σ:St) (H:Hp) (Q:Bool->Hp->Prop),Inv X pins σ H s->t σ H Q->
  wpAny (model X.prog X.w) X.A (forIn ifs true fun c r=>if r=true then do let ok <-isTrue c X.env (eval c X.env);pure (ForInStep.yield ok) else pure (ForInStep.yield r)) (TP X pins σ Q) X.xe s
noncomputable def tYes:TT:=fun _ H Q=>Q true H
theorem zkO {X:Cx}:PTs X [] tYes:=fun pins s σ H Q I h=>wpAny_tests_nil ⟨H,I,h⟩
theorem zhy {X:Cx}{c:Expr}{t:TT}(h:PT X c t):PTs X [c] t:=fun pins s σ H Q I q=>wpAny_tests_one (h pins s σ H Q I q)
noncomputable def zkj (nt:Nat)(js:List Nat)(wi:TI)(g:TG)(tt:TT)(te:TE):TE:=fun σ H Q=>wi σ H fun J H1=>∀p,H1 p=none->
 ∃W:Nat->Nat->St->Hp->Prop,(∃m,W 0 m (csl nt js σ) (upd H1 p (.lst [])))/\∀i m σ' H',W i m σ' H'->
  (J.stop i H'/\Q (.ref p) H')\/(J.go i H'/\∃N:St->Hp->Prop,(∀σ2 H2,N σ2 H2->∃m',m'<m/\W (i+1) m' σ2 H2)/\
   ∀x H2,J.yld i H' x H2->g x σ' H2 fun σ2 H3=>tt σ2 H3 fun b H4=>if b=true then te σ2 H4 fun v H5=>∃acc,H5 p=some (.lst acc)/\acc.length<sizeLine/\N σ2 (upd H5 p (.lst (acc++[v]))) else N σ2 H4)
section
variable {prog:Program} {w:World} {A:Around} {R:Result->Shared->Prop} {s:Shared}
theorem zgU {elt tg iter:Expr}{ifs:List Expr}{scope:Scope}{pos:Pos}{it acc:Value}{env:Env}(J:Nat->Shared->Prop)
  (turn:∀n s,J n s->wpAny (model prog w) A (pyNext it) (fun r s₁=>(r=none/\R (.ok .next) s₁)\/∃v,r=some v/\
   wpAny (model prog w) A (letOwnedTupleGo tg it v) (fun _ s₀=>wpAny (model prog w) A (assign tg env v) (fun _ s₂=>
    wpAny (model prog w) A (forIn ifs true fun c r=>if r=true then do let ok <-isTrue c env (eval c env);pure (ForInStep.yield ok) else pure (ForInStep.yield r)) (fun ok s₃=>
     if ok=true then wpAny (model prog w) A (eval elt env) (fun x s₄=>wpAny (model prog w) A (call (.builtin "list.append") [acc,x]) (fun _ s₅=>∃m,m<n/\J m s₅) (fun _ _=>False) s₄) (fun _ _=>False) s₃
     else ∃m,m<n/\J m s₃) (fun _ _=>False) s₂) (fun _ _=>False) s₀) (fun _ _=>False) s₁) (fun _ _=>False) s)
  (n:Nat) (h:J n s):codeAny (model prog w) A (.compLoop (.ListComp elt [⟨tg,iter,ifs,0⟩] scope pos) 0 it acc env) R s:=by
 refine codeAny_loop rfl J (fun n s hI=>?_) n h
 show wpAny _ A ((compTurn (.ListComp elt [⟨tg,iter,ifs,0⟩] scope pos) 0 it acc env).onRaise (fun x=>do noteFrame x env;theTreesLotGoes x)) _ _ s
 refine wpAny_noted ?_
 rw[compTurn_list]
 refine wpAny_bind (wpAny_standAt (wpAny_bind (wpAny_mono (turn n s hI) (fun r s₁ h₁=>?_) fun _ _ f=>f.elim)))
 rcases h₁ with ⟨rfl,h₁⟩|⟨v,rfl,h₁⟩
 · exact wpAny_pure h₁
 · refine wpAny_bind (wpAny_mono h₁ (fun _ s₀ h₀=>?_) fun _ _ f=>f.elim)
   refine wpAny_bind (wpAny_mono h₀ (fun _ s₂ h₂=>?_) fun _ _ f=>f.elim)
   refine wpAny_bind (wpAny_mono h₂ (fun ok s₃ h₃=>?_) fun _ _ f=>f.elim)
   cases ok with
   |false=>exact wpAny_pure ⟨rfl,h₃⟩
   | true =>
     refine wpAny_bind (wpAny_bind (wpAny_mono h₃ (fun x s₄ h₄=>?_) fun _ _ f=>f.elim))
     exact wpAny_bind (wpAny_mono h₄ (fun _ s₅ h₅=>wpAny_pure (wpAny_pure ⟨rfl,h₅⟩)) fun _ _ f=>f.elim)
end
section
variable {X:Cx} {sc scope:Scope} {tgs:List Str} {js:List Nat} {elt tg iter:Expr} {ifs:List Expr} {pos:Pos} {wi:TI} {g:TG} {tt:TT} {te:TE}
theorem zdO (hc:X.calm=true)(hsc:X.env.scope=sc)(ok:CompOk sc scope X.N js)
  (hg:∀cl C fp s H pn,PG (zaM X (capN X.N tgs js) scope cl C fp s H pn) tg g)
  (ht:∀cl C fp s H pn,PTs (zaM X (capN X.N tgs js) scope cl C fp s H pn) ifs tt)
  (he:∀cl C fp s H pn,PE (zaM X (capN X.N tgs js) scope cl C fp s H pn) elt te)
  {pins:List (Addr × Obj)} {σ:St} {H2:Hp} {s2:Shared} {it:Addr} {fp:List Addr} {tn:Nat->Heap->Prop} {J:It} {E:Value->Shared->Prop} {RR:Value->Addr->Result->Shared->Prop} {Q:VK}
  (I2:Inv X pins σ H2 s2) (T:Turn X.prog X.w X.K tg J fp it tn) (st2:tn 0 s2.heap) (f2:∀b∈fp,FpOk X pins H2 b)
  (rd:∀p,H2 p=none->∃W:Nat->Nat->St->Hp->Prop,(∃m,W 0 m (csl tgs.length js σ) (upd H2 p (.lst [])))/\∀i m σ' H',W i m σ' H'->
   (J.stop i H'/\Q (.ref p) H')\/(J.go i H'/\∃N:St->Hp->Prop,(∀σ2 H2,N σ2 H2->∃m',m'<m/\W (i+1) m' σ2 H2)/\
    ∀x H2,J.yld i H' x H2->g x σ' H2 fun σ2 H3=>tt σ2 H3 fun b H4=>if b=true then te σ2 H4 fun v H5=>∃acc,H5 p=some (.lst acc)/\acc.length<sizeLine/\N σ2 (upd H5 p (.lst (acc++[v]))) else N σ2 H4))
  (fin:∀p C H' s',Inv X pins σ H' s'->(∃m,s'.heap.Ns C m)->s2.heap.objs.size<C->H' C=none->Q (.ref p) H'->RR (.ref p) C (.ok .next) s') :
  wpAny (model X.prog X.w) X.A (newList []) (fun acc s₃=>wpAny (model X.prog X.w) X.A (newFunctionEnv scope X.env.globals (zfA X.env.cells scope.names []) [] X.env.qual none .none (some X.env)) (fun cenv s₄=>
   codeAny (model X.prog X.w) X.A (.compStart (.ListComp elt [⟨tg,iter,ifs,0⟩] scope pos) 0 (.ref it) acc {cenv with scope:=relabel scope X.env}) (RR acc cenv.locals) s₄) E s₃) E s2:=by
 subst hsc
 refine wpAny_newObj_type (wpAny_newFunctionEnv ok.nocell (by intro y hy;simp at hy) (fun h₁ hns₁ hsb₁=>?_) ok.kind)
 have I3:Inv X pins σ (upd H2 s2.heap.objs.size (.lst [])) {s2 with heap:=s2.heap.push {cls:=.type "list",data:=.seq ([]:List Value).toArray}}:=
  I2.lnew (its:=[]) (ys:=[]) (t':=s2.toks) .nil (Nat.zero_le _)
 obtain⟨W,⟨m0,w0⟩,turn⟩:=rd _ I2.fresh
 generalize hp:s2.heap.objs.size=p at *
 generalize hs3:({s2 with heap:=s2.heap.push {cls:=.type "list",data:=.seq ([]:List Value).toArray}}:Shared)=s3 at I3
 have e3:s3.heap=s2.heap.push {cls:=.type "list",data:=.seq ([]:List Value).toArray}:=by rw[<-hs3]
 have sz3:s3.heap.objs.size=p+1:=by rw[e3,Heap.size_push,hp]
 generalize hH3:upd H2 p (.lst [])=H3 at *
 -- the block's frame
 have hns:h₁.Ns s3.heap.objs.size (fun x=>([]:List (Str × Value)).reverse.lookup x):=by rw[e3];exact hns₁
 have hsb:Heap.SameBut s3.heap.objs.size (s3.heap.push {cls:=.type "dict",data:=.dict #[]}) h₁:=by rw[e3];exact hsb₁
 have old:∀b o,s3.heap.get? b=some o->h₁.get? b=some o:=fun b o e=>
  (hsb.2 b (Nat.ne_of_lt (Heap.lt_size e))).trans (Heap.get?_push_of_some _ e)
 have frees:∀y∈scope.names,y.2=.free->∃c,X.env.cells.lookup y.1=some c:=fun y hy hk=>I2.ok.has y.1 (ok.frees y hy hk)
 have cellX:∀x c,(zfA X.env.cells scope.names []).lookup x=some c->X.env.cells.lookup x=some c:=ze4 scope.names [] (fun x c e=>by simp at e)
 generalize hcl:zfA X.env.cells scope.names []=cl at *
 have okX:(zaM X (capN X.N tgs js) scope cl s3.heap.objs.size fp s3 H3 (X.pn++pins)).Ok:=
  { mod := I3.ok.mod, kind := ok.kind, glob := I3.ok.glob, blt := I3.ok.blt, above := Nat.le_refl _,
    inj:=fun x y c e1 e2=>I3.ok.inj x y c (cellX x c e1) (cellX y c e2),
    has:=fun x hk=>by
     have hk':(scope.names.map (zb4 X.env)).lookup x=some .cell\/(scope.names.map (zb4 X.env)).lookup x=some .free:=by
      rw[<-zbB];exact hk
     rw[<-hcl]
     refine zdu scope.names [] x frees (.inr ?_)
     rcases hk' with q|q
     · obtain⟨k0,m,_,e⟩:=zbM X.env x _ _ q
       rcases e with e|⟨e,_⟩
       · subst e;exact absurd rfl (ok.nocell _ m)
       · subst e;exact m
     · obtain⟨k0,m,_,e⟩:=zbM X.env x _ _ q
       rcases e with e|⟨e,z⟩
       · subst e;exact m
       · exact absurd z (fun h=>(nomatch h)),
    cab:=fun x c e=>absurd e Bool.false_ne_true,hd:=I3.ok.hd,frames:=I3.ok.frames,stk:=.inl rfl,
    exf:=fun b hb=>⟨Nat.ne_of_lt (by
     obtain⟨o,ho,_⟩:=T.obj 0 _ st2 b hb
     show b<s3.heap.objs.size
     rw[sz3,<-hp]
     exact Nat.lt_succ_of_lt (Heap.lt_size ho)),fun x c e=>(f2 b hb).2.2.2.2.1 x c (cellX x c e)⟩,
    bs:=I3.bs,bsz:=Nat.le_trans I3.ok.bsz I3.sz,
    noex:=fun b o e hb=>by
     rcases (f2 b hb).2.2.2.1 with z|z
     · exact I3.ok.noex b o e z
     · exact absurd (Nat.lt_of_lt_of_le (Heap.lt_size e) (Nat.le_trans I3.ok.bsz z)) (Nat.lt_irrefl _),
    exfs:=fun b hb hx=>by
     rcases List.mem_cons.mp (I3.stkSub b hx) with z|z
     · exact (f2 b hb).2.1 z
     · exact (f2 b hb).2.2.1 z,
    funs:=I3.stack,frf:=I3.stkFree}
 have I4:Inv (zaM X (capN X.N tgs js) scope cl s3.heap.objs.size fp s3 H3 (X.pn++pins)) [] (csl tgs.length js σ) H3 {s3 with heap:=h₁}:=
  { ok := okX, os := rfl, bare := I3.bare, base := Un.kept old,
    loc:=⟨_,hns,fun i x v e1 e2 e3=>by
     have e1:(tgs++js.map fun j=>X.N.getD j "")[i]?=some x:=e1
     have e2:(List.replicate tgs.length none++js.map fun j=>(σ[j]?).join)[i]?=some (some v):=e2
     by_cases hi:i<tgs.length
     · rw[List.getElem?_append_left (by rw[List.length_replicate];exact hi),List.getElem?_replicate,if_pos hi] at e2
       cases e2
     · rw[List.getElem?_append_right (by omega),List.getElem?_map] at e1
       rw[List.getElem?_append_right (by rw[List.length_replicate];omega),List.length_replicate,List.getElem?_map] at e2
       cases hj:js[i - tgs.length]? with
       |none=>rw[hj] at e1;cases e1
       | some j =>
         rw[hj] at e1 e2
         have e1:X.N.getD j ""=x:=Option.some.inj e1
         have e2:(σ[j]?).join=some v:=Option.some.inj e2
         have hjm:j∈js:=List.mem_of_getElem? hj
         obtain⟨hfr,hjl⟩:=ok.caps j hjm
         rw[e1] at hfr
         have hNj:X.N[j]?=some x:=by
          rw[List.getElem?_eq_getElem hjl]
          rw[List.getD_eq_getElem?_getD,List.getElem?_eq_getElem hjl] at e1
          exact congrArg some e1
         have hσ:σ[j]?=some (some v):=by
          cases q:σ[j]? with
          |none=>rw[q] at e2;cases e2
          | some o =>
            rw[q] at e2
            have e2:o=some v:=e2
            rw[e2]
         have hmem:(x,NameKind.free)∈scope.names:=by
          obtain⟨l1,l2,h3,_⟩:=List.lookup_eq_some_iff.mp hfr
          rw[h3];simp
         have hkX:=ok.frees _ hmem rfl
         have hvis:Vis X.env.scope x:=hkX.elim (fun z=>.inr (.inl z)) fun z=>.inr (.inr z)
         obtain⟨m,hn,hl⟩:=I3.loc
         obtain⟨u,r,lk⟩:=hl j x v hNj hσ hvis
         refine⟨u,r,.inr ⟨?_,?_⟩⟩
         · have q:=zbC X.env x scope.names hfr
           rw[<-zbB] at q
           exact q.symm
         · rcases lk with ⟨k,_⟩|⟨_,c,ec,z⟩
           · exfalso
             have k:X.env.scope.names.lookup x=some .local:=k
             rcases hkX with q|q<;>(rw[k] at q;cases q)
           · obtain⟨c',hc'⟩:∃c',cl.lookup x=some c':=by
              rw[<-hcl]
              exact zdu scope.names [] x frees (.inr hmem)
             have q:=cellX x c' hc'
             rw[ec] at q
             cases q
             obtain⟨o,ho,hd⟩:=z
             exact⟨c,hc',o,old _ _ ho,hd⟩⟩,
    cell:=fun x c e=>by
     obtain⟨v,o,ho,hd⟩:=I3.cell x c (cellX x c e)
     exact⟨v,o,old _ _ ho,hd⟩,
    free:=I3.fresh,
    freeC:=fun x c e=>I3.freeC x c (cellX x c e),
    pin:=fun q hq=>by
     have hq:q∈X.pn++pins:=by simpa using hq
     obtain⟨e,n,ne,nf,d⟩:=I3.pin q hq
     refine⟨old _ _ e,n,Nat.ne_of_lt (Heap.lt_size e),fun z=>?_,d⟩
     rcases List.mem_cons.mp (I3.stkSub _ z) with z|z
     · exact ne z
     · exact nf z,
    hok:=I3.hok.kept old,
    len:=by
     show (List.replicate tgs.length none++js.map fun j=>(σ[j]?).join).length=(tgs++js.map fun j=>X.N.getD j "").length
     simp}
 have stat:∀{H':Hp},(∀b∈fp,H' b=none)->∀b∈fp,FpOk (zaM X (capN X.N tgs js) scope cl s3.heap.objs.size fp s3 H3 (X.pn++pins)) [] H' b:=fun hn b hb=>
  ⟨hn b hb,(okX.exf b hb).1,okX.exfs b hb,.inl hb,(okX.exf b hb).2,fun q hq=>by
   have hq:q∈X.pn++pins:=by simpa using hq
   exact (f2 b hb).2.2.2.2.2 q hq⟩
 have fr3:∀b∈fp,H3 b=none:=fun b hb=>by
  obtain⟨o,ho,_⟩:=T.obj 0 _ st2 b hb
  rw[<-hH3,zap (Nat.ne_of_lt (hp▸Heap.lt_size ho))]
  exact (f2 b hb).1
 have st4:tn 0 h₁:=T.keep 0 _ _ st2 fun b hb o e=>old b o (by rw[e3];exact Heap.get?_push_of_some _ e)
 have loop:codeAny (model X.prog X.w) X.A (.compLoop (.ListComp elt [⟨tg,iter,ifs,0⟩] scope pos) 0 (.ref it) (.ref p) (compEnvC scope cl s3.heap.objs.size X.env)) (RR (.ref p) s3.heap.objs.size) {s3 with heap:=h₁}:=by
  refine zgU (fun n s'=>∃i σ' H',Inv (zaM X (capN X.N tgs js) scope cl s3.heap.objs.size fp s3 H3 (X.pn++pins)) [] σ' H' s'/\tn i s'.heap/\(∀b∈fp,H' b=none)/\W i n σ' H') ?_ m0 ⟨0,_,H3,I4,st4,fr3,w0⟩
  rintro n s4 ⟨i,σ4,H4,J4,st4,fr4,w4⟩
  rcases turn i n σ4 H4 w4 with ⟨stop,qn⟩|⟨go,N,hN,step⟩
  · refine thn (T.done (zaM X (capN X.N tgs js) scope cl s3.heap.objs.size fp s3 H3 (X.pn++pins)) rfl rfl rfl hc i [] s4 σ4 H4 _ J4 (stat fr4) st4 stop) fun r s5 ⟨hr,J5⟩=>.inl ⟨hr,?_⟩
    have hX:Inv X pins σ H4 s5:=I3.call' J5.os J5.base J5.hok J5.bare fun b hb=>⟨(f2 b hb).2.2.2.1,(f2 b hb).2.1,(f2 b hb).2.2.2.2.1,(f2 b hb).2.2.2.2.2⟩
    obtain⟨m,hm,_⟩:=J5.loc
    exact fin p _ H4 s5 hX ⟨m,hm⟩ (by rw[sz3];exact Nat.lt_succ_self _) J5.free qn
  · refine thn (T.item (zaM X (capN X.N tgs js) scope cl s3.heap.objs.size fp s3 H3 (X.pn++pins)) rfl rfl rfl hc i [] s4 σ4 H4 _ J4 (stat fr4) st4 go) fun r s5 ⟨u,hr,h5⟩=>.inr ⟨u,hr,?_⟩
    refine thn h5 fun _ s6 ⟨x,H6,J6,r6,y6,st6,fr6⟩=>?_
    have J6':=J6.pinned (stat fr6) (T.obj _ _ st6)
    refine thn (hg _ _ _ _ _ _ _ s6 σ4 H6 x u _ J6' r6 (step x H6 y6)) fun _ s7 ⟨σ7,H7,J7,q7⟩=>?_
    refine thn (ht _ _ _ _ _ _ _ s7 σ7 H7 _ J7 q7) fun ok8 s8 ⟨H8,J8,q8⟩=>?_
    have again:∀{s9:Shared} {H9:Hp},Inv (zaM X (capN X.N tgs js) scope cl s3.heap.objs.size fp s3 H3 (X.pn++pins)) ([]++zeQ fp s6.heap) σ7 H9 s9->N σ7 H9->
      ∃m,m<n/\∃i σ' H',Inv (zaM X (capN X.N tgs js) scope cl s3.heap.objs.size fp s3 H3 (X.pn++pins)) [] σ' H' s9/\tn i s9.heap/\(∀b∈fp,H' b=none)/\W i m σ' H':=fun {s9 H9} J9 n9=>by
     obtain⟨m',hm,w9⟩:=hN σ7 H9 n9
     refine⟨m',hm,i+1,σ7,H9,J9.unpinned,T.keep _ _ _ st6 fun b hb o e=>(J9.pin (b,o) (List.mem_append_right _ (List.mem_append_right _ (zb2 hb e)))).1,fun b hb=>?_,w9⟩
     obtain⟨o,e,d⟩:=T.obj _ _ st6 b hb
     exact (J9.pin (b,o) (List.mem_append_right _ (List.mem_append_right _ (zb2 hb e)))).2.1
    cases ok8 with
    |false=>exact again J8 q8
    | true =>
      refine thn (he _ _ _ _ _ _ _ s8 σ7 H8 _ J8 q8) fun y s9 ⟨v,H9,J9,r9,acc,ha,hl,q9⟩=>?_
      refine thn (zeR _ s9 σ7 H9 (.ref p) [v] (.ref p) [y] (fun _ H=>N σ7 H) J9 rfl (.cons r9 .nil) ⟨p,acc,v,rfl,rfl,ha,hl,q9⟩) fun _ s10 ⟨_,H10,J10,_,q10⟩=>?_
      exact again J10 q10
 exact codeAny_compStart_list loop (T.self _ 0 _ _ _ st4 loop)
theorem zi8 (sc:Scope)(tgs:List Str)(js:List Nat)(hc:X.calm=true)(hsc:X.env.scope=sc)(ok:CompOk sc scope X.N js)(hi:PI X tg iter wi)
  (hg:∀cl C fp s H pn,PG (zaM X (capN X.N tgs js) scope cl C fp s H pn) tg g)
  (ht:∀cl C fp s H pn,PTs (zaM X (capN X.N tgs js) scope cl C fp s H pn) ifs tt)
  (he:∀cl C fp s H pn,PE (zaM X (capN X.N tgs js) scope cl C fp s H pn) elt te)
  (hs:∀x,foldedSetIterable iter X.env x=pure x:=by intro _;rfl) :
  PE X (.ListComp elt [⟨tg,iter,ifs,0⟩] scope pos) (zkj tgs.length js wi g tt te):=by
 intro pins s σ H Q I h
 rw[eval_ListComp]
 have frees:∀y∈scope.names,y.2=.free->∃c,X.env.cells.lookup y.1=some c:=fun y hy hk=>I.ok.has y.1 (by
  have q:=ok.frees y hy hk
  rw[<-hsc] at q
  exact q)
 refine wpAny_comprehension_free (use:=none) rfl hs (zbJ frees) ok.kind ok.locs (thn (hi pins s σ H _ I h) fun v s1 h1=>thn h1 fun itv s2 h2=>?_)
 obtain⟨it,fp,tn,J,H2,e,I2,T,st2,f2,rd⟩:=h2
 subst e
 refine zdO hc hsc ok hg ht he I2 T st2 f2 rd (Q:=Q) fun p C H' s' I' hm hC hn q=>?_
 obtain⟨m,hm⟩:=hm
 refine⟨m,hm,fun h' hs'=>⟨.ref p,H',?_,rfl,q⟩⟩
 exact I'.turned (t':=s'.toks) (it:=C) (fun b o hb e=>(hs'.2 b hb).trans e) hn (Nat.ne_of_gt (Nat.lt_trans I2.lt hC)) (.inr (Nat.le_trans I2.sz (Nat.le_of_lt hC))) (fun x c e=>by
  obtain⟨v,o,ho,_⟩:=I2.cell x c e
  exact Nat.ne_of_lt (Nat.lt_trans (Heap.lt_size ho) hC)) fun q hq=>Nat.ne_of_lt (Nat.lt_trans (Heap.lt_size (I2.pin q hq).1) hC)
theorem zkR (sc:Scope)(tgs:List Str)(js:List Nat){i:Nat}{y:Str}{py spos:Pos}(hN:X.N.Nodup)(hi':X.N[i]?=some y)(hy:Loc X.env.scope y)(hc:X.calm=true)(hsc:X.env.scope=sc)(ok:CompOk sc scope X.N js)(hi:PI X tg iter wi)
  (hg:∀cl C fp s H pn,PG (zaM X (capN X.N tgs js) scope cl C fp s H pn) tg g)
  (ht:∀cl C fp s H pn,PTs (zaM X (capN X.N tgs js) scope cl C fp s H pn) ifs tt)
  (he:∀cl C fp s H pn,PE (zaM X (capN X.N tgs js) scope cl C fp s H pn) elt te)
  (hsw:swapsWith (.ListComp elt [⟨tg,iter,ifs,0⟩] scope pos) (some (.Name y py)) spos.line X.env=pure true:=by rfl)
  (hs:∀x,foldedSetIterable iter X.env x=pure x:=by intro _;rfl)
  (hf:X.fn y=true\/X.env.scope.names.lookup y=some .local:=by first|exact .inl rfl|exact .inr rfl|assumption) :
  PS X (.Assign [.Name y py] (.ListComp elt [⟨tg,iter,ifs,0⟩] scope pos) spos) (tAsg (zkj tgs.length js wi g tt te) (zid i)):=by
 intro pins s σ H D I h
 have frees:∀y∈scope.names,y.2=.free->∃c,X.env.cells.lookup y.1=some c:=fun y hy hk=>I.ok.has y.1 (by
  have q:=ok.frees y hy hk
  rw[<-hsc] at q
  exact q)
 rw[exec_Assign_Name_used _ _ _ _ hsw]
 refine wpAny_bind (wpAny_standAt (wpAny_bind ?_))
 show wpAny _ X.A (do let _ <-comprehension (.ListComp elt [⟨tg,iter,ifs,0⟩] scope pos) scope X.env _ (newList []) false (eval iter X.env) (some (assign (.Name y py) X.env))) _ _ s
 refine wpAny_bind (wpAny_mono (wpAny_comprehension_free (use:=some (assign (.Name y py) X.env)) (Q:=fun _ s'=>SP X pins D .next s') rfl hs (zbJ frees) ok.kind ok.locs
  (thn (hi pins s σ H _ I h) fun v s1 h1=>thn h1 fun itv s2 h2=>?_)) (fun _ s' hq=>wpAny_pure (wpAny_pure hq)) fun _ _ e=>e)
 obtain⟨it,fp,tn,J,H2,e,I2,T,st2,f2,rd⟩:=h2
 subst e
 refine zdO hc hsc ok hg ht he I2 T st2 f2 rd (Q:=fun x H1=>zid i x σ H1 D.nx) fun p C H' s' I' hm hC hn q=>?_
 obtain⟨m,hm⟩:=hm
 have hL:C≠X.env.locals:=Nat.ne_of_gt (Nat.lt_trans I2.lt hC)
 have hCc:∀x c,X.env.cells.lookup x=some c->c≠C:=fun x c e=>by
  obtain⟨v,o,ho,_⟩:=I2.cell x c e
  exact Nat.ne_of_lt (Nat.lt_trans (Heap.lt_size ho) hC)
 show wpAny _ X.A (assign (.Name y py) X.env (.ref p)) _ _ _
 refine wpAny_assign_Name (zeA I' hN hi' hy (v:=.ref p) rfl (fun s'' I'' hch=>?_) hf)
 obtain⟨a,hsb,ha⟩:=hch
 have hCa:C≠a:=by
  rcases ha with z|z
  · rw[z];exact hL
  · exact fun e=>hCc y a z e.symm
 refine⟨m,hm.sameBut hsb hCa,fun h' hs'=>⟨σ.set i (some (.ref p)),H',?_,q⟩⟩
 exact I''.turned (t':=s''.toks) (it:=C) (fun b o hb e=>(hs'.2 b hb).trans e) hn hL (.inr (Nat.le_trans I2.sz (Nat.le_of_lt hC))) hCc fun q hq=>Nat.ne_of_lt (Nat.lt_trans (Heap.lt_size (I2.pin q hq).1) hC)
end
end L2
end
section
namespace L2
open PySem PySem.Spec PyProof.Rows
structure FunV (K:PySem.W.Frag) (x qual:Str) (st:Stmt) (dV:Value) (f:Addr) (fd:FuncData):Prop where
 ex:∃(oc:Value) (od:Option Addr) (kV doc pm:Value) (an:Option Addr) (cdv ct:Value) (osl:Array (Option Value)),
  fd=PySem.W.fnOf x qual (zaC st) (zai st) (zad st) dV kV doc pm an cdv ct/\K.lookup f=some ⟨oc,od,.func fd,osl⟩/\PySem.W.codeIn K cdv qual=true
 kp:PySem.W.keepIn K (.ref f)=true
theorem zaU {K:PySem.W.Frag}{x qual:Str}{st:Stmt}{f:Addr}{oc:Value}{od an:Option Addr}{osl:Array (Option Value)}{dV kV doc pm cdv ct:Value}(l:K.lookup f=some ⟨oc,od,.func (PySem.W.fnOf x qual (zaC st) (zai st) (zad st) dV kV doc pm an cdv ct),osl⟩)
 (c:PySem.W.codeIn K cdv qual=true) (k:PySem.W.keepIn K (.ref f)=true):FunV K x qual st dV f (PySem.W.fnOf x qual (zaC st) (zai st) (zad st) dV kV doc pm an cdv ct):=⟨⟨oc,od,kV,doc,pm,an,cdv,ct,osl,rfl,l,c⟩,k⟩
section
variable {P:Program} {w:World} {K:PySem.W.Frag} {mg:Str->Option Value} {base:Heap}
theorem FunV.ok {x qual:Str}{st:Stmt}{dV:Value}{f:Addr}{fd:FuncData}{N ps:List Str}{k:Nat}{sp:Sp}(F:FunV K x qual st dV f fd)(S:FnScope N ps (zad st))(len:∀vs H Q E,sp vs H Q E->vs.length=ps.length)
  (hbody:∀(cdv:Value) (A:Around) (outer:List Env) (s:Shared) (H:Hp) (vs:List V) (Q:VK) (E:XK),Room k (A.deeper (envOfC qual (zad st) s.heap.objs.size f cdv))->sp vs H Q E->
   ∃t,PSs (cxOf CX0 P w K mg base N qual (zad st) f cdv A outer s H E).nox (zai st) t/\t {nx:=fun _ H'=>Q .non H',rt:=Q} (start N vs) H):FnOk P w K mg base CX0 (k+1) f fd ps sp:=by
 obtain⟨oc,od,kV,doc,pm,an,cdv,ct,osl,rfl,lk,hcd⟩:=F.ex
 refine zoL lk hcd S len fun A outer s H vs Q E hr hsp=>?_
 obtain⟨t,h,q⟩:=hbody cdv A outer s H vs Q E hr hsp
 exact⟨t,h.nox,q⟩
theorem FunV.binds {x qual:Str}{st:Stmt}{dV:Value}{f:Addr}{fd:FuncData}{ps:List Str}(F:FunV K x qual st dV f fd)
  (h:∀(kV doc pm:Value) (an:Option Addr) (cdv ct:Value) (us:List Value),us.length=ps.length->bindArgs (PySem.W.fnOf x qual (zaC st) (zai st) (zad st) dV kV doc pm an cdv ct) ⟨us,[]⟩=pure (ps.zip us)):Binds K fd ps []:=by
 obtain⟨oc,od,kV,doc,pm,an,cdv,ct,osl,rfl,lk,hcd⟩:=F.ex
 exact .all (h kV doc pm an cdv ct)
structure Has (P:Program) (w:World) (K:PySem.W.Frag) (mg:Str->Option Value) (base:Heap) (k:Nat) (x:Str) (ps:List Str) (dvs:List V) (sp:Sp):Prop where
 ex:∃(f:Addr) (fd:FuncData) (ds:List Value),FnOk P w K mg base CX0 k f fd ps sp/\mg x=some (.ref f)/\PySem.W.keepIn K (.ref f)=true/\Binds K fd ps ds/\Vals dvs ds
end
theorem zmU {X:Cx}{k:Nat}{x:Str}{ps:List Str}{dvs:List V}{sp:Sp}{p pos:Pos}{e:Expr}{es:List Expr}{t:TA}(G:Has X.prog X.w X.K X.mg X.base k x ps dvs sp)(hr:Room k X.A)(ha:PA X (e::es) t)(hg:Gl X x:=by rfl)
  (hdb:(x == ("__debug__":Str))=false:=by decide) (he:starEach (e::es) X.env=(false,eval e X.env)::starEach es X.env:=by rfl) (hpl:(backTo pos (starEach es X.env)).any (·.1)=false:=by rfl) :
  PE X (.Call (.Name x p) (e::es) [] pos) (zd4 sp dvs E0 t):=by
 obtain⟨f,fd,ds,F,hm,hk,hb,hd⟩:=G.ex
 exact zk3 F hr hg hm hk hb hd zfp ha hdb he hpl
theorem zmT {X:Cx}{k:Nat}{x:Str}{ps:List Str}{dvs:List V}{sp:Sp}{p pos:Pos}(G:Has X.prog X.w X.K X.mg X.base k x ps dvs sp)(hr:Room k X.A)(hg:Gl X x:=by rfl)
  (hdb:(x == ("__debug__":Str))=false:=by decide):PE X (.Call (.Name x p) [] [] pos) (zd4 sp dvs E0 tNil):=by
 obtain⟨f,fd,ds,F,hm,hk,hb,hd⟩:=G.ex
 exact zjd F hr hg hm hk hb hd zfp hdb
mutual
noncomputable def Rep (H:Hp):PyData->V->Prop
 |.none,v=>v=.non
 |.bool b,v=>v=.bl b
 |.int i,v=>v=.int i
 |.str x,v=>v=.str x
 |.list ds,v=>∃a vs,v=.ref a/\H a=some (.lst vs)/\RepAll H ds vs
 |.tuple ds,v=>∃a vs,v=.ref a/\H a=some (.tup vs)/\RepAll H ds vs
 |.dict _,_=>False
noncomputable def RepAll (H:Hp):List PyData->List V->Prop
 | [],vs=>vs=[]
 |d::ds,vs=>∃v r,vs=v::r/\Rep H d v/\RepAll H ds r
end
mutual
noncomputable def imm:PyData->Bool
 |.none=>true
 |.bool _=>true
 |.int _=>true
 |.str _=>true
 |.list _=>false
 |.tuple ds=>zeZ ds
 |.dict _=>false
noncomputable def zeZ:List PyData->Bool
 | []=>true
 |d::ds=>imm d&&zeZ ds
end
noncomputable def Tups (H H':Hp):Prop:=∀b xs,H b=some (.tup xs)->H' b=some (.tup xs)
theorem Tups.refl (H:Hp):Tups H H:=fun _ _ h=>h
theorem Tups.trans {H H1 H2:Hp}(a:Tups H H1)(b:Tups H1 H2):Tups H H2:=fun c xs h=>b c xs (a c xs h)
theorem Tups.upd {H:Hp}{p:Addr}{o:HO}(h:∀xs,H p≠some (.tup xs)):Tups H (upd H p o):=fun b xs e=>by
 have hb:b≠p:=fun z=>by subst z;exact h xs e
 rw[zap hb];exact e
theorem Tups.upd_lst {H:Hp}{p:Addr}{o:HO}{xs:List V}(h:H p=some (.lst xs)):Tups H (L2.upd H p o):=Tups.upd fun ys e=>by rw[h] at e;cases e
theorem Tups.upd_new {H:Hp}{p:Addr}{o:HO}(h:H p=none):Tups H (L2.upd H p o):=Tups.upd fun ys e=>by rw[h] at e;cases e
mutual
theorem Rep.same {H H':Hp}(hs:Same H H'):∀{d:PyData} {v:V},Rep H d v->Rep H' d v
 |.none,_,h=>h
 |.bool _,_,h=>h
 |.int _,_,h=>h
 |.str _,_,h=>h
 | .list ds, v, h => by
   obtain⟨a,vs,e,ha,r⟩:=h
   exact⟨a,vs,e,hs _ _ ha,RepAll.same hs r⟩
 | .tuple ds, v, h => by
   obtain⟨a,vs,e,ha,r⟩:=h
   exact⟨a,vs,e,hs _ _ ha,RepAll.same hs r⟩
 |.dict _,_,h=>h
theorem RepAll.same {H H':Hp}(hs:Same H H'):∀{ds:List PyData} {vs:List V},RepAll H ds vs->RepAll H' ds vs
 | [],_,h=>h
 | d :: ds, vs, h => by
   obtain⟨v,r,e,h1,h2⟩:=h
   exact⟨v,r,e,Rep.same hs h1,RepAll.same hs h2⟩
end
mutual
theorem Rep.tups {H H':Hp}(hs:Tups H H'):∀{d:PyData} {v:V},imm d=true->Rep H d v->Rep H' d v
 |.none,_,_,h=>h
 |.bool _,_,_,h=>h
 |.int _,_,_,h=>h
 |.str _,_,_,h=>h
 |.list ds,v,i,h=>by simp[imm] at i
 | .tuple ds, v, i, h => by
   obtain⟨a,vs,e,ha,r⟩:=h
   exact⟨a,vs,e,hs _ _ ha,RepAll.tups hs (by simpa[imm] using i) r⟩
 |.dict _,_,_,h=>h
theorem RepAll.tups {H H':Hp}(hs:Tups H H'):∀{ds:List PyData} {vs:List V},zeZ ds=true->RepAll H ds vs->RepAll H' ds vs
 | [],_,_,h=>h
 | d :: ds, vs, i, h => by
   obtain⟨v,r,e,h1,h2⟩:=h
   have i':imm d=true/\zeZ ds=true:=by simpa[zeZ] using i
   exact⟨v,r,e,Rep.tups hs i'.1 h1,RepAll.tups hs i'.2 h2⟩
end
theorem RepAll.ints (H:Hp):∀ns:List Int,RepAll H (ns.map PyData.int) (ns.map V.int)
 | []=>rfl
 |n::ns=>⟨_,_,rfl,rfl,RepAll.ints H ns⟩
mutual
theorem Rep.reads {X:Cx}{pins:List (Addr × Obj)}{σ:St}{H:Hp}{s:Shared}(I:Inv X pins σ H s):∀(d:PyData) (v:V) (u:Value),Rep H d v->RelV v u->∃as,Reads s.heap u d as
 | .none, v, u, h, r => by
   cases (show v=.non from h)
   cases (show u=Value.none from r)
   exact⟨_,.none⟩
 | .bool b, v, u, h, r => by
   cases (show v=.bl b from h)
   cases (show u=Value.bool b from r)
   exact⟨_,.bool b⟩
 | .int i, v, u, h, r => by
   cases (show v=.int i from h)
   obtain⟨t,rfl⟩:=(show ∃t,u=Value.int i t from r)
   exact⟨_,.int i t⟩
 | .str x, v, u, h, r => by
   cases (show v=.str x from h)
   obtain⟨t,rfl⟩:=(show ∃t,u=Value.str x t from r)
   exact⟨_,.str x t⟩
 | .list ds, v, u, h, r => by
   obtain⟨a,vs,rfl,ha,hr⟩:=h
   cases (show u=Value.ref a from r)
   obtain⟨its,n,rv,e,_⟩:=I.lst ha
   obtain⟨as,q⟩:=RepAll.reads I ds vs its hr rv
   exact⟨_,.list e rfl rfl q⟩
 | .tuple ds, v, u, h, r => by
   obtain⟨a,vs,rfl,ha,hr⟩:=h
   cases (show u=Value.ref a from r)
   obtain⟨its,rv,⟨o,e1,e2,n,e3⟩,_⟩:=I.tuple (SqT.of (K:=X.K) ha)
   obtain⟨as,q⟩:=RepAll.reads I ds vs its hr rv
   exact⟨_,.tuple e1 e2 e3 q⟩
 |.dict _,_,_,h,_=>False.elim h
theorem RepAll.reads {X:Cx}{pins:List (Addr × Obj)}{σ:St}{H:Hp}{s:Shared}(I:Inv X pins σ H s):∀(ds:List PyData) (vs:List V) (us:List Value),RepAll H ds vs->Vals vs us->∃as,ReadsAll s.heap us ds as
 | [], vs, us, h, r => by
   cases (show vs=[] from h)
   cases r
   exact⟨_,.nil⟩
 | d :: ds, vs, us, h, r => by
   obtain⟨v,vr,rfl,h1,h2⟩:=h
   cases r with
   | cons r1 r2 =>
     obtain⟨as,q1⟩:=Rep.reads I d v _ h1 r1
     obtain⟨bs,q2⟩:=RepAll.reads I ds vr _ h2 r2
     exact⟨_,.cons q1 q2⟩
end
theorem eqv_int (i j:Int):PyData.eqv (.int i) (.int j)=(i == j):=by simp[PyData.eqv]
section
variable {X:Cx}
noncomputable def rEqD (g:Bool->Bool):R2:=fun x y H Q=>∃da db,Rep H da x/\Rep H db y/\da.canLay0=true/\db.canLay0=true/\min da.depth db.depth<=60/\Q (.bl (g (PyData.eqv da db))) H
theorem zm6 (hu:X.A.units+64<cLine):OpR X (compareOp .Eq) (rEqD id):=by
 intro pins s σ H x y v u Q I rx ry h
 obtain⟨da,db,h1,h2,l1,l2,hd,q⟩:=h
 obtain⟨as,r1⟩:=Rep.reads I da x v h1 rx
 obtain⟨bs,r2⟩:=Rep.reads I db y u h2 ry
 exact SeqAt.compareEq_reads r1 r2 l1 l2 (by omega) (zav I q rfl)
theorem zm1 (hu:X.A.units+64<cLine):OpR X (compareOp .NotEq) (rEqD not):=by
 intro pins s σ H x y v u Q I rx ry h
 obtain⟨da,db,h1,h2,l1,l2,hd,q⟩:=h
 obtain⟨as,r1⟩:=Rep.reads I da x v h1 rx
 obtain⟨bs,r2⟩:=Rep.reads I db y u h2 ry
 exact SeqAt.compareNe_reads r1 r2 l1 l2 (by omega) (zav I q rfl)
theorem zm5:OpR X (compareOp .Is) (fun x y H Q=>∃a b,x=.bl a/\y=.bl b/\Q (.bl (a == b)) H):=by
 intro pins s σ H x y v u Q I rx ry h
 obtain⟨a,b,rfl,rfl,q⟩:=h
 cases rx
 cases ry
 refine wpAny_is_plain (by cases a<;>cases b<;>rfl) (zav I q ?_)
 cases a<;>cases b<;>rfl
noncomputable def zcN (H:Hp):V->Option String
 |.non=>some "NoneType"
 |.bl _=>some "bool"
 |.int _=>some "int"
 |.str _=>some "str"
 | .ref a => match H a with
   |some (.lst _)=>some "list"
   |some (.frz _ (.lst _))=>some "list"
   |some (.tup _)=>some "tuple"
   |some (.dK _)=>some "dict"
   |some (.dT _)=>some "dict"
   |_=>none
 |_=>none
theorem zhb {K:PySem.W.Frag}{H:Hp}{x:V}{a:String}(h:zcN H x=some a):TyOf K H x (.type a):=by
 cases x with
 |non=>cases h;exact .non
 |bl b=>cases h;exact .bl b
 |int i=>cases h;exact .int i
 |str y=>cases h;exact .str y
 |byt _=>cases h
 |flt _=>cases h
 |ty _=>cases h
 | ref p =>
   unfold zcN at h
   cases e:H p with
   |none=>simp[e] at h
   | some o =>
     cases o with
     |lst xs=>simp[e] at h;subst h;exact .lst e
     |tup xs=>simp[e] at h;subst h;exact .tup e
     |dK kvs=>simp[e] at h;subst h;exact .dK e
     |dT kvs=>simp[e] at h;subst h;exact .dT e
     | frz ob q =>
       cases q with
       |lst xs=>simp[e] at h;subst h;exact .frz e
       |_=>simp[e] at h
     |_=>simp[e] at h
noncomputable def subT (a b:String):Bool:=a == b || (a == "bool"&&b == "int")
theorem zlk (K:PySem.W.Frag){a b:String}(ha:a∈["NoneType","bool","int","str","list","tuple","dict"])(hb:b∈["bool","int","str","list","tuple","dict"]):PySem.W.kitOne K (.type a) (.type b)=some (subT a b):=by
 simp only[List.mem_cons,List.not_mem_nil,or_false] at ha hb
 rcases ha with rfl|rfl|rfl|rfl|rfl|rfl|rfl<;>rcases hb with rfl|rfl|rfl|rfl|rfl|rfl<;>rfl
theorem zgs {H:Hp}{x:V}{a:String}(h:zcN H x=some a):a∈["NoneType","bool","int","str","list","tuple","dict"]:=by
 cases x with
 |non=>cases h;simp
 |bl b=>cases h;simp
 |int i=>cases h;simp
 |str y=>cases h;simp
 |byt _=>cases h
 |flt _=>cases h
 |ty _=>cases h
 | ref p =>
   unfold zcN at h
   simp only at h
   split at h<;>first|(cases h;simp)|cases h
theorem zfD:za7 X (.builtin "isinstance") (fun xs H Q=>∃x c a,xs=[x,.ty c]/\zcN H x=some a/\c∈["bool","int","str","list","tuple","dict"]/\Q (.bl (subT a c)) H):=by
 intro pins s σ H xs us Q I r h
 obtain⟨x,c,a,rfl,hx,hc,q⟩:=h
 obtain⟨u,w',rfl,rx,rc⟩:=ziG r
 cases (show w'=Value.type c from rc)
 exact zeX I rx (zhb hx) (zlk X.K (zgs hx) hc) fun tk=>⟨.bl (subT a c),H,I.tok tk,rfl,q⟩
end
end L2
namespace L2
open PySem PySem.Spec PyProof.Rows
section
variable {X:Cx} {scope:Scope} {elt tg iter:Expr} {ifs:List Expr} {pos:Pos} {wi:TI} {g:TG} {tt:TT} {te:TE}
end
end L2
namespace L2
open PySem PySem.Spec PyProof.Rows
section
variable {X:Cx} (K:PySem.W.Frag) (hK:X.K=K)
include hK
end
end L2
end
section
namespace TM
structure Good (m:Nat) (wo:Option Int) (s:Int) (n:Nat) (p:List Int):Prop where
 len:p.length=n
 head:p.head?=some s
 nd:p.Nodup
 rng:∀h∈p,0<=h/\h<m/\wo≠some h
end TM
end
section
namespace L2
open PySem PySem.Spec PyProof.Rows
theorem znL:bootBuiltins "len"=some (.builtin "len"):=by decide +kernel
theorem znO:bootBuiltins "abs"=some (.builtin "abs"):=by decide +kernel
theorem znK:bootBuiltins "max"=some (.builtin "max"):=by decide +kernel
theorem znN:bootBuiltins "all"=some (.builtin "all"):=by decide +kernel
theorem zcy:bootBuiltins "isinstance"=some (.builtin "isinstance"):=by decide +kernel
theorem znM:bootBuiltins "int"=some (.type "int"):=by decide +kernel
theorem zlI:bootBuiltins "bool"=some (.type "bool"):=by decide +kernel
theorem znI:bootBuiltins "str"=some (.type "str"):=by decide +kernel
theorem zfE:bootBuiltins "list"=some (.type "list"):=by decide +kernel
theorem zet:bootBuiltins "tuple"=some (.type "tuple"):=by decide +kernel
theorem zlH:bootBuiltins "dict"=some (.type "dict"):=by decide +kernel
theorem znJ:bootBuiltins "set"=some (.type "set"):=by decide +kernel
noncomputable def cellZ (ns:List Int)(k:Nat):Int:=match ns[k]? with|some v=>v % 10 ^ 64|none=>0
end L2
end
section
namespace R
noncomputable def zoj (a b:Int × Int):Bool:=decide (b.2<a.2\/(a.2=b.2/\a.1<=b.1))
noncomputable def zl1 (rows:List (Int × Int)):List (Int × Int):=rows.mergeSort zoj
noncomputable def bump:List (Int × Int)->Int->List (Int × Int)
 | [],w=>[(w,1)]
 |(k,c)::r,w=>if k=w then (k,c+1)::r else (k,c)::bump r w
noncomputable def zdV (kvs:List (Int × Int))(ws:List (Option Int)):List (Int × Int):=ws.foldl (fun a w=>match w with|some x=>bump a x|none=>a) kvs
end R
end
section
namespace R
open PySem (Str PyData Operator CmpOp)
inductive D where
 |non|bl (b:Bool)|int (i:Int)|str (x:Str)|tup (ds:List D)|ref (l:Nat)
 |fix (ds:List D)
inductive MO where
 |lst (ds:List D)|dic (kvs:List (Int × D))|ins (c:Nat) (fs:List (Str × D))
 |dtp (kvs:List (List Int × D))
structure St where
 frz:List MO
 new:List MO
 lk:List Nat
inductive Out (α:Type) where
 |ok (a:α) (S:St)
 |err (d:D) (S:St)
 |bad
noncomputable def Out.bind {α β:Type}(o:Out α)(f:α->St->Out β):Out β:=match o with
 |.ok a S=>f a S
 |.err d S=>.err d S
 |.bad=>.bad
noncomputable def lift {α:Type}(S:St):Option α->Out α
 |some a=>.ok a S
 |none=>.bad
namespace St
noncomputable def get (S:St)(l:Nat):Option MO:=if l<S.frz.length then S.frz[l]? else S.new[l - S.frz.length]?
noncomputable def len (S:St):Nat:=S.frz.length+S.new.length
noncomputable def push (S:St)(o:MO):St:={S with new:=S.new++[o]}
noncomputable def put (S:St)(l:Nat)(o:MO):Option St:=if l<S.frz.length then none else if S.lk.contains l then none else some {S with new:=S.new.set (l - S.frz.length) o}
noncomputable def enter (S:St):St:=⟨S.frz++S.new,[],[]⟩
end St
noncomputable def lay (S:St)(ds:List D):Out D:=if ds.length<=16777216 then .ok (.ref S.len) (S.push (.lst ds)) else .bad
noncomputable def wr (S:St)(l:Nat)(ds:List D)(d:D):Out D:=if ds.length<=16777216 then (match S.put l (.lst ds) with|some S'=>.ok d S'|none=>.bad) else .bad
noncomputable def pd (S:St):Nat->D->Option PyData
 |_,.non=>some .none
 |_,.bl b=>some (.bool b)
 |_,.int i=>some (.int i)
 |_,.str x=>if PySem.PyData.strOk x then some (.str x) else none
 |n+1,.tup ds=>(ds.mapM (pd S n)).map PyData.tuple
 | n + 1, .ref l => match S.get l with
   |some (.lst ds)=>(ds.mapM (pd S n)).map PyData.list
   |_=>none
 |_,.fix _=>none
 |0,_=>none
mutual
noncomputable def flat (n:Nat):D->Bool
 |.tup ds=>flats n ds
 |.ref l=>decide (l<n)
 |.fix ds=>flats n ds
 |_=>true
noncomputable def flats (n:Nat):List D->Bool
 | []=>true
 |d::ds=>flat n d&&flats n ds
end
noncomputable def zcA (S:St):D->Option (List D)
 |.tup ds=>some ds
 |.fix ds=>some ds
 | .ref l => match S.get l with
   |some (.lst ds)=>some ds
   |_=>none
 |_=>none
noncomputable def lkOf (S:St):D->List Nat
 |.ref l=>[l]
 |_=>[]
noncomputable def tru (S:St):D->Option Bool
 |.non=>some false
 |.bl b=>some b
 |.int i=>some (i != 0)
 |.tup ds=>some (!ds.isEmpty)
 | .ref l => match S.get l with
   |some (.lst ds)=>some (!ds.isEmpty)
   |_=>none
 |_=>none
noncomputable def tyOf (S:St):D->Option String
 |.non=>some "NoneType"
 |.bl _=>some "bool"
 |.int _=>some "int"
 |.str _=>some "str"
 |.tup _=>some "tuple"
 | .ref l => match S.get l with
   |some (.lst _)=>some "list"
   |some (.dic _)=>some "dict"
   |some (.dtp _)=>some "dict"
   |_=>none
 |.fix _=>none
noncomputable def ixN (n:Nat)(i:Int):Option Nat:=if 0<=i then (if i<n then some i.toNat else none) else if -(n:Int)<=i then some (i+n).toNat else none
noncomputable def atI {α:Type}(xs:List α)(i:Int):Option α:=(ixN xs.length i).bind fun j=>xs[j]?
noncomputable def sIx (n d:Nat):Option Int->Nat
 |none=>d
 |some i=>if i<0 then (i+n).toNat else min i.toNat n
noncomputable def cut {α:Type}(xs:List α)(lo hi:Option Int):List α:=(xs.drop (sIx xs.length 0 lo)).take (sIx xs.length xs.length hi - sIx xs.length 0 lo)
noncomputable def zcH:D->Option Int
 |.int i=>some i
 |_=>none
noncomputable def zbQ (m:Bool)(d:D):Option (Option Int):=if m then (match d with|.int i=>some (some i)|_=>none) else some none
noncomputable def zhK (i j:Int):Bool:=decide (-(2 ^ 64)<i/\i<2 ^ 64) || decide (-(2 ^ 64)<j/\j<2 ^ 64)
noncomputable def binI (S:St)(op:Operator)(i j:Int):Out D:=match op with
 |.Add=>.ok (.int (i+j)) S
 |.Sub=>.ok (.int (i - j)) S
 |.Mult=>if zhK i j then .ok (.int (i * j)) S else .bad
 |.FloorDiv=>if 0<j/\j<1073741824 then .ok (.int (i / j)) S else .bad
 |.Mod=>if 0<j then .ok (.int (i % j)) S else .bad
 |.Pow=>if 0<=j/\j<=1000000/\-18446744073709551616<i/\i<18446744073709551616 then .ok (.int (i ^ j.toNat)) S else .bad
 |_=>.bad
noncomputable def binD (S:St)(op:Operator)(x y:D):Out D:=match x,y with
 |.int i,.int j=>binI S op i j
 |.tup xs,.tup ys=>(match op with|.Add=>if xs.length+ys.length<=16777216 then .ok (.tup (xs++ys)) S else .bad|_=>.bad)
 |.ref a,.ref b=>(match op,S.get a,S.get b with|.Add,some (.lst xs),some (.lst ys)=>lay S (xs++ys)|_,_,_=>.bad)
 |_,_=>.bad
noncomputable def eqD (S:St)(x y:D):Option Bool:=(pd S 60 x).bind fun a=>(pd S 60 y).map fun b=>PyData.eqv a b
noncomputable def inD (S:St)(x:D)(ys:List D):Option Bool:=(ys.mapM fun z=>eqD S z x).map fun bs=>bs.any id
noncomputable def lexLt:List Int->List Int->Bool
 | [],[]=>false
 | [],_::_=>true
 |_::_,[]=>false
 |a::as,b::bs=>if a=b then lexLt as bs else decide (a<b)
noncomputable def zby (ds:List D):Option (List Int):=ds.mapM zcH
noncomputable def cmpI (op:CmpOp)(i j:Int):Option Bool:=match op with
 |.Eq=>some (decide (i=j))
 |.NotEq=>some (!decide (i=j))
 |.Lt=>some (decide (i<j))
 |.LtE=>some (decide (i<=j))
 |.Gt=>some (decide (j<i))
 |.GtE=>some (decide (j<=i))
 |_=>none
noncomputable def zln:D->Bool|.non=>true|_=>false
noncomputable def zew:D->Option (Option Int)
 |.non=>some none
 |.int i=>some (some i)
 |_=>none
noncomputable def dKvs (S:St):D->Option (List (List Int × D))
 |.ref l=>(match S.get l with|some (.dtp kvs)=>some kvs|_=>none)
 |_=>none
noncomputable def zcL (kvs:List (List Int × D)):Option (List (List Int × Option Int)):=kvs.mapM fun kv=>(zew kv.2).map fun w=>(kv.1,w)
noncomputable def eqK (a b:List (List Int × D)):Option Bool:=(zcL a).bind fun x=>(zcL b).bind fun y=>if x=y then some true else none
noncomputable def zeo (S:St)(x y:D):Option Bool:=match dKvs S x,dKvs S y with
 |some a,some b=>eqK a b
 |_,_=>eqD S x y
noncomputable def zei:D->Option (List Int)
 |.tup ds=>zby ds
 |_=>none
noncomputable def valP (kvs:List (List Int × D))(k:List Int):Option D:=(kvs.find? fun kv=>decide (kv.1=k)).map (·.2)
noncomputable def zh5 (S:St)(x y:D):Option Bool:=match dKvs S y with
 |some kvs=>(zei x).map fun k=>(valP kvs k).isSome
 |none=>(zcA S y).bind fun ys=>inD S x ys
noncomputable def cmpO (S:St)(op:CmpOp)(x y:D):Option Bool:=match op with
 |.Eq=>zeo S x y
 |.NotEq=>(zeo S x y).map (!·)
 |.Is=>(match y with|.non=>some (zln x)|.bl b=>(match x with|.bl a=>some (a == b)|_=>none)|_=>none)
 |.IsNot=>(match y with|.non=>some (!zln x)|_=>none)
 |.In=>zh5 S x y
 |.NotIn=>(zh5 S x y).map (!·)
 |.Lt=>(match x,y with|.tup xs,.tup ys=>(zby xs).bind fun a=>(zby ys).map fun b=>lexLt a b|_,_=>none)
 |_=>none
noncomputable def cmpD (S:St)(op:CmpOp)(x y:D):Option Bool:=match x,y with
 |.int i,.int j=>cmpI op i j
 |_,_=>cmpO S op x y
inductive Bi where
 |len|abs|max2|min2|isin (t:String)
noncomputable def zcb (ds:List D):Option (List (Option Int)):=ds.mapM zew
inductive Mt where
 |append|popAt|count
noncomputable def bi (S:St):Bi->List D->Out D
 | .len, [x] => (match x with
   |.tup ds=>.ok (.int ds.length) S
   |.fix ds=>.ok (.int ds.length) S
   |.ref l=>(match S.get l with|some (.lst ds)=>.ok (.int ds.length) S|some (.dic kvs)=>.ok (.int kvs.length) S|some (.dtp kvs)=>.ok (.int kvs.length) S|_=>.bad)
   |_=>.bad)
 |.abs,[.int i]=>.ok (.int (if i<0 then -i else i)) S
 |.max2,[.int i,.int j]=>.ok (.int (if j > i then j else i)) S
 |.min2,[.int i,.int j]=>.ok (.int (if j<i then j else i)) S
 |.isin t,[x]=>(match tyOf S x with|some a=>.ok (.bl (a == t || (a == "bool"&&t == "int"))) S|none=>.bad)
 |_,_=>.bad
noncomputable def isL (S:St):D->Bool
 |.ref l=>(match S.get l with|some (.lst _)=>true|_=>false)
 |_=>false
noncomputable def mt (S:St):Mt->D->List D->Out D
 |.append,.ref l,[y]=>(match S.get l with|some (.lst ds)=>wr S l (ds++[y]) .non|_=>.bad)
 | .popAt, .ref l, [.int i] => (match S.get l with
   |some (.lst ds)=>if 0<=i then (match ds[i.toNat]? with|some y=>wr S l (ds.eraseIdx i.toNat) y|none=>.bad) else .bad
   |_=>.bad)
 | .count, .ref l, [.int i] => (match S.get l with
   |some (.lst ds)=>(match zcb ds with|some os=>.ok (.int (os.count (some i):Nat)) S|none=>.bad)
   |_=>.bad)
 |_,_,_=>.bad
noncomputable def putP:List (List Int × D)->List Int->D->List (List Int × D)
 | [],k,v=>[(k,v)]
 |(j,d)::r,k,v=>if j=k then (j,v)::r else (j,d)::putP r k v
noncomputable def putI:List (Int × D)->Int->D->List (Int × D)
 | [],k,v=>[(k,v)]
 |(j,d)::r,k,v=>if j=k then (j,v)::r else (j,d)::putI r k v
noncomputable def dicI (S:St)(x:D):Option (List Int):=match x with
 |.ref p=>(match S.get p with|some (.dic kvs)=>some (kvs.map (·.1))|_=>none)
 |_=>none
noncomputable def dPut (S:St)(x y v:D):Option St:=match x with
 | .ref l => (match S.get l with
   |some (.dtp kvs)=>(zei y).bind fun k=>if kvs.length<16777216 then S.put l (.dtp (putP kvs k v)) else none
   |some (.dic kvs)=>(zcH y).bind fun k=>if kvs.length<16777216 then S.put l (.dic (putI kvs k v)) else none
   |_=>none)
 |_=>none
noncomputable def zbs (S:St):D->Option (Nat × List (Str × D))
 |.ref l=>(match S.get l with|some (.ins c fs)=>some (c,fs)|_=>none)
 |_=>none
noncomputable def zhx (f:Str)(v:D):List (Str × D)->List (Str × D)
 | []=>[(f,v)]
 |(g,x)::r=>if g=f then (g,v)::r else (g,x)::zhx f v r
noncomputable def zbI (S:St)(x:D)(f:Str)(v:D):Option St:=match x with
 |.ref l=>(match S.get l with|some (.ins c fs)=>if fs.length<1000 then S.put l (.ins c (zhx f v fs)) else none|_=>none)
 |_=>none
noncomputable def zj0:D->Bool|.non=>true|_=>false
mutual
inductive CE where
 |loc (i:Nat)|con (d:D)
 |tst (a:CE)
 |bin (op:Operator) (a b:CE)|neg (a:CE)|nt (a:CE)
 |cmp (op:CmpOp) (a b:CE)
 |and (a b:CE)|or (a b:CE)|ite (c a b:CE)
 |tup (es:CEs)|lst (es:CEs)|dnew|dnewT|dic1 (a b:CE)|dsrt (a:CE)
 |ix (a b:CE)
 |fld (a:CE) (f:Str)|mk (c f:Nat) (x:Str) (j:Nat) (es:CEs)|meth (m:Str) (tb:List (Nat × Nat)) (o:CE) (es:CEs)|isc (cs:List Nat) (x:Str) (a:CE)|callC (f:Nat) (x m:Str) (es:CEs)|clr (a:CE)
 |sl (a:CE) (ml mh:Bool) (lo hi:CE)
 |call (f j:Nat) (es:CEs)|callW (f j:Nat) (es:CEs)|bi (b:Bi) (es:CEs)|mt (m:Mt) (o:CE) (es:CEs)
 |mkL (l:CL)|mkT (l:CL)|all (l:CL)|sset (a:CE)|srt (a:CE)|min1 (a:CE)
inductive CEs where
 |nil|cons (e:CE) (r:CEs)
inductive CL where
 |val (e:CE)|rng1 (a:CE)|rng2 (a b:CE)
 |comp (nt:Nat) (js:List Nat) (g:List Nat) (it:CL) (c:CE) (e:CE)
end
inductive CS where
 |nil|stop|asg (i:Nat) (e:CE) (r:CS)|setIx (a b e:CE) (r:CS)|setF (a:CE) (f:Str) (e:CE) (r:CS)
 |ifS (c:CE) (t u:CS) (r:CS)|forS (g:List Nat) (l:CL) (b:CS) (r:CS)|ret (e:CE) (r:CS)|expr (e:CE) (r:CS)
noncomputable abbrev Ev:=List (Option D)
noncomputable def zdw:List Nat->List D->Ev->Ev
 |i::is,d::ds,δ=>zdw is ds (δ.set i (some d))
 |_,_,δ=>δ
noncomputable def asgG (g:List Nat)(x:D)(δ:Ev):Option Ev:=match g with
 | [i]=>some (δ.set i (some x))
 |is=>(match x with|.tup ds=>if ds.length=is.length then some (zdw is ds δ) else none|_=>none)
noncomputable abbrev CF:=Nat->List D->St->Out D
noncomputable def zcS (S:St)(d:D)(T:St):Out D:=
 if flat S.len d then .ok d S else
 let keep:Out D:=.ok d ⟨S.frz,S.new++T.new,S.lk⟩
 match d with
  | .ref l => (match T.get l with
    |some (.lst ds)=>if flats S.len ds then .ok (.ref S.len) (S.push (.lst ds)) else keep
    |some (.dic kvs)=>if flats S.len (kvs.map (·.2)) then .ok (.ref S.len) (S.push (.dic kvs)) else keep
    |some (.dtp kvs)=>if flats S.len (kvs.map (·.2)) then .ok (.ref S.len) (S.push (.dtp kvs)) else keep
    |_=>keep)
  |_=>keep
noncomputable def zhR (S:St)(d:D)(T:St):Out (List D):=match d with
 |.ref l=>if l<S.len then .bad else (match T.get l with|some (.lst ds)=>if flats S.len ds then .ok ds S else .bad|_=>.bad)
 |_=>.bad
@[irreducible] noncomputable def app (cf:CF)(f:Nat)(ds:List D)(S:St):Out D:=(cf f ds S.enter).bind fun d T=>zcS S d T
@[irreducible] noncomputable def appL (cf:CF)(f:Nat)(ds:List D)(S:St):Out (List D):=(cf f ds S.enter).bind fun d T=>zhR S d T
@[irreducible] noncomputable def appW (cf:CF)(f:Nat)(ds:List D)(S:St):Out D:=cf f ds S
noncomputable def csl (nt:Nat)(js:List Nat)(δ:Ev):Ev:=List.replicate nt none++js.map fun j=>(δ[j]?).join
noncomputable def zbo (g:List Nat)(c:Ev->St->Out Bool)(e:Ev->St->Out D):List D->Ev->St->Out (List D)
 | [],_,S=>.ok [] S
 | x :: xs, δ, S => match asgG g x δ with
   |none=>.bad
   |some δ'=>(c δ' S).bind fun b S1=>if b then (e δ' S1).bind fun d S2=>(zbo g c e xs δ' S2).bind fun ds S3=>.ok (d::ds) S3 else zbo g c e xs δ' S1
noncomputable def zbm {α:Type}(ls:List Nat)(S:St)(f:St->Out α):Out α:=
 (f {S with lk:=ls++S.lk}).bind fun a S'=>.ok a {S' with lk:=S.lk}
noncomputable def zdY:D->Option Bool
 |.bl b=>some b
 |_=>none
noncomputable def allD (ds:List D):Option Bool:=(ds.mapM zdY).map fun bs=>bs.all id
noncomputable def insZ (x:Int):List Int->List Int
 | []=>[x]
 |y::l=>if x<=y then x::y::l else y::insZ x l
noncomputable def zag:List Int->List Int
 | []=>[]
 |x::l=>insZ x (zag l)
noncomputable def minZ:List Int->Option Int
 | []=>none
 |x::l=>match minZ l with|none=>some x|some k=>some (if x<=k then x else k)
noncomputable def lstI (S:St)(x:D):Option (List Int):=match x with
 |.ref p=>(match S.get p with|some (.lst ds)=>zby ds|_=>none)
 |_=>none
noncomputable def dedup (xs:List Int):List Int:=xs.foldl (fun acc x=>if acc.contains x then acc else acc++[x]) []
section
variable (cf:CF)
mutual
noncomputable def evE:CE->Ev->St->Out D
 |.loc i,δ,S=>lift S (δ[i]?).join
 |.con d,_,S=>.ok d S
 |.tst _,_,_=>.bad
 |.bin op a b,δ,S=>(evE a δ S).bind fun x S1=>(evE b δ S1).bind fun y S2=>binD S2 op x y
 |.neg a,δ,S=>(evE a δ S).bind fun x S1=>match x with|.int i=>.ok (.int (-i)) S1|_=>.bad
 |.nt a,δ,S=>(evE a δ S).bind fun x S1=>match x with|.bl b=>.ok (.bl (!b)) S1|_=>.bad
 |.cmp op a b,δ,S=>(evE a δ S).bind fun x S1=>(evE b δ S1).bind fun y S2=>(lift S2 (cmpD S2 op x y)).bind fun k S3=>.ok (.bl k) S3
 |.and a b,δ,S=>(evE a δ S).bind fun x S1=>match x with|.bl k=>if k then evE b δ S1 else .ok (.bl false) S1|_=>.bad
 |.or a b,δ,S=>(evE a δ S).bind fun x S1=>match x with|.bl k=>if k then .ok (.bl true) S1 else evE b δ S1|_=>.bad
 |.ite c a b,δ,S=>(evT c δ S).bind fun k S1=>if k then evE a δ S1 else evE b δ S1
 |.tup es,δ,S=>(evEs es δ S).bind fun ds S1=>if ds.length<=16777216 then .ok (.tup ds) S1 else .bad
 |.lst es,δ,S=>(evEs es δ S).bind fun ds S1=>lay S1 ds
 |.dnew,_,S=>.ok (.ref S.len) (S.push (.dic []))
 |.dnewT,_,S=>.ok (.ref S.len) (S.push (.dtp []))
 |.dic1 a b,δ,S=>(evE a δ S).bind fun x S1=>(evE b δ S1).bind fun v S2=>(lift S2 (zcH x)).bind fun k S3=>.ok (.ref S3.len) (S3.push (.dic [(k,v)]))
 |.dsrt a,δ,S=>(evE a δ S).bind fun x S1=>(lift S1 (dicI S1 x)).bind fun is S2=>if is.length<64 then lay S2 ((zag is).map .int) else .bad
 |.fld a f,δ,S=>(evE a δ S).bind fun x S1=>lift S1 ((zbs S1 x).bind fun p=>p.2.lookup f)
 |.mk c f _ j es,δ,S=>(evEs es δ S).bind fun ds S1=>(appW cf f (.ref S1.len::(ds++List.replicate j .non)) (S1.push (.ins c []))).bind fun d S2=>if zj0 d then .ok (.ref S1.len) S2 else .bad
 |.meth m tb o es,δ,S=>(evE o δ S).bind fun x S1=>(lift S1 (zbs S1 x)).bind fun p S1=>(lift S1 (tb.lookup p.1)).bind fun f S1=>if (p.2.lookup m).isNone then (evEs es δ S1).bind fun ds S2=>appW cf f (x::ds) S2 else .bad
 |.isc cs _ a,δ,S=>(evE a δ S).bind fun x S1=>(lift S1 (zbs S1 x)).bind fun p S1=>.ok (.bl (cs.contains p.1)) S1
 |.callC f _ _ es,δ,S=>(evEs es δ S).bind fun ds S1=>appW cf f ds S1
 |.clr a,δ,S=>(evE a δ S).bind fun x S1=>if isL S1 x then (match x with|.ref l=>wr S1 l [] .non|_=>.bad) else .bad
 |.ix a b,δ,S=>(evE a δ S).bind fun x S1=>(evE b δ S1).bind fun y S2=>match zcA S2 x,y with|some ds,.int i=>lift S2 (atI ds i)|_,_=>.bad
 |.sl a ml mh lo hi,δ,S=>(evE a δ S).bind fun x S1=>(evE lo δ S1).bind fun y S2=>(evE hi δ S2).bind fun z S3=>match zbQ ml y,zbQ mh z with
  | some l, some h => (match x with
    |.tup ds=>.ok (.tup (cut ds l h)) S3
    |.fix ds=>lay S3 (cut ds l h)
    |.ref p=>(match S3.get p with|some (.lst ds)=>lay S3 (cut ds l h)|_=>.bad)
    |_=>.bad)
  |_,_=>.bad
 |.call f j es,δ,S=>(evEs es δ S).bind fun ds S1=>app cf f (ds++List.replicate j .non) S1
 |.callW f j es,δ,S=>(evEs es δ S).bind fun ds S1=>appW cf f (ds++List.replicate j .non) S1
 |.bi b es,δ,S=>(evEs es δ S).bind fun ds S1=>R.bi S1 b ds
 |.mt m o es,δ,S=>(evE o δ S).bind fun x S1=>if isL S1 x then (evEs es δ S1).bind fun ds S2=>R.mt S2 m x ds else .bad
 |.mkL l,δ,S=>(evL l δ S).bind fun r S1=>lay S1 r.1
 |.mkT l,δ,S=>(evL l δ S).bind fun r S1=>if r.1.length<=16777216 then .ok (.tup r.1) S1 else .bad
 |.all l,δ,S=>(evL l δ S).bind fun r S1=>(lift S1 (allD r.1)).bind fun b S2=>.ok (.bl b) S2
 |.srt a,δ,S=>(evE a δ S).bind fun x S1=>(lift S1 (lstI S1 x)).bind fun is S2=>if is.length<64 then lay S2 ((zag is).map .int) else .bad
 |.min1 a,δ,S=>(evE a δ S).bind fun x S1=>(lift S1 (lstI S1 x)).bind fun is S2=>(lift S2 (minZ is)).bind fun k S3=>.ok (.int k) S3
 |.sset a,δ,S=>(evE a δ S).bind fun x S1=>(lift S1 (lstI S1 x)).bind fun is S2=>if is.length<64 then lay S2 ((zag (dedup is)).map .int) else .bad
noncomputable def evEs:CEs->Ev->St->Out (List D)
 |.nil,_,S=>.ok [] S
 |.cons e r,δ,S=>(evE e δ S).bind fun d S1=>(evEs r δ S1).bind fun ds S2=>.ok (d::ds) S2
noncomputable def evT:CE->Ev->St->Out Bool
 |.cmp op a b,δ,S=>(evE a δ S).bind fun x S1=>(evE b δ S1).bind fun y S2=>lift S2 (cmpD S2 op x y)
 |.nt a,δ,S=>(evT a δ S).bind fun k S1=>.ok (!k) S1
 |.and a b,δ,S=>(evT a δ S).bind fun k S1=>if k then evT b δ S1 else .ok false S1
 |.or a b,δ,S=>(evT a δ S).bind fun k S1=>if k then .ok true S1 else evT b δ S1
 |.tst e,δ,S=>(evE e δ S).bind fun x S1=>lift S1 (tru S1 x)
 |_,_,_=>.bad
noncomputable def evL:CL->Ev->St->Out (List D × List Nat)
 |.val e,δ,S=>(evE e δ S).bind fun x S1=>(lift S1 (zcA S1 x)).bind fun ds S2=>.ok (ds,lkOf S2 x) S2
 |.rng1 a,δ,S=>(evE a δ S).bind fun x S1=>match x with|.int j=>if -(2 ^ 62)<=j/\j<2 ^ 62 then .ok ((List.range j.toNat).map fun (k:Nat)=>.int k,[]) S1 else .bad|_=>.bad
 |.rng2 a b,δ,S=>(evE a δ S).bind fun x S1=>(evE b δ S1).bind fun y S2=>match x,y with
  |.int i,.int j=>if -(2 ^ 62)<=i/\i<2 ^ 62/\-(2 ^ 62)<=j/\j<2 ^ 62 then .ok ((List.range (j - i).toNat).map fun (k:Nat)=>.int (i+k),[]) S2 else .bad
  |_,_=>.bad
 |.comp n js g it c e,δ,S=>(evL it δ S).bind fun r S1=>(zbm r.2 S1 fun S2=>zbo g (evT c) (evE e) r.1 (csl n js δ) S2).bind fun ds S3=>if ds.length<=16777216 then .ok (ds,[]) S3 else .bad
end
inductive Fl where
 |nx (δ:Ev)|rt (d:D)
noncomputable def zbt (g:List Nat)(b:Ev->St->Out Fl):List D->Ev->St->Out Fl
 | [],δ,S=>.ok (.nx δ) S
 | x :: xs, δ, S => match asgG g x δ with
   |none=>.bad
   | some δ' => (b δ' S).bind fun f S1 => match f with
     |.nx δ2=>zbt g b xs δ2 S1
     |.rt d=>.ok (.rt d) S1
noncomputable def exS:CS->Ev->St->Out Fl
 |.nil,δ,S=>.ok (.nx δ) S
 |.stop,_,_=>.bad
 |.asg i e r,δ,S=>(evE cf e δ S).bind fun x S1=>exS r (δ.set i (some x)) S1
 |.setIx a b e r,δ,S=>(evE cf e δ S).bind fun v S1=>(evE cf a δ S1).bind fun x S2=>(evE cf b δ S2).bind fun y S3=>match dPut S3 x y v with|some S4=>exS r δ S4|none=>.bad
 |.setF a f e r,δ,S=>(evE cf e δ S).bind fun v S1=>(evE cf a δ S1).bind fun x S2=>match zbI S2 x f v with|some S3=>exS r δ S3|none=>.bad
 |.ifS c t u r,δ,S=>(evT cf c δ S).bind fun k S1=>(if k then exS t δ S1 else exS u δ S1).bind fun f S2=>match f with
  |.nx δ'=>exS r δ' S2
  |.rt d=>.ok (.rt d) S2
 |.forS g l b r,δ,S=>(evL cf l δ S).bind fun q S1=>(zbm q.2 S1 fun S2=>zbt g (exS b) q.1 δ S2).bind fun f S3=>match f with
  |.nx δ'=>exS r δ' S3
  |.rt d=>.ok (.rt d) S3
 |.ret e _,δ,S=>(evE cf e δ S).bind fun x S1=>.ok (.rt x) S1
 |.expr e r,δ,S=>(evE cf e δ S).bind fun _ S1=>exS r δ S1
end
inductive Prim where
 |tally
noncomputable def rowD (r:Int × Int):D:=.tup [.int r.1,.int r.2]
noncomputable def talD (os:List (Option Int)):List D:=(zl1 (zdV [] os)).map rowD
noncomputable def prm (S:St):Prim->List D->Out D
 | .tally, [.ref l] => (match S.get l with
   | some (.lst ws) => (match zcb ws with
     |some os=>if (zdV [] os).length<64/\os.length<=16777216 then .ok (.ref S.len) (S.push (.lst (talD os))) else .bad
     |none=>.bad)
   |_=>.bad)
 |_,_=>.bad
structure Fn where
 np:Nat
 nn:Nat
 body:CS
 prim:Option Prim
noncomputable def zbk (F:Fn)(ds:List D):Ev:=ds.map some++List.replicate (F.nn - F.np) none
noncomputable def callF (P:List Fn):Nat->CF
 |0,_,_,_=>.bad
 | n + 1, f, ds, S => match P[f]? with
   | some F => if ds.length = F.np then (match F.prim with
      |some p=>if 3<=n then prm S p ds else .bad
      | none => (exS (callF P n) F.body (zbk F ds) S).bind fun r T => match r with
        |.nx _=>.ok .non T
        |.rt d=>.ok d T)
     else .bad
   |none=>.bad
end R
end
section
namespace R
open PySem (Str PyData Operator CmpOp)
@[simp] theorem zbf {α β:Type}(a:α)(S:St)(f:α->St->Out β):(Out.ok a S).bind f=f a S:=rfl
@[simp] theorem znX {α β:Type}(f:α->St->Out β):(Out.bad:Out α).bind f=.bad:=rfl
@[simp] theorem znW {α β:Type}(d:D)(S:St)(f:α->St->Out β):(Out.err d S:Out α).bind f=.err d S:=rfl
@[simp] theorem zdc {α:Type}(S:St)(a:α):lift S (some a)=.ok a S:=rfl
theorem zdm (S:St):S.enter.get=S.get:=by
 funext l
 simp only[St.get,St.enter,List.length_append,List.getElem?_append]
 by_cases h:l<S.frz.length
 · simp[h,Nat.lt_of_lt_of_le h (Nat.le_add_right _ _)]
 · simp only[h,if_false]
   split
   · rfl
   · simp only[List.getElem?_nil]
     exact (List.getElem?_eq_none (by omega)).symm
@[simp] theorem zij (S:St):S.enter.frz=S.frz++S.new:=rfl
@[simp] theorem znC (S:St):S.enter.new=[]:=rfl
@[simp] theorem znV (S:St):S.enter.lk=[]:=rfl
@[simp] theorem zii (S:St):S.enter.len=S.len:=by simp[St.len]
theorem zhQ (S:St):(S.frz++S.new).length=S.len:=by simp[St.len]
theorem zbe {S:St}{l:Nat}{o:MO}(h:S.get l=some o):l<S.len:=by
 unfold St.get at h
 unfold St.len
 split at h
 · omega
 · have:=(List.getElem?_eq_some_iff.mp h).1
   omega
theorem zdl {S:St}{l:Nat}{o:MO}(h:S.get l=some o)(nw:List MO)(lk:List Nat):(St.mk (S.frz++S.new) nw lk).get l=some o:=by
 have hl:=zbe h
 rw[<-zdm] at h
 unfold St.get at h⊢
 have e:l<(S.frz++S.new).length:=by rw[zhQ];exact hl
 simp only[zij,e,if_true] at h⊢
 exact h
theorem zib (F nw:List MO)(lk:List Nat)(i:Nat):(St.mk F nw lk).get (F.length+i)=nw[i]?:=by
 have:¬F.length+i<F.length:=by omega
 simp[St.get,this]
@[simp] theorem znS (n:Nat):flat n .non=true:=by simp[flat]
@[simp] theorem zoM (n:Nat)(b:Bool):flat n (.bl b)=true:=by simp[flat]
@[simp] theorem znT (n:Nat)(i:Int):flat n (.int i)=true:=by simp[flat]
@[simp] theorem znR (n:Nat)(x:Str):flat n (.str x)=true:=by simp[flat]
@[simp] theorem zju (n:Nat)(ds:List D):flat n (.tup ds)=flats n ds:=by simp[flat]
@[simp] theorem znU (n:Nat)(ds:List D):flat n (.fix ds)=flats n ds:=by simp[flat]
@[simp] theorem znz (n:Nat):flats n []=true:=by simp[flats]
@[simp] theorem zdT (n:Nat)(d:D)(ds:List D):flats n (d::ds)=(flat n d&&flats n ds):=by simp[flats]
@[simp] theorem ze0 (n : Nat) : ∀ ds es : List D, flats n (ds ++ es) = (flats n ds && flats n es)
  | [],es=>by simp
  |d::ds,es=>by simp[ze0 n ds es,Bool.and_assoc]
theorem zbT (n:Nat):∀ds:List D,flats n ds=true↔∀d∈ds,flat n d=true
 | []=>by simp
 |d::ds=>by simp[zbT n ds]
@[simp] theorem zlN (n:Nat)(ns:List Int):flats n (ns.map D.int)=true:=by rw[zbT];simp
@[simp] theorem zgO (S:St)(d:D)(T:St)(h:flat S.len d=true):zcS S d T=.ok d S:=by simp[zcS,h]
noncomputable def W {α:Type}(o:Out α)(Q:α->St->Prop):Prop:=match o with
 |.ok a S=>Q a S
 |_=>False
@[simp] theorem W_ok {α:Type}(a:α)(S:St)(Q:α->St->Prop):W (.ok a S) Q=Q a S:=rfl
@[simp] theorem zoX {α:Type}(Q:α->St->Prop):W (.bad:Out α) Q=False:=rfl
@[simp] theorem zoW {α:Type}(d:D)(S:St)(Q:α->St->Prop):W (.err d S:Out α) Q=False:=rfl
@[simp] theorem zac {α β : Type} (o : Out α) (f : α → St → Out β) (Q : β → St → Prop) : W (o.bind f) Q = W o fun a S => W (f a S) Q := by
  cases o<;>rfl
theorem W.mono {α:Type}{o:Out α}{Q Q':α->St->Prop}(h:W o Q)(hq:∀a S,Q a S->Q' a S):W o Q':=by
 cases o with
 |ok a S=>exact hq a S h
 |err d S=>exact h
 |bad=>exact h
theorem W.eq {α:Type}{o:Out α}{d:α}{S:St}(h:W o fun a T=>a=d/\T=S):o=.ok d S:=by
 cases o with
 |ok a T=>obtain⟨rfl,rfl⟩:=h;rfl
 |err d S=>exact False.elim h
 |bad=>exact False.elim h
theorem W.of {α:Type}{o:Out α}{d:α}{S:St}{Q:α->St->Prop}(h:o=.ok d S)(q:Q d S):W o Q:=by rw[h];exact q
theorem W.iff {α:Type}{o:Out α}{Q:α->St->Prop}:W o Q↔∃a S,o=.ok a S/\Q a S:=by
 cases o with
 |ok a S=>exact⟨fun h=>⟨a,S,rfl,h⟩,fun⟨_,_,e,h⟩=>by cases e;exact h⟩
 |err d S=>exact⟨fun h=>h.elim,fun⟨_,_,e,_⟩=>nomatch e⟩
 |bad=>exact⟨fun h=>h.elim,fun⟨_,_,e,_⟩=>nomatch e⟩
noncomputable def fin (S:St)(r:Fl)(T:St):Out D:=match r with
 |.nx _=>zcS S .non T
 |.rt d=>zcS S d T
@[simp] theorem zj3 (S T:St)(d:D):fin S (.rt d) T=zcS S d T:=rfl
@[simp] theorem zoV (S T:St)(δ:Ev):fin S (.nx δ) T=.ok .non S:=by simp[fin]
theorem znP {P:List Fn}{F:Fn}{f n:Nat}{ds:List D}{S:St}(h:P[f]?=some F)(hl:ds.length=F.np)(hp:F.prim=none:=by rfl) :
  app (callF P (n+1)) f ds S=(exS (callF P n) F.body (zbk F ds) S.enter).bind fun r T=>fin S r T:=by
 simp only[app,callF,h,hl,hp,if_true]
 generalize exS (callF P n) F.body (zbk F ds) S.enter=o
 cases o with
 |ok r T=>cases r<;>rfl
 |err d S=>rfl
 |bad=>rfl
noncomputable def finL (S:St)(r:Fl)(T:St):Out (List D):=match r with
 |.nx _=>.bad
 |.rt d=>zhR S d T
@[simp] theorem zoN (S T:St)(d:D):finL S (.rt d) T=zhR S d T:=rfl
theorem zbi {g:List Nat}{b:Ev->St->Out Fl}(I:Nat->Ev->St->Prop)(Rt:D->St->Prop):∀(xs:List D) (k:Nat) (δ:Ev) (S:St),I k δ S->
  (∀i x δ S,xs[i]?=some x->I (k+i) δ S->∃δ',asgG g x δ=some δ'/\W (b δ' S) fun f S'=>match f with|.nx δ2=>I (k+i+1) δ2 S'|.rt d=>Rt d S')->
  W (zbt g b xs δ S) fun f S'=>match f with|.nx δ'=>I (k+xs.length) δ' S'|.rt d=>Rt d S'
 | [],k,δ,S,h,_=>by simpa[zbt] using h
 | x :: xs, k, δ, S, h, step => by
   obtain⟨δ',e,w⟩:=step 0 x δ S rfl h
   simp only[zbt,e,zac]
   refine w.mono fun f S1 hf=>?_
   cases f with
   |rt d=>exact hf
   | nx δ2 =>
     have ih:=zbi I Rt xs (k+1) δ2 S1 hf (fun i y δ S hy hi=>by
      have:=step (i+1) y δ S (by simpa using hy) (by rw[show k+(i+1)=k+1+i by omega];exact hi)
      rw[show k+(i+1)+1=k+1+i+1 by omega] at this
      exact this)
     rw[show k+1+xs.length=k+(x::xs).length by simp;omega] at ih
     exact ih
theorem zaB {c:Ev->St->Out Bool}{e:Ev->St->Out D}{S:St}{rest:Ev}(p:D->Bool)(f:D->D):∀(xs:List D) (o:Option D),
  (∀x∈xs,c (some x::rest) S=.ok (p x) S)->(∀x∈xs,p x=true->e (some x::rest) S=.ok (f x) S)->zbo [0] c e xs (o::rest) S=.ok ((xs.filter p).map f) S
 | [],o,_,_=>rfl
 | x :: xs, o, hc, he => by
   have ih:=zaB p f xs (some x) (fun y hy=>hc y (List.mem_cons_of_mem _ hy)) (fun y hy=>he y (List.mem_cons_of_mem _ hy))
   simp only[zbo,asgG,List.set_cons_zero,hc x List.mem_cons_self,zbf]
   cases hp:p x with
   |false=>simp[ih,hp]
   |true=>simp[ih,hp,he x List.mem_cons_self hp]
@[simp] theorem zlM {α:Type}(S:St)(f:St->Out α):zbm [] S f=(f S).bind fun a S'=>.ok a {S' with lk:=S.lk}:=rfl
end R
end
section
namespace R
open PySem (Str PyData Operator CmpOp)
noncomputable def wIf (c:Bool)(P Q:Prop):Prop:=match c with|true=>P|false=>Q
@[irreducible] noncomputable def wOpt {α:Type}(o:Option α)(k:α->Prop):Prop:=match o with|some a=>k a|none=>False
@[irreducible] noncomputable def zaQ (p k:Prop):Prop:=p/\k
@[irreducible] noncomputable def wOut {α:Type}(o:Out α)(Q:α->St->Prop):Prop:=W o Q
theorem zkd {c:Bool}{P Q:Prop}(h:c=true)(k:P):wIf c P Q:=by subst h;exact k
theorem zlT {c:Bool}{P Q:Prop}(h:c=false)(k:Q):wIf c P Q:=by subst h;exact k
theorem znZ {c:Bool}{P Q:Prop}(h1:c=true->P)(h2:c=false->Q):wIf c P Q:=by
 cases c with
 |true=>exact zkd rfl (h1 rfl)
 |false=>exact zlT rfl (h2 rfl)
theorem zey {p:Prop}[Decidable p]{P Q:Prop}(h1:p->P)(h2:¬p->Q):wIf (decide p) P Q:=znZ (fun h=>h1 (of_decide_eq_true h)) (fun h=>h2 (of_decide_eq_false h))
theorem zaa {α:Type}{o:Option α}{k:α->Prop}{a:α}(h:o=some a)(q:k a):wOpt o k:=by unfold wOpt;rw[h];exact q
theorem zab {p k:Prop}(h:p)(q:k):zaQ p k:=by unfold zaQ;exact⟨h,q⟩
theorem zax {α:Type}{o:Out α}{Q:α->St->Prop}{a:α}{S:St}(h:o=.ok a S)(q:Q a S):wOut o Q:=by unfold wOut;rw[h];exact q
theorem zex {α:Type}{o:Out α}{Q:α->St->Prop}(h:W o Q):wOut o Q:=by unfold wOut;exact h
noncomputable abbrev wGet (S:St)(l:Nat)(k:MO->Prop):Prop:=wOpt (S.get l) k
noncomputable abbrev wPut (S:St)(l:Nat)(o:MO)(k:St->Prop):Prop:=wOpt (S.put l o) k
theorem zbA {F nw:List MO}{lk:List Nat}{i:Nat}{o:MO}{k:MO->Prop}(h:nw[i]?=some o)(q:k o):wGet (St.mk F nw lk) (F.length+i) k:=zaa ((zib F nw lk i).trans h) q
theorem zkM {F nw:List MO}{lk:List Nat}{i:Nat}{o:MO}(h:lk.contains (F.length+i)=false):(St.mk F nw lk).put (F.length+i) o=some ⟨F,nw.set i o,lk⟩:=by
 have h1:¬F.length+i<F.length:=by omega
 simp only[St.put,h1,if_false,h,Bool.false_eq_true,Nat.add_sub_cancel_left]
theorem zfK {F nw:List MO}{lk:List Nat}{i:Nat}{o:MO}{k:St->Prop}(h:lk.contains (F.length+i)=false)(q:k ⟨F,nw.set i o,lk⟩):wPut (St.mk F nw lk) (F.length+i) o k:=zaa (zkM h) q
noncomputable def wLay (S:St)(ds:List D)(Q:D->St->Prop):Prop:=zaQ (ds.length<=16777216) (Q (.ref S.len) (S.push (.lst ds)))
theorem zcM {S:St}{ds:List D}{Q:D->St->Prop}(h:wLay S ds Q):W (lay S ds) Q:=by
 unfold wLay zaQ at h
 unfold lay
 rw[if_pos h.1];exact h.2
noncomputable def wWr (S:St)(l:Nat)(ds:List D)(d:D)(Q:D->St->Prop):Prop:=zaQ (ds.length<=16777216) (wPut S l (.lst ds) fun S'=>Q d S')
theorem zkc {S:St}{l:Nat}{ds:List D}{d:D}{Q:D->St->Prop}(h:wWr S l ds d Q):W (wr S l ds d) Q:=by
 unfold wWr zaQ wPut wOpt at h
 unfold wr
 rw[if_pos h.1]
 have h2:=h.2
 cases e:S.put l (.lst ds) with
 |none=>rw[e] at h2;exact h2.elim
 |some S'=>rw[e] at h2;exact h2
noncomputable def zlV (S:St)(op:Operator)(i j:Int)(Q:D->St->Prop):Prop:=match op with
 |.Add=>Q (.int (i+j)) S
 |.Sub=>Q (.int (i - j)) S
 |.Mult=>zaQ (zhK i j=true) (Q (.int (i * j)) S)
 |.FloorDiv=>zaQ (0<j/\j<1073741824) (Q (.int (i / j)) S)
 |.Mod=>zaQ (0<j) (Q (.int (i % j)) S)
 |.Pow=>zaQ (0<=j/\j<=1000000/\-18446744073709551616<i/\i<18446744073709551616) (Q (.int (i ^ j.toNat)) S)
 |_=>False
noncomputable def wBin (S:St)(op:Operator)(x y:D)(Q:D->St->Prop):Prop:=match x,y with
 |.int i,.int j=>zlV S op i j Q
 |.tup xs,.tup ys=>(match op with|.Add=>zaQ (xs.length+ys.length<=16777216) (Q (.tup (xs++ys)) S)|_=>False)
 |.ref a,.ref b=>(match op with|.Add=>wGet S a fun o=>wGet S b fun u=>(match o,u with|.lst xs,.lst ys=>wLay S (xs++ys) Q|_,_=>False)|_=>False)
 |_,_=>False
theorem zlU {S:St}{op:Operator}{x y:D}{Q:D->St->Prop}(h:wBin S op x y Q):W (binD S op x y) Q:=by
 unfold wBin at h
 unfold binD
 split at h
 · unfold zlV zaQ at h
   unfold binI
   split at h<;>(try dsimp only)<;>first|exact h|(rw[if_pos h.1];exact h.2)|exact False.elim h
 · split at h
   · unfold zaQ at h
     (try simp only)
     rw[if_pos h.1];exact h.2
   · exact h.elim
 · split at h
   · unfold wGet wOpt at h
     (try simp only)
     cases ea:S.get _ with
     |none=>simp only[ea] at h
     | some o =>
       simp only[ea] at h
       cases eb:S.get _ with
       |none=>simp only[eb] at h
       | some u =>
         simp only[eb] at h
         cases o<;>cases u<;>first|exact zcM h|exact h.elim
   · exact h.elim
 · exact h.elim
noncomputable def wCmp (S:St)(op:CmpOp)(x y:D)(Q:Bool->Prop):Prop:=match x,y with
 |.int i,.int j=>(match cmpI op i j with|some k=>Q k|none=>False)
 | _, _ => (match op with
   |.Is=>(match cmpO S .Is x y with|some k=>Q k|none=>False)
   |.IsNot=>(match cmpO S .IsNot x y with|some k=>Q k|none=>False)
   |_=>wOpt (cmpO S op x y) Q)
theorem zlF {S:St}{op:CmpOp}{x y:D}(h:∀i j,x=.int i->y=.int j->False):cmpD S op x y=cmpO S op x y:=by
 unfold cmpD
 split
 · rename_i i j;exact (h i j rfl rfl).elim
 · rfl
theorem zke {S:St}{op:CmpOp}{x y:D}{Q:Bool->Prop}(h:wCmp S op x y Q):∃k,cmpD S op x y=some k/\Q k:=by
 have fin:∀o:Option Bool,(match o with|some k=>Q k|none=>False)->∃k,o=some k/\Q k:=fun o q=>by
  cases o with
  |none=>exact q.elim
  |some k=>exact⟨k,rfl,q⟩
 unfold wCmp at h
 split at h
 · exact fin _ h
 · rename_i hn
   rw[zlF hn]
   split at h
   · exact fin _ h
   · exact fin _ h
   · unfold wOpt at h
     cases e:cmpO S op x y with
     |none=>rw[e] at h;exact h.elim
     |some k=>rw[e] at h;exact⟨k,rfl,h⟩
theorem zjH {S:St}{op:CmpOp}{x y:D}{Q:Bool->St->Prop}(h:wCmp S op x y fun k=>Q k S):W (lift S (cmpD S op x y)) Q:=by
 obtain⟨k,e,q⟩:=zke h
 rw[e];exact q
noncomputable def wBi (S:St)(b:Bi)(ds:List D)(Q:D->St->Prop):Prop:=match b,ds with
 | .len, [x] => (match x with
   |.tup ds=>Q (.int ds.length) S
   |.fix ds=>Q (.int ds.length) S
   |.ref l=>wGet S l fun o=>(match o with|.lst ds=>Q (.int ds.length) S|.dic kvs=>Q (.int kvs.length) S|.dtp kvs=>Q (.int kvs.length) S|_=>False)
   |_=>False)
 |.abs,[.int i]=>Q (.int (if i<0 then -i else i)) S
 |.max2,[.int i,.int j]=>Q (.int (if j > i then j else i)) S
 |.min2,[.int i,.int j]=>Q (.int (if j<i then j else i)) S
 |.isin t,[x]=>wOpt (tyOf S x) fun a=>Q (.bl (a == t || (a == "bool"&&t == "int"))) S
 |_,_=>False
theorem zn0 {S:St}{b:Bi}{ds:List D}{Q:D->St->Prop}(h:wBi S b ds Q):W (bi S b ds) Q:=by
 unfold wBi at h
 split at h
 · split at h
   · exact h
   · exact h
   · rename_i l
     unfold wGet wOpt at h
     simp only[bi]
     cases e:S.get l with
     |none=>rw[e] at h;exact h.elim
     |some o=>rw[e] at h;cases o<;>first|exact h|exact h.elim
   · exact h.elim
 · exact h
 · exact h
 · exact h
 · rename_i t x
   unfold wOpt at h
   simp only[bi]
   cases e:tyOf S x with
   |none=>rw[e] at h;exact h.elim
   |some a=>rw[e] at h;exact h
 · exact h.elim
noncomputable def wIsL (S:St)(x:D)(P:Prop):Prop:=match x with
 |.ref l=>wGet S l fun o=>(match o with|.lst _=>P|_=>False)
 |_=>False
theorem zg7 {S:St}{x:D}{P:Prop}(h:wIsL S x P):isL S x=true/\P:=by
 unfold wIsL at h
 split at h
 · rename_i l
   unfold wGet wOpt at h
   unfold isL
   cases e:S.get l with
   |none=>rw[e] at h;exact h.elim
   | some o =>
     rw[e] at h
     cases o with
     |lst ds=>exact⟨by simp[e],h⟩
     |_=>exact False.elim h
 · exact h.elim
noncomputable def wMt (S:St)(m:Mt)(x:D)(ds:List D)(Q:D->St->Prop):Prop:=match m,x,ds with
 |.append,.ref l,[y]=>wGet S l fun o=>(match o with|.lst ds=>wWr S l (ds++[y]) .non Q|_=>False)
 | .popAt, .ref l, [.int i] => wGet S l fun o => (match o with
   |.lst ds=>zaQ (0<=i) (wOpt ds[i.toNat]? fun y=>wWr S l (ds.eraseIdx i.toNat) y Q)
   |_=>False)
 | .count, .ref l, [.int i] => wGet S l fun o => (match o with
   |.lst ds=>wOpt (zcb ds) fun os=>Q (.int (os.count (some i):Nat)) S
   |_=>False)
 |_,_,_=>False
theorem znY {S:St}{m:Mt}{x:D}{ds:List D}{Q:D->St->Prop}(h:wMt S m x ds Q):W (mt S m x ds) Q:=by
 unfold wMt at h
 split at h
 · rename_i l y
   unfold wGet wOpt at h
   simp only[mt]
   cases e:S.get l with
   |none=>rw[e] at h;exact h.elim
   |some o=>rw[e] at h;cases o<;>first|exact zkc h|exact h.elim
 · rename_i l i
   unfold wGet wOpt zaQ at h
   simp only[mt]
   cases e:S.get l with
   |none=>rw[e] at h;exact h.elim
   | some o =>
     rw[e] at h
     cases o with
     | lst ds =>
       simp only at h⊢
       rw[if_pos h.1]
       have h2:=h.2
       cases e2:ds[i.toNat]? with
       |none=>rw[e2] at h2;exact h2.elim
       |some y=>rw[e2] at h2;exact zkc h2
     |_=>exact h.elim
 · rename_i l i
   unfold wGet wOpt at h
   simp only[mt]
   cases e:S.get l with
   |none=>rw[e] at h;exact h.elim
   | some o =>
     rw[e] at h
     cases o with
     | lst ds =>
       simp only at h⊢
       cases e2:zcb ds with
       |none=>rw[e2] at h;exact h.elim
       |some y=>rw[e2] at h;exact h
     |_=>exact h.elim
 · exact h.elim
noncomputable def wSeq (S:St)(x:D)(k:List D->Prop):Prop:=match x with
 |.tup ds=>k ds
 |.fix ds=>k ds
 |.ref l=>wGet S l fun o=>(match o with|.lst ds=>k ds|_=>False)
 |_=>False
theorem zg5 {S:St}{x:D}{k:List D->Prop}(h:wSeq S x k):∃ds,zcA S x=some ds/\k ds:=by
 unfold wSeq at h
 unfold zcA
 split at h
 · exact⟨_,rfl,h⟩
 · exact⟨_,rfl,h⟩
 · rename_i l
   unfold wGet wOpt at h
   cases e:S.get l with
   |none=>rw[e] at h;exact h.elim
   | some o =>
     rw[e] at h
     cases o with
     |lst ds=>exact⟨ds,by simp[e],h⟩
     |dic _=>exact False.elim h
     |ins _ _=>exact False.elim h
     |dtp _=>exact False.elim h
 · exact h.elim
noncomputable def wTru (S:St)(x:D)(Q:Bool->Prop):Prop:=match x with
 |.bl b=>Q b
 |.non=>Q false
 |.int i=>Q (i != 0)
 |.tup ds=>Q (!ds.isEmpty)
 |.ref l=>wGet S l fun o=>(match o with|.lst ds=>Q (!ds.isEmpty)|_=>False)
 |_=>False
theorem zlS {S:St}{x:D}{Q:Bool->St->Prop}(h:wTru S x fun k=>Q k S):W (lift S (tru S x)) Q:=by
 unfold wTru at h
 unfold tru
 split at h
 · exact h
 · exact h
 · exact h
 · exact h
 · rename_i l
   unfold wGet wOpt at h
   simp only
   cases e:S.get l with
   |none=>rw[e] at h;exact h.elim
   |some o=>rw[e] at h;cases o<;>first|exact h|exact h.elim
 · exact h.elim
@[irreducible] noncomputable def zgr {α:Type}(ls:List Nat)(S:St)(f:St->Out α)(Q:α->St->Prop):Prop:=W (zbm ls S f) Q
theorem zg6 {α:Type}{ls:List Nat}{S:St}{f:St->Out α}{Q:α->St->Prop}(h:zgr ls S f Q):W (zbm ls S f) Q:=by unfold zgr at h;exact h
theorem zaV {α:Type}{ls:List Nat}{S:St}{f:St->Out α}{Q:α->St->Prop}(h:W (f {S with lk:=ls++S.lk}) fun a T=>Q a {T with lk:=S.lk}):zgr ls S f Q:=by
 unfold zgr zbm
 rw[zac];exact h
section
variable (cf:CF)
mutual
noncomputable def wE:CE->Ev->St->(D->St->Prop)->Prop
 |.loc i,δ,S,Q=>(match (δ[i]?).join with|some d=>Q d S|none=>False)
 |.con d,_,S,Q=>Q d S
 |.tst _,_,_,_=>False
 |.bin op a b,δ,S,Q=>wE a δ S fun x S1=>wE b δ S1 fun y S2=>wBin S2 op x y Q
 |.neg a,δ,S,Q=>wE a δ S fun x S1=>(match x with|.int i=>Q (.int (-i)) S1|_=>False)
 |.nt a,δ,S,Q=>wE a δ S fun x S1=>(match x with|.bl b=>Q (.bl (!b)) S1|_=>False)
 |.cmp op a b,δ,S,Q=>wE a δ S fun x S1=>wE b δ S1 fun y S2=>wCmp S2 op x y fun k=>Q (.bl k) S2
 |.and a b,δ,S,Q=>wE a δ S fun x S1=>(match x with|.bl k=>wIf k (wE b δ S1 Q) (Q (.bl false) S1)|_=>False)
 |.or a b,δ,S,Q=>wE a δ S fun x S1=>(match x with|.bl k=>wIf k (Q (.bl true) S1) (wE b δ S1 Q)|_=>False)
 |.ite c a b,δ,S,Q=>wT c δ S fun k S1=>wIf k (wE a δ S1 Q) (wE b δ S1 Q)
 |.tup es,δ,S,Q=>wEs es δ S fun ds S1=>zaQ (ds.length<=16777216) (Q (.tup ds) S1)
 |.lst es,δ,S,Q=>wEs es δ S fun ds S1=>wLay S1 ds Q
 |.dnew,_,S,Q=>Q (.ref S.len) (S.push (.dic []))
 |.dnewT,_,S,Q=>Q (.ref S.len) (S.push (.dtp []))
 |.dic1 a b,δ,S,Q=>wE a δ S fun x S1=>wE b δ S1 fun v S2=>wOpt (zcH x) fun k=>Q (.ref S2.len) (S2.push (.dic [(k,v)]))
 |.dsrt a,δ,S,Q=>wE a δ S fun r S1=>wOpt (dicI S1 r) fun is=>zaQ (is.length<64) (wLay S1 ((zag is).map .int) Q)
 |.fld a f,δ,S,Q=>wE a δ S fun x S1=>wOpt ((zbs S1 x).bind fun p=>p.2.lookup f) fun v=>Q v S1
 |.mk c f _ j es,δ,S,Q=>wEs es δ S fun ds S1=>wOut (appW cf f (.ref S1.len::(ds++List.replicate j .non)) (S1.push (.ins c []))) fun d S2=>zaQ (zj0 d=true) (Q (.ref S1.len) S2)
 |.meth m tb o es,δ,S,Q=>wE o δ S fun x S1=>wOpt (zbs S1 x) fun p=>wOpt (tb.lookup p.1) fun f=>zaQ ((p.2.lookup m).isNone=true) (wEs es δ S1 fun ds S2=>wOut (appW cf f (x::ds) S2) Q)
 |.isc cs _ a,δ,S,Q=>wE a δ S fun x S1=>wOpt (zbs S1 x) fun p=>Q (.bl (cs.contains p.1)) S1
 |.callC f _ _ es,δ,S,Q=>wEs es δ S fun ds S1=>wOut (appW cf f ds S1) Q
 |.clr a,δ,S,Q=>wE a δ S fun x S1=>wIsL S1 x (match x with|.ref l=>wWr S1 l [] .non Q|_=>False)
 |.ix a b,δ,S,Q=>wE a δ S fun x S1=>wE b δ S1 fun y S2=>wSeq S2 x fun ds=>(match y with|.int i=>wOpt (atI ds i) fun d=>Q d S2|_=>False)
 |.sl a ml mh lo hi,δ,S,Q=>wE a δ S fun x S1=>wE lo δ S1 fun y S2=>wE hi δ S2 fun z S3=>(match zbQ ml y,zbQ mh z with
  | some l, some h => (match x with
    |.tup ds=>Q (.tup (cut ds l h)) S3
    |.fix ds=>wLay S3 (cut ds l h) Q
    |.ref p=>wGet S3 p fun o=>(match o with|.lst ds=>wLay S3 (cut ds l h) Q|_=>False)
    |_=>False)
  |_,_=>False)
 |.call f j es,δ,S,Q=>wEs es δ S fun ds S1=>wOut (app cf f (ds++List.replicate j .non) S1) Q
 |.callW f j es,δ,S,Q=>wEs es δ S fun ds S1=>wOut (appW cf f (ds++List.replicate j .non) S1) Q
 |.bi b es,δ,S,Q=>wEs es δ S fun ds S1=>wBi S1 b ds Q
 |.mt m o es,δ,S,Q=>wE o δ S fun x S1=>wIsL S1 x (wEs es δ S1 fun ds S2=>wMt S2 m x ds Q)
 |.mkL l,δ,S,Q=>wL l δ S fun r S1=>wLay S1 r.1 Q
 |.mkT l,δ,S,Q=>wL l δ S fun r S1=>zaQ (r.1.length<=16777216) (Q (.tup r.1) S1)
 |.all l,δ,S,Q=>wL l δ S fun r S1=>wOpt (allD r.1) fun b=>Q (.bl b) S1
 |.srt a,δ,S,Q=>wE a δ S fun r S1=>wOpt (lstI S1 r) fun is=>zaQ (is.length<64) (wLay S1 ((zag is).map .int) Q)
 |.min1 a,δ,S,Q=>wE a δ S fun r S1=>wOpt (lstI S1 r) fun is=>wOpt (minZ is) fun k=>Q (.int k) S1
 |.sset a,δ,S,Q=>wE a δ S fun r S1=>wOpt (lstI S1 r) fun is=>zaQ (is.length<64) (wLay S1 ((zag (dedup is)).map .int) Q)
noncomputable def wEs:CEs->Ev->St->(List D->St->Prop)->Prop
 |.nil,_,S,Q=>Q [] S
 |.cons e r,δ,S,Q=>wE e δ S fun d S1=>wEs r δ S1 fun ds S2=>Q (d::ds) S2
noncomputable def wT:CE->Ev->St->(Bool->St->Prop)->Prop
 |.cmp op a b,δ,S,Q=>wE a δ S fun x S1=>wE b δ S1 fun y S2=>wCmp S2 op x y fun k=>Q k S2
 |.nt a,δ,S,Q=>wT a δ S fun k S1=>Q (!k) S1
 |.and a b,δ,S,Q=>wT a δ S fun k S1=>wIf k (wT b δ S1 Q) (Q false S1)
 |.or a b,δ,S,Q=>wT a δ S fun k S1=>wIf k (Q true S1) (wT b δ S1 Q)
 |.tst e,δ,S,Q=>wE e δ S fun x S1=>wTru S1 x fun k=>Q k S1
 |_,_,_,_=>False
noncomputable def wL:CL->Ev->St->(List D × List Nat->St->Prop)->Prop
 |.val e,δ,S,Q=>wE e δ S fun x S1=>wSeq S1 x fun ds=>Q (ds,lkOf S1 x) S1
 |.rng1 a,δ,S,Q=>wE a δ S fun x S1=>(match x with|.int j=>zaQ (-(2 ^ 62)<=j/\j<2 ^ 62) (Q ((List.range j.toNat).map fun (k:Nat)=>.int k,[]) S1)|_=>False)
 |.rng2 a b,δ,S,Q=>wE a δ S fun x S1=>wE b δ S1 fun y S2=>(match x,y with
  |.int i,.int j=>zaQ (-(2 ^ 62)<=i/\i<2 ^ 62/\-(2 ^ 62)<=j/\j<2 ^ 62) (Q ((List.range (j - i).toNat).map fun (k:Nat)=>.int (i+k),[]) S2)
  |_,_=>False)
 |.comp n js g it c e,δ,S,Q=>wL it δ S fun r S1=>zgr r.2 S1 (fun S2=>zbo g (evT cf c) (evE cf e) r.1 (csl n js δ) S2) fun ds S3=>zaQ (ds.length<=16777216) (Q (ds,[]) S3)
end
noncomputable def wS:CS->Ev->St->(Fl->St->Prop)->Prop
 |.nil,δ,S,Q=>Q (.nx δ) S
 |.stop,_,_,_=>False
 |.asg i e r,δ,S,Q=>wE cf e δ S fun x S1=>wS r (δ.set i (some x)) S1 Q
 |.setIx a b e r,δ,S,Q=>wE cf e δ S fun v S1=>wE cf a δ S1 fun x S2=>wE cf b δ S2 fun y S3=>wOpt (dPut S3 x y v) fun S4=>wS r δ S4 Q
 |.setF a f e r,δ,S,Q=>wE cf e δ S fun v S1=>wE cf a δ S1 fun x S2=>wOpt (zbI S2 x f v) fun S3=>wS r δ S3 Q
 |.ifS c t u r,δ,S,Q=>wT cf c δ S fun k S1=>wIf k (wS t δ S1 fun f S2=>(match f with|.nx δ'=>wS r δ' S2 Q|.rt d=>Q (.rt d) S2)) (wS u δ S1 fun f S2=>(match f with|.nx δ'=>wS r δ' S2 Q|.rt d=>Q (.rt d) S2))
 |.forS g l b r,δ,S,Q=>wL cf l δ S fun q S1=>zgr q.2 S1 (fun S2=>zbt g (exS cf b) q.1 δ S2) fun f S3=>(match f with|.nx δ'=>wS r δ' S3 Q|.rt d=>Q (.rt d) S3)
 |.ret e _,δ,S,Q=>wE cf e δ S fun x S1=>Q (.rt x) S1
 |.expr e r,δ,S,Q=>wE cf e δ S fun _ S1=>wS r δ S1 Q
end
section
variable {cf:CF}
mutual
theorem wE_W:∀(e:CE) {δ:Ev} {S:St} {Q:D->St->Prop},wE cf e δ S Q->W (evE cf e δ S) Q
 | .loc i, δ, S, Q, h => by
   simp only[wE] at h
   simp only[evE]
   cases e:(δ[i]?).join with
   |none=>rw[e] at h;exact h.elim
   |some d=>rw[e] at h;exact h
 |.con d,δ,S,Q,h=>by simp only[wE] at h;simp only[evE];exact h
 |.tst _,δ,S,Q,h=>by simp only[wE] at h
 | .bin op a b, δ, S, Q, h => by
   simp only[wE] at h
   simp only[evE,zac]
   exact (wE_W a h).mono fun x S1 h1=>(wE_W b h1).mono fun y S2 h2=>zlU h2
 | .neg a, δ, S, Q, h => by
   simp only[wE] at h
   simp only[evE,zac]
   refine (wE_W a h).mono fun x S1 h1=>?_
   cases x<;>first|exact h1|exact h1.elim
 | .nt a, δ, S, Q, h => by
   simp only[wE] at h
   simp only[evE,zac]
   refine (wE_W a h).mono fun x S1 h1=>?_
   cases x<;>first|exact h1|exact h1.elim
 | .cmp op a b, δ, S, Q, h => by
   simp only[wE] at h
   simp only[evE,zac,W_ok]
   exact (wE_W a h).mono fun x S1 h1=>(wE_W b h1).mono fun y S2 h2=>zjH (Q:=fun k S=>Q (.bl k) S) h2
 | .and a b, δ, S, Q, h => by
   simp only[wE] at h
   simp only[evE,zac]
   refine (wE_W a h).mono fun x S1 h1=>?_
   cases x with
   | bl k =>
     unfold wIf at h1
     cases k with
     |false=>exact h1
     |true=>exact wE_W b h1
   |_=>exact h1.elim
 | .or a b, δ, S, Q, h => by
   simp only[wE] at h
   simp only[evE,zac]
   refine (wE_W a h).mono fun x S1 h1=>?_
   cases x with
   | bl k =>
     unfold wIf at h1
     cases k with
     |true=>exact h1
     |false=>exact wE_W b h1
   |_=>exact h1.elim
 | .ite c a b, δ, S, Q, h => by
   simp only[wE] at h
   simp only[evE,zac]
   refine (wT_W c h).mono fun k S1 h1=>?_
   unfold wIf at h1
   cases k with
   |true=>exact wE_W a h1
   |false=>exact wE_W b h1
 | .tup es, δ, S, Q, h => by
   simp only[wE] at h
   simp only[evE,zac]
   refine (zdz es h).mono fun ds S1 h1=>?_
   unfold zaQ at h1
   rw[if_pos h1.1];exact h1.2
 | .lst es, δ, S, Q, h => by
   simp only[wE] at h
   simp only[evE,zac]
   exact (zdz es h).mono fun ds S1 h1=>zcM h1
 |.dnew,δ,S,Q,h=>by simp only[wE] at h;simp only[evE];exact h
 |.dnewT,δ,S,Q,h=>by simp only[wE] at h;simp only[evE];exact h
 | .fld a f, δ, S, Q, h => by
   simp only[wE] at h
   simp only[evE,zac]
   refine (wE_W a h).mono fun x S1 h1=>?_
   unfold wOpt at h1
   cases e:(zbs S1 x).bind fun p=>p.2.lookup f with
   |none=>rw[e] at h1;exact h1.elim
   |some o=>rw[e] at h1;exact h1
 | .mk c f _ j es, δ, S, Q, h => by
   simp only[wE] at h
   simp only[evE,zac]
   refine (zdz es h).mono fun ds S1 h1=>?_
   unfold wOut at h1
   refine h1.mono fun d S2 h2=>?_
   unfold zaQ at h2
   rw[if_pos h2.1];exact h2.2
 | .meth m tb o es, δ, S, Q, h => by
   simp only[wE] at h
   simp only[evE,zac]
   refine (wE_W o h).mono fun x S1 h1=>?_
   unfold wOpt at h1
   cases e:zbs S1 x with
   |none=>rw[e] at h1;exact h1.elim
   | some p =>
     rw[e] at h1
     dsimp only at h1
     cases e2:tb.lookup p.1 with
     |none=>rw[e2] at h1;exact h1.elim
     | some f =>
       rw[e2] at h1
       unfold zaQ at h1
       simp only[zdc,W_ok]
       rw[e2,zdc,W_ok,if_pos h1.1,zac]
       refine (zdz es h1.2).mono fun ds S2 h2=>?_
       unfold wOut at h2;exact h2
 | .isc cs _ a, δ, S, Q, h => by
   simp only[wE] at h
   simp only[evE,zac]
   refine (wE_W a h).mono fun x S1 h1=>?_
   unfold wOpt at h1
   cases e:zbs S1 x with
   |none=>rw[e] at h1;exact h1.elim
   |some p=>rw[e] at h1;exact h1
 | .callC f _ _ es, δ, S, Q, h => by
   simp only[wE] at h
   simp only[evE,zac]
   refine (zdz es h).mono fun ds S1 h1=>?_
   unfold wOut at h1;exact h1
 | .clr a, δ, S, Q, h => by
   simp only[wE] at h
   simp only[evE,zac]
   refine (wE_W a h).mono fun x S1 h1=>?_
   obtain⟨h2,h3⟩:=zg7 h1
   rw[if_pos h2]
   cases x with
   |ref l=>exact zkc h3
   |_=>exact h3.elim
 | .ix a b, δ, S, Q, h => by
   simp only[wE] at h
   simp only[evE,zac]
   refine (wE_W a h).mono fun x S1 h1=>(wE_W b h1).mono fun y S2 h2=>?_
   obtain⟨ds,e,h3⟩:=zg5 h2
   rw[e]
   cases y with
   | int i =>
     unfold wOpt at h3
     simp only at h3⊢
     cases e2:atI ds i with
     |none=>rw[e2] at h3;exact h3.elim
     |some d=>rw[e2] at h3;exact h3
   |_=>exact h3.elim
 | .sl a ml mh lo hi, δ, S, Q, h => by
   simp only[wE] at h
   simp only[evE,zac]
   refine (wE_W a h).mono fun x S1 h1=>(wE_W lo h1).mono fun y S2 h2=>(wE_W hi h2).mono fun z S3 h3=>?_
   cases ey:zbQ ml y with
   |none=>rw[ey] at h3;exact h3.elim
   | some l =>
     cases ez:zbQ mh z with
     |none=>rw[ey,ez] at h3;exact h3.elim
     | some u =>
       rw[ey,ez] at h3
       cases x with
       |tup ds=>exact h3
       |fix ds=>exact zcM h3
       | ref p =>
         unfold wGet wOpt at h3
         simp only at h3⊢
         cases e:S3.get p with
         |none=>rw[e] at h3;exact h3.elim
         |some o=>rw[e] at h3;cases o<;>first|exact zcM h3|exact h3.elim
       |_=>exact h3.elim
 | .call f j es, δ, S, Q, h => by
   simp only[wE] at h
   simp only[evE,zac]
   refine (zdz es h).mono fun ds S1 h1=>?_
   unfold wOut at h1;exact h1
 | .callW f j es, δ, S, Q, h => by
   simp only[wE] at h
   simp only[evE,zac]
   refine (zdz es h).mono fun ds S1 h1=>?_
   unfold wOut at h1;exact h1
 | .bi b es, δ, S, Q, h => by
   simp only[wE] at h
   simp only[evE,zac]
   exact (zdz es h).mono fun ds S1 h1=>zn0 h1
 | .mt m o es, δ, S, Q, h => by
   simp only[wE] at h
   simp only[evE,zac]
   refine (wE_W o h).mono fun x S1 h1=>?_
   obtain⟨c,h2⟩:=zg7 h1
   rw[if_pos c,zac]
   exact (zdz es h2).mono fun ds S2 h3=>znY h3
 | .mkL l, δ, S, Q, h => by
   simp only[wE] at h
   simp only[evE,zac]
   exact (wL_W l h).mono fun ds S1 h1=>zcM h1
 | .mkT l, δ, S, Q, h => by
   simp only[wE] at h
   simp only[evE,zac]
   refine (wL_W l h).mono fun r S1 h1=>?_
   unfold zaQ at h1
   rw[if_pos h1.1];exact h1.2
 | .all l, δ, S, Q, h => by
   simp only[wE] at h
   simp only[evE,zac]
   refine (wL_W l h).mono fun r S1 h1=>?_
   unfold wOpt at h1
   cases e:allD r.1 with
   |none=>rw[e] at h1;exact h1.elim
   |some d=>rw[e] at h1;exact h1
 | .dsrt a, δ, S, Q, h => by
   simp only[wE] at h
   simp only[evE,zac]
   refine (wE_W a h).mono fun r S1 h1=>?_
   unfold wOpt at h1
   cases e:dicI S1 r with
   |none=>rw[e] at h1;exact h1.elim
   | some d =>
     rw[e] at h1
     unfold zaQ at h1
     simp only[lift,W_ok]
     rw[if_pos h1.1];exact zcM h1.2
 | .dic1 a b, δ, S, Q, h => by
   simp only[wE] at h
   simp only[evE,zac]
   refine (wE_W a h).mono fun x S1 h1=>(wE_W b h1).mono fun v S2 h2=>?_
   unfold wOpt at h2
   cases e:zcH x with
   |none=>rw[e] at h2;exact h2.elim
   |some k=>rw[e] at h2;exact h2
 | .srt a, δ, S, Q, h => by
   simp only[wE] at h
   simp only[evE,zac]
   refine (wE_W a h).mono fun r S1 h1=>?_
   unfold wOpt at h1
   cases e:lstI S1 r with
   |none=>rw[e] at h1;exact h1.elim
   | some d =>
     rw[e] at h1
     unfold zaQ at h1
     simp only[lift,W_ok]
     rw[if_pos h1.1];exact zcM h1.2
 | .min1 a, δ, S, Q, h => by
   simp only[wE] at h
   simp only[evE,zac]
   refine (wE_W a h).mono fun r S1 h1=>?_
   unfold wOpt at h1
   cases e:lstI S1 r with
   |none=>rw[e] at h1;exact h1.elim
   | some d =>
     rw[e] at h1
     dsimp only at h1
     simp only[lift,W_ok]
     cases e2:minZ d with
     |none=>rw[e2] at h1;exact h1.elim
     |some k=>rw[e2] at h1;exact h1
 | .sset a, δ, S, Q, h => by
   simp only[wE] at h
   simp only[evE,zac]
   refine (wE_W a h).mono fun r S1 h1=>?_
   unfold wOpt at h1
   cases e:lstI S1 r with
   |none=>rw[e] at h1;exact h1.elim
   | some d =>
     rw[e] at h1
     unfold zaQ at h1
     simp only[lift,W_ok]
     rw[if_pos h1.1];exact zcM h1.2
theorem zdz:∀(es:CEs) {δ:Ev} {S:St} {Q:List D->St->Prop},wEs cf es δ S Q->W (evEs cf es δ S) Q
 |.nil,δ,S,Q,h=>by simp only[wEs] at h;simp only[evEs];exact h
 | .cons e r, δ, S, Q, h => by
   simp only[wEs] at h
   simp only[evEs,zac]
   exact (wE_W e h).mono fun d S1 h1=>(zdz r h1).mono fun ds S2 h2=>h2
theorem wT_W:∀(e:CE) {δ:Ev} {S:St} {Q:Bool->St->Prop},wT cf e δ S Q->W (evT cf e δ S) Q
 | .cmp op a b, δ, S, Q, h => by
   simp only[wT] at h
   simp only[evT,zac]
   exact (wE_W a h).mono fun x S1 h1=>(wE_W b h1).mono fun y S2 h2=>zjH h2
 | .nt a, δ, S, Q, h => by
   simp only[wT] at h
   simp only[evT,zac]
   exact (wT_W a h).mono fun k S1 h1=>h1
 | .and a b, δ, S, Q, h => by
   simp only[wT] at h
   simp only[evT,zac]
   refine (wT_W a h).mono fun k S1 h1=>?_
   unfold wIf at h1
   cases k with
   |false=>exact h1
   |true=>exact wT_W b h1
 | .or a b, δ, S, Q, h => by
   simp only[wT] at h
   simp only[evT,zac]
   refine (wT_W a h).mono fun k S1 h1=>?_
   unfold wIf at h1
   cases k with
   |true=>exact h1
   |false=>exact wT_W b h1
 | .tst e, δ, S, Q, h => by
   simp only[wT] at h
   simp only[evT,zac]
   exact (wE_W e h).mono fun x S1 h1=>zlS h1
 |.loc i,δ,S,Q,h=>by simp only[wT] at h
 |.con d,δ,S,Q,h=>by simp only[wT] at h
 |.bin op a b,δ,S,Q,h=>by simp only[wT] at h
 |.neg a,δ,S,Q,h=>by simp only[wT] at h
 |.ite c a b,δ,S,Q,h=>by simp only[wT] at h
 |.tup es,δ,S,Q,h=>by simp only[wT] at h
 |.lst es,δ,S,Q,h=>by simp only[wT] at h
 |.dnew,δ,S,Q,h=>by simp only[wT] at h
 |.dnewT,δ,S,Q,h=>by simp only[wT] at h
 |.fld a f,δ,S,Q,h=>by simp only[wT] at h
 |.mk c f x j es,δ,S,Q,h=>by simp only[wT] at h
 |.meth m tb o es,δ,S,Q,h=>by simp only[wT] at h
 |.isc cs x a,δ,S,Q,h=>by simp only[wT] at h
 |.callC f x m es,δ,S,Q,h=>by simp only[wT] at h
 |.clr a,δ,S,Q,h=>by simp only[wT] at h
 |.ix a b,δ,S,Q,h=>by simp only[wT] at h
 |.sl a ml mh lo hi,δ,S,Q,h=>by simp only[wT] at h
 |.call f j es,δ,S,Q,h=>by simp only[wT] at h
 |.callW f j es,δ,S,Q,h=>by simp only[wT] at h
 |.bi b es,δ,S,Q,h=>by simp only[wT] at h
 |.mt m o es,δ,S,Q,h=>by simp only[wT] at h
 |.mkL l,δ,S,Q,h=>by simp only[wT] at h
 |.mkT l,δ,S,Q,h=>by simp only[wT] at h
 |.all l,δ,S,Q,h=>by simp only[wT] at h
 |.sset a,δ,S,Q,h=>by simp only[wT] at h
 |.dsrt a,δ,S,Q,h=>by simp only[wT] at h
 |.dic1 a b,δ,S,Q,h=>by simp only[wT] at h
 |.srt a,δ,S,Q,h=>by simp only[wT] at h
 |.min1 a,δ,S,Q,h=>by simp only[wT] at h
theorem wL_W:∀(l:CL) {δ:Ev} {S:St} {Q:List D × List Nat->St->Prop},wL cf l δ S Q->W (evL cf l δ S) Q
 | .val e, δ, S, Q, h => by
   simp only[wL] at h
   simp only[evL,zac]
   refine (wE_W e h).mono fun x S1 h1=>?_
   obtain⟨ds,e,h2⟩:=zg5 h1
   rw[e];exact h2
 | .rng1 a, δ, S, Q, h => by
   simp only[wL] at h
   simp only[evL,zac]
   refine (wE_W a h).mono fun x S1 h1=>?_
   cases x with
   | int j =>
     unfold zaQ at h1
     simp only
     rw[if_pos h1.1];exact h1.2
   |_=>exact h1.elim
 | .rng2 a b, δ, S, Q, h => by
   simp only[wL] at h
   simp only[evL,zac]
   refine (wE_W a h).mono fun x S1 h1=>(wE_W b h1).mono fun y S2 h2=>?_
   cases x with
   | int i =>
     cases y with
     | int j =>
       unfold zaQ at h2
       simp only
       rw[if_pos h2.1];exact h2.2
     |_=>exact h2.elim
   |_=>exact h2.elim
 | .comp n js g it c e, δ, S, Q, h => by
   simp only[wL] at h
   simp only[evL,zac]
   refine (wL_W it h).mono fun r S1 h1=>(zg6 h1).mono fun ds S3 h3=>?_
   unfold zaQ at h3
   rw[if_pos h3.1];exact h3.2
end
theorem wS_W:∀(s:CS) {δ:Ev} {S:St} {Q:Fl->St->Prop},wS cf s δ S Q->W (exS cf s δ S) Q
 |.nil,δ,S,Q,h=>by simp only[wS] at h;simp only[exS];exact h
 |.stop,δ,S,Q,h=>by simp only[wS] at h
 | .asg i e r, δ, S, Q, h => by
   simp only[wS] at h
   simp only[exS,zac]
   exact (wE_W e h).mono fun x S1 h1=>wS_W r h1
 | .setIx a b e r, δ, S, Q, h => by
   simp only[wS] at h
   simp only[exS,zac]
   refine (wE_W e h).mono fun v S1 h1=>(wE_W a h1).mono fun x S2 h2=>(wE_W b h2).mono fun y S3 h3=>?_
   unfold wOpt at h3
   cases e:dPut S3 x y v with
   |none=>rw[e] at h3;exact h3.elim
   |some S4=>rw[e] at h3;exact wS_W r h3
 | .setF a f e r, δ, S, Q, h => by
   simp only[wS] at h
   simp only[exS,zac]
   refine (wE_W e h).mono fun v S1 h1=>(wE_W a h1).mono fun x S2 h2=>?_
   unfold wOpt at h2
   cases e:zbI S2 x f v with
   |none=>rw[e] at h2;exact h2.elim
   |some S3=>rw[e] at h2;exact wS_W r h2
 | .ifS c t u r, δ, S, Q, h => by
   simp only[wS] at h
   simp only[exS,zac]
   refine (wT_W c h).mono fun k S1 h1=>?_
   unfold wIf at h1
   have nx:∀(f:Fl) (S2:St),(match f with|.nx δ'=>wS cf r δ' S2 Q|.rt d=>Q (.rt d) S2)->W (match f with|.nx δ'=>exS cf r δ' S2|.rt d=>.ok (.rt d) S2) Q:=fun f S2 q=>by
    cases f with
    |nx δ'=>exact wS_W r q
    |rt d=>exact q
   cases k with
   |true=>exact (wS_W t h1).mono nx
   |false=>exact (wS_W u h1).mono nx
 | .forS g l b r, δ, S, Q, h => by
   simp only[wS] at h
   simp only[exS,zac]
   refine (wL_W l h).mono fun q S1 h1=>(zg6 h1).mono fun f S2 q=>?_
   cases f with
   |nx δ'=>exact wS_W r q
   |rt d=>exact q
 | .ret e r, δ, S, Q, h => by
   simp only[wS] at h
   simp only[exS,zac]
   exact (wE_W e h).mono fun x S1 h1=>h1
 | .expr e r, δ, S, Q, h => by
   simp only[wS] at h
   simp only[exS,zac]
   exact (wE_W e h).mono fun x S1 h1=>wS_W r h1
@[irreducible] noncomputable def wFin (S:St)(r:Fl)(T:St)(Q:D->St->Prop):Prop:=W (fin S r T) Q
theorem zlK {P:List Fn}{F:Fn}{f n:Nat}{ds:List D}{S:St}{Q:D->St->Prop}(h:P[f]?=some F)(hl:ds.length=F.np)(w:wS (callF P n) F.body (zbk F ds) S.enter fun r T=>wFin S r T Q)(hp:F.prim=none:=by rfl) :
  W (app (callF P (n+1)) f ds S) Q:=by
 rw[znP h hl hp,zac]
 refine (wS_W _ w).mono fun r T q=>?_
 unfold wFin at q;exact q
theorem zgp {P:List Fn}{F:Fn}{f n:Nat}{ds:List D}{S S':St}{d:D}(h:P[f]?=some F)(hl:ds.length=F.np)(w:wS (callF P n) F.body (zbk F ds) S.enter fun r T=>wFin S r T fun a T'=>a=d/\T'=S')(hp:F.prim=none:=by rfl) :
 app (callF P (n+1)) f ds S=.ok d S':=W.eq (zlK h hl w hp)
theorem zbb {S T:St}{d:D}{Q:D->St->Prop}(h:flat S.len d=true)(q:Q d S):wFin S (.rt d) T Q:=by
 unfold wFin;rw[zj3,zgO S d T h];exact q
theorem zg8 {S T:St}{l:Nat}{ds:List D}{Q:D->St->Prop}(hl:S.len<=l)(hg:T.get l=some (.lst ds))(h:flats S.len ds=true)(q:Q (.ref S.len) (S.push (.lst ds))):wFin S (.rt (.ref l)) T Q:=by
 have h0:flat S.len (.ref l)=false:=by simp[flat];omega
 unfold wFin
 rw[zj3]
 unfold zcS
 simp only[h0,hg,h,if_true,Bool.false_eq_true,if_false]
 exact q
theorem ziF {S:St}{nw:List MO}{lk:List Nat}{i:Nat}{ds:List D}{Q:D->St->Prop}(hg:nw[i]?=some (.lst ds))(h:flats S.len ds=true)(q:Q (.ref S.len) (S.push (.lst ds))) :
  wFin S (.rt (.ref ((S.frz++S.new).length+i))) (St.mk (S.frz++S.new) nw lk) Q:=
 zg8 (by rw[zhQ];omega) ((zib _ nw lk i).trans hg) h q
end
end R
end
section
namespace R
open PySem (Str PyData Operator CmpOp)
structure Frm (S S':St):Prop where
 frz:S'.frz=S.frz
 lk:S'.lk=S.lk
 len:S.new.length<=S'.new.length
 same:∀l∈S.lk,l<S.len->S'.get l=S.get l
theorem Frm.refl (S:St):Frm S S:=⟨rfl,rfl,Nat.le_refl _,fun _ _ _=>rfl⟩
theorem Frm.lens {S S':St}(h:Frm S S'):S.len<=S'.len:=by unfold St.len;rw[h.frz];have:=h.len;omega
theorem Frm.trans {S S1 S2:St}(a:Frm S S1)(b:Frm S1 S2):Frm S S2:=
 ⟨b.frz.trans a.frz,b.lk.trans a.lk,Nat.le_trans a.len b.len,fun l hl h=>(b.same l (by rw[a.lk];exact hl) (Nat.lt_of_lt_of_le h a.lens)).trans (a.same l hl h)⟩
theorem Frm.push (S:St)(o:MO):Frm S (S.push o):=by
 refine⟨rfl,rfl,by simp[St.push],fun l _ h=>?_⟩
 unfold St.len at h
 unfold St.get St.push
 simp only
 split
 · rfl
 · rw[List.getElem?_append_left (by omega)]
theorem Frm.put {S S':St}{l:Nat}{o:MO}(h:S.put l o=some S'):Frm S S':=by
 unfold St.put at h
 split at h
 · cases h
 · split at h
   · cases h
   · rename_i h1 h2
     injection h with h
     subst h
     refine⟨rfl,rfl,by simp,fun m hm hl=>?_⟩
     have hne:m≠l:=fun e=>by subst e;exact h2 (by simpa using hm)
     unfold St.get
     simp only
     split
     · rfl
     · rw[List.getElem?_set_ne (by omega)]
noncomputable abbrev WF {α:Type}(S:St)(o:Out α)(Q:α->St->Prop):Prop:=W o fun a S'=>Q a S'/\Frm S S'
theorem WF.bind {α β:Type}{S:St}{o:Out α}{f:α->St->Out β}{Q:β->St->Prop}(h:WF S o fun a S1=>W (f a S1) Q)(hf:∀a S1,W (f a S1) Q->WF S1 (f a S1) Q):WF S (o.bind f) Q:=by
 rw[WF,zac]
 exact h.mono fun a S1 ⟨q,f1⟩=>(hf a S1 q).mono fun b S2 ⟨q2,f2⟩=>⟨q2,f1.trans f2⟩
theorem zeV {S:St}{ds:List D}{Q:D->St->Prop}(h:W (lay S ds) Q):WF S (lay S ds) Q:=by
 unfold lay at h⊢
 split
 · rename_i c;rw[if_pos c] at h;exact⟨h,Frm.push _ _⟩
 · rename_i c;rw[if_neg c] at h;exact h.elim
theorem wr_F {S:St}{l:Nat}{ds:List D}{d:D}{Q:D->St->Prop}(h:W (wr S l ds d) Q):WF S (wr S l ds d) Q:=by
 unfold wr at h⊢
 split
 · rename_i c
   rw[if_pos c] at h
   cases e:S.put l (.lst ds) with
   |none=>rw[e] at h;exact h.elim
   |some S'=>rw[e] at h;exact⟨h,Frm.put e⟩
 · rename_i c;rw[if_neg c] at h;exact h.elim
theorem zbd {α:Type}{S:St}{o:Option α}{Q:α->St->Prop}(h:W (lift S o) Q):WF S (lift S o) Q:=by
 cases o with
 |none=>exact h.elim
 |some a=>exact⟨h,Frm.refl S⟩
theorem znH {S:St}{op:Operator}{x y:D}{Q:D->St->Prop}(h:W (binD S op x y) Q):WF S (binD S op x y) Q:=by
 unfold binD at h⊢
 split
 · unfold binI at h⊢
   dsimp only at h
   cases op<;>dsimp only at h⊢<;> first
    |exact⟨h,Frm.refl S⟩
    |exact h.elim
    | (split at h
       · rename_i c;rw[if_pos c];exact⟨h,Frm.refl S⟩
       · exact h.elim)
 · dsimp only at h
   cases op<;>dsimp only at h⊢<;> first
    |exact False.elim h
    | (split at h
       · rename_i c;rw[if_pos c];exact⟨h,Frm.refl S⟩
       · exact False.elim h)
 · dsimp only at h
   split at h
   · exact zeV h
   · exact False.elim h
 · rename_i h1 h2 h3
   split at h
   · exact (h1 _ _ rfl rfl).elim
   · exact (h2 _ _ rfl rfl).elim
   · exact (h3 _ _ rfl rfl).elim
   · exact False.elim h
theorem bi_F {S:St}{b:Bi}{ds:List D}{Q:D->St->Prop}(h:W (bi S b ds) Q):WF S (bi S b ds) Q:=by
 unfold bi at h⊢
 split
 · rename_i x
   dsimp only at h
   cases x with
   |tup ds=>exact⟨h,Frm.refl S⟩
   |fix ds=>exact⟨h,Frm.refl S⟩
   | ref l =>
     dsimp only at h⊢
     cases e:S.get l with
     |none=>rw[e] at h;exact False.elim h
     |some o=>rw[e] at h;cases o<;>first|exact⟨h,Frm.refl S⟩|exact False.elim h
   |_=>exact False.elim h
 · exact⟨h,Frm.refl S⟩
 · exact⟨h,Frm.refl S⟩
 · exact⟨h,Frm.refl S⟩
 · dsimp only at h
   split at h
   · exact⟨h,Frm.refl S⟩
   · exact False.elim h
 · exact False.elim (by simpa using h)
theorem mt_F {S:St}{m:Mt}{x:D}{ds:List D}{Q:D->St->Prop}(h:W (mt S m x ds) Q):WF S (mt S m x ds) Q:=by
 unfold mt at h⊢
 split
 · dsimp only at h
   split at h
   · exact wr_F h
   · exact False.elim h
 · dsimp only at h
   split at h
   · split at h
     · rename_i c
       rw[if_pos c]
       split at h
       · exact wr_F h
       · exact False.elim h
     · exact False.elim h
   · exact False.elim h
 · dsimp only at h
   split at h
   · split at h
     · exact⟨h,Frm.refl _⟩
     · exact False.elim h
   · exact False.elim h
 · exact False.elim (by simpa using h)
theorem Frm.keep (S T:St):Frm S ⟨S.frz,S.new++T.new,S.lk⟩:=by
 refine⟨rfl,rfl,by simp,fun l _ h=>?_⟩
 unfold St.len at h
 unfold St.get
 simp only
 split
 · rfl
 · rw[List.getElem?_append_left (by omega)]
theorem ziM {S S':St}{x:D}{f:Str}{v:D}(h:zbI S x f v=some S'):Frm S S':=by
 unfold zbI at h
 split at h
 · split at h
   · split at h
     · exact Frm.put h
     · cases h
   · cases h
 · cases h
theorem znD {S S':St}{x y v:D}(h:dPut S x y v=some S'):Frm S S':=by
 unfold dPut at h
 split at h
 · split at h
   · cases e:zei y with
     |none=>rw[e] at h;cases h
     | some k =>
       rw[e] at h
       dsimp only[Option.bind_some] at h
       split at h
       · exact Frm.put h
       · cases h
   · cases e:zcH y with
     |none=>rw[e] at h;cases h
     | some k =>
       rw[e] at h
       dsimp only[Option.bind_some] at h
       split at h
       · exact Frm.put h
       · cases h
   · cases h
 · cases h
theorem zli {S T:St}{d:D}{Q:D->St->Prop}(h:W (zcS S d T) Q):WF S (zcS S d T) Q:=by
 unfold zcS at h⊢
 split
 · rename_i c;rw[if_pos c] at h;exact⟨h,Frm.refl S⟩
 · rename_i c
   rw[if_neg c] at h
   dsimp only at h⊢
   split at h
   · split at h
     · split at h
       · rename_i c;rw[if_pos c];exact⟨h,Frm.push _ _⟩
       · rename_i c;rw[if_neg c];exact⟨h,Frm.keep _ _⟩
     · split at h
       · rename_i c;rw[if_pos c];exact⟨h,Frm.push _ _⟩
       · rename_i c;rw[if_neg c];exact⟨h,Frm.keep _ _⟩
     · split at h
       · rename_i c;rw[if_pos c];exact⟨h,Frm.push _ _⟩
       · rename_i c;rw[if_neg c];exact⟨h,Frm.keep _ _⟩
     · exact⟨h,Frm.keep _ _⟩
   · exact⟨h,Frm.keep _ _⟩
theorem zoS {cf:CF}{f:Nat}{ds:List D}{S:St}{Q:D->St->Prop}(h:W (app cf f ds S) Q):WF S (app cf f ds S) Q:=by
 unfold app at h⊢
 cases e:cf f ds S.enter with
 |ok d T=>rw[e] at h;exact zli h
 |err d T=>rw[e] at h;exact h.elim
 |bad=>rw[e] at h;exact h.elim
theorem Frm.unlock {S T:St}{ls:List Nat}(h:Frm {S with lk:=ls++S.lk} T):Frm S {T with lk:=S.lk}:=
 ⟨h.frz,rfl,h.len,fun l hl hn=>h.same l (List.mem_append_right _ hl) hn⟩
theorem zf7 {α:Type}{ls:List Nat}{S:St}{f:St->Out α}{Q:α->St->Prop}(h:W (zbm ls S f) Q)(hf:∀Q',W (f {S with lk:=ls++S.lk}) Q'->WF {S with lk:=ls++S.lk} (f {S with lk:=ls++S.lk}) Q'):WF S (zbm ls S f) Q:=by
 unfold zbm at h⊢
 rw[zac] at h
 rw[WF,zac]
 exact (hf _ h).mono fun a T ⟨q,fr⟩=>⟨q,fr.unlock⟩
theorem zd2 {g:List Nat}{c:Ev->St->Out Bool}{e:Ev->St->Out D}(hc:∀δ S Q,W (c δ S) Q->WF S (c δ S) Q)(he:∀δ S Q,W (e δ S) Q->WF S (e δ S) Q) :
  ∀(xs:List D) (δ:Ev) (S:St) (Q:List D->St->Prop),W (zbo g c e xs δ S) Q->WF S (zbo g c e xs δ S) Q
 | [],δ,S,Q,h=>⟨h,Frm.refl S⟩
 | x :: xs, δ, S, Q, h => by
   simp only[zbo] at h⊢
   cases ea:asgG g x δ with
   |none=>rw[ea] at h;exact h.elim
   | some δ' =>
     rw[ea] at h
     dsimp only at h⊢
     rw[zac] at h
     refine WF.bind (hc _ _ _ h) fun b S1 h1=>?_
     cases b with
     | false =>
       simp only[Bool.false_eq_true,if_false] at h1⊢
       exact zd2 hc he xs δ' S1 Q h1
     | true =>
       simp only[if_true] at h1⊢
       rw[zac] at h1
       refine WF.bind (he _ _ _ h1) fun d S2 h2=>?_
       rw[zac] at h2
       exact WF.bind (zd2 hc he xs δ' S2 _ h2) fun ds S3 h3=>⟨h3,Frm.refl _⟩
theorem zfM {g:List Nat}{b:Ev->St->Out Fl}(hb:∀δ S Q,W (b δ S) Q->WF S (b δ S) Q) :
  ∀(xs:List D) (δ:Ev) (S:St) (Q:Fl->St->Prop),W (zbt g b xs δ S) Q->WF S (zbt g b xs δ S) Q
 | [],δ,S,Q,h=>⟨h,Frm.refl S⟩
 | x :: xs, δ, S, Q, h => by
   simp only[zbt] at h⊢
   cases ea:asgG g x δ with
   |none=>rw[ea] at h;exact h.elim
   | some δ' =>
     rw[ea] at h
     dsimp only at h⊢
     rw[zac] at h
     refine WF.bind (hb _ _ _ h) fun f S1 h1=>?_
     cases f with
     |nx δ2=>exact zfM hb xs δ2 S1 Q h1
     |rt d=>exact⟨h1,Frm.refl _⟩
noncomputable def CFok (cf:CF):Prop:=∀f ds S d T,cf f ds S=.ok d T->Frm S T
theorem appW_F {cf:CF}(hcf:CFok cf){f:Nat}{ds:List D}{S:St}{Q:D->St->Prop}(h:W (appW cf f ds S) Q):WF S (appW cf f ds S) Q:=by
 unfold appW at h⊢
 cases e:cf f ds S with
 |ok d T=>rw[e] at h;exact⟨h,hcf f ds S d T e⟩
 |err d T=>rw[e] at h;exact h.elim
 |bad=>rw[e] at h;exact h.elim
section
variable {cf:CF} (hcf:CFok cf)
include hcf
mutual
theorem zaE:∀(e:CE) (δ:Ev) (S:St) (Q:D->St->Prop),W (evE cf e δ S) Q->WF S (evE cf e δ S) Q
 |.loc i,δ,S,Q,h=>by simp only[evE] at h⊢;exact zbd h
 |.con d,δ,S,Q,h=>by simp only[evE] at h⊢;exact⟨h,Frm.refl S⟩
 |.tst _,δ,S,Q,h=>by simp only[evE] at h;exact h.elim
 | .bin op a b, δ, S, Q, h => by
   simp only[evE] at h⊢
   rw[zac] at h
   refine WF.bind (zaE a δ S _ h) fun x S1 h1=>?_
   rw[zac] at h1
   exact WF.bind (zaE b δ S1 _ h1) fun y S2 h2=>znH h2
 | .neg a, δ, S, Q, h => by
   simp only[evE] at h⊢
   rw[zac] at h
   refine WF.bind (zaE a δ S _ h) fun x S1 h1=>?_
   cases x<;>first|exact⟨h1,Frm.refl _⟩|exact h1.elim
 | .nt a, δ, S, Q, h => by
   simp only[evE] at h⊢
   rw[zac] at h
   refine WF.bind (zaE a δ S _ h) fun x S1 h1=>?_
   cases x<;>first|exact⟨h1,Frm.refl _⟩|exact h1.elim
 | .cmp op a b, δ, S, Q, h => by
   simp only[evE] at h⊢
   rw[zac] at h
   refine WF.bind (zaE a δ S _ h) fun x S1 h1=>?_
   rw[zac] at h1
   refine WF.bind (zaE b δ S1 _ h1) fun y S2 h2=>?_
   rw[zac] at h2
   exact WF.bind (zbd h2) fun k S3 h3=>⟨h3,Frm.refl _⟩
 | .and a b, δ, S, Q, h => by
   simp only[evE] at h⊢
   rw[zac] at h
   refine WF.bind (zaE a δ S _ h) fun x S1 h1=>?_
   cases x with
   | bl k =>
     cases k with
     |false=>exact⟨h1,Frm.refl _⟩
     |true=>exact zaE b δ S1 Q h1
   |_=>exact h1.elim
 | .or a b, δ, S, Q, h => by
   simp only[evE] at h⊢
   rw[zac] at h
   refine WF.bind (zaE a δ S _ h) fun x S1 h1=>?_
   cases x with
   | bl k =>
     cases k with
     |true=>exact⟨h1,Frm.refl _⟩
     |false=>exact zaE b δ S1 Q h1
   |_=>exact h1.elim
 | .ite c a b, δ, S, Q, h => by
   simp only[evE] at h⊢
   rw[zac] at h
   refine WF.bind (zen c δ S _ h) fun k S1 h1=>?_
   cases k with
   |true=>exact zaE a δ S1 Q h1
   |false=>exact zaE b δ S1 Q h1
 | .tup es, δ, S, Q, h => by
   simp only[evE] at h⊢
   rw[zac] at h
   refine WF.bind (zca es δ S _ h) fun ds S1 h1=>?_
   split at h1
   · rename_i c;rw[if_pos c];exact⟨h1,Frm.refl _⟩
   · exact h1.elim
 | .lst es, δ, S, Q, h => by
   simp only[evE] at h⊢
   rw[zac] at h
   exact WF.bind (zca es δ S _ h) fun ds S1 h1=>zeV h1
 |.dnew,δ,S,Q,h=>by simp only[evE] at h⊢;exact⟨h,Frm.push _ _⟩
 |.dnewT,δ,S,Q,h=>by simp only[evE] at h⊢;exact⟨h,Frm.push _ _⟩
 | .fld a f, δ, S, Q, h => by
   simp only[evE] at h⊢
   rw[zac] at h
   exact WF.bind (zaE a δ S _ h) fun x S1 h1=>zbd h1
 | .mk c f _ j es, δ, S, Q, h => by
   simp only[evE] at h⊢
   rw[zac] at h
   refine WF.bind (zca es δ S _ h) fun ds S1 h1=>?_
   rw[zac] at h1
   have h2:=(appW_F hcf h1:WF (S1.push (.ins c [])) _ _)
   refine WF.bind (h2.mono fun d T q=>⟨q.1,(Frm.push S1 _).trans q.2⟩) fun d S2 h3=>?_
   split at h3
   · rename_i c;rw[if_pos c];exact⟨h3,Frm.refl _⟩
   · exact h3.elim
 | .meth m tb o es, δ, S, Q, h => by
   simp only[evE] at h⊢
   rw[zac] at h
   refine WF.bind (zaE o δ S _ h) fun x S1 h1=>?_
   rw[zac] at h1
   refine WF.bind (zbd h1) fun p S2 h2=>?_
   rw[zac] at h2
   refine WF.bind (zbd h2) fun f S3 h3=>?_
   split at h3
   · rename_i c
     rw[if_pos c]
     rw[zac] at h3
     exact WF.bind (zca es δ S3 _ h3) fun ds S4 h4=>appW_F hcf h4
   · exact h3.elim
 | .isc cs _ a, δ, S, Q, h => by
   simp only[evE] at h⊢
   rw[zac] at h
   refine WF.bind (zaE a δ S _ h) fun x S1 h1=>?_
   rw[zac] at h1
   exact WF.bind (zbd h1) fun p S2 h2=>⟨h2,Frm.refl _⟩
 | .callC f _ _ es, δ, S, Q, h => by
   simp only[evE] at h⊢
   rw[zac] at h
   exact WF.bind (zca es δ S _ h) fun ds S1 h1=>appW_F hcf h1
 | .clr a, δ, S, Q, h => by
   simp only[evE] at h⊢
   rw[zac] at h
   refine WF.bind (zaE a δ S _ h) fun x S1 h1=>?_
   split at h1
   · rename_i c
     rw[if_pos c]
     cases x with
     |ref l=>exact wr_F h1
     |_=>exact h1.elim
   · exact h1.elim
 | .ix a b, δ, S, Q, h => by
   simp only[evE] at h⊢
   rw[zac] at h
   refine WF.bind (zaE a δ S _ h) fun x S1 h1=>?_
   rw[zac] at h1
   refine WF.bind (zaE b δ S1 _ h1) fun y S2 h2=>?_
   split at h2
   · exact zbd h2
   · exact h2.elim
 | .sl a ml mh lo hi, δ, S, Q, h => by
   simp only[evE] at h⊢
   rw[zac] at h
   refine WF.bind (zaE a δ S _ h) fun x S1 h1=>?_
   rw[zac] at h1
   refine WF.bind (zaE lo δ S1 _ h1) fun y S2 h2=>?_
   rw[zac] at h2
   refine WF.bind (zaE hi δ S2 _ h2) fun z S3 h3=>?_
   split at h3
   · split at h3
     · exact⟨h3,Frm.refl _⟩
     · exact zeV h3
     · split at h3
       · exact zeV h3
       · exact h3.elim
     · exact h3.elim
   · exact h3.elim
 | .call f j es, δ, S, Q, h => by
   simp only[evE] at h⊢
   rw[zac] at h
   exact WF.bind (zca es δ S _ h) fun ds S1 h1=>zoS h1
 | .callW f j es, δ, S, Q, h => by
   simp only[evE] at h⊢
   rw[zac] at h
   exact WF.bind (zca es δ S _ h) fun ds S1 h1=>appW_F hcf h1
 | .bi b es, δ, S, Q, h => by
   simp only[evE] at h⊢
   rw[zac] at h
   exact WF.bind (zca es δ S _ h) fun ds S1 h1=>bi_F h1
 | .mt m o es, δ, S, Q, h => by
   simp only[evE] at h⊢
   rw[zac] at h
   refine WF.bind (zaE o δ S _ h) fun x S1 h1=>?_
   split at h1
   · rename_i c
     rw[if_pos c]
     rw[zac] at h1
     exact WF.bind (zca es δ S1 _ h1) fun ds S2 h2=>mt_F h2
   · exact h1.elim
 | .mkL l, δ, S, Q, h => by
   simp only[evE] at h⊢
   rw[zac] at h
   exact WF.bind (zig l δ S _ h) fun r S1 h1=>zeV h1
 | .mkT l, δ, S, Q, h => by
   simp only[evE] at h⊢
   rw[zac] at h
   refine WF.bind (zig l δ S _ h) fun r S1 h1=>?_
   split at h1
   · rename_i c;rw[if_pos c];exact⟨h1,Frm.refl _⟩
   · exact h1.elim
 | .all l, δ, S, Q, h => by
   simp only[evE] at h⊢
   rw[zac] at h
   refine WF.bind (zig l δ S _ h) fun r S1 h1=>?_
   rw[zac] at h1
   exact WF.bind (zbd h1) fun k S3 h3=>⟨h3,Frm.refl _⟩
 | .dsrt a, δ, S, Q, h => by
   simp only[evE] at h⊢
   rw[zac] at h
   refine WF.bind (zaE a δ S _ h) fun r S1 h1=>?_
   rw[zac] at h1
   refine WF.bind (zbd h1) fun k S3 h3=>?_
   split at h3
   · rename_i c;rw[if_pos c];exact zeV h3
   · exact h3.elim
 | .dic1 a b, δ, S, Q, h => by
   simp only[evE] at h⊢
   rw[zac] at h
   refine WF.bind (zaE a δ S _ h) fun r S1 h1=>?_
   rw[zac] at h1
   refine WF.bind (zaE b δ S1 _ h1) fun v S2 h2=>?_
   rw[zac] at h2
   exact WF.bind (zbd h2) fun k S3 h3=>⟨h3,Frm.push _ _⟩
 | .srt a, δ, S, Q, h => by
   simp only[evE] at h⊢
   rw[zac] at h
   refine WF.bind (zaE a δ S _ h) fun r S1 h1=>?_
   rw[zac] at h1
   refine WF.bind (zbd h1) fun k S3 h3=>?_
   split at h3
   · rename_i c;rw[if_pos c];exact zeV h3
   · exact h3.elim
 | .min1 a, δ, S, Q, h => by
   simp only[evE] at h⊢
   rw[zac] at h
   refine WF.bind (zaE a δ S _ h) fun r S1 h1=>?_
   rw[zac] at h1
   refine WF.bind (zbd h1) fun k S3 h3=>?_
   rw[zac] at h3
   exact WF.bind (zbd h3) fun k S4 h4=>⟨h4,Frm.refl _⟩
 | .sset a, δ, S, Q, h => by
   simp only[evE] at h⊢
   rw[zac] at h
   refine WF.bind (zaE a δ S _ h) fun r S1 h1=>?_
   rw[zac] at h1
   refine WF.bind (zbd h1) fun k S3 h3=>?_
   split at h3
   · rename_i c;rw[if_pos c];exact zeV h3
   · exact h3.elim
theorem zca:∀(es:CEs) (δ:Ev) (S:St) (Q:List D->St->Prop),W (evEs cf es δ S) Q->WF S (evEs cf es δ S) Q
 |.nil,δ,S,Q,h=>by simp only[evEs] at h⊢;exact⟨h,Frm.refl S⟩
 | .cons e r, δ, S, Q, h => by
   simp only[evEs] at h⊢
   rw[zac] at h
   refine WF.bind (zaE e δ S _ h) fun x S1 h1=>?_
   rw[zac] at h1
   exact WF.bind (zca r δ S1 _ h1) fun k S3 h3=>⟨h3,Frm.refl _⟩
theorem zen:∀(e:CE) (δ:Ev) (S:St) (Q:Bool->St->Prop),W (evT cf e δ S) Q->WF S (evT cf e δ S) Q
 | .cmp op a b, δ, S, Q, h => by
   simp only[evT] at h⊢
   rw[zac] at h
   refine WF.bind (zaE a δ S _ h) fun x S1 h1=>?_
   rw[zac] at h1
   exact WF.bind (zaE b δ S1 _ h1) fun y S2 h2=>zbd h2
 | .nt a, δ, S, Q, h => by
   simp only[evT] at h⊢
   rw[zac] at h
   exact WF.bind (zen a δ S _ h) fun k S3 h3=>⟨h3,Frm.refl _⟩
 | .and a b, δ, S, Q, h => by
   simp only[evT] at h⊢
   rw[zac] at h
   refine WF.bind (zen a δ S _ h) fun k S1 h1=>?_
   cases k with
   |false=>exact⟨h1,Frm.refl _⟩
   |true=>exact zen b δ S1 Q h1
 | .or a b, δ, S, Q, h => by
   simp only[evT] at h⊢
   rw[zac] at h
   refine WF.bind (zen a δ S _ h) fun k S1 h1=>?_
   cases k with
   |true=>exact⟨h1,Frm.refl _⟩
   |false=>exact zen b δ S1 Q h1
 | .tst e, δ, S, Q, h => by
   simp only[evT] at h⊢
   rw[zac] at h
   exact WF.bind (zaE e δ S _ h) fun k S3 h3=>zbd h3
 |.loc i,δ,S,Q,h=>by simp only[evT] at h;exact h.elim
 |.con d,δ,S,Q,h=>by simp only[evT] at h;exact h.elim
 |.bin op a b,δ,S,Q,h=>by simp only[evT] at h;exact h.elim
 |.neg a,δ,S,Q,h=>by simp only[evT] at h;exact h.elim
 |.ite c a b,δ,S,Q,h=>by simp only[evT] at h;exact h.elim
 |.tup es,δ,S,Q,h=>by simp only[evT] at h;exact h.elim
 |.lst es,δ,S,Q,h=>by simp only[evT] at h;exact h.elim
 |.dnew,δ,S,Q,h=>by simp only[evT] at h;exact h.elim
 |.dnewT,δ,S,Q,h=>by simp only[evT] at h;exact h.elim
 |.fld a f,δ,S,Q,h=>by simp only[evT] at h;exact h.elim
 |.mk c f x j es,δ,S,Q,h=>by simp only[evT] at h;exact h.elim
 |.meth m tb o es,δ,S,Q,h=>by simp only[evT] at h;exact h.elim
 |.isc cs x a,δ,S,Q,h=>by simp only[evT] at h;exact h.elim
 |.callC f x m es,δ,S,Q,h=>by simp only[evT] at h;exact h.elim
 |.clr a,δ,S,Q,h=>by simp only[evT] at h;exact h.elim
 |.ix a b,δ,S,Q,h=>by simp only[evT] at h;exact h.elim
 |.sl a ml mh lo hi,δ,S,Q,h=>by simp only[evT] at h;exact h.elim
 |.call f j es,δ,S,Q,h=>by simp only[evT] at h;exact h.elim
 |.callW f j es,δ,S,Q,h=>by simp only[evT] at h;exact h.elim
 |.bi b es,δ,S,Q,h=>by simp only[evT] at h;exact h.elim
 |.mt m o es,δ,S,Q,h=>by simp only[evT] at h;exact h.elim
 |.mkL l,δ,S,Q,h=>by simp only[evT] at h;exact h.elim
 |.mkT l,δ,S,Q,h=>by simp only[evT] at h;exact h.elim
 |.all l,δ,S,Q,h=>by simp only[evT] at h;exact h.elim
 |.sset a,δ,S,Q,h=>by simp only[evT] at h;exact h.elim
 |.dsrt a,δ,S,Q,h=>by simp only[evT] at h;exact h.elim
 |.dic1 a b,δ,S,Q,h=>by simp only[evT] at h;exact h.elim
 |.srt a,δ,S,Q,h=>by simp only[evT] at h;exact h.elim
 |.min1 a,δ,S,Q,h=>by simp only[evT] at h;exact h.elim
theorem zig:∀(l:CL) (δ:Ev) (S:St) (Q:List D × List Nat->St->Prop),W (evL cf l δ S) Q->WF S (evL cf l δ S) Q
 | .val e, δ, S, Q, h => by
   simp only[evL] at h⊢
   rw[zac] at h
   refine WF.bind (zaE e δ S _ h) fun x S1 h1=>?_
   rw[zac] at h1
   exact WF.bind (zbd h1) fun k S3 h3=>⟨h3,Frm.refl _⟩
 | .rng1 a, δ, S, Q, h => by
   simp only[evL] at h⊢
   rw[zac] at h
   refine WF.bind (zaE a δ S _ h) fun x S1 h1=>?_
   cases x with
   | int j =>
     dsimp only at h1⊢
     split at h1
     · rename_i c;rw[if_pos c];exact⟨h1,Frm.refl _⟩
     · exact h1.elim
   |_=>exact h1.elim
 | .rng2 a b, δ, S, Q, h => by
   simp only[evL] at h⊢
   rw[zac] at h
   refine WF.bind (zaE a δ S _ h) fun x S1 h1=>?_
   rw[zac] at h1
   refine WF.bind (zaE b δ S1 _ h1) fun y S2 h2=>?_
   split at h2
   · split at h2
     · rename_i c;rw[if_pos c];exact⟨h2,Frm.refl _⟩
     · exact h2.elim
   · exact h2.elim
 | .comp n js g it c e, δ, S, Q, h => by
   simp only[evL] at h⊢
   rw[zac] at h
   refine WF.bind (zig it δ S _ h) fun r S1 h1=>?_
   rw[zac] at h1
   exact WF.bind (zf7 h1 fun Q' h2=>zd2 (fun δ S Q=>zen c δ S Q) (fun δ S Q=>zaE e δ S Q) _ _ _ _ h2) fun k S3 h3=>by
    split at h3
    · rename_i c;rw[if_pos c];exact⟨h3,Frm.refl _⟩
    · exact h3.elim
end
theorem zdq:∀(s:CS) (δ:Ev) (S:St) (Q:Fl->St->Prop),W (exS cf s δ S) Q->WF S (exS cf s δ S) Q
 |.nil,δ,S,Q,h=>by simp only[exS] at h⊢;exact⟨h,Frm.refl S⟩
 |.stop,δ,S,Q,h=>by simp only[exS] at h;exact h.elim
 | .asg i e r, δ, S, Q, h => by
   simp only[exS] at h⊢
   rw[zac] at h
   exact WF.bind (zaE hcf e δ S _ h) fun x S1 h1=>zdq r _ S1 Q h1
 | .setIx a b e r, δ, S, Q, h => by
   simp only[exS] at h⊢
   rw[zac] at h
   refine WF.bind (zaE hcf e δ S _ h) fun v S1 h1=>?_
   rw[zac] at h1
   refine WF.bind (zaE hcf a δ S1 _ h1) fun x S2 h2=>?_
   rw[zac] at h2
   refine WF.bind (zaE hcf b δ S2 _ h2) fun y S3 h3=>?_
   cases ed:dPut S3 x y v with
   |none=>rw[ed] at h3;exact h3.elim
   | some S4 =>
     rw[ed] at h3
     have f1:=znD ed
     have f2:=zdq r δ S4 Q h3
     dsimp only
     unfold WF at f2⊢
     exact f2.mono fun a T ⟨q,f⟩=>⟨q,f1.trans f⟩
 | .setF a f e r, δ, S, Q, h => by
   simp only[exS] at h⊢
   rw[zac] at h
   refine WF.bind (zaE hcf e δ S _ h) fun v S1 h1=>?_
   rw[zac] at h1
   refine WF.bind (zaE hcf a δ S1 _ h1) fun x S2 h2=>?_
   cases ed:zbI S2 x f v with
   |none=>rw[ed] at h2;exact h2.elim
   | some S3 =>
     rw[ed] at h2
     exact (zdq r δ S3 Q h2).mono fun a S' q=>⟨q.1,(ziM ed).trans q.2⟩
 | .ifS c t u r, δ, S, Q, h => by
   simp only[exS] at h⊢
   rw[zac] at h
   refine WF.bind (zen hcf c δ S _ h) fun k S1 h1=>?_
   rw[zac] at h1
   refine WF.bind (Q:=Q) (S:=S1) ?_ fun f S2 h2=>?_
   · cases k with
     |true=>exact zdq t δ S1 _ h1
     |false=>exact zdq u δ S1 _ h1
   · cases f with
     |nx δ'=>exact zdq r _ S2 Q h2
     |rt d=>exact⟨h2,Frm.refl _⟩
 | .forS g l b r, δ, S, Q, h => by
   simp only[exS] at h⊢
   rw[zac] at h
   refine WF.bind (zig hcf l δ S _ h) fun q S1 h1=>?_
   rw[zac] at h1
   refine WF.bind (zf7 h1 fun Q' h2=>zfM (fun δ S Q=>zdq b δ S Q) _ _ _ _ h2) fun f S3 h3=>?_
   cases f with
   |nx δ'=>exact zdq r _ S3 Q h3
   |rt d=>exact⟨h3,Frm.refl _⟩
 | .ret e r, δ, S, Q, h => by
   simp only[exS] at h⊢
   rw[zac] at h
   exact WF.bind (zaE hcf e δ S _ h) fun x S1 h1=>⟨h1,Frm.refl _⟩
 | .expr e r, δ, S, Q, h => by
   simp only[exS] at h⊢
   rw[zac] at h
   exact WF.bind (zaE hcf e δ S _ h) fun x S1 h1=>zdq r _ S1 Q h1
end
end R
end
section
namespace R
open PySem L2
noncomputable def KL (K:PySem.W.Frag)(a:Addr)(xs:List V):Prop:=∃(o:Obj) (its:Array Value) (n:Nat),K.lookup a=some o/\o.cls=.type "list"/\o.dict=none/\o.data=.seq its n/\its.size<=sizeLine/\Vals xs its.toList
noncomputable def FixL (K:PySem.W.Frag)(H:Hp)(a:Addr)(xs:List V):Prop:=(∃o,H a=some (.frz o (.lst xs)))\/KL K a xs
theorem FixL.sq {K:PySem.W.Frag}{H:Hp}{a:Addr}{xs:List V}(h:FixL K H a xs):SqL K H a xs:=h.elim (fun⟨o,e⟩=>.inl (.inr ⟨o,e⟩)) .inr
class Mks where
 ts:List (Addr × Str)
 cl:List Addr
variable [Mks]
noncomputable def TabIn (H:Hp)(P:Addr)(q:Str):Prop:=∃ps:Array Value,H P=some (.tbl ps)/\TriplesOk ps.toList/\
 ∀(pos:Pos) (v:Value),codeAmong pos ps.toList=some v->∃(c:Addr) (oc:Obj) (vs:Array Value) (t:Tok),v=.ref c/\H c=some (.frz oc (.own 0))/\oc.data=.fields vs/\vs[1]?=some (.str q t)
theorem TabIn.up {H H':Hp}{P:Addr}{q:Str}(t:TabIn H P q)(e:H' P=H P)(f:∀b o u,H b=some (.frz o u)->H' b=some (.frz o u)):TabIn H' P q:=by
 obtain⟨ps,h1,h2,h3⟩:=t
 refine⟨ps,by rw[e];exact h1,h2,fun pos v hv=>?_⟩
 obtain⟨c,oc,vs,t,a1,a2,a3⟩:=h3 pos v hv
 exact⟨c,oc,vs,t,a1,f _ _ _ a2,a3⟩
noncomputable def TB (H:Hp):Prop:=∀p∈Mks.ts,TabIn H p.1 p.2
structure Kp (H H':Hp):Prop where
 tups:Tups H H'
 frzs:∀b o u,H b=some (.frz o u)->H' b=some (.frz o u)
 tab:TB H->TB H'
theorem Kp.refl (H:Hp):Kp H H:=⟨Tups.refl H,fun _ _ _ h=>h,fun h=>h⟩
theorem Kp.trans {H H1 H2:Hp}(a:Kp H H1)(b:Kp H1 H2):Kp H H2:=⟨a.tups.trans b.tups,fun c o u h=>b.frzs c o u (a.frzs c o u h),fun h=>b.tab (a.tab h)⟩
theorem Kp.same {H H':Hp}(a:Tups H H')(b:∀b o u,H b=some (.frz o u)->H' b=some (.frz o u))(c:∀P ps,H P=some (.tbl ps)->H' P=some (.tbl ps)):Kp H H':=
 ⟨a,b,fun h p hp=>by
  obtain⟨ps,h1,_⟩:=id (h p hp)
  exact (h p hp).up ((c _ _ h1).trans h1.symm) b⟩
theorem FixL.kp {K:PySem.W.Frag}{H H':Hp}{a:Addr}{xs:List V}(h:FixL K H a xs)(k:Kp H H'):FixL K H' a xs:=h.elim (fun⟨o,e⟩=>.inl ⟨o,k.frzs _ _ _ e⟩) .inr
mutual
noncomputable def RV (K:PySem.W.Frag)(ι:List Addr)(H:Hp):D->V->Prop
 |.non,v=>v=.non
 |.bl b,v=>v=.bl b
 |.int i,v=>v=.int i
 |.str x,v=>v=.str x
 |.tup ds,v=>∃a xs,v=.ref a/\H a=some (.tup xs)/\RVs K ι H ds xs
 |.ref l,v=>∃a,ι[l]?=some a/\v=.ref a
 |.fix ds,v=>∃a xs,v=.ref a/\FixL K H a xs/\RVs K ι H ds xs
noncomputable def RVs (K:PySem.W.Frag)(ι:List Addr)(H:Hp):List D->List V->Prop
 | [],vs=>vs=[]
 |d::ds,vs=>∃v r,vs=v::r/\RV K ι H d v/\RVs K ι H ds r
end
noncomputable def kI (k:List Int):List Key:=k.map Sum.inl
noncomputable def RKs (K:PySem.W.Frag)(ι:List Addr)(H:Hp):List (List Int × D)->List (List Key × V)->Prop
 | [],ws=>ws=[]
 |(k,d)::r,ws=>∃v w,ws=(kI k,v)::w/\RV K ι H d v/\RKs K ι H r w
noncomputable def RIs (K:PySem.W.Frag)(ι:List Addr)(H:Hp):List (Int × D)->List (Key × V)->Prop
 | [],ws=>ws=[]
 |(k,d)::r,ws=>∃v w,ws=((Sum.inl k:Key),v)::w/\RV K ι H d v/\RIs K ι H r w
noncomputable def RFs (K:PySem.W.Frag)(ι:List Addr)(H:Hp):List (Str × D)->List (Str × V)->Prop
 | [],ws=>ws=[]
 |(f,d)::r,ws=>∃v w,ws=(f,v)::w/\RV K ι H d v/\RFs K ι H r w
noncomputable def RO (K:PySem.W.Frag)(ι:List Addr)(H:Hp)(a:Addr):MO->Prop
 |.lst ds=>∃xs,H a=some (.lst xs)/\RVs K ι H ds xs
 |.dic kvs=>(kvs.map (·.1)).Nodup/\∃ws,H a=some (.dK ws)/\RIs K ι H kvs ws
 |.ins c fs=>∃C dx ws,Mks.cl[c]?=some C/\H a=some (.ins C dx ws)/\RFs K ι H fs ws
 |.dtp kvs=>(kvs.map (·.1)).Nodup/\∃ws,H a=some (.dT ws)/\RKs K ι H kvs ws
structure RH (K:PySem.W.Frag) (ι:List Addr) (H:Hp) (S:St):Prop where
 len:ι.length=S.len
 nd:ι.Nodup
 obj:∀l o,S.get l=some o->∃a,ι[l]?=some a/\RO K ι H a o
 tab:TB H
structure Ext (ι:List Addr) (H:Hp) (ι':List Addr) (H':Hp):Prop where
 pre:ι <+: ι'
 kp:Kp H H'
 rest:∀a o,a∉ι->H a=some o->(H' a=some o\/((∃ps,o=.tbl ps)/\∃ps,H' a=some (.tbl ps)))/\a∉ι'
theorem Ext.refl (ι:List Addr)(H:Hp):Ext ι H ι H:=⟨List.prefix_refl _,Kp.refl H,fun a o h e=>⟨.inl e,h⟩⟩
theorem Ext.trans {ι ι1 ι2:List Addr}{H H1 H2:Hp}(a:Ext ι H ι1 H1)(b:Ext ι1 H1 ι2 H2):Ext ι H ι2 H2:=
 ⟨a.pre.trans b.pre,a.kp.trans b.kp,fun x o h e=>by
  obtain⟨e1,h1⟩:=a.rest x o h e
  rcases e1 with e1|⟨t,ps,e1⟩
  · exact b.rest x o h1 e1
  · obtain⟨e2,h2⟩:=b.rest x _ h1 e1
    refine⟨.inr ⟨t,?_⟩,h2⟩
    rcases e2 with e2|⟨_,e2⟩
    · exact⟨ps,e2⟩
    · exact e2⟩
theorem Ext.keep {ι ι1:List Addr}{H H1:Hp}(x:Ext ι H ι1 H1){a:Addr}{o:HO}(h:a∉ι)(e:H a=some o)(n:∀ps,o≠.tbl ps):H1 a=some o:=
 (x.rest a o h e).1.elim id fun⟨⟨ps,z⟩,_⟩=>absurd z (n ps)
theorem zcG {ι ι':List Addr}(h:ι <+: ι'){l:Nat}{a:Addr}(e:ι[l]?=some a):ι'[l]?=some a:=by
 obtain⟨t,rfl⟩:=h
 rw[List.getElem?_append_left (List.getElem?_eq_some_iff.mp e).1]
 exact e
mutual
theorem RV.up {K:PySem.W.Frag}{ι ι':List Addr}{H H':Hp}(hp:ι <+: ι')(hk:Kp H H'):∀{d:D} {v:V},RV K ι H d v->RV K ι' H' d v
 |.non,_,r=>r
 |.bl _,_,r=>r
 |.int _,_,r=>r
 |.str _,_,r=>r
 | .tup ds, _, r => by
   obtain⟨a,xs,e,ha,q⟩:=r
   exact⟨a,xs,e,hk.tups _ _ ha,RVs.up hp hk q⟩
 | .ref l, _, r => by
   obtain⟨a,e,q⟩:=r
   exact⟨a,zcG hp e,q⟩
 | .fix ds, _, r => by
   obtain⟨a,xs,e,ha,q⟩:=r
   exact⟨a,xs,e,ha.kp hk,RVs.up hp hk q⟩
theorem RVs.up {K:PySem.W.Frag}{ι ι':List Addr}{H H':Hp}(hp:ι <+: ι')(hk:Kp H H'):∀{ds:List D} {vs:List V},RVs K ι H ds vs->RVs K ι' H' ds vs
 | [],_,r=>r
 | d :: ds, vs, r => by
   obtain⟨v,w,e,r1,r2⟩:=r
   exact⟨v,w,e,RV.up hp hk r1,RVs.up hp hk r2⟩
end
theorem RKs.up {K:PySem.W.Frag}{ι ι':List Addr}{H H':Hp}(hp:ι <+: ι')(hk:Kp H H'):∀{kvs:List (List Int × D)} {ws:List (List Key × V)},RKs K ι H kvs ws->RKs K ι' H' kvs ws
 | [],_,r=>r
 | (k, d) :: kvs, ws, r => by
   obtain⟨v,w,e,r1,r2⟩:=r
   exact⟨v,w,e,RV.up hp hk r1,RKs.up hp hk r2⟩
theorem RIs.up {K:PySem.W.Frag}{ι ι':List Addr}{H H':Hp}(hp:ι <+: ι')(hk:Kp H H'):∀{kvs:List (Int × D)} {ws:List (Key × V)},RIs K ι H kvs ws->RIs K ι' H' kvs ws
 | [],_,r=>r
 | (k, d) :: kvs, ws, r => by
   obtain⟨v,w,e,r1,r2⟩:=r
   exact⟨v,w,e,RV.up hp hk r1,RIs.up hp hk r2⟩
theorem RFs.up {K:PySem.W.Frag}{ι ι':List Addr}{H H':Hp}(hp:ι <+: ι')(hk:Kp H H'):∀{fs:List (Str × D)} {ws:List (Str × V)},RFs K ι H fs ws->RFs K ι' H' fs ws
 | [],_,h=>h
 | (f, d) :: r, _, h => by
   obtain⟨v,w,e,r1,r2⟩:=h
   exact⟨v,w,e,RV.up hp hk r1,RFs.up hp hk r2⟩
theorem RFs.length {K:PySem.W.Frag}{ι:List Addr}{H:Hp}:∀{fs:List (Str × D)} {ws:List (Str × V)},RFs K ι H fs ws->ws.length=fs.length
 | [],_,h=>by cases (show _=[] from h);rfl
 | (f, d) :: r, _, h => by
   obtain⟨v,w,rfl,r1,r2⟩:=h
   simp[RFs.length r2]
theorem RFs.look {K:PySem.W.Frag}{ι:List Addr}{H:Hp}(f:Str):∀{fs:List (Str × D)} {ws:List (Str × V)},RFs K ι H fs ws->(fs.lookup f=none/\ws.lookup f=none)\/∃d v,fs.lookup f=some d/\ws.lookup f=some v/\RV K ι H d v
 | [],_,h=>by cases (show _=[] from h);exact .inl ⟨rfl,rfl⟩
 | (g, d) :: r, _, h => by
   obtain⟨v,w,rfl,r1,r2⟩:=h
   by_cases c:(f == g)=true
   · exact .inr ⟨d,v,by simp only[List.lookup,c],by simp only[List.lookup,c],r1⟩
   · have c:(f == g)=false:=by simpa using c
     simp only[List.lookup,c]
     exact RFs.look f r2
theorem RFs.put {K:PySem.W.Frag}{ι:List Addr}{H:Hp}(f:Str){d:D}{v:V}(q:RV K ι H d v):∀{fs:List (Str × D)} {ws:List (Str × V)},RFs K ι H fs ws->RFs K ι H (zhx f d fs) (putF f v ws)
 | [],_,h=>by cases (show _=[] from h);exact⟨v,[],rfl,q,rfl⟩
 | (g, x) :: r, _, h => by
   obtain⟨u,w,rfl,r1,r2⟩:=h
   unfold zhx putF
   by_cases c:g=f
   · rw[if_pos c,if_pos c];exact⟨v,w,rfl,q,r2⟩
   · rw[if_neg c,if_neg c];exact⟨u,_,rfl,r1,RFs.put f q r2⟩
theorem zhW {j k:List Int}(h:kI j=kI k):j=k:=by
 unfold kI at h
 exact (List.map_inj_right (fun a b e=>Sum.inl.inj e)).mp h
theorem RKs.length {K:PySem.W.Frag}{ι:List Addr}{H:Hp}:∀{kvs:List (List Int × D)} {ws:List (List Key × V)},RKs K ι H kvs ws->ws.length=kvs.length
 | [],_,r=>by rw[show _=[] from r];rfl
 | (k, d) :: kvs, ws, r => by
   obtain⟨v,w,rfl,_,r2⟩:=r
   simp[RKs.length r2]
theorem RIs.length {K:PySem.W.Frag}{ι:List Addr}{H:Hp}:∀{kvs:List (Int × D)} {ws:List (Key × V)},RIs K ι H kvs ws->ws.length=kvs.length
 | [],_,r=>by rw[show _=[] from r];rfl
 | (k, d) :: kvs, ws, r => by
   obtain⟨v,w,rfl,_,r2⟩:=r
   simp[RIs.length r2]
theorem RKs.val {K:PySem.W.Frag}{ι:List Addr}{H:Hp}(k:List Int):∀{kvs:List (List Int × D)} {ws:List (List Key × V)},RKs K ι H kvs ws->(valP kvs k=none/\valV ws (kI k)=none)\/∃d v,valP kvs k=some d/\valV ws (kI k)=some v/\RV K ι H d v
 | [],_,r=>by rw[show _=[] from r];exact .inl ⟨rfl,rfl⟩
 | (j, d) :: kvs, ws, r => by
   obtain⟨v,w,rfl,r1,r2⟩:=r
   by_cases e:j=k
   · subst e
     exact .inr ⟨d,v,by simp[valP],by simp[valV],r1⟩
   · have e':¬kI j=kI k:=fun z=>e (zhW z)
     have h1:valP ((j,d)::kvs) k=valP kvs k:=by simp[valP,e]
     have h2:valV ((kI j,v)::w) (kI k)=valV w (kI k):=by simp[valV,e']
     rw[h1,h2]
     exact RKs.val k r2
theorem zeO {κ:Type}[DecidableEq κ]{x:κ × V}{r:List (κ × V)}{k:κ}{v:V}(h:x.1≠k):putK (x::r) k v=x::putK r k v:=by
 unfold putK
 have:decide (x.1=k)=false:=decide_eq_false h
 simp only[List.any_cons,this,Bool.false_or]
 split
 · rw[List.map_cons,if_neg h]
 · rfl
theorem RKs.keys {K:PySem.W.Frag}{ι:List Addr}{H:Hp}:∀{kvs:List (List Int × D)} {ws:List (List Key × V)},RKs K ι H kvs ws->ws.map (·.1)=kvs.map (fun p=>kI p.1)
 | [],_,r=>by rw[show _=[] from r];rfl
 | (k, d) :: kvs, ws, r => by
   obtain⟨v,w,rfl,_,r2⟩:=r
   simp[RKs.keys r2]
theorem RIs.keys {K:PySem.W.Frag}{ι:List Addr}{H:Hp}:∀{kvs:List (Int × D)} {ws:List (Key × V)},RIs K ι H kvs ws->ws.map (·.1)=kvs.map (fun p=>(Sum.inl p.1:Key))
 | [],_,r=>by rw[show _=[] from r];rfl
 | (k, d) :: kvs, ws, r => by
   obtain⟨v,w,rfl,_,r2⟩:=r
   simp[RIs.keys r2]
theorem RKs.put {K:PySem.W.Frag}{ι:List Addr}{H:Hp}(k:List Int){d:D}{v:V}(q:RV K ι H d v):∀{kvs:List (List Int × D)} {ws:List (List Key × V)},(kvs.map (·.1)).Nodup->RKs K ι H kvs ws->RKs K ι H (putP kvs k d) (putK ws (kI k) v)
 | [],_,_,r=>by rw[show _=[] from r];exact⟨v,[],rfl,q,rfl⟩
 | (j, e) :: kvs, ws, nd, r => by
   obtain⟨u,w,rfl,r1,r2⟩:=r
   simp only[List.map_cons,List.nodup_cons] at nd
   by_cases z:j=k
   · subst z
     have h1:putP ((j,e)::kvs) j d=(j,d)::kvs:=by simp[putP]
     have h2:putK ((kI j,u)::w) (kI j) v=(kI j,v)::w:=by
      unfold putK
      have:(((kI j,u)::w).any fun kv=>decide (kv.1=kI j))=true:=by simp
      rw[if_pos this,List.map_cons,if_pos rfl,List.map_congr_left (g:=id),List.map_id]
      intro kv hkv
      have hm:kv.1∈w.map (·.1):=List.mem_map.mpr ⟨kv,hkv,rfl⟩
      rw[r2.keys] at hm
      obtain⟨p,hp,ep⟩:=List.mem_map.mp hm
      have:kv.1≠kI j:=fun y=>nd.1 (by
       rw[<-ep] at y
       rw[<-zhW y]
       exact List.mem_map.mpr ⟨p,hp,rfl⟩)
      simp[this]
     rw[h1,h2]
     exact⟨v,w,rfl,q,r2⟩
   · have h1:putP ((j,e)::kvs) k d=(j,e)::putP kvs k d:=by simp[putP,z]
     have h2:putK ((kI j,u)::w) (kI k) v=(kI j,u)::putK w (kI k) v:=zeO fun y=>z (zhW y)
     rw[h1,h2]
     exact⟨u,_,rfl,r1,RKs.put k q nd.2 r2⟩
theorem RIs.put {K:PySem.W.Frag}{ι:List Addr}{H:Hp}(k:Int){d:D}{v:V}(q:RV K ι H d v):∀{kvs:List (Int × D)} {ws:List (Key × V)},(kvs.map (·.1)).Nodup->RIs K ι H kvs ws->RIs K ι H (putI kvs k d) (putK ws (Sum.inl k:Key) v)
 | [],_,_,r=>by rw[show _=[] from r];exact⟨v,[],rfl,q,rfl⟩
 | (j, e) :: kvs, ws, nd, r => by
   obtain⟨u,w,rfl,r1,r2⟩:=r
   simp only[List.map_cons,List.nodup_cons] at nd
   by_cases z:j=k
   · subst z
     have h1:putI ((j,e)::kvs) j d=(j,d)::kvs:=by simp[putI]
     have h2:putK (((Sum.inl j:Key),u)::w) (Sum.inl j:Key) v=((Sum.inl j:Key),v)::w:=by
      unfold putK
      have:((((Sum.inl j:Key),u)::w).any fun kv=>decide (kv.1=(Sum.inl j:Key)))=true:=by simp
      rw[if_pos this,List.map_cons,if_pos rfl,List.map_congr_left (g:=id),List.map_id]
      intro kv hkv
      have hm:kv.1∈w.map (·.1):=List.mem_map.mpr ⟨kv,hkv,rfl⟩
      rw[r2.keys] at hm
      obtain⟨p,hp,ep⟩:=List.mem_map.mp hm
      have:kv.1≠(Sum.inl j:Key):=fun y=>nd.1 (by
       rw[<-ep] at y
       rw[<-Sum.inl.inj y]
       exact List.mem_map.mpr ⟨p,hp,rfl⟩)
      simp[this]
     rw[h1,h2]
     exact⟨v,w,rfl,q,r2⟩
   · have h1:putI ((j,e)::kvs) k d=(j,e)::putI kvs k d:=by simp[putI,z]
     have h2:putK (((Sum.inl j:Key),u)::w) (Sum.inl k:Key) v=((Sum.inl j:Key),u)::putK w (Sum.inl k:Key) v:=zeO fun y=>z (Sum.inl.inj y)
     rw[h1,h2]
     exact⟨u,_,rfl,r1,RIs.put k q nd.2 r2⟩
theorem zeN (k:List Int)(d:D):∀kvs:List (List Int × D),(putP kvs k d).map (·.1)=if k∈kvs.map (·.1) then kvs.map (·.1) else kvs.map (·.1)++[k]
 | []=>by simp[putP]
 | (j, e) :: r => by
   unfold putP
   by_cases z:j=k
   · subst z;simp
   · have ih:=zeN k d r
     rw[if_neg z]
     simp only[List.map_cons,List.mem_cons,ih]
     by_cases h:k∈r.map (·.1)
     · rw[if_pos h,if_pos (.inr h)]
     · rw[if_neg h,if_neg (by rintro (y|y);exact z y.symm;exact h y)];rfl
theorem zgF {k:List Int}{d:D}{kvs:List (List Int × D)}(h:(kvs.map (·.1)).Nodup):((putP kvs k d).map (·.1)).Nodup:=by
 rw[zeN]
 split
 · exact h
 · rename_i n
   rw[List.nodup_append]
   refine⟨h,by simp,fun a ha b hb=>?_⟩
   rw[List.mem_singleton] at hb
   subst hb
   exact fun z=>n (z▸ha)
theorem zeP (k:Int)(d:D):∀kvs:List (Int × D),(putI kvs k d).map (·.1)=if k∈kvs.map (·.1) then kvs.map (·.1) else kvs.map (·.1)++[k]
 | []=>by simp[putI]
 | (j, e) :: r => by
   unfold putI
   by_cases z:j=k
   · subst z;simp
   · have ih:=zeP k d r
     rw[if_neg z]
     simp only[List.map_cons,List.mem_cons,ih]
     by_cases h:k∈r.map (·.1)
     · rw[if_pos h,if_pos (.inr h)]
     · rw[if_neg h,if_neg (by rintro (y|y);exact z y.symm;exact h y)];rfl
theorem zgG {k:Int}{d:D}{kvs:List (Int × D)}(h:(kvs.map (·.1)).Nodup):((putI kvs k d).map (·.1)).Nodup:=by
 rw[zeP]
 split
 · exact h
 · rename_i n
   rw[List.nodup_append]
   refine⟨h,by simp,fun a ha b hb=>?_⟩
   rw[List.mem_singleton] at hb
   subst hb
   exact fun z=>n (z▸ha)
theorem RV.ext {K:PySem.W.Frag}{ι ι':List Addr}{H H':Hp}(h:Ext ι H ι' H'){d:D}{v:V}(r:RV K ι H d v):RV K ι' H' d v:=r.up h.pre h.kp
theorem RVs.ext {K:PySem.W.Frag}{ι ι':List Addr}{H H':Hp}(h:Ext ι H ι' H'){ds:List D}{vs:List V}(r:RVs K ι H ds vs):RVs K ι' H' ds vs:=r.up h.pre h.kp
theorem RVs.length {K:PySem.W.Frag}{ι:List Addr}{H:Hp}:∀{ds:List D} {vs:List V},RVs K ι H ds vs->vs.length=ds.length
 | [],_,r=>by rw[show _=[] from r];rfl
 | d :: ds, vs, r => by
   obtain⟨v,w,rfl,_,r2⟩:=r
   simp[RVs.length r2]
theorem RVs.get {K:PySem.W.Frag}{ι:List Addr}{H:Hp}:∀{ds:List D} {vs:List V} {i:Nat} {d:D},RVs K ι H ds vs->ds[i]?=some d->∃v,vs[i]?=some v/\RV K ι H d v
 | [],_,_,_,_,e=>by simp at e
 | d :: ds, vs, 0, d', r, e => by
   obtain⟨v,w,rfl,r1,_⟩:=r
   simp at e;subst e
   exact⟨v,rfl,r1⟩
 | d :: ds, vs, i + 1, d', r, e => by
   obtain⟨v,w,rfl,_,r2⟩:=r
   obtain⟨u,e1,e2⟩:=RVs.get (i:=i) (d:=d') r2 (by simpa using e)
   exact⟨u,by simpa using e1,e2⟩
theorem RVs.get' {ι:List Addr}{H:Hp}{ds:List D}{vs:List V}{i:Nat}{v:V}(r:RVs K ι H ds vs)(e:vs[i]?=some v):∃d,ds[i]?=some d/\RV K ι H d v:=by
 have hi:i<ds.length:=by rw[<-r.length];exact (List.getElem?_eq_some_iff.mp e).1
 obtain⟨u,e1,e2⟩:=r.get (List.getElem?_eq_getElem hi)
 rw[e] at e1;cases e1
 exact⟨_,List.getElem?_eq_getElem hi,e2⟩
theorem RVs.append {K:PySem.W.Frag}{ι:List Addr}{H:Hp}:∀{ds es:List D} {vs us:List V},RVs K ι H ds vs->RVs K ι H es us->RVs K ι H (ds++es) (vs++us)
 | [],_,_,_,r,q=>by rw[show _=[] from r];exact q
 | d :: ds, es, vs, us, r, q => by
   obtain⟨v,w,rfl,r1,r2⟩:=r
   exact⟨v,w++us,rfl,r1,RVs.append r2 q⟩
theorem RVs.take {K:PySem.W.Frag}{ι:List Addr}{H:Hp}:∀{ds:List D} {vs:List V} (n:Nat),RVs K ι H ds vs->RVs K ι H (ds.take n) (vs.take n)
 |_,_,0,_=>rfl
 | [],_,n+1,r=>by rw[show _=[] from r];rfl
 | d :: ds, vs, n + 1, r => by
   obtain⟨v,w,rfl,r1,r2⟩:=r
   exact⟨v,w.take n,rfl,r1,RVs.take n r2⟩
theorem RVs.drop {K:PySem.W.Frag}{ι:List Addr}{H:Hp}:∀{ds:List D} {vs:List V} (n:Nat),RVs K ι H ds vs->RVs K ι H (ds.drop n) (vs.drop n)
 |_,_,0,r=>r
 | [],_,n+1,r=>by rw[show _=[] from r];rfl
 | d :: ds, vs, n + 1, r => by
   obtain⟨v,w,rfl,r1,r2⟩:=r
   exact RVs.drop n r2
theorem RVs.erase {K:PySem.W.Frag}{ι:List Addr}{H:Hp}{ds:List D}{vs:List V}(n:Nat)(r:RVs K ι H ds vs):RVs K ι H (ds.eraseIdx n) (vs.eraseIdx n):=by
 rw[List.eraseIdx_eq_take_drop_succ,List.eraseIdx_eq_take_drop_succ]
 exact (r.take n).append (r.drop (n+1))
theorem RVs.ints {K:PySem.W.Frag}{ι:List Addr}{H:Hp}:∀ns:List Int,RVs K ι H (ns.map D.int) (ns.map V.int)
 | []=>rfl
 |n::ns=>⟨_,_,rfl,rfl,RVs.ints ns⟩
theorem RVs.ints_eq {K:PySem.W.Frag}{ι:List Addr}{H:Hp}:∀{ns:List Int} {vs:List V},RVs K ι H (ns.map D.int) vs->vs=ns.map V.int
 | [],_,h=>h
 | n :: ns, vs, h => by
   obtain⟨v,r,rfl,h1,h2⟩:=h
   rw[RVs.ints_eq h2,show v=.int n from h1];rfl
theorem zbD:∀{ds:List D} {ns:List Int},zby ds=some ns->ds=ns.map D.int:=by
 intro ds
 unfold zby
 induction ds with
 |nil=>intro ns h;simp at h;subst h;rfl
 | cons d ds ih =>
   intro ns h
   rw[List.mapM_cons] at h
   cases d with
   | int i =>
     cases e:List.mapM zcH ds with
     |none=>rw[e] at h;simp[zcH] at h
     |some ms=>rw[e] at h;simp[zcH] at h;subst h;simp[ih e]
   |_=>simp[zcH] at h
mutual
theorem RV.flat {K:PySem.W.Frag}{ι:List Addr}{H:Hp}:∀{d:D} {v:V},RV K ι H d v->R.flat ι.length d=true
 |.non,_,_=>by simp[R.flat]
 |.bl _,_,_=>by simp[R.flat]
 |.int _,_,_=>by simp[R.flat]
 |.str _,_,_=>by simp[R.flat]
 | .tup ds, _, r => by
   obtain⟨a,xs,e,ha,q⟩:=r
   simp only[R.flat]
   exact RVs.flats q
 | .ref l, _, r => by
   obtain⟨a,e,q⟩:=r
   simp only[R.flat,decide_eq_true_eq]
   exact (List.getElem?_eq_some_iff.mp e).1
 | .fix ds, _, r => by
   obtain⟨a,xs,e,ha,q⟩:=r
   simp only[R.flat]
   exact RVs.flats q
theorem RVs.flats {K:PySem.W.Frag}{ι:List Addr}{H:Hp}:∀{ds:List D} {vs:List V},RVs K ι H ds vs->R.flats ι.length ds=true
 | [],_,_=>by simp[R.flats]
 | d :: ds, vs, r => by
   obtain⟨v,w,e,r1,r2⟩:=r
   simp only[R.flats,Bool.and_eq_true]
   exact⟨RV.flat r1,RVs.flats r2⟩
end
mutual
theorem RV.restrict {K:PySem.W.Frag}{ι ι':List Addr}{H:Hp}(hp:ι <+: ι'):∀{d:D} {v:V},R.flat ι.length d=true->RV K ι' H d v->RV K ι H d v
 |.non,_,_,r=>r
 |.bl _,_,_,r=>r
 |.int _,_,_,r=>r
 |.str _,_,_,r=>r
 | .tup ds, _, f, r => by
   obtain⟨a,xs,e,ha,q⟩:=r
   simp only[R.flat] at f
   exact⟨a,xs,e,ha,RVs.restrict hp f q⟩
 | .ref l, _, f, r => by
   obtain⟨a,e,q⟩:=r
   simp only[R.flat,decide_eq_true_eq] at f
   refine⟨a,?_,q⟩
   obtain⟨t,rfl⟩:=hp
   rw[List.getElem?_append_left f] at e
   exact e
 | .fix ds, _, f, r => by
   obtain⟨a,xs,e,ha,q⟩:=r
   simp only[R.flat] at f
   exact⟨a,xs,e,ha,RVs.restrict hp f q⟩
theorem RVs.restrict {K:PySem.W.Frag}{ι ι':List Addr}{H:Hp}(hp:ι <+: ι'):∀{ds:List D} {vs:List V},R.flats ι.length ds=true->RVs K ι' H ds vs->RVs K ι H ds vs
 | [],_,_,r=>r
 | d :: ds, vs, f, r => by
   obtain⟨v,w,e,r1,r2⟩:=r
   simp only[R.flats,Bool.and_eq_true] at f
   exact⟨v,w,e,RV.restrict hp f.1 r1,RVs.restrict hp f.2 r2⟩
end
theorem RKs.flats {K:PySem.W.Frag}{ι:List Addr}{H:Hp}:∀{kvs:List (List Int × D)} {ws:List (List Key × V)},RKs K ι H kvs ws->R.flats ι.length (kvs.map (·.2))=true
 | [],_,_=>by simp[R.flats]
 | (k, d) :: kvs, ws, r => by
   obtain⟨v,w,e,r1,r2⟩:=r
   simp only[List.map_cons,R.flats,Bool.and_eq_true]
   exact⟨RV.flat r1,RKs.flats r2⟩
theorem RKs.restrict {K:PySem.W.Frag}{ι ι':List Addr}{H:Hp}(hp:ι <+: ι'):∀{kvs:List (List Int × D)} {ws:List (List Key × V)},R.flats ι.length (kvs.map (·.2))=true->RKs K ι' H kvs ws->RKs K ι H kvs ws
 | [],_,_,r=>r
 | (k, d) :: kvs, ws, f, r => by
   obtain⟨v,w,e,r1,r2⟩:=r
   simp only[List.map_cons,R.flats,Bool.and_eq_true] at f
   exact⟨v,w,e,RV.restrict hp f.1 r1,RKs.restrict hp f.2 r2⟩
theorem RIs.flats {K:PySem.W.Frag}{ι:List Addr}{H:Hp}:∀{kvs:List (Int × D)} {ws:List (Key × V)},RIs K ι H kvs ws->R.flats ι.length (kvs.map (·.2))=true
 | [],_,_=>by simp[R.flats]
 | (k, d) :: kvs, ws, r => by
   obtain⟨v,w,e,r1,r2⟩:=r
   simp only[List.map_cons,R.flats,Bool.and_eq_true]
   exact⟨RV.flat r1,RIs.flats r2⟩
theorem RIs.restrict {K:PySem.W.Frag}{ι ι':List Addr}{H:Hp}(hp:ι <+: ι'):∀{kvs:List (Int × D)} {ws:List (Key × V)},R.flats ι.length (kvs.map (·.2))=true->RIs K ι' H kvs ws->RIs K ι H kvs ws
 | [],_,_,r=>r
 | (k, d) :: kvs, ws, f, r => by
   obtain⟨v,w,e,r1,r2⟩:=r
   simp only[List.map_cons,R.flats,Bool.and_eq_true] at f
   exact⟨v,w,e,RV.restrict hp f.1 r1,RIs.restrict hp f.2 r2⟩
theorem RFs.flats {K:PySem.W.Frag}{ι:List Addr}{H:Hp}:∀{fs:List (Str × D)} {ws:List (Str × V)},RFs K ι H fs ws->R.flats ι.length (fs.map (·.2))=true
 | [],_,_=>by simp
 | (f, d) :: r, _, h => by
   obtain⟨v,w,_,r1,r2⟩:=h
   simp only[List.map_cons,zdT,Bool.and_eq_true]
   exact⟨RV.flat r1,RFs.flats r2⟩
theorem RFs.restrict {K:PySem.W.Frag}{ι ι':List Addr}{H:Hp}(hp:ι <+: ι'):∀{fs:List (Str × D)} {ws:List (Str × V)},R.flats ι.length (fs.map (·.2))=true->RFs K ι' H fs ws->RFs K ι H fs ws
 | [],_,_,h=>h
 | (f, d) :: r, _, f0, h => by
   obtain⟨v,w,e,r1,r2⟩:=h
   simp only[List.map_cons,zdT,Bool.and_eq_true] at f0
   exact⟨v,w,e,RV.restrict hp f0.1 r1,RFs.restrict hp f0.2 r2⟩
theorem RO.up {K:PySem.W.Frag}{ι ι':List Addr}{H H':Hp}{a:Addr}{o:MO}(h:RO K ι H a o)(hp:ι <+: ι')(hk:Kp H H')(e:H' a=H a):RO K ι' H' a o:=by
 cases o with
 |lst ds=>obtain⟨xs,h1,h2⟩:=h;exact⟨xs,e.trans h1,h2.up hp hk⟩
 |dic kvs=>obtain⟨h0,ws,h1,h2⟩:=h;exact⟨h0,ws,e.trans h1,h2.up hp hk⟩
 |ins c fs=>obtain⟨C,dx,ws,h0,h1,h2⟩:=h;exact⟨C,dx,ws,h0,e.trans h1,h2.up hp hk⟩
 |dtp kvs=>obtain⟨h0,ws,h1,h2⟩:=h;exact⟨h0,ws,e.trans h1,h2.up hp hk⟩
theorem RO.stay {K:PySem.W.Frag}{ι ι':List Addr}{H H':Hp}{a:Addr}{o:MO}(h:RO K ι H a o)(x:Ext ι H ι' H')(e:H' a=H a):RO K ι' H' a o:=h.up x.pre x.kp e
section
variable {K:PySem.W.Frag} {ι ι':List Addr} {H H':Hp} {S S' T:St} {l:Nat} {a p:Addr}
theorem RH.mem (h:RH K ι H S){o:MO}(e:S.get l=some o):∃a,ι[l]?=some a/\RO K ι H a o/\a∈ι:=by
 obtain⟨a,h1,h2⟩:=h.obj l o e
 exact⟨a,h1,h2,List.mem_of_getElem? h1⟩
theorem zjs (h:l<S.len):∃o,S.get l=some o:=by
 unfold St.len at h
 unfold St.get
 split
 · rename_i c;exact⟨_,List.getElem?_eq_getElem c⟩
 · exact⟨_,List.getElem?_eq_getElem (by omega)⟩
theorem RH.off (h:RH K ι H S)(x:Ext ι H ι H')(e:∀a∈ι,H' a=H a):RH K ι H' S:=
 ⟨h.len,h.nd,fun l o q=>let ⟨a,h1,h2,hm⟩:=h.mem q;⟨a,h1,h2.stay x (e a hm)⟩,x.kp.tab h.tab⟩
theorem RH.live (h:RH K ι H S)(ha:a∈ι):∃o,H a=some o/\(∀xs,o≠.tup xs)/\(∀z u,o≠.frz z u)/\∀ps,o≠.tbl ps:=by
 obtain⟨l,hl⟩:=List.mem_iff_getElem?.mp ha
 have hlt:l<S.len:=by rw[<-h.len];exact (List.getElem?_eq_some_iff.mp hl).1
 obtain⟨o,e⟩:=zjs hlt
 obtain⟨b,h1,h2⟩:=h.obj l o e
 rw[hl] at h1;cases h1
 cases o with
 |lst ds=>obtain⟨xs,q,_⟩:=h2;exact⟨_,q,⟨fun _ z=>(by cases z),fun _ _ z=>(by cases z),fun _ z=>(by cases z)⟩⟩
 |dic kvs=>obtain⟨_,ws,q,_⟩:=h2;exact⟨_,q,⟨fun _ z=>(by cases z),fun _ _ z=>(by cases z),fun _ z=>(by cases z)⟩⟩
 |ins c fs=>obtain⟨C,dx,ws,_,q,_⟩:=h2;exact⟨_,q,⟨fun _ z=>(by cases z),fun _ _ z=>(by cases z),fun _ z=>(by cases z)⟩⟩
 |dtp kvs=>obtain⟨_,ws,q,_⟩:=h2;exact⟨_,q,⟨fun _ z=>(by cases z),fun _ _ z=>(by cases z),fun _ z=>(by cases z)⟩⟩
theorem RH.fresh (h:RH K ι H S)(hp:H p=Option.none):p∉ι:=fun hm=>by
 obtain⟨o,e,_⟩:=h.live hm
 rw[hp] at e;cases e
theorem RH.notup (h:RH K ι H S){xs:List V}(hp:H p=some (.tup xs)):p∉ι:=fun hm=>by
 obtain⟨o,e,q,_⟩:=h.live hm
 rw[hp] at e;cases e;exact q _ rfl
theorem Kp.new (hp:H p=Option.none)(o:HO):Kp H (upd H p o):=
 .same (Tups.upd_new hp) (fun b z u e=>by rw[zap (zaN e hp)];exact e) fun b ps e=>by rw[zap (zaN e hp)];exact e
theorem Ext.new (hp:H p=Option.none)(o:HO):Ext ι H ι (upd H p o):=
 ⟨List.prefix_refl _,Kp.new hp o,fun a u h e=>⟨.inl (by rw[zap (zaN e hp)];exact e),h⟩⟩
theorem RH.new (h:RH K ι H S)(hp:H p=Option.none)(o:HO):RH K ι (upd H p o) S:=
 h.off (Ext.new hp o) fun a ha=>zap fun e=>h.fresh hp (e▸ha)
theorem zgd (S:St)(o:MO):(S.push o).get S.len=some o:=by
 have h:¬S.len<S.frz.length:=by unfold St.len;omega
 unfold St.get St.push
 simp only[h,if_false]
 unfold St.len
 simp
theorem zdk {o:MO}(h:l<S.len):(S.push o).get l=S.get l:=by
 unfold St.len at h
 unfold St.get St.push
 simp only
 split
 · rfl
 · rw[List.getElem?_append_left (by omega)]
theorem zcU (S:St)(o:MO):(S.push o).len=S.len+1:=by simp[St.push,St.len];omega
theorem Ext.obj (h:RH K ι H S)(hp:H p=Option.none)(u:HO):Ext ι H (ι++[p]) (upd H p u):=
 ⟨List.prefix_append _ _,Kp.new hp u,fun a o ha e=>⟨.inl (by rw[zap (zaN e hp)];exact e),by
  intro z
  rcases List.mem_append.mp z with z|z
  · exact ha z
  · simp at z;exact zaN e hp z⟩⟩
theorem RH.obj' (h:RH K ι H S)(hp:H p=Option.none)(u:HO)(o:MO)(ho:RO K (ι++[p]) (upd H p u) p o):RH K (ι++[p]) (upd H p u) (S.push o):=by
 refine⟨by rw[List.length_append,h.len,zcU];rfl,?_,fun l o' e=>?_,(Kp.new hp u).tab h.tab⟩
 · rw[List.nodup_append]
   refine⟨h.nd,by simp,fun a ha b hb=>?_⟩
   simp at hb;subst hb
   exact fun z=>h.fresh hp (z▸ha)
 · by_cases hl:l<S.len
   · rw[zdk hl] at e
     obtain⟨a,h1,h2,hm⟩:=h.mem e
     exact⟨a,zcG (List.prefix_append _ _) h1,h2.stay (Ext.obj h hp u) (zap fun z=>h.fresh hp (z▸hm))⟩
   · have hl2:=zbe e
     rw[zcU] at hl2
     have:l=S.len:=by omega
     subst this
     rw[zgd] at e;cases e
     exact⟨p,by rw[<-h.len];simp,ho⟩
theorem RH.lay (h:RH K ι H S)(hp:H p=Option.none){ds:List D}{xs:List V}(r:RVs K ι H ds xs):RH K (ι++[p]) (upd H p (.lst xs)) (S.push (.lst ds)):=
 h.obj' hp _ _ ⟨xs,zaw,r.ext (Ext.obj h hp _)⟩
theorem RH.last (h:RH K ι H S)(p:Addr):(ι++[p])[S.len]?=some p:=by rw[<-h.len];simp
theorem Ext.wr (h:RH K ι H S){o:MO}(e:S.get l=some o)(hl:ι[l]?=some a)(u:HO):Ext ι H ι (upd H a u):=by
 have hm:=List.mem_of_getElem? hl
 refine⟨List.prefix_refl _,.same (fun b xs hb=>?_) (fun b z v hb=>?_) fun b ps hb=>?_,fun b o hb e=>⟨.inl ((zap fun (z:b=a)=>hb (by rw[z];exact hm)).trans e),hb⟩⟩
 · rw[zap];exact hb
   rintro rfl
   exact h.notup hb hm
 · rw[zap];exact hb
   rintro rfl
   obtain⟨o,e,_,q,_⟩:=h.live hm
   rw[hb] at e;cases e;exact q _ _ rfl
 · rw[zap];exact hb
   rintro rfl
   obtain⟨o,e,_,_,q⟩:=h.live hm
   rw[hb] at e;cases e;exact q _ rfl
theorem zkN {o:MO}(e:S.put l o=some S'):S'.len=S.len/\(l<S.len->S'.get l=some o)/\(∀m,m≠l->S'.get m=S.get m)/\S.frz.length<=l:=by
 unfold St.put at e
 split at e
 · cases e
 · split at e
   · cases e
   · injection e with e
     subst e
     rename_i c1 c2
     refine⟨by simp[St.len],fun hl=>?_,fun m hm=>?_,by omega⟩
     · unfold St.len at hl
       unfold St.get
       simp only[c1,if_false]
       rw[List.getElem?_set_self (by omega)]
     · unfold St.get
       simp only
       split
       · rfl
       · rw[List.getElem?_set_ne (by omega)]
theorem RH.wr (h:RH K ι H S){o o':MO}{u:HO}(e:S.get l=some o)(hl:ι[l]?=some a)(w:S.put l o'=some S')(ho:RO K ι (upd H a u) a o'):RH K ι (upd H a u) S':=by
 obtain⟨h1,h2,h3,_⟩:=zkN w
 refine⟨h.len.trans h1.symm,h.nd,fun m o2 e2=>?_,(Ext.wr h e hl u).kp.tab h.tab⟩
 by_cases hm:m=l
 · subst hm
   rw[h2 (zbe e)] at e2;cases e2
   exact⟨a,hl,ho⟩
 · rw[h3 m hm] at e2
   obtain⟨b,q1,q2,_⟩:=h.mem e2
   refine⟨b,q1,q2.stay (Ext.wr h e hl u) (zap ?_)⟩
   rintro rfl
   obtain⟨i1,e1⟩:=List.getElem?_eq_some_iff.mp hl
   obtain⟨i2,e2⟩:=List.getElem?_eq_some_iff.mp q1
   exact hm ((List.getElem_inj h.nd).mp (e2.trans e1.symm))
end
end R
end
section
namespace R
open PySem PySem.Spec PyProof.Rows L2
section
variable {prog:Program} {w:World} {K:Type} [DecidableEq K] {knd:HeapKind prog w K} {A:Around} {E:Value->Shared->Prop} {s:Shared} {xs ys:List (K × Addr × Value)} {a b d:Addr}
theorem zjf {ks:List K}(nd:ks.Nodup){i j:Nat}{k:K}(hi:ks[i]?=some k)(hj:ks[j]?=some k):i=j:=by
 obtain⟨h1,e1⟩:=List.getElem?_eq_some_iff.mp hi
 obtain⟨h2,e2⟩:=List.getElem?_eq_some_iff.mp hj
 exact (List.getElem_inj nd).mp (e1.trans e2.symm)
theorem zdN {nm:String}{Q:Bool->Shared->Prop}(hu:knd.room A)(ha:(a == sysModules)=false)(hb:(b == sysModules)=false)(da:s.heap.DictOfH knd a xs)(db:s.heap.DictOfH knd b ys)(hk:xs.map (·.1)=ys.map (·.1))
  (he:∀(i:Nat) x y,xs[i]?=some x->ys[i]?=some y->SeqAt.EqAt A s x.2.2 y.2.2 true) (h:Q true s):wpAny (model prog w) A (Builtin.Dict.samePairs nm a b) Q E s:=by
 obtain⟨oa,es,ep,hoa,_,hda,hea,hia,hna⟩:=da
 obtain⟨ob,es',ep',hob,_,hdb,heb,hib,hnb⟩:=db
 have hla:es.size=xs.length:=size_of_entries hea
 have hlb:es'.size=ys.length:=size_of_entries heb
 have hl:xs.length=ys.length:=by have:=congrArg List.length hk;simpa using this
 unfold Builtin.Dict.samePairs Builtin.Dict.showsAll
 rw[if_neg (show ¬(a == sysModules)=true by rw[ha];exact Bool.false_ne_true),if_neg (show ¬(b == sysModules)=true by rw[hb];exact Bool.false_ne_true)]
 refine wpAny_bind (wpAny_pure (wpAny_bind (wpAny_pure ?_)))
 refine wpAny_bind (wpAny_dictEntries hoa hda ?_)
 dsimp only
 refine wpAny_bind (wpAny_dictEntries hob hdb ?_)
 rw[if_neg (by rw[hla,hlb,hl];simp)]
 refine wpAny_bind (wpAny_dictEpoch hoa hda ?_)
 refine wpAny_bind ?_
 rw[Std.Legacy.Range.forIn_eq_forIn_range']
 simp only[Std.Legacy.Range.size,Nat.sub_zero,Nat.add_sub_cancel,Nat.div_one]
 refine wpAny_forIn_list _ (fun rest q s'=>s'=s/\q=(none,())/\∃i,rest=List.range' i (es.size - i)/\i<=es.size) _ ?_ ?_ _ _ ⟨rfl,rfl,0,by simp,Nat.zero_le _⟩
 · rintro x rest q s' ⟨rfl,rfl,i,hr,hi⟩
   have hlt:i<es.size:=by
    rcases Nat.lt_or_ge i es.size with h|h
    · exact h
    · rw[Nat.sub_eq_zero_of_le h] at hr;simp at hr
   obtain⟨rfl,hrest⟩:x=i/\rest=List.range' (i+1) (es.size - (i+1)):=by
    have e:es.size - i=(es.size - (i+1))+1:=by omega
    rw[e,List.range'_succ] at hr
    injection hr with h1 h2
    exact⟨h1,h2⟩
   obtain⟨⟨k,c,v⟩,hx⟩:∃y,xs[x]?=some y:=⟨xs[x]'(by omega),List.getElem?_eq_getElem _⟩
   obtain⟨⟨k',c',v'⟩,hy⟩:∃y,ys[x]?=some y:=⟨ys[x]'(by omega),List.getElem?_eq_getElem _⟩
   have ekk:k'=k:=by
    have e:=congrArg (fun l=>l[x]?) hk
    simp only[List.getElem?_map,hx,hy,Option.map_some] at e
    exact (Option.some.inj e).symm
   subst ekk
   refine wpAny_bind (wpAny_dictEntries hoa hda ?_)
   rw[entry_at hea x,hx]
   show wpAny _ _ (holding [Value.ref c,v] _ >>= _) _ _ _
   refine wpAny_bind (wpAny_holding (wpAny_bind (wpAny_dictFind_heap (k:=k') hu (hia _ (List.mem_of_getElem? hx)) hob hdb heb hib hnb (fun hno=>absurd hy (hno x _)) fun j p hj=>?_)))
   have ej:j=x:=zjf hnb (k:=k') (by rw[List.getElem?_map,hj];rfl) (by rw[List.getElem?_map,hy];rfl)
   subst ej
   rw[hy] at hj
   cases hj
   refine wpAny_bind (wpAny_dictEntries hob hdb ?_)
   rw[entry_at heb j,hy]
   refine wpAny_holding (he j _ _ hx hy prog w _ _ ?_)
   show wpAny _ _ (if (!true)=true then _ else _) _ _ _
   rw[if_neg (by decide)]
   refine wpAny_bind (wpAny_dictEpoch hoa hda ?_)
   rw[if_neg (by simp)]
   exact wpAny_pure ⟨rfl,rfl,j+1,hrest,hlt⟩
 · rintro q s' ⟨rfl,rfl,i,hr,hi⟩
   exact wpAny_pure h
theorem znv {Q:Value->Shared->Prop}(hr:knd.room A.in1)(hu:A.units<cLine)(ha:(a == sysModules)=false)(hb:(b == sysModules)=false)(da:s.heap.DictOfH knd a xs)(db:s.heap.DictOfH knd b ys)(hk:xs.map (·.1)=ys.map (·.1))
  (he:∀(i:Nat) x y,xs[i]?=some x->ys[i]?=some y->SeqAt.EqAt A.in1 s x.2.2 y.2.2 true) (h:Q (.bool true) s):wpAny (model prog w) A (compareOp .Eq (.ref a) (.ref b)) Q E s:=by
 refine wpAny_richCompare_same_room (op:=.Eq) da.typeIs db.typeIs PySem.F.slot_dict_eq (wpAny_call_entry PySem.F.slot_dict_eq da.typeIs PySem.F.entry_dict_eq ?_ (PySem.F.args_dict_eq_2 _ _)) hu
 show wpAny _ _ (Builtin.Dict.dictSlotArgs "__eq__" ⟨[.ref a,.ref b],[]⟩ >>= _) _ _ s
 refine wpAny_bind ?_
 unfold Builtin.Dict.dictSlotArgs
 refine wpAny_bind (wpAny_notOrdered_dict da.typeIs ?_)
 show wpAny _ _ (pure (Value.ref a,Value.ref b)) _ _ s
 refine wpAny_pure ?_
 refine wpAny_bind (wpAny_isInstance (T:="dict") db.typeIs PySem.F.sub_dict_dict ?_)
 simp only[Bool.not_true,Bool.false_eq_true,if_false]
 refine wpAny_bind (wpAny_pure (wpAny_bind (wpAny_pure ?_)))
 refine wpAny_bind (zdN hr ha hb da db hk he ?_)
 refine wpAny_pure ⟨_,rfl,?_,?_⟩
 · exact fun x=>nomatch x
 · simpa using h
theorem znu {Q:Value->Shared->Prop}(hr:knd.room A.in1)(hu:A.units<cLine)(ha:(a == sysModules)=false)(hb:(b == sysModules)=false)(da:s.heap.DictOfH knd a xs)(db:s.heap.DictOfH knd b ys)(hk:xs.map (·.1)=ys.map (·.1))
  (he:∀(i:Nat) x y,xs[i]?=some x->ys[i]?=some y->SeqAt.EqAt A.in1 s x.2.2 y.2.2 true) (h:Q (.bool false) s):wpAny (model prog w) A (compareOp .NotEq (.ref a) (.ref b)) Q E s:=by
 refine wpAny_richCompare_same_room (op:=.NotEq) da.typeIs db.typeIs PySem.F.slot_dict_ne (wpAny_call_entry PySem.F.slot_dict_ne da.typeIs PySem.F.entry_dict_ne ?_ (PySem.F.args_dict_ne_2 _ _)) hu
 show wpAny _ _ (Builtin.Dict.dictSlotArgs "__ne__" ⟨[.ref a,.ref b],[]⟩ >>= _) _ _ s
 refine wpAny_bind ?_
 unfold Builtin.Dict.dictSlotArgs
 refine wpAny_bind (wpAny_notOrdered_dict da.typeIs ?_)
 show wpAny _ _ (pure (Value.ref a,Value.ref b)) _ _ s
 refine wpAny_pure ?_
 refine wpAny_bind (wpAny_isInstance (T:="dict") db.typeIs PySem.F.sub_dict_dict ?_)
 simp only[Bool.not_true,Bool.false_eq_true,if_false]
 refine wpAny_bind (wpAny_pure (wpAny_bind (wpAny_pure ?_)))
 refine wpAny_bind (zdN hr ha hb da db hk he ?_)
 refine wpAny_pure ⟨_,rfl,?_,?_⟩
 · exact fun x=>nomatch x
 · simpa using h
end
end R
end
section
namespace R
open PySem PySem.Spec PyProof.Rows L2
variable [Mks]
noncomputable def wVK:Option Int->V|none=>.non|some i=>.int i
theorem zc8 {α β:Type}{Rl:α->β->Prop}:∀{ks:List α} {xs:List β},Paired Rl ks xs->∀{i:Nat} {x:β},xs[i]?=some x->∃p,ks[i]?=some p/\Rl p x
 |_,_,.nil,i,x,h=>by simp at h
 |_,_,.cons r t,0,x,h=>by simp at h;subst h;exact⟨_,rfl,r⟩
 | _, _, .cons r t, i + 1, x, h => by
   simp at h
   obtain⟨p,h1,h2⟩:=zc8 t h
   exact⟨p,by simpa using h1,h2⟩
theorem zdf {H:Hp}:∀{ks:List (List Key × V)} {xs:List (List Key × Addr × Value)},KT H ks xs->xs.map (·.1)=ks.map (·.1)
 |_,_,.nil=>rfl
 |_,_,.cons r t=>by rw[List.map_cons,List.map_cons,zdf t,r.1]
theorem RKs.words {K:PySem.W.Frag}{ι:List Addr}{H:Hp}:∀{kvs:List (List Int × D)} {ws:List (List Key × V)} {u:List (List Int × Option Int)},RKs K ι H kvs ws->zcL kvs=some u->ws=u.map fun p=>(kI p.1,wVK p.2)
 | [], ws, u, r, h => by
   have h:u=[]:=by simpa[zcL] using h.symm
   subst h;exact r
 | (k, d) :: kr, ws, u, r, h => by
   obtain⟨v,w,rfl,r1,r2⟩:=r
   unfold zcL at h
   rw[List.mapM_cons] at h
   cases e:zew d with
   |none=>simp[e] at h
   | some o =>
     cases e2:kr.mapM fun kv=>(zew kv.2).map fun w=>(kv.1,w) with
     |none=>simp[e,e2] at h
     | some t =>
       simp[e,e2] at h
       subst h
       rw[RKs.words r2 (show zcL kr=some t from e2),List.map_cons]
       congr 2
       cases d with
       |non=>cases e;exact r1
       |int i=>cases e;exact r1
       |_=>cases e
section
variable {X:Cx} {pins:List (Addr × Obj)} {σ:L2.St} {H:Hp} {s:Shared} {a b:Addr} {A:Around} {E:Value->Shared->Prop}
theorem zir {u:List (List Int × Option Int)}{xs ys:List (List Key × Addr × Value)}(r1:KT H (u.map fun p=>(kI p.1,wVK p.2)) xs)(r2:KT H (u.map fun p=>(kI p.1,wVK p.2)) ys):∀(i:Nat) x y,xs[i]?=some x->ys[i]?=some y->SeqAt.EqAt A s x.2.2 y.2.2 true:=fun i x y hx hy=>by
 obtain⟨p,h1,_,_,h2⟩:=zc8 r1 hx
 obtain⟨q,g1,_,_,g2⟩:=zc8 r2 hy
 rw[h1] at g1
 cases g1
 rw[List.getElem?_map] at h1
 cases e:u[i]? with
 |none=>rw[e] at h1;cases h1
 | some w =>
   rw[e] at h1
   cases h1
   obtain⟨k,o⟩:=w
   cases o with
   | none =>
     have e1:x.2.2=Value.none:=h2
     have e2:y.2.2=Value.none:=g2
     rw[e1,e2]
     exact SeqAt.EqAt.same _
   | some z =>
     obtain⟨t,e1⟩:=(show ∃t,x.2.2=Value.int z t from h2)
     obtain⟨t',e2⟩:=(show ∃t,y.2.2=Value.int z t from g2)
     rw[e1,e2]
     have:=SeqAt.EqAt.int_int (A:=A) (s:=s) z t z t'
     simpa using this
theorem zoR {u:List (List Int × Option Int)}{Q:Value->Shared->Prop}(hu:A.units+1<cLine)(I:Inv X pins σ H s)(h1:H a=some (.dT (u.map fun p=>(kI p.1,wVK p.2))))(h2:H b=some (.dT (u.map fun p=>(kI p.1,wVK p.2))))(h:Q (.bool true) s):wpAny (model X.prog X.w) A (compareOp .Eq (.ref a) (.ref b)) Q E s:=by
 obtain⟨_,s1,xs,r1,d1⟩:=zgS I.hok h1
 obtain⟨_,s2,ys,r2,d2⟩:=zgS I.hok h2
 exact znv (tupleKind_room_in1 hu) (by omega) s1 s2 d1 d2 ((zdf r1).trans (zdf r2).symm) (zir r1 r2) h
theorem zoQ {u:List (List Int × Option Int)}{Q:Value->Shared->Prop}(hu:A.units+1<cLine)(I:Inv X pins σ H s)(h1:H a=some (.dT (u.map fun p=>(kI p.1,wVK p.2))))(h2:H b=some (.dT (u.map fun p=>(kI p.1,wVK p.2))))(h:Q (.bool false) s):wpAny (model X.prog X.w) A (compareOp .NotEq (.ref a) (.ref b)) Q E s:=by
 obtain⟨_,s1,xs,r1,d1⟩:=zgS I.hok h1
 obtain⟨_,s2,ys,r2,d2⟩:=zgS I.hok h2
 exact znu (tupleKind_room_in1 hu) (by omega) s1 s2 d1 d2 ((zdf r1).trans (zdf r2).symm) (zir r1 r2) h
end
theorem zep {S:R.St}{d:D}{kvs:List (List Int × D)}(h:dKvs S d=some kvs):∃l,d=.ref l/\S.get l=some (.dtp kvs):=by
 cases d with
 | ref l =>
   refine⟨l,rfl,?_⟩
   unfold dKvs at h
   dsimp only at h
   cases e:S.get l with
   |none=>rw[e] at h;cases h
   | some o =>
     rw[e] at h
     cases o with
     |dtp k=>cases h;rfl
     |_=>cases h
 |_=>cases h
theorem zll {K:PySem.W.Frag}{ι:List Addr}{H:Hp}{y:D}{v:V}{k:List Int}(r:RV K ι H y v)(h:zei y=some k):∃b,v=.ref b/\H b=some (.tup ((kI k).map kV)):=by
 cases y with
 | tup ds =>
   obtain⟨b,xs,rfl,hb,rr⟩:=r
   simp only[zei] at h
   rw[zbD h] at rr
   rw[rr.ints_eq] at hb
   refine⟨b,rfl,?_⟩
   rw[hb]
   unfold kI
   rw[List.map_map];rfl
 |_=>cases h
theorem zgh {K:PySem.W.Frag}{ι:List Addr}{H:Hp}{S:R.St}{d e:D}{x y:V}{k:Bool}(hH:RH K ι H S)(hd:RV K ι H d x)(he:RV K ι H e y)(h:zeo S d e=some k) :
  (∃(u:List (List Int × Option Int)) (a b:Addr),x=.ref a/\y=.ref b/\H a=some (.dT (u.map fun p=>(kI p.1,wVK p.2)))/\H b=some (.dT (u.map fun p=>(kI p.1,wVK p.2)))/\k=true)\/eqD S d e=some k:=by
 unfold zeo at h
 split at h
 · rename_i ka kb e1 e2
   left
   obtain⟨l,rfl,g1⟩:=zep e1
   obtain⟨m,rfl,g2⟩:=zep e2
   obtain⟨a,i1,rfl⟩:=hd
   obtain⟨b,i2,rfl⟩:=he
   obtain⟨a',j1,_,ws,ha,rk⟩:=hH.obj l _ g1
   rw[i1] at j1;cases j1
   obtain⟨b',j2,_,us,hb,rl⟩:=hH.obj m _ g2
   rw[i2] at j2;cases j2
   unfold eqK at h
   cases w1:zcL ka with
   |none=>rw[w1] at h;cases h
   | some u =>
     cases w2:zcL kb with
     |none=>rw[w1,w2] at h;cases h
     | some v =>
       rw[w1,w2] at h
       dsimp only[Option.bind_some] at h
       split at h
       · rename_i c
         subst c
         cases h
         rw[rk.words w1] at ha
         rw[rl.words w2] at hb
         exact⟨u,a,b,rfl,rfl,ha,hb,rfl⟩
       · cases h
 · exact .inr h
theorem zgc {K:PySem.W.Frag}{ι:List Addr}{H:Hp}{S:R.St}{d e:D}{x y:V}{k:Bool}(hH:RH K ι H S)(hd:RV K ι H d x)(he:RV K ι H e y)(h:zh5 S d e=some k) :
  (∃a o,y=.ref a/\DGet H a x o/\k=o.isSome)\/((zcA S e).bind fun ys=>inD S d ys)=some k:=by
 unfold zh5 at h
 split at h
 · rename_i kvs e1
   left
   obtain⟨l,rfl,g1⟩:=zep e1
   obtain⟨a,i1,rfl⟩:=he
   obtain⟨a',j1,_,ws,ha,rk⟩:=hH.obj l _ g1
   rw[i1] at j1;cases j1
   cases ek:zei d with
   |none=>rw[ek] at h;cases h
   | some kk =>
     rw[ek] at h
     cases h
     obtain⟨b,rfl,hb⟩:=zll hd ek
     refine⟨a,_,rfl,DGet.t ha hb,?_⟩
     rcases rk.val kk with ⟨e1,e2⟩|⟨d,v,e1,e2,_⟩
     · dsimp only;rw[e1,e2];rfl
     · dsimp only;rw[e1,e2];rfl
 · exact .inr h
end R
end
section
namespace R
open PySem PySem.Spec PyProof.Rows L2
section
variable {prog:Program} {w:World} {K:Type} [DecidableEq K] {knd:HeapKind prog w K} {A:Around} {E:Value->Shared->Prop} {s:Shared} {xs:List (K × Addr × Value)} {d:Addr}
end
section
variable {X:Cx} {o e f:Expr} {apos cpos:Pos} {td ty tv:TE}
end
end R
end
section
namespace R
open PySem PySem.Spec PyProof.Rows L2
section
variable {prog:Program} {w:World} {K:Type} [DecidableEq K] {knd:HeapKind prog w K} {A:Around} {E:Value->Shared->Prop} {s:Shared} {xs:List (K × Addr × Value)} {d j:Addr} {i ep:Nat}
noncomputable def HAt (knd:HeapKind prog w K)(h:Heap)(d:Addr)(xs:List (K × Addr × Value))(ep:Nat):Prop:=∃o es,h.get? d=some o/\o.ExactDict/\o.data=.dict es ep/\es.toList=xs.map (entryOfKey knd)
theorem HAt.at {h h':Heap}(x:HAt knd h d xs ep)(e:∀o,h.get? d=some o->h'.get? d=some o):HAt knd h' d xs ep:=let ⟨o,es,ho,r⟩:=x;⟨o,es,e _ ho,r⟩
theorem HAt.ty (x:HAt knd s.heap d xs ep):s.TypeIs (.ref d) "dict":=let ⟨o,_,ho,hc,_⟩:=x;⟨o,ho,hc.1⟩
theorem zlp {Q:Bool->Shared->Prop}(ty:s.TypeIs (.ref d) "dict")(h:Q false s):wpAny (model prog w) A (Builtin.List.listLengthHint (.ref d)) Q E s:=by
 unfold Builtin.List.listLengthHint
 refine wpAny_bind (wpAny_specialOf ty F.slot_dict_len.lookup ?_)
 generalize hid:("dict.__len__":String)=id0
 wp_delta
 rw[show splitId id0=some ("dict","__len__") from by subst hid;decide +kernel]
 subst hid
 refine wpAny_bind (wpAny_isInstance (T:="dict") (b:=true) ty isSubtype_dict_dict ?_)
 refine wpAny_ite_split (fun hab=>absurd hab (by decide)) (fun _=>?_)
 refine wpAny_ite_split (fun _=>?_) (fun hab=>absurd (by decide +kernel) hab)
 refine wpAny_bind (wpAny_typeOf ty ?_)
 exact wpAny_pure h
end
section
variable {X:Cx}
theorem zoC:za7 X (.builtin "len") (fun vs H Q=>∃a ws,vs=[.ref a]/\H a=some (.dT ws)/\Q (.int ws.length) H):=by
 intro pins s σ H xs us Q I r h
 obtain⟨a,ws,rfl,e,q⟩:=h
 obtain⟨u,rfl,ru⟩:=r.one
 cases (show u=Value.ref a from ru)
 obtain⟨z,hd,ys,rel,dd⟩:=zgS I.hok e
 have hl:=Paired.length rel
 obtain⟨o,es,ep,h1,h2,h3,h4,_⟩:=id dd
 have hs:es.size=ws.length:=by rw[size_of_entries h4];exact hl.symm
 refine PyProof.Rows.call_len_slot (n:=ws.length) dd.typeIs F.slot_dict_len (fun Q' hq=>?_) (by omega) (by rw[sizeLine_eq] at z;omega) ⟨.int ws.length,H,I.tok _,⟨_,rfl⟩,q⟩
 refine wpAny_call_entry F.slot_dict_len dd.typeIs F.entry_dict_len ?_ (F.args_dict_len_1 _)
 show wpAny _ _ (dictSize a >>= _) _ _ s
 unfold dictSize
 refine wpAny_bind (wpAny_bind (wpAny_dictEntries h1 h3 (wpAny_pure ?_)))
 show wpAny _ _ (Builtin.Dict.pendingCount a >>= _) _ _ s
 refine wpAny_bind (wpAny_pendingCount_other hd ?_)
 rw[show ((es.size:Int)+((0:Nat):Int))=(ws.length:Nat) by rw[hs];simp]
 exact wpAny_bind (wpAny_mkInt (wpAny_pure ⟨_,rfl,hq⟩))
end
end R
end
section
namespace R
open PySem PySem.Spec PyProof.Rows L2
variable [Mks]
noncomputable def Lf (K:PySem.W.Frag)(ι:List Addr)(H:Hp)(Q:D->R.St->Prop):VK:=fun v H'=>∃d ι' S',Ext ι H ι' H'/\RV K ι' H' d v/\RH K ι' H' S'/\Q d S'
section
variable {K:PySem.W.Frag} {ι ι':List Addr} {H H':Hp} {S S':R.St} {Q:D->R.St->Prop} {d:D} {v:V} {p:Addr}
theorem Lf.of (h:RH K ι H S)(r:RV K ι H d v)(q:Q d S):Lf K ι H Q v H:=⟨d,ι,S,Ext.refl ι H,r,h,q⟩
theorem Lf.up (x:Ext ι H ι' H')(h:Lf K ι' H' Q v p'):Lf K ι H Q v p':=by
 obtain⟨d,ι2,S2,x2,r⟩:=h
 exact⟨d,ι2,S2,x.trans x2,r⟩
theorem Lf.tup (h:RH K ι H S)(hp:H p=Option.none){ds:List D}{xs:List V}(r:RVs K ι H ds xs)(q:Q (.tup ds) S):Lf K ι H Q (.ref p) (upd H p (.tup xs)):=
 ⟨.tup ds,ι,S,Ext.new hp _,⟨p,xs,rfl,zaw,r.ext (Ext.new hp _)⟩,h.new hp _,q⟩
theorem Lf.lst (h:RH K ι H S)(hp:H p=Option.none){ds:List D}{xs:List V}(r:RVs K ι H ds xs)(q:Q (.ref S.len) (S.push (.lst ds))):Lf K ι H Q (.ref p) (upd H p (.lst xs)):=
 ⟨.ref S.len,ι++[p],S.push (.lst ds),Ext.obj h hp _,⟨p,h.last p,rfl⟩,h.lay hp r,q⟩
theorem Lf.wr (h:RH K ι H S){l:Nat}{a:Addr}{o:MO}{ds:List D}{xs:List V}(e:S.get l=some o)(hl:ι[l]?=some a)(w:S.put l (.lst ds)=some S')(r:RVs K ι H ds xs)(rv:RV K ι H d v)(q:Q d S'):Lf K ι H Q v (upd H a (.lst xs)):=
 ⟨d,ι,S',Ext.wr h e hl _,rv.ext (Ext.wr h e hl _),h.wr e hl w ⟨xs,zaw,r.ext (Ext.wr h e hl _)⟩,q⟩
end
theorem zb9 {S:R.St}{ds:List D}{Q:D->R.St->Prop}(h:W (lay S ds) Q):ds.length<=sizeLine/\Q (.ref S.len) (S.push (.lst ds)):=by
 unfold lay at h
 split at h
 · rename_i c;exact⟨by rw[sizeLine_eq];exact c,h⟩
 · exact h.elim
theorem zkb {S:R.St}{l:Nat}{ds:List D}{d:D}{Q:D->R.St->Prop}(h:W (wr S l ds d) Q):ds.length<=sizeLine/\∃S',S.put l (.lst ds)=some S'/\Q d S':=by
 unfold wr at h
 split at h
 · rename_i c
   refine⟨by rw[sizeLine_eq];exact c,?_⟩
   cases e:S.put l (.lst ds) with
   |none=>rw[e] at h;exact h.elim
   |some S'=>rw[e] at h;exact⟨S',rfl,h⟩
 · exact h.elim
noncomputable def rD2 (K:PySem.W.Frag)(f:R.St->D->D->Out D):R2:=fun x y H Qv=>∃ι S d e Qd,RV K ι H d x/\RV K ι H e y/\RH K ι H S/\W (f S d e) Qd/\∀v H',Lf K ι H Qd v H'->Qv v H'
section
variable {X:Cx}
theorem zjB {prog:Program}{w:World}{A:Around}{E:Value->Shared->Prop}{s:Shared}{t b:Addr}{vs ws:List Value}{Q:Value->Shared->Prop}(ht:IsTup s.heap t vs.toArray)(hb:IsTup s.heap b ws.toArray)(hv:vs=[])
  (h1:Q (.ref b) s):wpAny (model prog w) A (binaryOp .Add (.ref t) (.ref b)) Q E s:=by
 obtain⟨⟨cls,dd,data,sl⟩,ho,hc,n,hd⟩:=id ht
 obtain⟨⟨cls2,dd2,data2,sl2⟩,ho2,hc2,n2,hd2⟩:=id hb
 simp only at hc hd hc2 hd2
 subst hc hd hc2 hd2
 exact concat_meets ⟨_,ho,rfl⟩ ⟨_,ho2,rfl⟩ noFill_tuple_add seq_tuple_add PySem.F.slot_tuple_add PySem.F.entry_tuple_add (PySem.F.args_tuple_add_2 _ _)
  (tuple_addW0 t b vs.toArray ws.toArray n n2 dd dd2 sl sl2 (by simp[hv])) ⟨ho,ho2,h1⟩
theorem zje:OpR X (binaryOp .Add) (fun x y H Q=>∃a b ys,x=.ref a/\y=.ref b/\SqT X.K H a []/\SqT X.K H b ys/\Q (.ref b) H):=by
 intro pins s σ H x y v u Q I rx ry h
 obtain⟨a,b,ys,rfl,rfl,ha,hb,q⟩:=h
 cases rx
 cases ry
 obtain⟨its,r1,p1,_⟩:=I.tuple ha
 obtain⟨its2,r2,p2,_⟩:=I.tuple hb
 exact zjB p1 p2 (r1.nil_iff.mpr rfl) ⟨.ref b,H,I,rfl,q⟩
theorem znG (op:Operator):OpR X (binaryOp op) (rD2 X.K fun S d e=>binD S op d e):=by
 intro pins s σ H x y v u Qv I rx ry ⟨ι,S,d,e,Qd,hd,he,hH,hw,q⟩
 dsimp only at hw
 unfold binD at hw
 split at hw
 · rename_i i j
   obtain rfl:x=.int i:=hd
   obtain rfl:y=.int j:=he
   have fin:∀k:Int,Qd (.int k) S->Qv (.int k) H:=fun k hk=>q _ _ (Lf.of (d:=.int k) hH rfl hk)
   unfold binI at hw
   split at hw
   · exact zm8 pins s σ H _ _ v u Qv I rx ry ⟨i,j,rfl,rfl,fin _ hw⟩
   · exact zmZ pins s σ H _ _ v u Qv I rx ry ⟨i,j,rfl,rfl,fin _ hw⟩
   · split at hw
     · rename_i c
       refine zm2 pins s σ H _ _ v u Qv I rx ry ⟨i,j,rfl,rfl,?_,fin _ hw⟩
       unfold zhK at c
       rw[Bool.or_eq_true,decide_eq_true_eq,decide_eq_true_eq] at c
       exact c
     · exact hw.elim
   · split at hw
     · rename_i c
       exact zk6 pins s σ H _ _ v u Qv I rx ry ⟨i,j,rfl,rfl,c,fin _ hw⟩
     · exact hw.elim
   · split at hw
     · rename_i c
       exact zm3 pins s σ H _ _ v u Qv I rx ry ⟨i,j,rfl,rfl,c,fin _ hw⟩
     · exact hw.elim
   · split at hw
     · rename_i c
       exact zm0 pins s σ H _ _ v u Qv I rx ry ⟨i,j,rfl,rfl,⟨c.1,c.2.1,by omega⟩,fin _ hw⟩
     · exact hw.elim
   · exact hw.elim
 · rename_i xs ys
   split at hw
   · split at hw
     · rename_i c
       obtain⟨a,us,rfl,ha,r1⟩:=hd
       obtain⟨b,ws,rfl,hb,r2⟩:=he
       by_cases hn:us=[]
       · subst hn
         have hx:xs=[]:=by
          have:=r1.length
          simpa using this.symm
         subst hx
         refine zje pins s σ H _ _ v u Qv I rx ry ⟨a,b,ws,rfl,rfl,SqT.of ha,SqT.of hb,?_⟩
         exact q _ _ (Lf.of (d:=.tup ys) hH ⟨b,ws,rfl,hb,r2⟩ (by simpa using hw))
       · refine zk7 pins s σ H _ _ v u Qv I rx ry ⟨a,b,us,ws,rfl,rfl,SqT.of ha,SqT.of hb,hn,?_,fun hy=>?_,fun hy p hp=>?_⟩
         · rw[r1.length,r2.length,sizeLine_eq];exact c
         · subst hy
           have hx:ys=[]:=by
            have:=r2.length
            simpa using this.symm
           subst hx
           exact q _ _ (Lf.of (d:=.tup xs) hH ⟨a,us,rfl,ha,r1⟩ (by simpa using hw))
         · exact q _ _ (Lf.tup hH hp (r1.append r2) hw)
     · exact hw.elim
   · exact hw.elim
 · rename_i a b
   split at hw
   · rename_i xs ys e1 e2
     obtain⟨a1,h1,rfl⟩:=hd
     obtain⟨b1,h2,rfl⟩:=he
     obtain⟨a2,h3,us,ha,r1⟩:=hH.obj _ _ e1
     obtain⟨b2,h4,ws,hb,r2⟩:=hH.obj _ _ e2
     rw[h1] at h3;cases h3
     rw[h2] at h4;cases h4
     obtain⟨z,hq⟩:=zb9 hw
     refine zm7 pins s σ H _ _ v u Qv I rx ry ⟨a1,b1,us,ws,rfl,rfl,ha,hb,?_,fun p hp=>?_⟩
     · rw[r1.length,r2.length];rw[List.length_append] at z;exact z
     · exact q _ _ (Lf.lst hH hp (r1.append r2) hq)
   · exact hw.elim
 · exact hw.elim
theorem zaZ {α β:Type}{f:α->Option β}{x:α}{xs:List α}{ys:List β}(h:(x::xs).mapM f=some ys):∃y r,f x=some y/\xs.mapM f=some r/\ys=y::r:=by
 rw[List.mapM_cons] at h
 cases e:f x with
 |none=>rw[e] at h;cases h
 | some y =>
   rw[e] at h
   cases e2:xs.mapM f with
   |none=>rw[e2] at h;cases h
   |some r=>rw[e2] at h;injection h with h;exact⟨y,r,rfl,rfl,h.symm⟩
theorem zgI {ι:List Addr}{H:Hp}{S:R.St}(hH:RH X.K ι H S):∀(n:Nat) (d:D) (pdd:PyData) (v:V),pd S n d=some pdd->RV X.K ι H d v->Rep H pdd v/\pdd.canLay0=true/\pdd.depth<=n:=by
 intro n
 induction n with
 | zero =>
   intro d p v h r
   cases d<;>simp only[pd] at h
   · cases h;exact⟨r,rfl,Nat.le_refl _⟩
   · cases h;exact⟨r,rfl,Nat.le_refl _⟩
   · cases h;exact⟨r,rfl,Nat.le_refl _⟩
   · split at h
     · rename_i c;cases h;exact⟨r,c,Nat.le_refl _⟩
     · cases h
   all_goals cases h
 | succ n ih =>
   have all:∀(ds:List D) (ps:List PyData) (vs:List V),ds.mapM (pd S n)=some ps->RVs X.K ι H ds vs->RepAll H ps vs/\PyData.canLayAll0 ps=true/\PyData.depthAll ps<=n:=by
    intro ds
    induction ds with
    | nil =>
      intro ps vs h r
      have h:ps=[]:=by simpa using h.symm
      subst h
      exact⟨r,rfl,Nat.zero_le _⟩
    | cons d ds ihd =>
      intro ps vs h r
      obtain⟨y,rr,h1,h2,rfl⟩:=zaZ h
      obtain⟨v,w,rfl,r1,r2⟩:=r
      obtain⟨a1,a2,a3⟩:=ih d y v h1 r1
      obtain⟨b1,b2,b3⟩:=ihd rr w h2 r2
      refine⟨⟨v,w,rfl,a1,b1⟩,by simp[PyData.canLayAll0,a2,b2],?_⟩
      simp only[PyData.depthAll]
      omega
   intro d p v h r
   cases d with
   |non=>simp only[pd] at h;cases h;exact⟨r,rfl,Nat.zero_le _⟩
   |bl b=>simp only[pd] at h;cases h;exact⟨r,rfl,Nat.zero_le _⟩
   |int i=>simp only[pd] at h;cases h;exact⟨r,rfl,Nat.zero_le _⟩
   | str x =>
     simp only[pd] at h
     split at h
     · rename_i c;cases h;exact⟨r,c,Nat.zero_le _⟩
     · cases h
   | tup ds =>
     simp only[pd] at h
     cases e:ds.mapM (pd S n) with
     |none=>rw[e] at h;cases h
     | some ps =>
       rw[e] at h
       have h:PyData.tuple ps=p:=by simpa using h
       subst h
       obtain⟨a,xs,rfl,ha,rr⟩:=r
       obtain⟨b1,b2,b3⟩:=all ds ps xs e rr
       refine⟨⟨a,xs,rfl,ha,b1⟩,by simp[PyData.canLay0,b2],?_⟩
       simp only[PyData.depth]
       omega
   | ref l =>
     simp only[pd] at h
     split at h
     · rename_i ds eg
       cases e:ds.mapM (pd S n) with
       |none=>rw[e] at h;cases h
       | some ps =>
         rw[e] at h
         have h:PyData.list ps=p:=by simpa using h
         subst h
         obtain⟨a,h1,rfl⟩:=r
         obtain⟨a2,h2,xs,ha,rr⟩:=hH.obj _ _ eg
         rw[h1] at h2;cases h2
         obtain⟨b1,b2,b3⟩:=all ds ps xs e rr
         refine⟨⟨a,xs,rfl,ha,b1⟩,by simp[PyData.canLay0,b2],?_⟩
         simp only[PyData.depth]
         omega
     · cases h
   |fix ds=>simp only[pd] at h;cases h
noncomputable def rC2 (K:PySem.W.Frag)(op:CmpOp):R2:=fun x y H Qv=>∃ι S d e k,RV K ι H d x/\RV K ι H e y/\RH K ι H S/\cmpD S op d e=some k/\Qv (.bl k) H
theorem zgg {S:R.St}{d e:D}{k:Bool}(h:eqD S d e=some k):∃a b,pd S 60 d=some a/\pd S 60 e=some b/\k=PyData.eqv a b:=by
 unfold eqD at h
 cases e1:pd S 60 d with
 |none=>rw[e1] at h;cases h
 | some a =>
   rw[e1] at h
   cases e2:pd S 60 e with
   |none=>rw[e2] at h;cases h
   |some b=>rw[e2] at h;injection h with h;exact⟨a,b,rfl,rfl,h.symm⟩
open Classical in
noncomputable def eqRd (h:Heap)(p:PyData)(u:Value):Bool:=if c:∃q as,Reads h u q as/\q.canLay0=true then PyData.eqv c.choose p else false
theorem zlw {h:Heap}{p q:PyData}{u:Value}{as:List Addr}(r:Reads h u q as)(c:q.canLay0=true):eqRd h p u=PyData.eqv q p:=by
 have ex:∃q as,Reads h u q as/\q.canLay0=true:=⟨q,as,r,c⟩
 unfold eqRd
 rw[dif_pos ex]
 obtain⟨as',r',c'⟩:=ex.choose_spec
 rw[SeqAt.Reads.unique _ _ _ _ _ c r r']
theorem zjo {ι:List Addr}{H:Hp}{S:R.St}{pins:List (Addr × Obj)}{σ:L2.St}{s:Shared}{A:Around}(I:Inv X pins σ H s)(hA:A.units+62<cLine)(hH:RH X.K ι H S){x:D}{px:PyData}{vx:V}{ux:Value}(hx:pd S 60 x=some px)(rx:RV X.K ι H x vx)(qx:RelV vx ux) :
  ∀{ds:List D} {vs:List V} {us:List Value} {bs:List Bool},RVs X.K ι H ds vs->Vals vs us->ds.mapM (fun z=>eqD S z x)=some bs->us.any (eqRd s.heap px)=bs.any id/\∀u∈us,SeqAt.EqAt A s u ux (eqRd s.heap px u):=by
 obtain⟨x1,x2,x3⟩:=zgI hH 60 x px vx hx rx
 obtain⟨asx,rdx⟩:=Rep.reads I px vx ux x1 qx
 intro ds
 induction ds with
 | nil =>
   intro vs us bs r rv h
   cases (show vs=[] from r)
   cases rv
   have h:bs=[]:=by simpa using h.symm
   subst h
   exact⟨rfl,fun u hu=>nomatch hu⟩
 | cons d ds ih =>
   intro vs us bs r rv h
   obtain⟨v,w,rfl,r1,r2⟩:=r
   obtain⟨b,rr,e,h2,rfl⟩:=zaZ h
   cases rv with
   | cons q1 q2 =>
     rename_i u us'
     obtain⟨a,b',e1,e2,rfl⟩:=zgg e
     rw[hx] at e2;cases e2
     obtain⟨p1,p2,p3⟩:=zgI hH 60 d a v e1 r1
     obtain⟨as,rd⟩:=Rep.reads I a v u p1 q1
     have hq:=zlw (p:=px) rd p2
     obtain⟨i1,i2⟩:=ih r2 q2 h2
     refine⟨by simp[hq,i1],fun z hz=>?_⟩
     rcases List.mem_cons.mp hz with rfl|hz
     · rw[hq]
       exact SeqAt.eqAt_reads a px A s z ux as asx rd rdx p2 x2 (by omega)
     · exact i2 z hz
theorem zjM {ι:List Addr}{H:Hp}{S:R.St}(hH:RH X.K ι H S){d:D}{v:V}{ds:List D}(h:zcA S d=some ds)(r:RV X.K ι H d v):∃a xs,v=.ref a/\(SqL X.K H a xs\/SqT X.K H a xs)/\RVs X.K ι H ds xs:=by
 cases d with
 | tup es =>
   cases h
   obtain⟨a,xs,rfl,ha,rr⟩:=r
   exact⟨a,xs,rfl,.inr (SqT.of ha),rr⟩
 | fix es =>
   cases h
   obtain⟨a,xs,rfl,ha,rr⟩:=r
   exact⟨a,xs,rfl,.inl ha.sq,rr⟩
 | ref l =>
   simp only[zcA] at h
   split at h
   · rename_i ds' e
     cases h
     obtain⟨a,h1,rfl⟩:=r
     obtain⟨a2,h2,xs,ha,rr⟩:=hH.obj _ _ e
     rw[h1] at h2;cases h2
     exact⟨a,xs,rfl,.inl (SqL.of ha),rr⟩
   · cases h
 |_=>cases h
theorem znt {S:R.St}{x:D}{ys:List D}{k:Bool}(h:inD S x ys=some k):∃bs,ys.mapM (fun z=>eqD S z x)=some bs/\k=bs.any id:=by
 unfold inD at h
 cases e:ys.mapM (fun z=>eqD S z x) with
 |none=>rw[e] at h;cases h
 |some bs=>rw[e] at h;injection h with h;exact⟨bs,rfl,h.symm⟩
theorem zf8:∀(as bs:List Int),R.lexLt as bs=HT.lexLt as bs
 | [],[]=>by simp[R.lexLt,HT.lexLt]
 | [],_::_=>by simp[R.lexLt,HT.lexLt]
 |_::_,[]=>by simp[R.lexLt,HT.lexLt]
 |a::as,b::bs=>by simp[R.lexLt,HT.lexLt,zf8 as bs]
theorem nonV {K:PySem.W.Frag}{ι:List Addr}{H:Hp}{d:D}{x:V}(hd:RV K ι H d x):decide (x=V.non)=zln d:=by
 cases d with
 |non=>rw[show x=.non from hd];rfl
 |bl b=>rw[show x=.bl b from hd];rfl
 |int b=>rw[show x=.int b from hd];rfl
 |str b=>rw[show x=.str b from hd];rfl
 |tup b=>obtain⟨_,_,rfl,_⟩:=hd;rfl
 |ref b=>obtain⟨_,_,rfl⟩:=hd;rfl
 |fix b=>obtain⟨_,_,rfl,_⟩:=hd;rfl
theorem zj6 (hu:X.A.units+128<cLine)(op:CmpOp):OpR X (compareOp op) (rC2 X.K op):=by
 intro pins s σ H x y v u Qv I rx ry ⟨ι,S,d,e,k,hd,he,hH,hc,q⟩
 unfold cmpD at hc
 split at hc
 · rename_i i j
   obtain rfl:x=.int i:=hd
   obtain rfl:y=.int j:=he
   unfold cmpI at hc
   split at hc
   · cases hc;exact zoz pins s σ H _ _ v u Qv I rx ry ⟨rfl,by simpa using q⟩
   · cases hc;exact zou pins s σ H _ _ v u Qv I rx ry ⟨rfl,by simpa using q⟩
   · cases hc;exact zov pins s σ H _ _ v u Qv I rx ry ⟨i,j,rfl,rfl,q⟩
   · cases hc;exact zow pins s σ H _ _ v u Qv I rx ry ⟨i,j,rfl,rfl,q⟩
   · cases hc;exact zox pins s σ H _ _ v u Qv I rx ry ⟨i,j,rfl,rfl,q⟩
   · cases hc;exact zoy pins s σ H _ _ v u Qv I rx ry ⟨i,j,rfl,rfl,q⟩
   · cases hc
 · unfold cmpO at hc
   have isin:∀(k:Bool),((zcA S e).bind fun ys=>inD S d ys)=some k->∃a xs,y=.ref a/\(SqL X.K H a xs\/SqT X.K H a xs)/\∃(px:PyData),∀us,Vals xs us->us.any (eqRd s.heap px)=k/\∀z∈us,SeqAt.EqAt X.A.in1 s z v (eqRd s.heap px z):=by
    intro k h
    cases es:zcA S e with
    |none=>rw[es] at h;cases h
    | some ys =>
      rw[es] at h
      obtain⟨bs,hb,rfl⟩:=znt (show inD S d ys=some k from h)
      obtain⟨a,xs,rfl,hq,rr⟩:=zjM hH es he
      refine⟨a,xs,rfl,hq,?_⟩
      cases hp:pd S 60 d with
      |some px=>exact⟨px,fun us hus=>zjo I (show X.A.units+1+62<cLine by omega) hH hp hd rx rr hus hb⟩
      | none =>
        cases ys with
        | nil =>
          refine⟨.none,fun us hus=>?_⟩
          cases (show xs=[] from rr)
          cases hus
          have hb:bs=[]:=by simpa using hb.symm
          subst hb
          exact⟨rfl,fun z hz=>nomatch hz⟩
        | cons z zs =>
          obtain⟨b,r,h1,_⟩:=zaZ hb
          obtain⟨_,_,_,h3,_⟩:=zgg h1
          rw[hp] at h3;cases h3
   split at hc
   · rcases zgh hH hd he hc with ⟨us,a,b,rfl,rfl,ha,hb,rfl⟩|hc
     · cases (show v=Value.ref a from rx)
       cases (show u=Value.ref b from ry)
       exact zoR (by omega) I ha hb ⟨.bl true,H,I,rfl,q⟩
     obtain⟨a,b,h1,h2,rfl⟩:=zgg hc
     obtain⟨p1,p2,p3⟩:=zgI hH 60 d a x h1 hd
     obtain⟨q1,q2,q3⟩:=zgI hH 60 e b y h2 he
     exact zm6 (by omega) pins s σ H x y v u Qv I rx ry ⟨a,b,p1,q1,p2,q2,by omega,q⟩
   · cases hk:zeo S d e with
     |none=>rw[hk] at hc;cases hc
     | some k' =>
       rw[hk] at hc
       rcases zgh hH hd he hk with ⟨us,a,b,rfl,rfl,ha,hb,rfl⟩|hk
       · cases (show v=Value.ref a from rx)
         cases (show u=Value.ref b from ry)
         have hc:k=false:=by simpa using hc.symm
         subst hc
         exact zoQ (by omega) I ha hb ⟨.bl false,H,I,rfl,q⟩
       obtain⟨a,b,h1,h2,rfl⟩:=zgg hk
       obtain⟨p1,p2,p3⟩:=zgI hH 60 d a x h1 hd
       obtain⟨q1,q2,q3⟩:=zgI hH 60 e b y h2 he
       have hc:k = !PyData.eqv a b:=by simpa using hc.symm
       subst hc
       exact zm1 (by omega) pins s σ H x y v u Qv I rx ry ⟨a,b,p1,q1,p2,q2,by omega,q⟩
   · split at hc
     · obtain rfl:y=.non:=he
       cases hc
       obtain rfl:u=Value.none:=ry
       refine is_none_gen ⟨.bl _,H,I,rfl,?_⟩
       rw[rx.none_iff,nonV hd];exact q
     · rename_i b _
       split at hc
       · rename_i a _
         cases hc
         exact zm5 pins s σ H _ _ v u Qv I rx ry ⟨a,b,hd,he,q⟩
       · cases hc
     · cases hc
   · split at hc
     · obtain rfl:y=.non:=he
       cases hc
       obtain rfl:u=Value.none:=ry
       refine isnot_none_gen ⟨.bl _,H,I,rfl,?_⟩
       rw[rx.none_iff,nonV hd];exact q
     · cases hc
   · rcases zgc hH hd he hc with ⟨a,o,rfl,g,rfl⟩|hc
     · cases (show u=Value.ref a from ry)
       exact d_in (by omega) I g rx fun s3 I3=>⟨.bl o.isSome,H,I3,rfl,q⟩
     obtain⟨a,xs,rfl,hq,px,hp⟩:=isin _ hc
     cases (show u=Value.ref a from ry)
     rcases hq with hq|hq
     · obtain⟨its,r,pl,hz⟩:=I.list hq
       obtain⟨h1,h2⟩:=hp its r
       exact SeqAt.in_listAt (eqRd s.heap px) pl.isList (fun w hw=>h2 w (by simpa using hw)) (zav I q (by simpa using h1.symm))
     · obtain⟨its,r,pl,hz⟩:=I.tuple hq
       obtain⟨h1,h2⟩:=hp its r
       exact SeqAt.in_tupleAt (eqRd s.heap px) pl (fun w hw=>h2 w (by simpa using hw)) (zav I q (by simpa using h1.symm))
   · cases hk:zh5 S d e with
     |none=>rw[hk] at hc;cases hc
     | some k' =>
       rw[hk] at hc
       have hc:k = !k':=by simpa using hc.symm
       subst hc
       rcases zgc hH hd he hk with ⟨a,o,rfl,g,rfl⟩|hk
       · cases (show u=Value.ref a from ry)
         exact zlB (by omega) I g rx fun s3 I3=>⟨.bl (!o.isSome),H,I3,rfl,q⟩
       obtain⟨a,xs,rfl,hq,px,hp⟩:=isin k' hk
       cases (show u=Value.ref a from ry)
       rcases hq with hq|hq
       · obtain⟨its,r,pl,hz⟩:=I.list hq
         obtain⟨h1,h2⟩:=hp its r
         exact SeqAt.notIn_listAt (eqRd s.heap px) pl.isList (fun w hw=>h2 w (by simpa using hw)) (zav I q (by simpa using congrArg (!·) h1.symm))
       · obtain⟨its,r,pl,hz⟩:=I.tuple hq
         obtain⟨h1,h2⟩:=hp its r
         exact SeqAt.notIn_tupleAt (eqRd s.heap px) pl (fun w hw=>h2 w (by simpa using hw)) (zav I q (by simpa using congrArg (!·) h1.symm))
   · split at hc
     · rename_i xs ys _
       cases e1:zby xs with
       |none=>rw[e1] at hc;cases hc
       | some ns =>
         cases e2:zby ys with
         |none=>rw[e1,e2] at hc;cases hc
         | some ms =>
           rw[e1,e2] at hc
           have hc:k=lexLt ns ms:=by simpa using hc.symm
           subst hc
           obtain⟨a,us,rfl,ha,r1⟩:=hd
           obtain⟨b,ws,rfl,hb,r2⟩:=he
           rw[zbD e1] at r1
           rw[zbD e2] at r2
           rw[r1.ints_eq] at ha
           rw[r2.ints_eq] at hb
           exact zm4 (by omega) pins s σ H _ _ v u Qv I rx ry ⟨a,b,ns,ms,rfl,rfl,SqT.of ha,SqT.of hb,by rw[<-zf8];exact q⟩
     · cases hc
   · cases hc
end
end R
end
section
namespace R
open PySem PySem.Spec PyProof.Rows L2
variable [Mks]
noncomputable def zaq:Expr->Bool|.Starred _ _=>false|_=>true
noncomputable def zbr:Expr->Bool|.ListComp ..=>false|.SetComp ..=>false|.DictComp ..=>false|_=>true
noncomputable def zea:Expr->Bool|.Slice ..=>false|_=>true
noncomputable def zb7:Expr->Bool|.Set ..=>false|_=>true
noncomputable def zbR:Expr->Bool|.Call (.Name _ _) [] [] _=>false|_=>true
noncomputable def zfX:Expr->Bool|.UnaryOp .Not _ _=>false|.BoolOp ..=>false|.IfExp ..=>false|.Compare ..=>false|_=>true
noncomputable def zoU:Expr->Bool|.Tuple ..=>false|_=>true
theorem zat {e:Expr}(h:zaq e=true)(es:List Expr)(env:Env):starEach (e::es) env=(false,eval e env)::starEach es env:=by
 cases e<;>first|rfl|cases h
theorem zd5 {e:Expr}(h:zbr e=true)(t:Option Expr)(l:Nat)(env:Env):swapsWith e t l env=pure false:=by
 cases e<;>first|rfl|cases h
theorem zoE {e:Expr}(h:zea e=true):ziC e:=by
 intro o i
 cases e<;>first|rfl|cases h
theorem zhM {e:Expr}(h:zb7 e=true)(op:CmpOp):behindInMarks op e=false:=by
 cases e<;>first|rfl|cases h
theorem zdH {e:Expr}(h:zbR e=true)(x:Str)(env:Env)(w:Sem Value):attributeBase e x env w=w:=by
 unfold attributeBase
 split
 · cases h
 · rfl
theorem zlZ {e:Expr}(h:zfX e=true)(env:Env)(w:Sem Value):isTrue e env w=(do let v <-w;standAt e.pos;holding [v] (truthy v)):=by
 cases e with
 |UnaryOp op x p=>cases op<;>first|rfl|cases h
 |_=>first|rfl|cases h
theorem zfx {e:Expr}(h:zb7 e=true)(env:Env)(x:Value):foldedSetIterable e env x=pure x:=by
 cases e<;>first|rfl|cases h
theorem za4 {pos:Pos}{env:Env}:∀{es:List Expr},es.all zaq=true->(backTo pos (starEach es env)).any (·.1)=false
 | [],_=>rfl
 | e :: es, h => by
   rw[List.all_cons,Bool.and_eq_true] at h
   rw[zat h.1]
   exact za4 (es:=es) h.2
structure Tab where
 blt:List Str
 cons:List (Str × D)
 fns:List (Str × List Str × Nat)
 cls:List Str:=[]
 flds:List Str:=[]
 mts:List (Nat × Str × Nat):=[]
 inits:List (Nat × Nat × Nat):=[]
 cms:List (Str × Str × Nat):=[]
 isas:List (Str × List Nat):=[]
noncomputable def zjn (sc:Scope)(x:Str):Bool:=match sc.names.lookup x with|some .local=>true|some .cell=>true|some .free=>true|_=>false
noncomputable def zeY (sc:Scope)(x:Str):Bool:=match sc.names.lookup x with|some .local=>true|some .cell=>true|_=>false
noncomputable def isGl (sc:Scope)(x:Str):Bool:=match sc.names.lookup x with|some .globalImplicit=>true|_=>false
noncomputable def eqC:D->D->Bool
 |.non,.non=>true|.bl a,.bl b=>a == b|.int a,.int b=>a == b|.str a,.str b=>a == b|_,_=>false
theorem znB:∀{d e:D},eqC d e=true->d=e:=by
 intro d e h
 cases d<;>cases e<;>first|rfl|(simp only[eqC,beq_iff_eq] at h;subst h;rfl)|cases h
noncomputable def sV:D->V
 |.non=>.non|.bl b=>.bl b|.int i=>.int i|.str x=>.str x|_=>.non
noncomputable def ziT:D->Bool
 |.non=>true|.bl _=>true|.int _=>true|.str _=>true|_=>false
theorem zog {K:PySem.W.Frag}{ι:List Addr}{H:Hp}{d:D}(h:ziT d=true):RV K ι H d (sV d):=by
 cases d<;>first|rfl|cases h
noncomputable def conB:D->Const->Bool
 |.non,.none=>true|.bl a,.bool b=>a == b|.int a,.int b=>a == b|.str a,.str b=>a == b|_,_=>false
noncomputable def bltB (T:Tab)(sc:Scope)(x:Str):Bool:=isGl sc x&&T.blt.contains x
noncomputable def spF (K:PySem.W.Frag)(cf:CF)(f:Nat):Sp:=fun vs H Qv _=>∃ι S ds,RVs K ι H ds vs/\RH K ι H S/\W (cf f ds S) (fun d T=>∀v H' ι',Ext ι H ι' H'->RV K ι' H' d v->RH K ι' H' T->Qv v H')
structure HasM (P:Program) (w:World) (K:PySem.W.Frag) (mg:Str->Option Value) (base:Heap) (k c:Nat) (m:Str) (sp:Sp):Prop where
 ex:∃(C fa:Addr) (fd:FuncData) (ps:List Str),Mks.cl[c]?=some C/\Cls K C/\Meth K C m fa/\FnOk P w K mg base CX0 k fa fd ps sp/\Binds K fd ps []
structure HasI (P:Program) (w:World) (K:PySem.W.Frag) (mg:Str->Option Value) (base:Heap) (k c j:Nat) (sp:Sp):Prop where
 ex:∃(C fa:Addr) (fd:FuncData) (ps:List Str),Mks.cl[c]?=some C/\Mk K C fa/\FnOk P w K mg base CX0 k fa fd ps sp/\Binds K fd ps (List.replicate j Value.none)
structure HasC (P:Program) (w:World) (K:PySem.W.Frag) (mg:Str->Option Value) (base:Heap) (k:Nat) (x m:Str) (sp:Sp):Prop where
 ex:∃(C fa:Addr) (fd:FuncData) (ps:List Str) (mc:Value),mg x=some (.ref C)/\PySem.W.specialIn K (.ref C) "__getattribute__"=some (some (.builtin "type.__getattribute__"))/\PySem.W.readsIn K C mc=true/\PySem.W.findCls K (.ref C) mc m=some (.val (.ref fa))/\
  PySem.W.keepIn K (.ref fa)=true/\FnOk P w K mg base CX0 k fa fd ps sp/\Binds K fd ps []
structure IsaOk (K:PySem.W.Frag) (C:Addr):Prop where
 ha:PySem.W.findIn K (.ref C) "__class__"=some (some (.builtin "object.__class__"))
 hn:PySem.W.specialIn K (.builtin "object.__class__") "__get__"=some (some (.builtin "getset_descriptor.__get__"))
 ht:PySem.W.takesIn K (.builtin "object.__class__")=some true
 hm:PySem.W.mroIn K C (.type "object")=some true
structure TabOk (T:Tab) (cf:CF) (k:Nat) (P:Program) (w:World) (K:PySem.W.Frag) (mg:Str->Option Value) (base:Heap):Prop where
 blt:∀x,T.blt.contains x=true->mg x=none
 con:∀x d,T.cons.lookup x=some d->ziT d=true/\∃u,mg x=some u/\RelV (sV d) u
 fns:∀f x ps nd,T.fns[f]?=some (x,ps,nd)->∀j,j<=nd->Has P w K mg base k x ps (List.replicate j .non) (spF K cf f)
 frm:CFok cf
 cls:∀(c:Nat) (x:Str),T.cls[c]?=some x->∃C,Mks.cl[c]?=some C/\Cls K C/\mg x=some (.ref C)/\∀f,T.flds.contains f=true->NoAttr K C f
 mth:∀(c:Nat) (m:Str) (fi:Nat),T.mts.contains (c,m,fi)=true->HasM P w K mg base k c m (spF K cf fi)
 ini:∀(c fi j:Nat),T.inits.contains (c,fi,j)=true->HasI P w K mg base k c j (spF K cf fi)
 cmd:∀(x m:Str) (fi:Nat),T.cms.contains (x,m,fi)=true->HasC P w K mg base k x m (spF K cf fi)
 cln:(T.flds≠[]\/T.inits≠[]\/T.isas≠[])->Mks.cl.length<=T.cls.length
 isa:∀(x:Str) (cs:List Nat),T.isas.contains (x,cs)=true->∃D,mg x=some (.ref D)/\∀c C,Mks.cl[c]?=some C->IsaOk K C/\PySem.W.kitOne K (.ref C) (.ref D)=some (cs.contains c)
structure Gd (T:Tab) (cf:CF) (k:Nat) (N:List Str) (sc:Scope) (X:Cx):Prop where
 nm:X.N=N
 nd:N.Nodup
 loc:∀x,sc.names.lookup x=some .local->X.env.scope.names.lookup x=some .local
 cell:∀x,sc.names.lookup x=some .cell->X.env.scope.names.lookup x=some .cell
 free:∀x,sc.names.lookup x=some .free->X.env.scope.names.lookup x=some .free\/X.env.scope.names.lookup x=some .cell
 glob:∀x,sc.names.lookup x=some .globalImplicit->X.env.scope.names.lookup x=some .globalImplicit
 fn:(∀x,X.fn x=true)\/∀x,sc.names.lookup x≠some .cell
 calm:X.calm=true
 xe:X.xe=fun _ _=>False
 room':Room (k+1) X.A
 tab:TabOk T cf k X.prog X.w X.K X.mg X.base
section
variable {T:Tab} {cf:CF} {k:Nat} {N:List Str} {sc:Scope} {X:Cx}
theorem Gd.room (G:Gd T cf k N sc X):Room k X.A:=G.room'.mono (Nat.le_succ k)
theorem Gd.hu (G:Gd T cf k N sc X):X.A.units+128<cLine:=by have:=G.room.un;omega
theorem Gd.vis (G:Gd T cf k N sc X){x:Str}(h:zjn sc x=true):Vis X.env.scope x:=by
 unfold zjn at h
 split at h
 · rename_i e;exact .inl (G.loc x e)
 · rename_i e;exact .inr (.inl (G.cell x e))
 · rename_i e
   rcases G.free x e with q|q
   · exact .inr (.inr q)
   · exact .inr (.inl q)
 · cases h
theorem Gd.lc (G:Gd T cf k N sc X){x:Str}(h:zeY sc x=true):Loc X.env.scope x/\(X.fn x=true\/X.env.scope.names.lookup x=some .local):=by
 unfold zeY at h
 split at h
 · rename_i e;exact⟨.inl (G.loc x e),.inr (G.loc x e)⟩
 · rename_i e
   refine⟨.inr (G.cell x e),?_⟩
   rcases G.fn with q|q
   · exact .inl (q x)
   · exact absurd e (q x)
 · cases h
theorem Gd.gl (G:Gd T cf k N sc X){x:Str}(h:isGl sc x=true):Gl X x:=by
 unfold isGl at h
 split at h
 · rename_i e;exact G.glob x e
 · cases h
end
noncomputable def RS (K:PySem.W.Frag)(ι:List Addr)(H:Hp)(δ:Ev)(σ:L2.St):Prop:=δ.length=σ.length/\∀(i:Nat) (d:D),δ[i]?=some (some d)->∃v,σ[i]?=some (some v)/\RV K ι H d v
theorem RS.ext {K:PySem.W.Frag}{ι ι':List Addr}{H H':Hp}{δ:Ev}{σ:L2.St}(h:RS K ι H δ σ)(x:Ext ι H ι' H'):RS K ι' H' δ σ:=
 ⟨h.1,fun i d e=>let ⟨v,e1,r⟩:=h.2 i d e;⟨v,e1,r.ext x⟩⟩
theorem RS.set {K:PySem.W.Frag}{ι:List Addr}{H:Hp}{δ:Ev}{σ:L2.St}(h:RS K ι H δ σ){d:D}{v:V}(r:RV K ι H d v)(i:Nat):RS K ι H (δ.set i (some d)) (σ.set i (some v)):=by
 refine⟨by simp[h.1],fun j e hj=>?_⟩
 by_cases hij:i=j
 · subst hij
   have hl:i<δ.length:=by
    have:=(List.getElem?_eq_some_iff.mp hj).1
    simpa using this
   rw[List.getElem?_set_self hl] at hj
   cases hj
   exact⟨v,List.getElem?_set_self (by rw[<-h.1];exact hl),r⟩
 · rw[List.getElem?_set_ne hij] at hj
   obtain⟨v',e1,r'⟩:=h.2 j e hj
   exact⟨v',by rw[List.getElem?_set_ne hij];exact e1,r'⟩
noncomputable def tE (K:PySem.W.Frag)(cf:CF)(ce:CE):TE:=fun σ H Qv=>∃δ ι S Q,RS K ι H δ σ/\RH K ι H S/\W (evE cf ce δ S) Q/\∀v H',Lf K ι H Q v H'->Qv v H'
noncomputable def LfB (K:PySem.W.Frag)(ι:List Addr)(H:Hp)(Q:Bool->R.St->Prop):Bool->Hp->Prop:=fun b H'=>∃ι' S',Ext ι H ι' H'/\RH K ι' H' S'/\Q b S'
noncomputable def tT (K:PySem.W.Frag)(cf:CF)(ce:CE):TT:=fun σ H Qv=>∃δ ι S Q,RS K ι H δ σ/\RH K ι H S/\W (evT cf ce δ S) Q/\∀b H',LfB K ι H Q b H'->Qv b H'
noncomputable def LfA (K:PySem.W.Frag)(ι:List Addr)(H:Hp)(Q:List D->R.St->Prop):List V->Hp->Prop:=fun vs H'=>∃ds ι' S',Ext ι H ι' H'/\RVs K ι' H' ds vs/\RH K ι' H' S'/\Q ds S'
noncomputable def tAs (K:PySem.W.Frag)(cf:CF)(ces:CEs):TA:=fun σ H Qv=>∃δ ι S Q,RS K ι H δ σ/\RH K ι H S/\W (evEs cf ces δ S) Q/\∀vs H',LfA K ι H Q vs H'->Qv vs H'
inductive SqK (K:PySem.W.Frag) (ι:List Addr) (H:Hp) (S:R.St) (a:Addr) (xs:List V) (ds:List D) (lks:List Nat):Prop where
 |tmp (h:a∉ι) (e:H a=some (.lst xs)):SqK K ι H S a xs ds lks
 |tup (e:H a=some (.tup xs)):SqK K ι H S a xs ds lks
 |fix (e:FixL K H a xs):SqK K ι H S a xs ds lks
 |own (l:Nat) (hl:l∈lks) (hi:ι[l]?=some a) (hs:S.get l=some (.lst ds)) (e:H a=some (.lst xs)):SqK K ι H S a xs ds lks
noncomputable def Sq (K:PySem.W.Frag)(ι:List Addr)(H:Hp)(S:R.St)(v:V)(ds:List D)(lks:List Nat):Prop:=∃a xs,v=.ref a/\RVs K ι H ds xs/\SqK K ι H S a xs ds lks
noncomputable def LfL (K:PySem.W.Frag)(ι:List Addr)(H:Hp)(Q:List D × List Nat->R.St->Prop):VK:=fun v H'=>∃ds lks ι' S',Ext ι H ι' H'/\Sq K ι' H' S' v ds lks/\RH K ι' H' S'/\Q (ds,lks) S'
noncomputable def tL (K:PySem.W.Frag)(cf:CF)(cl:CL):TE:=fun σ H Qv=>∃δ ι S Q,RS K ι H δ σ/\RH K ι H S/\W (evL cf cl δ S) Q/\∀v H',LfL K ι H Q v H'->Qv v H'
noncomputable def LfT (K:PySem.W.Frag)(ι:List Addr)(H:Hp)(Q:List D × List Nat->R.St->Prop):VK:=fun v H'=>∃ds ι' S' a xs,Ext ι H ι' H'/\v=.ref a/\RVs K ι' H' ds xs/\a∉ι'/\H' a=some (.lst xs)/\RH K ι' H' S'/\H a=none/\Q (ds,[]) S'
noncomputable def tLt (K:PySem.W.Frag)(cf:CF)(cl:CL):TE:=fun σ H Qv=>∃δ ι S Q,RS K ι H δ σ/\RH K ι H S/\W (evL cf cl δ S) Q/\∀v H',LfT K ι H Q v H'->Qv v H'
theorem LfT.l {K:PySem.W.Frag}{ι:List Addr}{H:Hp}{Q:List D × List Nat->R.St->Prop}{v:V}{H':Hp}(h:LfT K ι H Q v H'):LfL K ι H Q v H':=by
 obtain⟨ds,ι',S',a,xs,x,rfl,r,ha,e,hh,_,q⟩:=h
 exact⟨ds,[],ι',S',x,⟨a,xs,rfl,r,.tmp ha e⟩,hh,q⟩
theorem PE.imp {X:Cx}{e:Expr}{t t':TE}(h:PE X e t)(i:∀σ H Q,t' σ H Q->t σ H Q):PE X e t':=fun pins s σ H Q I q=>h pins s σ H Q I (i σ H Q q)
theorem PT.imp {X:Cx}{e:Expr}{t t':TT}(h:PT X e t)(i:∀σ H Q,t' σ H Q->t σ H Q):PT X e t':=fun pins s σ H Q I q=>h pins s σ H Q I (i σ H Q q)
theorem PW.imp {X:Cx}{e:Expr}{t t':TT}(h:PW X e t)(i:∀σ H Q,t' σ H Q->t σ H Q):PW X e t':=fun wh pins s σ H Q I q=>h wh pins s σ H Q I (i σ H Q q)
theorem PA.imp {X:Cx}{es:List Expr}{t t':TA}(h:PA X es t)(i:∀σ H Q,t' σ H Q->t σ H Q):PA X es t':=fun pos pins s σ H Q I q=>h pos pins s σ H Q I (i σ H Q q)
theorem tE.run {K:PySem.W.Frag}{cf:CF}{a:CE}{δ:Ev}{σ:L2.St}{ι:List Addr}{H:Hp}{S:R.St}{Q:D->R.St->Prop}{Qv:VK}(hs:RS K ι H δ σ)(hh:RH K ι H S)(w:W (evE cf a δ S) Q)
  (h:∀d v ι' H' S',Ext ι H ι' H'->RS K ι' H' δ σ->RH K ι' H' S'->RV K ι' H' d v->Q d S'->Qv v H'):tE K cf a σ H Qv:=
 ⟨δ,ι,S,Q,hs,hh,w,fun v H' ⟨d,ι',S',x,r,hh',q⟩=>h d v ι' H' S' x (hs.ext x) hh' r q⟩
theorem tT.run {K:PySem.W.Frag}{cf:CF}{a:CE}{δ:Ev}{σ:L2.St}{ι:List Addr}{H:Hp}{S:R.St}{Q:Bool->R.St->Prop}{Qv:Bool->Hp->Prop}(hs:RS K ι H δ σ)(hh:RH K ι H S)(w:W (evT cf a δ S) Q)
  (h:∀b ι' H' S',Ext ι H ι' H'->RS K ι' H' δ σ->RH K ι' H' S'->Q b S'->Qv b H'):tT K cf a σ H Qv:=
 ⟨δ,ι,S,Q,hs,hh,w,fun b H' ⟨ι',S',x,hh',q⟩=>h b ι' H' S' x (hs.ext x) hh' q⟩
theorem tAs.run {K:PySem.W.Frag}{cf:CF}{a:CEs}{δ:Ev}{σ:L2.St}{ι:List Addr}{H:Hp}{S:R.St}{Q:List D->R.St->Prop}{Qv:List V->Hp->Prop}(hs:RS K ι H δ σ)(hh:RH K ι H S)(w:W (evEs cf a δ S) Q)
  (h:∀ds vs ι' H' S',Ext ι H ι' H'->RS K ι' H' δ σ->RH K ι' H' S'->RVs K ι' H' ds vs->Q ds S'->Qv vs H'):tAs K cf a σ H Qv:=
 ⟨δ,ι,S,Q,hs,hh,w,fun v H' ⟨d,ι',S',x,r,hh',q⟩=>h d v ι' H' S' x (hs.ext x) hh' r q⟩
theorem PE.ofT {X:Cx}{e:Expr}{cf:CF}{cl:CL}(h:PE X e (tLt X.K cf cl)):PE X e (tL X.K cf cl):=
 PE.imp h fun σ H Qv ⟨δ,ι,S,Q,hs,hh,w,q⟩=>⟨δ,ι,S,Q,hs,hh,w,fun v H' l=>q v H' l.l⟩
theorem tLt.run {K:PySem.W.Frag}{cf:CF}{a:CL}{δ:Ev}{σ:L2.St}{ι:List Addr}{H:Hp}{S:R.St}{Q:List D × List Nat->R.St->Prop}{Qv:VK}(hs:RS K ι H δ σ)(hh:RH K ι H S)(w:W (evL cf a δ S) Q)
  (h:∀ds p xs ι' H' S',Ext ι H ι' H'->RS K ι' H' δ σ->RH K ι' H' S'->RVs K ι' H' ds xs->p∉ι'->H' p=some (.lst xs)->H p=none->Q (ds,[]) S'->Qv (.ref p) H'):tLt K cf a σ H Qv:=
 ⟨δ,ι,S,Q,hs,hh,w,fun v H' ⟨ds,ι',S',p,xs,x,e,r,hp,hx,hh',hn,q⟩=>e▸h ds p xs ι' H' S' x (hs.ext x) hh' r hp hx hn q⟩
theorem tL.run {K:PySem.W.Frag}{cf:CF}{a:CL}{δ:Ev}{σ:L2.St}{ι:List Addr}{H:Hp}{S:R.St}{Q:List D × List Nat->R.St->Prop}{Qv:VK}(hs:RS K ι H δ σ)(hh:RH K ι H S)(w:W (evL cf a δ S) Q)
  (h:∀ds lks v ι' H' S',Ext ι H ι' H'->RS K ι' H' δ σ->RH K ι' H' S'->Sq K ι' H' S' v ds lks->Q (ds,lks) S'->Qv v H'):tL K cf a σ H Qv:=
 ⟨δ,ι,S,Q,hs,hh,w,fun v H' ⟨ds,lks,ι',S',x,r,hh',q⟩=>h ds lks v ι' H' S' x (hs.ext x) hh' r q⟩
end R
end
section
namespace R
open PySem PySem.Spec PyProof.Rows L2
variable [Mks]
section
variable {T:Tab} {cf:CF} {k:Nat} {N:List Str} {sc:Scope} {X:Cx} {pos:Pos}
theorem zfd {α:Type}{o:Out α}{Q:α->R.St->Prop}(h:W o Q):∃a S,o=.ok a S/\Q a S:=W.iff.mp h
theorem zaO {α:Type}{S:R.St}{o:Option α}{Q:α->R.St->Prop}(h:W (lift S o) Q):∃a,o=some a/\Q a S:=by
 cases o with
 |none=>exact h.elim
 |some a=>exact⟨a,rfl,h⟩
theorem zmo (G:Gd T cf k N sc X){i:Nat}{x:Str}(h1:N[i]?=some x)(h2:zjn sc x=true)(h3:(x == ("__debug__":Str))=false)(h4:(x == ("__classdict__":Str))=false):PE X (.Name x pos) (tE X.K cf (.loc i)):=by
 refine PE.imp (zmM (i:=i) (by rw[G.nm];exact h1) (G.vis h2) h3 h4) fun σ H Qv ⟨δ,ι,S,Q,hs,hh,w,q⟩=>?_
 simp only[evE] at w
 obtain⟨d,e,hq⟩:=zaO w
 have e':δ[i]?=some (some d):=by
  cases z:δ[i]? with
  |none=>rw[z] at e;cases e
  |some o=>rw[z] at e;simp at e;rw[e]
 obtain⟨v,ev,r⟩:=hs.2 i d e'
 exact⟨v,ev,q v H (Lf.of hh r hq)⟩
theorem zms {d:D}{c:Const}{j:Nat}(h:conB d c=true):PE X (.Constant c j pos) (tE X.K cf (.con d)):=by
 have key:∀{v:V},PE X (.Constant c j pos) (tC v)->(∀K ι H,RV K ι H d v)->PE X (.Constant c j pos) (tE X.K cf (.con d)):=fun {v} hp hr=>
  PE.imp hp fun σ H Qv ⟨δ,ι,S,Q,hs,hh,w,q⟩=>q v H (Lf.of hh (hr _ _ _) (by simpa[evE] using w))
 cases d<;>cases c<;>first
  |exact key zmQ fun _ _ _=>rfl
  |cases h
  |(simp only[conB,beq_iff_eq] at h;subst h;exact key zmS fun _ _ _=>rfl)
  |(simp only[conB,beq_iff_eq] at h;subst h;exact key zos fun _ _ _=>rfl)
  |(simp only[conB,beq_iff_eq] at h;subst h;exact key zmO fun _ _ _=>rfl)
theorem zkB (G:Gd T cf k N sc X){d d':D}{x:Str}(h1:isGl sc x=true)(h2:T.cons.lookup x=some d')(h3:eqC d' d=true)(h4:(x == ("__debug__":Str))=false):PE X (.Name x pos) (tE X.K cf (.con d)):=by
 have e:=znB h3
 subst e
 obtain⟨hsc,u,hu,r⟩:=G.tab.con x d' h2
 exact PE.imp (zfo (G.gl h1) hu r h4) fun σ H Qv ⟨δ,ι,S,Q,hs,hh,w,q⟩=>q (sV d') H (Lf.of hh (zog hsc) (by simpa[evE] using w))
theorem zmv {ca cb:CE}{a b:Expr}{op:Operator}(ha:PE X a (tE X.K cf ca))(hb:PE X b (tE X.K cf cb)):PE X (.BinOp a op b pos) (tE X.K cf (.bin op ca cb)):=by
 refine PE.imp (zop (znG op) ha hb) fun σ H Qv ⟨δ,ι,S,Q,hs,hh,w,q⟩=>?_
 simp only[evE,zac] at w
 refine tE.run hs hh w fun d v ι1 H1 S1 x1 hs1 hh1 r1 w1=>tE.run hs1 hh1 w1 fun e u ι2 H2 S2 x2 hs2 hh2 r2 w2=>?_
 exact⟨ι2,S2,d,e,Q,r1.ext x2,r2,hh2,w2,fun z H3 l=>q z H3 (Lf.up (x1.trans x2) l)⟩
theorem zmk {ca:CE}{a:Expr}(ha:PE X a (tE X.K cf ca)):PE X (.UnaryOp .USub a pos) (tE X.K cf (.neg ca)):=by
 refine PE.imp (zon zlW ha) fun σ H Qv ⟨δ,ι,S,Q,hs,hh,w,q⟩=>?_
 simp only[evE,zac] at w
 refine tE.run hs hh w fun d v ι1 H1 S1 x1 hs1 hh1 r1 w1=>?_
 cases d with
 | int i =>
   obtain rfl:v=.int i:=r1
   exact⟨i,rfl,q _ _ (Lf.up x1 (Lf.of (d:=.int (-i)) hh1 rfl w1))⟩
 |_=>exact w1.elim
theorem zob {ca:CE}{a:Expr}(ha:PE X a (tE X.K cf ca)):PE X (.UnaryOp .Not a pos) (tE X.K cf (.nt ca)):=by
 refine PE.imp (zmP ha) fun σ H Qv ⟨δ,ι,S,Q,hs,hh,w,q⟩=>?_
 simp only[evE,zac] at w
 refine tE.run hs hh w fun d v ι1 H1 S1 x1 hs1 hh1 r1 w1=>?_
 cases d with
 | bl i =>
   obtain rfl:v=.bl i:=r1
   exact⟨i,rfl,q _ _ (Lf.up x1 (Lf.of (d:=.bl (!i)) hh1 rfl w1))⟩
 |_=>exact w1.elim
theorem zmt (G:Gd T cf k N sc X){ca cb:CE}{a b:Expr}{op:CmpOp}(ha:PE X a (tE X.K cf ca))(hb:PE X b (tE X.K cf cb))(hm:zb7 b=true):PE X (.Compare a [op] [b] pos) (tE X.K cf (.cmp op ca cb)):=by
 refine PE.imp (zk2 (zj6 G.hu op) ha hb (zhM hm op)) fun σ H Qv ⟨δ,ι,S,Q,hs,hh,w,q⟩=>?_
 simp only[evE,zac] at w
 refine tE.run hs hh w fun d v ι1 H1 S1 x1 hs1 hh1 r1 w1=>tE.run hs1 hh1 w1 fun e u ι2 H2 S2 x2 hs2 hh2 r2 w2=>?_
 obtain⟨b,hb,w3⟩:=zaO w2
 exact⟨ι2,S2,d,e,b,r1.ext x2,r2,hh2,hb,q _ _ (Lf.up (x1.trans x2) (Lf.of (d:=.bl b) hh2 rfl w3))⟩
theorem zl8 (G:Gd T cf k N sc X){ca cb:CE}{a b:Expr}{op:CmpOp}(ha:PE X a (tE X.K cf ca))(hb:PE X b (tE X.K cf cb))(hm:zb7 b=true):PT X (.Compare a [op] [b] pos) (tT X.K cf (.cmp op ca cb)):=by
 refine PT.imp (zkP (zj6 G.hu op) ha hb (zhM hm op)) fun σ H Qv ⟨δ,ι,S,Q,hs,hh,w,q⟩=>?_
 simp only[evT,zac] at w
 refine tE.run hs hh w fun d v ι1 H1 S1 x1 hs1 hh1 r1 w1=>tE.run hs1 hh1 w1 fun e u ι2 H2 S2 x2 hs2 hh2 r2 w2=>?_
 obtain⟨b,hb,w3⟩:=zaO w2
 exact⟨ι2,S2,d,e,b,r1.ext x2,r2,hh2,hb,b,rfl,q _ _ ⟨ι2,S2,x1.trans x2,hh2,w3⟩⟩
theorem zjO {ca cb:CE}{a b:Expr}{rest:List Expr}(ha:PE X a (tE X.K cf ca))(hb:PE X (.BoolOp .And (b::rest) pos) (tE X.K cf cb)):PE X (.BoolOp .And (a::b::rest) pos) (tE X.K cf (.and ca cb)):=by
 refine PE.imp (zmX ha hb) fun σ H Qv ⟨δ,ι,S,Q,hs,hh,w,q⟩=>?_
 simp only[evE,zac] at w
 refine tE.run hs hh w fun d v ι1 H1 S1 x1 hs1 hh1 r1 w1=>?_
 cases d with
 | bl c =>
   obtain rfl:v=.bl c:=r1
   refine⟨c,rfl,?_⟩
   cases c with
   |false=>exact q _ _ (Lf.up x1 (Lf.of (d:=.bl false) hh1 rfl w1))
   |true=>exact⟨δ,ι1,S1,Q,hs1,hh1,w1,fun z H3 l=>q z H3 (Lf.up x1 l)⟩
 |_=>exact w1.elim
theorem zmj {ca cb:CE}{a b:Expr}{rest:List Expr}(ha:PE X a (tE X.K cf ca))(hb:PE X (.BoolOp .Or (b::rest) pos) (tE X.K cf cb)):PE X (.BoolOp .Or (a::b::rest) pos) (tE X.K cf (.or ca cb)):=by
 refine PE.imp (zoo ha hb) fun σ H Qv ⟨δ,ι,S,Q,hs,hh,w,q⟩=>?_
 simp only[evE,zac] at w
 refine tE.run hs hh w fun d v ι1 H1 S1 x1 hs1 hh1 r1 w1=>?_
 cases d with
 | bl c =>
   obtain rfl:v=.bl c:=r1
   refine⟨c,rfl,?_⟩
   cases c with
   |true=>exact q _ _ (Lf.up x1 (Lf.of (d:=.bl true) hh1 rfl w1))
   |false=>exact⟨δ,ι1,S1,Q,hs1,hh1,w1,fun z H3 l=>q z H3 (Lf.up x1 l)⟩
 |_=>exact w1.elim
theorem LfB.up {K:PySem.W.Frag}{ι ι':List Addr}{H H':Hp}{Q:Bool->R.St->Prop}{b:Bool}{H2:Hp}(x:Ext ι H ι' H')(h:LfB K ι' H' Q b H2):LfB K ι H Q b H2:=by
 obtain⟨ι2,S2,x2,r⟩:=h
 exact⟨ι2,S2,x.trans x2,r⟩
theorem zjK {ca cb:CE}{a b:Expr}{rest:List Expr}(ha:PT X a (tT X.K cf ca))(hb:PW X (.BoolOp .And (b::rest) pos) (tT X.K cf cb)):PW X (.BoolOp .And (a::b::rest) pos) (tT X.K cf (.and ca cb)):=by
 refine PW.imp (zmF ha hb) fun σ H Qv ⟨δ,ι,S,Q,hs,hh,w,q⟩=>?_
 simp only[evT,zac] at w
 refine tT.run hs hh w fun c ι1 H1 S1 x1 hs1 hh1 w1=>?_
 cases c with
 |false=>exact q _ _ ⟨ι1,S1,x1,hh1,w1⟩
 |true=>exact⟨δ,ι1,S1,Q,hs1,hh1,w1,fun z H3 l=>q z H3 (LfB.up x1 l)⟩
theorem zl7 {ca cb:CE}{a b:Expr}{rest:List Expr}(ha:PT X a (tT X.K cf ca))(hb:PW X (.BoolOp .Or (b::rest) pos) (tT X.K cf cb)):PW X (.BoolOp .Or (a::b::rest) pos) (tT X.K cf (.or ca cb)):=by
 refine PW.imp (zol ha hb) fun σ H Qv ⟨δ,ι,S,Q,hs,hh,w,q⟩=>?_
 simp only[evT,zac] at w
 refine tT.run hs hh w fun c ι1 H1 S1 x1 hs1 hh1 w1=>?_
 cases c with
 |true=>exact q _ _ ⟨ι1,S1,x1,hh1,w1⟩
 |false=>exact⟨δ,ι1,S1,Q,hs1,hh1,w1,fun z H3 l=>q z H3 (LfB.up x1 l)⟩
theorem zn8 {ca:CE}{a:Expr}(ha:PT X a (tT X.K cf ca)):PT X (.UnaryOp .Not a pos) (tT X.K cf (.nt ca)):=by
 refine PT.imp (zmG ha) fun σ H Qv ⟨δ,ι,S,Q,hs,hh,w,q⟩=>?_
 simp only[evT,zac] at w
 exact tT.run hs hh w fun c ι1 H1 S1 x1 hs1 hh1 w1=>q _ _ ⟨ι1,S1,x1,hh1,w1⟩
theorem zl0 {ι:List Addr}{H:Hp}{S:R.St}{d:D}{v:V}{b:Bool}(hh:RH X.K ι H S)(r:RV X.K ι H d v)(h:tru S d=some b):TruV X.K v H b:=by
 cases d with
 |non=>obtain rfl:v=.non:=r;cases h;rfl
 |bl c=>obtain rfl:v=.bl c:=r;cases h;rfl
 |int i=>obtain rfl:v=.int i:=r;cases h;rfl
 | tup ds =>
   obtain⟨a,xs,rfl,ha,rr⟩:=r
   cases h
   refine .inr (.inl ⟨xs,SqT.of ha,?_⟩)
   have:=rr.length
   cases ds<;>cases xs<;>first|rfl|simp at this
 | ref l =>
   simp only[tru] at h
   split at h
   · rename_i ds e
     cases h
     obtain⟨a,h1,rfl⟩:=r
     obtain⟨a2,h2,xs,ha,rr⟩:=hh.obj _ _ e
     rw[h1] at h2;cases h2
     refine .inl ⟨xs,SqL.of ha,?_⟩
     have:=rr.length
     cases ds<;>cases xs<;>first|rfl|simp at this
   · cases h
 |_=>cases h
theorem zl6 {ca:CE}{a:Expr}(ha:PE X a (tE X.K cf ca))(hp:zfX a=true):PT X a (tT X.K cf (.tst ca)):=by
 refine PT.imp (ziZ ha (zlZ hp X.env)) fun σ H Qv ⟨δ,ι,S,Q,hs,hh,w,q⟩=>?_
 simp only[evT,zac] at w
 refine tE.run hs hh w fun d v ι1 H1 S1 x1 hs1 hh1 r1 w1=>?_
 obtain⟨b,hb,w2⟩:=zaO w1
 exact⟨b,zl0 hh1 r1 hb,q _ _ ⟨ι1,S1,x1,hh1,w2⟩⟩
theorem zmp {cc ca cb:CE}{c a b:Expr}(hc:PT X c (tT X.K cf cc))(ha:PE X a (tE X.K cf ca))(hb:PE X b (tE X.K cf cb)):PE X (.IfExp c a b pos) (tE X.K cf (.ite cc ca cb)):=by
 refine PE.imp (zi9 hc ha hb) fun σ H Qv ⟨δ,ι,S,Q,hs,hh,w,q⟩=>?_
 simp only[evE,zac] at w
 refine tT.run hs hh w fun c ι1 H1 S1 x1 hs1 hh1 w1=>?_
 cases c with
 |true=>exact⟨δ,ι1,S1,Q,hs1,hh1,w1,fun z H3 l=>q z H3 (Lf.up x1 l)⟩
 |false=>exact⟨δ,ι1,S1,Q,hs1,hh1,w1,fun z H3 l=>q z H3 (Lf.up x1 l)⟩
theorem zjQ:PA X [] (tAs X.K cf .nil):=PA.imp zfY fun σ H Qv ⟨δ,ι,S,Q,hs,hh,w,q⟩=>q [] H ⟨[],ι,S,Ext.refl _ _,rfl,hh,by simpa[evEs] using w⟩
theorem zhl {ce:CE}{ces:CEs}{e:Expr}{es:List Expr}(he:PE X e (tE X.K cf ce))(hes:PA X es (tAs X.K cf ces))(hn:zaq e=true):PA X (e::es) (tAs X.K cf (.cons ce ces)):=by
 refine PA.imp (zce he hes (zat hn es X.env)) fun σ H Qv ⟨δ,ι,S,Q,hs,hh,w,q⟩=>?_
 simp only[evEs,zac] at w
 refine tE.run hs hh w fun d v ι1 H1 S1 x1 hs1 hh1 r1 w1=>tAs.run hs1 hh1 w1 fun ds vs ι2 H2 S2 x2 hs2 hh2 r2 w2=>?_
 exact q _ _ ⟨d::ds,ι2,S2,x1.trans x2,⟨v,vs,rfl,r1.ext x2,r2⟩,hh2,w2⟩
theorem zmh {ces:CEs}{es:List Expr}{j:Nat}(h:PA X es (tAs X.K cf ces)):PE X (.Tuple es j pos) (tE X.K cf (.tup ces)):=by
 refine PE.imp (zmN h) fun σ H Qv ⟨δ,ι,S,Q,hs,hh,w,q⟩=>?_
 simp only[evE,zac] at w
 refine tAs.run hs hh w fun ds vs ι1 H1 S1 x1 hs1 hh1 r1 w1=>?_
 split at w1
 · rename_i c
   exact⟨by rw[r1.length,sizeLine_eq];exact c,fun p hp=>q _ _ (Lf.up x1 (Lf.tup hh1 hp r1 w1))⟩
 · exact w1.elim
theorem zmn {ces:CEs}{es:List Expr}(h:PA X es (tAs X.K cf ces)):PE X (.List es pos) (tE X.K cf (.lst ces)):=by
 refine PE.imp (zmR h) fun σ H Qv ⟨δ,ι,S,Q,hs,hh,w,q⟩=>?_
 simp only[evE,zac] at w
 refine tAs.run hs hh w fun ds vs ι1 H1 S1 x1 hs1 hh1 r1 w1=>?_
 obtain⟨c,w2⟩:=zb9 w1
 exact⟨by rw[r1.length];exact c,fun p hp=>q _ _ (Lf.up x1 (Lf.lst hh1 hp r1 w2))⟩
theorem zkD:PE X (.Dict [] [] pos) (tE X.K cf .dnew):=by
 refine PE.imp zjb fun σ H Qv ⟨δ,ι,S,Q,hs,hh,w,q⟩=>?_
 simp only[evE] at w
 intro p hp
 exact q _ _ ⟨.ref S.len,ι++[p],S.push (.dic []),Ext.obj hh hp _,⟨p,hh.last p,rfl⟩,hh.obj' hp _ _ ⟨List.nodup_nil,[],zaw,rfl⟩,w⟩
theorem zoD {ι:List Addr}{H:Hp}{S:R.St}{d:D}{v:V}{ds:List D}{i:Int}{e:D}(hh:RH X.K ι H S)(r:RV X.K ι H d v)(hq:zcA S d=some ds)(ha:R.atI ds i=some e):∃u,rIx X.K v (.int i) H (fun z H'=>z=u/\H'=H)/\RV X.K ι H e u:=by
 obtain⟨a,xs,rfl,hx,rr⟩:=zjM hh hq r
 have hl:=rr.length
 have key:∃u,L2.atI xs i=some u/\RV X.K ι H e u:=by
  unfold R.atI at ha
  cases e1:R.ixN ds.length i with
  |none=>rw[e1] at ha;cases ha
  | some j =>
    rw[e1] at ha
    obtain⟨u,h1,h2⟩:=rr.get (show ds[j]?=some e from ha)
    refine⟨u,?_,h2⟩
    unfold L2.atI
    have:L2.ixN xs.length i=some j:=by rw[hl];exact e1
    rw[this];exact h1
 obtain⟨u,h1,h2⟩:=key
 refine⟨u,?_,h2⟩
 rcases hx with hx|hx
 · exact .inl ⟨a,xs,i,u,rfl,rfl,hx,h1,rfl,rfl⟩
 · exact .inr (.inl ⟨a,xs,i,u,rfl,rfl,hx,h1,rfl,rfl⟩)
theorem zkJ {K:PySem.W.Frag}{x y u:V}{H:Hp}{Q:VK}(h:rIx K x y H (fun z H'=>z=u/\H'=H))(q:Q u H):rIx K x y H Q:=by
 rcases h with ⟨p,xs,i,v,h1,h2,h3,h4,rfl,_⟩|⟨p,xs,i,v,h1,h2,h3,h4,rfl,_⟩|⟨z,i,c,h1,h2,h3,h4,h5,_⟩
 · exact .inl ⟨p,xs,i,v,h1,h2,h3,h4,q⟩
 · exact .inr (.inl ⟨p,xs,i,v,h1,h2,h3,h4,q⟩)
 · exact .inr (.inr ⟨z,i,c,h1,h2,h3,h4,by rw[h5];exact q⟩)
theorem zod {ca cb:CE}{a b:Expr}(ha:PE X a (tE X.K cf ca))(hb:PE X b (tE X.K cf cb))(hp:zea b=true):PE X (.Subscript a b pos) (tE X.K cf (.ix ca cb)):=by
 refine PE.imp (zoq znr ha hb (zoE hp)) fun σ H Qv ⟨δ,ι,S,Q,hs,hh,w,q⟩=>?_
 simp only[evE,zac] at w
 refine tE.run hs hh w fun d v ι1 H1 S1 x1 hs1 hh1 r1 w1=>tE.run hs1 hh1 w1 fun e u ι2 H2 S2 x2 hs2 hh2 r2 w2=>?_
 split at w2
 · rename_i ds i eq
   obtain⟨z,hz,w3⟩:=zaO w2
   obtain rfl:u=.int i:=r2
   obtain⟨u,h1,h2⟩:=zoD hh2 (r1.ext x2) eq hz
   exact zkJ h1 (q _ _ (Lf.up (x1.trans x2) (Lf.of hh2 h2 w3)))
 · exact w2.elim
end
end R
end
section
namespace R
open PySem PySem.Spec PyProof.Rows L2
variable [Mks]
section
variable {K:PySem.W.Frag} {ι ι':List Addr} {H H':Hp} {S T:R.St} {d:D} {v:V}
theorem zls {l:Nat}{o:MO}(hf:T.frz=S.frz++S.new)(h:S.get l=some o):T.get l=some o:=by
 obtain⟨f,n,k⟩:=T
 have hf:f=S.frz++S.new:=hf
 subst hf
 exact zdl h n k
theorem RH.cut (hh:RH K ι H S)(x:Ext ι H ι' H')(hT:RH K ι' H' T)(hf:T.frz=S.frz++S.new):RH K ι H' S:=by
 refine⟨hh.len,hh.nd,fun l o e=>?_,hT.tab⟩
 obtain⟨a,h1,h2⟩:=hh.obj l o e
 obtain⟨b,h3,h4⟩:=hT.obj l o (zls hf e)
 rw[zcG x.pre h1] at h3;cases h3
 refine⟨a,h1,?_⟩
 cases o with
 | lst ds =>
   obtain⟨xs,_,r1⟩:=h2
   obtain⟨ys,e2,r2⟩:=h4
   exact⟨ys,e2,r2.restrict x.pre r1.flats⟩
 | dic kvs =>
   obtain⟨_,ws,_,r1⟩:=h2
   obtain⟨nd,ys,e2,r2⟩:=h4
   exact⟨nd,ys,e2,r2.restrict x.pre r1.flats⟩
 | ins c fs =>
   obtain⟨_,_,ws,_,_,r1⟩:=h2
   obtain⟨C,dx,ys,e0,e2,r2⟩:=h4
   exact⟨C,dx,ys,e0,e2,r2.restrict x.pre r1.flats⟩
 | dtp kvs =>
   obtain⟨_,ws,_,r1⟩:=h2
   obtain⟨nd,ys,e2,r2⟩:=h4
   exact⟨nd,ys,e2,r2.restrict x.pre r1.flats⟩
theorem Ext.cut (x:Ext ι H ι' H'):Ext ι H ι H':=⟨List.prefix_refl _,x.kp,fun a o h e=>⟨(x.rest a o h e).1,h⟩⟩
theorem zkV {l:Nat}{a:Addr}(hp:ι <+: ι')(nd:ι'.Nodup)(hl:ι'[l]?=some a)(h:ι.length<=l):a∉ι:=fun hm=>by
 obtain⟨t,rfl⟩:=hp
 rw[List.getElem?_append_right h] at hl
 have h2:=List.mem_of_getElem? hl
 exact (List.nodup_append.mp nd).2.2 a hm a h2 rfl
theorem zfy {l:Nat}{a:Addr}(x:Ext ι H ι' H')(nd:ι'.Nodup)(hl:ι'[l]?=some a)(h:ι.length<=l):Ext ι H (ι++[a]) H':=by
 refine⟨List.prefix_append _ _,x.kp,fun b o hb e=>⟨(x.rest b o hb e).1,fun z=>?_⟩⟩
 rcases List.mem_append.mp z with z|z
 · exact hb z
 · simp at z
   subst z
   exact (x.rest b o hb e).2 (List.mem_of_getElem? hl)
theorem RH.one {l:Nat}{a:Addr}{o:MO}(hh:RH K ι H' S)(nd:a∉ι)(ho:RO K (ι++[a]) H' a o):RH K (ι++[a]) H' (S.push o):=by
 refine⟨by rw[List.length_append,hh.len,zcU];rfl,?_,fun l o' e=>?_,hh.tab⟩
 · rw[List.nodup_append]
   refine⟨hh.nd,by simp,fun b hb c hc=>?_⟩
   simp at hc;subst hc
   exact fun z=>nd (z▸hb)
 · by_cases hl:l<S.len
   · rw[zdk hl] at e
     obtain⟨b,h1,h2⟩:=hh.obj l o' e
     exact⟨b,zcG (List.prefix_append _ _) h1,h2.up (List.prefix_append _ _) (Kp.refl _) rfl⟩
   · have hl2:=zbe e
     rw[zcU] at hl2
     have:l=S.len:=by omega
     subst this
     rw[zgd] at e;cases e
     exact⟨a,by rw[<-hh.len];simp,ho⟩
theorem RH.keep (hT:RH K ι' H' T)(hf:T.frz=S.frz++S.new):RH K ι' H' ⟨S.frz,S.new++T.new,S.lk⟩:=by
 have hg:∀l,(R.St.mk S.frz (S.new++T.new) S.lk).get l=T.get l:=fun l=>by
  unfold St.get
  rw[hf]
  simp only[List.length_append]
  by_cases h1:l<S.frz.length
  · rw[if_pos h1,if_pos (by omega),List.getElem?_append_left h1]
  · by_cases h2:l<S.frz.length+S.new.length
    · rw[if_neg h1,if_pos h2,List.getElem?_append_left (by omega),List.getElem?_append_right (by omega)]
    · rw[if_neg h1,if_neg h2,List.getElem?_append_right (by omega)]
      congr 1;omega
 refine⟨?_,hT.nd,fun l o e=>hT.obj l o (by rw[<-hg];exact e),hT.tab⟩
 rw[hT.len]
 unfold St.len
 rw[hf]
 simp only[List.length_append]
 omega
theorem zf9 {Q:D->R.St->Prop}(hh:RH K ι H S)(x:Ext ι H ι' H')(r:RV K ι' H' d v)(hT:RH K ι' H' T)(hf:T.frz=S.frz++S.new)(w:W (zcS S d T) Q):Lf K ι H Q v H':=by
 have hc:=hh.cut x hT hf
 unfold zcS at w
 split at w
 · rename_i c
   rw[<-hh.len] at c
   exact⟨d,ι,S,x.cut,r.restrict x.pre c,hc,w⟩
 · rename_i c
   dsimp only at w
   split at w
   · rename_i l
     obtain⟨a,h1,rfl⟩:=id r
     have hl:ι.length<=l:=by
      simp only[R.flat,decide_eq_true_eq] at c
      rw[hh.len];omega
     have ha:=zkV x.pre hT.nd h1 hl
     split at w
     · rename_i ds e
       obtain⟨b,h2,h3⟩:=hT.obj l _ e
       rw[h1] at h2;cases h2
       split at w
       · rename_i c2
         rw[<-hh.len] at c2
         obtain⟨ys,e2,r2⟩:=h3
         refine⟨.ref S.len,ι++[a],S.push (.lst ds),zfy x hT.nd h1 hl,⟨a,by rw[<-hh.len];simp,rfl⟩,hc.one (l:=l) ha ⟨ys,e2,(r2.restrict x.pre c2).up (List.prefix_append _ _) (Kp.refl _)⟩,w⟩
       · exact⟨_,ι',_,x,r,hT.keep hf,w⟩
     · rename_i kvs e
       obtain⟨b,h2,h3⟩:=hT.obj l _ e
       rw[h1] at h2;cases h2
       split at w
       · rename_i c2
         rw[<-hh.len] at c2
         obtain⟨nd,ys,e2,r2⟩:=h3
         refine⟨.ref S.len,ι++[a],S.push (.dic kvs),zfy x hT.nd h1 hl,⟨a,by rw[<-hh.len];simp,rfl⟩,hc.one (l:=l) ha ⟨nd,ys,e2,(r2.restrict x.pre c2).up (List.prefix_append _ _) (Kp.refl _)⟩,w⟩
       · exact⟨_,ι',_,x,r,hT.keep hf,w⟩
     · rename_i kvs e
       obtain⟨b,h2,h3⟩:=hT.obj l _ e
       rw[h1] at h2;cases h2
       split at w
       · rename_i c2
         rw[<-hh.len] at c2
         obtain⟨nd,ys,e2,r2⟩:=h3
         refine⟨.ref S.len,ι++[a],S.push (.dtp kvs),zfy x hT.nd h1 hl,⟨a,by rw[<-hh.len];simp,rfl⟩,hc.one (l:=l) ha ⟨nd,ys,e2,(r2.restrict x.pre c2).up (List.prefix_append _ _) (Kp.refl _)⟩,w⟩
       · exact⟨_,ι',_,x,r,hT.keep hf,w⟩
     · exact⟨_,ι',_,x,r,hT.keep hf,w⟩
   · exact⟨_,ι',_,x,r,hT.keep hf,w⟩
end
section
variable {T:Tab} {cf:CF} {k:Nat} {N:List Str} {sc:Scope} {X:Cx} {pos p:Pos}
theorem RVs.nons {K:PySem.W.Frag}{ι:List Addr}{H:Hp}:∀j:Nat,RVs K ι H (List.replicate j .non) (List.replicate j .non)
 |0=>rfl
 |j+1=>⟨.non,List.replicate j .non,rfl,rfl,RVs.nons j⟩
theorem RH.enter {K:PySem.W.Frag}{ι:List Addr}{H:Hp}{S:R.St}(h:RH K ι H S):RH K ι H S.enter:=⟨by rw[zii];exact h.len,h.nd,fun l o e=>h.obj l o (by rw[zdm] at e;exact e),h.tab⟩
theorem zix {f j:Nat}{ces:CEs}{σ:L2.St}{H:Hp}{Qv:VK}(hfr:CFok cf)(h:tE X.K cf (.call f j ces) σ H Qv) :
  zd4 (spF X.K cf f) (List.replicate j .non) E0 (tAs X.K cf ces) σ H Qv:=by
 obtain⟨δ,ι,S,Q,hs,hh,w,q⟩:=h
 simp only[evE,zac] at w
 refine tAs.run hs hh w fun ds vs ι1 H1 S1 x1 hs1 hh1 r1 w1=>?_
 unfold app at w1
 rw[zac] at w1
 refine⟨ι1,S1.enter,ds++List.replicate j .non,r1.append (RVs.nons j),hh1.enter,?_⟩
 obtain⟨d,T',e,w2⟩:=zfd w1
 rw[e]
 exact fun v H' ι' x r hT=>q v H' (Lf.up x1 (zf9 hh1 x r hT (hfr _ _ _ _ _ e).frz w2))
theorem ziy {K:PySem.W.Frag}{ι ι1:List Addr}{H H1:Hp}{S1:R.St}{a:Addr}(hh:RH K ι1 H1 S1)(x:Ext ι H ι1 H1)(hn:H1 a=none):H a=none:=by
 cases e:H a with
 |none=>rfl
 | some o =>
   by_cases hm:a∈ι
   · have h2:a∈ι1:=by obtain⟨t,rfl⟩:=x.pre;exact List.mem_append_left _ hm
     exact absurd h2 (hh.fresh hn)
   · have:=(x.rest a o hm e).1
     rw[hn] at this
     rcases this with z|⟨_,_,z⟩<;>cases z
theorem zkF (G:Gd T cf k N sc X){f j:Nat}{x:Str}{ps:List Str}{nd:Nat}{ces:CEs}{e:Expr}{es:List Expr}(hf:T.fns[f]?=some (x,ps,nd))(hj:j<=nd)(hg:isGl sc x=true)(hd:(x == ("__debug__":Str))=false)(ha:PA X (e::es) (tAs X.K cf ces))(hst:(e::es).all zaq=true) :
  PE X (.Call (.Name x p) (e::es) [] pos) (tE X.K cf (.call f j ces)):=by
 have Hs:=G.tab.fns f x ps nd hf j hj
 rw[List.all_cons,Bool.and_eq_true] at hst
 exact PE.imp (zmU Hs G.room ha (G.gl hg) hd (zat hst.1 es X.env) (za4 hst.2)) fun σ H Qv h=>zix G.tab.frm h
theorem ziS (G:Gd T cf k N sc X){f j:Nat}{x:Str}{ps:List Str}{nd:Nat}(hf:T.fns[f]?=some (x,ps,nd))(hj:j<=nd)(hg:isGl sc x=true)(hd:(x == ("__debug__":Str))=false) :
  PE X (.Call (.Name x p) [] [] pos) (tE X.K cf (.call f j .nil)):=by
 have Hs:=G.tab.fns f x ps nd hf j hj
 refine PE.imp (zmT Hs G.room (G.gl hg) hd) fun σ H Qv ⟨δ,ι,S,Q,hs,hh,w,q⟩=>?_
 simp only[evE,evEs,zbf] at w
 unfold app at w
 rw[zac] at w
 obtain⟨d,T',e,w2⟩:=zfd w
 refine⟨ι,S.enter,[]++List.replicate j .non,RVs.append rfl (RVs.nons j),hh.enter,?_⟩
 rw[e]
 exact fun v H' ι' x r hT=>q v H' (zf9 hh x r hT (G.tab.frm _ _ _ _ _ e).frz w2)
theorem zgY {f j:Nat}{ces:CEs}{σ:L2.St}{H:Hp}{Qv:VK}(h:tE X.K cf (.callW f j ces) σ H Qv) :
  zd4 (spF X.K cf f) (List.replicate j .non) E0 (tAs X.K cf ces) σ H Qv:=by
 obtain⟨δ,ι,S,Q,hs,hh,w,q⟩:=h
 simp only[evE,zac] at w
 refine tAs.run hs hh w fun ds vs ι1 H1 S1 x1 hs1 hh1 r1 w1=>?_
 unfold appW at w1
 refine⟨ι1,S1,ds++List.replicate j .non,r1.append (RVs.nons j),hh1,?_⟩
 obtain⟨d,T',e,w2⟩:=zfd w1
 rw[e]
 exact fun v H' ι' x r hT=>q v H' (Lf.up x1 ⟨d,ι',T',x,r,hT,w2⟩)
theorem ziQ (G:Gd T cf k N sc X){f j:Nat}{x:Str}{ps:List Str}{nd:Nat}{ces:CEs}{e:Expr}{es:List Expr}(hf:T.fns[f]?=some (x,ps,nd))(hj:j<=nd)(hg:isGl sc x=true)(hd:(x == ("__debug__":Str))=false)(ha:PA X (e::es) (tAs X.K cf ces))(hst:(e::es).all zaq=true) :
  PE X (.Call (.Name x p) (e::es) [] pos) (tE X.K cf (.callW f j ces)):=by
 have Hs:=G.tab.fns f x ps nd hf j hj
 rw[List.all_cons,Bool.and_eq_true] at hst
 exact PE.imp (zmU Hs G.room ha (G.gl hg) hd (zat hst.1 es X.env) (za4 hst.2)) fun σ H Qv h=>zgY h
end
end R
end
section
namespace R
open PySem PySem.Spec PyProof.Rows L2
variable [Mks]
section
variable {T:Tab} {cf:CF} {k:Nat} {N:List Str} {sc:Scope} {X:Cx} {pos p:Pos}
theorem zdj {S:R.St}{d:D}{c:Nat}{fs:List (Str × D)}(h:zbs S d=some (c,fs)):∃l,d=.ref l/\S.get l=some (.ins c fs):=by
 cases d with
 | ref l =>
   refine⟨l,rfl,?_⟩
   unfold zbs at h
   dsimp only at h
   cases e:S.get l with
   |none=>rw[e] at h;cases h
   | some o =>
     rw[e] at h
     cases o with
     |ins c' fs'=>cases h;rfl
     |_=>cases h
 |_=>cases h
theorem ne_of {α:Type}[BEq α]{xs:List α}{a:α}(h:xs.contains a=true):xs≠[]:=fun e=>by rw[e] at h;simp at h
theorem Gd.clsAt (G:Gd T cf k N sc X)(h0:T.flds≠[]\/T.inits≠[]\/T.isas≠[]){c:Nat}{C:Addr}(h:Mks.cl[c]?=some C):∃x,T.cls[c]?=some x/\Cls X.K C/\X.mg x=some (.ref C)/\∀f,T.flds.contains f=true->NoAttr X.K C f:=by
 have hl:c<T.cls.length:=Nat.lt_of_lt_of_le (List.getElem?_eq_some_iff.mp h).1 (G.tab.cln h0)
 obtain⟨C',h1,h2,h3,h4⟩:=G.tab.cls c T.cls[c] (List.getElem?_eq_getElem hl)
 rw[h] at h1;cases h1
 exact⟨_,List.getElem?_eq_getElem hl,h2,h3,h4⟩
theorem zmr (G:Gd T cf k N sc X){ca:CE}{a:Expr}{f:Str}(ha:PE X a (tE X.K cf ca))(hsup:zbR a=true)(hf:T.flds.contains f=true):PE X (.Attribute a f pos) (tE X.K cf (.fld ca f)):=by
 refine PE.imp (zmV ha (zdH hsup f X.env _)) fun σ H Qv ⟨δ,ι,S,Q,hs,hh,w,q⟩=>?_
 simp only[evE,zac] at w
 refine tE.run hs hh w fun d v ι1 H1 S1 x1 hs1 hh1 r1 w1=>?_
 obtain⟨u,eu,w2⟩:=zaO w1
 cases ei:zbs S1 d with
 |none=>rw[ei] at eu;cases eu
 | some pr =>
   obtain⟨c,fs⟩:=pr
   rw[ei] at eu
   have eu:fs.lookup f=some u:=eu
   obtain⟨l,rfl,hl⟩:=zdj ei
   obtain⟨b,i1,rfl⟩:=r1
   obtain⟨b',i2,C,dx,ws,hC,hb,rf⟩:=hh1.obj l _ hl
   rw[i1] at i2;cases i2
   obtain⟨_,_,cl,_,na⟩:=G.clsAt (.inl (ne_of hf)) hC
   rcases rf.look f with ⟨e1,_⟩|⟨d',v',e1,e2,rv⟩
   · rw[eu] at e1;cases e1
   · rw[eu] at e1;cases e1
     exact⟨b,C,dx,ws,v',rfl,hb,cl,na f hf,e2,q _ _ (Lf.up x1 (Lf.of hh1 rv w2))⟩
theorem zed {prog:Program}{w:World}{A:Around}{E:Value->Shared->Prop}{s:Shared}{env:Env}{o:Expr}{name:Str}{apos pos:Pos}{args:List Expr}{Q:Value->Shared->Prop}
  (hbase:attributeBase o name env (eval o env)=eval o env)
  (hfew:((backTo pos (starEach args env)).all (fun x=>!x.1)&&(backToKw pos (keywordEach [] env)).all (fun x=>x.1.isSome)
   && decide (args.length+([]:List Keyword).length+(if ([]:List Keyword).isEmpty then 0 else 1)<30))=true)
  (hline:(apos.endLine == pos.line)=true)
  (h:wpAny (model prog w) A (eval o env) (fun ov s₁=>∀pl,wpAny (model prog w) A (getMethod ov name pl) (fun fx s₂=>wpAny (model prog w) A (callWith pos fx.1 fx.2 (backTo pos (starEach args env)) (backToKw pos (keywordEach [] env))) Q E s₂) E s₁) E s) :
  wpAny (model prog w) A (eval (.Call (.Attribute o name apos) args [] pos) env) Q E s:=by
 rw[arm_eval_Call,hbase]
 refine wpAny_bind (wpAny_mono h (fun ov s₁ h₁=>?_) fun _ _ e=>e)
 refine wpAny_bind (wpAny_standAt ?_)
 have hform:methodCallForm (args.length+([]:List Keyword).length) (backTo pos (starEach args env)) (backToKw pos (keywordEach [] env))=true:=hfew
 have hpos:methodCallPos true o env apos pos=pure pos:=by unfold methodCallPos;simp[hline]
 unfold methodCall
 rw[hform]
 refine wpAny_bind (wpAny_holding (wpAny_mono (h₁ _) (fun fx s₂ h₂=>?_) fun _ _ e=>e))
 obtain⟨f,first⟩:=fx
 exact wpAny_bind (wpAny_of_eq hpos h₂)
noncomputable def zhf (X:Cx)(k:Nat)(m:Str)(ta:TE)(t:TA):TE:=fun σ H Q=>ta σ H fun x H1=>∃(a C dx:Addr) (fs:List (Str × V)) (fa:Addr) (fd:FuncData) (ps:List Str) (sp:Sp),x=.ref a/\H1 a=some (.ins C dx fs)/\Cls X.K C/\Meth X.K C m fa/\
 FnOk X.prog X.w X.K X.mg X.base CX0 k fa fd ps sp/\Binds X.K fd ps []/\fs.lookup m=none/\t σ H1 fun vs H2=>sp (x::vs) H2 Q E0
theorem zi6 {o e:Expr}{es:List Expr}{m:Str}{ta:TE}{t:TA}{apos:Pos}(he:PE X o ta)(hr:Room k X.A)(ha:PA X (e::es) t)
  (hbase:attributeBase o m X.env (eval o X.env)=eval o X.env)
  (hfew:((backTo pos (starEach (e::es) X.env)).all (fun x=>!x.1)&&(backToKw pos (keywordEach [] X.env)).all (fun x=>x.1.isSome)
   && decide ((e::es).length+([]:List Keyword).length+(if ([]:List Keyword).isEmpty then 0 else 1)<30))=true)
  (hline:(apos.endLine == pos.line)=true) (hst:starEach (e::es) X.env=(false,eval e X.env)::starEach es X.env) (hpl:(backTo pos (starEach es X.env)).any (·.1)=false) :
  PE X (.Call (.Attribute o m apos) (e::es) [] pos) (zhf X k m ta t):=by
 intro pins s σ H Q I h
 refine zed hbase hfew hline (thn (he pins s σ H _ I h) fun u s1 ⟨x,H1,I1,rx,a,C,dx,fs,fa,fd,ps,sp,ex,ea,c,hm,F,hb,l,q⟩ pl=>?_)
 subst ex
 obtain rfl:u=Value.ref a:=rx
 refine zdR I1 ea c hm l ?_
 refine PySem.W.callWith_K (first:=[.ref a]) (h₀:=X.base) I.ok.mod.kin hm.kp (thn (ha pos pins s1 σ H1 _ I1 q) fun us s2 ⟨vs,H2,I2,r,q2⟩=>⟨I2.kIn,?_⟩) hst hpl
 exact zeI (us:=.ref a::us) (vs:=.ref a::vs) F hr hb .nil zfp I2 (.cons rfl r) (by rw[List.append_nil];exact q2)
theorem zhF {o:Expr}{m:Str}{ta:TE}{apos:Pos}(he:PE X o ta)(hr:Room k X.A)(hbase:attributeBase o m X.env (eval o X.env)=eval o X.env)(hline:(apos.endLine == pos.line)=true) :
  PE X (.Call (.Attribute o m apos) [] [] pos) (zhf X k m ta tNil):=by
 intro pins s σ H Q I h
 refine zed hbase rfl hline (thn (he pins s σ H _ I h) fun u s1 ⟨x,H1,I1,rx,a,C,dx,fs,fa,fd,ps,sp,ex,ea,c,hm,F,hb,l,q⟩ pl=>?_)
 subst ex
 obtain rfl:u=Value.ref a:=rx
 refine zdR I1 ea c hm l ?_
 exact PySem.W.callWith_K0 (first:=[.ref a]) I1.kIn hm.kp (zeI (us:=[.ref a]) (vs:=[.ref a]) F hr hb .nil zfp I1 (.cons rfl .nil) (by rw[List.append_nil];exact q))
noncomputable def mtB (T:Tab)(m:Str)(tb:List (Nat × Nat)):Bool:=tb.all fun p=>T.mts.contains (p.1,m,p.2)
theorem zgM {tb:List (Nat × Nat)}{c f:Nat}(h:tb.lookup c=some f):(c,f)∈tb:=by
 induction tb with
 |nil=>cases h
 | cons p r ih =>
   obtain⟨c',f'⟩:=p
   simp only[List.lookup] at h
   split at h
   · rename_i e
     cases h
     have:=eq_of_beq e
     subst this
     simp
   · exact List.mem_cons_of_mem _ (ih h)
theorem zf2 (G:Gd T cf k N sc X){m:Str}{tb:List (Nat × Nat)}{co:CE}{ces:CEs}{σ:L2.St}{H:Hp}{Qv:VK}{t:TA}(hm:mtB T m tb=true)(ht:∀{σ:L2.St} {H:Hp} {Qa:List V->Hp->Prop},tAs X.K cf ces σ H Qa->t σ H Qa)(h:tE X.K cf (.meth m tb co ces) σ H Qv):zhf X k m (tE X.K cf co) t σ H Qv:=by
 obtain⟨δ,ι,S,Q,hs,hh,w,q⟩:=h
 simp only[evE,zac] at w
 refine tE.run hs hh w fun d v ι1 H1 S1 x1 hs1 hh1 r1 w1=>?_
 obtain⟨pr,ei,w2⟩:=zaO w1
 obtain⟨c,fs⟩:=pr
 obtain⟨f,ef,w3⟩:=zaO w2
 split at w3
 · rename_i hn
   rw[zac] at w3
   obtain⟨l,rfl,hl⟩:=zdj ei
   have r1':=r1
   obtain⟨b,i1,rfl⟩:=r1
   obtain⟨b',i2,C,dx,ws,hC,hb,rf⟩:=hh1.obj l _ hl
   rw[i1] at i2;cases i2
   have hmt:=List.all_eq_true.mp hm (c,f) (zgM ef)
   obtain⟨C',fa,fd,ps,hC',cl,me,F,bi⟩:=(G.tab.mth c m f hmt).ex
   rw[hC] at hC';cases hC'
   have hlk:ws.lookup m=none:=by
    rcases rf.look m with ⟨_,e2⟩|⟨d',v',e1,_,_⟩
    · exact e2
    · dsimp only at hn;rw[e1] at hn;cases hn
   refine⟨b,C,dx,ws,fa,fd,ps,_,rfl,hb,cl,me,F,bi,hlk,ht ?_⟩
   refine tAs.run hs1 hh1 w3 fun ds vs ι2 H2 S2 x2 hs2 hh2 r2 w4=>?_
   unfold appW at w4
   refine⟨ι2,S2,.ref l::ds,⟨.ref b,vs,rfl,r1'.ext x2,r2⟩,hh2,?_⟩
   obtain⟨d,T',e,w5⟩:=zfd w4
   rw[e]
   exact fun v H' ι' x r hT=>q v H' (Lf.up (x1.trans x2) ⟨d,ι',T',x,r,hT,w5⟩)
 · exact w3.elim
theorem zkz (G:Gd T cf k N sc X){m:Str}{tb:List (Nat × Nat)}{co:CE}{ces:CEs}{o e:Expr}{es:List Expr}{apos:Pos}(hm:mtB T m tb=true)(ho:PE X o (tE X.K cf co))(ha:PA X (e::es) (tAs X.K cf ces))(hst:(e::es).all zaq=true)(hsup:zbR o=true)(hl:(apos.endLine == pos.line)=true)(hn:(e::es).length<29) :
  PE X (.Call (.Attribute o m apos) (e::es) [] pos) (tE X.K cf (.meth m tb co ces)):=by
 have hs:=hst
 rw[List.all_cons,Bool.and_eq_true] at hst
 refine PE.imp (zi6 ho G.room ha (zdH hsup m X.env _) ?_ hl (zat hst.1 es X.env) (za4 hst.2)) fun σ H Qv h=>zf2 G hm (fun z=>z) h
 have h0:=za4 (pos:=pos) (env:=X.env) hs
 have h1:(backTo pos (starEach (e::es) X.env)).all (fun x=>!x.1)=true:=by
  rw[List.all_eq_true]
  intro x hx
  have:=List.any_eq_false.mp h0 x hx
  simpa using this
 have h2:decide ((e::es).length+([]:List Keyword).length+(if ([]:List Keyword).isEmpty then 0 else 1)<30)=true:=by
  rw[decide_eq_true_eq]
  show (e::es).length+0+0<30
  omega
 rw[h1,h2]
 rfl
theorem zf1 {ces:CEs}{σ:L2.St}{H:Hp}{Qa:List V->Hp->Prop}(hc:ces=.nil)(h:tAs X.K cf ces σ H Qa):tNil σ H Qa:=by
 subst hc
 obtain⟨δ,ι,S,Q,hs,hh,w,q⟩:=h
 exact q [] H ⟨[],ι,S,Ext.refl _ _,rfl,hh,by simpa[evEs] using w⟩
theorem ziO (G:Gd T cf k N sc X){m:Str}{tb:List (Nat × Nat)}{co:CE}{o:Expr}{apos:Pos}(hm:mtB T m tb=true)(ho:PE X o (tE X.K cf co))(hsup:zbR o=true)(hl:(apos.endLine == pos.line)=true) :
  PE X (.Call (.Attribute o m apos) [] [] pos) (tE X.K cf (.meth m tb co .nil)):=
 PE.imp (zhF ho G.room (zdH hsup m X.env _) hl) fun σ H Qv h=>zf2 G hm (fun z=>zf1 rfl z) h
theorem Vals.nons:∀j:Nat,Vals (List.replicate j .non) (List.replicate j Value.none)
 |0=>.nil
 |j+1=>.cons rfl (Vals.nons j)
theorem zf4 (G:Gd T cf k N sc X){c f j:Nat}{C:Addr}{x:Str}{ces:CEs}{σ:L2.St}{H:Hp}{Qv:VK}{t:TA}(hC:Mks.cl[c]?=some C)(ht:∀{σ:L2.St} {H:Hp} {Qa:List V->Hp->Prop},tAs X.K cf ces σ H Qa->t σ H Qa)(h:tE X.K cf (.mk c f x j ces) σ H Qv):zki C (spF X.K cf f) (List.replicate j V.non) E0 t σ H Qv:=by
 obtain⟨δ,ι,S,Q,hs,hh,w,q⟩:=h
 simp only[evE,zac] at w
 refine ht (tAs.run hs hh w fun ds vs ι1 H1 S1 x1 hs1 hh1 r1 w1=>?_)
 intro y dy hy hdy hne
 have hh2:=hh1.new hdy (.own y)
 have x2:Ext ι1 H1 ι1 (upd H1 dy (.own y)):=Ext.new hdy _
 have hy2:(upd H1 dy (.own y)) y=none:=by rw[zap (Ne.symm hne)];exact hy
 have hh3:=hh2.obj' hy2 (.ins C dy []) (.ins c []) ⟨C,dy,[],hC,zaw,rfl⟩
 have x3:Ext ι1 (upd H1 dy (.own y)) (ι1++[y]) (upd (upd H1 dy (.own y)) y (.ins C dy [])):=Ext.obj hh2 hy2 _
 unfold appW at w1
 obtain⟨d,T',e,w2⟩:=zfd w1
 refine⟨ι1++[y],S1.push (.ins c []),.ref S1.len::(ds++List.replicate j .non),⟨.ref y,_,rfl,⟨y,hh2.last y,rfl⟩,RVs.append ((r1.ext x2).ext x3) (RVs.nons j)⟩,hh3,?_⟩
 rw[e]
 intro v H' ι' x' r hT
 split at w2
 · rename_i hn
   cases d with
   | non =>
     refine⟨r,q _ _ ⟨.ref S1.len,ι',T',((x1.trans x2).trans x3).trans x',⟨y,zcG x'.pre (hh2.last y),rfl⟩,hT,w2⟩⟩
   |_=>cases hn
 · exact w2.elim
theorem zoc (G:Gd T cf k N sc X){c f j:Nat}{x:Str}{ces:CEs}{e:Expr}{es:List Expr}(hi:T.inits.contains (c,f,j)=true)(hx:T.cls[c]?=some x)(hg:isGl sc x=true)(hd:(x == ("__debug__":Str))=false)(ha:PA X (e::es) (tAs X.K cf ces))(hst:(e::es).all zaq=true) :
  PE X (.Call (.Name x p) (e::es) [] pos) (tE X.K cf (.mk c f x j ces)):=by
 obtain⟨C,fa,fd,ps,hC,M,F,hb⟩:=(G.tab.ini c f j hi).ex
 obtain⟨x',e1,_,hm,_⟩:=G.clsAt (.inr (.inl (ne_of hi))) hC
 rw[hx] at e1;cases e1
 rw[List.all_cons,Bool.and_eq_true] at hst
 exact PE.imp (zk0 M F G.room' (G.gl hg) hm hb (Vals.nons j) zfp ha hd (zat hst.1 es X.env) (za4 hst.2)) fun σ H Qv h=>zf4 G hC (fun z=>z) h
theorem zmm (G:Gd T cf k N sc X){c f j:Nat}{x:Str}(hi:T.inits.contains (c,f,j)=true)(hx:T.cls[c]?=some x)(hg:isGl sc x=true)(hd:(x == ("__debug__":Str))=false) :
  PE X (.Call (.Name x p) [] [] pos) (tE X.K cf (.mk c f x j .nil)):=by
 obtain⟨C,fa,fd,ps,hC,M,F,hb⟩:=(G.tab.ini c f j hi).ex
 obtain⟨x',e1,_,hm,_⟩:=G.clsAt (.inr (.inl (ne_of hi))) hC
 rw[hx] at e1;cases e1
 exact PE.imp (zi7 M F G.room' (G.gl hg) hm hb (Vals.nons j) zfp hd) fun σ H Qv h=>zf4 G hC (fun z=>zf1 rfl z) h
theorem znA {e:Expr}{es:List Expr}{env:Env}(hs:(e::es).all zaq=true)(hn:(e::es).length<29):((backTo pos (starEach (e::es) env)).all (fun x=>!x.1)&&(backToKw pos (keywordEach [] env)).all (fun x=>x.1.isSome)
  && decide ((e::es).length+([]:List Keyword).length+(if ([]:List Keyword).isEmpty then 0 else 1)<30))=true:=by
 have h0:=za4 (pos:=pos) (env:=env) hs
 have h1:(backTo pos (starEach (e::es) env)).all (fun x=>!x.1)=true:=by
  rw[List.all_eq_true]
  intro x hx
  have:=List.any_eq_false.mp h0 x hx
  simpa using this
 have h2:decide ((e::es).length+([]:List Keyword).length+(if ([]:List Keyword).isEmpty then 0 else 1)<30)=true:=by
  rw[decide_eq_true_eq]
  show (e::es).length+0+0<30
  omega
 rw[h1,h2]
 rfl
theorem zjc {x m:Str}{sp:Sp}{e:Expr}{es:List Expr}{t:TA}{apos:Pos}(Hs:HasC X.prog X.w X.K X.mg X.base k x m sp)(hr:Room k X.A)(ha:PA X (e::es) t)(hg:Gl X x)(hdb:(x == ("__debug__":Str))=false)
  (hbase:attributeBase (.Name x p) m X.env (eval (.Name x p) X.env)=eval (.Name x p) X.env) (hst:(e::es).all zaq=true) (hn:(e::es).length<29) (hline:(apos.endLine == pos.line)=true) :
  PE X (.Call (.Attribute (.Name x p) m apos) (e::es) [] pos) (zd4 sp [] E0 t):=by
 obtain⟨C,fa,fd,ps,mc,hm,h1,h2,h3,h4,F,hb⟩:=Hs.ex
 have hst2:=hst
 rw[List.all_cons,Bool.and_eq_true] at hst2
 intro pins s σ H Q I h
 refine zed hbase (znA hst hn) hline (thn (zfo (v:=.ref C) hg hm rfl hdb pins s σ H (fun v H1=>v=.ref C/\zd4 sp [] E0 t σ H1 Q) I ⟨rfl,h⟩) fun u s1 ⟨xv,H1,I1,rx,ex,q⟩ pl=>?_)
 subst ex
 obtain rfl:u=Value.ref C:=rx
 refine PySem.W.method_cls I1.kIn h1 (PySem.W.cls_value I1.kIn h2 h3 rfl ?_)
 refine PySem.W.callWith_K (first:=[]) (h₀:=X.base) I.ok.mod.kin h4 (thn (ha pos pins _ σ H1 _ (I1.tok _) q) fun us s2 ⟨vs,H2,I2,r,q2⟩=>⟨I2.kIn,?_⟩) (zat hst2.1 es X.env) (za4 hst2.2)
 exact zeI (us:=us) (vs:=vs) F hr hb .nil zfp I2 r q2
theorem zgZ {f:Nat}{x m:Str}{ces:CEs}{σ:L2.St}{H:Hp}{Qv:VK}(h:tE X.K cf (.callC f x m ces) σ H Qv):zd4 (spF X.K cf f) [] E0 (tAs X.K cf ces) σ H Qv:=by
 obtain⟨δ,ι,S,Q,hs,hh,w,q⟩:=h
 simp only[evE,zac] at w
 refine tAs.run hs hh w fun ds vs ι1 H1 S1 x1 hs1 hh1 r1 w1=>?_
 unfold appW at w1
 rw[List.append_nil]
 refine⟨ι1,S1,ds,r1,hh1,?_⟩
 obtain⟨d,T',e,w2⟩:=zfd w1
 rw[e]
 exact fun v H' ι' x r hT=>q v H' (Lf.up x1 ⟨d,ι',T',x,r,hT,w2⟩)
theorem ziR (G:Gd T cf k N sc X){f:Nat}{x m:Str}{ces:CEs}{e:Expr}{es:List Expr}{apos:Pos}(hc:T.cms.contains (x,m,f)=true)(hg:isGl sc x=true)(hd:(x == ("__debug__":Str))=false)(hsup:zbR (.Name x p)=true)(ha:PA X (e::es) (tAs X.K cf ces))(hst:(e::es).all zaq=true)(hn:(e::es).length<29)(hl:(apos.endLine == pos.line)=true) :
  PE X (.Call (.Attribute (.Name x p) m apos) (e::es) [] pos) (tE X.K cf (.callC f x m ces)):=
 PE.imp (zjc (G.tab.cmd x m f hc) G.room ha (G.gl hg) hd (zdH hsup m X.env _) hst hn hl) fun σ H Qv h=>zgZ h
end
end R
end
section
namespace R
open PySem PySem.Spec PyProof.Rows L2
variable [Mks]
section
variable {prog:Program} {w:World} {A:Around} {E:Value->Shared->Prop} {s:Shared}
theorem zcg {t sl:Addr}{items:Array Value}{vl vu:Value}{lo hi:Option Int}{Q:Value->Shared->Prop}(ht:IsTup s.heap t items)(hs:s.heap.IsSliceOf sl vl vu .none)(pl:IsPart vl lo)(pu:IsPart vu hi)
  (hw:HT.sIx items.size 0 lo=0/\HT.sIx items.size items.size hi=items.size)
  (h:Q (.ref t) s):wpAny (model prog w) A (getItem (.ref t) (.ref sl)) Q E s:=by
 obtain⟨os,hos,hcs,hds⟩:=id hs
 have hTs:s.TypeIs (.ref sl) "slice":=⟨os,hos,hcs⟩
 unfold getItem
 try with_reducible refine wpAny_holding ?_
 first|refine wpAny_bind (wpAny_pure ?_)|skip
 refine wpAny_bind (wpAny_sequenceKey ht.typeIs (by decide) ?_)
 refine wpAny_bind (wpAny_callSpecial?_slot (name:=Str.ofString "__getitem__") ht.typeIs PyProof.Rows.slot_tuple_getitem
  (wpAny_call_entry PyProof.Rows.slot_tuple_getitem ht.typeIs entry_tuple_getitem ?_ (args_tuple_getitem _ _)))
 show wpAny _ _ (Builtin.Tuple.tupleItemsOf (.ref t) >>= _) _ _ s
 refine wpAny_bind (tupleItemsOf_ ht ?_)
 refine wpAny_bind (wpAny_typeOf hTs ?_)
 rw[if_pos (by decide)]
 refine wpAny_bind (HT.sliceApplied_gen hs pl pu ?_)
 have hyes:(((HT.sIx items.size 0 lo:Nat):Int) == 0&&(1:Int) == 1&&(HT.sIx items.size items.size hi - HT.sIx items.size 0 lo) == items.size)=true:=by
  rw[hw.1,hw.2]
  simp
 show wpAny _ _ (if (((HT.sIx items.size 0 lo:Nat):Int) == 0&&(1:Int) == 1&&(HT.sIx items.size items.size hi - HT.sIx items.size 0 lo) == items.size)=true then _ else _) _ _ s
 rw[if_pos hyes]
 unfold Builtin.Tuple.tupleIsExact
 refine wpAny_bind (wpAny_bind (wpAny_typeOf ht.typeIs (wpAny_pure ?_)))
 rw[if_pos (by decide)]
 exact wpAny_bind (wpAny_rule (wpAny_pure ⟨_,rfl,wpAny_pure h⟩))
end
section
variable {T:Tab} {cf:CF} {k:Nat} {N:List Str} {sc:Scope} {X:Cx} {pos p:Pos}
noncomputable def rSlW (K:PySem.W.Frag):V->Option Int->Option Int->Hp->VK->Prop:=fun x lo hi H Q=>∃a xs,x=.ref a/\SqT K H a xs/\
 (HT.sIx xs.length 0 lo=0/\HT.sIx xs.length xs.length hi=xs.length)/\Q (.ref a) H
theorem ziI:SlR X (rSlW X.K):=by
 intro pins s σ H x v vl vu lo hi sl Q I rx hs pl pu h
 obtain⟨a,xs,rfl,hx,hw,q⟩:=h
 cases rx
 obtain⟨its,r,ht,hz⟩:=I.tuple hx
 have hlen:its.toArray.size=xs.length:=by rw[List.size_toArray];exact r.length.symm
 exact⟨"tuple",_,PyProof.Rows.slot_tuple_getitem.lookup,ht.typeIs,zcg ht hs pl pu (by rw[hlen];exact hw) ⟨.ref a,H,I,rfl,q⟩⟩
theorem zfS (n d:Nat)(o:Option Int):R.sIx n d o=HT.sIx n d o:=by
 cases o<;>rfl
theorem zis {α:Type}{xs:List α}{lo hi:Option Int}(h:HT.sIx xs.length 0 lo=0/\HT.sIx xs.length xs.length hi=xs.length):cut xs lo hi=xs:=by
 unfold cut
 rw[zfS,zfS,h.1,h.2]
 simp
theorem RVs.cut {K:PySem.W.Frag}{ι:List Addr}{H:Hp}{ds:List D}{xs:List V}(r:RVs K ι H ds xs)(lo hi:Option Int):RVs K ι H (R.cut ds lo hi) (cutV xs lo hi):=by
 have hl:=r.length
 unfold R.cut cutV
 rw[zfS,zfS,hl]
 exact (r.drop _).take _
inductive PartOk (X:Cx) (cf:CF):Bool->CE->Option Expr->Prop where
 |no {c:CE} (h:∃d,c=.con d):PartOk X cf false c none
 |yes {c:CE} {e:Expr} (h:PE X e (tE X.K cf c)):PartOk X cf true c (some e)
theorem zoa {ca clo chi:CE}{ml mh:Bool}{a:Expr}{lo hi:Option Expr}{p2:Pos}(ha:PE X a (tE X.K cf ca))(hlo:PartOk X cf ml clo lo)(hhi:PartOk X cf mh chi hi):PE X (.Subscript a (.Slice lo hi none p2) pos) (tE X.K cf (.sl ca ml mh clo chi)):=by
 have fin:∀{σ:L2.St} {δ:Ev} {ι ι1:List Addr} {H H1:Hp} {S1:R.St} {Q:D->R.St->Prop} {Qv:VK} {d:D} {v:V} {y z:Option Int},Ext ι H ι1 H1->RH X.K ι1 H1 S1->RV X.K ι1 H1 d v->(∀v H',Lf X.K ι H Q v H'->Qv v H')->
   W (match d with|.tup ds=>.ok (.tup (R.cut ds y z)) S1|.fix ds=>lay S1 (R.cut ds y z)|.ref p=>(match S1.get p with|some (.lst ds)=>lay S1 (R.cut ds y z)|_=>.bad)|_=>.bad) Q->
   (rSlL X.K v y z H1 Qv\/rSlT X.K v y z H1 Qv)\/rSlW X.K v y z H1 Qv:=by
  intro σ δ ι ι1 H H1 S1 Q Qv d v y z x hh r q w
  cases d with
  | tup ds =>
    obtain⟨a,xs,rfl,ha,rr⟩:=r
    by_cases hw:HT.sIx xs.length 0 y=0/\HT.sIx xs.length xs.length z=xs.length
    · refine .inr ⟨a,xs,rfl,SqT.of ha,hw,q _ _ (Lf.up x (Lf.of (d:=.tup ds) hh ⟨a,xs,rfl,ha,rr⟩ ?_))⟩
      have e:R.cut ds y z=ds:=zis (by rw[<-rr.length];exact hw)
      dsimp only at w
      rw[e] at w
      exact w
    · exact .inl (.inr ⟨a,xs,rfl,SqT.of ha,hw,fun p hp=>q _ _ (Lf.up x (Lf.tup hh hp (rr.cut y z) w))⟩)
  | fix ds =>
    obtain⟨a,xs,rfl,ha,rr⟩:=r
    obtain⟨_,w2⟩:=zb9 w
    exact .inl (.inl ⟨a,xs,rfl,ha.sq,fun p hp=>q _ _ (Lf.up x (Lf.lst hh hp (rr.cut y z) w2))⟩)
  | ref l =>
    dsimp only at w
    cases e:S1.get l with
    |none=>rw[e] at w;exact w.elim
    | some o =>
      rw[e] at w
      cases o with
      | lst ds =>
        obtain⟨a,h1,rfl⟩:=r
        obtain⟨b,h2,xs,ha,rr⟩:=hh.obj _ _ e
        rw[h1] at h2;cases h2
        obtain⟨_,w2⟩:=zb9 w
        exact .inl (.inl ⟨a,xs,rfl,SqL.of ha,fun p hp=>q _ _ (Lf.up x (Lf.lst hh hp (rr.cut y z) w2))⟩)
      |_=>exact w.elim
  |_=>exact w.elim
 have part:∀{m:Bool} {c:CE} {o:Option Expr},PartOk X cf m c o->∃t,PO X o t/\∀{δ:Ev} {σ:L2.St} {ι:List Addr} {H:Hp} {S:R.St} {Q:D->R.St->Prop} {Qv:Option Int->Hp->Prop},RS X.K ι H δ σ->RH X.K ι H S->W (evE cf c δ S) Q->
   (∀d S',Q d S'->∃z,zbQ m d=some z)->
   (∀d ι' H' S' z,Ext ι H ι' H'->RS X.K ι' H' δ σ->RH X.K ι' H' S'->Q d S'->zbQ m d=some z->Qv z H')->t σ H Qv:=by
  intro m c o h
  cases h with
  | no h =>
    obtain⟨d,rfl⟩:=h
    refine⟨_,zkY,fun {δ σ ι H S Q Qv} hs hh w hp h=>?_⟩
    simp only[evE] at w
    exact h d ι H S none (Ext.refl _ _) hs hh w rfl
  | yes h =>
    refine⟨_,zkX h,fun {δ σ ι H S Q Qv} hs hh w hp h=>?_⟩
    refine tE.run hs hh w fun d v ι1 H1 S1 x1 hs1 hh1 r1 w1=>?_
    obtain⟨z,hz⟩:=hp d S1 w1
    cases d with
    | int i =>
      obtain rfl:v=.int i:=r1
      exact⟨i,rfl,h _ _ _ _ _ x1 hs1 hh1 w1 rfl⟩
    |_=>cases hz
 obtain⟨tl,pl,rl⟩:=part hlo
 obtain⟨th,ph,rh⟩:=part hhi
 refine PE.imp (zi5 (SlR.or (SlR.or zko zmf) ziI) ha pl ph) fun σ H Qv ⟨δ,ι,S,Q,hs,hh,w,q⟩=>?_
 simp only[evE,zac] at w
 refine tE.run hs hh w fun d v ι1 H1 S1 x1 hs1 hh1 r1 w1=>?_
 have hz:∀(b:Bool) (y:D),zbQ b y=none\/∃z,zbQ b y=some z:=fun b y=>by cases zbQ b y<;>simp
 refine rl hs1 hh1 w1 (fun y S2 w2=>?_) fun y ι2 H2 S2 zl x2 hs2 hh2 w2 hzl=>?_
 · rcases hz ml y with e|e
   · rw[W.iff] at w2
     obtain⟨u,S3,_,w3⟩:=w2
     rw[e] at w3;exact w3.elim
   · exact e
 · refine rh hs2 hh2 w2 (fun u S3 w3=>?_) fun u ι3 H3 S3 zh x3 hs3 hh3 w3 hzh=>?_
   · rcases hz mh u with e|e
     · rw[hzl,e] at w3;exact w3.elim
     · exact e
   · rw[hzl,hzh] at w3
     exact fin (σ:=σ) (δ:=δ) ((x1.trans x2).trans x3) hh3 (r1.ext (x2.trans x3)) q w3
end
end R
end
section
namespace R
open PySem PySem.Spec PyProof.Rows L2
variable [Mks]
noncomputable def rB (K:PySem.W.Frag)(f:R.St->List D->Out D):List V->Hp->VK->Prop:=fun xs H Qv=>∃ι S ds Qd,RVs K ι H ds xs/\RH K ι H S/\W (f S ds) Qd/\∀v H',Lf K ι H Qd v H'->Qv v H'
section
variable {T:Tab} {cf:CF} {k:Nat} {N:List Str} {sc:Scope} {X:Cx} {pos p:Pos}
theorem RVs.one {K:PySem.W.Frag}{ι:List Addr}{H:Hp}{d:D}{xs:List V}(r:RVs K ι H [d] xs):∃v,xs=[v]/\RV K ι H d v:=by
 obtain⟨v,w,rfl,r1,r2⟩:=r
 cases (show w=[] from r2)
 exact⟨v,rfl,r1⟩
theorem RVs.two {K:PySem.W.Frag}{ι:List Addr}{H:Hp}{d e:D}{xs:List V}(r:RVs K ι H [d,e] xs):∃v u,xs=[v,u]/\RV K ι H d v/\RV K ι H e u:=by
 obtain⟨v,w,rfl,r1,r2⟩:=r
 obtain⟨u,rfl,r3⟩:=RVs.one r2
 exact⟨v,u,rfl,r1,r3⟩
theorem znh:za7 X (.builtin "len") (rB X.K fun S ds=>R.bi S .len ds):=by
 intro pins s σ H xs us Qv I rv ⟨ι,S,ds,Qd,r,hh,w,q⟩
 dsimp only at w
 unfold bi at w
 split at w
 case h_1 x=>
  obtain⟨v,rfl,rr⟩:=r.one
  split at w
  · obtain⟨a,xs,rfl,ha,r2⟩:=rr
    refine zbY pins s σ H _ us Qv I rv ⟨a,xs,rfl,.inr (SqT.of ha),?_⟩
    rw[r2.length]
    exact q _ _ (Lf.of (d:=.int _) hh rfl w)
  · obtain⟨a,xs,rfl,ha,r2⟩:=rr
    refine zbY pins s σ H _ us Qv I rv ⟨a,xs,rfl,.inl ha.sq,?_⟩
    rw[r2.length]
    exact q _ _ (Lf.of (d:=.int _) hh rfl w)
  · rename_i l
    obtain⟨a,h1,rfl⟩:=rr
    cases e:S.get l with
    |none=>rw[e] at w;exact w.elim
    | some o =>
      rw[e] at w
      obtain⟨b,h2,h3⟩:=hh.obj _ _ e
      rw[h1] at h2;cases h2
      cases o with
      | lst ds =>
        obtain⟨xs,ha,r2⟩:=h3
        refine zbY pins s σ H _ us Qv I rv ⟨a,xs,rfl,.inl (SqL.of ha),?_⟩
        rw[r2.length]
        exact q _ _ (Lf.of (d:=.int _) hh rfl w)
      | dic kvs =>
        obtain⟨_,ws,ha,rk⟩:=h3
        refine ziw pins s σ H _ us Qv I rv ⟨a,ws,rfl,ha,?_⟩
        rw[rk.length]
        exact q _ _ (Lf.of (d:=.int _) hh rfl w)
      |ins _ _=>exact w.elim
      | dtp kvs =>
        obtain⟨_,ws,ha,rk⟩:=h3
        refine zoC pins s σ H _ us Qv I rv ⟨a,ws,rfl,ha,?_⟩
        rw[rk.length]
        exact q _ _ (Lf.of (d:=.int _) hh rfl w)
  · exact w.elim
 all_goals first|exact w.elim|(rename_i h;cases h)
theorem znQ:za7 X (.builtin "abs") (rB X.K fun S ds=>R.bi S .abs ds):=by
 intro pins s σ H xs us Qv I rv ⟨ι,S,ds,Qd,r,hh,w,q⟩
 dsimp only at w
 unfold bi at w
 split at w
 case h_2 i _=>
  obtain⟨v,rfl,rr⟩:=r.one
  obtain rfl:v=.int i:=rr
  exact zjD pins s σ H _ us Qv I rv ⟨i,rfl,q _ _ (Lf.of (d:=.int _) hh rfl w)⟩
 all_goals first|exact w.elim|(rename_i h;cases h)
theorem znc (hc:X.calm=true):za7 X (.builtin "max") (rB X.K fun S ds=>R.bi S .max2 ds):=by
 intro pins s σ H xs us Qv I rv ⟨ι,S,ds,Qd,r,hh,w,q⟩
 dsimp only at w
 unfold bi at w
 split at w
 case h_3 i j _=>
  obtain⟨v,u,rfl,r1,r2⟩:=r.two
  obtain rfl:v=.int i:=r1
  obtain rfl:u=.int j:=r2
  exact ziv hc pins s σ H _ us Qv I rv ⟨i,j,rfl,q _ _ (Lf.of (d:=.int _) hh rfl w)⟩
 all_goals first|exact w.elim|(rename_i h;cases h)
theorem zna (hc:X.calm=true):za7 X (.builtin "min") (rB X.K fun S ds=>R.bi S .min2 ds):=by
 intro pins s σ H xs us Qv I rv ⟨ι,S,ds,Qd,r,hh,w,q⟩
 dsimp only at w
 unfold bi at w
 split at w
 case h_4 i j _=>
  obtain⟨v,u,rfl,r1,r2⟩:=r.two
  obtain rfl:v=.int i:=r1
  obtain rfl:u=.int j:=r2
  exact ziu hc pins s σ H _ us Qv I rv ⟨i,j,rfl,q _ _ (Lf.of (d:=.int _) hh rfl w)⟩
 all_goals first|exact w.elim|(rename_i h;cases h)
theorem za8 (G:Gd T cf k N sc X){x:Str}(h:bltB T sc x=true):Gl X x/\X.mg x=none:=by
 unfold bltB at h
 rw[Bool.and_eq_true] at h
 exact⟨G.gl h.1,G.tab.blt x h.2⟩
theorem zoe {b:Bi}{id:String}{x:Str}{ces:CEs}{e:Expr}{es:List Expr}(hc:za7 X (.builtin id) (rB X.K fun S ds=>R.bi S b ds))(hg:Gl X x/\X.mg x=none)(hv:bootBuiltins x=some (.builtin id))(ha:PA X (e::es) (tAs X.K cf ces))(hst:(e::es).all zaq=true)(hn:x≠"__name__")(hdb:(x == ("__debug__":Str))=false) :
  PE X (.Call (.Name x p) (e::es) [] pos) (tE X.K cf (.bi b ces)):=by
 rw[List.all_cons,Bool.and_eq_true] at hst
 refine PE.imp (zbp hc hg.1 hg.2 hv ha hn hdb (zat hst.1 es X.env) (za4 hst.2)) fun σ H Qv ⟨δ,ι,S,Q,hs,hh,w,q⟩=>?_
 simp only[evE,zac] at w
 refine tAs.run hs hh w fun ds vs ι1 H1 S1 x1 hs1 hh1 r1 w1=>?_
 exact⟨ι1,S1,ds,Q,r1,hh1,w1,fun v H' l=>q v H' (Lf.up x1 l)⟩
theorem zkf {ι:List Addr}{H:Hp}{S:R.St}{d:D}{v:V}{a:String}(hh:RH X.K ι H S)(r:RV X.K ι H d v)(h:tyOf S d=some a):zcN H v=some a:=by
 cases d with
 |non=>obtain rfl:v=.non:=r;exact h
 |bl b=>obtain rfl:v=.bl b:=r;exact h
 |int b=>obtain rfl:v=.int b:=r;exact h
 |str b=>obtain rfl:v=.str b:=r;exact h
 | tup ds =>
   obtain⟨p,xs,rfl,ha,_⟩:=r
   simp only[tyOf] at h
   simp only[zcN,ha]
   exact h
 | ref l =>
   obtain⟨p,h1,rfl⟩:=r
   simp only[tyOf] at h
   simp only[zcN]
   cases e:S.get l with
   |none=>rw[e] at h;cases h
   | some o =>
     rw[e] at h
     obtain⟨b,h2,h3⟩:=hh.obj _ _ e
     rw[h1] at h2;cases h2
     cases o with
     |lst ds=>obtain⟨xs,ha,_⟩:=h3;rw[ha];exact h
     |dic kvs=>obtain⟨_,ws,ha,_⟩:=h3;rw[ha];exact h
     |ins _ _=>cases h
     |dtp kvs=>obtain⟨_,ws,ha,_⟩:=h3;rw[ha];exact h
 |fix ds=>cases h
theorem zkA (G:Gd T cf k N sc X){t:String}{y:Str}{p2:Pos}{ce:CE}{e:Expr}(hg:Gl X "isinstance"/\X.mg "isinstance"=none)(hy:Gl X y/\X.mg y=none)(hb:bootBuiltins y=some (.type t))(ht:t∈["bool","int","str","list","tuple","dict"])(hyn:y≠"__name__")(hyd:(y == ("__debug__":Str))=false)
  (he:PE X e (tE X.K cf ce)) (hst:zaq e=true):PE X (.Call (.Name "isinstance" p) [e,.Name y p2] [] pos) (tE X.K cf (.bi (.isin t) (.cons ce .nil))):=by
 refine PE.imp (zbp zfD hg.1 hg.2 zcy (zce he (zce (zk4 (v:=.ty t) hy.1 hy.2 hb rfl hyn hyd) zfY) (zat hst _ X.env)) (by decide) (by decide) (zat hst _ X.env)) fun σ H Qv ⟨δ,ι,S,Q,hs,hh,w,q⟩=>?_
 simp only[evE,evEs,zac,W_ok] at w
 refine tE.run hs hh w fun d v ι1 H1 S1 x1 hs1 hh1 r1 w1=>?_
 simp only[bi] at w1
 cases e:tyOf S1 d with
 |none=>rw[e] at w1;exact w1.elim
 | some a =>
   rw[e] at w1
   exact⟨v,t,a,rfl,zkf hh1 r1 e,ht,q _ _ (Lf.up x1 (Lf.of (d:=.bl _) hh1 rfl w1))⟩
theorem zj1 {ι:List Addr}{H:Hp}{S:R.St}{d:D}{v:V}(hh:RH X.K ι H S)(r:RV X.K ι H d v)(h:isL S d=true):tyV X.K "list" v H:=by
 cases d with
 | ref l =>
   obtain⟨p,h1,rfl⟩:=r
   simp only[isL] at h
   cases e:S.get l with
   |none=>rw[e] at h;cases h
   | some o =>
     rw[e] at h
     obtain⟨b,h2,h3⟩:=hh.obj _ _ e
     rw[h1] at h2;cases h2
     cases o with
     |lst ds=>obtain⟨xs,ha,_⟩:=h3;exact .inl ⟨rfl,xs,SqL.of ha⟩
     |_=>cases h
 |_=>cases h
noncomputable def rM (K:PySem.W.Frag)(m:Mt):V->List V->Hp->VK->Prop:=fun x xs H Qv=>∃ι S d ds Qd,RV K ι H d x/\RVs K ι H ds xs/\RH K ι H S/\W (R.mt S m d ds) Qd/\∀v H',Lf K ι H Qd v H'->Qv v H'
theorem ziA:MtR X "list.append" (rM X.K .append):=by
 intro pins s σ H x xs v us Qv I rx rv ⟨ι,S,d,ds,Qd,r,rs,hh,w,q⟩
 unfold R.mt at w
 split at w
 case h_1 l y _=>
  obtain⟨a,h1,rfl⟩:=r
  obtain⟨u,rfl,ru⟩:=rs.one
  cases e:S.get l with
  |none=>rw[e] at w;exact w.elim
  | some o =>
    rw[e] at w
    obtain⟨b,h2,h3⟩:=hh.obj _ _ e
    rw[h1] at h2;cases h2
    cases o with
    | lst ds =>
      obtain⟨zs,ha,r2⟩:=h3
      obtain⟨c,S',hp,w2⟩:=zkb w
      refine zeR pins s σ H _ _ v us Qv I rx rv ⟨a,zs,u,rfl,rfl,ha,?_,?_⟩
      · rw[r2.length]
        rw[List.length_append,List.length_singleton] at c
        omega
      · exact q _ _ (Lf.wr (d:=.non) hh e h1 hp (r2.append ⟨u,[],rfl,ru,rfl⟩) rfl w2)
    |_=>exact w.elim
 all_goals first|exact w.elim|(rename_i h;cases h)
theorem zi1:MtR X "list.pop" (rM X.K .popAt):=by
 intro pins s σ H x xs v us Qv I rx rv ⟨ι,S,d,ds,Qd,r,rs,hh,w,q⟩
 unfold R.mt at w
 split at w
 case h_2 l i _=>
  obtain⟨a,h1,rfl⟩:=r
  obtain⟨u,rfl,ru⟩:=rs.one
  obtain rfl:u=.int i:=ru
  cases e:S.get l with
  |none=>rw[e] at w;exact w.elim
  | some o =>
    rw[e] at w
    obtain⟨b,h2,h3⟩:=hh.obj _ _ e
    rw[h1] at h2;cases h2
    cases o with
    | lst ds =>
      obtain⟨zs,ha,r2⟩:=h3
      dsimp only at w
      split at w
      · rename_i c0
        cases ey:ds[i.toNat]? with
        |none=>rw[ey] at w;exact w.elim
        | some y =>
          rw[ey] at w
          obtain⟨c,S',hp,w2⟩:=zkb w
          obtain⟨u,eu,ru⟩:=r2.get ey
          have hlt:i.toNat<zs.length:=(List.getElem?_eq_some_iff.mp eu).1
          have hz:zs.length<=sizeLine:=(I.lstM ha).1
          rw[sizeLine_eq] at hz
          refine zjg pins s σ H _ _ v us Qv I rx rv ⟨a,zs,i,i.toNat,u,rfl,rfl,ha,by omega,by omega,?_,eu,?_⟩
          · exact PySem.StrLaws.seqIndex_nonneg c0 (by omega)
          · exact q _ _ (Lf.wr (d:=y) hh e h1 hp (r2.erase _) ru w2)
      · exact w.elim
    |_=>exact w.elim
 all_goals first|exact w.elim|(rename_i h;cases h)
theorem zg4:∀{ds:List D} {os:List (Option Int)},zcb ds=some os->ds=os.map fun o=>match o with|some i=>D.int i|none=>D.non:=by
 intro ds
 unfold zcb
 induction ds with
 |nil=>intro os h;simp at h;subst h;rfl
 | cons d ds ih =>
   intro os h
   obtain⟨y,r,h1,h2,rfl⟩:=zaZ h
   rw[ih h2]
   cases d<;>simp[zew] at h1<;>subst h1<;>rfl
noncomputable def wV:Option Int->V
 |some i=>.int i
 |none=>.non
theorem zfI {K:PySem.W.Frag}{ι:List Addr}{H:Hp}:∀{os:List (Option Int)} {vs:List V},RVs K ι H (os.map fun o=>match o with|some i=>D.int i|none=>D.non) vs->vs=os.map wV
 | [],_,h=>h
 | o :: os, vs, h => by
   obtain⟨v,r,rfl,h1,h2⟩:=h
   rw[zfI h2]
   cases o<;>rw[show v=_ from h1]<;>rfl
noncomputable def isI (i:Int):Value->Bool
 |.int j _=>j == i
 |_=>false
theorem zdW (i:Int):∀{os:List (Option Int)} {us:List Value},Vals (os.map wV) us->(∀y∈us,y=Value.none\/∃a u,y=Value.int a u)/\us.countP (isI i)=os.count (some i)
 | [],us,r=>by cases r;exact⟨fun y hy=>by simp at hy,rfl⟩
 | o :: os, us, r => by
   cases r with
   | @cons _ u _ us r1 r2 =>
     obtain⟨h1,h2⟩:=zdW i r2
     cases o with
     | none =>
       obtain rfl:u=Value.none:=r1
       refine⟨fun y hy=>?_,?_⟩
       · rcases List.mem_cons.mp hy with rfl|hy
         · exact .inl rfl
         · exact h1 y hy
       · rw[List.countP_cons,List.count_cons,h2];simp[isI]
     | some j =>
       obtain⟨t,rfl⟩:∃t,u=Value.int j t:=r1
       refine⟨fun y hy=>?_,?_⟩
       · rcases List.mem_cons.mp hy with rfl|hy
         · exact .inr ⟨_,_,rfl⟩
         · exact h1 y hy
       · rw[List.countP_cons,List.count_cons,h2];simp[isI]
theorem zjA:MtR X "list.count" (rM X.K .count):=by
 intro pins s σ H x xs v us Qv I rx rv ⟨ι,S,d,ds,Qd,r,rs,hh,w,q⟩
 unfold R.mt at w
 split at w
 case h_3 l i _=>
  obtain⟨a,h1,rfl⟩:=r
  obtain⟨u,rfl,ru⟩:=rs.one
  obtain rfl:u=.int i:=ru
  cases e:S.get l with
  |none=>rw[e] at w;exact w.elim
  | some o =>
    rw[e] at w
    obtain⟨b,h2,h3⟩:=hh.obj _ _ e
    rw[h1] at h2;cases h2
    cases o with
    | lst ds =>
      obtain⟨zs,ha,r2⟩:=h3
      dsimp only at w
      cases e2:zcb ds with
      |none=>rw[e2] at w;exact w.elim
      | some os =>
        rw[e2] at w
        rw[zg4 e2] at r2
        cases zfI r2
        obtain⟨its,rz,pl,_⟩:=I.list (SqL.of ha)
        obtain⟨u1,rfl,ru1⟩:=Vals.one rv
        obtain⟨t,rfl⟩:=ru1
        cases rx
        obtain⟨c1,c2⟩:=zdW i rz
        have hl:=pl.isList
        obtain⟨⟨cls,dd,data,sl⟩,ho,hc,n,hd⟩:=id hl
        simp only at hc hd
        subst hc hd
        refine call_meets PySem.F.slot_list_count ⟨_,ho,rfl⟩ PySem.F.entry_list_count (PySem.F.args_list_count_2 _ _) (PySem.SeqAt.list_countAt a its.toArray n dd sl (.int i t) (isI i)) ⟨ho,fun y hy=>?_,?_⟩
        · rcases c1 y (by simpa using hy) with rfl|⟨j,u,rfl⟩
          · exact PySem.SeqAt.EqAt.none_int i t
          · exact PySem.SeqAt.EqAt.int_int j u i t
        · rw[show its.toArray.toList=its from rfl,c2]
          exact⟨.int _,H,I.tok _,⟨_,rfl⟩,q _ _ (Lf.of (d:=.int _) hh rfl w)⟩
    |_=>exact w.elim
 all_goals first|exact w.elim|(rename_i h;cases h)
theorem zkw {m:Mt}{id:String}{name:Str}{co ce:CE}{o e:Expr}{apos cpos:Pos}(slot:Slot "list" name id)(hty:typeOf (.builtin id)=pure (.type "method_descriptor"))(hm:MtR X id (rM X.K m))(ho:PE X o (tE X.K cf co))(he:PE X e (tE X.K cf ce))(hst:zaq e=true)(hsup:zbR o=true)(hl:(apos.endLine == cpos.line)=true) :
  PE X (.Call (.Attribute o name apos) [e] [] cpos) (tE X.K cf (.mt m co (.cons ce .nil))):=by
 refine PE.imp (zor PySem.F.plainAttrs_list slot hty hm ho (zhl he zjQ hst) (zdH hsup name X.env _) (by rw[zat hst];rfl) hl (zat hst [] X.env)) fun σ H Qv ⟨δ,ι,S,Q,hs,hh,w,q⟩=>?_
 simp only[evE,zac] at w
 refine tE.run hs hh w fun d v ι1 H1 S1 x1 hs1 hh1 r1 w1=>?_
 split at w1
 · rename_i c
   refine⟨zj1 hh1 r1 c,?_⟩
   rw[zac] at w1
   refine tAs.run hs1 hh1 w1 fun ds vs ι2 H2 S2 x2 hs2 hh2 r2 w2=>?_
   exact⟨ι2,S2,d,ds,Q,r1.ext x2,r2,hh2,w2,fun z H3 l=>q z H3 (Lf.up (x1.trans x2) l)⟩
 · exact w1.elim
end
end R
end
section
namespace R
open PySem PySem.Spec PyProof.Rows L2
variable [Mks]
section
variable {T:Tab} {cf:CF} {k:Nat} {N:List Str} {sc:Scope} {X:Cx} {pos p:Pos}
theorem SqK.seq {K:PySem.W.Frag}{ι:List Addr}{H:Hp}{S:R.St}{a:Addr}{xs:List V}{ds:List D}{lks:List Nat}(h:SqK K ι H S a xs ds lks):SqL K H a xs\/SqT K H a xs:=by
 cases h with
 |tmp h e=>exact .inl (SqL.of e)
 |tup e=>exact .inr (SqT.of e)
 |fix e=>exact .inl e.sq
 |own l hl hi hs e=>exact .inl (SqL.of e)
theorem zme {ce:CE}{e:Expr}(he:PE X e (tE X.K cf ce)):PE X e (tL X.K cf (.val ce)):=by
 refine PE.imp he fun σ H Qv ⟨δ,ι,S,Q,hs,hh,w,q⟩=>?_
 simp only[evL,zac] at w
 refine tE.run hs hh w fun d v ι1 H1 S1 x1 hs1 hh1 r1 w1=>?_
 obtain⟨ds,eq,w2⟩:=zaO w1
 refine q v H1 ⟨ds,lkOf S1 d,ι1,S1,x1,?_,hh1,w2⟩
 cases d with
 | tup es =>
   cases eq
   obtain⟨a,xs,rfl,ha,rr⟩:=r1
   exact⟨a,xs,rfl,rr,.tup ha⟩
 | fix es =>
   cases eq
   obtain⟨a,xs,rfl,ha,rr⟩:=r1
   exact⟨a,xs,rfl,rr,.fix ha⟩
 | ref l =>
   simp only[zcA] at eq
   split at eq
   · rename_i ds' e
     cases eq
     obtain⟨a,h1,rfl⟩:=r1
     obtain⟨a2,h2,xs,ha,rr⟩:=hh1.obj _ _ e
     rw[h1] at h2;cases h2
     exact⟨a,xs,rfl,rr,.own l (by simp[lkOf]) h1 e ha⟩
   · cases eq
 |_=>cases eq
theorem za5 {e:Expr}{te:TE}(he:PE X e te)(hst:zaq e=true):PA X [e] (zl5 te tNil):=zce he zfY (zat hst [] X.env)
theorem zml (G:Gd T cf k N sc X){cl:CL}{e:Expr}(hg:Gl X "tuple"/\X.mg "tuple"=none)(he:PE X e (tL X.K cf cl))(hst:zaq e=true):PE X (.Call (.Name "tuple" p) [e] [] pos) (tE X.K cf (.mkT cl)):=by
 refine PE.imp (zbl zeq hg.1 hg.2 zet (za5 he hst) (by decide) (by decide) (zat hst [] X.env)) fun σ H Qv ⟨δ,ι,S,Q,hs,hh,w,q⟩=>?_
 simp only[evE,zac] at w
 refine tL.run hs hh w fun ds lks v ι1 H1 S1 x1 hs1 hh1 sq w1=>?_
 split at w1
 · rename_i c
   obtain⟨a,xs,rfl,rr,kd⟩:=sq
   have fresh:SqL X.K H1 a xs->∃p ys,[V.ref a]=[V.ref p]/\((SqL X.K H1 p ys/\∀l,H1 l=none->Qv (.ref l) (upd H1 l (.tup ys)))\/(SqT X.K H1 p ys/\Qv (.ref p) H1)):=fun h=>
    ⟨a,xs,rfl,.inl ⟨h,fun l hl=>q _ _ (Lf.up x1 (Lf.tup hh1 hl rr w1))⟩⟩
   cases kd with
   |tmp h e=>exact fresh (SqL.of e)
   |fix e=>exact fresh e.sq
   |own l hl hi hs e=>exact fresh (SqL.of e)
   |tup e=>exact⟨a,xs,rfl,.inr ⟨SqT.of e,q _ _ (Lf.up x1 (Lf.of (d:=.tup ds) hh1 ⟨a,xs,rfl,e,rr⟩ w1))⟩⟩
 · exact w1.elim
theorem zjN (G:Gd T cf k N sc X){cl:CL}{e:Expr}(hg:Gl X "list"/\X.mg "list"=none)(he:PE X e (tL X.K cf cl))(hst:zaq e=true):PE X (.Call (.Name "list" p) [e] [] pos) (tE X.K cf (.mkL cl)):=by
 refine PE.imp (zbl ze8 hg.1 hg.2 zfE (za5 he hst) (by decide) (by decide) (zat hst [] X.env)) fun σ H Qv ⟨δ,ι,S,Q,hs,hh,w,q⟩=>?_
 simp only[evE,zac] at w
 refine tL.run hs hh w fun ds lks v ι1 H1 S1 x1 hs1 hh1 sq w1=>?_
 obtain⟨c,w2⟩:=zb9 w1
 obtain⟨a,xs,rfl,rr,kd⟩:=sq
 exact⟨a,xs,rfl,kd.seq,fun l hl=>q _ _ (Lf.up x1 (Lf.lst hh1 hl rr w2))⟩
theorem zhL {cl:CL}{σ:L2.St}{H:Hp}{Qv:VK}(h:tE X.K cf (.mkL cl) σ H Qv):tLt X.K cf cl σ H Qv:=by
 obtain⟨δ,ι,S,Q,hs,hh,w,q⟩:=h
 simp only[evE,zac] at w
 refine tLt.run hs hh w fun ds p xs ι1 H1 S1 x1 hs1 hh1 r1 hp e hn w1=>?_
 obtain⟨c,w2⟩:=zb9 w1
 refine q _ _ ⟨.ref S1.len,ι1++[p],S1.push (.lst ds),?_,⟨p,hh1.last p,rfl⟩,hh1.one (l:=0) hp ⟨xs,e,r1.up (List.prefix_append _ _) (Kp.refl _)⟩,w2⟩
 refine⟨x1.pre.trans (List.prefix_append _ _),x1.kp,fun b o hb eb=>⟨(x1.rest b o hb eb).1,fun z=>?_⟩⟩
 rcases List.mem_append.mp z with z|z
 · exact (x1.rest b o hb eb).2 z
 · simp at z
   subst z
   rw[hn] at eb;cases eb
end
end R
end
section
set_option maxHeartbeats 4000000
namespace R
open PySem PySem.Spec PyProof.Rows L2
variable [Mks]
section
variable {T:Tab} {cf:CF} {k:Nat} {N:List Str} {sc:Scope} {X:Cx} {pos p:Pos}
theorem zgo:bootBuiltins "range"=some (.type "range"):=by decide +kernel
theorem zeM:za7 X (.type "range") (fun xs H Q=>∃j,xs=[.int j]/\∀p,H p=none->Q (.ref p) (upd H p (.rng 0 j))):=by
 intro pins s σ H xs us Q I r h
 obtain⟨j,rfl,q⟩:=h
 obtain⟨u,rfl,ru⟩:=r.one
 obtain⟨t,rfl⟩:=ru
 refine call_range_1 ⟨.ref s.heap.objs.size,_,I.laid (o:=.rng 0 j) (fun b ob e=>Heap.get?_push_of_some _ e) (Nat.le_refl _) ?_,rfl,q _ (I.hok.fresh (Nat.le_refl _))⟩
 exact⟨_,_,_,Heap.get?_push_size _ rfl⟩
theorem zjk (hc:X.calm=true):za7 X (.type "list") (fun xs H Q=>∃p hi,xs=[.ref p]/\H p=some (.rng 0 hi)/\-(2 ^ 62)<=hi/\hi<2 ^ 62/\hi.toNat<=16777216/\∀l,H l=none->Q (.ref l) (upd H l (.lst ((List.range hi.toNat).map fun (j:Nat)=>.int j)))):=by
 intro pins s σ H xs us Q I r h
 obtain⟨p,hi,rfl,hp,h1,h2,h3,q⟩:=h
 obtain⟨u,rfl,ru⟩:=r.one
 cases (show u=Value.ref p from ru)
 obtain⟨t,t2,t3,e⟩:=(show ObjOk X.prog X.w H s.heap p (.rng 0 hi) from I.hok p _ hp)
 have hn:Builtin.Range.rangeSize 0 hi 1=(hi.toNat:Nat):=by rw[rangeSize_one];split<;>omega
 refine call_list_range (I.ok.hd hc) e (small_one (by decide) (by decide) h1 h2) hn h3 fun h' tk acc c kp hg it=>?_
 refine⟨.ref s.heap.objs.size,_,I.laid (o:=.lst _) kp (Nat.le_refl _) ⟨?_,acc.toList,c,?_,?_⟩,rfl,q _ (I.hok.fresh (Nat.le_refl _))⟩
 · rw[List.length_map,List.length_range,sizeLine_eq];exact h3
 · have key:∀(n:Nat) (us:List Value),us.length=n->(∀(j:Nat) (v:Value),us[j]?=some v->∃t,v=Value.int (0+(j:Int) * 1) t)->Vals ((List.range n).map fun (j:Nat)=>V.int j) us:=by
    intro n
    induction n with
    | zero => intro us hl _; cases us with
      |nil=>exact .nil
      |cons _ _=>simp at hl
    | succ n ih =>
      intro us hl hv
      have hne:us≠[]:=by intro z;subst z;simp at hl
      have hd:us=us.dropLast++[us.getLast hne]:=(List.dropLast_concat_getLast hne).symm
      rw[List.range_succ,List.map_append,hd]
      have hdl:us.dropLast.length=n:=by simp[hl]
      refine Vals.append (ih _ hdl fun j v e=>hv j v ?_) (.cons ?_ .nil)
      · have hj:j<us.dropLast.length:=(List.getElem?_eq_some_iff.mp e).1
        rw[hd,List.getElem?_append_left hj];exact e
      · obtain⟨t,e⟩:=hv n (us.getLast hne) (by
         conv=>lhs;rw[hd]
         rw[List.getElem?_append_right (by omega)]
         simp[hdl])
        exact⟨t,by simpa using e⟩
   exact key _ _ (by simpa using it.1) fun j v e=>it.2 j v (by simpa using e)
 · simpa using hg
theorem zkx (G:Gd T cf k N sc X){ca:CE}{a:Expr}{p2:Pos}(hg:Gl X "list"/\X.mg "list"=none)(hr:Gl X "range"/\X.mg "range"=none)(ha:PE X a (tE X.K cf ca))(hst:zaq a=true) :
  PE X (.Call (.Name "list" p) [.Call (.Name "range" p2) [a] [] pos'] [] pos) (tE X.K cf (.mkL (.rng1 ca))):=by
 have hin:=zbl (p:=p2) (pos:=pos') zeM hr.1 hr.2 zgo (za5 ha hst) (by decide) (by decide) (zat hst [] X.env)
 refine PE.imp (zbl (zjk G.calm) hg.1 hg.2 zfE (za5 hin rfl) (by decide) (by decide) rfl) fun σ H Qv ⟨δ,ι,S,Q,hs,hh,w,q⟩=>?_
 simp only[evE,evL,zac] at w
 refine tE.run hs hh w fun d v ι1 H1 S1 x1 hs1 hh1 r1 w1=>?_
 cases d with
 | int j =>
   obtain rfl:v=.int j:=r1
   dsimp only at w1
   split at w1
   · rename_i c
     obtain⟨c2,w2⟩:=zb9 w1
     refine⟨j,rfl,fun pr hpr=>⟨pr,j,rfl,zaw,c.1,c.2,by simpa[sizeLine_eq] using c2,fun l hl=>?_⟩⟩
     have hh2:=hh1.new hpr (.rng 0 j)
     refine q _ _ (Lf.up (x1.trans (Ext.new hpr _)) (Lf.lst hh2 hl ?_ w2))
     have:=RVs.ints (K:=X.K) (ι:=ι1) (H:=upd H1 pr (.rng 0 j)) ((List.range j.toNat).map fun (m:Nat)=>(m:Int))
     rw[List.map_map,List.map_map] at this
     exact this
   · exact w1.elim
 |_=>exact w1.elim
theorem zlG {ds:List D}{bs:List Bool}(h:ds.mapM zdY=some bs):ds=bs.map D.bl:=by
 induction ds generalizing bs with
 | nil =>
   have h:bs=[]:=by simpa using h.symm
   subst h;rfl
 | cons d ds ih =>
   obtain⟨y,r,h1,h2,rfl⟩:=zaZ h
   cases d<;>simp[zdY] at h1
   subst h1
   rw[ih h2];rfl
theorem RVs.bls_eq {K:PySem.W.Frag}{ι:List Addr}{H:Hp}:∀{bs:List Bool} {vs:List V},RVs K ι H (bs.map D.bl) vs->vs=bs.map V.bl
 | [],_,h=>h
 | b :: bs, vs, h => by
   obtain⟨v,r,rfl,h1,h2⟩:=h
   rw[RVs.bls_eq h2,show v=.bl b from h1];rfl
theorem zg9 {bs:List Bool}{us:List Value}(r:Vals (bs.map V.bl) us):us=bs.map Value.bool:=by
 induction bs generalizing us with
 |nil=>cases r;rfl
 | cons b bs ih =>
   cases r with
   |cons r1 r2=>rw[ih r2,show _=Value.bool b from r1];rfl
theorem ziB (bs:List Bool):(List.range bs.length).all (fun i=>bs.getD i false)=bs.all id:=by
 rw[Bool.eq_iff_iff,List.all_eq_true,List.all_eq_true]
 constructor
 · intro h b hb
   obtain⟨i,hi,e⟩:=List.getElem_of_mem hb
   have:=h i (by simpa using hi)
   rw[List.getD_eq_getElem?_getD,List.getElem?_eq_getElem hi,e] at this
   exact this
 · intro h i hi
   have hi:i<bs.length:=by simpa using hi
   rw[List.getD_eq_getElem?_getD,List.getElem?_eq_getElem hi]
   exact h _ (List.getElem_mem hi)
theorem zlL (hc:X.calm=true):za7 X (.builtin "all") (fun xs H Q=>∃(a:Addr) (bs:List Bool),xs=[.ref a]/\(SqL X.K H a (bs.map V.bl)\/SqT X.K H a (bs.map V.bl))/\Q (.bl (bs.all id)) H):=by
 intro pins s σ H xs us Q I r h
 obtain⟨a,bs,rfl,hq,q⟩:=h
 obtain⟨u,rfl,ru⟩:=r.one
 cases (show u=Value.ref a from ru)
 have hA:X.A.in1.in1.handled=none:=I.ok.hd hc
 have hA1:X.A.in1.handled=none:=I.ok.hd hc
 have tr:∀(items:Array Value),items.toList=bs.map Value.bool->TruthOf X.prog X.w X.A.in1 (fun i v=>items[i]?=some v) (fun i=>bs.getD i false):=by
  intro items e i v s' Q' E' hv hQ
  have hv':items.toList[i]?=some v:=by rw[Array.getElem?_toList];exact hv
  rw[e,List.getElem?_map] at hv'
  cases z:bs[i]? with
  |none=>rw[z] at hv';cases hv'
  | some b =>
    rw[z] at hv'
    simp only[Option.map_some,Option.some.injEq] at hv'
    subst hv'
    dsimp only at hQ
    rw[List.getD_eq_getElem?_getD,z] at hQ
    exact wpAny_truthy_bool hQ
 have fin:∀(h':Heap) (tk n:Nat) (s2:Shared) (it:Addr),n=bs.length->s.heap.objs.size=it->Inv X pins σ H s2->s2.os=s.os->(∀b o,b∉[it]->s2.heap.get? b=some o->h'.get? b=some o)->
   EP X pins σ Q (.bool ((List.range n).all fun i=>bs.getD i false)) {s2 with heap:=h',toks:=tk}:=by
  intro h' tk n s2 it hn hit I2 ho kp
  subst hn
  rw[ziB]
  have fp:=I.fpOk (b:=it) (H':=H) (by omega) (I.hok.fresh (by omega))
  obtain⟨f0,f1,f2,f3,f4,f5⟩:=fp
  exact⟨.bl _,H,I2.turned (it:=it) (fun b o hb e=>kp b o (by simpa using hb) e) f0 f1 f3 f4 f5,rfl,q⟩
 rcases hq with hq|hq
 · obtain⟨its,rv,pl,hz⟩:=I.list hq
   have hits:=zg9 rv
   have hlen:=rv.length
   refine call_all_walk (wpAny_pyIter_list pl.isList ?_)
   have hne:a≠s.heap.objs.size:=by
    obtain⟨o,n,e,_⟩:=pl
    exact Nat.ne_of_lt (Heap.lt_size e)
   refine⟨s.heap.objs.size,_,_,_,_,_,_,rfl,Walks.list hA1 _ a hne its.toArray,⟨⟨_,Heap.get?_push_size _ rfl,rfl,rfl⟩,pl.isList.push _⟩,tr its.toArray (by simpa using hits),fun h' tk kp=>?_⟩
   exact fin h' tk _ _ _ (by simpa using hlen.symm) rfl (I.kept (t':=s.toks) fun b o e=>Heap.get?_push_of_some _ e) rfl kp
 · obtain⟨its,rv,pl,hz⟩:=I.tuple hq
   have hits:=zg9 rv
   have hlen:=rv.length
   refine call_all_walk (wpAny_pyIter_tuple (show s.heap.IsTuple a its.toArray from pl) ?_)
   have hne:a≠s.heap.objs.size:=by
    obtain⟨o,e,_⟩:=pl
    exact Nat.ne_of_lt (Heap.lt_size e)
   refine⟨s.heap.objs.size,_,_,_,_,_,_,rfl,Walks.tuple hA1 _ a hne its.toArray,⟨⟨_,Heap.get?_push_size _ rfl,rfl,rfl⟩,?_⟩,tr its.toArray (by simpa using hits),fun h' tk kp=>?_⟩
   · obtain⟨o,e,c⟩:=pl
     exact⟨o,Heap.get?_push_of_some _ e,c⟩
   · exact fin h' tk _ _ _ (by simpa using hlen.symm) rfl (I.kept (t':=s.toks) fun b o e=>Heap.get?_push_of_some _ e) rfl kp
theorem zmw (G:Gd T cf k N sc X){cl:CL}{e:Expr}(hg:Gl X "all"/\X.mg "all"=none)(he:PE X e (tL X.K cf cl))(hst:zaq e=true):PE X (.Call (.Name "all" p) [e] [] pos) (tE X.K cf (.all cl)):=by
 refine PE.imp (zbp (zlL G.calm) hg.1 hg.2 znN (za5 he hst) (by decide) (by decide) (zat hst [] X.env)) fun σ H Qv ⟨δ,ι,S,Q,hs,hh,w,q⟩=>?_
 simp only[evE,zac] at w
 refine tL.run hs hh w fun ds lks v ι1 H1 S1 x1 hs1 hh1 sq w1=>?_
 obtain⟨b,hb,w2⟩:=zaO w1
 unfold allD at hb
 cases e:ds.mapM zdY with
 |none=>rw[e] at hb;cases hb
 | some bs =>
   rw[e] at hb
   have hb:b=bs.all id:=by simpa using hb.symm
   subst hb
   obtain⟨a,xs,rfl,rr,kd⟩:=sq
   rw[zlG e] at rr
   have:=rr.bls_eq
   subst this
   exact⟨a,bs,rfl,kd.seq,q _ _ (Lf.up x1 (Lf.of (d:=.bl _) hh1 rfl w2))⟩
theorem znm {ι:List Addr}{H:Hp}{y:D}{v:V}{k:List Int}(r:RV X.K ι H y v)(h:zei y=some k):∃b,v=.ref b/\H b=some (.tup ((kI k).map kV)):=by
 cases y with
 | tup ds =>
   obtain⟨b,xs,rfl,hb,rr⟩:=r
   simp only[zei] at h
   rw[zbD h] at rr
   rw[rr.ints_eq] at hb
   refine⟨b,rfl,?_⟩
   rw[hb]
   unfold kI
   rw[List.map_map];rfl
 |_=>cases h
theorem ziP:PE X (.Dict [] [] pos) (tE X.K cf .dnewT):=by
 refine PE.imp zja fun σ H Qv ⟨δ,ι,S,Q,hs,hh,w,q⟩=>?_
 simp only[evE] at w
 intro p hp
 exact q _ _ ⟨.ref S.len,ι++[p],S.push (.dtp []),Ext.obj hh hp _,⟨p,hh.last p,rfl⟩,hh.obj' hp _ _ ⟨List.nodup_nil,[],zaw,rfl⟩,w⟩
end
end R
end
section
set_option maxHeartbeats 4000000
namespace R
open PySem PySem.Spec PyProof.Rows L2
variable [Mks]
section
variable {prog:Program} {w:World} {A:Around} {E:Value->Shared->Prop} {s:Shared}
end
section
variable {T:Tab} {cf:CF} {k:Nat} {N:List Str} {sc:Scope} {X:Cx} {pos p p2 pos':Pos}
theorem ze3 (ns:List Int):R.dedup ns=firstMet (fun i=>ns.getD i 0) ns.length:=by
 unfold R.dedup firstMet
 have e:(List.range ns.length).map (fun i=>ns.getD i 0)=ns:=by
  apply List.ext_getElem?
  intro i
  rw[List.getElem?_map]
  by_cases h:i<ns.length
  · simp[h,List.getD_eq_getElem?_getD]
  · simp[h,List.getElem?_eq_none (Nat.le_of_not_lt h)]
 rw[e]
 congr 1
 funext acc x
 unfold step_dedup
 simp[List.contains_eq_any_beq]
theorem zil (ns:List Int):(R.dedup ns).length<=ns.length:=by rw[ze3];exact firstMet_length_le _ _
end
end R
end
section
namespace R
open PySem
noncomputable abbrev Rise (xs:Array Nat):Prop:=xs.toList.Pairwise (· < ·)
theorem zd8 {xs:Array Nat}(h:Rise xs){i j:Nat}(hij:i<j)(hj:j<xs.size):xs[i]'(by omega)<xs[j]:=by
 have:=List.pairwise_iff_getElem.mp h i j (by simpa using (by omega:i<xs.size)) (by simpa using hj) hij
 simpa using this
theorem zes (xs:Array Nat)(j:Nat)(h:Rise xs):∀(f lo hi:Nat),hi - lo<=f->lo<=hi->hi<=xs.size->(∀i (hi':i<xs.size),i<lo->xs[i]<j)->(∀i (hi':i<xs.size),hi<=i->j<=xs[i])->
  SetTable.below.go xs j f lo hi<=xs.size/\(∀i (hi':i<xs.size),i<SetTable.below.go xs j f lo hi->xs[i]<j)/\∀i (hi':i<xs.size),SetTable.below.go xs j f lo hi<=i->j<=xs[i]
 | 0, lo, hi, hf, hl, hs, h1, h2 => by
   have:lo=hi:=by omega
   subst this
   exact⟨hs,h1,h2⟩
 | f + 1, lo, hi, hf, hl, hs, h1, h2 => by
   unfold SetTable.below.go
   by_cases c:lo<hi
   · rw[if_pos c]
     have hm:(lo+hi) / 2<xs.size:=by omega
     have e:xs.getD ((lo+hi) / 2) j=xs[(lo+hi) / 2]:=by simp[Array.getD,hm]
     dsimp only
     rw[e]
     by_cases c2:xs[(lo+hi) / 2]<j
     · rw[if_pos c2]
       refine zes xs j h f _ _ (by omega) (by omega) hs (fun i hi' hl'=>?_) h2
       by_cases q:i=(lo+hi) / 2
       · subst q;exact c2
       · exact Nat.lt_trans (zd8 h (show i<(lo+hi) / 2 by omega) hm) c2
     · rw[if_neg c2]
       refine zes xs j h f _ _ (by omega) (by omega) (by omega) h1 fun i hi' hl'=>?_
       by_cases q:i=(lo+hi) / 2
       · subst q;omega
       · have:=zd8 h (show (lo+hi) / 2<i by omega) hi'
         omega
   · rw[if_neg c]
     have:lo=hi:=by omega
     subst this
     exact⟨hs,h1,h2⟩
theorem zer {xs:Array Nat}(h:Rise xs)(j:Nat):SetTable.below xs j<=xs.size/\(∀i (hi:i<xs.size),i<SetTable.below xs j->xs[i]<j)/\∀i (hi:i<xs.size),SetTable.below xs j<=i->j<=xs[i]:=
 zes xs j h xs.size 0 xs.size (by omega) (Nat.zero_le _) (Nat.le_refl _) (fun i _ q=>by omega) (fun i hi q=>by omega)
theorem zg1 {xs:Array Nat}(h:Rise xs){i:Nat}(hi:i<xs.size):SetTable.below xs (xs[i]+1)=i+1:=by
 obtain⟨b1,b2,b3⟩:=zer h (xs[i]+1)
 have h1:¬SetTable.below xs (xs[i]+1)<=i:=fun c=>by have:=b3 i hi c;omega
 by_cases c:i+1<SetTable.below xs (xs[i]+1)
 · have hs:i+1<xs.size:=by omega
   have q1:=b2 (i+1) hs c
   have q2:=zd8 h (show i<i+1 by omega) hs
   omega
 · omega
theorem zg0 {xs:Array Nat}(h:Rise xs):SetTable.below xs 0=0:=by
 obtain⟨b1,b2,b3⟩:=zer h 0
 cases e:SetTable.below xs 0 with
 |zero=>rfl
 |succ n=>exact absurd (b2 0 (by omega) (by omega)) (Nat.not_lt_zero _)
theorem zfv {α:Type}(xs:Array α)(p:Nat)(x:α):(SetTable.insertAt xs p x).toList=xs.toList.take p++x::xs.toList.drop p:=by
 unfold SetTable.insertAt
 simp[List.take_of_length_le]
theorem zfj {xs:Array Nat}(h:Rise xs){j:Nat}(hj:xs[SetTable.below xs j]?≠some j):Rise (SetTable.insertAt xs (SetTable.below xs j) j):=by
 obtain⟨b1,b2,b3⟩:=zer h j
 generalize SetTable.below xs j=p at *
 unfold Rise
 rw[zfv,List.pairwise_append]
 refine⟨h.sublist (List.take_sublist _ _),?_,?_⟩
 · rw[List.pairwise_cons]
   refine⟨fun y hy=>?_,h.sublist (List.drop_sublist _ _)⟩
   obtain⟨i,hi,e⟩:=List.mem_iff_getElem.mp hy
   rw[List.getElem_drop] at e
   have hs:p+i<xs.size:=by simp at hi;omega
   have e:xs[p+i]=y:=by simpa using e
   have q:=b3 (p+i) hs (by omega)
   have ne:xs[p+i]≠j:=fun z=>by
    cases i with
    |zero=>exact hj (by rw[Array.getElem?_eq_getElem (by omega)];exact congrArg some z)
    | succ i =>
      have hp:p<xs.size:=by omega
      have:=zd8 h (show p<p+(i+1) by omega) hs
      have:=b3 p hp (Nat.le_refl _)
      omega
   omega
 · intro a ha b hb
   obtain⟨i,hi,e⟩:=List.mem_iff_getElem.mp ha
   rw[List.getElem_take] at e
   have hs:i<xs.size:=by simp at hi;omega
   have hip:i<p:=by simp at hi;omega
   have e:xs[i]=a:=by simpa using e
   have q:=b2 i hs hip
   rcases List.mem_cons.mp hb with rfl|hb
   · omega
   · obtain⟨m,hm,e2⟩:=List.mem_iff_getElem.mp hb
     rw[List.getElem_drop] at e2
     have hs2:p+m<xs.size:=by simp at hm;omega
     have e2:xs[p+m]=b:=by simpa using e2
     have:=b3 (p+m) hs2 (by omega)
     omega
theorem zfw (t:SetTable)(ha:Nat->Int)(h:Int):∀(f:Nat) (p:SetTable.Probe) (j:Nat) (d:Option Nat),(∀x,p.dummy=some x->t.slot x=.dummy)->SetTable.probe.go t ha h f p=some (.empty j d)->t.slot j=.empty/\∀x,d=some x->t.slot x=.dummy
 |0,p,j,d,hp,e=>by cases e
 | f + 1, p, j, d, hp, e => by
   unfold SetTable.probe.go at e
   have adv:∀q:SetTable.Probe,(t.advance q).dummy=q.dummy:=fun q=>by unfold SetTable.advance;split<;>rfl
   cases hs:t.slot p.j with
   |empty=>rw[hs] at e;cases e;exact⟨hs,hp⟩
   | dummy =>
     rw[hs] at e
     refine zfw t ha h f _ j d (fun x hx=>?_) e
     rw[adv] at hx
     cases hx;exact hs
   | live i =>
     rw[hs] at e
     dsimp only at e
     split at e
     · cases e
     · exact zfw t ha h f _ j d (fun x hx=>hp x (by rw[adv] at hx;exact hx)) e
theorem zlt {t:SetTable}{h:Int}{slot:Nat}{b:Bool}(e:t.freeSlot h=some (slot,b)):t.place[SetTable.below t.place slot]?≠some slot:=by
 unfold SetTable.freeSlot at e
 split at e
 · rename_i j d hp
   obtain⟨h1,h2⟩:=zfw t _ h _ _ j d (fun x hx=>by cases hx) hp
   cases e
   have key:∀x,(t.slot x=.empty\/t.slot x=.dummy)->t.place[SetTable.below t.place x]?≠some x:=fun x hx z=>by
    unfold SetTable.slot at hx
    dsimp only at hx
    rw[if_pos (by simpa using z)] at hx
    rcases hx with q|q<;>cases q
   cases d with
   |none=>exact key j (.inl h1)
   |some x=>exact key x (.inr (h2 x rfl))
 · cases e
theorem zbZ (n:Nat):Rise (Array.range n):=by
 unfold Rise
 rw[Array.toList_range]
 exact List.pairwise_lt_range
structure TOk (b:Bool) (t:SetTable):Prop where
 led:t.led=b
 rise:Rise t.place
theorem zni {b:Bool}{t:SetTable}(h:TOk b t)(es:Array (Int × Value))(x:Int)(v:Value):TOk b (layNew t es x v).2.1:=by
 unfold layNew
 split
 · rename_i slot d e
   have h1:TOk b (t.put slot).1:=⟨h.led,zfj h.rise (zlt e)⟩
   dsimp only
   unfold SetTable.orStandIn
   split
   · exact h1
   · exact⟨h1.led,zbZ _⟩
 · exact⟨h.led,zbZ _⟩
theorem ziV {b:Bool}{t:SetTable}(h:TOk b t)(es:Array (Int × Value))(n:Nat):TOk b (relayAll t es n).2.1:=by
 unfold relayAll
 split
 · rename_i t' ord e
   have h1:TOk b t':=by
    unfold SetTable.relaid SetTable.laid at e
    cases ec:SetTable.layClean (SetTable.sizeAbove n - 1) (es.map (·.1)) with
    |none=>rw[ec] at e;cases e
    | some ow =>
      rw[ec] at e
      cases e
      refine⟨h.led,?_⟩
      show List.Pairwise _ (List.map _ _)
      rw[List.pairwise_map,List.pairwise_filterMap]
      refine List.pairwise_lt_range.imp fun {x y} hxy a ha c hc=>?_
      cases h1:ow.getD x none with
      |none=>rw[h1] at ha;cases ha
      | some u =>
        cases h2:ow.getD y none with
        |none=>rw[h2] at hc;cases hc
        |some u2=>rw[h1] at ha;rw[h2] at hc;cases ha;cases hc;exact hxy
   dsimp only
   split
   · exact h1
   · exact⟨h.led,zbZ _⟩
 · exact⟨h.led,zbZ _⟩
end R
end
section
set_option maxHeartbeats 4000000
namespace R
open PySem PySem.Spec PyProof.Rows
section
variable {prog:Program} {w:World} {A:Around} {E:Value->Shared->Prop} {s:Shared}
noncomputable abbrev byT (w:World):Bool:=w.params.followText "set-order"
noncomputable def SetD (prog:Program)(w:World)(h:Heap)(a:Addr)(S:Int->Bool)(n:Nat):Prop:=
 ∃o es ep t,h.get? a=some o/\o.ExactSet/\o.data=.set es ep t/\ElemsOf (intKind prog w) es.toList/\(∀k,S k=true↔∃e∈es.toList,(intKind prog w).is k e.2=true)/\es.size<scanBound/\t.fits es.size=true/\es.size=n/\TOk (!byT w) t
theorem SetD.congr {h:Heap}{a:Addr}{S S':Int->Bool}{n n':Nat}(x:SetD prog w h a S n)(e:∀k,S k=S' k)(en:n=n'):SetD prog w h a S' n':=by
 obtain⟨o,es,ep,t,h1,h2,h3,h4,h5,h6,h7,h8,h9⟩:=x
 exact⟨o,es,ep,t,h1,h2,h3,h4,fun k=>by rw[<-e k];exact h5 k,h6,h7,h8.trans en,h9⟩
theorem SetD.at {h h':Heap}{a:Addr}{S:Int->Bool}{n:Nat}(x:SetD prog w h a S n)(k:∀o,h.get? a=some o->h'.get? a=some o):SetD prog w h' a S n:=by
 obtain⟨o,es,ep,t,h1,r⟩:=x
 exact⟨o,es,ep,t,k o h1,r⟩
theorem zhg {h:Heap}{a:Addr}{o:Obj}{es es':Array (Int × Value)}{ep:Nat}{t t':SetTable}{S':Int->Bool}(ho:h.get? a=some o)(hex:o.ExactSet)(hd:o.data=.set es ep t)
  (g1:ElemsOf (intKind prog w) es'.toList) (g2:∀k,S' k=true↔∃e∈es'.toList,(intKind prog w).is k e.2=true) (g3:es'.size<scanBound) (g4:t'.fits es'.size=true) (g5:TOk (!byT w) t') :
  (h.update a (Obj.putSet es' t')).get? a=some {o with data:=.set es' (ep+1) t'}/\SetD prog w (h.update a (Obj.putSet es' t')) a S' es'.size:=by
 obtain⟨k1,_⟩:=SetOf_store (knd:=intKind prog w) ho hex hd g1 g2 g3 g4
 exact⟨k1,_,es',ep+1,t',k1,hex,rfl,g1,g2,g3,g4,rfl,g5⟩
theorem zoT {a:Addr}{S:Int->Bool}{n:Nat}{k:Int}{tk:Tok}{Q:Bool->Shared->Prop}(hS:SetD prog w s.heap a S n)(hr:n+1<scanBound)
  (q:∀h' b,Heap.SameBut a s.heap h'->SetD prog w h' a (fun z=>S z || decide (z=k)) (if S k then n else n+1)->Q b {s with heap:=h'}) :
  wpAny (model prog w) A (setAddHashed a (.int k tk) ((intKind prog w).hash k)) Q E s:=by
 have hkey:(intKind prog w).is k (.int k tk)=true:=intKind_is _ _ _ _
 obtain⟨o,es,ep,t,ho,hex,hd,hel,hmem,hb,hf,hn,ht⟩:=hS
 unfold setAddHashed setAddHashedIn
 refine wpAny_holding (wpAny_bind (wpAny_setState_of ho hd hf ?_))
 dsimp only
 rw[byScan_of (knd:=intKind prog w) rfl hb hel]
 simp only[↓reduceIte]
 unfold setAddByScan
 refine wpAny_bind (wpAny_bind (wpAny_rule (wpAny_bind (wpAny_setScan_of hkey ho hd hf hel ?_))))
 cases hi:List.findIdx? (fun e=>(intKind prog w).is k e.2) es.toList with
 | some j =>
   obtain⟨hj,hp,_⟩:=List.findIdx?_eq_some_iff_getElem.mp hi
   have hk:S k=true:=(hmem k).mpr ⟨_,List.getElem_mem hj,hp⟩
   have:=q s.heap false (Heap.SameBut.refl _ _) ⟨o,es,ep,t,ho,hex,hd,hel,fun z=>?_,hb,hf,by rw[hk];exact hn,ht⟩
   · exact wpAny_pure (wpAny_pure this)
   · rw[<-hmem z]
     by_cases c:z=k
     · subst c;simp[hk]
     · simp[c]
 | none =>
   have hk:S k=false:=by
    cases c:S k with
    |false=>rfl
    | true =>
      obtain⟨e,he,hp⟩:=(hmem k).mp c
      have:=List.findIdx?_eq_none_iff.mp hi e he
      rw[hp] at this;cases this
   have p1:=layNew_perm t es ((intKind prog w).hash k) (.int k tk)
   have p2:=layNew_fits t es ((intKind prog w).hash k) (.int k tk)
   have p3:=zni ht es ((intKind prog w).hash k) (.int k tk)
   dsimp only
   generalize layNew t es ((intKind prog w).hash k) (.int k tk)=L at p1 p2 p3⊢
   obtain⟨e1,t1,wd,gv⟩:=L
   dsimp only at p1 p2 p3⊢
   rw[Array.toList_push] at p1
   have m1:ElemsOf (intKind prog w) e1.toList:=(hel.push hkey rfl).perm p1
   have m2:∀z,(S z || decide (z=k))=true↔∃e∈e1.toList,(intKind prog w).is z e.2=true:=mem_push_iff hkey hmem p1
   have sz:e1.size=n+1:=by rw[<-Array.length_toList,p1.length_eq,List.length_append,Array.length_toList,hn];rfl
   have m3:e1.size<scanBound:=by rw[sz];exact hr
   have gw:∀(b:Bool) {s₁:Shared} {Q':Unit->Shared->Prop},Q' () s₁->wpAny (model prog w) A (match b with|true=>rule "set.scan.the-table-gave-way"|false=>pure ()) Q' E s₁:=fun b s₁ Q' hq=>by
    cases b<;>first|exact wpAny_pure hq|exact wpAny_rule hq
   refine wpAny_bind (gw _ ?_)
   have fin:∀h' b,Heap.SameBut a s.heap h'->SetD prog w h' a (fun z=>S z || decide (z=k)) e1.size->Q b {s with heap:=h'}:=fun h' b hs hD=>q h' b hs (by rw[hk];rw[sz] at hD;exact hD)
   have tail:∀t2:SetTable,t2.fits e1.size=true->TOk (!byT w) t2->wpAny (model prog w) A (do
     storeSet a e1 t2
     if (!wd && t2.tooFull) = true then do
         (match (relayAll t2 e1 (SetTable.grown e1.size)).2.2 with|true=>rule "set.scan.the-table-gave-way"|false=>pure ())
         storeSet a (relayAll t2 e1 (SetTable.grown e1.size)).1 (relayAll t2 e1 (SetTable.grown e1.size)).2.1
         pure (some true)
      else pure (some true)) (fun r s'=>wpAny (model prog w) A (match r with|some added=>pure added|none=>setAddHashedIn a (.int k tk) ((intKind prog w).hash k) 99999) Q E s') E s:=by
    intro t2 f2 o2
    obtain⟨k1,k2⟩:=zhg (prog:=prog) (w:=w) ho hex hd m1 m2 m3 f2 o2
    refine wpAny_bind (wpAny_storeSet_of ho hd ?_ (fits_of_scanBound m3))
    have sb:=Heap.SameBut.update s.heap a (Obj.putSet e1 t2)
    split
    · have r1:=relayAll_perm t2 e1 (SetTable.grown e1.size)
      have r2:=relayAll_fits t2 e1 (SetTable.grown e1.size)
      have r3:=ziV o2 e1 (SetTable.grown e1.size)
      generalize relayAll t2 e1 (SetTable.grown e1.size)=L2 at r1 r2 r3⊢
      obtain⟨e2,t3,g2⟩:=L2
      dsimp only at r1 r2 r3⊢
      have z2:e2.size=e1.size:=by rw[<-Array.length_toList,r1.length_eq,Array.length_toList]
      refine wpAny_bind (gw _ (wpAny_bind (wpAny_storeSet_of k1 rfl ?_ (fits_of_scanBound (by rw[z2];exact m3)))))
      obtain⟨_,k4⟩:=zhg (prog:=prog) (w:=w) k1 hex rfl (m1.perm r1) (fun z=>(m2 z).trans ⟨fun⟨e,he,qq⟩=>⟨e,r1.mem_iff.mpr he,qq⟩,fun⟨e,he,qq⟩=>⟨e,r1.mem_iff.mp he,qq⟩⟩) (by rw[z2];exact m3) r2 r3
      rw[z2] at k4
      exact wpAny_pure (wpAny_pure (fin _ _ (sb.trans (Heap.SameBut.update _ a _)) k4))
    · exact wpAny_pure (wpAny_pure (fin _ _ sb k2))
   split
   · refine wpAny_bind ?_
     rw[hashByValue_scannable 8 (show (Value.int k tk).scannable=true from rfl)]
     exact wpAny_pure (tail _ p2 p3)
   · exact wpAny_bind (wpAny_pure (tail _ p2 p3))
end
end R
end
section
set_option maxHeartbeats 8000000
namespace R
open PySem PySem.Spec PyProof.Rows
section
variable {prog:Program} {w:World} {A:Around} {R:Result->Shared->Prop} {I:Addr} {fp wr:List Addr} {G:Array GenState->Array GenState->Prop} {n:Nat} {P:Nat->Value->Prop} {St:Nat->Shared->Prop}
theorem znf (W:WalksS prog w A.in1 I fp wr G n P St)(a:Addr)(ha:a∉fp)(val:Nat->Int)(hv:∀i v,P i v->∃t,v=.int (val i) t)(hb:n+1<scanBound) :
  ∀(m i:Nat) (s:Shared),n - i=m->i<=n->St i s->SetD prog w s.heap a (fun z=>(firstMet val i).any (· == z)) (firstMet val i).length->
   (∀s',Moved (a::wr) G s s'->SetD prog w s'.heap a (fun z=>(firstMet val n).any (· == z)) (firstMet val n).length->R (.ok (.ret .none)) s')->
   codeAny (model prog w) A (.builtin "set.update.loop" ⟨[.ref a,.ref I],[]⟩) R s:=by
 have aw:a∉wr:=fun z=>ha (W.sub _ z)
 have up:∀b∈wr,b∈a::wr:=fun b z=>List.mem_cons_of_mem _ z
 intro m
 induction m with
 | zero =>
   intro i s hm hi st hS fin
   obtain rfl:i=n:=by omega
   refine codeAny_builtin F.entry_set_update_loop ?_
   rw[Around.under_plainId F.plain_set_update_loop _]
   show wpAny _ A.in1 (pyNext (.ref I) >>= _) _ _ s
   refine wpAny_bind (W.done s _ _ st fun s' mv=>?_)
   show wpAny _ A.in1 (ret Value.none) _ _ s'
   exact wpAny_pure (fin s' (mv.mono up) (hS.at fun o e=>mv.heap a o aw e))
 | succ m ih =>
   intro i s hm hi st hS fin
   refine codeAny_builtin F.entry_set_update_loop ?_
   rw[Around.under_plainId F.plain_set_update_loop _]
   show wpAny _ A.in1 (pyNext (.ref I) >>= _) _ _ s
   refine wpAny_bind (W.item i s _ _ (by omega) st fun v s' hP st' mv=>?_)
   obtain⟨t,rfl⟩:=hv i v hP
   have hS':=hS.at (h':=s'.heap) fun o e=>mv.heap a o aw e
   show wpAny _ A.in1 (holding [Value.int (val i) t] (setAdd a (.int (val i) t)) >>= _) _ _ s'
   refine wpAny_bind (wpAny_holding ?_)
   unfold setAdd
   refine wpAny_holding (wpAny_bind ((intKind prog w).pyHash (k:=val i) (intKind_is _ _ _ _) ?_))
   have room:(firstMet val i).length+1<scanBound:=by have:=firstMet_length_le val i;omega
   refine zoT (s:={s' with toks:=s'.toks+1}) hS' room fun h' b sb hS2=>?_
   have hS3:SetD prog w h' a (fun z=>(firstMet val (i+1)).any (· == z)) (firstMet val (i+1)).length:=hS2.congr (fun z=>by rw[firstMet_succ,step_any]) (by rw[firstMet_succ,step_length])
   refine wpAny_pure ⟨plainId_quiet F.plain_set_update_loop _,ih (i+1) _ (by omega) (by omega) (W.frame _ s' _ _ st' (Nat.le_succ _) fun b hb o e=>?_) hS3 fun s2 mv2 hS4=>?_⟩
   · rw[sb.2 b fun z:b=a=>ha (z▸hb)];exact e
   · refine fin s2 (Moved.trans W.gtrans ((mv.mono up).then_heap (Nat.le_succ _) fun b o hb e=>?_) mv2) hS4
     rw[sb.2 b fun z:b=a=>hb (by rw[z];exact List.mem_cons_self)];exact e
end
section
variable {prog:Program} {w:World} {A:Around} {E:Value->Shared->Prop} {s:Shared}
noncomputable abbrev sD0 (b:Bool):Obj:={cls:=.type "set",dict:=none,data:=.set #[] 0 (.fresh 0 0 b)}
theorem zoA (a:Value){Q₁:Value->Shared->Prop}(h:Q₁ (.ref s.heap.objs.size) {s with heap:=s.heap.push (sD0 (!byT w))}):codeAny (model prog w) A (.call (.builtin "set.__new__") ⟨[.type "set",a],[]⟩) (wants Q₁ E) s:=by
 refine codeAny_of_tree ?_
 show wpAny _ A.in1 (do checkBuiltinCall "set.__new__" ⟨[.type "set",a],[]⟩;again (.builtin "set.__new__" ⟨[.type "set",a],[]⟩)) _ _ s
 refine wpAny_bind (wpAny_of_eq (F.newCall_set_1 a) (wpAny_pure ⟨plainId_quiet F.plain_set_new _,codeAny_builtin F.entry_set_new ?_⟩))
 rw[Around.under_plainId F.plain_set_new _]
 unfold Builtin.«set.__new__» Builtin.Frozenset.newClass
 have q:=sub_set_self
 obtain⟨x1,x2,x3,x4,x5⟩:=s
 dsimp only
 wp_walk
 refine wpAny_askSetting (wpAny_pure ?_)
 dsimp only
 simp only[newObj]
 exact wpAny_bind (wpAny_alloc (wpAny_pure (wpAny_pure h)))
theorem zhj {l:Addr}{its:Array Value}{ms:List Int}{Q:Value->Shared->Prop}(hc:A.handled=none)(hl:s.heap.IsList l its)(hi:IntsAre its.toList ms)(hb:its.size+1<scanBound)
  (fin:∀(g:Heap) (tk:Nat),SetD prog w g s.heap.objs.size (fun z=>(firstMet (fun i=>ms.getD i 0) its.size).any (· == z)) (firstMet (fun i=>ms.getD i 0) its.size).length->
   (∀b o,b<s.heap.objs.size->s.heap.get? b=some o->g.get? b=some o)->Q (.ref s.heap.objs.size) {s with heap:=g,toks:=tk}):wpAny (model prog w) A (call (.type "set") [.ref l]) Q E s:=by
 obtain⟨mc,mt,hmro⟩:=F.called_set.mro
 have c1:=F.called_set.made
 have c2:=F.called_set.sub
 refine wpAny_call (codeAny_of_tree ?_)
 show wpAny _ _ (callAny (.type "set") _) _ _ _
 refine wpAny_pure ⟨Code.quiet_builtin _ (by decide +kernel),codeAny_builtin F.entry_type_call ?_⟩
 rw[Around.under_plain (weight_type_call_type "set" [.ref l] []) rfl]
 have c3:=F.called_set.notType
 have c4:=F.called_set.canCreate
 have c5:=F.typeCall_set_1 (.ref l)
 repeat (any_goals (first|assumption|wp_step))
 refine codeAny_mono (zoA (.ref l) (E:=E) (Q₁:=fun o z=>o=.ref s.heap.objs.size/\z={s with heap:=s.heap.push (sD0 (!byT w))}) ⟨rfl,rfl⟩) fun r z hr=>?_
 cases r with
 |error e=>exact hr
 | ok fl =>
   cases fl with
   | ret o =>
     obtain⟨rfl,rfl⟩:=hr
     have g0:(s.heap.push (sD0 (!byT w))).get? s.heap.objs.size=some (sD0 (!byT w)):=Heap.get?_push_size _ rfl
     have g1:Shared.TypeIs {s with heap:=s.heap.push (sD0 (!byT w))} (.ref s.heap.objs.size) "set":=⟨_,g0,rfl⟩
     have c6:=F.called_set.init.lookup
     have c7:=F.called_set.init.bind (.ref s.heap.objs.size)
     repeat (any_goals (first|assumption|wp_step))
     refine codeAny_mono (codeAny_call_builtin (R:=wants (fun r z=>r=.none/\∃g tk,z={s with heap:=g,toks:=tk}/\
      SetD prog w g s.heap.objs.size (fun z=>(firstMet (fun i=>ms.getD i 0) its.size).any (· == z)) (firstMet (fun i=>ms.getD i 0) its.size).length/\
      (∀b o,b<s.heap.objs.size->s.heap.get? b=some o->g.get? b=some o)) E) F.called_set.init.plain F.entry_set_init (check_set_init_1 g1 ?_)) fun r2 z2 hr2=>?_
     · obtain⟨⟨oc,od,oda,osl⟩,ho,hcl,nl,hda⟩:=id hl
       simp only at hcl hda
       subst hcl hda
       have ho':(s.heap.push (sD0 (!byT w))).get? l=some {cls:=.type "list",dict:=od,data:=.seq its nl,slots:=osl}:=Heap.get?_push_of_some _ ho
       have d1:=F.sub_list_set
       have d2:=F.sub_list_frozenset
       have d3:(Value.type "list" == Value.type "dict")=false:=by decide
       have ht1:(s.heap.push (sD0 (!byT w))).IsList l its:=⟨_,ho',rfl,nl,rfl⟩
       unfold Builtin.«set.__init__» noKeywords Builtin.Frozenset.updateFrom
       generalize hPI:pyIter=PI
       wp_walk
       subst hPI
       refine wpAny_pyIter_list ht1 ?_
       refine wpAny_bind (wpAny_runValue ?_)
       have tl:l<s.heap.objs.size:=Heap.lt_size ho
       have tn:l≠(s.heap.push (sD0 (!byT w))).objs.size:=by rw[Heap.size_push];exact Nat.ne_of_lt (Nat.lt_succ_of_lt tl)
       have sn:s.heap.objs.size∉[(s.heap.push (sD0 (!byT w))).objs.size,l]:=by
        rw[Heap.size_push]
        simp only[List.mem_cons,List.not_mem_nil,or_false,not_or]
        exact⟨Nat.ne_of_lt (Nat.lt_succ_self _),Nat.ne_of_gt tl⟩
       refine znf ((Walks.list (by simp[hc]) _ l tn its).toS) s.heap.objs.size sn (fun i=>ms.getD i 0) (fun i v hv=>IntsAre.int_at hi i v (by rw[Array.getElem?_toList];exact hv)) hb (its.size - 0) 0 _ (by omega) (Nat.zero_le _)
        ⟨⟨_,Heap.get?_push_size _ rfl,rfl,rfl⟩,ht1.push _⟩ ?start ?last
       case start=>exact⟨_,#[],0,_,Heap.get?_push_of_some _ g0,⟨rfl,rfl,rfl⟩,rfl,fun e he=>by simp at he,fun k=>by simp[firstMet],by decide,by rfl,rfl,rfl,List.Pairwise.nil⟩
       case last=>
        rintro⟨g,gg,dd,tk,oo⟩ mv hS
        obtain rfl:gg=s.gens:=mv.gens
        obtain rfl:dd=s.drawn:=mv.drawn
        obtain rfl:oo=s.os:=mv.os
        show wpAny _ _ _ _ _ _
        refine wpAny_pure ?_
        show wpAny _ _ (ret Value.none) _ _ _
        refine wpAny_pure ⟨rfl,g,tk,rfl,hS,fun b o hb e=>mv.heap b o ?_ (Heap.get?_push_of_some _ (Heap.get?_push_of_some _ e))⟩
        rw[Heap.size_push]
        simp only[List.mem_cons,List.not_mem_nil,or_false,not_or]
        exact⟨Nat.ne_of_lt hb,Nat.ne_of_lt (Nat.lt_succ_of_lt hb)⟩
     · cases r2 with
       |error e=>exact hr2
       | ok f2 =>
         cases f2 with
         | ret r =>
           obtain⟨rfl,g,tk,rfl,hS,hk⟩:=hr2
           repeat (any_goals (first|assumption|wp_step))
           exact fin _ _ hS hk
         |_=>exact hr2.elim
   |_=>exact hr.elim
end
end R
end
section
set_option maxHeartbeats 4000000
namespace R
open PySem PySem.Spec PyProof.Rows
theorem ze1:entryFor table "set.__iter__"=some Builtin.«frozenset.__iter__»:=entryFor_alias (id':="frozenset.__iter__") (by kernel_rfl) rfl (by decide +kernel) (by kernel_rfl)
theorem slot_sit_next:Slot "set_iterator" "__next__" "set_iterator.__next__":=
 .of (owner:="set_iterator") (n:="__next__") (by rw[typeLookup_type,builtinLookup_eq_fast];kernel_rfl) (by decide +kernel) (by decide +kernel) (by decide +kernel) (by first|exact .inl (by decide +kernel)|exact .inr (by decide +kernel)) (by rw[isSubtype_type];kernel_rfl)
theorem zbU:entryFor table "set_iterator.__next__"=some Builtin.«set_iterator.__next__»:=entryFor_of_fast (by kernel_rfl)
theorem zbG (a:Value):argsOk "set_iterator.__next__" ⟨[a],[]⟩:=by unfold argsOk;kernel_rfl
theorem zaW:Slot "set_iterator" "__iter__" "set_iterator.__iter__":=
 .of (owner:="set_iterator") (n:="__iter__") (by rw[typeLookup_type,builtinLookup_eq_fast];kernel_rfl) (by decide +kernel) (by decide +kernel) (by decide +kernel) (by first|exact .inl (by decide +kernel)|exact .inr (by decide +kernel)) (by rw[isSubtype_type];kernel_rfl)
theorem zbV:entryFor table "set_iterator.__iter__"=some Builtin.«dict_keyiterator.__iter__»:=entryFor_alias (id':="dict_keyiterator.__iter__") (by kernel_rfl) rfl (by decide +kernel) (by kernel_rfl)
theorem zbH (a:Value):argsOk "set_iterator.__iter__" ⟨[a],[]⟩:=by unfold argsOk;kernel_rfl
end R
end
section
set_option maxHeartbeats 4000000
namespace R
open PySem PySem.Spec PyProof.Rows
section
variable {prog:Program} {w:World} {A:Around} {E:Value->Shared->Prop} {s:Shared} {a j:Addr} {o:Obj} {es:Array (Int × Value)} {ep:Nat} {t:SetTable}
theorem zgW {α:Type}{M:Model}{src:Source}{n:Nat}{k:Nat->Sem α}{Q:α->Shared->Prop}(hn:n≠0)(h:∀i d',i<n->wpAny M A (k i) Q E {s with drawn:=d'}):wpAny M A (.choose src n k) Q E s:=fun Γ p hΓ=>by
 rw[Sem.wp_choose]
 exact⟨hn,h _ _ (Nat.mod_lt _ (Nat.pos_of_ne_zero hn)) Γ p hΓ⟩
theorem zcI {α:Type}:∀(l:List α) (j:Nat) (h:j<l.length),(l[j]::l.eraseIdx j).Perm l
 |x::l,0,h=>List.Perm.refl _
 | x :: l, j + 1, h => by
   have hj:j<l.length:=by simpa using h
   have ih:=zcI l j hj
   show (l[j]::x::l.eraseIdx j).Perm (x::l)
   exact (List.Perm.swap _ _ _).trans (ih.cons x)
theorem zgi {α:Type}:∀(n:Nat) (xs:List α) {s:Shared} {Q:List α->Shared->Prop},xs.length=n->(∀ys d',ys.Perm xs->Q ys {s with drawn:=d'})->wpAny (model prog w) A (drawOrder n xs) Q E s
 | 0, xs, s, Q, hl, h => by
   cases List.length_eq_zero_iff.mp hl
   exact wpAny_pure (h [] s.drawn (List.Perm.refl _))
 |n+1,[],s,Q,hl,h=>by cases hl
 | n + 1, x :: xs, s, Q, hl, h => by
   unfold drawOrder
   refine wpAny_bind (zgW (by simp) fun i d' hi=>wpAny_pure ?_)
   rw[List.getElem?_eq_getElem hi]
   dsimp only
   refine wpAny_bind (zgi n _ (by rw[List.length_eraseIdx_of_lt hi];simp at hl⊢;exact hl) fun ys d2 hp=>wpAny_pure (h _ d2 ?_))
   exact (hp.cons _).trans (zcI _ _ hi)
theorem zhB {α:Type}(f:Nat->Nat):∀(n k:Nat) (left:List α) (out:Array α),left.length=n->(pickOrder.go f n k left out).toList.Perm (out.toList++left)
 | 0, k, left, out, hl => by
   cases List.length_eq_zero_iff.mp hl
   unfold pickOrder.go
   rw[List.append_nil]
 | n + 1, k, left, out, hl => by
   unfold pickOrder.go
   have hi:f k % left.length<left.length:=Nat.mod_lt _ (by omega)
   rw[List.getElem?_eq_getElem hi]
   dsimp only
   refine (zhB f n (k+1) _ _ (by rw[List.length_eraseIdx_of_lt hi];omega)).trans ?_
   rw[Array.toList_push,List.append_assoc]
   exact List.Perm.append_left _ (zcI _ _ hi)
theorem zhA {α:Type}(f:Nat->Nat)(xs:Array α):(pickOrder f xs).toList.Perm xs.toList:=by
 have:=zhB f xs.size 0 xs.toList #[] (by simp)
 simpa[pickOrder] using this
noncomputable def SIt (h:Heap)(j a:Addr)(f:Value)(i n ep:Nat):Prop:=h.get? j=some {cls:=.type "set_iterator",dict:=none,data:=.fields #[f,rawInt i,.ref a,rawInt n,rawInt ep],slots:=#[]}
theorem zfQ {f f' i:Nat}{x:Value}{Q:Option Value->Shared->Prop}(ht:SIt s.heap j a (rawInt f) i es.size ep)(ho:s.heap.get? a=some o)(hd:o.data=.set es ep t)(hf:t.fits es.size=true)
  (hx:∀(A:Around) (E:Value->Shared->Prop) (Q':Option (Value × Nat)->Shared->Prop),Q' (some (x,f')) s->wpAny (model prog w) A (setNext a f i ep) Q' E s)
  (q:∀h',SIt h' j a (rawInt f') (i+1) es.size ep->Heap.SameBut j s.heap h'->Q (some x) {s with heap:=h'}):wpAny (model prog w) A (pyNext (.ref j)) Q E s:=by
 have ty:s.TypeIs (.ref j) "set_iterator":=⟨_,ht,rfl⟩
 unfold pyNext
 refine wpAny_bind (wpAny_attempt (wpAny_callSpecial?_slot (name:=Str.ofString "__next__") ty slot_sit_next (wpAny_call_entry slot_sit_next ty zbU ?_ (zbG _))))
 unfold Builtin.«set_iterator.__next__»
 refine wpAny_bind (m:=slotArgs "__next__" 0 _) (wpAny_pure ?_)
 refine wpAny_bind (wpAny_fieldsOf ht rfl ?_)
 show wpAny _ _ (setEntries a >>= _) _ _ s
 refine wpAny_bind (wpAny_setEntries_of ho hd hf ?_)
 rw[if_neg (by simp)]
 refine wpAny_bind (hx _ _ _ ?_)
 refine wpAny_bind (wpAny_setField_rec ht (by simp) fun h1 g1 s1=>?_)
 refine wpAny_bind (wpAny_setField_rec (s:={s with heap:=h1}) g1 (by simp) fun h2 g2 s2=>?_)
 exact wpAny_pure ⟨_,rfl,wpAny_pure (q h2 g2 (s1.trans s2))⟩
theorem zhi {f:Value}{i:Nat}{Q:Option Value->Shared->Prop}(hh:A.handled=none)(ht:SIt s.heap j a f i es.size ep)(ho:s.heap.get? a=some o)(hd:o.data=.set es ep t)(hf:t.fits es.size=true)
  (hx:∀(A:Around) (E:Value->Shared->Prop) (Q':Fin->Shared->Prop),A.handled=none->(∀h' e,Heap.ExtBut j s.heap h'->(∃oe,h'.get? e=some oe/\oe.cls=.type "StopIteration")->E (.ref e) {s with heap:=h'})->wpAny (model prog w) A (Builtin.«set_iterator.__next__» ⟨[.ref j],[]⟩) Q' E s)
  (q:∀h',Heap.ExtBut j s.heap h'->Q none {s with heap:=h'}):wpAny (model prog w) A (pyNext (.ref j)) Q E s:=by
 have ty:s.TypeIs (.ref j) "set_iterator":=⟨_,ht,rfl⟩
 unfold pyNext
 refine wpAny_bind (wpAny_attempt (wpAny_callSpecial?_slot (name:=Str.ofString "__next__") ty slot_sit_next (wpAny_call_entry slot_sit_next ty zbU ?_ (zbG _))))
 refine hx _ _ _ hh fun h' e k ⟨oe,he,hc⟩=>?_
 refine wpAny_bind (wpAny_isInstance (b:=true) (T:="StopIteration") ⟨oe,he,hc⟩ isSubtype_stop ?_)
 exact wpAny_pure (q h' k)
theorem zdI {Q':Fin->Shared->Prop}{s':Shared}(hh:A.handled=none)(k0:Heap.ExtBut j s.heap s'.heap)(es':s'={s with heap:=s'.heap})
  (h:∀h' e,Heap.ExtBut j s.heap h'->(∃oe,h'.get? e=some oe/\oe.cls=.type "StopIteration")->E (.ref e) {s with heap:=h'}) :
  wpAny (model prog w) A (do raiseNew (<-newExc (.type "StopIteration") []):Sem Fin) Q' E s':=by
 rw[es']
 refine wpAny_bind ?_
 simp only[newExc,newTuple]
 refine wpAny_bind (wpAny_newObj_type ?_ (by size_fits))
 refine wpAny_bind (m:=firstArgMember _ _) (wpAny_of_eq (a:=Value.none) (by first|rfl|(simp only[firstArgMember];rfl)) (wpAny_newObj_type ?_ (by size_fits)))
 simp only[raiseNew]
 refine wpAny_bind (wpAny_handled ?_)
 rw[hh]
 exact wpAny_bind (wpAny_pure (wpAny_throw (h _ _ ((k0.push _).push _) ⟨_,Heap.get?_push_size _ rfl,rfl⟩)))
end
end R
end
section
set_option maxHeartbeats 4000000
namespace R
open PySem PySem.Spec PyProof.Rows
section
variable {prog:Program} {w:World} {A:Around} {E:Value->Shared->Prop} {s:Shared} {a j:Addr} {o:Obj} {es:Array (Int × Value)} {ep:Nat} {t:SetTable}
theorem zfR {f i:Nat}{Q:Option Value->Shared->Prop}(hh:A.handled=none)(ht:SIt s.heap j a (rawInt f) i es.size ep)(ho:s.heap.get? a=some o)(hd:o.data=.set es ep t)(hf:t.fits es.size=true)
  (hx:∀(A:Around) (E:Value->Shared->Prop) (Q':Option (Value × Nat)->Shared->Prop),Q' none s->wpAny (model prog w) A (setNext a f i ep) Q' E s)
  (q:∀h',Heap.ExtBut j s.heap h'->Q none {s with heap:=h'}):wpAny (model prog w) A (pyNext (.ref j)) Q E s:=by
 refine zhi hh ht ho hd hf (fun A E Q' hA hE=>?_) q
 unfold Builtin.«set_iterator.__next__»
 refine wpAny_bind (m:=slotArgs "__next__" 0 _) (wpAny_pure ?_)
 refine wpAny_bind (wpAny_fieldsOf ht rfl ?_)
 show wpAny _ _ (setEntries a >>= _) _ _ s
 refine wpAny_bind (wpAny_setEntries_of ho hd hf ?_)
 rw[if_neg (by simp)]
 refine wpAny_bind (hx _ _ _ ?_)
 refine wpAny_bind (wpAny_setField_rec ht (by simp) fun h1 g1 s1=>?_)
 exact zdI (s:=s) (s':={s with heap:=h1}) hA s1.extBut rfl hE
noncomputable def PTg (h:Heap)(tp:Addr)(ps:List Nat):Prop:=h.get? tp=some {cls:=.type "tuple",data:=.seq (ps.map fun (p:Nat)=>rawInt p).toArray}
theorem zhh {tp:Addr}{ps:List Nat}{i p:Nat}{x:Value}{hs:Int}{Q:Option Value->Shared->Prop}(ht:SIt s.heap j a (.ref tp) i es.size ep)(ho:s.heap.get? a=some o)(hd:o.data=.set es ep t)(hf:t.fits es.size=true)
  (hp:PTg s.heap tp ps) (hi:ps[i]?=some p) (hx:es[p]?=some (hs,x))
  (q:∀h',SIt h' j a (.ref tp) (i+1) es.size ep->Heap.SameBut j s.heap h'->Q (some x) {s with heap:=h'}):wpAny (model prog w) A (pyNext (.ref j)) Q E s:=by
 have ty:s.TypeIs (.ref j) "set_iterator":=⟨_,ht,rfl⟩
 unfold pyNext
 refine wpAny_bind (wpAny_attempt (wpAny_callSpecial?_slot (name:=Str.ofString "__next__") ty slot_sit_next (wpAny_call_entry slot_sit_next ty zbU ?_ (zbG _))))
 unfold Builtin.«set_iterator.__next__»
 refine wpAny_bind (m:=slotArgs "__next__" 0 _) (wpAny_pure ?_)
 refine wpAny_bind (wpAny_fieldsOf ht rfl ?_)
 show wpAny _ _ (setEntries a >>= _) _ _ s
 refine wpAny_bind (wpAny_setEntries_of ho hd hf ?_)
 rw[if_neg (by simp)]
 refine wpAny_bind (wpAny_seqItems hp rfl ?_)
 have e1:(ps.map fun (p:Nat)=>rawInt p).toArray[i]?=some (rawInt p):=by simp[hi]
 show wpAny _ _ (match (ps.map fun (p:Nat)=>rawInt p).toArray[i]? with|some (.int place _)=>_|some _=>_|none=>_) _ _ s
 rw[e1]
 show wpAny _ _ (setNextDrawn a p ep >>= _) _ _ s
 unfold setNextDrawn
 refine wpAny_bind (wpAny_bind (wpAny_setState_of ho hd hf ?_))
 dsimp only
 rw[if_neg (by simp),hx]
 refine wpAny_pure ?_
 refine wpAny_bind (wpAny_setField_rec ht (by simp) fun h1 g1 s1=>?_)
 exact wpAny_pure ⟨_,rfl,wpAny_pure (q h1 g1 s1)⟩
theorem ziJ {tp:Addr}{ps:List Nat}{i:Nat}{Q:Option Value->Shared->Prop}(hh:A.handled=none)(ht:SIt s.heap j a (.ref tp) i es.size ep)(ho:s.heap.get? a=some o)(hd:o.data=.set es ep t)(hf:t.fits es.size=true)
  (hp:PTg s.heap tp ps) (hi:ps.length<=i) (q:∀h',Heap.ExtBut j s.heap h'->Q none {s with heap:=h'}):wpAny (model prog w) A (pyNext (.ref j)) Q E s:=by
 refine zhi hh ht ho hd hf (fun A E Q' hA hE=>?_) q
 unfold Builtin.«set_iterator.__next__»
 refine wpAny_bind (m:=slotArgs "__next__" 0 _) (wpAny_pure ?_)
 refine wpAny_bind (wpAny_fieldsOf ht rfl ?_)
 show wpAny _ _ (setEntries a >>= _) _ _ s
 refine wpAny_bind (wpAny_setEntries_of ho hd hf ?_)
 rw[if_neg (by simp)]
 refine wpAny_bind (wpAny_seqItems hp rfl ?_)
 have e1:(ps.map fun (p:Nat)=>rawInt p).toArray[i]?=none:=by simp;exact hi
 show wpAny _ _ (match (ps.map fun (p:Nat)=>rawInt p).toArray[i]? with|some (.int place _)=>_|some _=>_|none=>_) _ _ s
 rw[e1]
 refine wpAny_bind (wpAny_setField_rec ht (by simp) fun h1 g1 s1=>?_)
 refine wpAny_bind (wpAny_setField_rec (s:={s with heap:=h1}) g1 (by simp) fun h2 g2 s2=>?_)
 exact zdI (s:=s) (s':={s with heap:=h2}) hA (s1.trans s2).extBut rfl hE
theorem zjW {f i:Nat}{Q:Option (Value × Nat)->Shared->Prop}(hb:byT w=true)(ho:s.heap.get? a=some o)(hd:o.data=.set es ep t)(hf:t.fits es.size=true)
  (q:Q ((pickOrder (w.params.setOrder a ep) es)[i]?.map fun e=>(e.2,f)) s):wpAny (model prog w) A (setNext a f i ep) Q E s:=by
 unfold setNext
 refine wpAny_bind (wpAny_setState_of ho hd hf ?_)
 dsimp only
 unfold setsByText
 refine wpAny_bind (wpAny_bind (wpAny_askSetting (wpAny_pure ?_)))
 rw[if_pos (show (model prog w).w.params.followText "set-order"=true from hb)]
 rw[if_neg (by simp)]
 unfold setWalk
 refine wpAny_bind (wpAny_bind (wpAny_setState_of ho hd hf ?_))
 dsimp only
 unfold setsByText
 refine wpAny_bind (wpAny_bind (wpAny_askSetting (wpAny_pure ?_)))
 rw[if_pos (show (model prog w).w.params.followText "set-order"=true from hb)]
 exact wpAny_bind (wpAny_askSetting (wpAny_pure (wpAny_pure q)))
theorem zjX {f i:Nat}{Q:Option (Value × Nat)->Shared->Prop}(hb:byT w=false)(ho:s.heap.get? a=some o)(hd:o.data=.set es ep t)(hf:t.fits es.size=true)(hl:t.led=true)(hp:(!t.plain&&decide (es.size > 1))=false)
  (q:Q (match es[SetTable.below t.place f]?,t.place[SetTable.below t.place f]? with|some (_,x),some j=>some (x,j+1)|_,_=>none) s):wpAny (model prog w) A (setNext a f i ep) Q E s:=by
 unfold setNext
 refine wpAny_bind (wpAny_setState_of ho hd hf ?_)
 dsimp only
 unfold setsByText
 refine wpAny_bind (wpAny_bind (wpAny_askSetting (wpAny_pure ?_)))
 rw[if_neg (show ¬(model prog w).w.params.followText "set-order"=true by rw[show (model prog w).w.params.followText "set-order"=byT w from rfl,hb];decide)]
 show wpAny _ _ (if (!t.plain&&decide (es.size > 1))=true then _ else _) _ _ s
 rw[if_neg (by rw[hp];decide)]
 show wpAny _ _ ((if (!t.led&&!es.isEmpty)=true then unsupported "set:maker-not-led" else pure ()) >>= _) _ _ s
 rw[if_neg (by rw[hl];simp)]
 exact wpAny_bind (wpAny_pure (wpAny_pure q))
end
end R
end
section
set_option maxHeartbeats 4000000
namespace R
open PySem PySem.Spec PyProof.Rows
section
variable {prog:Program} {w:World} {A:Around} {E:Value->Shared->Prop} {s:Shared} {a j:Addr} {o:Obj} {es:Array (Int × Value)} {ep:Nat} {t:SetTable}
noncomputable abbrev YP (vals:List Value):Nat->Value->Prop:=fun i v=>vals[i]?=some v
theorem zlP (hh:A.handled=none)(hne:a≠j)(hb:byT w=true)(hd:o.data=.set es ep t)(hf:t.fits es.size=true) :
  Walks prog w A j [j,a] [j] ((pickOrder (w.params.setOrder a ep) es).toList.map (·.2)).length (YP ((pickOrder (w.params.setOrder a ep) es).toList.map (·.2))) (fun i h=>SIt h j a (rawInt 0) i es.size ep/\h.get? a=some o) where
 sub:=fun b hb=>by simp at hb;simp[hb]
 frame:=fun _ _ _ st hk=>⟨hk j (by simp) _ st.1,hk a (by simp) _ st.2⟩
 item:=fun i s Q E hi st hQ=>by
  have hi':i<(pickOrder (w.params.setOrder a ep) es).size:=by simpa using hi
  refine zfQ (x:=(pickOrder (w.params.setOrder a ep) es)[i].2) (f':=0) st.1 st.2 hd hf (fun A E Q' q=>zjW hb st.2 hd hf (by rw[Array.getElem?_eq_getElem hi'];exact q)) fun h' g sb=>?_
  exact hQ _ h' s.toks (by simp[YP,hi']) ⟨g,sb.extBut a _ hne st.2⟩ fun b o hb e=>sb.extBut b o (fun z=>hb (by simp[z])) e
 done:=fun s Q E st hQ=>by
  have hi':(pickOrder (w.params.setOrder a ep) es).size<=((pickOrder (w.params.setOrder a ep) es).toList.map (·.2)).length:=by simp
  exact zfR hh st.1 st.2 hd hf (fun A E Q' q=>zjW hb st.2 hd hf (by rw[Array.getElem?_eq_none hi'];exact q)) fun h' k=>hQ h' s.toks fun b o hb e=>k b o (fun z=>hb (by simp[z])) e
 self:=fun i s Q E st hQ=>by
  have ty:s.TypeIs (.ref j) "set_iterator":=⟨_,st.1,rfl⟩
  refine wpAny_pyIter_slot ty zaW (wpAny_call_entry zaW ty zbV ?_ (zbH _))
  show wpAny _ _ (ret (.ref j)) _ _ s
  exact wpAny_pure ⟨_,rfl,"set_iterator",_,ty,slot_sit_next.lookup,hQ⟩
noncomputable def zfP (t:SetTable):Nat->Nat
 |0=>0
 |i+1=>t.place.getD i 0+1
theorem zdK (h:Rise t.place){i:Nat}(hi:i<=t.place.size):SetTable.below t.place (zfP t i)=i:=by
 cases i with
 |zero=>exact zg0 h
 | succ i =>
   have hi':i<t.place.size:=by omega
   show SetTable.below t.place (t.place.getD i 0+1)=_
   rw[show t.place.getD i 0=t.place[i] by simp[Array.getD,hi']]
   exact zg1 h hi'
theorem zlQ (hh:A.handled=none)(hne:a≠j)(hb:byT w=false)(hd:o.data=.set es ep t)(hf:t.fits es.size=true)(ht:TOk (!byT w) t)(hp:(!t.plain&&decide (es.size > 1))=false) :
  Walks prog w A j [j,a] [j] (es.toList.map (·.2)).length (YP (es.toList.map (·.2))) (fun i h=>i<=es.size/\SIt h j a (rawInt (zfP t i)) i es.size ep/\h.get? a=some o) where
 sub:=fun b hb=>by simp at hb;simp[hb]
 frame:=fun _ _ _ st hk=>⟨st.1,hk j (by simp) _ st.2.1,hk a (by simp) _ st.2.2⟩
 item:=fun i s Q E hi st hQ=>by
  have hi':i<es.size:=by simpa using hi
  have hz:t.place.size=es.size:=by simp only[SetTable.fits,Bool.and_eq_true,beq_iff_eq] at hf;exact hf.1
  have hl:t.led=true:=by rw[ht.led,hb];rfl
  have hpl:t.place[i]?=some t.place[i]:=Array.getElem?_eq_getElem (by omega)
  refine zfQ (x:=es[i].2) (f':=zfP t (i+1)) st.2.1 st.2.2 hd hf (fun A E Q' q=>zjX hb st.2.2 hd hf hl hp ?_) fun h' g sb=>?_
  · rw[zdK ht.rise (by omega),Array.getElem?_eq_getElem hi',hpl]
    have:zfP t (i+1)=t.place[i]+1:=by show t.place.getD i 0+1=_;simp[Array.getD,show i<t.place.size by omega]
    rw[this] at q
    exact q
  · exact hQ _ h' s.toks (by simp[YP,hi']) ⟨hi',g,sb.extBut a _ hne st.2.2⟩ fun b o hb e=>sb.extBut b o (fun z=>hb (by simp[z])) e
 done:=fun s Q E st hQ=>by
  have hz:t.place.size=es.size:=by simp only[SetTable.fits,Bool.and_eq_true,beq_iff_eq] at hf;exact hf.1
  have hl:t.led=true:=by rw[ht.led,hb];rfl
  have hn:(es.toList.map (·.2)).length=es.size:=by simp
  rw[hn] at st
  refine zfR hh st.2.1 st.2.2 hd hf (fun A E Q' q=>zjX hb st.2.2 hd hf hl hp ?_) fun h' k=>hQ h' s.toks fun b o hb e=>k b o (fun z=>hb (by simp[z])) e
  rw[zdK ht.rise (by omega),Array.getElem?_eq_none (Nat.le_refl _)]
  exact q
 self:=fun i s Q E st hQ=>by
  have ty:s.TypeIs (.ref j) "set_iterator":=⟨_,st.2.1,rfl⟩
  refine wpAny_pyIter_slot ty zaW (wpAny_call_entry zaW ty zbV ?_ (zbH _))
  show wpAny _ _ (ret (.ref j)) _ _ s
  exact wpAny_pure ⟨_,rfl,"set_iterator",_,ty,slot_sit_next.lookup,hQ⟩
noncomputable def zfn (es:Array (Int × Value))(ps:List Nat):List Value:=ps.map fun p=>(es.getD p (0,.none)).2
theorem zlR {tp:Addr}{ps:List Nat}(hh:A.handled=none)(hne:a≠j)(hnt:tp≠j)(hd:o.data=.set es ep t)(hf:t.fits es.size=true)(hp:∀p∈ps,p<es.size) :
  Walks prog w A j [j,a,tp] [j] (zfn es ps).length (YP (zfn es ps)) (fun i h=>SIt h j a (.ref tp) i es.size ep/\h.get? a=some o/\PTg h tp ps) where
 sub:=fun b hb=>by simp at hb;simp[hb]
 frame:=fun _ _ _ st hk=>⟨hk j (by simp) _ st.1,hk a (by simp) _ st.2.1,hk tp (by simp) _ st.2.2⟩
 item:=fun i s Q E hi st hQ=>by
  have hi':i<ps.length:=by simpa[zfn] using hi
  have hpi:ps[i]<es.size:=hp _ (List.getElem_mem hi')
  refine zhh (p:=ps[i]) (hs:=es[ps[i]].1) (x:=es[ps[i]].2) st.1 st.2.1 hd hf st.2.2 (List.getElem?_eq_getElem hi') (Array.getElem?_eq_getElem hpi) fun h' g sb=>?_
  exact hQ _ h' s.toks (by simp[YP,zfn,hi',Array.getD,hpi]) ⟨g,sb.extBut a _ hne st.2.1,sb.extBut tp _ hnt st.2.2⟩ fun b o hb e=>sb.extBut b o (fun z=>hb (by simp[z])) e
 done:=fun s Q E st hQ=>ziJ hh st.1 st.2.1 hd hf st.2.2 (by simp[zfn]) fun h' k=>hQ h' s.toks fun b o hb e=>k b o (fun z=>hb (by simp[z])) e
 self:=fun i s Q E st hQ=>by
  have ty:s.TypeIs (.ref j) "set_iterator":=⟨_,st.1,rfl⟩
  refine wpAny_pyIter_slot ty zaW (wpAny_call_entry zaW ty zbV ?_ (zbH _))
  show wpAny _ _ (ret (.ref j)) _ _ s
  exact wpAny_pure ⟨_,rfl,"set_iterator",_,ty,slot_sit_next.lookup,hQ⟩
theorem zi3 (es:Array (Int × Value)){ps:List Nat}(h:ps.Perm (List.range es.size)):(zfn es ps).Perm (es.toList.map (·.2)):=by
 unfold zfn
 refine (h.map _).trans (List.Perm.of_eq ?_)
 apply List.ext_getElem?
 intro i
 by_cases c:i<es.size
 · simp[c,Array.getD]
 · simp[c]
end
end R
end
section
set_option maxHeartbeats 4000000
namespace R
open PySem PySem.Spec PyProof.Rows
section
variable {prog:Program} {w:World} {A:Around} {E:Value->Shared->Prop} {s:Shared} {a:Addr} {o:Obj} {es:Array (Int × Value)} {ep:Nat} {t:SetTable}
structure Got (prog:Program) (w:World) (h0 h':Heap) (a:Addr) (vals:List Value) (I:Addr) (fp:List Addr) (St:Nat->Heap->Prop):Prop where
 wk:∀A:Around,A.handled=none->Walks prog w A I fp [I] vals.length (YP vals) St
 st:St 0 h'
 old:∀b o,h0.get? b=some o->h'.get? b=some o
 new:h0.objs.size<=I
 lt:I<h'.objs.size
 fp:∀b∈fp,b=a\/(h0.objs.size<=b/\b<h'.objs.size)
theorem ziK {Q:Value->Shared->Prop}(ho:s.heap.get? a=some o)(hex:o.ExactSet)(hd:o.data=.set es ep t)(hf:t.fits es.size=true)(ht:TOk (!byT w) t)(hz:es.size<scanBound)
  (q:∀(h':Heap) (d':Drawn) (I:Addr) (fp:List Addr) (St:Nat->Heap->Prop) (vals:List Value),vals.Perm (es.toList.map (·.2))->Got prog w s.heap h' a vals I fp St->Q (.ref I) {s with heap:=h',drawn:=d'}) :
  wpAny (model prog w) A (pyIter (.ref a)) Q E s:=by
 have ty:s.TypeIs (.ref a) "set":=⟨_,ho,hex.1⟩
 have al:=Heap.lt_size ho
 refine wpAny_pyIter_slot ty F.slot_set_iter (wpAny_call_entry F.slot_set_iter ty ze1 ?_ (F.args_set_iter_1 _))
 unfold Builtin.«frozenset.__iter__»
 refine wpAny_bind (m:=Builtin.Frozenset.slot0 "__iter__" _) (wpAny_pure ?_)
 unfold Builtin.Frozenset.sizeOf
 refine wpAny_bind (wpAny_bind (wpAny_setEntries_of ho hd hf (wpAny_pure ?_)))
 unfold setDrawn
 refine wpAny_bind (wpAny_bind (wpAny_setState_of ho hd hf ?_))
 dsimp only
 unfold setsByText
 refine wpAny_bind (wpAny_bind (wpAny_askSetting (wpAny_pure (wpAny_pure ?_))))
 show wpAny _ _ (if (!byT w&&(!t.plain&&decide (es.size > 1)))=true then _ else _) _ _ s
 have mk:∀(h1:Heap) (d':Drawn) (fst:Value),(∀b o,s.heap.get? b=some o->h1.get? b=some o)->s.heap.objs.size<=h1.objs.size->
   (∀h',h'.objs.size=h1.objs.size+1->(∀b o,h1.get? b=some o->h'.get? b=some o)->SIt h' h1.objs.size a fst 0 es.size ep->∃fp St vals,vals.Perm (es.toList.map (·.2))/\Got prog w s.heap h' a vals h1.objs.size fp St)->
   wpAny (model prog w) A.in1 (do ret (<-newFields "set_iterator" [fst,rawInt 0,.ref a,rawInt es.size,rawInt (<-setEpoch a)])) (fun fin s'=>∃v,fin=.done (.ret v)/\∃T id,s'.TypeIs v T/\typeLookup (.type T) "__next__"=pure (some id)/\Q v s') E {s with heap:=h1,drawn:=d'}:=by
  intro h1 d' fst hk hz1 hG
  refine wpAny_bind (wpAny_setEpoch_of (s:={s with heap:=h1,drawn:=d'}) (hk _ _ ho) hd hf ?_)
  refine wpAny_bind (wpAny_newObj_type (wpAny_pure ⟨_,rfl,"set_iterator",_,⟨_,Heap.get?_push_size _ rfl,rfl⟩,slot_sit_next.lookup,?_⟩))
  obtain⟨fp,St,vals,hp,hG⟩:=hG (h1.push {cls:=.type "set_iterator",data:=.fields #[fst,rawInt 0,.ref a,rawInt es.size,rawInt ep]}) (Heap.size_push ..) (fun b o e=>Heap.get?_push_of_some _ e) (Heap.get?_push_size _ rfl)
  exact q _ d' _ fp St vals hp hG
 by_cases hb:byT w=true
 · rw[if_neg (by rw[hb];simp)]
   refine wpAny_bind (wpAny_pure ?_)
   refine mk s.heap s.drawn (rawInt 0) (fun b o e=>e) (Nat.le_refl _) fun h' hsz hk hit=>⟨[s.heap.objs.size,a],_,_,(zhA _ es).map _,⟨fun A hA=>zlP hA (Nat.ne_of_lt al) hb hd hf,⟨hit,hk _ _ ho⟩,hk,Nat.le_refl _,by rw[hsz];exact Nat.lt_succ_self _,fun b hb=>?_⟩⟩
   simp only[List.mem_cons,List.not_mem_nil,or_false] at hb
   rcases hb with z|z
   · exact .inr ⟨Nat.le_of_eq z.symm,by rw[z,hsz];exact Nat.lt_succ_self _⟩
   · exact .inl z
 · have hb:byT w=false:=by simpa using hb
   by_cases hp:(!t.plain&&decide (es.size > 1))=true
   · rw[if_pos (by rw[hb,hp];rfl)]
     refine wpAny_bind (zgi es.size (List.range es.size) (by simp) fun ys d' hperm=>?_)
     have hys:ys.length<=sizeLine:=by
      rw[hperm.length_eq,List.length_range]
      exact fits_of_scanBound hz
     unfold newTuple
     refine wpAny_bind (wpAny_newObj_type ?_ (by show (List.map (fun (i:Nat)=>rawInt i) ys).toArray.size<=sizeLine;simpa using hys))
     have hps:∀p∈ys,p<es.size:=fun p hp=>List.mem_range.mp (hperm.mem_iff.mp hp)
     refine mk (s.heap.push {cls:=.type "tuple",data:=.seq (ys.map fun (i:Nat)=>rawInt i).toArray}) d' (.ref s.heap.objs.size) (fun b o e=>Heap.get?_push_of_some _ e) (by rw[Heap.size_push];omega) fun h' hsz hk hit=>?_
     have z1:(s.heap.push {cls:=.type "tuple",data:=.seq (ys.map fun (i:Nat)=>rawInt i).toArray}).objs.size=s.heap.objs.size+1:=Heap.size_push ..
     rw[z1] at hit hsz⊢
     refine⟨[s.heap.objs.size+1,a,s.heap.objs.size],_,_,zi3 es hperm,⟨fun A hA=>zlR hA (Nat.ne_of_lt (Nat.lt_succ_of_lt al)) (Nat.ne_of_lt (Nat.lt_succ_self _)) hd hf hps,⟨hit,hk _ _ (Heap.get?_push_of_some _ ho),hk _ _ (Heap.get?_push_size _ rfl)⟩,fun b o e=>hk _ _ (Heap.get?_push_of_some _ e),Nat.le_succ _,by rw[hsz];exact Nat.lt_succ_self _,fun b hb=>?_⟩⟩
     simp only[List.mem_cons,List.not_mem_nil,or_false] at hb
     rcases hb with z|z|z
     · exact .inr ⟨by rw[z];exact Nat.le_succ _,by rw[z,hsz];exact Nat.lt_succ_self _⟩
     · exact .inl z
     · exact .inr ⟨Nat.le_of_eq z.symm,by rw[z,hsz];exact Nat.lt_succ_of_lt (Nat.lt_succ_self _)⟩
   · have hp:(!t.plain&&decide (es.size > 1))=false:=by simpa using hp
     rw[if_neg (by rw[hp];simp)]
     refine wpAny_bind (wpAny_pure ?_)
     refine mk s.heap s.drawn (rawInt 0) (fun b o e=>e) (Nat.le_refl _) fun h' hsz hk hit=>⟨[s.heap.objs.size,a],_,_,List.Perm.refl _,⟨fun A hA=>zlQ hA (Nat.ne_of_lt al) hb hd hf ht hp,⟨Nat.zero_le _,hit,hk _ _ ho⟩,hk,Nat.le_refl _,by rw[hsz];exact Nat.lt_succ_self _,fun b hb=>?_⟩⟩
     simp only[List.mem_cons,List.not_mem_nil,or_false] at hb
     rcases hb with z|z
     · exact .inr ⟨Nat.le_of_eq z.symm,by rw[z,hsz];exact Nat.lt_succ_self _⟩
     · exact .inl z
end
end R
end
section
set_option maxHeartbeats 4000000
namespace R
open PySem PySem.Spec PyProof.Rows
section
variable {prog:Program} {w:World} {A:Around} {E:Value->Shared->Prop} {s:Shared} {a:Addr} {o:Obj} {es:Array (Int × Value)} {ep:Nat} {t:SetTable}
theorem ziL {Q:Bool->Shared->Prop}(ty:s.TypeIs (.ref a) "set")(h:Q false s):wpAny (model prog w) A (Builtin.List.listLengthHint (.ref a)) Q E s:=by
 unfold Builtin.List.listLengthHint
 refine wpAny_bind (wpAny_specialOf ty F.slot_set_len.lookup ?_)
 generalize hid:("set.__len__":String)=id0
 wp_delta
 rw[show splitId id0=some ("set","__len__") from by subst hid;decide +kernel]
 subst hid
 refine wpAny_bind (wpAny_isInstance (T:="set") (b:=true) ty (by rw[isSubtype_type];kernel_rfl) ?_)
 refine wpAny_ite_split (fun hab=>absurd hab (by decide)) (fun _=>?_)
 refine wpAny_ite_split (fun _=>?_) (fun hab=>absurd (by decide +kernel) hab)
 refine wpAny_bind (wpAny_typeOf ty ?_)
 exact wpAny_pure h
theorem zgz {R:Result->Shared->Prop}(hh:A.handled=none)(ho:s.heap.get? a=some o)(hex:o.ExactSet)(hd:o.data=.set es ep t)(hf:t.fits es.size=true)(ht:TOk (!byT w) t)(hz:es.size<scanBound)
  (S:Addr) (hSa:S≠a) (res:Value) (c₀:Nat) (hS:s.heap.get? S=some {cls:=.type "list",data:=.seq #[] c₀})
  (hR:∀h' d' tk acc c,(∀b o,b≠S->s.heap.get? b=some o->h'.get? b=some o)->h'.get? S=some {cls:=.type "list",dict:=none,data:=.seq acc c,slots:=#[]}->acc.toList.Perm (es.toList.map (·.2))->R (.ok (.ret res)) {s with heap:=h',drawn:=d',toks:=tk}) :
  wpAny (model prog w) A.in1 (Builtin.List.listExtendWith (.ref S) (.ref a) res)
   (fun fin s'=>match fin with|.done f=>R (.ok f) s'|.again c'=>c'.quiet=true/\codeAny (model prog w) A c' R s') (fun e s'=>R (.error e) s') s:=by
 have hlt:=Heap.lt_size hS
 unfold Builtin.List.listExtendWith
 refine wpAny_bind (wpAny_typeOf (T:="set") ⟨_,ho,hex.1⟩ ?_)
 rw[if_neg (by simp[Builtin.List.listSameRef,hSa])]
 refine wpAny_bind (ziK ho hex hd hf ht hz fun h1 d' I fp St vals hp G=>?_)
 have hS1:=G.old _ _ hS
 refine wpAny_bind (wpAny_holding (ziL (s:={s with heap:=h1,drawn:=d'}) ⟨_,G.old _ _ ho,hex.1⟩ ?_))
 rw[if_pos (by decide +kernel)]
 refine wpAny_bind (wpAny_rule (wpAny_bind ?_))
 show wpAny _ _ (updateSeq S (·.push .none) >>= fun _=>updateSeq S (·.pop)) _ _ _
 refine wpAny_bind (wpAny_updateSeq (s:={s with heap:=h1,drawn:=d'}) hS1 rfl ?_)
 have hS₂:=Heap.get?_update_self (Obj.mapSeq (·.push Value.none)) hS1 rfl
 refine wpAny_updateSeq (hz:=by seq_fits) hS₂ rfl ?_
 have hS₃:=Heap.get?_update_self (Obj.mapSeq (·.pop)) hS₂ rfl
 have k3:∀b o,b≠S->h1.get? b=some o->((h1.update S (Obj.mapSeq (·.push Value.none))).update S (Obj.mapSeq (·.pop))).get? b=some o:=fun b o hb e=>
  (Heap.get?_update_other _ _ (Ne.symm hb)).trans ((Heap.get?_update_other _ _ (Ne.symm hb)).trans e)
 have Sfp:S∉fp:=fun hm=>by
  rcases G.fp S hm with z|z
  · exact hSa z
  · exact Nat.not_lt.mpr z.1 hlt
 have hv:vals.length<=sizeLine:=by
  rw[hp.length_eq,List.length_map,Array.length_toList]
  exact fits_of_scanBound hz
 refine wpAny_pure ⟨plainId_quiet PySem.F.plain_extend_loop _,codeAny_extend_loopS (G.wk A.in1 hh).toS hv S Sfp res vals.length 0 _ #[] _ rfl (Nat.zero_le _) ?_ hS₃ (ItemsOf.nil _) fun s' acc c mv hs' hacc=>?_⟩
 · exact (G.wk A.in1 hh).frame 0 _ _ G.st fun b hb o e=>k3 b o (fun z=>Sfp (z▸hb)) e
 · rw[Moved.eq_with mv]
   refine hR s'.heap d' s'.toks acc c (fun b o hb e=>mv.heap b o (fun hm=>?_) (k3 b o hb (G.old _ _ e))) hs' ?_
   · simp only[List.mem_cons,List.not_mem_nil,or_false] at hm
     rcases hm with z|z
     · exact hb z
     · exact Nat.not_lt.mpr (z▸G.new) (Heap.lt_size e)
   · have:acc.toList=vals:=by
      refine List.ext_getElem? fun i=>?_
      by_cases hi:i<acc.size
      · have e1:acc[i]?=some acc[i]:=Array.getElem?_eq_getElem hi
        have e2:=hacc.2 i _ e1
        rw[Array.getElem?_toList,e1]
        exact e2.symm
      · rw[List.getElem?_eq_none (by rw[Array.length_toList];omega),List.getElem?_eq_none (by have:=hacc.1;omega)]
     rw[this];exact hp
theorem zfg {R:List Value->Shared->Prop}(hh:A.handled=none)(ho:s.heap.get? a=some o)(hex:o.ExactSet)(hd:o.data=.set es ep t)(hf:t.fits es.size=true)(ht:TOk (!byT w) t)(hz:es.size<scanBound)
  (h:∀(h':Heap) (d':Drawn) (tk:Nat) (vals:List Value),(∀b o,s.heap.get? b=some o->h'.get? b=some o)->s.heap.objs.size<h'.objs.size->vals.Perm (es.toList.map (·.2))->R vals {s with heap:=h',drawn:=d',toks:=tk}) :
  wpAny (model prog w) A (collect (.ref a)) R E s:=by
 have hr:a<s.heap.objs.size:=Heap.lt_size ho
 unfold collect
 refine wpAny_bind (wpAny_runValue (codeAny_builtin PySem.F.entry_proto_collect ?_))
 rw[Around.under_plainId PySem.F.plain_proto_collect _]
 show wpAny _ A.in1 (newList [] >>= fun l=>again (.builtin "list.__iadd__" ⟨[l,.ref a],[]⟩)) _ _ s
 refine wpAny_bind (wpAny_newObj_type ?_)
 refine wpAny_pure ⟨plainId_quiet PySem.F.plain_list_iadd _,codeAny_builtin PySem.F.entry_list_iadd ?_⟩
 rw[Around.under_plainId PySem.F.plain_list_iadd _]
 have hS₁:(s.heap.push {cls:=.type "list",data:=.seq ([]:List Value).toArray}).get? s.heap.objs.size=some {cls:=.type "list",data:=.seq #[]}:=Heap.get?_push_size _ rfl
 show wpAny _ A.in1 (Builtin.List.listExtendWith (.ref s.heap.objs.size) (.ref a) (.ref s.heap.objs.size)) _ _ _
 have key:=zgz (prog:=prog) (w:=w) (A:=A) (s:={s with heap:=s.heap.push {cls:=.type "list",data:=.seq ([]:List Value).toArray}})
  (R:=fun (q:Result) (s':Shared)=>∃(h':Heap) (d':Drawn) (tk:Nat) (acc':Array Value) (c':Nat),q=.ok (.ret (.ref s.heap.objs.size))/\s'={s with heap:=h',drawn:=d',toks:=tk}/\
   (∀b o,s.heap.get? b=some o->h'.get? b=some o)/\h'.get? s.heap.objs.size=some {cls:=.type "list",dict:=none,data:=.seq acc' c',slots:=#[]}/\acc'.toList.Perm (es.toList.map (·.2)))
  hh (Heap.get?_push_of_some _ ho) hex hd hf ht hz s.heap.objs.size (Nat.ne_of_gt hr) (.ref s.heap.objs.size) 0 hS₁
  (fun h' d' tk acc' c' hk hS' hacc=>⟨h',d',tk,acc',c',rfl,rfl,fun b o e=>hk b o (Nat.ne_of_lt (Heap.lt_size e)) (Heap.get?_push_of_some _ e),hS',hacc⟩)
 refine wpAny_mono key (fun fin s' x=>?_) fun e s' x=>?_
 · cases fin with
   | done f =>
     obtain⟨h',d',tk,acc',c',e,rfl,hk,hS',hacc⟩:=x
     cases e
     show wpAny _ A (load s.heap.objs.size >>= _) _ _ _
     exact wpAny_bind (wpAny_load hS' (wpAny_pure (h h' d' tk _ hk (Heap.lt_size hS') hacc)))
   | again c₁ =>
     refine⟨x.1,codeAny_mono x.2 fun q s₂ y=>?_⟩
     obtain⟨h',d',tk,acc',c',rfl,rfl,hk,hS',hacc⟩:=y
     show wpAny _ A (load s.heap.objs.size >>= _) _ _ _
     exact wpAny_bind (wpAny_load hS' (wpAny_pure (h h' d' tk _ hk (Heap.lt_size hS') hacc)))
 · obtain⟨_,_,_,_,_,e',_⟩:=x
   cases e'
end
end R
end
section
set_option maxHeartbeats 4000000
namespace R
open PySem PySem.Spec PyProof.Rows L2
theorem zej (x:Int):∀l:List Int,(insZ x l).Perm (x::l)
 | []=>List.Perm.refl _
 | y :: l => by
   unfold insZ
   split
   · exact List.Perm.refl _
   · exact ((zej x l).cons y).trans (List.Perm.swap ..)
theorem zdQ (x:Int):∀{l:List Int},l.Pairwise (·<=·)->(insZ x l).Pairwise (·<=·)
 | [],_=>by simp[insZ]
 | y :: l, h => by
   have h':=List.pairwise_cons.mp h
   unfold insZ
   split
   · rename_i c
     exact List.pairwise_cons.mpr ⟨fun z hz=>by
      rcases List.mem_cons.mp hz with e|e
      · rw[e];exact c
      · exact Int.le_trans c (h'.1 z e),h⟩
   · rename_i c
     refine List.pairwise_cons.mpr ⟨fun z hz=>?_,zdQ x h'.2⟩
     rcases List.mem_cons.mp ((zej x l).mem_iff.mp hz) with e|e
     · rw[e];omega
     · exact h'.1 z e
theorem zaA:∀l:List Int,(zag l).Perm l
 | []=>List.Perm.refl _
 |x::l=>(zej x _).trans ((zaA l).cons x)
theorem zaR:∀l:List Int,(zag l).Pairwise (·<=·)
 | []=>List.Pairwise.nil
 |x::l=>zdQ x (zaR l)
theorem zbv:∀{a b:List Int},a.Perm b->a.Pairwise (·<=·)->b.Pairwise (·<=·)->a=b
 | [],b,p,_,_=>(List.nil_perm.mp p).symm
 |x::a,[],p,_,_=>absurd (List.perm_nil.mp p) (by simp)
 | x :: a, y :: b, p, ha, hb => by
   have ha':=List.pairwise_cons.mp ha
   have hb':=List.pairwise_cons.mp hb
   have e1:y<=x:=by
    rcases List.mem_cons.mp (p.mem_iff.mp List.mem_cons_self) with e|e
    · exact Int.le_of_eq e.symm
    · exact hb'.1 x e
   have e2:x<=y:=by
    rcases List.mem_cons.mp (p.mem_iff.mpr List.mem_cons_self) with e|e
    · exact Int.le_of_eq e.symm
    · exact ha'.1 y e
   cases Int.le_antisymm e1 e2
   rw[zbv (List.Perm.cons_inv p) ha'.2 hb'.2]
theorem zbE (ns:List Int):(R.dedup ns).Nodup:=by
 unfold R.dedup
 suffices ∀(l acc:List Int),acc.Nodup->(l.foldl (fun acc x=>if acc.contains x then acc else acc++[x]) acc).Nodup from this ns [] List.nodup_nil
 intro l
 induction l with
 |nil=>intro acc h;exact h
 | cons x l ih =>
   intro acc h
   refine ih _ ?_
   show (if acc.contains x=true then acc else acc++[x]).Nodup
   split
   · exact h
   · rename_i c
     refine List.nodup_append.mpr ⟨h,by simp,fun a ha b hb e=>?_⟩
     simp only[List.mem_singleton] at hb
     subst hb;subst e
     exact c (by simpa using ha)
theorem zb8:∀{a:List Int} {b:List Int},a.Nodup->(∀x∈a,x∈b)->b.length=a.length->a.Perm b
 | [],b,_,_,h=>by rw[List.length_eq_zero_iff.mp h]
 | x :: a, b, hn, hs, h => by
   have hn':=List.nodup_cons.mp hn
   have hx:=hs x List.mem_cons_self
   have pb:=List.perm_cons_erase hx
   refine List.Perm.trans ((zb8 (b:=b.erase x) hn'.2 (fun y hy=>?_) ?_).cons x) pb.symm
   · exact (List.mem_erase_of_ne (fun e:y=x=>hn'.1 (e▸hy))).mpr (hs y (List.mem_cons_of_mem _ hy))
   · rw[List.length_erase_of_mem hx,h];simp
noncomputable def SetO (prog:Program)(w:World)(o:Obj)(ns:List Int):Prop:=
 ∃es ep t ms,o.ExactSet/\o.data=.set es ep t/\t.fits es.size=true/\TOk (!byT w) t/\es.size<scanBound/\IntsAre (es.toList.map (·.2)) ms/\ms.Perm ns
theorem zh4 {prog:Program}{w:World}:∀{l:List (Int × Value)},ElemsOf (intKind prog w) l->∃ms,IntsAre (l.map (·.2)) ms
 | [],_=>⟨[],.nil⟩
 | e :: l, h => by
   obtain⟨ms,hm⟩:=zh4 (l:=l) fun x hx=>h x (List.mem_cons_of_mem _ hx)
   obtain⟨⟨k,hk,_⟩,_⟩:=h e List.mem_cons_self
   obtain⟨t,ht⟩:=Value.isInt_shape hk
   exact⟨k::ms,by rw[List.map_cons,ht];exact .cons _ _ hm⟩
theorem zh3:∀{us vs:List Value} {ns:List Int},us.Perm vs->IntsAre vs ns->∃ms,IntsAre us ms/\ms.Perm ns:=by
 intro us vs ns p
 induction p generalizing ns with
 |nil=>intro h;exact⟨ns,h,List.Perm.refl _⟩
 | cons x p ih =>
   intro h
   cases h with
   | cons _ _ h =>
     obtain⟨ms,h1,h2⟩:=ih h
     exact⟨_::ms,.cons _ _ h1,h2.cons _⟩
 | swap x y l =>
   intro h
   cases h with
   | cons _ _ h =>
     cases h with
     |cons _ _ h=>exact⟨_,.cons _ _ (.cons _ _ h),List.Perm.swap ..⟩
 | trans p q ih1 ih2 =>
   intro h
   obtain⟨ms,h1,h2⟩:=ih2 h
   obtain⟨ks,h3,h4⟩:=ih1 h1
   exact⟨ks,h3,h4.trans h2⟩
theorem zf3 {prog:Program}{w:World}:∀{l:List (Int × Value)} {ms:List Int},IntsAre (l.map (·.2)) ms->∀k,(∃e∈l,(intKind prog w).is k e.2=true)->k∈ms
 | [],_,h,k,⟨e,he,_⟩=>by simp at he
 | e :: l, _, h, k, ⟨e', he, hk⟩ => by
   rw[List.map_cons] at h
   generalize hv:e.2=v at h
   cases h with
   | cons _ _ h =>
     rcases List.mem_cons.mp he with z|z
     · obtain⟨t,ht⟩:=Value.isInt_shape hk
       rw[z,hv] at ht
       cases ht
       exact List.mem_cons_self
     · exact List.mem_cons_of_mem _ (zf3 h k ⟨e',z,hk⟩)
theorem SetO.of {prog:Program}{w:World}{h:Heap}{a:Addr}{S:Int->Bool}{ns:List Int}(x:SetD prog w h a S ns.length)(hn:ns.Nodup)(hS:∀k∈ns,S k=true):∃o,h.get? a=some o/\SetO prog w o ns:=by
 obtain⟨o,es,ep,t,h1,h2,h3,h4,h5,h6,h7,h8,h9⟩:=x
 obtain⟨ms,hm⟩:=zh4 h4
 refine⟨o,h1,es,ep,t,ms,h2,h3,h7,h9,h6,hm,(zb8 hn (fun k hk=>zf3 hm k ((h5 k).mp (hS k hk))) ?_).symm⟩
 rw[<-hm.length,List.length_map,Array.length_toList,h8]
section
variable [Mks] {X:Cx}
theorem zfu {pins:List (Addr × Obj)}{σ:L2.St}{H:Hp}{s:Shared}{h':Heap}{a:Addr}{o:HO}{t':Nat}{d':Drawn}(I:Inv X pins σ H s)(k:∀b u,s.heap.get? b=some u->h'.get? b=some u)(hp:s.heap.objs.size<=a)(new:ObjOk X.prog X.w (upd H a o) h' a o) :
 Inv X pins σ (upd H a o) {s with heap:=h',drawn:=d',toks:=t'}:=I.call' rfl (Un.laid k hp (I.hok.fresh hp)) (I.hok.laid k hp new) I.bare fun b (hb:b∈([]:List Addr))=>by cases hb
theorem zkt (hc:X.calm=true):za7 X (.type "set") (fun xs H Q=>∃(a:Addr) (ns:List Int),xs=[.ref a]/\SqL X.K H a (ns.map V.int)/\ns.length<4000/\∀p,H p=none->∀o,SetO X.prog X.w o (R.dedup ns)->Q (.ref p) (upd H p (.frz o (.own 0)))):=by
 intro pins s σ H xs us Q I r h
 obtain⟨a,ns,rfl,hq,hz,q⟩:=h
 obtain⟨u,rfl,ru⟩:=r.one
 cases (show u=Value.ref a from ru)
 have fresh:=I.hok.fresh (Nat.le_refl s.heap.objs.size)
 have hA:X.A.handled=none:=I.ok.hd hc
 obtain⟨its,rv,pl,hz2⟩:=I.list hq
 have hl:its.toArray.size=ns.length:=by rw[List.size_toArray,<-rv.length,List.length_map]
 refine zhj hA pl.isList (zbz rv) (by rw[hl];unfold scanBound;omega) fun g tk hS kp=>?_
 rw[hl,<-ze3] at hS
 obtain⟨o,ho,so⟩:=SetO.of hS (zbE ns) (fun k hk=>List.any_eq_true.mpr ⟨k,hk,by simp⟩)
 exact⟨.ref s.heap.objs.size,_,I.laid (o:=.frz o (.own 0)) (fun b o e=>kp b o (Heap.lt_size e) e) (Nat.le_refl _) ⟨ho,_,ho⟩,rfl,q _ fresh o so⟩
theorem zgw (hc:X.calm=true):za7 X (.builtin "sorted") (fun xs H Q=>∃(a:Addr) (o:Obj) (ns:List Int),xs=[.ref a]/\H a=some (.frz o (.own 0))/\SetO X.prog X.w o ns/\ns.length<64/\∀p,H p=none->Q (.ref p) (upd H p (.lst ((zag ns).map V.int)))):=by
 intro pins s σ H xs us Q I r h
 obtain⟨a,o,ns,rfl,hf,⟨es,ep,t,ms,x1,x2,x3,x4,x5,x6,x7⟩,h64,q⟩:=h
 obtain⟨u,rfl,ru⟩:=r.one
 cases (show u=Value.ref a from ru)
 have ho:s.heap.get? a=some o:=(show ObjOk X.prog X.w H s.heap a (.frz o (.own 0)) from I.hok a _ hf).1
 have hA:X.A.handled=none:=I.ok.hd hc
 refine Calls.call_function_entry kind_sorted plain_sorted entry_sorted (args_sorted1 _) ?_
 unfold Builtin.«sorted»
 refine wpAny_bind (m:=checkCount "sorted" 1 1 _) (wpAny_pure ?_)
 refine wpAny_bind (zfg hA ho x1 x2 x3 x4 x5 fun h1 d' tk vals kp hlt hp=>?_)
 obtain⟨ks,hks,pk⟩:=zh3 hp x6
 have h64':vals.length<64:=by rw[hks.length,(pk.trans x7).length_eq];exact h64
 refine wpAny_bind (wpAny_newList ?_ (by rw[sizeLine_eq];omega))
 have hoL:(h1.push (seqObj "list" vals.toArray 0)).get? h1.objs.size=some (seqObj "list" vals.toArray 0):=Heap.get?_push_size _ rfl
 refine wpAny_bind (wpAny_holding (wpAny_call_entry slot_list_sort ⟨_,hoL,rfl⟩ entry_list_sort (list_sort_tree hoL hks h64' fun out ns' a1 a2 a3=>⟨_,rfl,?_⟩) (args_list_sort _)))
 have hle:s.heap.objs.size<=h1.objs.size:=Nat.le_of_lt hlt
 have en:ns'=zag ns:=zbv (a2.trans (pk.trans (x7.trans (zaA ns).symm))) a3 (zaR ns)
 subst en
 obtain⟨c,hc'⟩:=sortedHeap_at (out:=out) hoL
 refine wpAny_pure ⟨_,rfl,.ref h1.objs.size,_,zfu (s:=s) (d':=d') (t':=tk) (o:=.lst ((zag ns).map V.int)) I (fun b u e=>?_) hle ⟨?_,out.toList,c,zbK a1,?_⟩,rfl,q _ (I.hok.fresh hle)⟩
 · have e1:=kp b u e
   have l1:=Heap.lt_size e1
   rw[sortedHeap_old (Nat.ne_of_lt l1) (Nat.lt_of_lt_of_eq (Nat.lt_succ_of_lt l1) (Heap.size_push ..).symm)]
   exact Heap.get?_push_of_some _ e1
 · rw[List.length_map,(zaA ns).length_eq,sizeLine_eq];omega
 · exact hc'
variable {T:Tab} {cf:CF} {k:Nat} {N:List Str} {sc:Scope} {pos p p2 pos':Pos}
theorem zdv:bootBuiltins "sorted"=some (.builtin "sorted"):=by rfl
theorem zkv (G:Gd T cf k N sc X){ca:CE}{e:Expr}(hg:Gl X "sorted"/\X.mg "sorted"=none)(hr:Gl X "set"/\X.mg "set"=none)(he:PE X e (tE X.K cf ca))(hst:zaq e=true) :
  PE X (.Call (.Name "sorted" p) [.Call (.Name "set" p2) [e] [] pos'] [] pos) (tE X.K cf (.sset ca)):=by
 have hin:=zbl (p:=p2) (pos:=pos') (zkt G.calm) hr.1 hr.2 znJ (za5 he hst) (by decide) (by decide) (zat hst [] X.env)
 refine PE.imp (zbp (zgw G.calm) hg.1 hg.2 zdv (za5 hin rfl) (by decide) (by decide) rfl) fun σ H Qv ⟨δ,ι,S,Q,hs,hh,w,q⟩=>?_
 simp only[evE,zac] at w
 refine tE.run hs hh w fun d v ι1 H1 S1 x1 hs1 hh1 r1 w1=>?_
 obtain⟨ns,hb,w2⟩:=zaO w1
 unfold lstI at hb
 split at w2
 · rename_i c
   cases d with
   | ref l =>
     obtain⟨a,h1,rfl⟩:=r1
     dsimp only at hb
     cases e1:S1.get l with
     |none=>rw[e1] at hb;cases hb
     | some ob =>
       rw[e1] at hb
       cases ob with
       | lst ds =>
         have hb:zby ds=some ns:=hb
         obtain⟨a',g1,zs,ha,rz⟩:=hh1.obj _ _ e1
         rw[h1] at g1;cases g1
         rw[zbD hb] at rz
         have:=rz.ints_eq
         subst this
         have hd:=zil ns
         obtain⟨c2,w3⟩:=zb9 w2
         refine⟨a,ns,rfl,SqL.of ha,by omega,fun pr hpr o so=>⟨pr,o,_,rfl,zaw,so,by omega,fun l hl=>?_⟩⟩
         have e1:Ext ι1 H1 ι1 (upd H1 pr (.frz o (.own 0))):=Ext.new hpr _
         exact q _ _ (Lf.up (x1.trans e1) (Lf.lst (hh1.new hpr _) hl (RVs.ints _) w3))
       |_=>cases hb
   |_=>cases hb
 · exact w2.elim
end
end R
end
section
set_option maxHeartbeats 4000000
namespace R
open PySem PySem.Spec PyProof.Rows L2
section
variable [Mks] {X:Cx}
theorem zgv:za7 X (.builtin "sorted") (fun xs H Q=>∃(a:Addr) (ns:List Int),xs=[.ref a]/\SqL X.K H a (ns.map V.int)/\ns.length<64/\∀p,H p=none->Q (.ref p) (upd H p (.lst ((zag ns).map V.int)))):=by
 intro pins s σ H xs us Q I r h
 obtain⟨a,ns,rfl,hq,h64,q⟩:=h
 obtain⟨u,rfl,ru⟩:=r.one
 cases (show u=Value.ref a from ru)
 obtain⟨its,rv,pl,_⟩:=I.list hq
 have hi:=zbz rv
 refine sorted_ints pl.isList hi (by rw[hi.length];exact h64) fun out ns' a1 a2 a3=>?_
 have en:ns'=zag ns:=zbv (a2.trans (zaA ns).symm) a3 (zaR ns)
 subst en
 obtain⟨c,hc⟩:=sortedAll_at s.heap its out
 have hle:s.heap.objs.size<=s.heap.objs.size+1:=Nat.le_succ _
 refine⟨.ref (s.heap.objs.size+1),_,zfu (s:=s) (d':=s.drawn) (t':=s.toks) (o:=.lst ((zag ns).map V.int)) I (fun b u e=>sortedAll_old e) hle ⟨?_,out.toList,c,zbK a1,hc⟩,rfl,q _ (I.hok.fresh hle)⟩
 rw[List.length_map,(zaA ns).length_eq,sizeLine_eq];omega
theorem zlc:∀{ns:List Int} {M:Int},M∈ns->(∀a∈ns,M<=a)->minZ ns=some M
 | [],M,h,_=>by cases h
 | x :: ns, M, h, hl => by
   unfold minZ
   cases e:minZ ns with
   | none =>
     have:ns=[]:=by
      cases ns with
      |nil=>rfl
      |cons y r=>unfold minZ at e;cases h:minZ r<;>rw[h] at e<;>cases e
     subst this
     simp only[List.mem_singleton] at h
     rw[h]
   | some k =>
     have hk:k∈ns/\∀a∈ns,k<=a:=minZ_is ns k e
     dsimp only
     congr 1
     rcases List.mem_cons.mp h with z|z
     · subst z
       have:=hl k (List.mem_cons_of_mem _ hk.1)
       rw[if_pos this]
     · have h1:=hk.2 M z
       have h2:=hl k (List.mem_cons_of_mem _ hk.1)
       have h3:=hl x List.mem_cons_self
       split<;>omega
where
 minZ_is:∀(ns:List Int) (k:Int),minZ ns=some k->k∈ns/\∀a∈ns,k<=a
 | [],k,h=>by cases h
 | x :: ns, k, h => by
   unfold minZ at h
   cases e:minZ ns with
   | none =>
     rw[e] at h
     cases h
     have:ns=[]:=by
      cases ns with
      |nil=>rfl
      |cons y r=>unfold minZ at e;cases h:minZ r<;>rw[h] at e<;>cases e
     subst this
     exact⟨List.mem_cons_self,fun a ha=>by simp only[List.mem_singleton] at ha;omega⟩
   | some j =>
     rw[e] at h
     obtain⟨h1,h2⟩:=minZ_is ns j e
     dsimp only at h
     split at h
     · rename_i c
       cases h
       exact⟨List.mem_cons_self,fun a ha=>by
        rcases List.mem_cons.mp ha with z|z
        · omega
        · have:=h2 a z;omega⟩
     · rename_i c
       cases h
       exact⟨List.mem_cons_of_mem _ h1,fun a ha=>by
        rcases List.mem_cons.mp ha with z|z
        · omega
        · exact h2 a z⟩
theorem zlb (hc:X.calm=true):za7 X (.builtin "min") (fun xs H Q=>∃(a:Addr) (ns:List Int) (M:Int),xs=[.ref a]/\SqL X.K H a (ns.map V.int)/\minZ ns=some M/\Q (.int M) H):=by
 intro pins s σ H xs us Q I r h
 obtain⟨a,ns,M,rfl,hq,hM,q⟩:=h
 obtain⟨u,rfl,ru⟩:=r.one
 cases (show u=Value.ref a from ru)
 obtain⟨its,rv,pl,_⟩:=I.list hq
 have hi:=zbz rv
 obtain⟨ys,e⟩:=hi.allInts.items
 have hns:ns=ys.toList.map (·.1):=by rw[<-hi.numsOf,<-nums_intItems,<-e]
 have hne:0<ns.length:=by
  cases ns with
  |nil=>cases hM
  |cons _ _=>simp
 have hsz:0<ys.size:=by have h3:=hne;rw[hns,List.length_map,Array.length_toList] at h3;exact h3
 refine min_intList (I.ok.hd hc) (by rw[<-e];exact pl.isList) hsz fun v h' tk hv hk=>?_
 obtain⟨t,rfl⟩:=intItems_at hv
 obtain⟨h1,h2⟩:=argBest_lt (numAt ys) (ys.size - 1)
 have hM':minZ ns=_:=zlc (M:=numAt ys (argBest (fun i j=>decide (numAt ys i<numAt ys j)) (ys.size - 1))) (by
  rw[hns,numAt_eq];exact getD_mem (by rw[List.length_map,Array.length_toList];omega)) fun a ha=>by
  rw[hns] at ha
  obtain⟨j,hj,rfl⟩:=mem_getD ha
  rw[List.length_map,Array.length_toList] at hj
  rw[<-numAt_eq];exact h2 j (by omega)
 rw[hM] at hM'
 cases hM'
 exact⟨.int _,H,I.kept hk,⟨t,rfl⟩,q⟩
variable {T:Tab} {cf:CF} {k:Nat} {N:List Str} {sc:Scope} {pos p:Pos}
theorem zj8:bootBuiltins "min"=some (.builtin "min"):=by rfl
theorem zmi (G:Gd T cf k N sc X){ca:CE}{e:Expr}(hg:Gl X "sorted"/\X.mg "sorted"=none)(he:PE X e (tE X.K cf ca))(hst:zaq e=true) :
  PE X (.Call (.Name "sorted" p) [e] [] pos) (tE X.K cf (.srt ca)):=by
 refine PE.imp (zbp zgv hg.1 hg.2 zdv (za5 he hst) (by decide) (by decide) (zat hst [] X.env)) fun σ H Qv ⟨δ,ι,S,Q,hs,hh,w,q⟩=>?_
 simp only[evE,zac] at w
 refine tE.run hs hh w fun d v ι1 H1 S1 x1 hs1 hh1 r1 w1=>?_
 obtain⟨ns,hb,w2⟩:=zaO w1
 unfold lstI at hb
 cases d with
 | ref l =>
   obtain⟨a,h1,rfl⟩:=r1
   dsimp only at hb
   cases e1:S1.get l with
   |none=>rw[e1] at hb;cases hb
   | some ob =>
     rw[e1] at hb
     cases ob with
     | lst ds =>
       have hb:zby ds=some ns:=hb
       obtain⟨a',g1,zs,ha,rz⟩:=hh1.obj _ _ e1
       rw[h1] at g1;cases g1
       rw[zbD hb] at rz
       have:=rz.ints_eq
       subst this
       split at w2
       · rename_i c
         obtain⟨c2,w3⟩:=zb9 w2
         exact⟨a,ns,rfl,SqL.of ha,c,fun l hl=>q _ _ (Lf.up x1 (Lf.lst hh1 hl (RVs.ints _) w3))⟩
       · exact w2.elim
     |_=>cases hb
 |_=>cases hb
theorem zky (G:Gd T cf k N sc X){ca:CE}{e:Expr}(hg:Gl X "min"/\X.mg "min"=none)(he:PE X e (tE X.K cf ca))(hst:zaq e=true) :
  PE X (.Call (.Name "min" p) [e] [] pos) (tE X.K cf (.min1 ca)):=by
 refine PE.imp (zbp (zlb G.calm) hg.1 hg.2 zj8 (za5 he hst) (by decide) (by decide) (zat hst [] X.env)) fun σ H Qv ⟨δ,ι,S,Q,hs,hh,w,q⟩=>?_
 simp only[evE,zac] at w
 refine tE.run hs hh w fun d v ι1 H1 S1 x1 hs1 hh1 r1 w1=>?_
 obtain⟨ns,hb,w2⟩:=zaO w1
 unfold lstI at hb
 cases d with
 | ref l =>
   obtain⟨a,h1,rfl⟩:=r1
   dsimp only at hb
   cases e1:S1.get l with
   |none=>rw[e1] at hb;cases hb
   | some ob =>
     rw[e1] at hb
     cases ob with
     | lst ds =>
       have hb:zby ds=some ns:=hb
       obtain⟨a',g1,zs,ha,rz⟩:=hh1.obj _ _ e1
       rw[h1] at g1;cases g1
       rw[zbD hb] at rz
       have:=rz.ints_eq
       subst this
       obtain⟨M,hM,w3⟩:=zaO w2
       exact⟨a,ns,M,rfl,SqL.of ha,hM,q _ _ (Lf.up x1 (Lf.of (d:=.int M) hh1 rfl w3))⟩
     |_=>cases hb
 |_=>cases hb
end
end R
end
section
set_option maxHeartbeats 4000000
namespace R
open PySem PySem.Spec PyProof.Rows L2
section
variable {prog:Program} {w:World} {A:Around} {E:Value->Shared->Prop} {s:Shared} {a:Addr} {kvs:List (Key × Value)} {ep:Nat}
theorem zgT {R:Result->Shared->Prop}(hh:A.handled=none)(hsm:(a == sysModules)=false)(hm:s.heap.DictAt (zaI prog w) a kvs ep)(hz:kvs.length<=sizeLine)
  (S:Addr) (hSa:S≠a) (res:Value) (c₀:Nat) (hS:s.heap.get? S=some {cls:=.type "list",data:=.seq #[] c₀})
  (hR:∀h' tk acc c,(∀b o,b≠S->s.heap.get? b=some o->h'.get? b=some o)->h'.get? S=some {cls:=.type "list",dict:=none,data:=.seq acc c,slots:=#[]}->ItemsOf (fun i v=>∃k x,kvs[i]?=some (k,x)/\(zaI prog w).is k v=true) acc kvs.length->R (.ok (.ret res)) {s with heap:=h',toks:=tk}) :
  wpAny (model prog w) A.in1 (Builtin.List.listExtendWith (.ref S) (.ref a) res)
   (fun fin s'=>match fin with|.done f=>R (.ok f) s'|.again c'=>c'.quiet=true/\codeAny (model prog w) A c' R s') (fun e s'=>R (.error e) s') s:=by
 have hlt:=Heap.lt_size hS
 have alt:=hm.lt_size
 unfold Builtin.List.listExtendWith
 refine wpAny_bind (wpAny_typeOf (T:="dict") hm.dictOf.typeIs ?_)
 rw[if_neg (by simp[Builtin.List.listSameRef,hSa])]
 refine wpAny_bind (wpAny_pyIter_dict hsm hm ?_)
 have hm1:=hm.push {cls:=.type "dict_keyiterator",data:=.fields #[.ref a,.int 0 0,.int kvs.length 0,.int ep 0]}
 have hS1:=Heap.get?_push_of_some {cls:=.type "dict_keyiterator",data:=.fields #[.ref a,.int 0 0,.int kvs.length 0,.int ep 0]} hS
 have hI1:(s.heap.push {cls:=.type "dict_keyiterator",data:=.fields #[.ref a,.int 0 0,.int kvs.length 0,.int ep 0]}).get? s.heap.objs.size=_:=Heap.get?_push_size _ rfl
 have old1:∀b o,s.heap.get? b=some o->(s.heap.push {cls:=.type "dict_keyiterator",data:=.fields #[.ref a,.int 0 0,.int kvs.length 0,.int ep 0]}).get? b=some o:=fun b o e=>Heap.get?_push_of_some _ e
 generalize s.heap.push {cls:=.type "dict_keyiterator",data:=.fields #[.ref a,.int 0 0,.int kvs.length 0,.int ep 0]}=h1 at *
 refine wpAny_bind (wpAny_holding (zlp (s:={s with heap:=h1}) hm1.dictOf.typeIs ?_))
 rw[if_pos (by decide +kernel)]
 refine wpAny_bind (wpAny_rule (wpAny_bind ?_))
 show wpAny _ _ (updateSeq S (·.push .none) >>= fun _=>updateSeq S (·.pop)) _ _ _
 refine wpAny_bind (wpAny_updateSeq (s:={s with heap:=h1}) hS1 rfl ?_)
 have hS₂:=Heap.get?_update_self (Obj.mapSeq (·.push Value.none)) hS1 rfl
 refine wpAny_updateSeq (hz:=by seq_fits) hS₂ rfl ?_
 have hS₃:=Heap.get?_update_self (Obj.mapSeq (·.pop)) hS₂ rfl
 have k3:∀b o,b≠S->h1.get? b=some o->((h1.update S (Obj.mapSeq (·.push Value.none))).update S (Obj.mapSeq (·.pop))).get? b=some o:=fun b o hb e=>
  (Heap.get?_update_other _ _ (Ne.symm hb)).trans ((Heap.get?_update_other _ _ (Ne.symm hb)).trans e)
 have sI:S≠s.heap.objs.size:=Nat.ne_of_lt hlt
 have W:=(Walks.dictKeys (prog:=prog) (w:=w) (A:=A.in1) (knd:=zaI prog w) hh s.heap.objs.size a (Nat.ne_of_lt alt) kvs ep).toS
 have Sfp:S∉[s.heap.objs.size,a]:=fun hm=>by
  simp only[List.mem_cons,List.not_mem_nil,or_false] at hm
  rcases hm with z|z
  · exact sI z
  · exact hSa z
 refine wpAny_pure ⟨plainId_quiet PySem.F.plain_extend_loop _,codeAny_extend_loopS W hz S Sfp res kvs.length 0 _ #[] _ rfl (Nat.zero_le _) ?_ hS₃ (ItemsOf.nil _) fun s' acc c mv hs' hacc=>?_⟩
 · exact⟨⟨_,k3 _ _ (Ne.symm sI) hI1,rfl,rfl⟩,hm1.at' fun o e=>k3 _ _ (Ne.symm hSa) e⟩
 · rw[Moved.eq_with mv]
   refine hR s'.heap s'.toks acc c (fun b o hb e=>mv.heap b o (fun hm=>?_) (k3 b o hb (old1 _ _ e))) hs' hacc
   simp only[List.mem_cons,List.not_mem_nil,or_false] at hm
   rcases hm with z|z
   · exact hb z
   · exact Nat.ne_of_lt (Heap.lt_size e) z
theorem zcX {Rr:List Value->Shared->Prop}{P:List Value->Prop}(hr:a<s.heap.objs.size)
  (key:∀(R:Result->Shared->Prop) (s1:Shared),s1={s with heap:=s.heap.push {cls:=.type "list",data:=.seq #[]}}->
   (∀h' tk acc c,(∀b o,b≠s.heap.objs.size->s1.heap.get? b=some o->h'.get? b=some o)->h'.get? s.heap.objs.size=some {cls:=.type "list",dict:=none,data:=.seq acc c,slots:=#[]}->P acc.toList->R (.ok (.ret (.ref s.heap.objs.size))) {s1 with heap:=h',toks:=tk})->
   wpAny (model prog w) A.in1 (Builtin.List.listExtendWith (.ref s.heap.objs.size) (.ref a) (.ref s.heap.objs.size))
    (fun fin s'=>match fin with|.done f=>R (.ok f) s'|.again c'=>c'.quiet=true/\codeAny (model prog w) A c' R s') (fun e s'=>R (.error e) s') s1)
  (h:∀(h':Heap) (tk:Nat) (vals:List Value),(∀b o,s.heap.get? b=some o->h'.get? b=some o)->s.heap.objs.size<h'.objs.size->P vals->Rr vals {s with heap:=h',toks:=tk}) :
  wpAny (model prog w) A (collect (.ref a)) Rr E s:=by
 unfold collect
 refine wpAny_bind (wpAny_runValue (codeAny_builtin PySem.F.entry_proto_collect ?_))
 rw[Around.under_plainId PySem.F.plain_proto_collect _]
 show wpAny _ A.in1 (newList [] >>= fun l=>again (.builtin "list.__iadd__" ⟨[l,.ref a],[]⟩)) _ _ s
 refine wpAny_bind (wpAny_newObj_type ?_)
 refine wpAny_pure ⟨plainId_quiet PySem.F.plain_list_iadd _,codeAny_builtin PySem.F.entry_list_iadd ?_⟩
 rw[Around.under_plainId PySem.F.plain_list_iadd _]
 show wpAny _ A.in1 (Builtin.List.listExtendWith (.ref s.heap.objs.size) (.ref a) (.ref s.heap.objs.size)) _ _ _
 have key:=key (fun (q:Result) (s':Shared)=>∃(h':Heap) (tk:Nat) (acc':Array Value) (c':Nat),q=.ok (.ret (.ref s.heap.objs.size))/\s'={s with heap:=h',toks:=tk}/\
   (∀b o,s.heap.get? b=some o->h'.get? b=some o)/\h'.get? s.heap.objs.size=some {cls:=.type "list",dict:=none,data:=.seq acc' c',slots:=#[]}/\P acc'.toList) _ rfl
  (fun h' tk acc' c' hk hS' hacc=>⟨h',tk,acc',c',rfl,rfl,fun b o e=>hk b o (Nat.ne_of_lt (Heap.lt_size e)) (Heap.get?_push_of_some _ e),hS',hacc⟩)
 refine wpAny_mono key (fun fin s' x=>?_) fun e s' x=>?_
 · cases fin with
   | done f =>
     obtain⟨h',tk,acc',c',e,rfl,hk,hS',hacc⟩:=x
     cases e
     show wpAny _ A (load s.heap.objs.size >>= _) _ _ _
     exact wpAny_bind (wpAny_load hS' (wpAny_pure (h h' tk _ hk (Heap.lt_size hS') hacc)))
   | again c₁ =>
     refine⟨x.1,codeAny_mono x.2 fun q s₂ y=>?_⟩
     obtain⟨h',tk,acc',c',rfl,rfl,hk,hS',hacc⟩:=y
     show wpAny _ A (load s.heap.objs.size >>= _) _ _ _
     exact wpAny_bind (wpAny_load hS' (wpAny_pure (h h' tk _ hk (Heap.lt_size hS') hacc)))
 · obtain⟨_,_,_,_,e',_⟩:=x
   cases e'
theorem zga {prog:Program}{w:World}:∀{ks:List Int} {vs:List (Key × Value)} {us:List Value},vs.map (·.1)=ks.map Sum.inl->us.length=vs.length->(∀(i:Nat) (v:Value),us[i]?=some v->∃k x,vs[i]?=some (k,x)/\(zaI prog w).is k v=true)->IntsAre us ks
 | [], [], us, _, hl, _ => by
   cases us with
   |nil=>exact .nil
   |cons _ _=>simp at hl
 | [],_::_,_,h,_,_=>by simp at h
 |_::_,[],_,h,_,_=>by simp at h
 | k :: ks, (k', x) :: vs, us, h, hl, hv => by
   cases us with
   |nil=>simp at hl
   | cons u us =>
     simp only[List.map_cons,List.cons.injEq] at h
     obtain⟨rfl,h⟩:=h
     obtain⟨k2,x2,e1,e2⟩:=hv 0 u rfl
     cases (show (Sum.inl k,x)=(k2,x2) from Option.some.inj e1)
     rcases zaG (show zft (Sum.inl k) u=true from e2) with ⟨i,t,e3,e4⟩|⟨y,t,e3,e4⟩
     · cases e3
       subst e4
       exact .cons _ _ (zga (prog:=prog) (w:=w) h (by simpa using hl) fun i v e=>hv (i+1) v (by simpa using e))
     · cases e3
end
theorem ziU {n:Nat}{us:List Value}(it:us.length=n/\∀(j:Nat) (v:Value),us[j]?=some v->∃t,v=Value.int (0+(j:Int) * 1) t):Vals ((List.range n).map fun (j:Nat)=>V.int j) us:=by
 obtain⟨hl,hv⟩:=it
 induction n generalizing us with
 | zero => cases us with
   |nil=>exact .nil
   |cons _ _=>simp at hl
 | succ n ih =>
   have hne:us≠[]:=by intro z;subst z;simp at hl
   have hd:us=us.dropLast++[us.getLast hne]:=(List.dropLast_concat_getLast hne).symm
   rw[List.range_succ,List.map_append,hd]
   have hdl:us.dropLast.length=n:=by simp[hl]
   refine Vals.append (ih hdl fun j v e=>hv j v ?_) (.cons ?_ .nil)
   · have hj:j<us.dropLast.length:=(List.getElem?_eq_some_iff.mp e).1
     rw[hd,List.getElem?_append_left hj];exact e
   · obtain⟨t,e⟩:=hv n (us.getLast hne) (by
      conv=>lhs;rw[hd]
      rw[List.getElem?_append_right (by omega)]
      simp[hdl])
     exact⟨t,by simpa using e⟩
section
variable {prog:Program} {w:World} {A:Around} {E:Value->Shared->Prop} {s:Shared}
theorem zdE {Q₁:Value->Shared->Prop}{r:Addr}{a b c:Int}{t u v:Tok}{n:Nat}(hh:A.handled=none)(hr:IsRange s.heap r a b c t u v)(hsmall:Builtin.Range.small a b c=true)(hn:Builtin.Range.rangeSize a b c=n)(hlen:n<=16777216)
  (h:∀(h':Heap) (tk:Nat) (vals:List Value),(∀b o,s.heap.get? b=some o->h'.get? b=some o)->(vals.length=n/\∀(i:Nat) (x:Value),vals[i]?=some x->∃t,x=.int (a+i * c) t)->Q₁ (.ref h'.objs.size) {s with heap:=h'.push {cls:=.type "tuple",data:=.seq vals.toArray},toks:=tk}) :
  codeAny (model prog w) A (.call (.builtin "tuple.__new__") ⟨[.type "tuple",.ref r],[]⟩) (wants Q₁ E) s:=by
 refine codeAny_of_tree ?_
 show wpAny _ A.in1 (do checkBuiltinCall "tuple.__new__" ⟨[.type "tuple",.ref r],[]⟩;again (.builtin "tuple.__new__" ⟨[.type "tuple",.ref r],[]⟩)) _ _ s
 refine wpAny_bind (wpAny_of_eq (F.newCall_tuple_1 _) (wpAny_pure ⟨plainId_quiet F.plain_tuple_new _,codeAny_builtin F.entry_tuple_new ?_⟩))
 rw[Around.under_plainId F.plain_tuple_new _]
 have hsub:=sub_tuple_self
 have hinit:=init_tuple_lookup
 have hmh:=madeHere_tuple
 have hTI:s.TypeIs (.ref r) "range":=⟨_,hr,rfl⟩
 have col:∀{A':Around} {Rr:List Value->Shared->Prop} {E':Value->Shared->Prop},A'.handled=none->(∀(h':Heap) (tk:Nat) (vals:List Value),(∀b o,s.heap.get? b=some o->h'.get? b=some o)->s.heap.objs.size<h'.objs.size->(vals.length=n/\∀(i:Nat) (x:Value),vals[i]?=some x->∃t,x=.int (a+i * c) t)->Rr vals {s with heap:=h',toks:=tk})->wpAny (model prog w) A' (collect (.ref r)) Rr E' s:=by
  intro A' Rr E' hA' hR
  refine zcX (Heap.lt_size hr) (fun R s1 e1 hR'=>?_) hR
  subst e1
  exact wpAny_extend_range hA' (Heap.get?_push_of_some _ hr) hsmall hn hlen _ _ 0 (Heap.get?_push_size _ rfl) fun h' tk acc c' hk hS' hacc=>hR' h' tk acc c' hk hS' ⟨by rw[Array.length_toList];exact hacc.1,fun i x e=>hacc.2 i x (by simpa using e)⟩
 wp_walk using wpAny_typeOf hTI,col (A':=A.in1) hh
 intro h' tk vals kp hlt hv
 show wpAny _ _ (Builtin.Tuple.tupleExact vals.toArray >>= fun v=>ret v) _ _ _
 unfold Builtin.Tuple.tupleExact
 refine wpAny_bind (wpAny_newObj_type ?_ (by show vals.toArray.size<=sizeLine;rw[List.size_toArray,hv.1,sizeLine_eq];exact hlen))
 refine wpAny_pure ?_
 exact h h' tk vals kp hv
end
section
variable [Mks] {X:Cx}
theorem zgx (hc:X.calm=true):za7 X (.builtin "sorted") (fun xs H Q=>∃(a:Addr) (ws:List (Key × V)) (ns:List Int),xs=[.ref a]/\H a=some (.dK ws)/\ws.map (·.1)=ns.map Sum.inl/\ns.length<64/\∀p,H p=none->Q (.ref p) (upd H p (.lst ((zag ns).map V.int)))):=by
 intro pins s σ H xs us Q I r h
 obtain⟨a,ws,ns,rfl,hf,hks,h64,q⟩:=h
 obtain⟨u,rfl,ru⟩:=r.one
 cases (show u=Value.ref a from ru)
 obtain⟨hz,hsm,vs,rel,dd⟩:=zlz I.hok hf
 obtain⟨ep,dd⟩:=dd.dictAt
 have hA:X.A.handled=none:=I.ok.hd hc
 have hvk:vs.map (·.1)=ns.map Sum.inl:=by
  rw[<-hks]
  have:∀{l:List (Key × V)} {m:List (Key × Value)},KV l m->m.map (·.1)=l.map (·.1):=by
   intro l m q
   induction q with
   |nil=>rfl
   |cons h _ ih=>rw[List.map_cons,List.map_cons,h.1,ih]
  exact this rel
 have hvl:vs.length=ns.length:=by have:=congrArg List.length hvk;simpa using this
 refine Calls.call_function_entry kind_sorted plain_sorted entry_sorted (args_sorted1 _) ?_
 unfold Builtin.«sorted»
 refine wpAny_bind (m:=checkCount "sorted" 1 1 _) (wpAny_pure ?_)
 refine wpAny_bind (zcX (P:=fun us=>IntsAre us ns) dd.lt_size (fun R s1 e1 hR=>?_) fun h1 tk vals kp hlt hks'=>?_)
 · subst e1
   have alt:=dd.lt_size
   refine zgT (A:=X.A.in1) hA hsm (dd.push _) (by rw[hvl,sizeLine_eq];omega) _ (Nat.ne_of_gt alt) _ 0 (Heap.get?_push_size _ rfl) fun h' tk acc c hk hS' hacc=>hR h' tk acc c hk hS' ?_
   exact zga hvk (by rw[Array.length_toList];exact hacc.1) fun i v e=>hacc.2 i v (by simpa using e)
 have h64':vals.length<64:=by rw[hks'.length];exact h64
 refine wpAny_bind (wpAny_newList ?_ (by rw[sizeLine_eq];omega))
 have hoL:(h1.push (seqObj "list" vals.toArray 0)).get? h1.objs.size=some (seqObj "list" vals.toArray 0):=Heap.get?_push_size _ rfl
 refine wpAny_bind (wpAny_holding (wpAny_call_entry slot_list_sort ⟨_,hoL,rfl⟩ entry_list_sort (list_sort_tree hoL hks' h64' fun out ns' a1 a2 a3=>⟨_,rfl,?_⟩) (args_list_sort _)))
 have hle:s.heap.objs.size<=h1.objs.size:=Nat.le_of_lt hlt
 have en:ns'=zag ns:=zbv (a2.trans (zaA ns).symm) a3 (zaR ns)
 subst en
 obtain⟨c,hc'⟩:=sortedHeap_at (out:=out) hoL
 refine wpAny_pure ⟨_,rfl,.ref h1.objs.size,_,zfu (s:=s) (d':=s.drawn) (t':=tk) (o:=.lst ((zag ns).map V.int)) I (fun b u e=>?_) hle ⟨?_,out.toList,c,zbK a1,?_⟩,rfl,q _ (I.hok.fresh hle)⟩
 · have e1:=kp b u e
   have l1:=Heap.lt_size e1
   rw[sortedHeap_old (Nat.ne_of_lt l1) (Nat.lt_of_lt_of_eq (Nat.lt_succ_of_lt l1) (Heap.size_push ..).symm)]
   exact Heap.get?_push_of_some _ e1
 · rw[List.length_map,(zaA ns).length_eq,sizeLine_eq];omega
 · exact hc'
variable {T:Tab} {cf:CF} {k:Nat} {N:List Str} {sc:Scope} {pos p p2 pos':Pos}
theorem zkC (G:Gd T cf k N sc X){ca:CE}{e:Expr}(hg:Gl X "sorted"/\X.mg "sorted"=none)(he:PE X e (tE X.K cf ca))(hst:zaq e=true) :
  PE X (.Call (.Name "sorted" p) [e] [] pos) (tE X.K cf (.dsrt ca)):=by
 refine PE.imp (zbp (zgx G.calm) hg.1 hg.2 zdv (za5 he hst) (by decide) (by decide) (zat hst [] X.env)) fun σ H Qv ⟨δ,ι,S,Q,hs,hh,w,q⟩=>?_
 simp only[evE,zac] at w
 refine tE.run hs hh w fun d v ι1 H1 S1 x1 hs1 hh1 r1 w1=>?_
 obtain⟨ns,hb,w2⟩:=zaO w1
 unfold dicI at hb
 cases d with
 | ref l =>
   obtain⟨a,h1,rfl⟩:=r1
   dsimp only at hb
   cases e1:S1.get l with
   |none=>rw[e1] at hb;cases hb
   | some ob =>
     rw[e1] at hb
     cases ob with
     | dic kvs =>
       obtain⟨a',g1,nd,ws,ha,rz⟩:=hh1.obj _ _ e1
       rw[h1] at g1;cases g1
       cases (show some (kvs.map (·.1))=some ns from hb)
       split at w2
       · rename_i c
         obtain⟨c2,w3⟩:=zb9 w2
         exact⟨a,ws,_,rfl,ha,by rw[rz.keys,List.map_map];rfl,c,fun l hl=>q _ _ (Lf.up x1 (Lf.lst hh1 hl (RVs.ints _) w3))⟩
       · exact w2.elim
     |_=>cases hb
 |_=>cases hb
theorem zkE {ca cb:CE}{a b:Expr}(ha:PE X a (tE X.K cf ca))(hb:PE X b (tE X.K cf cb)):PE X (.Dict [some a] [b] pos) (tE X.K cf (.dic1 ca cb)):=by
 refine PE.imp (zk1 (zi0 ha hb zkW) rfl rfl (by simp) (by simp)) fun σ H Qv ⟨δ,ι,S,Q,hs,hh,w,q⟩=>?_
 simp only[evE,zac] at w
 intro p hp
 have x0:Ext ι H ι (upd H p (.dK [])):=Ext.new hp _
 have hpι:=hh.fresh hp
 show tE X.K cf ca σ (upd H p (.dK [])) _
 refine tE.run (hs.ext x0) (hh.new hp (.dK [])) w fun d v ι1 H1 S1 x1 hs1 hh1 r1 w1=>?_
 show tE X.K cf cb σ H1 _
 refine tE.run hs1 hh1 w1 fun y vy ι2 H2 S2 x2 hs2 hh2 r2 w2=>?_
 obtain⟨k,hk,w3⟩:=zaO w2
 cases d with
 | int k' =>
   cases (show some k'=some k from hk)
   obtain rfl:v=.int k:=r1
   have x12:=x1.trans x2
   have hp2:H2 p=some (.dK []):=x12.keep hpι zaw (by intro ps z;cases z)
   have pn:p∉ι2:=(x12.rest p _ hpι zaw).2
   refine⟨hp2,[(.inl k,vy)],rfl,by simp,?_⟩
   have kp2:Kp H2 (upd H2 p (.dK (zcQ [] [((.inl k:Key),vy)]))):=by
    refine .same (fun b xs e=>?_) (fun b o u e=>?_) fun b ps e=>?_
    · rw[zap (by intro z;rw[z,hp2] at e;cases e)];exact e
    · rw[zap (by intro z;rw[z,hp2] at e;cases e)];exact e
    · rw[zap (by intro z;rw[z,hp2] at e;cases e)];exact e
   have xe:Ext ι H (ι2++[p]) (upd H2 p (.dK (zcQ [] [((.inl k:Key),vy)]))):=by
    have x:=x0.trans x12
    refine⟨x.pre.trans (List.prefix_append _ _),x.kp.trans kp2,fun b o hb e=>?_⟩
    have bp:b≠p:=by intro z;rw[z,hp] at e;cases e
    obtain⟨e1,h1⟩:=x.rest b o hb e
    refine⟨?_,fun z=>?_⟩
    · rcases e1 with e1|⟨t,ps,e1⟩
      · exact .inl (by rw[zap bp];exact e1)
      · exact .inr ⟨t,ps,by rw[zap bp];exact e1⟩
    · rcases List.mem_append.mp z with z|z
      · exact h1 z
      · exact bp (List.mem_singleton.mp z)
   have hh3:RH X.K ι2 (upd H2 p (.dK (zcQ [] [((.inl k:Key),vy)]))) S2:=
    ⟨hh2.len,hh2.nd,fun l o e=>let ⟨b,h1,h2,hm⟩:=hh2.mem e;⟨b,h1,h2.up (List.prefix_refl _) kp2 (zap fun z=>pn (z▸hm))⟩,kp2.tab hh2.tab⟩
   exact q _ _ ⟨.ref S2.len,ι2++[p],S2.push (.dic [(k,y)]),xe,⟨p,hh2.last p,rfl⟩,hh3.one (l:=0) pn ⟨by simp,_,zaw,vy,[],rfl,r2.up (List.prefix_append _ _) kp2,rfl⟩,w3⟩
 |_=>cases hk
theorem zhd (hc:X.calm=true):za7 X (.type "tuple") (fun xs H Q=>∃p hi,xs=[.ref p]/\H p=some (.rng 0 hi)/\-(2 ^ 62)<=hi/\hi<2 ^ 62/\hi.toNat<=16777216/\∀l,H l=none->Q (.ref l) (upd H l (.tup ((List.range hi.toNat).map fun (j:Nat)=>.int j)))):=by
 intro pins s σ H xs us Q I r h
 obtain⟨p,hi,rfl,hp,h1,h2,h3,q⟩:=h
 obtain⟨u,rfl,ru⟩:=r.one
 cases (show u=Value.ref p from ru)
 obtain⟨t,t2,t3,e⟩:=(show ObjOk X.prog X.w H s.heap p (.rng 0 hi) from I.hok p _ hp)
 have hA:X.A.handled=none:=I.ok.hd hc
 have hn:Builtin.Range.rangeSize 0 hi 1=(hi.toNat:Nat):=by rw[rangeSize_one];split<;>omega
 refine callType_codes (Q₁:=fun obj s₁=>s₁.TypeIs obj "tuple"/\∃v H',Inv X pins σ H' s₁/\RelV v obj/\Q v H') F.called_tuple (F.typeCall_tuple_1 _) F.entry_object_init ?_ fun obj s₁ h₁=>?_
 · refine zdE hA e (small_one (by decide) (by decide) h1 h2) hn h3 fun h' tk acc kp it=>⟨⟨_,Heap.get?_push_size _ rfl,rfl⟩,?_⟩
   have I1:Inv X pins σ H {s with heap:=h',toks:=tk}:=I.kept kp
   refine⟨.ref h'.objs.size,_,I1.laid (o:=.tup ((List.range hi.toNat).map fun (j:Nat)=>.int j)) (t':=tk) (fun b o e=>Heap.get?_push_of_some _ e) (Nat.le_refl _) ⟨?_,acc,ziU it,IsTup.new _ _⟩,rfl,q _ (I1.hok.fresh (Nat.le_refl _))⟩
   rw[List.length_map,List.length_range,sizeLine_eq];exact h3
 · exact⟨h₁.1,F.args_object_init_2 obj _,object_init_meets F.called_tuple.init.lookup F.called_tuple.made (by decide) X.prog X.w X.A.in1 _ s₁ ⟨h₁.1,rfl,h₁.2⟩⟩
theorem ziN (G:Gd T cf k N sc X){ca:CE}{a:Expr}{p2:Pos}(hg:Gl X "tuple"/\X.mg "tuple"=none)(hr:Gl X "range"/\X.mg "range"=none)(ha:PE X a (tE X.K cf ca))(hst:zaq a=true) :
  PE X (.Call (.Name "tuple" p) [.Call (.Name "range" p2) [a] [] pos'] [] pos) (tE X.K cf (.mkT (.rng1 ca))):=by
 have hin:=zbl (p:=p2) (pos:=pos') zeM hr.1 hr.2 zgo (za5 ha hst) (by decide) (by decide) (zat hst [] X.env)
 refine PE.imp (zbl (zhd G.calm) hg.1 hg.2 zet (za5 hin rfl) (by decide) (by decide) rfl) fun σ H Qv ⟨δ,ι,S,Q,hs,hh,w,q⟩=>?_
 simp only[evE,evL,zac] at w
 refine tE.run hs hh w fun d v ι1 H1 S1 x1 hs1 hh1 r1 w1=>?_
 cases d with
 | int j =>
   obtain rfl:v=.int j:=r1
   dsimp only at w1
   split at w1
   · rename_i c
     rw[W_ok] at w1
     split at w1
     · rename_i c2
       refine⟨j,rfl,fun pr hpr=>⟨pr,j,rfl,zaw,c.1,c.2,by simpa using c2,fun l hl=>?_⟩⟩
       have hh2:=hh1.new hpr (.rng 0 j)
       refine q _ _ (Lf.up (x1.trans (Ext.new hpr _)) (Lf.tup hh2 hl ?_ w1))
       have:=RVs.ints (K:=X.K) (ι:=ι1) (H:=upd H1 pr (.rng 0 j)) ((List.range j.toNat).map fun (m:Nat)=>(m:Int))
       rw[List.map_map,List.map_map] at this
       exact this
     · exact w1.elim
   · exact w1.elim
 |_=>exact w1.elim
end
end R
end
section
namespace R
open PySem PySem.Spec PyProof.Rows L2
variable [Mks]
section
variable {T:Tab} {cf:CF} {k:Nat} {N:List Str} {sc:Scope} {X:Cx} {pos p p2 pos':Pos}
end
end R
end
section
namespace R
open PySem PySem.Spec PyProof.Rows L2
variable [Mks]
structure Ltr (K:PySem.W.Frag) (ι:List Addr) (H:Hp) (S:R.St) (lks:List Nat) (ι2:List Addr) (H2:Hp) (S2:R.St):Prop where
 ext:Ext ι H ι2 H2
 rh:RH K ι2 H2 S2
 lck:∀l∈lks,S2.get l=S.get l
structure Wk (K:PySem.W.Frag) (J:It) (ds:List D) (lks:List Nat) (ι:List Addr) (H:Hp) (S:R.St):Prop where
 go:∀(i:Nat) (ι2:List Addr) (H2:Hp) (S2:R.St),Ltr K ι H S lks ι2 H2 S2->i<ds.length->J.go i H2
 yld:∀(i:Nat) (ι2:List Addr) (H2:Hp) (S2:R.St) (x:V) (H':Hp),Ltr K ι H S lks ι2 H2 S2->i<ds.length->J.yld i H2 x H'->Ext ι2 H2 ι2 H'/\RH K ι2 H' S2/\∃d,ds[i]?=some d/\RV K ι2 H' d x
 stop:∀(i:Nat) (ι2:List Addr) (H2:Hp) (S2:R.St),Ltr K ι H S lks ι2 H2 S2->ds.length<=i->J.stop i H2
 lks:∀l∈lks,l<S.len
noncomputable def LfI (K:PySem.W.Frag)(ι:List Addr)(H:Hp)(Q:List D × List Nat->R.St->Prop)(J:It)(H':Hp):Prop:=∃ds lks ι' S',Ext ι H ι' H'/\RH K ι' H' S'/\Q (ds,lks) S'/\Wk K J ds lks ι' H' S'
noncomputable def tI (K:PySem.W.Frag)(cf:CF)(cl:CL):TI:=fun σ H R=>∃δ ι S Q,RS K ι H δ σ/\RH K ι H S/\W (evL cf cl δ S) Q/\∀J H',LfI K ι H Q J H'->R J H'
theorem PI.imp {X:Cx}{tg e:Expr}{t t':TI}(h:PI X tg e t)(i:∀σ H Q,t' σ H Q->t σ H Q):PI X tg e t':=fun pins s σ H Q I q=>h pins s σ H Q I (i σ H Q q)
noncomputable def iSeq (K:PySem.W.Frag)(tl:TE):TI:=fun σ H R=>tl σ H fun x H1=>∃a,x=.ref a/\(((∃xs,SqL K H1 a xs)/\R (Itl K a) H1)\/((∃xs,SqT K H1 a xs)/\R (Itt K a) H1))
section
variable {T:Tab} {cf:CF} {k:Nat} {N:List Str} {sc:Scope} {X:Cx} {pos p:Pos} {tg:Expr}
theorem zmK {l:Expr}{tl:TE}(hl:PE X l tl):PI X tg l (iSeq X.K tl):=by
 intro pins s σ H R I h
 refine thn (hl pins s σ H _ I h) fun v s1 ⟨x,H1,I1,r1,q1⟩=>?_
 obtain⟨a,rfl,q1⟩:=q1
 cases r1
 rcases q1 with ⟨⟨xs,hq⟩,q⟩|⟨⟨xs,hq⟩,q⟩
 · obtain⟨its,rv,pl,hz⟩:=I1.list hq
   refine wpAny_pyIter_list pl.isList ?_
   refine⟨s1.heap.objs.size,[s1.heap.objs.size],_,_,H1,rfl,I1.kept (t':=s1.toks) fun b o e=>Heap.get?_push_of_some _ e,zhc a _,⟨_,Heap.get?_push_size _ rfl,rfl,rfl⟩,fun b hb=>?_,q⟩
   have e:b=s1.heap.objs.size:=by simpa using hb
   subst e
   exact I1.fpOk (Nat.le_refl _) (I1.hok.fresh (Nat.le_refl _))
 · obtain⟨its,rv,pl,hz⟩:=I1.tuple hq
   refine wpAny_pyIter_tuple (show s1.heap.IsTuple a its.toArray from pl) ?_
   refine⟨s1.heap.objs.size,[s1.heap.objs.size],_,_,H1,rfl,I1.kept (t':=s1.toks) fun b o e=>Heap.get?_push_of_some _ e,zgt a _,⟨_,Heap.get?_push_size _ rfl,rfl,rfl⟩,fun b hb=>?_,q⟩
   have e:b=s1.heap.objs.size:=by simpa using hb
   subst e
   exact I1.fpOk (Nat.le_refl _) (I1.hok.fresh (Nat.le_refl _))
theorem zff {K:PySem.W.Frag}{ι:List Addr}{H:Hp}{S:R.St}{a:Addr}{ds:List D}{lks:List Nat}(hl:∀l∈lks,l<S.len)
  (h:∀ι2 H2 S2,Ltr K ι H S lks ι2 H2 S2->∃xs,SqL K H2 a xs/\RVs K ι2 H2 ds xs/\∀ys,SqL K H2 a ys->True):Wk K (Itl K a) ds lks ι H S where
 go:=fun i ι2 H2 S2 lt hi=>by
  obtain⟨xs,hq,rr,_⟩:=h ι2 H2 S2 lt
  exact⟨xs,xs[i]'(by rw[rr.length];exact hi),hq,List.getElem?_eq_getElem _⟩
 yld:=fun i ι2 H2 S2 x H' lt hi y=>by
  obtain⟨xs,hq,rr,_⟩:=h ι2 H2 S2 lt
  obtain⟨rfl,y⟩:=y
  obtain⟨d,e,r⟩:=rr.get' (y xs hq)
  exact⟨Ext.refl _ _,lt.rh,d,e,r⟩
 stop:=fun i ι2 H2 S2 lt hi=>by
  obtain⟨xs,hq,rr,_⟩:=h ι2 H2 S2 lt
  exact⟨xs,hq,by rw[rr.length];exact hi⟩
 lks:=hl
theorem zlO {K:PySem.W.Frag}{ι:List Addr}{H:Hp}{S:R.St}{a:Addr}{ds:List D}{lks:List Nat}{xs:List V}(hl:∀l∈lks,l<S.len)(e:H a=some (.tup xs))(rr:RVs K ι H ds xs):Wk K (Itt K a) ds lks ι H S where
 go:=fun i ι2 H2 S2 lt hi=>⟨xs,xs[i]'(by rw[rr.length];exact hi),SqT.of (lt.ext.kp.tups _ _ e),List.getElem?_eq_getElem _⟩
 yld:=fun i ι2 H2 S2 x H' lt hi y=>by
  obtain⟨rfl,y⟩:=y
  obtain⟨d,e,r⟩:=(rr.ext lt.ext).get' (y xs (SqT.of (lt.ext.kp.tups _ _ e)))
  exact⟨Ext.refl _ _,lt.rh,d,e,r⟩
 stop:=fun i ι2 H2 S2 lt hi=>⟨xs,SqT.of (lt.ext.kp.tups _ _ e),by rw[rr.length];exact hi⟩
 lks:=hl
theorem zjL {cl:CL}{e:Expr}(he:PE X e (tL X.K cf cl))(hlk:∀{δ:Ev} {S:R.St} {Q:List D × List Nat->R.St->Prop},W (evL cf cl δ S) Q->W (evL cf cl δ S) fun r S'=>(∀l∈r.2,l<S'.len)/\Q r S'):PI X tg e (tI X.K cf cl):=by
 refine PI.imp (zmK he) fun σ H R ⟨δ,ι,S,Q,hs,hh,w,q⟩=>?_
 refine tL.run hs hh (hlk w) fun ds lks v ι1 H1 S1 x1 hs1 hh1 sq w1=>?_
 obtain⟨hl,w1⟩:=w1
 obtain⟨a,xs,rfl,rr,kd⟩:=sq
 refine⟨a,rfl,?_⟩
 cases kd with
 |tmp h e=>exact .inl ⟨⟨xs,SqL.of e⟩,q _ _ ⟨ds,lks,ι1,S1,x1,hh1,w1,zff hl fun ι2 H2 S2 lt=>⟨xs,SqL.of (lt.ext.keep h e (by simp)),rr.ext lt.ext,fun _ _=>trivial⟩⟩⟩
 |fix e=>exact .inl ⟨⟨xs,e.sq⟩,q _ _ ⟨ds,lks,ι1,S1,x1,hh1,w1,zff hl fun ι2 H2 S2 lt=>⟨xs,(e.kp lt.ext.kp).sq,rr.ext lt.ext,fun _ _=>trivial⟩⟩⟩
 |tup e=>exact .inr ⟨⟨xs,SqT.of e⟩,q _ _ ⟨ds,lks,ι1,S1,x1,hh1,w1,zlO hl e rr⟩⟩
 | own l hm hi hg e =>
   refine .inl ⟨⟨xs,SqL.of e⟩,q _ _ ⟨ds,lks,ι1,S1,x1,hh1,w1,zff hl fun ι2 H2 S2 lt=>?_⟩⟩
   obtain⟨b,h2,zs,hz,rz⟩:=lt.rh.obj l (.lst ds) ((lt.lck l hm).trans hg)
   rw[zcG lt.ext.pre hi] at h2;cases h2
   exact⟨zs,SqL.of hz,rz,fun _ _=>trivial⟩
theorem zng {ce:CE}{δ:Ev}{S:R.St}{Q:List D × List Nat->R.St->Prop}(h:W (evL cf (.val ce) δ S) Q):W (evL cf (.val ce) δ S) fun r S'=>(∀l∈r.2,l<S'.len)/\Q r S':=by
 simp only[evL,zac] at h⊢
 refine h.mono fun x S1 h1=>?_
 obtain⟨ds,e,h2⟩:=zaO h1
 rw[e]
 refine⟨fun l hl=>?_,h2⟩
 cases x with
 | ref l' =>
   simp[lkOf] at hl
   subst hl
   simp only[zcA] at e
   split at e
   · rename_i e2;exact zbe e2
   · cases e
 |_=>simp[lkOf] at hl
theorem zlh {n:Nat}{js g:List Nat}{it:CL}{c e:CE}{δ:Ev}{S:R.St}{Q:List D × List Nat->R.St->Prop}(h:W (evL cf (.comp n js g it c e) δ S) Q):W (evL cf (.comp n js g it c e) δ S) fun r S'=>(∀l∈r.2,l<S'.len)/\Q r S':=by
 simp only[evL,zac] at h⊢
 refine h.mono fun ds S1 h1=>h1.mono fun r S2 h2=>?_
 split at h2
 · rename_i c;rw[if_pos c];exact⟨fun l hl=>by simp at hl,h2⟩
 · exact h2.elim
theorem zfJ {K:PySem.W.Frag}{ι:List Addr}{H:Hp}{S:R.St}(lo:Int)(n:Nat):Wk K (Itr lo n) ((List.range n).map fun (j:Nat)=>D.int (lo+j)) [] ι H S where
 go:=fun i ι2 H2 S2 lt hi=>by show i<n;simpa using hi
 yld:=fun i ι2 H2 S2 x H' lt hi y=>by
  obtain⟨rfl,rfl⟩:=y
  have hi:i<n:=by simpa using hi
  exact⟨Ext.refl _ _,lt.rh,.int (lo+i),by simp[hi],rfl⟩
 stop:=fun i ι2 H2 S2 lt hi=>by show n<=i;simpa using hi
 lks:=fun l hl=>by simp at hl
theorem zkq {ca:CE}{a:Expr}(hg:Gl X "range"/\X.mg "range"=none)(ha:PE X a (tE X.K cf ca))(hst:zaq a=true):PI X tg (.Call (.Name "range" p) [a] [] pos) (tI X.K cf (.rng1 ca)):=by
 refine PI.imp (zhD hg.1 hg.2 (za5 ha hst) (zat hst [] X.env)) fun σ H R ⟨δ,ι,S,Q,hs,hh,w,q⟩=>?_
 simp only[evL,zac] at w
 refine tE.run hs hh w fun d v ι1 H1 S1 x1 hs1 hh1 r1 w1=>?_
 cases d with
 | int j =>
   obtain rfl:v=.int j:=r1
   dsimp only at w1
   split at w1
   · rename_i c
     have e:((List.range j.toNat).map fun (k:Nat)=>D.int k)=(List.range j.toNat).map fun (k:Nat)=>D.int (0+k):=by simp
     rw[e] at w1
     exact⟨j,rfl,c.1,c.2,q _ _ ⟨_,[],ι1,S1,x1,hh1,w1,zfJ 0 j.toNat⟩⟩
   · exact w1.elim
 |_=>exact w1.elim
theorem zkp {ca cb:CE}{a b:Expr}(hg:Gl X "range"/\X.mg "range"=none)(ha:PE X a (tE X.K cf ca))(hb:PE X b (tE X.K cf cb))(hst:zaq a=true)(hst2:zaq b=true):PI X tg (.Call (.Name "range" p) [a,b] [] pos) (tI X.K cf (.rng2 ca cb)):=by
 refine PI.imp (zhC hg.1 hg.2 (zce ha (za5 hb hst2) (zat hst [b] X.env)) (by rw[zat hst,zat hst2];rfl) (zat hst2 [] X.env)) fun σ H R ⟨δ,ι,S,Q,hs,hh,w,q⟩=>?_
 simp only[evL,zac] at w
 refine tE.run hs hh w fun d v ι1 H1 S1 x1 hs1 hh1 r1 w1=>tE.run hs1 hh1 w1 fun e u ι2 H2 S2 x2 hs2 hh2 r2 w2=>?_
 split at w2
 · rename_i i j
   obtain rfl:v=.int i:=r1
   obtain rfl:u=.int j:=r2
   split at w2
   · rename_i c
     exact⟨i,j,rfl,c,q _ _ ⟨_,[],ι2,S2,x1.trans x2,hh2,w2,zfJ i (j - i).toNat⟩⟩
   · exact w2.elim
 · exact w2.elim
noncomputable def tG (K:PySem.W.Frag)(is:List Nat):TG:=fun v σ H Qv=>∃δ ι d δ',RS K ι H δ σ/\RV K ι H d v/\asgG is d δ=some δ'/\∀σ',RS K ι H δ' σ'->Qv σ' H
noncomputable def tGs (K:PySem.W.Frag)(is:List Nat):TGs:=fun vs σ H Qv=>∃δ ι ds,RS K ι H δ σ/\RVs K ι H ds vs/\ds.length=is.length/\∀σ',RS K ι H (zdw is ds δ) σ'->Qv σ' H
theorem PG.imp {t t':TG}(h:PG X tg t)(i:∀v σ H Q,t' v σ H Q->t v σ H Q):PG X tg t':=fun pins s σ H v u Q I r q=>h pins s σ H v u Q I r (i v σ H Q q)
theorem PGs.imp {es:List Expr}{t t':TGs}(h:PGs X es t)(i:∀v σ H Q,t' v σ H Q->t v σ H Q):PGs X es t':=fun pins s σ H v u Q I r q=>h pins s σ H v u Q I r (i v σ H Q q)
theorem zkr (G:Gd T cf k N sc X){i:Nat}{x:Str}(hi:N[i]?=some x)(hl:zeY sc x=true):PG X (.Name x pos) (tG X.K [i]):=by
 refine PG.imp (zhE (i:=i) (by rw[G.nm];exact G.nd) (by rw[G.nm];exact hi) (G.lc hl).1 (G.lc hl).2) fun v σ H Qv ⟨δ,ι,d,δ',hs,r,e,q⟩=>?_
 simp only[asgG] at e
 cases e
 exact q _ (hs.set r i)
noncomputable def zcP (sc:Scope)(N:List Str):List Nat->List Expr->Bool
 | [],[]=>true
 |i::is,.Name x _::es=>(N[i]? == some x)&&zeY sc x&&zcP sc N is es
 |_,_=>false
theorem zeD (G:Gd T cf k N sc X):∀{is:List Nat} {es:List Expr},zcP sc N is es=true->PGs X es (tGs X.K is)/\(assignEach es X.env).length=is.length/\(assignEach es X.env).findIdx? (·.1)=none
 | [],[],_=>⟨PGs.imp zkZ fun v σ H Qv ⟨δ,ι,ds,hs,r,hl,q⟩=>by
  have:ds=[]:=by simpa using hl
  subst this
  exact⟨r,q σ (by simpa[zdw] using hs)⟩,rfl,rfl⟩
 | [],_::_,h=>by simp[zcP] at h
 |_::_,[],h=>by simp[zcP] at h
 | i :: is, e :: es, h => by
   cases e with
   | Name x pos =>
     simp only[zcP,Bool.and_eq_true,beq_iff_eq] at h
     obtain⟨h1,h2,h3⟩:=zeD G (is:=is) (es:=es) h.2
     refine⟨PGs.imp (zi4 (zhE (i:=i) (by rw[G.nm];exact G.nd) (by rw[G.nm];exact h.1.1) (G.lc h.1.2).1 (G.lc h.1.2).2) h1) fun v σ H Qv ⟨δ,ι,ds,hs,r,hl,q⟩=>?_,?_,?_⟩
     · cases ds with
       |nil=>simp at hl
       | cons d ds =>
         obtain⟨v1,vr,rfl,r1,r2⟩:=r
         refine⟨v1,vr,rfl,?_⟩
         exact⟨δ.set i (some d),ι,ds,hs.set r1 i,r2,by simpa using hl,fun σ' hs'=>q σ' (by simpa[zdw] using hs')⟩
     · show ((false,_)::assignEach es X.env).length=_
       simp[h2]
     · show ((false,_)::assignEach es X.env).findIdx? _=_
       simp[List.findIdx?_cons,h3]
   |_=>simp[zcP] at h
theorem zjE {is:List Nat}{d:D}{δ δ':Ev}(h2:2<=is.length)(e:asgG is d δ=some δ'):∃ds,d=.tup ds/\ds.length=is.length/\δ'=zdw is ds δ:=by
 match is,h2 with
 | a :: b :: t, _ =>
   cases d with
   | tup ds =>
     simp only[asgG] at e
     split at e
     · rename_i c;cases e;exact⟨ds,rfl,c,rfl⟩
     · cases e
   |_=>cases e
theorem zmg (G:Gd T cf k N sc X){is:List Nat}{es:List Expr}{j:Nat}(h:zcP sc N is es=true)(h2:2<=is.length):PG X (.Tuple es j pos) (tG X.K is):=by
 obtain⟨h1,hn,hst⟩:=zeD G h
 refine PG.imp (zmL G.calm h1 hn hst) fun v σ H Qv ⟨δ,ι,d,δ',hs,r,e,q⟩=>?_
 obtain⟨ds,rfl,c,rfl⟩:=zjE h2 e
 obtain⟨a,xs,rfl,ha,rr⟩:=r
 exact⟨a,xs,rfl,SqT.of ha,by rw[rr.length];exact c,δ,ι,ds,hs,rr,c,q⟩
theorem Ext.tmp {ι ι':List Addr}{H H':Hp}{p:Addr}{vs us:List V}(x:Ext ι H ι' H')(hn:H p=none)(e:H' p=some (.lst vs)):Ext ι H ι' (upd H' p (.lst us)):=by
 refine⟨x.pre,x.kp.trans (.same (Tups.upd_lst e) (fun b o u h=>?_) fun b ps h=>?_),fun b o hb eb=>?_⟩
 · rw[zap];exact h
   rintro rfl
   rw[e] at h;cases h
 · rw[zap];exact h
   rintro rfl
   rw[e] at h;cases h
 · obtain⟨h1,h2⟩:=x.rest b o hb eb
   refine⟨?_,h2⟩
   rw[zap];exact h1
   rintro rfl
   rw[hn] at eb;cases eb
theorem Kp.tmp {H:Hp}{p:Addr}{vs us:List V}(e:H p=some (.lst vs)):Kp H (upd H p (.lst us)):=.same (Tups.upd_lst e) (fun b o u h=>by
 rw[zap];exact h
 rintro rfl
 rw[e] at h;cases h) fun b ps h=>by
 rw[zap];exact h
 rintro rfl
 rw[e] at h;cases h
theorem RH.tmp {K:PySem.W.Frag}{ι:List Addr}{H:Hp}{S:R.St}{p:Addr}{vs us:List V}(hh:RH K ι H S)(hp:p∉ι)(e:H p=some (.lst vs)):RH K ι (upd H p (.lst us)) S:=
 ⟨hh.len,hh.nd,fun l o q=>by
  obtain⟨a,h1,h2,hm⟩:=hh.mem q
  exact⟨a,h1,h2.up (List.prefix_refl _) (Kp.tmp e) (zap fun z=>hp (z▸hm))⟩,(Kp.tmp e).tab hh.tab⟩
theorem RS.up {K:PySem.W.Frag}{ι ι':List Addr}{H H':Hp}{δ:Ev}{σ:L2.St}(h:RS K ι H δ σ)(hp:ι <+: ι')(hk:Kp H H'):RS K ι' H' δ σ:=
 ⟨h.1,fun i d e=>let ⟨v,e1,r⟩:=h.2 i d e;⟨v,e1,r.up hp hk⟩⟩
theorem RH.lk {K:PySem.W.Frag}{ι:List Addr}{H:Hp}{S:R.St}(hh:RH K ι H S)(ks:List Nat):RH K ι H {S with lk:=ks}:=⟨hh.len,hh.nd,fun l o e=>hh.obj l o e,hh.tab⟩
theorem RS.csl {K:PySem.W.Frag}{ι:List Addr}{H:Hp}{δ:Ev}{σ:L2.St}(h:RS K ι H δ σ)(nt:Nat)(js:List Nat):RS K ι H (R.csl nt js δ) (L2.csl nt js σ):=by
 refine⟨by simp[R.csl,L2.csl],fun i d e=>?_⟩
 unfold R.csl at e
 unfold L2.csl
 by_cases hi:i<nt
 · rw[List.getElem?_append_left (by simpa using hi),List.getElem?_replicate] at e
   rw[if_pos hi] at e
   cases e
 · rw[List.getElem?_append_right (by simpa using hi)] at e⊢
   simp only[List.length_replicate,List.getElem?_map] at e⊢
   cases ej:js[i - nt]? with
   |none=>rw[ej] at e;cases e
   | some j =>
     rw[ej] at e
     simp only[Option.map_some,Option.some.injEq] at e⊢
     have e2:δ[j]?=some (some d):=by
      cases z:δ[j]? with
      |none=>rw[z] at e;cases e
      |some o=>rw[z] at e;simp at e;rw[e]
     obtain⟨v,ev,r⟩:=h.2 j d e2
     exact⟨v,by rw[ev];rfl,r⟩
theorem ze2 {α:Type}{xs:List α}{i:Nat}{x:α}(h:xs[i]?=some x):xs.drop i=x::xs.drop (i+1):=by
 obtain⟨h1,h2⟩:=List.getElem?_eq_some_iff.mp h
 rw[List.drop_eq_getElem_cons h1,h2]
noncomputable def CInv (K:PySem.W.Frag)(cf:CF)(g:List Nat)(c e:CE)(Q:List D × List Nat->R.St->Prop)(ds:List D)(lks:List Nat)(ι1:List Addr)(H1:Hp)(S1:R.St)(p:Addr)(i:Nat)(σ':L2.St)(H':Hp):Prop:=
 i<=ds.length/\∃δ' ι' S' acc vs,RS K ι' H' δ' σ'/\Ltr K ι1 H1 S1 lks ι' H' S'/\S'.lk=lks++S1.lk/\S1.len<=S'.len/\p∉ι'/\H' p=some (.lst vs)/\RVs K ι' H' acc vs/\
  W (zbo g (evT cf c) (evE cf e) (ds.drop i) δ' S') fun rest S2=>(acc++rest).length<=16777216/\Q (acc++rest,[]) {S2 with lk:=S1.lk}
theorem zgk {nt:Nat}{js is:List Nat}{it:CL}{c e:CE}{σ:L2.St}{H:Hp}{Qv:VK}(hcf:CFok cf)(h:tLt X.K cf (.comp nt js is it c e) σ H Qv):zkj nt js (tI X.K cf it) (tG X.K is) (tT X.K cf c) (tE X.K cf e) σ H Qv:=by
 obtain⟨δ,ι,S,Q,hs,hh,w,q⟩:=h
 simp only[evL,zac] at w
 refine⟨δ,ι,S,_,hs,hh,w,fun J H1 ⟨ds,lks,ι1,S1,x1,hh1,w1,wk⟩=>?_⟩
 dsimp only at w1
 unfold zbm at w1
 rw[zac] at w1
 intro p hp
 have hpi:=hh1.fresh hp
 refine⟨fun i m σ' H'=>m=ds.length - i/\CInv X.K cf is c e Q ds lks ι1 H1 S1 p i σ' H',⟨_,rfl,Nat.zero_le _,R.csl nt js δ,ι1,{S1 with lk:=lks++S1.lk},[],[],((hs.ext x1).csl _ _).up (List.prefix_refl _) (Kp.new hp _),⟨Ext.new hp _,(hh1.lk _).new hp _,fun l _=>rfl⟩,rfl,Nat.le_refl _,hpi,zaw,rfl,?_⟩,?_⟩
 · refine w1.mono fun rest S2 w2=>?_
   simp only[W_ok] at w2
   split at w2
   · rename_i c;exact⟨by simpa using c,by simpa using w2⟩
   · exact w2.elim
 rintro i m σ' H' ⟨rfl,hle,δ',ι',S',acc,vs,hs',lt,hlk,hln,hpn,hpv,ra,wt⟩
 rcases Nat.lt_or_eq_of_le hle with hlt|rfl
 · refine .inr ⟨wk.go i ι' H' S' lt hlt,CInv X.K cf is c e Q ds lks ι1 H1 S1 p (i+1),fun σ2 H2 h=>⟨_,by omega,rfl,h⟩,fun x H2 hy=>?_⟩
   obtain⟨x2,hh2,d,hd,rd⟩:=wk.yld i ι' H' S' x H2 lt hlt hy
   have hs2:=hs'.ext x2
   have hp2:=x2.keep hpn hpv (by simp)
   rw[ze2 hd] at wt
   simp only[zbo] at wt
   cases ea:asgG is d δ' with
   |none=>rw[ea] at wt;exact wt.elim
   | some δ2 =>
     rw[ea] at wt
     dsimp only at wt
     rw[zac] at wt
     refine⟨δ',ι',d,δ2,hs2,rd,ea,fun σ2 hs3=>?_⟩
     refine tT.run hs3 hh2 (zen hcf c δ2 S' _ wt) fun b ι3 H3 S3 x3 hs4 hh3 w3=>?_
     obtain⟨w3,f3⟩:=w3
     have hp3:=x3.keep hpn hp2 (by simp)
     have hpn3:=(x3.rest p _ hpn hp2).2
     have keep:∀{S4:R.St},Frm S' S4->S4.lk=lks++S1.lk/\S1.len<=S4.len/\∀l∈lks,S4.get l=S1.get l:=fun f=>⟨f.lk.trans hlk,Nat.le_trans hln f.lens,fun l hl=>
      (f.same l (by rw[hlk];exact List.mem_append_left _ hl) (Nat.lt_of_lt_of_le (wk.lks l hl) hln)).trans (lt.lck l hl)⟩
     cases b with
     | false =>
       simp only[Bool.false_eq_true,if_false] at w3⊢
       obtain⟨k1,k2,k3⟩:=keep f3
       exact⟨hlt,δ2,ι3,S3,acc,vs,hs4,⟨(lt.ext.trans x2).trans x3,hh3,k3⟩,k1,k2,hpn3,hp3,(ra.ext x2).ext x3,w3⟩
     | true =>
       simp only[if_true] at w3⊢
       rw[zac] at w3
       refine tE.run hs4 hh3 (zaE hcf e δ2 S3 _ w3) fun z v ι4 H4 S4 x4 hs5 hh4 rz w4=>?_
       obtain⟨w4,f4⟩:=w4
       obtain⟨k1,k2,k3⟩:=keep (f3.trans f4)
       have hp4:=x4.keep hpn3 hp3 (by simp)
       have hpn4:=(x4.rest p _ hpn3 hp3).2
       rw[zac] at w4
       have ra4:=((ra.ext x2).ext x3).ext x4
       have hlen:acc.length<16777216:=by
        obtain⟨rest,S5,_,w5⟩:=zfd w4
        have:=w5.1
        simp at this
        omega
       refine⟨vs,hp4,by rw[ra4.length,sizeLine_eq];exact hlen,hlt,δ2,ι4,S4,acc++[z],vs++[v],hs5.up (List.prefix_refl _) (Kp.tmp hp4),⟨(((lt.ext.trans x2).trans x3).trans x4).tmp hp hp4,hh4.tmp hpn4 hp4,k3⟩,k1,k2,hpn4,zaw,?_,?_⟩
       · exact (RVs.append (es:=[z]) (us:=[v]) ra4 ⟨v,[],rfl,rz,rfl⟩).up (List.prefix_refl _) (Kp.tmp hp4)
       · refine w4.mono fun rest S5 w5=>?_
         simp only[W_ok] at w5
         simpa using w5
 · refine .inl ⟨wk.stop _ ι' H' S' lt (Nat.le_refl _),?_⟩
   rw[List.drop_length] at wt
   simp only[zbo,W_ok,List.append_nil] at wt
   exact q _ _ ⟨acc,ι',{S' with lk:=S1.lk},p,vs,x1.trans lt.ext,rfl,ra,hpn,hpv,lt.rh.lk _,ziy hh1 x1 hp,wt.2⟩
end
end R
end
section
namespace R
open PySem PySem.Spec PyProof.Rows L2
variable [Mks]
section
variable {T:Tab} {cf:CF} {k:Nat} {N:List Str} {sc:Scope} {X:Cx} {pos p:Pos} {tg:Expr}
end
end R
end
section
namespace R
open PySem PySem.Spec PyProof.Rows L2
variable [Mks]
section
variable {T:Tab} {cf:CF} {k:Nat} {N:List Str} {sc:Scope} {X:Cx} {pos p:Pos}
theorem zjC (D:Addr):za7 X (.builtin "isinstance") (fun xs H Q=>∃a C dx fs b,xs=[.ref a,.ref D]/\H a=some (.ins C dx fs)/\Cls X.K C/\IsaOk X.K C/\PySem.W.kitOne X.K (.ref C) (.ref D)=some b/\Q (.bl b) H):=by
 intro pins s σ H xs us Q I r h
 obtain⟨a,C,dx,fs,b,rfl,ha,hc,ok,hk,q⟩:=h
 obtain⟨u,w',rfl,rx,rc⟩:=ziG r
 cases (show w'=Value.ref D from rc)
 exact zeX I rx (.ins ha hc ok.ha ok.hn ok.ht ok.hm) hk fun tk=>⟨.bl b,H,I.tok tk,rfl,q⟩
theorem zmq (G:Gd T cf k N sc X){cs:List Nat}{x:Str}{p2:Pos}{ce:CE}{e:Expr}(hg:Gl X "isinstance"/\X.mg "isinstance"=none)(hx:isGl sc x=true)(hd:(x == ("__debug__":Str))=false)(hi:T.isas.contains (x,cs)=true)
  (he:PE X e (tE X.K cf ce)) (hst:zaq e=true):PE X (.Call (.Name "isinstance" p) [e,.Name x p2] [] pos) (tE X.K cf (.isc cs x ce)):=by
 obtain⟨D,hm,hD⟩:=G.tab.isa x cs hi
 refine PE.imp (zbp (zjC D) hg.1 hg.2 zcy (zce he (zce (zfo (v:=.ref D) (G.gl hx) hm rfl hd) zfY) (zat hst _ X.env)) (by decide) (by decide) (zat hst _ X.env)) fun σ H Qv ⟨δ,ι,S,Q,hs,hh,w,q⟩=>?_
 simp only[evE,zac] at w
 refine tE.run hs hh w fun d v ι1 H1 S1 x1 hs1 hh1 r1 w1=>?_
 obtain⟨pr,ei,w2⟩:=zaO w1
 obtain⟨c,fs⟩:=pr
 obtain⟨l,rfl,hl⟩:=zdj ei
 obtain⟨b,i1,rfl⟩:=r1
 obtain⟨b',i2,C,dx,ws,hC,hb,rf⟩:=hh1.obj l _ hl
 rw[i1] at i2;cases i2
 obtain⟨_,_,cl,_,_⟩:=G.clsAt (.inr (.inr (ne_of hi))) hC
 obtain⟨ok,kit⟩:=hD c C hC
 exact⟨b,C,dx,ws,_,rfl,hb,cl,ok,kit,q _ _ (Lf.up x1 (Lf.of (d:=.bl _) hh1 rfl w2))⟩
theorem zmu {ca:CE}{o:Expr}{apos cpos:Pos}(ho:PE X o (tE X.K cf ca))(hsup:zbR o=true)(hl:(apos.endLine == cpos.line)=true) :
  PE X (.Call (.Attribute o "clear" apos) [] [] cpos) (tE X.K cf (.clr ca)):=by
 refine PE.imp (zmW PySem.F.plainAttrs_list PySem.F.slot_list_clear PySem.F.type_list_clear zjh ho (zdH hsup "clear" X.env _) hl) fun σ H Qv ⟨δ,ι,S,Q,hs,hh,w,q⟩=>?_
 simp only[evE,zac] at w
 refine tE.run hs hh w fun d v ι1 H1 S1 x1 hs1 hh1 r1 w1=>?_
 split at w1
 · rename_i c
   refine⟨zj1 hh1 r1 c,?_⟩
   cases d with
   | ref l =>
     obtain⟨a,h1,rfl⟩:=r1
     dsimp only at w1
     cases e:S1.get l with
     |none=>simp[isL,e] at c
     | some o =>
       cases o with
       | lst es =>
         obtain⟨b',h2,zs,ha,rz⟩:=hh1.obj _ _ e
         rw[h1] at h2;cases h2
         obtain⟨c2,S',hp,w3⟩:=zkb w1
         exact⟨a,zs,rfl,rfl,ha,q _ _ (Lf.up x1 (Lf.wr (d:=.non) (xs:=[]) hh1 e h1 hp rfl rfl w3))⟩
       |_=>simp[isL,e] at c
   |_=>exact w1.elim
 · exact w1.elim
end
end R
end
section
namespace R
open PySem PySem.Spec PyProof.Rows L2
variable [Mks]
noncomputable def LfS (K:PySem.W.Frag)(ι:List Addr)(H:Hp)(Q:Fl->R.St->Prop)(E:Ends):Prop:=∀f ι' H' S',Ext ι H ι' H'->RH K ι' H' S'->Q f S'->(match f with
 |.nx δ'=>∀σ',RS K ι' H' δ' σ'->E.nx σ' H'
 |.rt d=>∀v,RV K ι' H' d v->E.rt v H')
noncomputable def tS (K:PySem.W.Frag)(cf:CF)(cs:CS):TS:=fun E σ H=>∃δ ι S Q,RS K ι H δ σ/\RH K ι H S/\W (exS cf cs δ S) Q/\LfS K ι H Q E
theorem LfS.up {K:PySem.W.Frag}{ι ι1:List Addr}{H H1:Hp}{Q:Fl->R.St->Prop}{E:Ends}(h:LfS K ι H Q E)(x:Ext ι H ι1 H1):LfS K ι1 H1 Q E:=fun f ι' H' S' x' hh q=>h f ι' H' S' (x.trans x') hh q
theorem PSs.imp {X:Cx}{st:List Stmt}{t t':TS}(h:PSs X st t)(i:∀E σ H,t' E σ H->t E σ H):PSs X st t':=fun pins s σ H E I q=>h pins s σ H E I (i E σ H q)
section
variable {T:Tab} {cf:CF} {k:Nat} {N:List Str} {sc:Scope} {X:Cx} {pos p:Pos} {rest:List Stmt}
theorem zma:PSs X [] (tS X.K cf .nil):=PSs.imp zkQ fun E σ H ⟨δ,ι,S,Q,hs,hh,w,l⟩=>by
 simp only[exS,W_ok] at w
 exact l _ ι H S (Ext.refl _ _) hh w σ hs
theorem zmc (G:Gd T cf k N sc X){i:Nat}{x:Str}{ce:CE}{e:Expr}{r:CS}(hi:N[i]?=some x)(hl:zeY sc x=true)(he:PE X e (tE X.K cf ce))(hc:zbr e=true)(hr:PSs X rest (tS X.K cf r)) :
  PSs X (.Assign [.Name x p] e pos::rest) (tS X.K cf (.asg i ce r)):=by
 refine PSs.imp (zbg (zjS (i:=i) (by rw[G.nm];exact G.nd) (by rw[G.nm];exact hi) (G.lc hl).1 he (zd5 hc _ _ _) (G.lc hl).2) hr) fun E σ H ⟨δ,ι,S,Q,hs,hh,w,l⟩=>?_
 simp only[exS,zac] at w
 refine tE.run hs hh w fun d v ι1 H1 S1 x1 hs1 hh1 r1 w1=>?_
 exact⟨δ.set i (some d),ι1,S1,Q,hs1.set r1 i,hh1,w1,l.up x1⟩
theorem zkn (G:Gd T cf k N sc X){i:Nat}{x:Str}{ce:CE}{e:Expr}{r:CS}(hi:N[i]?=some x)(hps:∃t,PS X (.Assign [.Name x p] e pos) (tAsg t (zid i))/\∀σ H Qv,tE X.K cf ce σ H Qv->t σ H Qv)(hr:PSs X rest (tS X.K cf r)) :
  PSs X (.Assign [.Name x p] e pos::rest) (tS X.K cf (.asg i ce r)):=by
 obtain⟨t,hp,ht⟩:=hps
 refine PSs.imp (zbg hp hr) fun E σ H ⟨δ,ι,S,Q,hs,hh,w,l⟩=>?_
 simp only[exS,zac] at w
 refine ht _ _ _ (tE.run hs hh w fun d v ι1 H1 S1 x1 hs1 hh1 r1 w1=>?_)
 exact⟨δ.set i (some d),ι1,S1,Q,hs1.set r1 i,hh1,w1,l.up x1⟩
theorem zkl {ce:CE}{e:Expr}{r:CS}(he:PE X e (tE X.K cf ce))(hc:zbr e=true)(hr:PSs X rest (tS X.K cf r)):PSs X (.Expr e pos::rest) (tS X.K cf (.expr ce r)):=by
 refine PSs.imp (zbg (zkS he (zd5 hc _ _ _)) hr) fun E σ H ⟨δ,ι,S,Q,hs,hh,w,l⟩=>?_
 simp only[exS,zac] at w
 refine tE.run hs hh w fun d v ι1 H1 S1 x1 hs1 hh1 r1 w1=>?_
 exact⟨δ,ι1,S1,Q,hs1,hh1,w1,l.up x1⟩
theorem zl9 {ce:CE}{e:Expr}{r:CS}(he:PE X e (tE X.K cf ce))(hr:PSs X rest (tS X.K cf r)):PSs X (.Return (some e) pos::rest) (tS X.K cf (.ret ce r)):=by
 refine PSs.imp (zbg (zmH he) hr) fun E σ H ⟨δ,ι,S,Q,hs,hh,w,l⟩=>?_
 simp only[exS,zac,W_ok] at w
 refine tE.run hs hh w fun d v ι1 H1 S1 x1 hs1 hh1 r1 w1=>?_
 exact l _ _ _ _ x1 hh1 w1 v r1
theorem zn9 {cc:CE}{c:Expr}{a b:List Stmt}{ca cb r:CS}(hc:PT X c (tT X.K cf cc))(ha:PSs X a (tS X.K cf ca))(hb:PSs X b (tS X.K cf cb))(hr:PSs X rest (tS X.K cf r)):PSs X (.If c a b pos::rest) (tS X.K cf (.ifS cc ca cb r)):=by
 refine PSs.imp (zbg (zom hc ha hb) hr) fun E σ H ⟨δ,ι,S,Q,hs,hh,w,l⟩=>?_
 simp only[exS,zac] at w
 refine tT.run hs hh w fun z ι1 H1 S1 x1 hs1 hh1 w1=>?_
 have fin:LfS X.K ι1 H1 (fun f S2=>W (match f with|.nx δ'=>exS cf r δ' S2|.rt d=>.ok (.rt d) S2) Q) {E with nx:=tS X.K cf r E}:=by
  intro f ι2 H2 S2 x2 hh2 q
  cases f with
  |nx δ'=>exact fun σ' hs'=>⟨δ',ι2,S2,Q,hs',hh2,q,(l.up x1).up x2⟩
  |rt d=>exact fun v rv=>(l.up x1) _ _ _ _ x2 hh2 q v rv
 cases z with
 |true=>exact⟨δ,ι1,S1,_,hs1,hh1,w1,fin⟩
 |false=>exact⟨δ,ι1,S1,_,hs1,hh1,w1,fin⟩
noncomputable def FInv (K:PySem.W.Frag)(cf:CF)(g:List Nat)(b:CS)(Qf:Fl->R.St->Prop)(ds:List D)(lks:List Nat)(ι1:List Addr)(H1:Hp)(S1:R.St)(i:Nat)(σ':L2.St)(H':Hp):Prop:=
 i<=ds.length/\∃δ' ι' S',RS K ι' H' δ' σ'/\Ltr K ι1 H1 S1 lks ι' H' S'/\S'.lk=lks++S1.lk/\S1.len<=S'.len/\W (zbt g (exS cf b) (ds.drop i) δ' S') fun f S2=>Qf f {S2 with lk:=S1.lk}
theorem zmb (G:Gd T cf k N sc X){is:List Nat}{it:CL}{cb r:CS}{tg iter:Expr}{body:List Stmt}(hi:PI X tg iter (tI X.K cf it))(hg:PG X tg (tG X.K is))(hb:PSs X body (tS X.K cf cb))(hset:zb7 iter=true)(hr:PSs X rest (tS X.K cf r)) :
  PSs X (.For tg iter body [] pos::rest) (tS X.K cf (.forS is it cb r)):=by
 have hp:PassesOwn (model X.prog X.w) X.A X.env X.xe:=by rw[G.xe];exact PassesOwn.never
 refine PSs.imp (zbg (zmI hp G.calm hi hg hb (zfx hset X.env)) hr) fun E σ H ⟨δ,ι,S,Q,hs,hh,w,l⟩=>?_
 simp only[exS,zac] at w
 refine⟨δ,ι,S,_,hs,hh,w,fun J H1 ⟨ds,lks,ι1,S1,x1,hh1,w1,wk⟩=>?_⟩
 dsimp only at w1
 unfold zbm at w1
 rw[zac] at w1
 simp only[W_ok] at w1
 refine⟨fun i m σ' H'=>m=ds.length - i/\FInv X.K cf is cb (fun f S2=>W (match f with|.nx δ'=>exS cf r δ' S2|.rt d=>.ok (.rt d) S2) Q) ds lks ι1 H1 S1 i σ' H',⟨_,rfl,Nat.zero_le _,δ,ι1,{S1 with lk:=lks++S1.lk},hs.ext x1,⟨Ext.refl _ _,hh1.lk _,fun l _=>rfl⟩,rfl,Nat.le_refl _,w1⟩,?_⟩
 rintro i m σ' H' ⟨rfl,hle,δ',ι',S',hs',lt,hlk,hln,wt⟩
 have l1:=l.up (x1.trans lt.ext)
 rcases Nat.lt_or_eq_of_le hle with hlt|rfl
 · refine .inr ⟨wk.go i ι' H' S' lt hlt,FInv X.K cf is cb _ ds lks ι1 H1 S1 (i+1),fun σ2 H2 h=>⟨_,by omega,rfl,h⟩,fun x H2 hy=>?_⟩
   obtain⟨x2,hh2,d,hd,rd⟩:=wk.yld i ι' H' S' x H2 lt hlt hy
   rw[ze2 hd] at wt
   simp only[zbt] at wt
   cases ea:asgG is d δ' with
   |none=>rw[ea] at wt;exact wt.elim
   | some δ2 =>
     rw[ea] at wt
     dsimp only at wt
     rw[zac] at wt
     refine⟨δ',ι',d,δ2,hs'.ext x2,rd,ea,fun σ2 hs3=>⟨δ2,ι',S',_,hs3,hh2,zdq G.tab.frm cb δ2 S' _ wt,?_⟩⟩
     rintro f ι3 H3 S3 x3 hh3 ⟨w3,f3⟩
     have k1:S3.lk=lks++S1.lk:=f3.lk.trans hlk
     have k3:∀l∈lks,S3.get l=S1.get l:=fun l hl=>(f3.same l (by rw[hlk];exact List.mem_append_left _ hl) (Nat.lt_of_lt_of_le (wk.lks l hl) hln)).trans (lt.lck l hl)
     cases f with
     |nx δ3=>exact fun σ3 hs4=>⟨hlt,δ3,ι3,S3,hs4,⟨(lt.ext.trans x2).trans x3,hh3,k3⟩,k1,Nat.le_trans hln f3.lens,w3⟩
     |rt z=>exact fun v rv=>l1 _ _ _ _ (x2.trans x3) (hh3.lk _) w3 v rv
 · refine .inl ⟨wk.stop _ ι' H' S' lt (Nat.le_refl _),?_⟩
   rw[List.drop_length] at wt
   simp only[zbt,W_ok] at wt
   exact⟨δ',ι',{S' with lk:=S1.lk},Q,hs',lt.rh.lk _,wt,l1⟩
theorem ziH (G:Gd T cf k N sc X){ca cb ce:CE}{a b e:Expr}{r:CS}(ha:PE X a (tE X.K cf ca))(hb:PE X b (tE X.K cf cb))(he:PE X e (tE X.K cf ce))(hc:zbr e=true)(hr:PSs X rest (tS X.K cf r)) :
  PSs X (.Assign [.Subscript a b p] e pos::rest) (tS X.K cf (.setIx ca cb ce r)):=by
 refine PSs.imp (zbg (zkT (by have:=G.hu;omega) ha hb he (zd5 hc _ _ _)) hr) fun E σ H ⟨δ,ι,S,Q,hs,hh,w,l⟩=>?_
 simp only[exS,zac] at w
 refine tE.run hs hh w fun d v ι1 H1 S1 x1 hs1 hh1 r1 w1=>?_
 refine tE.run hs1 hh1 w1 fun x vx ι2 H2 S2 x2 hs2 hh2 r2 w2=>?_
 refine tE.run hs2 hh2 w2 fun y vy ι3 H3 S3 x3 hs3 hh3 r3 w3=>?_
 cases ed:dPut S3 x y d with
 |none=>rw[ed] at w3;exact w3.elim
 | some S4 =>
   rw[ed] at w3
   unfold dPut at ed
   cases x with
   | ref i =>
     obtain⟨p,h1,rfl⟩:=r2.ext x3
     dsimp only at ed
     cases e:S3.get i with
     |none=>rw[e] at ed;cases ed
     | some ob =>
       rw[e] at ed
       obtain⟨b,h2,h3⟩:=hh3.obj _ _ e
       rw[h1] at h2;cases h2
       cases ob with
       | dtp kvs =>
         obtain⟨nd,ws,ha,rk⟩:=h3
         dsimp only at ed
         cases ek:zei y with
         |none=>rw[ek] at ed;cases ed
         | some k =>
           rw[ek] at ed
           dsimp only[Option.bind_some] at ed
           split at ed
           · rename_i c
             obtain⟨b,rfl,hb⟩:=znm r3 ek
             have rv:=r1.ext (x2.trans x3)
             have xw:=Ext.wr hh3 e h1 (.dT (putK ws (kI k) v))
             refine⟨p,_,rfl,DPut.t ha hb (by rw[rk.length,sizeLine_eq];exact c),δ,ι3,S4,Q,hs3.ext xw,hh3.wr e h1 ed ⟨zgF nd,_,zaw,?_⟩,w3,l.up (((x1.trans x2).trans x3).trans xw)⟩
             exact (rk.put k rv nd).up xw.pre xw.kp
           · cases ed
       | dic kvs =>
         obtain⟨nd,ws,ha,rk⟩:=h3
         dsimp only at ed
         cases y with
         | int k =>
           obtain rfl:vy=.int k:=r3
           dsimp only[zcH,Option.bind_some] at ed
           split at ed
           · rename_i c
             have rv:=r1.ext (x2.trans x3)
             have xw:=Ext.wr hh3 e h1 (.dK (putK ws (.inl k) v))
             refine⟨p,_,rfl,DPut.k (k:=.inl k) ha (by rw[rk.length,sizeLine_eq];exact c),δ,ι3,S4,Q,hs3.ext xw,hh3.wr e h1 ed ⟨zgG nd,_,zaw,?_⟩,w3,l.up (((x1.trans x2).trans x3).trans xw)⟩
             exact (rk.put k rv nd).up xw.pre xw.kp
           · cases ed
         |_=>cases ed
       |_=>cases ed
   |_=>cases ed
theorem zkk (G:Gd T cf k N sc X){ca ce:CE}{a e:Expr}{f:Str}{r:CS}(hf:T.flds.contains f=true)(ha:PE X a (tE X.K cf ca))(he:PE X e (tE X.K cf ce))(hc:zbr e=true)(hr:PSs X rest (tS X.K cf r)) :
  PSs X (.Assign [.Attribute a f p] e pos::rest) (tS X.K cf (.setF ca f ce r)):=by
 refine PSs.imp (zbg (zmJ ha he (zd5 hc _ _ _)) hr) fun E σ H ⟨δ,ι,S,Q,hs,hh,w,l⟩=>?_
 simp only[exS,zac] at w
 refine tE.run hs hh w fun d v ι1 H1 S1 x1 hs1 hh1 r1 w1=>?_
 refine tE.run hs1 hh1 w1 fun x vx ι2 H2 S2 x2 hs2 hh2 r2 w2=>?_
 cases ed:zbI S2 x f d with
 |none=>rw[ed] at w2;exact w2.elim
 | some S3 =>
   rw[ed] at w2
   unfold zbI at ed
   cases x with
   | ref i =>
     obtain⟨b,h1,rfl⟩:=r2
     dsimp only at ed
     cases eo:S2.get i with
     |none=>rw[eo] at ed;cases ed
     | some ob =>
       rw[eo] at ed
       cases ob with
       | ins c fs =>
         obtain⟨b',h2,C,dx,ws,hC,hb,rf⟩:=hh2.obj _ _ eo
         rw[h1] at h2;cases h2
         dsimp only at ed
         split at ed
         · rename_i c2
           obtain⟨_,_,cl,_,na⟩:=G.clsAt (.inl (ne_of hf)) hC
           have rv:=r1.ext x2
           have xw:=Ext.wr hh2 eo h1 (.ins C dx (putF f v ws))
           refine⟨b,C,dx,ws,rfl,hb,cl,na f hf,by rw[rf.length];exact c2,δ,ι2,S3,Q,hs2.ext xw,hh2.wr eo h1 ed ⟨C,dx,_,hC,zaw,(rf.put f rv).up xw.pre xw.kp⟩,w2,l.up ((x1.trans x2).trans xw)⟩
         · cases ed
       |_=>cases ed
   |_=>cases ed
end
end R
end
section
namespace R
open PySem PySem.Spec PyProof.Rows L2
variable [Mks]
noncomputable def zns:CL->Bool|.comp ..=>true|_=>false
noncomputable def isR1:CL->Bool|.rng1 _=>true|_=>false
noncomputable def zh0:CL->Bool|.rng1 _=>true|.rng2 _ _=>true|_=>false
noncomputable def zhX:CL->Bool|_=>false
noncomputable def zhY:Expr->Bool|.Tuple _ _ _=>true|_=>false
noncomputable def zb3:Expr->List Str
 |.Name x _=>[x]
 |.Tuple es _ _=>es.filterMap fun|.Name x _=>some x|_=>none
 |_=>[]
noncomputable def zlE (sc scope:Scope)(N:List Str)(js:List Nat):Bool:=
 decide (scope.kind=.function)&&scope.names.all (fun y=>decide (y.2≠.cell))&&scope.names.all (fun y=>decide (y.2≠.local) || decide (scope.names.lookup y.1=some .local))
  && scope.names.all (fun y=>decide (y.2≠.free) || decide (sc.names.lookup y.1=some .cell) || decide (sc.names.lookup y.1=some .free))&&js.all (fun j=>decide (scope.names.lookup (N.getD j "")=some .free)&&decide (j<N.length))
noncomputable def nmB (x:Str):Bool:=!(x == ("__debug__":Str))&&!(x == ("__classdict__":Str))&&!(x == ("__name__":Str))
noncomputable def tyB (t:String)(y:Str):Bool:=(t == "bool"&&y == ("bool":Str)) || (t == "int"&&y == ("int":Str)) || (t == "str"&&y == ("str":Str)) || (t == "list"&&y == ("list":Str)) || (t == "tuple"&&y == ("tuple":Str)) || (t == "dict"&&y == ("dict":Str))
noncomputable def biB:Bi->Str->Nat->Bool
 |.len,x,n=>x == ("len":Str)&&n == 1
 |.abs,x,n=>x == ("abs":Str)&&n == 1
 |.max2,x,n=>x == ("max":Str)&&n == 2
 |.min2,x,n=>x == ("min":Str)&&n == 2
 |.isin _,_,_=>false
noncomputable def zbx:Expr->Option Str|.Name x _=>some x|_=>none
noncomputable def zc5:Expr->Option Const|.Constant c _ _=>some c|_=>none
noncomputable def zhv:Expr->Option (Expr × Operator × Expr)|.BinOp l o r _=>some (l,o,r)|_=>none
noncomputable def rdUn:Expr->Option (UnaryOp × Expr)|.UnaryOp o x _=>some (o,x)|_=>none
noncomputable def zgE:Expr->Option (Expr × List CmpOp × List Expr)|.Compare l os rs _=>some (l,os,rs)|_=>none
noncomputable def zcO:Expr->Option (BoolOp × List Expr × Pos)|.BoolOp o vs p=>some (o,vs,p)|_=>none
noncomputable def rdIf:Expr->Option (Expr × Expr × Expr)|.IfExp t x y _=>some (t,x,y)|_=>none
noncomputable def zgB:Expr->Option (List Expr)|.Tuple xs _ _=>some xs|_=>none
noncomputable def zeK:Expr->Option (List Expr)|.List xs _=>some xs|_=>none
noncomputable def zcD:Expr->Option (Expr × Expr)|.Dict [some k] [v] _=>some (k,v)|_=>none
noncomputable def zcE:Expr->Bool|.Dict ks vs _=>ks.isEmpty&&vs.isEmpty|_=>false
noncomputable def zfk:Expr->Option (Expr × Expr)|.Subscript x i _=>some (x,i)|_=>none
noncomputable def rdSl:Expr->Option (Option Expr × Option Expr)|.Slice l u st _=>(match st with|none=>some (l,u)|some _=>none)|_=>none
noncomputable def zb5:Expr->Option (Expr × List Expr × List Keyword × Pos)|.Call f as ks p=>some (f,as,ks,p)|_=>none
noncomputable def zb6:Expr->Option (Expr × Str × Pos)|.Attribute o x p=>some (o,x,p)|_=>none
noncomputable def rdLC:Expr->Option (Expr × List Comprehension × Scope × Pos)|.ListComp e gs sc p=>some (e,gs,sc,p)|_=>none
section
variable {e l r x y i f:Expr} {xs rs as:List Expr} {ks:List Keyword} {p:Pos}
theorem za2 {n:Str}(h:zbx e=some n):∃p,e=.Name n p:=by cases e<;>first|(cases h;exact⟨_,rfl⟩)|cases h
theorem zfm {c:Const}(h:zc5 e=some c):∃j p,e=.Constant c j p:=by cases e<;>first|(cases h;exact⟨_,_,rfl⟩)|cases h
theorem zhu {o:Operator}(h:zhv e=some (l,o,r)):∃p,e=.BinOp l o r p:=by cases e<;>first|(cases h;exact⟨_,rfl⟩)|cases h
theorem zd9 {o:UnaryOp}(h:rdUn e=some (o,x)):∃p,e=.UnaryOp o x p:=by cases e<;>first|(cases h;exact⟨_,rfl⟩)|cases h
theorem zeL {os:List CmpOp}(h:zgE e=some (l,os,rs)):∃p,e=.Compare l os rs p:=by cases e<;>first|(cases h;exact⟨_,rfl⟩)|cases h
theorem zb0 {o:BoolOp}(h:zcO e=some (o,xs,p)):e=.BoolOp o xs p:=by cases e<;>first|(cases h;rfl)|cases h
theorem ziX (h:rdIf e=some (l,x,y)):∃p,e=.IfExp l x y p:=by cases e<;>first|(cases h;exact⟨_,rfl⟩)|cases h
theorem zeJ (h:zgB e=some xs):∃j p,e=.Tuple xs j p:=by cases e<;>first|(cases h;exact⟨_,_,rfl⟩)|cases h
theorem zgD (h:zeK e=some xs):∃p,e=.List xs p:=by cases e<;>first|(cases h;exact⟨_,rfl⟩)|cases h
theorem zfl {z:Expr × Expr}(h:zcD e=some z):∃p,e=.Dict [some z.1] [z.2] p:=by
 unfold zcD at h
 split at h
 · cases h;exact⟨_,rfl⟩
 · cases h
theorem zc4 (h:zcE e=true):∃p,e=.Dict [] [] p:=by
 cases e with
 | Dict ks vs p =>
   cases ks with
   |cons _ _=>cases h
   | nil =>
     cases vs with
     |cons _ _=>cases h
     |nil=>exact⟨_,rfl⟩
 |_=>cases h
theorem zc3 (h:zfk e=some (x,i)):∃p,e=.Subscript x i p:=by cases e<;>first|(cases h;exact⟨_,rfl⟩)|cases h
theorem ziW {a b:Option Expr}(h:rdSl e=some (a,b)):∃p,e=.Slice a b none p:=by
 cases e with
 | Slice l u st p =>
   cases st with
   |none=>cases h;exact⟨_,rfl⟩
   |some _=>cases h
 |_=>cases h
theorem zcF (h:zb5 e=some (f,as,ks,p)):e=.Call f as ks p:=by cases e<;>first|(cases h;rfl)|cases h
theorem zb1 {n:Str}(h:zb6 e=some (x,n,p)):e=.Attribute x n p:=by cases e<;>first|(cases h;rfl)|cases h
theorem zfU {gs:List Comprehension}{sc:Scope}(h:rdLC e=some (x,gs,sc,p)):e=.ListComp x gs sc p:=by cases e<;>first|(cases h;rfl)|cases h
end
theorem zaf {α:Type}{o:Option α}{f:α->Bool}(h:o.any f=true):∃x,o=some x/\f x=true:=by
 cases o with
 |none=>cases h
 |some x=>exact⟨x,rfl,h⟩
noncomputable def one {α:Type}:List α->Option α | [x]=>some x|_=>none
theorem zbq {α:Type}{xs:List α}{x:α}(h:one xs=some x):xs=[x]:=by
 match xs,h with
 | [y],h=>cases h;rfl
noncomputable def two {α:Type}:List α->Option (α × α) | [x,y]=>some (x,y)|_=>none
theorem two_inv {α:Type}{xs:List α}{x y:α}(h:two xs=some (x,y)):xs=[x,y]:=by
 match xs,h with
 | [a,b],h=>cases h;rfl
noncomputable def za9 (e:Expr):Option (Str × List Expr):=(zb5 e).bind fun q=>if q.2.2.1.isEmpty then (zbx q.1).map fun x=>(x,q.2.1) else none
theorem za0 {e:Expr}{x:Str}{as:List Expr}(h:za9 e=some (x,as)):∃p2 p,e=.Call (.Name x p2) as [] p:=by
 unfold za9 at h
 cases q:zb5 e with
 |none=>rw[q] at h;cases h
 | some z =>
   obtain⟨f,bs,ks,p⟩:=z
   rw[q] at h
   dsimp only[Option.bind_some] at h
   split at h
   · rename_i c
     cases q2:zbx f with
     |none=>rw[q2] at h;cases h
     | some y =>
       rw[q2] at h
       obtain⟨p2,rfl⟩:=za2 q2
       cases ks with
       |cons _ _=>cases c
       |nil=>cases h;exact⟨p2,p,zcF q⟩
   · cases h
noncomputable def za1 (e:Expr):Option (Str × Expr):=(za9 e).bind fun q=>(one q.2).map fun a=>(q.1,a)
theorem zaF {e a:Expr}{x:Str}(h:za1 e=some (x,a)):∃p2 p,e=.Call (.Name x p2) [a] [] p:=by
 unfold za1 at h
 cases q:za9 e with
 |none=>rw[q] at h;cases h
 | some z =>
   obtain⟨y,bs⟩:=z
   rw[q] at h
   dsimp only[Option.bind_some] at h
   cases q2:one bs with
   |none=>rw[q2] at h;cases h
   | some b =>
     rw[q2] at h
     cases h
     rw[zbq q2] at q
     exact za0 q
noncomputable def zdM (e:Expr):Option (Expr × Str × Pos × Expr × Pos):=(zb5 e).bind fun q=>if q.2.2.1.isEmpty then (zb6 q.1).bind fun a=>(one q.2.1).map fun y=>(a.1,a.2.1,a.2.2,y,q.2.2.2) else none
theorem zgC {e o a:Expr}{x:Str}{ap cp:Pos}(h:zdM e=some (o,x,ap,a,cp)):e=.Call (.Attribute o x ap) [a] [] cp:=by
 unfold zdM at h
 cases q:zb5 e with
 |none=>rw[q] at h;cases h
 | some z =>
   obtain⟨f,bs,ks,p⟩:=z
   rw[q] at h
   dsimp only[Option.bind_some] at h
   split at h
   · rename_i c
     cases q2:zb6 f with
     |none=>rw[q2] at h;cases h
     | some y =>
       obtain⟨o',x',ap'⟩:=y
       rw[q2] at h
       dsimp only[Option.bind_some] at h
       cases q3:one bs with
       |none=>rw[q3] at h;cases h
       | some b =>
         rw[q3] at h
         cases h
         cases ks with
         |cons _ _=>cases c
         |nil=>rw[zcF q,zb1 q2,zbq q3]
   · cases h
noncomputable def zbN (e:Expr):Option (Expr × Str × Pos × List Expr × Pos):=(zb5 e).bind fun q=>if q.2.2.1.isEmpty then (zb6 q.1).map fun a=>(a.1,a.2.1,a.2.2,q.2.1,q.2.2.2) else none
theorem zcd {e o:Expr}{as:List Expr}{x:Str}{ap cp:Pos}(h:zbN e=some (o,x,ap,as,cp)):e=.Call (.Attribute o x ap) as [] cp:=by
 unfold zbN at h
 cases q:zb5 e with
 |none=>rw[q] at h;cases h
 | some z =>
   obtain⟨f,bs,ks,p⟩:=z
   rw[q] at h
   dsimp only[Option.bind_some] at h
   split at h
   · rename_i c
     cases q2:zb6 f with
     |none=>rw[q2] at h;cases h
     | some y =>
       obtain⟨o',x',ap'⟩:=y
       rw[q2] at h
       cases h
       cases ks with
       |cons _ _=>cases c
       |nil=>rw[zcF q,zb1 q2]
   · cases h
noncomputable def fnB (T:Tab)(f j:Nat)(x:Str):Bool:=match T.fns[f]? with|some (y,_,nd)=>(y == x)&&decide (j<=nd)|none=>false
noncomputable def conG (T:Tab)(d:D)(x:Str):Bool:=match T.cons.lookup x with|some d'=>eqC d' d|none=>false
noncomputable def zh1:CE->Bool|.con _=>true|_=>false
noncomputable def zlo:CL->Bool|.comp ..=>true|_=>false
noncomputable def zhZ:CE->Bool|.tst (.con (.bl true))=>true|_=>false
noncomputable def zk8:CEs->Bool|.cons _ .nil=>true|_=>false
noncomputable def zla:CEs->Bool|.nil=>true|_=>false
noncomputable def mtN:Mt->Str->Bool
 |.append,x=>x == ("append":Str)
 |.popAt,x=>x == ("pop":Str)
 |.count,x=>x == ("count":Str)
noncomputable def zoF:Bi->Option String|.isin t=>some t|_=>none
noncomputable def tgB (sc:Scope)(N:List Str)(g:List Nat)(tg:Expr):Bool:=match zbx tg with
 |some x=>(match one g with|some i=>(N[i]? == some x)&&zeY sc x|none=>false)
 |none=>(zgB tg).any fun es=>decide (2<=g.length)&&zcP sc N g es
mutual
noncomputable def chkE (T:Tab):CE->List Str->Scope->Expr->Bool
 |.loc i,N,sc,e=>(zbx e).any fun x=>(N[i]? == some x)&&zjn sc x&&nmB x
 |.con d,_,sc,e=>(zc5 e).any (fun c=>conB d c) || (zbx e).any fun x=>isGl sc x&&conG T d x&&nmB x
 |.tst _,_,_,_=>false
 |.bin op a b,N,sc,e=>(zhv e).any fun q=>decide (q.2.1=op)&&chkE T a N sc q.1&&chkE T b N sc q.2.2
 |.neg a,N,sc,e=>(rdUn e).any fun q=>decide (q.1=.USub)&&chkE T a N sc q.2
 |.nt a,N,sc,e=>(rdUn e).any fun q=>decide (q.1=.Not)&&chkE T a N sc q.2
 |.cmp op a b,N,sc,e=>(zgE e).any fun q=>decide (q.2.1=[op])&&(one q.2.2).any fun r=>zb7 r&&chkE T a N sc q.1&&chkE T b N sc r
 |.and a b,N,sc,e=>(zcO e).any fun q=>decide (q.1=.And)&&(match q.2.1 with
  |x::y::rest=>chkE T a N sc x&&(if rest.isEmpty then chkE T b N sc y else chkE T b N sc (.BoolOp .And (y::rest) q.2.2))
  |_=>false)
 |.or a b,N,sc,e=>(zcO e).any fun q=>decide (q.1=.Or)&&(match q.2.1 with
  |x::y::rest=>chkE T a N sc x&&(if rest.isEmpty then chkE T b N sc y else chkE T b N sc (.BoolOp .Or (y::rest) q.2.2))
  |_=>false)
 |.ite c a b,N,sc,e=>(rdIf e).any fun q=>chkT T c N sc q.1&&chkE T a N sc q.2.1&&chkE T b N sc q.2.2
 |.tup es,N,sc,e=>(zgB e).any fun xs=>zbF T es N sc xs
 |.lst es,N,sc,e=>(zeK e).any fun xs=>zbF T es N sc xs
 |.dnew,_,_,e=>zcE e
 |.dnewT,_,_,e=>zcE e
 |.dic1 a b,N,sc,e=>(zcD e).any fun q=>chkE T a N sc q.1&&chkE T b N sc q.2
 |.dsrt a,N,sc,e=>(za1 e).any fun q=>(q.1 == ("sorted":Str))&&bltB T sc q.1&&zaq q.2&&chkE T a N sc q.2
 |.ix a b,N,sc,e=>(zfk e).any fun q=>zea q.2&&chkE T a N sc q.1&&chkE T b N sc q.2
 |.fld a f,N,sc,e=>(zb6 e).any fun q=>decide (q.2.1=f)&&zbR q.1&&T.flds.contains f&&chkE T a N sc q.1
 |.mk c f x j es,N,sc,e=>(za9 e).any fun q=>decide (q.1=x)&&isGl sc x&&nmB x&&decide (T.cls[c]?=some x)&&T.inits.contains (c,f,j)&&(!q.2.isEmpty || zla es)&&zbF T es N sc q.2
 |.meth m tb o es,N,sc,e=>(zbN e).any fun q=>decide (q.2.1=m)&&mtB T m tb&&zbR q.1&&(q.2.2.1.endLine == q.2.2.2.2.line)&&decide (q.2.2.2.1.length<29)&&(!q.2.2.2.1.isEmpty || zla es)&&chkE T o N sc q.1&&zbF T es N sc q.2.2.2.1
 |.isc cs x a,N,sc,e=>(za9 e).any fun q=>(two q.2).any fun z=>(zbx z.2).any fun y=>(q.1 == ("isinstance":Str))&&bltB T sc q.1&&decide (y=x)&&isGl sc x&&nmB x&&T.isas.contains (x,cs)&&zaq z.1&&chkE T a N sc z.1
 |.callC f x m es,N,sc,e=>(zbN e).any fun q=>(zbx q.1).any fun y=>decide (y=x)&&decide (q.2.1=m)&&isGl sc x&&nmB x&&T.cms.contains (x,m,f)&&(q.2.2.1.endLine == q.2.2.2.2.line)&&decide (q.2.2.2.1.length<29)&&!q.2.2.2.1.isEmpty&&zbF T es N sc q.2.2.2.1
 |.clr a,N,sc,e=>(zbN e).any fun q=>(q.2.1 == ("clear":Str))&&zbR q.1&&(q.2.2.1.endLine == q.2.2.2.2.line)&&q.2.2.2.1.isEmpty&&chkE T a N sc q.1
 |.sl a ml mh lo hi,N,sc,e=>(zfk e).any fun q=>(rdSl q.2).any fun s=>chkE T a N sc q.1
  && (match s.1 with|none=>!ml&&zh1 lo|some e=>ml&&chkE T lo N sc e)
  && (match s.2 with|none=>!mh&&zh1 hi|some e=>mh&&chkE T hi N sc e)
 |.call f j es,N,sc,e=>(za9 e).any fun q=>isGl sc q.1&&nmB q.1&&fnB T f j q.1&&(!q.2.isEmpty || zla es)&&zbF T es N sc q.2
 |.callW f j es,N,sc,e=>(za9 e).any fun q=>isGl sc q.1&&nmB q.1&&fnB T f j q.1&&!q.2.isEmpty&&zbF T es N sc q.2
 |.bi b es,N,sc,e=>(za9 e).any fun q=>bltB T sc q.1&&nmB q.1&&(match zoF b with
  |some t=>(two q.2).any fun z=>(zbx z.2).any fun y=>(q.1 == ("isinstance":Str))&&tyB t y&&bltB T sc y&&nmB y&&zk8 es&&zbF T es N sc [z.1]
  |none=>biB b q.1 q.2.length&&!q.2.isEmpty&&zbF T es N sc q.2)
 |.mt m o es,N,sc,e=>(zdM e).any fun q=>mtN m q.2.1&&zbR q.1&&(q.2.2.1.endLine == q.2.2.2.2.line)&&zk8 es&&chkE T o N sc q.1&&zbF T es N sc [q.2.2.2.1]
 |.mkL l,N,sc,e=>if zlo l then (if (rdLC e).isSome then chkL T l N sc e else (za1 e).any fun q=>(q.1 == ("list":Str))&&bltB T sc q.1&&zaq q.2&&chkL T l N sc q.2)
  else (za1 e).any fun q=>(q.1 == ("list":Str))&&bltB T sc q.1&&zaq q.2&&(!(zh0 l) || isR1 l)&&chkL T l N sc q.2
 |.mkT l,N,sc,e=>(za1 e).any fun q=>(q.1 == ("tuple":Str))&&bltB T sc q.1&&zaq q.2&&(!(zh0 l) || isR1 l)&&chkL T l N sc q.2
 |.all l,N,sc,e=>(za1 e).any fun q=>(q.1 == ("all":Str))&&bltB T sc q.1&&zaq q.2&&!(zh0 l)&&chkL T l N sc q.2
 |.srt a,N,sc,e=>(za1 e).any fun q=>(q.1 == ("sorted":Str))&&bltB T sc q.1&&zaq q.2&&chkE T a N sc q.2
 |.min1 a,N,sc,e=>(za1 e).any fun q=>(q.1 == ("min":Str))&&bltB T sc q.1&&zaq q.2&&chkE T a N sc q.2
 |.sset a,N,sc,e=>(za1 e).any fun q=>(za1 q.2).any fun z=>(q.1 == ("sorted":Str))&&bltB T sc q.1&&(z.1 == ("set":Str))&&bltB T sc z.1&&zaq z.2&&chkE T a N sc z.2
noncomputable def zbF (T:Tab):CEs->List Str->Scope->List Expr->Bool
 |.nil,_,_,es=>es.isEmpty
 |.cons a r,N,sc,es=>(match es with | []=>false|e::es=>zaq e&&chkE T a N sc e&&zbF T r N sc es)
noncomputable def chkT (T:Tab):CE->List Str->Scope->Expr->Bool
 |.cmp op a b,N,sc,e=>(zgE e).any fun q=>decide (q.2.1=[op])&&(one q.2.2).any fun r=>zb7 r&&chkE T a N sc q.1&&chkE T b N sc r
 |.nt a,N,sc,e=>(rdUn e).any fun q=>decide (q.1=.Not)&&chkT T a N sc q.2
 |.and a b,N,sc,e=>(zcO e).any fun q=>decide (q.1=.And)&&(match q.2.1 with
  |x::y::rest=>chkT T a N sc x&&(if rest.isEmpty then chkT T b N sc y else chkT T b N sc (.BoolOp .And (y::rest) q.2.2))
  |_=>false)
 |.or a b,N,sc,e=>(zcO e).any fun q=>decide (q.1=.Or)&&(match q.2.1 with
  |x::y::rest=>chkT T a N sc x&&(if rest.isEmpty then chkT T b N sc y else chkT T b N sc (.BoolOp .Or (y::rest) q.2.2))
  |_=>false)
 |.tst a,N,sc,e=>zfX e&&chkE T a N sc e
 |_,_,_,_=>false
noncomputable def chkL (T:Tab):CL->List Str->Scope->Expr->Bool
 |.val a,N,sc,e=>zb7 e&&chkE T a N sc e
 |.rng1 a,N,sc,e=>(za1 e).any fun q=>(q.1 == ("range":Str))&&bltB T sc q.1&&zaq q.2&&chkE T a N sc q.2
 |.rng2 a b,N,sc,e=>(za9 e).any fun q=>(two q.2).any fun z=>(q.1 == ("range":Str))&&bltB T sc q.1&&zaq z.1&&zaq z.2&&chkE T a N sc z.1&&chkE T b N sc z.2
 |.comp nt js g it c e,N,sc,ex=>(rdLC ex).any fun q=>(one q.2.1).any fun z=>decide (z.is_async=0)&&zlE sc q.2.2.1 N js&&(zb7 z.iter&&(zhY z.target || !(zhX it)))&&chkL T it N sc z.iter&&decide ((zb3 z.target).length=nt)&&decide ((capN N (zb3 z.target) js).Nodup)
  && tgB q.2.2.1 (capN N (zb3 z.target) js) g z.target
  && (if z.ifs.isEmpty then zhZ c else (one z.ifs).any fun t=>chkT T c (capN N (zb3 z.target) js) q.2.2.1 t)
  && chkE T e (capN N (zb3 z.target) js) q.2.2.1 q.1
end
noncomputable def zhw:Stmt->Option (Expr × Expr × Pos)|.Assign tgs v p=>(one tgs).map fun t=>(t,v,p)|_=>none
noncomputable def zmA:Stmt->Option (Expr × List Stmt × List Stmt)|.If e a b _=>some (e,a,b)|_=>none
noncomputable def zkI:Stmt->Option (Expr × Expr × List Stmt)|.For tg it b els _=>if els.isEmpty then some (tg,it,b) else none|_=>none
noncomputable def zkH:Stmt->Option Expr|.Return v _=>v|_=>none
noncomputable def zmB:Stmt->Option Expr|.Expr v _=>some v|_=>none
section
variable {s:Stmt} {e v tg it:Expr} {a b:List Stmt} {p:Pos}
theorem zc6 (h:zhw s=some (tg,v,p)):s=.Assign [tg] v p:=by
 cases s with
 | Assign tgs v p =>
   simp only[zhw] at h
   cases q:one tgs with
   |none=>rw[q] at h;cases h
   |some t=>rw[q] at h;cases h;rw[zbq q]
 |_=>cases h
theorem zhr (h:zmA s=some (e,a,b)):∃p,s=.If e a b p:=by cases s<;>first|(cases h;exact⟨_,rfl⟩)|cases h
theorem zhs (h:zkI s=some (tg,it,b)):∃p,s=.For tg it b [] p:=by
 cases s with
 | For tg it b els p =>
   simp only[zkI] at h
   cases els with
   |nil=>cases h;exact⟨_,rfl⟩
   |cons _ _=>cases h
 |_=>cases h
theorem zhq (h:zkH s=some e):∃p,s=.Return (some e) p:=by
 cases s with
 |Return v p=>simp only[zkH] at h;subst h;exact⟨_,rfl⟩
 |_=>cases h
theorem zht (h:zmB s=some e):∃p,s=.Expr e p:=by cases s<;>first|(cases h;exact⟨_,rfl⟩)|cases h
end
noncomputable def chkS (T:Tab):CS->List Str->Scope->List Stmt->Bool
 |.nil,_,_,st=>st.isEmpty
 |.stop,_,_,_=>true
 |.asg i e r,N,sc,st=>(match st with | []=>false|s::rest=>(zhw s).any fun q=>(zbx q.1).any fun x=>(N[i]? == some x)&&zeY sc x&&chkE T e N sc q.2.1&&chkS T r N sc rest)
 |.setF a f e r,N,sc,st=>(match st with | []=>false|s::rest=>(zhw s).any fun q=>(zb6 q.1).any fun z=>decide (z.2.1=f)&&T.flds.contains f&&zbr q.2.1&&chkE T a N sc z.1&&chkE T e N sc q.2.1&&chkS T r N sc rest)
 |.setIx a b e r,N,sc,st=>(match st with | []=>false|s::rest=>(zhw s).any fun q=>(zfk q.1).any fun z=>zbr q.2.1&&chkE T a N sc z.1&&chkE T b N sc z.2&&chkE T e N sc q.2.1&&chkS T r N sc rest)
 |.ifS c t u r,N,sc,st=>(match st with | []=>false|s::rest=>(zmA s).any fun q=>chkT T c N sc q.1&&chkS T t N sc q.2.1&&chkS T u N sc q.2.2&&chkS T r N sc rest)
 |.forS g l b r,N,sc,st=>(match st with | []=>false|s::rest=>(zkI s).any fun q=>zb7 q.2.1&&chkL T l N sc q.2.1&&chkS T b N sc q.2.2&&chkS T r N sc rest&&(tgB sc N g q.1&&(zhY q.1 || !(zhX l))))
 |.ret e r,N,sc,st=>(match st with | []=>false|s::rest=>(zkH s).any fun v=>chkE T e N sc v&&chkS T r N sc rest)
 |.expr e r,N,sc,st=>(match st with | []=>false|s::rest=>(zmB s).any fun v=>zbr v&&chkE T e N sc v&&chkS T r N sc rest)
end R
end
section
set_option maxHeartbeats 8000000
namespace R
open PySem PySem.Spec PyProof.Rows L2
variable [Mks]
section
variable {T:Tab} {cf:CF} {k:Nat} {N:List Str} {sc:Scope} {X:Cx}
theorem zbS (env:Env)(x:Str):∀{names:List (Str × NameKind)} {k0:NameKind},names.lookup x=some k0->k0≠.free->(names.map (zb4 env)).lookup x=some k0
 | [],_,h,_=>by simp at h
 | y :: r, k0, h, hk => by
   rw[List.map_cons]
   have f1:=zc2 env y
   have f2:=zc1 env y
   obtain⟨n,k1⟩:=y
   generalize hz:zb4 env (n,k1)=z at *
   obtain⟨zn,zk⟩:=z
   simp only at f1 f2
   subst f1
   rw[List.lookup_cons] at h⊢
   cases hx:x == zn with
   | true =>
     rw[hx] at h
     have e:k1=k0:=Option.some.inj h
     subst e
     rcases f2 with f2|⟨q,_⟩
     · show some zk=_;rw[f2]
     · exact absurd q hk
   | false =>
     rw[hx] at h
     exact zbS env x h hk
theorem zgl (G:Gd T cf k N sc X){scope:Scope}{js:List Nat}(h:zlE sc scope N js=true):CompOk X.env.scope scope X.N js:=by
 unfold zlE at h
 simp only[Bool.and_eq_true,List.all_eq_true,decide_eq_true_eq,Bool.or_eq_true] at h
 obtain⟨⟨⟨⟨h1,h2⟩,h3⟩,h4⟩,h5⟩:=h
 refine⟨h1,h2,fun y hy e=>?_,fun y hy e=>?_,fun j hj=>?_⟩
 · rcases h3 y hy with z|z
   · exact absurd e z
   · exact z
 · rcases h4 y hy with (z|z)|z
   · exact absurd e z
   · exact .inl (G.cell _ z)
   · exact (G.free _ z).symm
 · rw[G.nm];exact h5 j hj
theorem zic (G:Gd T cf k N sc X){scope:Scope}{tgs:List Str}{js:List Nat}(ok:CompOk X.env.scope scope X.N js)(hn:(capN N tgs js).Nodup)(cl:List (Str × Addr))(C:Addr)(fp:List Addr)(s:Shared)(H:Hp)(pn:List (Addr × Obj)) :
  Gd T cf k (capN N tgs js) scope (zaM X (capN X.N tgs js) scope cl C fp s H pn):=by
 have names:(zaM X (capN X.N tgs js) scope cl C fp s H pn).env.scope.names=scope.names.map (zb4 X.env):=zbB scope X.env
 have noc:∀x,scope.names.lookup x≠some .cell:=fun x e=>ok.nocell _ (PySem.mem_of_lookup e) rfl
 refine⟨by rw[<-G.nm],hn,fun x e=>?_,fun x e=>absurd e (noc x),fun x e=>?_,fun x e=>?_,.inr noc,G.calm,rfl,G.room',G.tab⟩
 · rw[names];exact zbS _ _ e (by decide)
 · rw[names];exact zbC _ _ _ e
 · rw[names];exact zbS _ _ e (by decide)
theorem zcr {x:Str}(h:nmB x=true):(x == ("__debug__":Str))=false/\(x == ("__classdict__":Str))=false/\x≠("__name__":Str):=by
 unfold nmB at h
 simp only[Bool.and_eq_true,Bool.not_eq_true'] at h
 exact⟨h.1.1,h.1.2,fun e=>by rw[e] at h;simp at h⟩
theorem zlX {t:String}{y:Str}(h:tyB t y=true):t∈["bool","int","str","list","tuple","dict"]/\bootBuiltins y=some (.type t):=by
 unfold tyB at h
 simp only[Bool.or_eq_true,Bool.and_eq_true,beq_iff_eq] at h
 rcases h with ((((⟨rfl,rfl⟩|⟨rfl,rfl⟩)|⟨rfl,rfl⟩)|⟨rfl,rfl⟩)|⟨rfl,rfl⟩)|⟨rfl,rfl⟩
 · exact⟨by simp,zlI⟩
 · exact⟨by simp,znM⟩
 · exact⟨by simp,znI⟩
 · exact⟨by simp,zfE⟩
 · exact⟨by simp,zet⟩
 · exact⟨by simp,zlH⟩
theorem zj2 {f j:Nat}{x:Str}(h:fnB T f j x=true):∃ps nd,T.fns[f]?=some (x,ps,nd)/\j<=nd:=by
 unfold fnB at h
 cases e:T.fns[f]? with
 |none=>rw[e] at h;cases h
 | some q =>
   obtain⟨y,ps,nd⟩:=q
   rw[e] at h
   simp only[Bool.and_eq_true,beq_iff_eq,decide_eq_true_eq] at h
   obtain⟨rfl,h2⟩:=h
   exact⟨ps,nd,rfl,h2⟩
theorem zaX:∀{ces:CEs} {N:List Str} {sc:Scope} {es:List Expr},zbF T ces N sc es=true->es.all zaq=true
 | .nil, N, sc, es, h => by
   simp only[zbF,List.isEmpty_iff] at h
   subst h;rfl
 | .cons a r, N, sc, es, h => by
   cases es with
   |nil=>simp[zbF] at h
   | cons e es =>
     simp only[zbF,Bool.and_eq_true] at h
     simp[h.1.1,zaX h.2]
theorem zgm {es:CEs}(h:zk8 es=true):∃a,es=.cons a .nil:=by
 cases es with
 |nil=>cases h
 | cons a r =>
   cases r with
   |nil=>exact⟨a,rfl⟩
   |cons _ _=>cases h
theorem zgX (G:Gd T cf k N sc X){b:Bi}{x:Str}{n:Nat}(h:biB b x n=true):∃id,za7 X (.builtin id) (rB X.K fun S ds=>R.bi S b ds)/\bootBuiltins x=some (.builtin id):=by
 cases b with
 |len=>simp only[biB,Bool.and_eq_true,beq_iff_eq] at h;rw[h.1];exact⟨_,znh,znL⟩
 |abs=>simp only[biB,Bool.and_eq_true,beq_iff_eq] at h;rw[h.1];exact⟨_,znQ,znO⟩
 |max2=>simp only[biB,Bool.and_eq_true,beq_iff_eq] at h;rw[h.1];exact⟨_,znc G.calm,znK⟩
 |min2=>simp only[biB,Bool.and_eq_true,beq_iff_eq] at h;rw[h.1];exact⟨_,zna G.calm,zj8⟩
 |isin t=>simp[biB] at h
noncomputable def LOk (T:Tab)(cf:CF)(k:Nat)(cl:CL)(X:Cx)(e:Expr):Prop:=(zh0 cl=false->PE X e (tL X.K cf cl))/\(zns cl=true->PE X e (tLt X.K cf cl))/\(∀tg,(zhY tg || !(zhX cl))=true->PI X tg e (tI X.K cf cl))/\
 ∀a,cl=.rng1 a->∃a' p2 p,e=.Call (.Name "range" p2) [a'] [] p/\(Gl X "range"/\X.mg "range"=none)/\PE X a' (tE X.K cf a)/\zaq a'=true
noncomputable def EsOk (cf:CF)(ces:CEs)(X:Cx)(es:List Expr):Prop:=PA X es (tAs X.K cf ces)/\∀a r e es',ces=.cons a r->es=e::es'->PE X e (tE X.K cf a)
theorem zkg {sc:Scope}{N:List Str}{X:Cx}{g:List Nat}{tg:Expr}(G:Gd T cf k N sc X)(h:tgB sc N g tg=true):PG X tg (tG X.K g):=by
 unfold tgB at h
 split at h
 · rename_i x q
   obtain⟨p,rfl⟩:=za2 q
   split at h
   · rename_i i q2
     rw[zbq q2]
     simp only[Bool.and_eq_true,beq_iff_eq] at h
     exact zkr G h.1 h.2
   · cases h
 · replace h:=zaf h
   obtain⟨es,q,h⟩:=h
   obtain⟨j,p,rfl⟩:=zeJ q
   simp only[Bool.and_eq_true,decide_eq_true_eq] at h
   exact zmg G h.2 h.1
theorem zfN {c:CE}{X:Cx}(h:zhZ c=true):PTs X [] (tT X.K cf c):=by
 have hc:c=.tst (.con (.bl true)):=by
  cases c with
  | tst a =>
    cases a with
    | con d =>
      cases d with
      | bl b =>
        cases b with
        |true=>rfl
        |false=>cases h
      |_=>cases h
    |_=>cases h
  |_=>cases h
 subst hc
 intro pins s' σ H' Qv I q
 refine zkO pins s' σ H' Qv I ?_
 obtain⟨δ,ι,S,Q,hs,hh,w,q⟩:=q
 simp only[evT,evE,zbf,tru,zdc,W_ok] at w
 exact q _ _ ⟨ι,S,Ext.refl _ _,hh,w⟩
theorem zhH {m:Bool}{ce:CE}{o:Option Expr}{X:Cx}(h1:o=none->m=false/\zh1 ce=true)(h2:∀e,o=some e->m=true/\PE X e (tE X.K cf ce)):PartOk X cf m ce o:=by
 cases o with
 | none =>
   obtain⟨rfl,h⟩:=h1 rfl
   cases ce with
   |con d=>exact .no ⟨d,rfl⟩
   |_=>cases h
 | some e =>
   obtain⟨rfl,h⟩:=h2 e rfl
   exact .yes h
theorem zbc {x y:Str}(h:(x == y)=true):x=y:=by simpa using h
mutual
theorem zah:∀(ce:CE) {N:List Str} {sc:Scope} {e:Expr} {X:Cx},Gd T cf k N sc X->chkE T ce N sc e=true->PE X e (tE X.K cf ce)
 | .loc i, N, sc, e, X, G, h => by
   simp only[chkE] at h
   replace h:=zaf h
   obtain⟨x,q,h⟩:=h
   obtain⟨p,rfl⟩:=za2 q
   simp only[Bool.and_eq_true,beq_iff_eq] at h
   obtain⟨h1,h2,_⟩:=zcr h.2
   exact zmo G h.1.1 h.1.2 h1 h2
 | .con d, N, sc, e, X, G, h => by
   simp only[chkE] at h
   rw[Bool.or_eq_true] at h
   rcases h with h|h
   · replace h:=zaf h
     obtain⟨c,q,h⟩:=h
     obtain⟨j,p,rfl⟩:=zfm q
     exact zms h
   · replace h:=zaf h
     obtain⟨x,q,h⟩:=h
     obtain⟨p,rfl⟩:=za2 q
     simp only[Bool.and_eq_true] at h
     obtain⟨h1,h2,_⟩:=zcr h.2
     have h3:=h.1.2
     unfold conG at h3
     split at h3
     · rename_i d' e'
       exact zkB G h.1.1 e' h3 h1
     · cases h3
 |.tst a,N,sc,e,X,G,h=>by simp only[chkE] at h;cases h
 | .bin op a b, N, sc, e, X, G, h => by
   simp only[chkE] at h
   replace h:=zaf h
   obtain⟨⟨l,o,r⟩,q,h⟩:=h
   obtain⟨p,rfl⟩:=zhu q
   simp only[Bool.and_eq_true,decide_eq_true_eq] at h
   obtain⟨⟨rfl,h1⟩,h2⟩:=h
   exact zmv (zah a G h1) (zah b G h2)
 | .neg a, N, sc, e, X, G, h => by
   simp only[chkE] at h
   replace h:=zaf h
   obtain⟨⟨o,x⟩,q,h⟩:=h
   obtain⟨p,rfl⟩:=zd9 q
   simp only[Bool.and_eq_true,decide_eq_true_eq] at h
   obtain⟨rfl,h1⟩:=h
   exact zmk (zah a G h1)
 | .nt a, N, sc, e, X, G, h => by
   simp only[chkE] at h
   replace h:=zaf h
   obtain⟨⟨o,x⟩,q,h⟩:=h
   obtain⟨p,rfl⟩:=zd9 q
   simp only[Bool.and_eq_true,decide_eq_true_eq] at h
   obtain⟨rfl,h1⟩:=h
   exact zob (zah a G h1)
 | .cmp op a b, N, sc, e, X, G, h => by
   simp only[chkE] at h
   replace h:=zaf h
   obtain⟨⟨l,os,rs⟩,q,h⟩:=h
   obtain⟨p,rfl⟩:=zeL q
   rw[Bool.and_eq_true,decide_eq_true_eq] at h
   obtain⟨e1,h⟩:=h
   replace h:=zaf h
   obtain⟨r,q2,h⟩:=h
   cases zbq q2
   cases e1
   simp only[Bool.and_eq_true] at h
   exact zmt G (zah a G h.1.2) (zah b G h.2) h.1.1
 | .and a b, N, sc, e, X, G, h => by
   simp only[chkE] at h
   replace h:=zaf h
   obtain⟨⟨o,vs,p⟩,q,h⟩:=h
   cases zb0 q
   rw[Bool.and_eq_true,decide_eq_true_eq] at h
   obtain⟨e1,h⟩:=h
   cases e1
   dsimp only at h
   split at h
   · rename_i x y rest
     rw[Bool.and_eq_true] at h
     obtain⟨h1,h2⟩:=h
     split at h2
     · rename_i c
       cases List.isEmpty_iff.mp c
       exact zjO (zah a G h1) (zjT (zah b G h2))
     · exact zjO (zah a G h1) (zah b G h2)
   · cases h
 | .or a b, N, sc, e, X, G, h => by
   simp only[chkE] at h
   replace h:=zaf h
   obtain⟨⟨o,vs,p⟩,q,h⟩:=h
   cases zb0 q
   rw[Bool.and_eq_true,decide_eq_true_eq] at h
   obtain⟨e1,h⟩:=h
   cases e1
   dsimp only at h
   split at h
   · rename_i x y rest
     rw[Bool.and_eq_true] at h
     obtain⟨h1,h2⟩:=h
     split at h2
     · rename_i c
       cases List.isEmpty_iff.mp c
       exact zmj (zah a G h1) (zjT (zah b G h2))
     · exact zmj (zah a G h1) (zah b G h2)
   · cases h
 | .ite c a b, N, sc, e, X, G, h => by
   simp only[chkE] at h
   replace h:=zaf h
   obtain⟨⟨t,x,y⟩,q,h⟩:=h
   obtain⟨p,rfl⟩:=ziX q
   simp only[Bool.and_eq_true] at h
   exact zmp (zba c G h.1.1).1 (zah a G h.1.2) (zah b G h.2)
 | .tup es, N, sc, e, X, G, h => by
   simp only[chkE] at h
   replace h:=zaf h
   obtain⟨xs,q,h⟩:=h
   obtain⟨j,p,rfl⟩:=zeJ q
   exact zmh (za6 es G h).1
 | .lst es, N, sc, e, X, G, h => by
   simp only[chkE] at h
   replace h:=zaf h
   obtain⟨xs,q,h⟩:=h
   obtain⟨p,rfl⟩:=zgD q
   exact zmn (za6 es G h).1
 | .dnew, N, sc, e, X, G, h => by
   simp only[chkE] at h
   obtain⟨p,rfl⟩:=zc4 h
   exact zkD
 | .dnewT, N, sc, e, X, G, h => by
   simp only[chkE] at h
   obtain⟨p,rfl⟩:=zc4 h
   exact ziP
 | .ix a b, N, sc, e, X, G, h => by
   simp only[chkE] at h
   replace h:=zaf h
   obtain⟨⟨x,i⟩,q,h⟩:=h
   obtain⟨p,rfl⟩:=zc3 q
   simp only[Bool.and_eq_true] at h
   exact zod (zah a G h.1.2) (zah b G h.2) h.1.1
 | .fld a f, N, sc, e, X, G, h => by
   simp only[chkE] at h
   replace h:=zaf h
   obtain⟨⟨o,f',p⟩,q,h⟩:=h
   cases zb1 q
   simp only[Bool.and_eq_true,decide_eq_true_eq] at h
   obtain⟨⟨⟨rfl,h2⟩,h3⟩,h4⟩:=h
   exact zmr G (zah a G h4) h2 h3
 | .mk c f x j es, N, sc, e, X, G, h => by
   simp only[chkE] at h
   replace h:=zaf h
   obtain⟨⟨x',args⟩,q,h⟩:=h
   obtain⟨p2,p,rfl⟩:=za0 q
   simp only[Bool.and_eq_true,Bool.or_eq_true,decide_eq_true_eq] at h
   obtain⟨⟨⟨⟨⟨⟨rfl,h1⟩,h2⟩,h3⟩,h4⟩,h5⟩,h6⟩:=h
   obtain⟨n1,n2,n3⟩:=zcr h2
   have ha:=(za6 es G h6).1
   cases args with
   | nil =>
     have:es=.nil:=by
      cases es with
      |nil=>rfl
      |cons _ _=>rcases h5 with z|z<;>cases z
     rw[this]
     exact zmm G h4 h3 h1 n1
   |cons a as=>exact zoc G h4 h3 h1 n1 ha (zaX h6)
 | .meth m tb o es, N, sc, e, X, G, h => by
   simp only[chkE] at h
   replace h:=zaf h
   obtain⟨⟨oe,m',ap,args,cp⟩,q,h⟩:=h
   cases zcd q
   simp only[Bool.and_eq_true,Bool.or_eq_true,decide_eq_true_eq] at h
   obtain⟨⟨⟨⟨⟨⟨⟨rfl,h1⟩,h2⟩,h3⟩,h4⟩,h5⟩,h6⟩,h7⟩:=h
   have ho:=zah o G h6
   have ha:=(za6 es G h7).1
   cases args with
   | nil =>
     have:es=.nil:=by
      cases es with
      |nil=>rfl
      |cons _ _=>rcases h5 with z|z<;>cases z
     rw[this]
     exact ziO G h1 ho h2 h3
   |cons a as=>exact zkz G h1 ho ha (zaX h7) h2 h3 h4
 | .isc cs x a, N, sc, e, X, G, h => by
   simp only[chkE] at h
   replace h:=zaf h
   obtain⟨⟨x',args⟩,q,h⟩:=h
   obtain⟨p2,p,rfl⟩:=za0 q
   replace h:=zaf h
   obtain⟨⟨e1,e2⟩,q2,h⟩:=h
   cases two_inv q2
   replace h:=zaf h
   obtain⟨y,q3,h⟩:=h
   obtain⟨p3,rfl⟩:=za2 q3
   simp only[Bool.and_eq_true,decide_eq_true_eq] at h
   obtain⟨⟨⟨⟨⟨⟨⟨h0,h1⟩,rfl⟩,h2⟩,h3⟩,h4⟩,h5⟩,h6⟩:=h
   cases zbc h0
   exact zmq G (za8 G h1) h2 (zcr h3).1 h4 (zah a G h6) h5
 | .callC f x m es, N, sc, e, X, G, h => by
   simp only[chkE] at h
   replace h:=zaf h
   obtain⟨⟨oe,m',ap,args,cp⟩,q,h⟩:=h
   cases zcd q
   replace h:=zaf h
   obtain⟨y,q3,h⟩:=h
   obtain⟨p3,rfl⟩:=za2 q3
   simp only[Bool.and_eq_true,decide_eq_true_eq] at h
   obtain⟨⟨⟨⟨⟨⟨⟨⟨rfl,rfl⟩,h1⟩,h2⟩,h3⟩,h4⟩,h5⟩,h6⟩,h7⟩:=h
   cases args with
   |nil=>cases h6
   |cons a as=>exact ziR G h3 h1 (zcr h2).1 rfl (za6 es G h7).1 (zaX h7) h5 h4
 | .clr a, N, sc, e, X, G, h => by
   simp only[chkE] at h
   replace h:=zaf h
   obtain⟨⟨oe,m',ap,args,cp⟩,q,h⟩:=h
   cases zcd q
   simp only[Bool.and_eq_true,List.isEmpty_iff] at h
   obtain⟨⟨⟨⟨h0,h1⟩,h2⟩,rfl⟩,h4⟩:=h
   cases zbc h0
   exact zmu (zah a G h4) h1 h2
 | .sl a ml mh lo hi, N, sc, e, X, G, h => by
   simp only[chkE] at h
   replace h:=zaf h
   obtain⟨⟨x,i⟩,q,h⟩:=h
   obtain⟨p,rfl⟩:=zc3 q
   replace h:=zaf h
   obtain⟨⟨l,u⟩,q2,h⟩:=h
   obtain⟨p2,rfl⟩:=ziW q2
   simp only[Bool.and_eq_true] at h
   obtain⟨⟨h1,h2⟩,h3⟩:=h
   refine zoa (zah a G h1) (zhH (fun z=>?_) fun e z=>?_) (zhH (fun z=>?_) fun e z=>?_)
   · subst z;simpa using h2
   · subst z
     simp only[Bool.and_eq_true] at h2
     exact⟨h2.1,zah lo G h2.2⟩
   · subst z;simpa using h3
   · subst z
     simp only[Bool.and_eq_true] at h3
     exact⟨h3.1,zah hi G h3.2⟩
 | .call f j es, N, sc, e, X, G, h => by
   simp only[chkE] at h
   replace h:=zaf h
   obtain⟨⟨x,args⟩,q,h⟩:=h
   obtain⟨p2,p,rfl⟩:=za0 q
   simp only[Bool.and_eq_true,Bool.or_eq_true] at h
   obtain⟨⟨⟨⟨h1,h2⟩,h3⟩,h4⟩,h5⟩:=h
   obtain⟨n1,n2,n3⟩:=zcr h2
   obtain⟨ps,nd,hf,hj⟩:=zj2 h3
   have ha:=(za6 es G h5).1
   cases args with
   | nil =>
     have:es=.nil:=by
      cases es with
      |nil=>rfl
      |cons _ _=>rcases h4 with z|z<;>cases z
     rw[this]
     exact ziS G hf hj h1 n1
   |cons a as=>exact zkF G hf hj h1 n1 ha (zaX h5)
 | .callW f j es, N, sc, e, X, G, h => by
   simp only[chkE] at h
   replace h:=zaf h
   obtain⟨⟨x,args⟩,q,h⟩:=h
   obtain⟨p2,p,rfl⟩:=za0 q
   simp only[Bool.and_eq_true] at h
   obtain⟨⟨⟨⟨h1,h2⟩,h3⟩,h4⟩,h5⟩:=h
   obtain⟨n1,n2,n3⟩:=zcr h2
   obtain⟨ps,nd,hf,hj⟩:=zj2 h3
   have ha:=(za6 es G h5).1
   cases args with
   |nil=>cases h4
   |cons a as=>exact ziQ G hf hj h1 n1 ha (zaX h5)
 | .bi b es, N, sc, e, X, G, h => by
   simp only[chkE] at h
   replace h:=zaf h
   obtain⟨⟨x,args⟩,q,h⟩:=h
   obtain⟨p2,p,rfl⟩:=za0 q
   rw[Bool.and_eq_true,Bool.and_eq_true] at h
   obtain⟨⟨h1,h2⟩,h3⟩:=h
   obtain⟨n1,n2,n3⟩:=zcr h2
   split at h3
   · rename_i t qt
     replace h3:=zaf h3
     obtain⟨⟨e1,e2⟩,q2,h3⟩:=h3
     cases two_inv q2
     replace h3:=zaf h3
     obtain⟨y,q3,h3⟩:=h3
     obtain⟨p3,rfl⟩:=za2 q3
     simp only[Bool.and_eq_true] at h3
     obtain⟨⟨⟨⟨⟨hx,h4⟩,h5⟩,h6⟩,h7⟩,h8⟩:=h3
     cases zbc hx
     obtain⟨m1,m2,m3⟩:=zcr h6
     obtain⟨t1,t2⟩:=zlX h4
     obtain⟨a,ea⟩:=zgm h7
     have he:=(za6 es G h8).2 a .nil e1 [] ea rfl
     have hst:=zaX h8
     have eb:b=.isin t:=by
      cases b with
      |isin _=>cases qt;rfl
      |_=>cases qt
     rw[ea,eb]
     exact zkA G (za8 G h1) (za8 G h5) t2 t1 m3 m1 he (by simpa using hst)
   · rw[Bool.and_eq_true,Bool.and_eq_true] at h3
     cases args with
     |nil=>cases h3.1.2
     | cons a as =>
       obtain⟨id,hc,hv⟩:=zgX G h3.1.1
       exact zoe hc (za8 G h1) hv (za6 es G h3.2).1 (zaX h3.2) n3 n1
 | .mt m o es, N, sc, e, X, G, h => by
   simp only[chkE] at h
   replace h:=zaf h
   obtain⟨⟨oe,x,ap,e1,cp⟩,q,h⟩:=h
   cases zgC q
   simp only[Bool.and_eq_true] at h
   obtain⟨⟨⟨⟨⟨h1,h2⟩,h3⟩,h4⟩,h5⟩,h6⟩:=h
   obtain⟨a,ea⟩:=zgm h4
   have he:=(za6 es G h6).2 a .nil e1 [] ea rfl
   have hst:zaq e1=true:=by simpa using zaX h6
   rw[ea]
   cases m with
   | append =>
     cases zbc h1
     exact zkw PySem.F.slot_list_append PySem.F.type_list_append ziA (zah o G h5) he hst h2 h3
   | popAt =>
     cases zbc h1
     exact zkw PySem.F.slot_list_pop PySem.F.type_list_pop zi1 (zah o G h5) he hst h2 h3
   | count =>
     cases zbc h1
     exact zkw PySem.F.slot_list_count PySem.F.type_list_count zjA (zah o G h5) he hst h2 h3
 | .mkL l, N, sc, e, X, G, h => by
   simp only[chkE] at h
   split at h
   · rename_i c
     split at h
     · have ht:zns l=true:=by
        cases l with
        |comp=>rfl
        |_=>cases c
       exact PE.imp ((zbX l G h).2.1 ht) fun σ H Qv q=>zhL q
     · replace h:=zaf h
       obtain⟨⟨x,e1⟩,q,h⟩:=h
       obtain⟨p2,p,rfl⟩:=zaF q
       simp only[Bool.and_eq_true] at h
       obtain⟨⟨⟨hx,h1⟩,h2⟩,h4⟩:=h
       cases zbc hx
       have hr:zh0 l=false:=by
        cases l with
        |comp=>rfl
        |_=>cases c
       exact zjN G (za8 G h1) ((zbX l G h4).1 hr) h2
   · replace h:=zaf h
     obtain⟨⟨x,e1⟩,q,h⟩:=h
     obtain⟨p2,p,rfl⟩:=zaF q
     simp only[Bool.and_eq_true,Bool.or_eq_true,Bool.not_eq_true'] at h
     obtain⟨⟨⟨⟨hx,h1⟩,h2⟩,h3⟩,h4⟩:=h
     cases zbc hx
     have hl:=zbX l G h4
     rcases h3 with h3|h3
     · exact zjN G (za8 G h1) (hl.1 h3) h2
     · have:∃a,l=.rng1 a:=by
        cases l with
        |rng1 a=>exact⟨a,rfl⟩
        |_=>cases h3
       obtain⟨a,ea⟩:=this
       obtain⟨a',p3,p4,rfl,hr,ha,hs⟩:=hl.2.2.2 a ea
       rw[ea]
       exact zkx G (za8 G h1) hr ha hs
 | .mkT l, N, sc, e, X, G, h => by
   simp only[chkE] at h
   replace h:=zaf h
   obtain⟨⟨x,e1⟩,q,h⟩:=h
   obtain⟨p2,p,rfl⟩:=zaF q
   simp only[Bool.and_eq_true,Bool.or_eq_true,Bool.not_eq_true'] at h
   obtain⟨⟨⟨⟨hx,h1⟩,h2⟩,h3⟩,h4⟩:=h
   cases zbc hx
   have hl:=zbX l G h4
   rcases h3 with h3|h3
   · exact zml G (za8 G h1) (hl.1 h3) h2
   · have:∃a,l=.rng1 a:=by
      cases l with
      |rng1 a=>exact⟨a,rfl⟩
      |_=>cases h3
     obtain⟨a,ea⟩:=this
     obtain⟨a',p3,p4,rfl,hr,ha,hs⟩:=hl.2.2.2 a ea
     rw[ea]
     exact ziN G (za8 G h1) hr ha hs
 | .all l, N, sc, e, X, G, h => by
   simp only[chkE] at h
   replace h:=zaf h
   obtain⟨⟨x,e1⟩,q,h⟩:=h
   obtain⟨p2,p,rfl⟩:=zaF q
   simp only[Bool.and_eq_true,Bool.not_eq_true'] at h
   obtain⟨⟨⟨⟨hx,h1⟩,h2⟩,h3⟩,h4⟩:=h
   cases zbc hx
   exact zmw G (za8 G h1) ((zbX l G h4).1 h3) h2
 | .dsrt a, N, sc, e, X, G, h => by
   simp only[chkE] at h
   replace h:=zaf h
   obtain⟨⟨x,e1⟩,q,h⟩:=h
   obtain⟨p2,p,rfl⟩:=zaF q
   simp only[Bool.and_eq_true] at h
   obtain⟨⟨⟨hx,h1⟩,h3⟩,h5⟩:=h
   cases zbc hx
   exact zkC G (za8 G h1) (zah a G h5) h3
 | .dic1 a b, N, sc, e, X, G, h => by
   simp only[chkE] at h
   replace h:=zaf h
   obtain⟨⟨x,e1⟩,q,h⟩:=h
   obtain⟨p,rfl⟩:=zfl q
   simp only[Bool.and_eq_true] at h
   exact zkE (zah a G h.1) (zah b G h.2)
 | .srt a, N, sc, e, X, G, h => by
   simp only[chkE] at h
   replace h:=zaf h
   obtain⟨⟨x,e1⟩,q,h⟩:=h
   obtain⟨p2,p,rfl⟩:=zaF q
   simp only[Bool.and_eq_true] at h
   obtain⟨⟨⟨hx,h1⟩,h3⟩,h5⟩:=h
   cases zbc hx
   exact zmi G (za8 G h1) (zah a G h5) h3
 | .min1 a, N, sc, e, X, G, h => by
   simp only[chkE] at h
   replace h:=zaf h
   obtain⟨⟨x,e1⟩,q,h⟩:=h
   obtain⟨p2,p,rfl⟩:=zaF q
   simp only[Bool.and_eq_true] at h
   obtain⟨⟨⟨hx,h1⟩,h3⟩,h5⟩:=h
   cases zbc hx
   exact zky G (za8 G h1) (zah a G h5) h3
 | .sset a, N, sc, e, X, G, h => by
   simp only[chkE] at h
   replace h:=zaf h
   obtain⟨⟨x,e1⟩,q,h⟩:=h
   obtain⟨p2,p,rfl⟩:=zaF q
   replace h:=zaf h
   obtain⟨⟨y,e2⟩,q2,h⟩:=h
   obtain⟨p3,p4,hy⟩:=zaF q2
   simp only[Bool.and_eq_true] at h
   obtain⟨⟨⟨⟨⟨hx,h1⟩,hz⟩,h2⟩,h3⟩,h5⟩:=h
   cases zbc hx
   cases zbc hz
   dsimp only at hy
   subst hy
   exact zkv G (za8 G h1) (za8 G h2) (zah a G h5) h3
theorem za6:∀(ces:CEs) {N:List Str} {sc:Scope} {es:List Expr} {X:Cx},Gd T cf k N sc X->zbF T ces N sc es=true->EsOk cf ces X es
 | .nil, N, sc, es, X, G, h => by
   simp only[zbF,List.isEmpty_iff] at h
   subst h
   exact⟨zjQ,fun a r e es' z=>nomatch z⟩
 | .cons a r, N, sc, es, X, G, h => by
   cases es with
   |nil=>simp[zbF] at h
   | cons e es =>
     simp only[zbF,Bool.and_eq_true] at h
     have he:=zah a G h.1.2
     exact⟨zhl he (za6 r G h.2).1 h.1.1,fun a' r' e' es' z1 z2=>by cases z1;cases z2;exact he⟩
theorem zba:∀(ce:CE) {N:List Str} {sc:Scope} {e:Expr} {X:Cx},Gd T cf k N sc X->chkT T ce N sc e=true->PT X e (tT X.K cf ce)/\((∃op v r p,e=.BoolOp op (v::r) p)->PW X e (tT X.K cf ce))
 | .cmp op a b, N, sc, e, X, G, h => by
   simp only[chkT] at h
   replace h:=zaf h
   obtain⟨⟨l,os,rs⟩,q,h⟩:=h
   obtain⟨p,rfl⟩:=zeL q
   rw[Bool.and_eq_true,decide_eq_true_eq] at h
   obtain⟨e1,h⟩:=h
   replace h:=zaf h
   obtain⟨r,q2,h⟩:=h
   cases zbq q2
   cases e1
   simp only[Bool.and_eq_true] at h
   exact⟨zl8 G (zah a G h.1.2) (zah b G h.2) h.1.1,fun⟨_,_,_,_,z⟩=>nomatch z⟩
 | .nt a, N, sc, e, X, G, h => by
   simp only[chkT] at h
   replace h:=zaf h
   obtain⟨⟨o,x⟩,q,h⟩:=h
   obtain⟨p,rfl⟩:=zd9 q
   simp only[Bool.and_eq_true,decide_eq_true_eq] at h
   obtain⟨rfl,h1⟩:=h
   exact⟨zn8 (zba a G h1).1,fun⟨_,_,_,_,z⟩=>nomatch z⟩
 | .and a b, N, sc, e, X, G, h => by
   simp only[chkT] at h
   replace h:=zaf h
   obtain⟨⟨o,vs,p⟩,q,h⟩:=h
   cases zb0 q
   rw[Bool.and_eq_true,decide_eq_true_eq] at h
   obtain⟨e1,h⟩:=h
   cases e1
   dsimp only at h
   split at h
   · rename_i x y rest
     rw[Bool.and_eq_true] at h
     obtain⟨h1,h2⟩:=h
     split at h2
     · rename_i c
       cases List.isEmpty_iff.mp c
       have w:=zjK (pos:=p) (zba a G h1).1 (zkL (zba b G h2).1)
       exact⟨w.pt,fun _=>w⟩
     · have w:=zjK (zba a G h1).1 ((zba b G h2).2 ⟨_,_,_,_,rfl⟩)
       exact⟨w.pt,fun _=>w⟩
   · cases h
 | .or a b, N, sc, e, X, G, h => by
   simp only[chkT] at h
   replace h:=zaf h
   obtain⟨⟨o,vs,p⟩,q,h⟩:=h
   cases zb0 q
   rw[Bool.and_eq_true,decide_eq_true_eq] at h
   obtain⟨e1,h⟩:=h
   cases e1
   dsimp only at h
   split at h
   · rename_i x y rest
     rw[Bool.and_eq_true] at h
     obtain⟨h1,h2⟩:=h
     split at h2
     · rename_i c
       cases List.isEmpty_iff.mp c
       have w:=zl7 (pos:=p) (zba a G h1).1 (zmE (zba b G h2).1)
       exact⟨w.pt,fun _=>w⟩
     · have w:=zl7 (zba a G h1).1 ((zba b G h2).2 ⟨_,_,_,_,rfl⟩)
       exact⟨w.pt,fun _=>w⟩
   · cases h
 | .tst a, N, sc, e, X, G, h => by
   simp only[chkT,Bool.and_eq_true] at h
   exact⟨zl6 (zah a G h.2) h.1,fun⟨_,_,_,_,z⟩=>by rw[z] at h;simp[zfX] at h⟩
 |.loc i,N,sc,e,X,G,h=>absurd h Bool.false_ne_true
 |.con d,N,sc,e,X,G,h=>absurd h Bool.false_ne_true
 |.bin op a b,N,sc,e,X,G,h=>absurd h Bool.false_ne_true
 |.neg a,N,sc,e,X,G,h=>absurd h Bool.false_ne_true
 |.ite c a b,N,sc,e,X,G,h=>absurd h Bool.false_ne_true
 |.tup es,N,sc,e,X,G,h=>absurd h Bool.false_ne_true
 |.lst es,N,sc,e,X,G,h=>absurd h Bool.false_ne_true
 |.dnew,N,sc,e,X,G,h=>absurd h Bool.false_ne_true
 |.dnewT,N,sc,e,X,G,h=>absurd h Bool.false_ne_true
 |.ix a b,N,sc,e,X,G,h=>absurd h Bool.false_ne_true
 |.fld a f,N,sc,e,X,G,h=>absurd h Bool.false_ne_true
 |.mk c f x j es,N,sc,e,X,G,h=>absurd h Bool.false_ne_true
 |.meth m tb o es,N,sc,e,X,G,h=>absurd h Bool.false_ne_true
 |.isc cs x a,N,sc,e,X,G,h=>absurd h Bool.false_ne_true
 |.callC f x m es,N,sc,e,X,G,h=>absurd h Bool.false_ne_true
 |.clr a,N,sc,e,X,G,h=>absurd h Bool.false_ne_true
 |.sl a ml mh lo hi,N,sc,e,X,G,h=>absurd h Bool.false_ne_true
 |.call f j es,N,sc,e,X,G,h=>absurd h Bool.false_ne_true
 |.callW f j es,N,sc,e,X,G,h=>absurd h Bool.false_ne_true
 |.bi b es,N,sc,e,X,G,h=>absurd h Bool.false_ne_true
 |.mt m o es,N,sc,e,X,G,h=>absurd h Bool.false_ne_true
 |.mkL l,N,sc,e,X,G,h=>absurd h Bool.false_ne_true
 |.mkT l,N,sc,e,X,G,h=>absurd h Bool.false_ne_true
 |.all l,N,sc,e,X,G,h=>absurd h Bool.false_ne_true
 |.sset a,N,sc,e,X,G,h=>absurd h Bool.false_ne_true
 |.srt a,N,sc,e,X,G,h=>absurd h Bool.false_ne_true
 |.dsrt a,N,sc,e,X,G,h=>absurd h Bool.false_ne_true
 |.dic1 a b,N,sc,e,X,G,h=>absurd h Bool.false_ne_true
 |.min1 a,N,sc,e,X,G,h=>absurd h Bool.false_ne_true
theorem zbX:∀(cl:CL) {N:List Str} {sc:Scope} {e:Expr} {X:Cx},Gd T cf k N sc X->chkL T cl N sc e=true->LOk T cf k cl X e
 | .val a, N, sc, e, X, G, h => by
   simp only[chkL,Bool.and_eq_true] at h
   have hp:=zme (zah a G h.2)
   exact⟨fun _=>hp,fun z=>(by cases z),fun tg _=>zjL hp zng,fun a z=>nomatch z⟩
 | .rng1 a, N, sc, e, X, G, h => by
   simp only[chkL] at h
   replace h:=zaf h
   obtain⟨⟨x,e1⟩,q,h⟩:=h
   obtain⟨p2,p,rfl⟩:=zaF q
   simp only[Bool.and_eq_true] at h
   obtain⟨⟨⟨hx,h1⟩,h2⟩,h3⟩:=h
   cases zbc hx
   have he:=zah a G h3
   exact⟨fun z=>(by cases z),fun z=>(by cases z),fun tg _=>zkq (za8 G h1) he h2,fun a z=>by cases z;exact⟨e1,p2,p,rfl,za8 G h1,he,h2⟩⟩
 | .rng2 a b, N, sc, e, X, G, h => by
   simp only[chkL] at h
   replace h:=zaf h
   obtain⟨⟨x,args⟩,q,h⟩:=h
   obtain⟨p2,p,rfl⟩:=za0 q
   replace h:=zaf h
   obtain⟨⟨e1,e2⟩,q2,h⟩:=h
   cases two_inv q2
   simp only[Bool.and_eq_true] at h
   obtain⟨⟨⟨⟨⟨hx,h1⟩,h2⟩,h3⟩,h4⟩,h5⟩:=h
   cases zbc hx
   exact⟨fun z=>(by cases z),fun z=>(by cases z),fun tg _=>zkp (za8 G h1) (zah a G h4) (zah b G h5) h2 h3,fun a z=>nomatch z⟩
 | .comp nt js g it c e, N, sc, ex, X, G, h => by
   simp only[chkL] at h
   replace h:=zaf h
   obtain⟨⟨elt,gs,scope,p⟩,q,h⟩:=h
   cases zfU q
   replace h:=zaf h
   obtain⟨⟨tg,iter,ifs,asy⟩,q2,h⟩:=h
   cases zbq q2
   rw[Bool.and_eq_true,Bool.and_eq_true,Bool.and_eq_true,Bool.and_eq_true,Bool.and_eq_true,Bool.and_eq_true,Bool.and_eq_true,Bool.and_eq_true,decide_eq_true_eq,decide_eq_true_eq,decide_eq_true_eq] at h
   obtain⟨⟨⟨⟨⟨⟨⟨⟨h1,h2⟩,h3⟩,h4⟩,h5⟩,h6⟩,h7⟩,h8⟩,h9⟩:=h
   dsimp only at h1 h2 h3 h4 h5 h6 h7 h8 h9
   rw[Bool.and_eq_true] at h3
   subst h1 h5
   have ok:=zgl G h2
   have G':=zic G (tgs:=zb3 tg) ok h6
   have ht:∀cl C fp s H pn,PTs (zaM X (capN X.N (zb3 tg) js) scope cl C fp s H pn) ifs (tT X.K cf c):=fun cl C fp s H pn=>by
    split at h8
    · rename_i ce
      cases List.isEmpty_iff.mp ce
      exact zfN (X:=zaM X (capN X.N (zb3 tg) js) scope cl C fp s H pn) h8
    · replace h8:=zaf h8
      obtain⟨t,q3,h8⟩:=h8
      cases zbq q3
      exact zhy (zba c (G' cl C fp s H pn) h8).1
   have hp:PE X (.ListComp elt [⟨tg,iter,ifs,0⟩] scope p) (tLt X.K cf (.comp (zb3 tg).length js g it c e)):=
    PE.imp (zi8 X.env.scope (zb3 tg) js G.calm rfl ok ((zbX it G h4).2.2.1 tg h3.2) (fun cl C fp s H pn=>zkg (G' cl C fp s H pn) h7) ht (fun cl C fp s H pn=>zah e (G' cl C fp s H pn) h9) (zfx h3.1 X.env)) fun σ H Qv q=>zgk G.tab.frm q
   exact⟨fun _=>(PE.ofT hp),fun _=>hp,fun tg _=>zjL (PE.ofT hp) zlh,fun a z=>nomatch z⟩
end
end
end R
end
section
set_option maxHeartbeats 4000000
namespace R
open PySem PySem.Spec PyProof.Rows L2
variable [Mks]
section
variable {T:Tab} {cf:CF} {k:Nat}
theorem zkm {N:List Str}{sc:Scope}{X:Cx}{rest:List Stmt}{p pos p2:Pos}(G:Gd T cf k N sc X){i:Nat}{x:Str}{l:CL}{elt:Expr}{gs:List Comprehension}{scope:Scope}{r:CS}(hi:N[i]?=some x)(hl:zeY sc x=true)(h:chkE T (.mkL l) N sc (.ListComp elt gs scope p2)=true)(hr:PSs X rest (tS X.K cf r)) :
  PSs X (.Assign [.Name x p] (.ListComp elt gs scope p2) pos::rest) (tS X.K cf (.asg i (.mkL l) r)):=by
 have hw:∃b,swapsWith (.ListComp elt gs scope p2) (some (.Name x p)) pos.line X.env=pure b:=⟨_,rfl⟩
 obtain⟨b,hw⟩:=hw
 cases b with
 | false =>
   refine PSs.imp (zbg (zjS (i:=i) (by rw[G.nm];exact G.nd) (by rw[G.nm];exact hi) (G.lc hl).1 (zah (.mkL l) G h) hw (G.lc hl).2) hr) fun E σ H ⟨δ,ι,S,Q,hs,hh,w,lf⟩=>?_
   simp only[exS,zac] at w
   refine tE.run hs hh w fun d v ι1 H1 S1 x1 hs1 hh1 r1 w1=>?_
   exact⟨δ.set i (some d),ι1,S1,Q,hs1.set r1 i,hh1,w1,lf.up x1⟩
 | true =>
   simp only[chkE] at h
   split at h
   · rename_i c0
     split at h
     · cases l with
       | comp nt js g it c e =>
         simp only[chkL] at h
         replace h:=zaf h
         obtain⟨⟨elt',gs',scope',p'⟩,q,h⟩:=h
         cases zfU q
         replace h:=zaf h
         obtain⟨⟨tg,iter,ifs,asy⟩,q2,h⟩:=h
         cases zbq q2
         rw[Bool.and_eq_true,Bool.and_eq_true,Bool.and_eq_true,Bool.and_eq_true,Bool.and_eq_true,Bool.and_eq_true,Bool.and_eq_true,Bool.and_eq_true,decide_eq_true_eq,decide_eq_true_eq,decide_eq_true_eq] at h
         obtain⟨⟨⟨⟨⟨⟨⟨⟨h1,h2⟩,h3⟩,h4⟩,h5⟩,h6⟩,h7⟩,h8⟩,h9⟩:=h
         dsimp only at h1 h2 h3 h4 h5 h6 h7 h8 h9
         rw[Bool.and_eq_true] at h3
         subst h1 h5
         have ok:=zgl G h2
         have G':=zic G (tgs:=zb3 tg) ok h6
         have ht:∀cl C fp s H pn,PTs (zaM X (capN X.N (zb3 tg) js) scope cl C fp s H pn) ifs (tT X.K cf c):=fun cl C fp s H pn=>by
          split at h8
          · rename_i ce
            cases List.isEmpty_iff.mp ce
            exact zfN (X:=zaM X (capN X.N (zb3 tg) js) scope cl C fp s H pn) h8
          · replace h8:=zaf h8
            obtain⟨t,q3,h8⟩:=h8
            cases zbq q3
            exact zhy (zba c (G' cl C fp s H pn) h8).1
         have he:∀cl C fp s H pn,PE (zaM X (capN X.N (zb3 tg) js) scope cl C fp s H pn) elt (tE X.K cf e):=fun cl C fp s H pn=>zah e (G' cl C fp s H pn) h9
         have hg:∀cl C fp s H pn,PG (zaM X (capN X.N (zb3 tg) js) scope cl C fp s H pn) tg (tG X.K g):=fun cl C fp s H pn=>zkg (G' cl C fp s H pn) h7
         have hps:=zkR (spos:=pos) (py:=p) (pos:=p2) X.env.scope (zb3 tg) js (i:=i) (y:=x) (by rw[G.nm];exact G.nd) (by rw[G.nm];exact hi) (G.lc hl).1 G.calm rfl ok ((zbX it G h4).2.2.1 tg h3.2) hg ht he hw (zfx h3.1 X.env) (G.lc hl).2
         exact zkn G hi ⟨_,hps,fun σ H Qv q=>zgk G.tab.frm (zhL q)⟩ hr
       |_=>cases c0
     · cases h
   · cases h
theorem zlD {v:Expr}(h:zbr v=false){e:CE}{N:List Str}{sc:Scope}(hc:chkE T e N sc v=true):∃l elt gs scope p,v=.ListComp elt gs scope p/\e=.mkL l:=by
 cases v with
 | ListComp elt gs scope p =>
   cases e with
   |mkL l=>exact⟨l,elt,gs,scope,p,rfl,rfl⟩
   |_=>simp[chkE,zbx,zc5,zhv,rdUn,zgE,zcO,rdIf,zgB,zeK,zcE,zcD,zfk,za9,za1,zb5,zdM,zbN,zb6] at hc
 |SetComp=>cases e<;>simp[chkE,zbx,zc5,zhv,rdUn,zgE,zcO,rdIf,zgB,zeK,zcE,zcD,zfk,za9,za1,zb5,zdM,zbN,zb6,rdLC,chkL] at hc
 |DictComp=>cases e<;>simp[chkE,zbx,zc5,zhv,rdUn,zgE,zcO,rdIf,zgB,zeK,zcE,zcD,zfk,za9,za1,zb5,zdM,zbN,zb6,rdLC,chkL] at hc
 |_=>cases h
theorem zbn:∀(cs:CS) {N:List Str} {sc:Scope} {st:List Stmt} {X:Cx},Gd T cf k N sc X->chkS T cs N sc st=true->PSs X st (tS X.K cf cs)
 | .nil, N, sc, st, X, G, h => by
   simp only[chkS,List.isEmpty_iff] at h
   subst h
   exact zma
 |.stop,N,sc,st,X,G,h=>fun pins s σ H E I ⟨δ,ι,S,Q,hs,hh,w,l⟩=>(by simp only[exS] at w;exact w.elim)
 | .asg i e r, N, sc, st, X, G, h => by
   cases st with
   |nil=>simp[chkS] at h
   | cons s rest =>
     simp only[chkS] at h
     replace h:=zaf h
     obtain⟨⟨tg,v,pos⟩,q,h⟩:=h
     cases zc6 q
     replace h:=zaf h
     obtain⟨x,q2,h⟩:=h
     obtain⟨p,hx⟩:=za2 q2
     dsimp only at hx
     subst hx
     simp only[Bool.and_eq_true,beq_iff_eq] at h
     obtain⟨⟨⟨h1,h2⟩,h3⟩,h4⟩:=h
     have hr:=zbn r G h4
     cases hn:zbr v with
     |true=>exact zmc G h1 h2 (zah e G h3) hn hr
     | false =>
       obtain⟨l,elt,gs,scope,p2,rfl,rfl⟩:=zlD hn h3
       exact zkm G h1 h2 h3 hr
 | .setF a f e r, N, sc, st, X, G, h => by
   cases st with
   |nil=>simp[chkS] at h
   | cons s rest =>
     simp only[chkS] at h
     replace h:=zaf h
     obtain⟨⟨tg,v,pos⟩,q,h⟩:=h
     cases zc6 q
     replace h:=zaf h
     obtain⟨⟨o,f',p⟩,q2,h⟩:=h
     have hx:=zb1 q2
     dsimp only at hx
     subst hx
     simp only[Bool.and_eq_true,decide_eq_true_eq] at h
     obtain⟨⟨⟨⟨⟨h1,h2⟩,h3⟩,h4⟩,h5⟩,h6⟩:=h
     subst h1
     exact zkk G h2 (zah a G h4) (zah e G h5) h3 (zbn r G h6)
 | .setIx a b e r, N, sc, st, X, G, h => by
   cases st with
   |nil=>simp[chkS] at h
   | cons s rest =>
     simp only[chkS] at h
     replace h:=zaf h
     obtain⟨⟨tg,v,pos⟩,q,h⟩:=h
     cases zc6 q
     replace h:=zaf h
     obtain⟨⟨o,i⟩,q2,h⟩:=h
     obtain⟨p,hx⟩:=zc3 q2
     dsimp only at hx
     subst hx
     simp only[Bool.and_eq_true] at h
     obtain⟨⟨⟨⟨h1,h2⟩,h3⟩,h4⟩,h5⟩:=h
     exact ziH G (zah a G h2) (zah b G h3) (zah e G h4) h1 (zbn r G h5)
 | .ifS c t u r, N, sc, st, X, G, h => by
   cases st with
   |nil=>simp[chkS] at h
   | cons s rest =>
     simp only[chkS] at h
     replace h:=zaf h
     obtain⟨⟨e,a,b⟩,q,h⟩:=h
     obtain⟨p,rfl⟩:=zhr q
     simp only[Bool.and_eq_true] at h
     exact zn9 (zba c G h.1.1.1).1 (zbn t G h.1.1.2) (zbn u G h.1.2) (zbn r G h.2)
 | .forS g l b r, N, sc, st, X, G, h => by
   cases st with
   |nil=>simp[chkS] at h
   | cons s rest =>
     simp only[chkS] at h
     replace h:=zaf h
     obtain⟨⟨tg,it,body⟩,q,h⟩:=h
     obtain⟨p,rfl⟩:=zhs q
     simp only[Bool.and_eq_true] at h
     obtain⟨⟨⟨⟨h1,h2⟩,h3⟩,h4⟩,h5⟩:=h
     exact zmb G ((zbX l G h2).2.2.1 tg h5.2) (zkg G h5.1) (zbn b G h3) h1 (zbn r G h4)
 | .ret e r, N, sc, st, X, G, h => by
   cases st with
   |nil=>simp[chkS] at h
   | cons s rest =>
     simp only[chkS] at h
     replace h:=zaf h
     obtain⟨v,q,h⟩:=h
     obtain⟨p,rfl⟩:=zhq q
     simp only[Bool.and_eq_true] at h
     exact zl9 (zah e G h.1) (zbn r G h.2)
 | .expr e r, N, sc, st, X, G, h => by
   cases st with
   |nil=>simp[chkS] at h
   | cons s rest =>
     simp only[chkS] at h
     replace h:=zaf h
     obtain⟨v,q,h⟩:=h
     obtain⟨p,rfl⟩:=zht q
     simp only[Bool.and_eq_true] at h
     exact zkl (zah e G h.1.2) h.1.1 (zbn r G h.2)
theorem RS.start {K:PySem.W.Frag}{ι:List Addr}{H:Hp}{F:Fn}{N:List Str}{ds:List D}{vs:List V}(r:RVs K ι H ds vs)(hl:ds.length=F.np)(hn:F.nn=N.length):RS K ι H (zbk F ds) (L2.start N vs):=by
 have hlen:=r.length
 refine⟨by simp[zbk,L2.start,hlen,hl,hn],fun i d e=>?_⟩
 unfold zbk at e
 unfold L2.start
 by_cases hi:i<ds.length
 · rw[List.getElem?_append_left (by simpa using hi),List.getElem?_map] at e
   rw[List.getElem?_append_left (by simpa[hlen] using hi),List.getElem?_map]
   cases z:ds[i]? with
   |none=>rw[z] at e;cases e
   | some d' =>
     rw[z] at e
     simp only[Option.map_some,Option.some.injEq] at e
     subst e
     obtain⟨v,ev,rv⟩:=r.get z
     exact⟨v,by rw[ev];rfl,rv⟩
 · rw[List.getElem?_append_right (by simpa using hi),List.getElem?_replicate] at e
   split at e<;>cases e
structure DefOk (K:PySem.W.Frag) (mg:Str->Option Value) (T:Tab) (Pg:List Fn) (fi:Nat) (x:Str) (ps:List Str) (nd:Nat):Prop where
 ex:∃(F:Fn) (qual:Str) (st:Stmt) (dV:Value) (f:Addr) (fd:FuncData) (N:List Str),Pg[fi]?=some F/\F.prim=none/\FunV K x qual st dV f fd/\FnScope N ps (zad st)/\chkS T F.body N (zad st) (zai st)=true/\F.np=ps.length/\F.nn=N.length/\
  mg x=some (.ref f)/\∀j,j<=nd->Binds K fd ps (List.replicate j Value.none)
theorem zkU {S:R.St}{p:Prim}{ds:List D}{d:D}{T':R.St}(h:prm S p ds=.ok d T'):Frm S T':=by
 unfold prm at h
 split at h
 · split at h
   · split at h
     · split at h
       · injection h with _ h2;rw[<-h2];exact Frm.push _ _
       · cases h
     · cases h
   · cases h
 · cases h
theorem zdn (Pg:List Fn):∀n:Nat,CFok (callF Pg n)
 |0,f,ds,S,d,T',h=>by cases h
 | n + 1, f, ds, S, d, T', h => by
   simp only[callF] at h
   cases e:Pg[f]? with
   |none=>rw[e] at h;cases h
   | some F =>
     rw[e] at h
     dsimp only at h
     split at h
     · cases ep:F.prim with
       | some p =>
         rw[ep] at h
         dsimp only at h
         split at h
         · exact zkU h
         · cases h
       |none=>
       rw[ep] at h
       dsimp only at h
       cases ex:exS (callF Pg n) F.body (zbk F ds) S with
       | ok r T2 =>
         rw[ex] at h
         have hf:=zdq (cf:=callF Pg n) (zdn Pg n) F.body (zbk F ds) S (fun r' T3=>r'=r/\T3=T2) (by rw[ex];exact⟨rfl,rfl⟩)
         rw[ex] at hf
         cases r with
         |nx δ=>injection h with _ h2;rw[<-h2];exact hf.2
         |rt z=>injection h with _ h2;rw[<-h2];exact hf.2
       |err z T2=>rw[ex] at h;cases h
       |bad=>rw[ex] at h;cases h
     · cases h
variable {P:Program} {w:World} {K:PySem.W.Frag} {mg:Str->Option Value} {base:Heap} {Pg:List Fn}
theorem zcZ {n fi:Nat}{F:Fn}{ps:List Str}(hP:Pg[fi]?=some F)(hp:F.np=ps.length){vs:List V}{H:Hp}{Q:VK}{E:XK}(h:spF K (callF Pg n) fi vs H Q E):vs.length=ps.length:=by
 obtain⟨ι,S,ds,r,hh,w⟩:=h
 rw[r.length]
 cases n with
 |zero=>exact w.elim
 | succ n =>
   simp only[callF,hP] at w
   split at w
   · rename_i c;rw[c,hp]
   · exact w.elim
theorem zik {n m fi:Nat}{x qual:Str}{st:Stmt}{dV:Value}{f:Addr}{fd:FuncData}{N ps:List Str}{F:Fn}(tab:TabOk T (callF Pg n) m P w K mg base)(FV:FunV K x qual st dV f fd)(hP:Pg[fi]?=some F)(S:FnScope N ps (zad st))(ck:chkS T F.body N (zad st) (zai st)=true)(hp:F.np=ps.length)(hn:F.nn=N.length)(hq:F.prim=none:=by rfl) :
  FnOk P w K mg base CX0 (m+2) f fd ps (spF K (callF Pg (n+1)) fi):=by
 refine FV.ok S (fun vs H Q E h=>zcZ hP hp h) fun cdv A outer s H vs Q E hr h=>?_
 obtain⟨ι,S0,ds,r,hh,hw⟩:=h
 have G:Gd T (callF Pg n) m N (zad st) (cxOf CX0 P w K mg base N qual (zad st) f cdv A outer s H E).nox:=
  ⟨rfl,S.nd,fun x e=>e,fun x e=>e,fun x e=>.inl e,fun x e=>e,.inl fun _=>rfl,rfl,rfl,hr,tab⟩
 refine⟨_,zbn F.body G ck,?_⟩
 simp only[callF,hP,hq] at hw
 split at hw
 · rename_i c
   rw[zac] at hw
   refine⟨zbk F ds,ι,S0,_,RS.start r c hn,hh,hw,?_⟩
   intro fl ι' H' S' x' hh' q
   cases fl with
   |nx δ'=>exact fun σ' hs'=>q .non H' ι' x' rfl hh'
   |rt d=>exact fun v rv=>q v H' ι' x' rv hh'
 · exact hw.elim
structure MOk (K:PySem.W.Frag) (T:Tab) (Pg:List Fn) (fi j:Nat) (Ex:Addr->Prop):Prop where
 ex:∃(F:Fn) (x qual:Str) (st:Stmt) (dV:Value) (f:Addr) (fd:FuncData) (N ps:List Str),Pg[fi]?=some F/\F.prim=none/\FunV K x qual st dV f fd/\FnScope N ps (zad st)/\chkS T F.body N (zad st) (zai st)=true/\F.np=ps.length/\F.nn=N.length/\
  Binds K fd ps (List.replicate j Value.none)/\Ex f
theorem zeb {fi j:Nat}{Ex:Addr->Prop}(z:MOk K T Pg fi j Ex):∃f fd ps,Ex f/\PySem.W.keepIn K (.ref f)=true/\Binds K fd ps (List.replicate j Value.none)/\FnOk P w K mg base CX0 0 f fd ps (spF K (callF Pg 0) fi):=by
 obtain⟨F,x,qual,st,dV,f,fd,N,ps,hP,hq,FV,S,ck,hp,hn,hb,e⟩:=z.ex
 refine⟨f,fd,ps,e,FV.kp,hb,⟨fun vs H Q E h=>zcZ hP hp h,fun A outer s H args us vs Q E hr e0 b v h=>?_⟩⟩
 obtain⟨ι,S,ds,r,hh,w⟩:=h
 exact w.elim
theorem zec {n m fi j:Nat}{Ex:Addr->Prop}(tab:TabOk T (callF Pg n) m P w K mg base)(z:MOk K T Pg fi j Ex):∃f fd ps,Ex f/\PySem.W.keepIn K (.ref f)=true/\Binds K fd ps (List.replicate j Value.none)/\FnOk P w K mg base CX0 (m+2) f fd ps (spF K (callF Pg (n+1)) fi):=by
 obtain⟨F,x,qual,st,dV,f,fd,N,ps,hP,hq,FV,S,ck,hp,hn,hb,e⟩:=z.ex
 exact⟨f,fd,ps,e,FV.kp,hb,zik tab FV hP S ck hp hn hq⟩
noncomputable def ExM (K:PySem.W.Frag)(c:Nat)(m:Str)(f:Addr):Prop:=∃C,Mks.cl[c]?=some C/\Cls K C/\Meth K C m f
noncomputable def ExI (K:PySem.W.Frag)(c:Nat)(f:Addr):Prop:=∃C,Mks.cl[c]?=some C/\Mk K C f
noncomputable def ExC (K:PySem.W.Frag)(mg:Str->Option Value)(x m:Str)(f:Addr):Prop:=∃(C:Addr) (mc:Value),mg x=some (.ref C)/\PySem.W.specialIn K (.ref C) "__getattribute__"=some (some (.builtin "type.__getattribute__"))/\PySem.W.readsIn K C mc=true/\PySem.W.findCls K (.ref C) mc m=some (.val (.ref f))
structure ClsOk (T:Tab) (K:PySem.W.Frag) (mg:Str->Option Value) (Pg:List Fn):Prop where
 cls:∀(c:Nat) (x:Str),T.cls[c]?=some x->∃C,Mks.cl[c]?=some C/\Cls K C/\mg x=some (.ref C)/\∀f,T.flds.contains f=true->NoAttr K C f
 mth:∀(c:Nat) (m:Str) (fi:Nat),T.mts.contains (c,m,fi)=true->MOk K T Pg fi 0 (ExM K c m)
 ini:∀(c fi j:Nat),T.inits.contains (c,fi,j)=true->MOk K T Pg fi j (ExI K c)
 cmd:∀(x m:Str) (fi:Nat),T.cms.contains (x,m,fi)=true->MOk K T Pg fi 0 (ExC K mg x m)
 cln:Mks.cl.length<=T.cls.length
 isa:∀(x:Str) (cs:List Nat),T.isas.contains (x,cs)=true->∃D,mg x=some (.ref D)/\∀c C,Mks.cl[c]?=some C->IsaOk K C/\PySem.W.kitOne K (.ref C) (.ref D)=some (cs.contains c)
theorem zh7 {k c fi:Nat}{m:Str}(h:∃f fd ps,ExM K c m f/\PySem.W.keepIn K (.ref f)=true/\Binds K fd ps []/\FnOk P w K mg base CX0 k f fd ps (spF K cf fi)):HasM P w K mg base k c m (spF K cf fi):=by
 obtain⟨f,fd,ps,⟨C,h1,h2,h3⟩,_,h4,h5⟩:=h
 exact⟨C,f,fd,ps,h1,h2,h3,h5,h4⟩
theorem zh8 {k c fi j:Nat}(h:∃f fd ps,ExI K c f/\PySem.W.keepIn K (.ref f)=true/\Binds K fd ps (List.replicate j Value.none)/\FnOk P w K mg base CX0 k f fd ps (spF K cf fi)):HasI P w K mg base k c j (spF K cf fi):=by
 obtain⟨f,fd,ps,⟨C,h1,h2⟩,_,h4,h5⟩:=h
 exact⟨C,f,fd,ps,h1,h2,h5,h4⟩
theorem zh9 {k fi:Nat}{x m:Str}(h:∃f fd ps,ExC K mg x m f/\PySem.W.keepIn K (.ref f)=true/\Binds K fd ps []/\FnOk P w K mg base CX0 k f fd ps (spF K cf fi)):HasC P w K mg base k x m (spF K cf fi):=by
 obtain⟨f,fd,ps,⟨C,mc,h1,h2,h3,h6⟩,h7,h4,h5⟩:=h
 exact⟨C,f,fd,ps,mc,h1,h2,h3,h6,h7,h5,h4⟩
structure PrimOk (P:Program) (w:World) (K:PySem.W.Frag) (mg:Str->Option Value) (base:Heap) (Pg:List Fn) (fi:Nat) (x:Str) (ps:List Str) (nd:Nat):Prop where
 ex:∃(F:Fn) (p:Prim) (f:Addr) (fd:FuncData),Pg[fi]?=some F/\F.prim=some p/\F.np=ps.length/\mg x=some (.ref f)/\PySem.W.keepIn K (.ref f)=true/\(∀j,j<=nd->Binds K fd ps (List.replicate j Value.none))/\
  ∀n,3<=n->FnOk P w K mg base CX0 (n+2) f fd ps (spF K (callF Pg (n+1)) fi)
theorem zl2 (hb:∀x,T.blt.contains x=true->mg x=none)(hc:∀x d,T.cons.lookup x=some d->ziT d=true/\∃u,mg x=some u/\RelV (sV d) u)(hd:∀fi x ps nd,T.fns[fi]?=some (x,ps,nd)->DefOk K mg T Pg fi x ps nd\/PrimOk P w K mg base Pg fi x ps nd)(hk:ClsOk T K mg Pg) :
  ∀n,TabOk T (callF Pg n) (2 * n) P w K mg base:=by
 intro n
 induction n with
 | zero =>
   refine⟨hb,hc,fun fi x ps nd hf j hj=>?_,zdn Pg 0,hk.cls,fun c m fi h=>zh7 (zeb (hk.mth c m fi h)),fun c fi j h=>zh8 (zeb (hk.ini c fi j h)),fun x m fi h=>zh9 (zeb (hk.cmd x m fi h)),fun _=>hk.cln,hk.isa⟩
   rcases hd fi x ps nd hf with z|z
   · obtain⟨F,qual,st,dV,f,fd,N,hP,hq,FV,S,ck,hp,hn,hm,hbd⟩:=z.ex
     refine⟨f,fd,_,⟨fun vs H Q E h=>zcZ hP hp h,fun A outer s H args us vs Q E hr e0 b v h=>?_⟩,hm,FV.kp,hbd j hj,Vals.nons j⟩
     obtain⟨ι,S,ds,r,hh,w⟩:=h
     exact w.elim
   · obtain⟨F,p,f,fd,hP,hq,hp,hm,kp,hbd,ok⟩:=z.ex
     refine⟨f,fd,_,⟨fun vs H Q E h=>zcZ hP hp h,fun A outer s H args us vs Q E hr e0 b v h=>?_⟩,hm,kp,hbd j hj,Vals.nons j⟩
     obtain⟨ι,S,ds,r,hh,w⟩:=h
     exact w.elim
 | succ n ih =>
   refine⟨hb,hc,fun fi x ps nd hf j hj=>?_,zdn Pg (n+1),hk.cls,fun c m fi h=>zh7 (zec ih (hk.mth c m fi h)),fun c fi j h=>zh8 (zec ih (hk.ini c fi j h)),fun x m fi h=>zh9 (zec ih (hk.cmd x m fi h)),fun _=>hk.cln,hk.isa⟩
   rcases hd fi x ps nd hf with z|z
   · obtain⟨F,qual,st,dV,f,fd,N,hP,hq,FV,S,ck,hp,hn,hm,hbd⟩:=z.ex
     refine⟨f,fd,_,?_,hm,FV.kp,hbd j hj,Vals.nons j⟩
     exact zik ih FV hP S ck hp hn hq
   · obtain⟨F,p,f,fd,hP,hq,hp,hm,kp,hbd,ok⟩:=z.ex
     refine⟨f,fd,_,?_,hm,kp,hbd j hj,Vals.nons j⟩
     by_cases c:3<=n
     · exact (ok n c).mono (by omega)
     · refine⟨fun vs H Q E h=>zcZ hP hp h,fun A outer s H args us vs Q E hr e0 b v h=>?_⟩
       obtain⟨ι,S,ds,r,hh,w⟩:=h
       simp only[callF,hP,hq,c,if_false] at w
       split at w<;>exact w.elim
noncomputable def ziD {α:Type}(P:Nat->α->Prop):Nat->List α->Prop
 |_,[]=>True
 |k,a::r=>P k a/\ziD P (k+1) r
theorem zj9 {α:Type}{P:Nat->α->Prop}:∀{l:List α} {k:Nat},ziD P k l->∀(i:Nat) (a:α),l[i]?=some a->P (k+i) a
 | [],_,_,i,a,h=>by simp at h
 |b::r,k,q,0,a,h=>by cases h;exact q.1
 | b :: r, k, q, i + 1, a, h => by
   have:=zj9 q.2 i a (by simpa using h)
   rwa [Nat.add_right_comm] at this
theorem AllAt.get {α:Type}{P:Nat->α->Prop}{l:List α}(q:ziD P 0 l)(i:Nat)(a:α)(h:l[i]?=some a):P i a:=Nat.zero_add i▸zj9 q i a h
noncomputable def zka {α:Type}(P:α->Prop):List α->Prop
 | []=>True
 |a::r=>P a/\zka P r
theorem AllIn.get {α:Type}[BEq α][LawfulBEq α]{P:α->Prop}:∀{l:List α},zka P l->∀a,l.contains a=true->P a
 | [],_,a,h=>by simp at h
 | b :: r, q, a, h => by
   rw[List.contains_cons,Bool.or_eq_true] at h
   rcases h with h|h
   · rw[eq_of_beq h];exact q.1
   · exact AllIn.get q.2 a h
theorem zlj {k fi:Nat}{K:PySem.W.Frag}{H:Hp}{a:Addr}{ns:List Int}(hx:FixL K H a (ns.map V.int))(tb:TB H)
  (law:W (callF Pg k fi [.fix (ns.map .int)] ⟨[],[],[]⟩) fun d _=>d=.bl true):spF K (callF Pg k) fi [.ref a] H (fun v _=>v=.bl true) fun _ _ _=>False:=by
 refine⟨[],⟨[],[],[]⟩,[.fix (ns.map .int)],⟨.ref a,[],rfl,⟨a,_,rfl,hx,RVs.ints ns⟩,rfl⟩,⟨rfl,List.nodup_nil,fun l o e=>(by simp[St.get] at e),tb⟩,?_⟩
 obtain⟨d,T',e,q⟩:=zfd law
 rw[e]
 intro v H' ι' x r hT
 subst q
 exact r
theorem law_sp {k fi:Nat}{K:PySem.W.Frag}{H:Hp}{a:Addr}{ns:List Int}(h0:Mks.ts=[])(hO:Only H)(hS:SqL K H a (ns.map V.int))
  (law:W (callF Pg k fi [.fix (ns.map .int)] ⟨[],[],[]⟩) fun d _=>d=.bl true):spF K (callF Pg k) fi [.ref a] H (fun v _=>v=.bl true) fun _ _ _=>False:=by
 refine zlj ?_ (fun p hp=>by rw[h0] at hp;cases hp) law
 rcases hS with (h|⟨o,h⟩)|h
 · rcases hO a with z|⟨o,xs,z⟩
   · rw[z] at h;cases h
   · rw[z] at h;cases h
 · exact .inl ⟨o,h⟩
 · exact .inr h
end
end R
end
section
namespace R
open PySem (PyData)
theorem zef {α β:Type}{f:α->Option β}:∀{xs:List α} {ys:List β},xs.mapM f=some ys->∀y∈ys,∃x∈xs,f x=some y
 | [],ys,h,y,hy=>by simp at h;subst h;cases hy
 | x :: xs, ys, h, y, hy => by
   rw[List.mapM_cons] at h
   cases e:f x with
   |none=>rw[e] at h;cases h
   | some z =>
     rw[e] at h
     cases e2:xs.mapM f with
     |none=>rw[e2] at h;cases h
     | some zs =>
       rw[e2] at h
       injection h with h
       subst h
       rcases List.mem_cons.mp hy with rfl|hy
       · exact⟨x,by simp,e⟩
       · obtain⟨u,hu,eu⟩:=zef e2 y hy
         exact⟨u,by simp[hu],eu⟩
theorem zch:∀{xs:List PyData},(∀x∈xs,PyData.eqv x x=true)->PyData.eqvAll xs xs=true
 | [],_=>by simp[PyData.eqvAll]
 |x::xs,h=>by simp[PyData.eqvAll,h x (by simp),zch (xs:=xs) fun y hy=>h y (by simp[hy])]
theorem zk5 {S:St}:∀{n:Nat} {d:D} {a:PyData},pd S n d=some a->PyData.eqv a a=true:=by
 intro n
 induction n with
 | zero =>
   intro d a h
   cases d<;>simp only[pd] at h
   · cases h;simp[PyData.eqv]
   · cases h;simp[PyData.eqv]
   · cases h;simp[PyData.eqv]
   · split at h
     · cases h;simp[PyData.eqv]
     · cases h
   · cases h
   · cases h
   · cases h
 | succ n ih =>
   intro d a h
   cases d<;>simp only[pd] at h
   · cases h;simp[PyData.eqv]
   · cases h;simp[PyData.eqv]
   · cases h;simp[PyData.eqv]
   · split at h
     · cases h;simp[PyData.eqv]
     · cases h
   · rename_i ds
     cases e:ds.mapM (pd S n) with
     |none=>rw[e] at h;cases h
     | some xs =>
       rw[e] at h
       cases h
       rw[PyData.eqv]
       exact zch fun x hx=>let ⟨d,_,hd⟩:=zef e x hx;ih hd
   · split at h
     · rename_i ds _
       cases e:ds.mapM (pd S n) with
       |none=>rw[e] at h;cases h
       | some xs =>
         rw[e] at h
         cases h
         rw[PyData.eqv]
         exact zch fun x hx=>let ⟨d,_,hd⟩:=zef e x hx;ih hd
     · cases h
   · cases h
theorem zih {S:St}{x y:D}{a:PyData}(h1:pd S 60 x=some a)(h2:pd S 60 y=some a):eqD S x y=some true:=by
 unfold eqD
 rw[h1,h2]
 exact congrArg some (zk5 h1)
theorem zbP {S:St}{l n:Nat}{ds:List D}{xs:List PyData}(h:S.get l=some (.lst ds))(e:ds.mapM (pd S n)=some xs):pd S (n+1) (.ref l)=some (.list xs):=by
 simp only[pd,h,e];rfl
theorem zjz {S:St}{a:Nat}{ds:List D}(h:S.get a=some (.lst ds)):dKvs S (.ref a)=none:=by unfold dKvs;dsimp only;rw[h]
theorem zdr {S:St}{a:Nat}{y:D}{ds:List D}(h:S.get a=some (.lst ds)):zeo S (.ref a) y=eqD S (.ref a) y:=by unfold zeo;rw[zjz h]
theorem zdt {S:St}{a b:Nat}{ds:List D}{xs:List PyData}(h1:S.get a=some (.lst ds))(h2:S.get b=some (.lst ds))(e:ds.mapM (pd S 59)=some xs):cmpO S .Eq (.ref a) (.ref b)=some true:=(zdr h1).trans (zih (zbP h1 e) (zbP h2 e))
theorem zci {S:St}{a b:Nat}{ds:List D}{xs:List PyData}(h1:S.get a=some (.lst ds))(h2:S.get b=some (.lst ds))(e:ds.mapM (pd S 59)=some xs):cmpO S .NotEq (.ref a) (.ref b)=some false:=by
 show (zeo S (.ref a) (.ref b)).map (!·)=_
 rw[zdr h1,zih (zbP h1 e) (zbP h2 e)];rfl
theorem zaD (S:St)(o:MO):(S.push o).get S.len=some o:=by
 have h:¬S.len<S.frz.length:=by unfold St.len;omega
 unfold St.get St.push
 simp only[h,if_false]
 unfold St.len
 simp
theorem zae {S:St}{l:Nat}{o u:MO}(e:S.get l=some u):(S.push o).get l=some u:=by
 have h:=zbe e
 unfold St.len at h
 unfold St.get at e⊢
 unfold St.push
 simp only
 split
 · rename_i c;rw[if_pos c] at e;exact e
 · rename_i c;rw[if_neg c] at e;rw[List.getElem?_append_left (by omega)];exact e
theorem zlC {α β:Type}(f:α->β)(xs:List α)(lo hi:Option Int):cut (xs.map f) lo hi=(cut xs lo hi).map f:=by
 unfold cut
 rw[List.length_map,List.map_take,List.map_drop]
theorem znE {α:Type}(xs:List α)(lo hi:Option Int):(cut xs lo hi).length<=xs.length:=by
 unfold cut
 rw[List.length_take,List.length_drop]
 omega
theorem zfW {S:St}{l:Nat}(o:MO)(h1:S.frz.length<=l)(h2:S.lk.contains l=false):∃S',S.put l o=some S'/\S'.frz=S.frz/\S'.lk=S.lk/\S'.len=S.len/\(∀m,m≠l->S'.get m=S.get m)/\(l<S.len->S'.get l=some o):=by
 refine⟨{S with new:=S.new.set (l - S.frz.length) o},?_,rfl,rfl,by simp[St.len],fun m hm=>?_,fun hl=>?_⟩
 · unfold St.put
   rw[if_neg (by omega),h2];rfl
 · unfold St.get
   simp only
   split
   · rfl
   · rw[List.getElem?_set_ne (by omega)]
 · unfold St.len at hl
   unfold St.get
   simp only[show ¬l<S.frz.length by omega,if_false]
   rw[List.getElem?_set_self (by omega)]
theorem zeu {α:Type}(xs:List α)(x:α):R.atI (xs++[x]) (-1)=some x:=by
 have:R.ixN (xs++[x]).length (-1)=some xs.length:=by
  unfold R.ixN
  rw[if_neg (by omega),if_pos (by simp;omega)]
  simp
  omega
 unfold R.atI
 rw[this]
 simp
theorem zbu {α:Type}{os:List α}{i:Nat}{o:α}(h:os[i]?=some o):os.take (i+1)=os.take i++[o]:=by
 rw[List.take_add_one,h];rfl
theorem zfF {α:Type}{xs:List α}{k:Nat}{x:α}(h:xs[k]?=some x):R.atI xs (k:Int)=some x:=by
 have hl:=(List.getElem?_eq_some_iff.mp h).1
 have e:R.ixN xs.length (k:Int)=some k:=by simp[R.ixN,hl]
 unfold R.atI
 rw[e];exact h
theorem zev {α:Type}{x:α}{xs:List α}:R.atI (x::xs) 0=some x:=by
 have:R.ixN (x::xs).length 0=some 0:=by simp[R.ixN]
 unfold R.atI;rw[this];rfl
theorem zfH {α:Type}{x y:α}{xs:List α}:R.atI (x::y::xs) 1=some y:=by
 have:R.ixN (x::y::xs).length 1=some 1:=by simp[R.ixN];omega
 unfold R.atI;rw[this];rfl
noncomputable def cellZ (ns:List Int)(k:Nat):Int:=match ns[k]? with|some v=>v % 10 ^ 64|none=>0
theorem zdi:∀ks:List Int,zby (ks.map D.int)=some ks
 | []=>rfl
 | k :: ks => by
   unfold zby
   rw[List.map_cons,List.mapM_cons,show (ks.map D.int).mapM zcH=some ks from zdi ks];rfl
end R
end
section
namespace R
noncomputable def hnds (n:Nat):List Int:=(List.range n).map fun (k:Nat)=>(k:Int)
theorem zgQ (n:Nat):(hnds n).Nodup:=by
 unfold hnds List.Nodup
 rw[List.pairwise_map]
 exact List.Pairwise.imp (fun {a b} h e=>h (by exact_mod_cast e)) List.nodup_range
theorem hnds_mem {n:Nat}{x:Int}:x∈hnds n↔0<=x/\x<n:=by
 unfold hnds
 constructor
 · intro h
   obtain⟨k,hk,rfl⟩:=List.mem_map.mp h
   rw[List.mem_range] at hk
   omega
 · intro h
   exact List.mem_map.mpr ⟨x.toNat,List.mem_range.mpr (by omega),by omega⟩
end R
end
section
namespace K62
noncomputable instance mks:R.Mks:=⟨[],[120]⟩
section
open PySem R L2
noncomputable def c_law_cell_at:Fn:=⟨2,2,(.ifS (.cmp .Lt (.loc 1) (.bi .len (.cons (.loc 0) .nil))) (.ret (.bin .Mod (.ix (.loc 0) (.loc 1)) (.bin .Pow (.con (D.int 10)) (.con (D.int 64)))) .nil) .nil (.ret (.con (D.int 0)) .nil)),none⟩
noncomputable def c_law_word:Fn:=⟨1,1,(.ifS (.cmp .Eq (.bin .Mod (.loc 0) (.con (D.int 3))) (.con (D.int 0))) (.ret (.bin .Sub (.bin .Mod (.bin .FloorDiv (.loc 0) (.con (D.int 3))) (.con (D.int 5))) (.con (D.int 2))) .nil) .nil (.ret (.bin .Sub (.bin .Mod (.bin .FloorDiv (.loc 0) (.con (D.int 3))) (.bin .Sub (.bin .Mult (.con (D.int 2)) (.bin .Pow (.con (D.int 10)) (.con (D.int 60)))) (.con (D.int 1)))) (.bin .Sub (.bin .Pow (.con (D.int 10)) (.con (D.int 60))) (.con (D.int 1)))) .nil)),none⟩
noncomputable def c_law_letters:Fn:=⟨5,10,(.asg 5 (.lst .nil) (.asg 6 (.mkL (.comp 1 [2] [0] (.rng1 (.loc 3)) (.cmp .NotEq (.loc 0) (.loc 1)) (.loc 0))) (.forS [7] (.rng1 (.bi .len (.cons (.loc 6) .nil))) (.asg 8 (.call 0 0 (.cons (.loc 0) (.cons (.bin .Add (.bin .Mult (.con (D.int 6)) (.loc 1)) (.loc 7)) .nil))) (.asg 9 (.sl (.lst (.cons (.ix (.loc 4) (.bin .Mod (.bin .FloorDiv (.loc 8) (.con (D.int 5))) (.con (D.int 5)))) (.cons (.ix (.loc 4) (.bin .Mod (.bin .FloorDiv (.loc 8) (.con (D.int 25))) (.con (D.int 5)))) (.cons (.ix (.loc 4) (.bin .Mod (.bin .FloorDiv (.loc 8) (.con (D.int 125))) (.con (D.int 5)))) .nil)))) false true (.con .non) (.bin .Mod (.bin .FloorDiv (.loc 8) (.con (D.int 625))) (.con (D.int 4)))) (.ifS (.cmp .Eq (.bin .Mod (.loc 8) (.con (D.int 5))) (.con (D.int 1))) (.expr (.mt .append (.loc 5) (.cons (.tup (.cons (.tup (.cons (.ix (.loc 6) (.loc 7)) .nil)) (.cons (.con D.non) .nil))) .nil)) .nil) .nil (.ifS (.cmp .Gt (.bin .Mod (.loc 8) (.con (D.int 5))) (.con (D.int 1))) (.expr (.mt .append (.loc 5) (.cons (.tup (.cons (.tup (.cons (.ix (.loc 6) (.loc 7)) .nil)) (.cons (.mkT (.val (.sset (.bin .Add (.loc 9) (.lst (.cons (.ix (.loc 4) (.con (D.int 5))) .nil)))))) .nil))) .nil)) .nil) .nil .nil)))) (.ret (.loc 5) .nil)))),none⟩
noncomputable def c_law_whole:Fn:=⟨1,1,(.ret (.and (.bi (.isin "int") (.cons (.loc 0) .nil)) (.nt (.bi (.isin "bool") (.cons (.loc 0) .nil)))) .nil),none⟩
noncomputable def c_law_end:Fn:=⟨2,2,(.ifS (.cmp .Is (.loc 1) (.con D.non)) (.ret (.cmp .Is (.loc 0) (.con D.non)) .nil) .nil (.ret (.and (.bi (.isin "tuple") (.cons (.loc 0) .nil)) (.and (.cmp .Eq (.loc 0) (.loc 1)) (.all (.comp 1 [] [0] (.val (.loc 0)) (.tst (.con (D.bl true))) (.call 3 0 (.cons (.loc 0) .nil)))))) .nil)),none⟩
noncomputable def c_law_state:Fn:=⟨4,6,(.asg 4 (.con (D.int 0)) (.ifS (.cmp .IsNot (.loc 3) (.con D.non)) (.asg 4 (.ix (.loc 3) (.con (D.int 1))) .nil) .nil (.ifS (.or (.nt (.tst (.call 3 0 (.cons (.meth "ending" [(0,10)] (.loc 0) .nil) .nil)))) (.or (.cmp .NotEq (.meth "ending" [(0,10)] (.loc 0) .nil) (.loc 4)) (.nt (.tst (.call 4 0 (.cons (.meth "ended" [(0,9)] (.loc 0) .nil) (.cons (.loc 3) .nil))))))) (.ret (.con (D.bl false)) .nil) .nil (.asg 5 (.lst (.cons (.meth "known" [(0,13)] (.loc 0) .nil) (.cons (.meth "heard_by" [(0,12)] (.loc 0) .nil) .nil))) (.ifS (.or (.nt (.tst (.bi (.isin "list") (.cons (.ix (.loc 5) (.con (D.int 0))) .nil)))) (.cmp .NotEq (.loc 5) (.lst (.cons (.loc 1) (.cons (.loc 2) .nil))))) (.ret (.con (D.bl false)) .nil) .nil (.ifS (.or (.nt (.tst (.all (.comp 1 [] [0] (.val (.ix (.loc 5) (.con (D.int 0)))) (.tst (.con (D.bl true))) (.call 3 0 (.cons (.loc 0) .nil)))))) (.nt (.tst (.all (.comp 1 [] [0] (.val (.ix (.loc 5) (.con (D.int 1)))) (.tst (.con (D.bl true))) (.bi (.isin "tuple") (.cons (.loc 0) .nil))))))) (.ret (.con (D.bl false)) .nil) .nil (.expr (.mt .append (.ix (.loc 5) (.con (D.int 0))) (.cons (.con (D.int 0)) .nil)) (.expr (.mt .append (.ix (.loc 5) (.con (D.int 1))) (.cons (.tup .nil) .nil)) (.ret (.con (D.bl true)) .nil))))))))),none⟩
noncomputable def c_law_said:Fn:=⟨4,4,(.ifS (.or (.nt (.tst (.bi (.isin "list") (.cons (.loc 0) .nil)))) (.nt (.tst (.all (.comp 1 [] [0] (.val (.loc 0)) (.tst (.con (D.bl true))) (.bi (.isin "tuple") (.cons (.loc 0) .nil))))))) (.ret (.con (D.bl false)) .nil) .nil (.ifS (.cmp .NotEq (.loc 0) (.mkL (.comp 1 [1,3] [0] (.rng1 (.loc 2)) (.cmp .NotEq (.loc 0) (.loc 1)) (.tup (.cons (.tup (.cons (.loc 1) .nil)) (.cons (.loc 0) (.cons (.mkT (.val (.loc 2))) .nil))))))) (.ret (.con (D.bl false)) .nil) .nil (.expr (.clr (.loc 0)) (.ret (.con (D.bl true)) .nil)))),none⟩
noncomputable def c_law:Fn:=⟨1,18,(.asg 1 (.bin .Add (.con (D.int 1)) (.bin .Mod (.call 0 0 (.cons (.loc 0) (.cons (.con (D.int 0)) .nil))) (.con (D.int 7)))) (.asg 2 (.bin .Mod (.bin .FloorDiv (.call 0 0 (.cons (.loc 0) (.cons (.con (D.int 0)) .nil))) (.con (D.int 7))) (.loc 1)) (.asg 3 (.bin .Add (.con (D.int 1)) (.bin .Mod (.bin .FloorDiv (.call 0 0 (.cons (.loc 0) (.cons (.con (D.int 0)) .nil))) (.con (D.int 49))) (.con (D.int 8)))) (.asg 4 (.mkL (.comp 1 [0] [0] (.rng1 (.con (D.int 5))) (.tst (.con (D.bl true))) (.call 1 0 (.cons (.call 0 0 (.cons (.loc 1) (.cons (.bin .Add (.con (D.int 1)) (.loc 0)) .nil))) .nil)))) (.expr (.mt .append (.loc 4) (.cons (.ix (.loc 4) (.bin .Mod (.bin .FloorDiv (.call 0 0 (.cons (.loc 0) (.cons (.con (D.int 1)) .nil))) (.con (D.int 3))) (.con (D.int 5)))) .nil)) (.asg 5 (.mk 0 8 "FloodHand" 0 (.cons (.loc 2) (.cons (.loc 1) (.cons (.loc 3) (.cons (.ix (.loc 4) (.con (D.int 0))) .nil))))) (.ifS (.or (.nt (.tst (.isc [0] "Hand" (.loc 5)))) (.cmp .NotEq (.lst (.cons (.fld (.loc 5) "number") (.cons (.fld (.loc 5) "many") (.cons (.fld (.loc 5) "rounds") .nil)))) (.lst (.cons (.loc 2) (.cons (.loc 1) (.cons (.loc 3) .nil)))))) (.ret (.con (D.bl false)) .nil) .nil (.asg 6 (.lst (.cons (.ix (.loc 4) (.con (D.int 0))) .nil)) (.asg 7 (.lst .nil) (.asg 8 (.con D.non) (.asg 9 (.lst .nil) (.forS [10] (.rng2 (.con (D.int 1)) (.bin .Add (.loc 3) (.con (D.int 1)))) (.ifS (.or (.nt (.tst (.call 5 0 (.cons (.loc 5) (.cons (.loc 6) (.cons (.loc 7) (.cons (.loc 8) .nil))))))) (.nt (.tst (.callW 6 0 (.cons (.meth "say" [(0,15)] (.loc 5) (.cons (.loc 10) .nil)) (.cons (.loc 2) (.cons (.loc 1) (.cons (.loc 6) .nil)))))))) (.ret (.con (D.bl false)) .nil) .nil (.asg 11 (.call 2 0 (.cons (.loc 0) (.cons (.loc 10) (.cons (.loc 2) (.cons (.loc 1) (.cons (.loc 4) .nil)))))) (.asg 12 (.mkL (.comp 1 [] [0] (.val (.loc 11)) (.cmp .IsNot (.ix (.loc 0) (.con (D.int 1))) (.con D.non)) (.loc 0))) (.asg 13 (.mkT (.val (.srt (.bin .Add (.lst (.cons (.loc 2) .nil)) (.mkL (.comp 1 [] [0] (.val (.loc 12)) (.tst (.con (D.bl true))) (.ix (.ix (.loc 0) (.con (D.int 0))) (.con (D.int 0))))))))) (.expr (.mt .append (.loc 9) (.cons (.tup (.cons (.meth "known" [(0,13)] (.loc 5) .nil) (.cons (.mkL (.val (.loc 6))) (.cons (.meth "heard_by" [(0,12)] (.loc 5) .nil) (.cons (.mkL (.val (.loc 7))) .nil))))) .nil)) (.asg 14 (.mkL (.val (.loc 11))) (.ifS (.or (.cmp .IsNot (.meth "hear" [(0,11)] (.loc 5) (.cons (.loc 10) (.cons (.loc 14) .nil))) (.con D.non)) (.cmp .NotEq (.loc 14) (.loc 11))) (.ret (.con (D.bl false)) .nil) .nil (.expr (.clr (.loc 14)) (.forS [15,16] (.val (.loc 12)) (.asg 6 (.sset (.bin .Add (.loc 6) (.mkL (.val (.loc 16))))) .nil) (.asg 17 (.ix (.bin .Add (.lst (.cons (.mkT (.rng1 (.loc 1))) .nil)) (.loc 7)) (.neg (.con (D.int 1)))) (.ifS (.and (.cmp .Is (.loc 8) (.con D.non)) (.or (.cmp .Eq (.loc 13) (.loc 17)) (.cmp .Eq (.loc 10) (.loc 3)))) (.asg 8 (.tup (.cons (.loc 10) (.cons (.ix (.loc 6) (.con (D.int 0))) .nil))) .nil) .nil (.expr (.mt .append (.loc 7) (.cons (.loc 13) .nil)) .nil)))))))))))) (.ifS (.nt (.tst (.all (.comp 1 [] [0] (.val (.loc 9)) (.tst (.con (D.bl true))) (.and (.cmp .Eq (.ix (.loc 0) (.con (D.int 0))) (.ix (.loc 0) (.con (D.int 1)))) (.cmp .Eq (.ix (.loc 0) (.con (D.int 2))) (.ix (.loc 0) (.con (D.int 3))))))))) (.ret (.con (D.bl false)) .nil) .nil (.ret (.call 5 0 (.cons (.loc 5) (.cons (.loc 6) (.cons (.loc 7) (.cons (.loc 8) .nil))))) .nil)))))))))))))),none⟩
noncomputable def c_FloodHand_init:Fn:=⟨5,5,(.expr (.callC 16 "Hand" "__init__" (.cons (.loc 0) (.cons (.loc 1) (.cons (.loc 2) (.cons (.loc 3) .nil))))) (.setF (.loc 0) "wordbook" (.dic1 (.loc 4) (.con (D.bl true))) (.setF (.loc 0) "hearings" (.lst .nil) (.setF (.loc 0) "end" (.con D.non) .nil)))),none⟩
noncomputable def c_FloodHand_ended:Fn:=⟨1,1,(.ret (.fld (.loc 0) "end") .nil),none⟩
noncomputable def c_FloodHand_ending:Fn:=⟨1,1,(.ret (.ite (.cmp .Is (.fld (.loc 0) "end") (.con D.non)) (.con (D.int 0)) (.ix (.fld (.loc 0) "end") (.con (D.int 1)))) .nil),none⟩
noncomputable def c_FloodHand_hear:Fn:=⟨3,7,(.asg 3 (.ite (.tst (.fld (.loc 0) "hearings")) (.ix (.fld (.loc 0) "hearings") (.neg (.con (D.int 1)))) (.mkT (.rng1 (.fld (.loc 0) "many")))) (.asg 4 (.lst (.cons (.fld (.loc 0) "number") .nil)) (.forS [5,6] (.val (.loc 2)) (.ifS (.cmp .IsNot (.loc 6) (.con D.non)) (.expr (.mt .append (.loc 4) (.cons (.ix (.loc 5) (.neg (.con (D.int 1)))) .nil)) (.expr (.meth "learn" [(0,14)] (.loc 0) (.cons (.loc 6) .nil)) .nil)) .nil .nil) (.expr (.mt .append (.fld (.loc 0) "hearings") (.cons (.mkT (.val (.sset (.loc 4)))) .nil)) (.ifS (.and (.cmp .Is (.fld (.loc 0) "end") (.con D.non)) (.or (.cmp .Eq (.ix (.fld (.loc 0) "hearings") (.neg (.con (D.int 1)))) (.loc 3)) (.cmp .GtE (.loc 1) (.fld (.loc 0) "rounds")))) (.setF (.loc 0) "end" (.tup (.cons (.loc 1) (.cons (.min1 (.meth "known" [(0,13)] (.loc 0) .nil)) .nil))) .nil) .nil .nil))))),none⟩
noncomputable def c_FloodHand_heard_by:Fn:=⟨1,1,(.ret (.mkL (.val (.fld (.loc 0) "hearings"))) .nil),none⟩
noncomputable def c_FloodHand_known:Fn:=⟨1,1,(.ret (.dsrt (.fld (.loc 0) "wordbook")) .nil),none⟩
noncomputable def c_FloodHand_learn:Fn:=⟨2,3,(.forS [2] (.val (.loc 1)) (.setIx (.fld (.loc 0) "wordbook") (.loc 2) (.con (D.bl true)) .nil) .nil),none⟩
noncomputable def c_FloodHand_say:Fn:=⟨2,3,(.asg 2 (.mkT (.val (.meth "known" [(0,13)] (.loc 0) .nil))) (.ret (.mkL (.comp 1 [2,0] [0] (.rng1 (.fld (.loc 0) "many")) (.cmp .NotEq (.loc 0) (.fld (.loc 2) "number")) (.tup (.cons (.tup (.cons (.fld (.loc 2) "number") .nil)) (.cons (.loc 0) (.cons (.loc 1) .nil)))))) .nil)),none⟩
noncomputable def c_Hand_init:Fn:=⟨4,4,(.setF (.loc 0) "number" (.loc 1) (.setF (.loc 0) "many" (.loc 2) (.setF (.loc 0) "rounds" (.loc 3) .nil))),none⟩
noncomputable def prog:List Fn:=[c_law_cell_at,c_law_word,c_law_letters,c_law_whole,c_law_end,c_law_state,c_law_said,c_law,c_FloodHand_init,c_FloodHand_ended,c_FloodHand_ending,c_FloodHand_hear,c_FloodHand_heard_by,c_FloodHand_known,c_FloodHand_learn,c_FloodHand_say,c_Hand_init]
noncomputable def top (i:Nat):Stmt:=PySem.Challenge.pw_traitorround_k62_a_flood_hand.main.body.getD i (.Pass ⟨0,0,0,0⟩)
noncomputable abbrev zaz:Stmt:=top 6
noncomputable abbrev zaS:Stmt:=top 7
noncomputable abbrev zay:Stmt:=top 8
noncomputable abbrev zaJ:Stmt:=top 9
noncomputable abbrev za3:Stmt:=top 10
noncomputable abbrev zaK:Stmt:=top 11
noncomputable abbrev zaT:Stmt:=top 12
noncomputable abbrev zbO:Stmt:=top 13
noncomputable def zel (s:Stmt)(j:Nat):Stmt:=match s with|.ClassDef _ _ _ b _ _ _ _ _ _ _=>b.getD j (.Pass ⟨0,0,0,0⟩)|s=>s
noncomputable abbrev zar:Stmt:=zel (top 4) 0
noncomputable abbrev zao:Stmt:=zel (top 4) 6
noncomputable abbrev zak:Stmt:=zel (top 4) 7
noncomputable abbrev zas:Stmt:=zel (top 4) 2
noncomputable abbrev zaj:Stmt:=zel (top 4) 5
noncomputable abbrev zan:Stmt:=zel (top 4) 4
noncomputable abbrev zam:Stmt:=zel (top 4) 3
noncomputable abbrev zau:Stmt:=zel (top 4) 1
noncomputable abbrev zaL:Stmt:=zel (top 2) 0
noncomputable def tab:Tab:=⟨["all","bool","int","isinstance","len","list","min","range","set","sorted","tuple"],[("STILL",(D.int 0))],[("_law_cell_at",["_law_script","_law_k"],0),("_law_word",["_law_cell"],0),("_law_letters",["_law_script","_law_turn","_law_number","_law_many","_law_words"],0),("_law_whole",["_law_found"],0),("_law_end",["_law_found","_law_due"],0),("_law_state",["_law_one","_law_known","_law_hearings","_law_end_here"],0),("_law_said",["_law_found","_law_number","_law_many","_law_known"],0),("law",["_law_script"],0)],["FloodHand"],["number","many","rounds","wordbook","hearings","end"],[(0,"ended",9),(0,"ending",10),(0,"hear",11),(0,"heard_by",12),(0,"known",13),(0,"learn",14),(0,"say",15)],[(0,8,0)],[("Hand","__init__",16)],[("Hand",[0])]⟩
theorem zcB:FnScope ["self","number","many","rounds","word"] ["self","number","many","rounds","word"] (zad zar):=⟨rfl,rfl,rfl,by decide +kernel,rfl,by decide +kernel,by decide +kernel⟩
theorem zcJ:chkS tab c_FloodHand_init.body ["self","number","many","rounds","word"] (zad zar) (zai zar)=true:=by decide +kernel
theorem zcn:FnScope ["self"] ["self"] (zad zao):=⟨rfl,rfl,rfl,by decide +kernel,rfl,by decide +kernel,by decide +kernel⟩
theorem zcx:chkS tab c_FloodHand_ended.body ["self"] (zad zao) (zai zao)=true:=by decide +kernel
theorem zcc:FnScope ["self"] ["self"] (zad zak):=⟨rfl,rfl,rfl,by decide +kernel,rfl,by decide +kernel,by decide +kernel⟩
theorem zcj:chkS tab c_FloodHand_ending.body ["self"] (zad zak) (zai zak)=true:=by decide +kernel
theorem zcC:FnScope ["self","turn","letters","before","writers","path","words"] ["self","turn","letters"] (zad zas):=⟨rfl,rfl,rfl,by decide +kernel,rfl,by decide +kernel,by decide +kernel⟩
theorem zcK:chkS tab c_FloodHand_hear.body ["self","turn","letters","before","writers","path","words"] (zad zas) (zai zas)=true:=by decide +kernel
theorem zbL:FnScope ["self"] ["self"] (zad zaj):=⟨rfl,rfl,rfl,by decide +kernel,rfl,by decide +kernel,by decide +kernel⟩
theorem zbW:chkS tab c_FloodHand_heard_by.body ["self"] (zad zaj) (zai zaj)=true:=by decide +kernel
theorem zcm:FnScope ["self"] ["self"] (zad zan):=⟨rfl,rfl,rfl,by decide +kernel,rfl,by decide +kernel,by decide +kernel⟩
theorem zcw:chkS tab c_FloodHand_known.body ["self"] (zad zan) (zai zan)=true:=by decide +kernel
theorem zcl:FnScope ["self","words","word"] ["self","words"] (zad zam):=⟨rfl,rfl,rfl,by decide +kernel,rfl,by decide +kernel,by decide +kernel⟩
theorem zcv:chkS tab c_FloodHand_learn.body ["self","words","word"] (zad zam) (zai zam)=true:=by decide +kernel
theorem zcR:FnScope ["self","turn","words"] ["self","turn"] (zad zau):=⟨rfl,rfl,rfl,by decide +kernel,rfl,by decide +kernel,by decide +kernel⟩
theorem zcT:chkS tab c_FloodHand_say.body ["self","turn","words"] (zad zau) (zai zau)=true:=by decide +kernel
theorem zeG:FnScope ["self","number","many","rounds"] ["self","number","many","rounds"] (zad zaL):=⟨rfl,rfl,rfl,by decide +kernel,rfl,by decide +kernel,by decide +kernel⟩
theorem ze7:chkS tab c_Hand_init.body ["self","number","many","rounds"] (zad zaL) (zai zaL)=true:=by decide +kernel
theorem zdB:FnScope ["_law_script","_law_k"] ["_law_script","_law_k"] (zad zaz):=⟨rfl,rfl,rfl,by decide +kernel,rfl,by decide +kernel,by decide +kernel⟩
theorem zdG:chkS tab c_law_cell_at.body ["_law_script","_law_k"] (zad zaz) (zai zaz)=true:=by decide +kernel
theorem zfh:FnScope ["_law_cell"] ["_law_cell"] (zad zaS):=⟨rfl,rfl,rfl,by decide +kernel,rfl,by decide +kernel,by decide +kernel⟩
theorem zfB:chkS tab c_law_word.body ["_law_cell"] (zad zaS) (zai zaS)=true:=by decide +kernel
theorem zdA:FnScope ["_law_script","_law_turn","_law_number","_law_many","_law_words","_law_found","_law_others","_law_k","_law_cell","_law_some"] ["_law_script","_law_turn","_law_number","_law_many","_law_words"] (zad zay):=⟨rfl,rfl,rfl,by decide +kernel,rfl,by decide +kernel,by decide +kernel⟩
theorem zdF:chkS tab c_law_letters.body ["_law_script","_law_turn","_law_number","_law_many","_law_words","_law_found","_law_others","_law_k","_law_cell","_law_some"] (zad zay) (zai zay)=true:=by decide +kernel
theorem zeE:FnScope ["_law_found"] ["_law_found"] (zad zaJ):=⟨rfl,rfl,rfl,by decide +kernel,rfl,by decide +kernel,by decide +kernel⟩
theorem ze5:chkS tab c_law_whole.body ["_law_found"] (zad zaJ) (zai zaJ)=true:=by decide +kernel
theorem zgA:FnScope ["_law_found","_law_due"] ["_law_found","_law_due"] (zad za3):=⟨rfl,rfl,rfl,by decide +kernel,rfl,by decide +kernel,by decide +kernel⟩
theorem zgV:chkS tab c_law_end.body ["_law_found","_law_due"] (zad za3) (zai za3)=true:=by decide +kernel
theorem zeF:FnScope ["_law_one","_law_known","_law_hearings","_law_end_here","_law_due","_law_told"] ["_law_one","_law_known","_law_hearings","_law_end_here"] (zad zaK):=⟨rfl,rfl,rfl,by decide +kernel,rfl,by decide +kernel,by decide +kernel⟩
theorem ze6:chkS tab c_law_state.body ["_law_one","_law_known","_law_hearings","_law_end_here","_law_due","_law_told"] (zad zaK) (zai zaK)=true:=by decide +kernel
theorem zfi:FnScope ["_law_found","_law_number","_law_many","_law_known"] ["_law_found","_law_number","_law_many","_law_known"] (zad zaT):=⟨rfl,rfl,rfl,by decide +kernel,rfl,by decide +kernel,by decide +kernel⟩
theorem zfC:chkS tab c_law_said.body ["_law_found","_law_number","_law_many","_law_known"] (zad zaT) (zai zaT)=true:=by decide +kernel
theorem zjP:FnScope ["_law_script","_law_many","_law_number","_law_last","_law_words","_law_one","_law_known","_law_hearings","_law_end_here","_law_held","_law_turn","_law_letters_here","_law_some","_law_now","_law_handed","_law_path","_law_told","_law_before"] ["_law_script"] (zad zbO):=⟨rfl,rfl,rfl,by decide +kernel,rfl,by decide +kernel,by decide +kernel⟩
theorem zj7:chkS tab c_law.body ["_law_script","_law_many","_law_number","_law_last","_law_words","_law_one","_law_known","_law_hearings","_law_end_here","_law_held","_law_turn","_law_letters_here","_law_some","_law_now","_law_handed","_law_path","_law_told","_law_before"] (zad zbO) (zai zbO)=true:=by decide +kernel
end
section
open R
theorem zdZ {P:List Fn}{F:Fn}{f n:Nat}{ds:List D}{S:R.St}{Q:D->R.St->Prop}(h:P[f]?=some F)(hl:ds.length=F.np)(w:W (exS (callF P n) F.body (zbk F ds) S) fun r T=>match r with|.nx _=>Q .non T|.rt d=>Q d T)(hp:F.prim=none:=by rfl):W (appW (callF P (n+1)) f ds S) Q:=by
 unfold appW
 simp only[callF,h,hl,hp,if_true,zac]
 refine w.mono fun r T q=>?_
 cases r<;>exact q
theorem zdx {P:List Fn}{F:Fn}{f n:Nat}{ds:List D}{S S':R.St}{d:D}(h:P[f]?=some F)(hl:ds.length=F.np)(w:wS (callF P n) F.body (zbk F ds) S fun r T=>match r with|.nx _=>D.non=d/\T=S'|.rt z=>z=d/\T=S')(hp:F.prim=none:=by rfl):appW (callF P (n+1)) f ds S=.ok d S':=by
 refine W.eq (zdZ h hl ((wS_W _ w).mono fun r T q=>?_) hp)
 cases r<;>exact q
theorem zaP {S:R.St}{a c:Nat}{fs:List (PySem.Str × D)}(e:S.get a=some (.ins c fs)):zbs S (.ref a)=some (c,fs):=by
 unfold zbs;dsimp only;rw[e]
theorem zdS {S:R.St}{a c:Nat}{fs:List (PySem.Str × D)}{f:PySem.Str}{v:D}(e:S.get a=some (.ins c fs))(g:fs.lookup f=some v):((zbs S (.ref a)).bind fun p=>p.2.lookup f)=some v:=by
 rw[zaP e];exact g
theorem plen (S:R.St)(o:MO):(S.push o).len=S.len+1:=by simp[St.push,St.len];omega
structure Mv (A:List Nat) (S T:R.St):Prop where
 frz:T.frz=S.frz
 lk:T.lk=S.lk
 len:S.len<=T.len
 old:∀m o,m∉A->S.get m=some o->T.get m=some o
theorem Mv.refl (A:List Nat)(S:R.St):Mv A S S:=⟨rfl,rfl,Nat.le_refl _,fun _ _ _ h=>h⟩
theorem Mv.trans {A:List Nat}{S T U:R.St}(a:Mv A S T)(b:Mv A T U):Mv A S U:=⟨b.frz.trans a.frz,b.lk.trans a.lk,Nat.le_trans a.len b.len,fun m o h e=>b.old m o h (a.old m o h e)⟩
theorem Mv.push (A:List Nat)(S:R.St)(o:MO):Mv A S (S.push o):=⟨rfl,rfl,by rw[plen];omega,fun _ _ _ e=>zae e⟩
theorem Mv.up {A B:List Nat}{S T:R.St}(h:Mv A S T)(s:∀m,m∈A->m∈B):Mv B S T:=⟨h.frz,h.lk,h.len,fun m o hm e=>h.old m o (fun z=>hm (s m z)) e⟩
structure Fr (S:R.St) (a:Nat):Prop where
 f:S.frz.length<=a
 k:S.lk.contains a=false
theorem Fr.mv {A:List Nat}{S T:R.St}{a:Nat}(h:Fr S a)(v:Mv A S T):Fr T a:=⟨by rw[v.frz];exact h.f,by rw[v.lk];exact h.k⟩
theorem zc0 {S:R.St}{a c:Nat}{fs gs:List (PySem.Str × D)}{f:PySem.Str}{v:D}(e:S.get a=some (.ins c fs))(hf:Fr S a)(hl:fs.length<1000)(hg:zhx f v fs=gs):∃T,zbI S (.ref a) f v=some T/\Mv [a] S T/\T.get a=some (.ins c gs):=by
 obtain⟨T,h1,h2,h3,h4,h5,h6⟩:=zfW (S:=S) (l:=a) (.ins c gs) hf.f hf.k
 refine⟨T,?_,⟨h2,h3,by omega,fun m o hm e=>by rw[h5 m (by simpa using hm)];exact e⟩,h6 (zbe e)⟩
 unfold zbI
 dsimp only
 rw[e]
 dsimp only
 rw[if_pos hl,hg,h1]
theorem zaY {cf:CF}{i:Nat}{e:CE}{r:CS}{δ:Ev}{S S':R.St}{d:D}{Q:Fl->R.St->Prop}(h:evE cf e δ S=.ok d S')(w:W (exS cf r (δ.set i (some d)) S') Q):W (exS cf (.asg i e r) δ S) Q:=by rw[exS,h,zbf];exact w
theorem zcz {cf:CF}{i:Nat}{e:CE}{r:CS}{δ:Ev}{S:R.St}{Q:Fl->R.St->Prop}(h:W (evE cf e δ S) fun d S'=>W (exS cf r (δ.set i (some d)) S') Q):W (exS cf (.asg i e r) δ S) Q:=by rw[exS,zac];exact h
theorem zct {cf:CF}{e:CE}{r:CS}{δ:Ev}{S:R.St}{Q:Fl->R.St->Prop}(h:W (evE cf e δ S) fun d S'=>W (exS cf r δ S') Q):W (exS cf (.expr e r) δ S) Q:=by rw[exS,zac];exact h
theorem zcW {cf:CF}{c:CE}{u r:CS}{δ:Ev}{S:R.St}{Q:Fl->R.St->Prop}(w:W (evT cf c δ S) fun k S1=>k=false/\W (exS cf r δ S1) Q):W (exS cf (.ifS c u .nil r) δ S) Q:=by
 rw[exS,zac]
 refine w.mono fun k S1 hk=>?_
 obtain⟨rfl,w1⟩:=hk
 simp only[exS,Bool.false_eq_true,if_false,zbf]
 exact w1
theorem zhp {cf:CF}{e:CE}{r:CS}{δ:Ev}{S:R.St}{Q:Fl->R.St->Prop}(h:W (evE cf e δ S) fun d S'=>Q (.rt d) S'):W (exS cf (.ret e r) δ S) Q:=by rw[exS,zac];exact h.mono fun d S' q=>q
theorem znF {P:List Fn}{F:Fn}{f n:Nat}{ds:List D}{S:R.St}{Q:D->R.St->Prop}(h:P[f]?=some F)(hl:ds.length=F.np)(hp:F.prim=none)(w:W (exS (callF P n) F.body (zbk F ds) S) fun r T=>match r with|.nx _=>Q .non T|.rt d=>Q d T):W (callF P (n+1) f ds S) Q:=by
 simp only[callF,h,hl,hp,if_true,zac]
 refine w.mono fun r T q=>?_
 cases r<;>exact q
theorem zal (S:R.St)(o:MO):(S.push o).get S.len=some o:=zaD S o
theorem zhJ {A:List Nat}{T U:R.St}{o:MO}(u:Mv (T.len::A) (T.push o) U):Mv A T U:=
 ⟨u.frz,u.lk,by have:=u.len;rw[plen] at this;omega,fun m x hm e=>u.old m x (by
  intro z
  rcases List.mem_cons.mp z with z|z
  · have:=zbe e;omega
  · exact hm z) (zae e)⟩
theorem zcp {T:R.St}{l:Nat}{o u:MO}(hf:Fr T l)(e:T.get l=some o):∃U,T.put l u=some U/\Mv [l] T U/\U.get l=some u:=by
 obtain⟨U,h1,h2,h3,h4,h5,h6⟩:=zfW (S:=T) (l:=l) u hf.f hf.k
 exact⟨U,h1,⟨h2,h3,by omega,fun m x hm e=>by rw[h5 m (by simpa using hm)];exact e⟩,h6 (zbe e)⟩
noncomputable abbrev pD (p:List Int):D:=.tup (p.map .int)
noncomputable def kvD (K:List Int):List (Int × D):=K.map fun k=>(k,.bl true)
noncomputable def eD:Option (Int × Int)->D|none=>.non|some e=>.tup [.int e.1,.int e.2]
noncomputable def hD (i m r:Int)(wb hr:Nat)(e:Option (Int × Int)):MO:=.ins 0 [("number",.int i),("many",.int m),("rounds",.int r),("wordbook",.ref wb),("hearings",.ref hr),("end",eD e)]
noncomputable def ad (K:List Int)(k:Int):List Int:=if k∈K then K else K++[k]
noncomputable def ads (K ws:List Int):List Int:=ws.foldl ad K
theorem zjR:∀(K:List Int) (k:Int),putI (kvD K) k (.bl true)=kvD (ad K k)
 | [],k=>by simp[ad,kvD,putI]
 | j :: K, k => by
   have ih:=zjR K k
   unfold kvD at ih⊢
   rw[List.map_cons]
   unfold putI
   by_cases z:j=k
   · subst z;simp[ad]
   · rw[if_neg z,ih]
     unfold ad
     by_cases h:k∈K
     · rw[if_pos h,if_pos (List.mem_cons_of_mem _ h)];rfl
     · rw[if_neg h,if_neg (by rintro (_|⟨_,y⟩);exact z rfl;exact h y)];rfl
structure Sb (ws K:List Int):Prop where
 nd:K.Nodup
 sub:∀x∈K,x∈ws
theorem zcV:∀{K ws:List Int},K.Nodup->(∀x∈K,x∈ws)->K.length<=ws.length
 | [],ws,_,_=>Nat.zero_le _
 | x :: K, ws, hn, hs => by
   have hn':=List.nodup_cons.mp hn
   have hx:=hs x List.mem_cons_self
   have:=zcV (ws:=ws.erase x) hn'.2 fun y hy=>(List.mem_erase_of_ne (fun e:y=x=>hn'.1 (e▸hy))).mpr (hs y (List.mem_cons_of_mem _ hy))
   rw[List.length_erase_of_mem hx] at this
   have h2:=List.length_pos_of_mem hx
   rw[List.length_cons];omega
theorem Sb.len {ws K:List Int}(h:Sb ws K):K.length<=ws.length:=zcV h.nd h.sub
theorem Sb.ad {ws K:List Int}{k:Int}(h:Sb ws K)(hk:k∈ws):Sb ws (ad K k):=by
 unfold K62.ad
 split
 · exact h
 · rename_i n
   refine⟨List.nodup_append.mpr ⟨h.nd,by simp,fun a ha b hb e=>?_⟩,fun x hx=>?_⟩
   · simp only[List.mem_singleton] at hb
     subst hb;subst e;exact n ha
   · rcases List.mem_append.mp hx with z|z
     · exact h.sub x z
     · simp only[List.mem_singleton] at z;subst z;exact hk
theorem Sb.ads {ws:List Int}:∀{p K:List Int},Sb ws K->(∀w∈p,w∈ws)->Sb ws (ads K p)
 | [],_,h,_=>h
 |w::p,K,h,hp=>Sb.ads (p:=p) (h.ad (hp w List.mem_cons_self)) fun x hx=>hp x (List.mem_cons_of_mem _ hx)
theorem znb {K:List Int}{k x:Int}:x∈ad K k↔x∈K\/x=k:=by
 unfold ad
 split
 · rename_i h
   exact⟨.inl,fun z=>z.elim id fun e=>e▸h⟩
 · simp
theorem zfs {x:Int}:∀{p K:List Int},x∈ads K p↔x∈K\/x∈p
 | [],K=>by simp[ads]
 | w :: p, K => by
   show x∈ads (ad K w) p↔_
   rw[zfs (p:=p),znb,List.mem_cons,or_assoc]
theorem zlA {S:R.St}{l:Nat}{K:List Int}(h:S.get l=some (.dic (kvD K))):dicI S (.ref l)=some K:=by
 unfold dicI
 dsimp only
 rw[h]
 simp[kvD,List.map_map,Function.comp_def]
theorem zly {S:R.St}{l:Nat}{K:List Int}{k:Int}(h:S.get l=some (.dic (kvD K)))(hf:Fr S l)(hl:K.length<=1000):∃T,dPut S (.ref l) (.int k) (.bl true)=some T/\Mv [l] S T/\T.get l=some (.dic (kvD (ad K k))):=by
 obtain⟨T,h1,v,g⟩:=zcp (u:=.dic (kvD (ad K k))) hf h
 refine⟨T,?_,v,g⟩
 unfold dPut
 dsimp only
 rw[h]
 dsimp only
 rw[show zcH (.int k)=some k from rfl,Option.bind_some,if_pos (by simp[kvD];omega),zjR,h1]
section
variable {S:R.St} {a wb hr n:Nat} {i m r:Int} {en:Option (Int × Int)} {K ws:List Int}
theorem zcY (e:S.get a=some (hD i m r wb hr en)):((zbs S (.ref a)).bind fun p=>p.2.lookup ("number":PySem.Str))=some (.int i):=zdS e rfl
theorem zie (e:S.get a=some (hD i m r wb hr en)):((zbs S (.ref a)).bind fun p=>p.2.lookup ("many":PySem.Str))=some (.int m):=zdS e rfl
theorem zge (e:S.get a=some (hD i m r wb hr en)):((zbs S (.ref a)).bind fun p=>p.2.lookup ("rounds":PySem.Str))=some (.int r):=zdS e rfl
theorem zdU (e:S.get a=some (hD i m r wb hr en)):((zbs S (.ref a)).bind fun p=>p.2.lookup ("wordbook":PySem.Str))=some (.ref wb):=zdS e rfl
theorem zbj (e:S.get a=some (hD i m r wb hr en)):((zbs S (.ref a)).bind fun p=>p.2.lookup ("hearings":PySem.Str))=some (.ref hr):=zdS e rfl
theorem zif (e:S.get a=some (hD i m r wb hr en)):((zbs S (.ref a)).bind fun p=>p.2.lookup ("end":PySem.Str))=some (eD en):=zdS e rfl
theorem zaH (l:List Int):(zag l).length=l.length:=(zaA l).length_eq
theorem zeg (e:S.get a=some (hD i m r wb hr en))(g:S.get wb=some (.dic (kvD K)))(hl:K.length<64):appW (callF prog (n+1)) 13 [.ref a] S=.ok (.ref S.len) (S.push (.lst ((zag K).map .int))):=by
 refine zdx (F:=c_FloodHand_known) rfl rfl ?_
 conv=>whnf
 refine zaa (zdU e) ?_
 conv=>whnf
 refine zaa (zlA g) ?_
 conv=>whnf
 refine zab hl ?_
 conv=>whnf
 refine zab (by rw[List.length_map,zaH];omega) ?_
 conv=>whnf
 exact⟨rfl,rfl⟩
theorem zhN {ds:List D}(e:S.get a=some (hD i m r wb hr en))(g:S.get hr=some (.lst ds))(hl:ds.length<=1000):appW (callF prog (n+1)) 12 [.ref a] S=.ok (.ref S.len) (S.push (.lst ds)):=by
 refine zdx (F:=c_FloodHand_heard_by) rfl rfl ?_
 conv=>whnf
 refine zaa (zbj e) ?_
 conv=>whnf
 refine zaa (g) ?_
 conv=>whnf
 refine zab (by show ds.length<=_;omega) ?_
 conv=>whnf
 exact⟨rfl,rfl⟩
theorem zlg (e:S.get a=some (hD i m r wb hr en)):appW (callF prog (n+1)) 9 [.ref a] S=.ok (eD en) S:=by
 refine zdx (F:=c_FloodHand_ended) rfl rfl ?_
 conv=>whnf
 refine zaa (zif e) ?_
 conv=>whnf
 exact⟨rfl,rfl⟩
noncomputable def dueZ:Option (Int × Int)->Int|none=>0|some e=>e.2
theorem zf5 (e:S.get a=some (hD i m r wb hr en)):appW (callF prog (n+1)) 10 [.ref a] S=.ok (.int (dueZ en)) S:=by
 refine zdx (F:=c_FloodHand_ending) rfl rfl ?_
 cases en with
 | none =>
   conv=>whnf
   refine zaa (zif e) ?_
   conv=>whnf
   exact⟨rfl,rfl⟩
 | some q =>
   conv=>whnf
   refine zaa (zif e) ?_
   conv=>whnf
   refine zaa (zif e) ?_
   conv=>whnf
   refine zaa (zfH) ?_
   conv=>whnf
   exact⟨rfl,rfl⟩
end
section
variable {S:R.St} {a wb hr n:Nat} {i m r:Int} {en:Option (Int × Int)} {K ws:List Int}
theorem zhP {T:R.St}{l:List Nat}(h:T.lk=l):({T with lk:=l}:R.St)=T:=by subst h;rfl
theorem zjG {K p:List Int}{w:Int}:ads K (p++[w])=ad (ads K p) w:=by unfold ads;rw[List.foldl_append];rfl
theorem zle {p:List Int}(e:S.get a=some (hD i m r wb hr en))(g:S.get wb=some (.dic (kvD K)))(hf:Fr S wb)(hs:Sb ws K)(hw:ws.length<=1000)(hp:∀w∈p,w∈ws) :
  W (appW (callF prog (n+1)) 14 [.ref a,pD p] S) fun d T=>Mv [wb] S T/\T.get wb=some (.dic (kvD (ads K p))):=by
 have ne:a≠wb:=fun z=>by rw[z,g] at e;cases e
 refine zdZ (F:=c_FloodHand_learn) rfl rfl (wS_W _ ?_)
 conv=>whnf
 refine zaV ?_
 refine W.mono (zbi (fun j δ T=>∃v,δ=[some (.ref a),some (pD p),v]/\Mv [wb] S T/\T.get wb=some (.dic (kvD (ads K (p.take j))))) (fun _ _=>False) _ 0 _ _ ⟨none,rfl,Mv.refl _ _,by rw[List.take_zero];exact g⟩ ?_) ?_
 · rintro j z δ T hz ⟨v,rfl,mv,gt⟩
   rw[Nat.zero_add] at gt⊢
   have hz:(p.map D.int)[j]?=some z:=hz
   rw[List.getElem?_map] at hz
   cases ej:p[j]? with
   |none=>rw[ej] at hz;cases hz
   | some w =>
     rw[ej] at hz
     cases hz
     refine⟨_,rfl,wS_W _ ?_⟩
     conv=>whnf
     refine zaa (zdU (mv.old _ _ (by simpa using ne) e)) ?_
     conv=>whnf
     have sb:Sb ws (ads K (p.take j)):=hs.ads fun x hx=>hp x (List.mem_of_mem_take hx)
     have:=sb.len
     obtain⟨U,h1,v1,g1⟩:=zly (k:=w) gt (hf.mv mv) (by omega)
     refine zaa (h1) ?_
     conv=>whnf
     refine⟨_,rfl,mv.trans v1,?_⟩
     rw[zbu ej,zjG]
     exact g1
 · rintro f T h'
   cases f with
   |rt d=>exact h'.elim
   | nx δ =>
     obtain⟨v,rfl,mv,gt⟩:=h'
     have gt:T.get wb=some (.dic (kvD (ads K (p.take (0+(p.map D.int).length))))):=gt
     rw[Nat.zero_add,List.length_map,List.take_length] at gt
     rw[zhP mv.lk]
     exact⟨mv,gt⟩
noncomputable def oths (m:Nat)(i:Int):List Int:=(hnds m).filter fun o=>!decide (o=i)
noncomputable def rowD (i:Int)(k:List Int)(o:Int):D:=.tup [.tup [.int i],.int o,pD k]
theorem zco (n:Nat):((List.range (n:Int).toNat).map fun (k:Nat)=>D.int k)=(hnds n).map D.int:=by
 rw[Int.toNat_natCast]
 unfold hnds
 rw[List.map_map];rfl
theorem zdp (m:Nat)(i:Int)(f:Int->D)(q:D->Bool)(g:D->D)(h:∀o,q (.int o) = !decide (o=i))(hg:∀o,g (.int o)=f o):(((hnds m).map D.int).filter q).map g=(oths m i).map f:=by
 unfold oths
 rw[List.filter_map,List.map_map]
 have e1:(q∘D.int)=fun o=>!decide (o=i):=funext h
 have e2:(g∘D.int)=f:=funext hg
 rw[e1,e2]
theorem zcq (m:Nat)(i:Int):(oths m i).length<=m:=by
 have:=List.length_filter_le (fun o=>!decide (o=i)) (hnds m)
 have l:(hnds m).length=m:=by simp[hnds]
 unfold oths
 omega
theorem zoB {m:Nat}{t:D}(e:S.get a=some (hD i m r wb hr en))(g:S.get wb=some (.dic (kvD K)))(hl:K.length<64)(m7:m<=7) :
  appW (callF prog (n+2)) 15 [.ref a,t] S=.ok (.ref (S.push (.lst ((zag K).map .int))).len) ((S.push (.lst ((zag K).map .int))).push (.lst ((oths m i).map (rowD i (zag K))))):=by
 refine zdx (F:=c_FloodHand_say) rfl rfl ?_
 conv=>whnf
 refine zaa (zaP e) ?_
 conv=>whnf
 refine zaa (rfl) ?_
 conv=>whnf
 refine zab rfl ?_
 conv=>whnf
 refine zax (zeg (n:=n) e g hl) ?_
 conv=>whnf
 refine zaa (zal _ _) ?_
 conv=>whnf
 refine zab (by rw[List.length_map,zaH];omega) ?_
 conv=>whnf
 have e':=zae (o:=.lst ((zag K).map D.int)) e
 refine zaa (zie e') ?_
 conv=>whnf
 refine zab (by omega) ?_
 conv=>whnf
 refine zaV ?_
 refine W.of (zaB (fun d=>match d with|.int o=>!decide (o=i)|_=>false) (fun d=>match d with|.int o=>rowD i (zag K) o|_=>d) _ none (fun z hz=>?_) (fun z hz _=>?_)) ?_
 · obtain⟨o,_,rfl⟩:=List.mem_map.mp hz
   refine W.eq (wT_W _ ?_)
   conv=>whnf
   refine zaa (zcY e') ?_
   conv=>whnf
   exact⟨rfl,rfl⟩
 · obtain⟨o,_,rfl⟩:=List.mem_map.mp hz
   refine W.eq (wE_W _ ?_)
   conv=>whnf
   refine zaa (zcY e') ?_
   conv=>whnf
   refine zab (by first|decide|omega|(simp;done)|(simp;omega)) ?_
   conv=>whnf
   refine zab (by first|decide|omega|(simp;done)|(simp;omega)) ?_
   conv=>whnf
   exact⟨rfl,rfl⟩
 · rw[zco,zdp m i (rowD i (zag K)) _ _ (fun o=>rfl) (fun o=>rfl)]
   have:=zcq m i
   refine zab (by simp;omega) ?_
   conv=>whnf
   refine zab (by simp;omega) ?_
   conv=>whnf
   exact⟨rfl,rfl⟩
end
theorem zjy {ns:List Int}(h:ns.Nodup):dedup ns=ns:=by
 unfold dedup
 suffices ∀(l acc:List Int),(acc++l).Nodup->l.foldl (fun acc x=>if acc.contains x then acc else acc++[x]) acc=acc++l from this ns [] h
 intro l
 induction l with
 |nil=>intro acc _;simp
 | cons x l ih =>
   intro acc h
   rw[List.foldl_cons]
   have hx:acc.contains x=false:=by
    have:=(List.nodup_append.mp h).2.2
    simp only[List.contains_eq_mem,decide_eq_false_iff_not]
    exact fun hm=>this x hm x List.mem_cons_self rfl
   rw[hx]
   simp only[Bool.false_eq_true,if_false]
   rw[ih (acc++[x]) (by simpa using h)]
   simp
theorem zcu (ns:List Int)(x:Int):x∈dedup ns↔x∈ns:=by
 unfold dedup
 suffices ∀(l acc:List Int),x∈l.foldl (fun acc x=>if acc.contains x then acc else acc++[x]) acc↔x∈acc\/x∈l from by simpa using this ns []
 intro l
 induction l with
 |nil=>intro acc;simp
 | cons y l ih =>
   intro acc
   rw[List.foldl_cons,ih]
   by_cases c:acc.contains y=true
   · rw[if_pos c]
     have c:y∈acc:=by simpa using c
     constructor
     · rintro (h|h)
       · exact .inl h
       · exact .inr (List.mem_cons_of_mem _ h)
     · rintro (h|h)
       · exact .inl h
       · rcases List.mem_cons.mp h with e|e
         · subst e;exact .inl c
         · exact .inr e
   · rw[if_neg c]
     simp[or_assoc]
theorem zgf:∀p q:List Int,PySem.PyData.eqvAll (p.map PySem.PyData.int) (q.map PySem.PyData.int)=decide (p=q)
 | [],[]=>by simp[PySem.PyData.eqvAll]
 | [],_::_=>by simp[PySem.PyData.eqvAll]
 |_::_,[]=>by simp[PySem.PyData.eqvAll]
 | a :: p, b :: q => by
   rw[List.map_cons,List.map_cons,PySem.PyData.eqvAll,L2.eqv_int,zgf p q]
   by_cases h:a=b<;>by_cases k:p=q<;>simp[h,k]
theorem zc7 (S:R.St)(n:Nat):∀p:List Int,(p.map D.int).mapM (pd S n)=some (p.map PySem.PyData.int)
 | []=>rfl
 | a :: p => by
   rw[List.map_cons,List.mapM_cons,zc7 S n p]
   cases n<;>rfl
theorem zhG (S:R.St)(n:Nat)(p:List Int):pd S (n+1) (pD p)=some (.tuple (p.map .int)):=by
 unfold pd
 rw[zc7];rfl
theorem zlv (S:R.St)(p q:List Int):cmpO S .Eq (pD p) (pD q)=some (decide (p=q)):=by
 show eqD S (pD p) (pD q)=_
 unfold eqD
 rw[zhG,zhG,Option.bind_some,Option.map_some,PySem.PyData.eqv,zgf]
noncomputable abbrev Ltr:=Int × Option (List Int)
noncomputable def tD:Option (List Int)->D|none=>.non|some p=>pD p
noncomputable def ltD (x:Ltr):D:=.tup [.tup [.int x.1],tD x.2]
noncomputable def lrn1 (K:List Int)(x:Ltr):List Int:=match x.2 with|none=>K|some p=>ads K p
noncomputable def lrn (K:List Int)(Ls:List Ltr):List Int:=Ls.foldl lrn1 K
noncomputable def wrs (Ls:List Ltr):List Int:=Ls.filterMap fun x=>x.2.map fun _=>x.1
noncomputable def bfZ (m:Nat)(Hs:List (List Int)):List Int:=Hs.getLast?.getD (hnds m)
theorem zc9 {S:R.St}{l:Nat}{ks:List Int}(h:S.get l=some (.lst (ks.map .int))):lstI S (.ref l)=some ks:=by
 unfold lstI
 dsimp only
 rw[h]
 exact zdi ks
noncomputable def LOk (ws:List Int)(Ls:List Ltr):Prop:=∀x∈Ls,∀p,x.2=some p->p.length<=10/\∀w∈p,w∈ws
theorem Sb.lrn {ws:List Int}:∀{Ls:List Ltr} {K:List Int},Sb ws K->LOk ws Ls->Sb ws (lrn K Ls)
 | [],_,h,_=>h
 | x :: Ls, K, h, hp => by
   refine Sb.lrn (Ls:=Ls) (K:=lrn1 K x) ?_ fun y hy=>hp y (List.mem_cons_of_mem _ hy)
   unfold lrn1
   cases e:x.2 with
   |none=>exact h
   |some p=>exact h.ads (hp x List.mem_cons_self p e).2
theorem zf6 {K:List Int}{Ls:List Ltr}{x:Ltr}:lrn K (Ls++[x])=lrn1 (lrn K Ls) x:=by unfold lrn;rw[List.foldl_append];rfl
noncomputable def wr1 (x:Ltr):List Int:=match x.2 with|none=>[]|some _=>[x.1]
theorem ziE {Ls:List Ltr}{x:Ltr}:wrs (Ls++[x])=wrs Ls++wr1 x:=by
 unfold wrs wr1
 rw[List.filterMap_append]
 cases e:x.2<;>simp[e]
theorem zfe (Ls:List Ltr):(wrs Ls).length<=Ls.length:=List.length_filterMap_le _ _
noncomputable def hdZ (l:List Int):Int:=l.headD 0
theorem zjY:∀{l:List Int},l.Pairwise (·<=·)->l≠[]->minZ l=some (hdZ l)
 | [],_,h=>absurd rfl h
 | x :: l, hp, _ => by
   unfold minZ
   cases l with
   |nil=>rfl
   | cons y l' =>
     have hp':=List.pairwise_cons.mp hp
     rw[zjY (l:=y::l') hp'.2 (by simp)]
     exact congrArg some (if_pos (hp'.1 y List.mem_cons_self))
noncomputable def nowZ (i:Int)(Ls:List Ltr):List Int:=zag (dedup (i::wrs Ls))
noncomputable def enZ (en:Option (Int × Int))(t r:Int)(now bf K:List Int):Option (Int × Int):=match en with
 |some e=>some e
 |none=>if now=bf\/r<=t then some (t,hdZ (zag K)) else none
theorem Mv.lock {A:List Nat}{S T:R.St}{l:List Nat}(h:Mv A {S with lk:=l} T):Mv A S {T with lk:=S.lk}:=⟨h.frz,rfl,h.len,fun m o hm e=>h.old m o hm e⟩
section
variable {S:R.St} {a wb hr n q:Nat} {i r t:Int} {m:Nat} {en:Option (Int × Int)} {K ws:List Int} {Hs:List (List Int)} {Ls:List Ltr}
theorem zjr {cf:CF}{d3 d4 d5 d6 d7 d8:Option D}(e:S.get a=some (hD i m r wb hr en))(g:S.get hr=some (.lst (Hs.map pD)))(m7:m<=7) :
  evE cf (.ite (.tst (.fld (.loc 0) "hearings")) (.ix (.fld (.loc 0) "hearings") (.neg (.con (D.int 1)))) (.mkT (.rng1 (.fld (.loc 0) "many")))) [some (.ref a),d3,d4,d5,d6,d7,d8] S=.ok (pD (bfZ m Hs)) S:=by
 refine W.eq (wE_W _ ?_)
 rcases List.eq_nil_or_concat Hs with rfl|⟨H0,x,rfl⟩
 · conv=>whnf
   refine zaa (zbj e) ?_
   conv=>whnf
   refine zaa (g) ?_
   conv=>whnf
   refine zaa (zie e) ?_
   conv=>whnf
   refine zab (by omega) ?_
   conv=>whnf
   refine zab (by simp;omega) ?_
   conv=>whnf
   refine⟨?_,rfl⟩
   show D.tup _=pD (hnds m)
   rw[zco]
 · rw[List.concat_eq_append] at g⊢
   rw[List.map_append] at g
   conv=>whnf
   refine zaa (zbj e) ?_
   conv=>whnf
   refine zaa (g) ?_
   conv=>whnf
   refine zkd (by simp) ?_
   conv=>whnf
   refine zaa (zbj e) ?_
   conv=>whnf
   refine zaa (g) ?_
   conv=>whnf
   refine zaa (zeu _ _) ?_
   conv=>whnf
   exact⟨by simp[bfZ],rfl⟩
end
section
variable {S:R.St} {a wb hr n q:Nat} {i r t:Int} {m:Nat} {en:Option (Int × Int)} {K ws:List Int} {Hs:List (List Int)} {Ls:List Ltr}
noncomputable def zoJ:CS:=(.ifS (.cmp .IsNot (.loc 6) (.con D.non)) (.expr (.mt .append (.loc 4) (.cons (.ix (.loc 5) (.neg (.con (D.int 1)))) .nil)) (.expr (.meth "learn" [(0,14)] (.loc 0) (.cons (.loc 6) .nil)) .nil)) .nil .nil)
noncomputable def HI (S:R.St)(a wb q L:Nat)(i t:Int)(bf K:List Int)(Ls:List Ltr)(j:Nat)(δ:Ev)(T:R.St):Prop:=∃v5 v6,δ=[some (.ref a),some (.int t),some (.ref q),some (pD bf),some (.ref L),v5,v6]/\Mv [wb,L] S T/\T.get wb=some (.dic (kvD (lrn K (Ls.take j))))/\T.get L=some (.lst ((i::wrs (Ls.take j)).map .int))
theorem znw {L j:Nat}{x:Ltr}{δ:Ev}{T:R.St}{bf:List Int}{m:Int}(e:S.get a=some (hD i m r wb hr en))(hfw:Fr S wb)(hfl:Fr S L)(ne1:a≠wb)(ne2:a≠L)(ne3:wb≠L)(hs:Sb ws K)(hw:ws.length<=1000)(ok:LOk ws Ls)(hl:Ls.length<=50)(hx:Ls[j]?=some x)(h:HI S a wb q L i t bf K Ls j δ T) :
  ∃δ',asgG [5,6] (ltD x) δ=some δ'/\W (exS (callF prog (n+1)) zoJ δ' T) fun f T'=>match f with|.nx δ2=>HI S a wb q L i t bf K Ls (j+1) δ2 T'|.rt _=>False:=by
 obtain⟨v5,v6,rfl,mv,gw,gl⟩:=h
 refine⟨[some (.ref a),some (.int t),some (.ref q),some (pD bf),some (.ref L),some (.tup [.int x.1]),some (tD x.2)],rfl,wS_W _ ?_⟩
 have sb:Sb ws (lrn K (Ls.take j)):=hs.lrn fun y hy=>ok y (List.mem_of_mem_take hy)
 have hxm:x∈Ls:=List.mem_of_getElem? hx
 have hK:lrn K (Ls.take (j+1))=lrn1 (lrn K (Ls.take j)) x:=by rw[zbu hx,zf6]
 have hW:wrs (Ls.take (j+1))=wrs (Ls.take j)++wr1 x:=by rw[zbu hx,ziE]
 obtain⟨x1,x2⟩:=x
 cases x2 with
 | none =>
   conv=>whnf
   refine⟨_,_,rfl,mv,?_,?_⟩
   · rw[hK];exact gw
   · rw[hW];simpa[wr1] using gl
 | some p =>
   conv=>whnf
   refine zaa (gl) ?_
   conv=>whnf
   refine zaa ((show atI [D.int x1] (-1)=some (.int x1) from rfl)) ?_
   conv=>whnf
   refine zaa (gl) ?_
   conv=>whnf
   have l1:=zfe (Ls.take j)
   have l2:=List.length_take_le' j Ls
   refine zab (by simp only[List.length_append,List.length_map,List.length_cons,List.length_nil];omega) ?_
   conv=>whnf
   obtain⟨U,h1,v1,g1⟩:=zcp (u:=.lst ((i::wrs (Ls.take j)).map D.int++[.int x1])) (hfl.mv mv) gl
   refine zaa (h1) ?_
   conv=>whnf
   have eU:U.get a=some (hD i m r wb hr en):=v1.old _ _ (by simpa using ne2) (mv.old _ _ (by simp[ne1,ne2]) e)
   have gU:=v1.old _ _ (by simpa using ne3) gw
   refine zaa (zaP eU) ?_
   conv=>whnf
   refine zaa (rfl) ?_
   conv=>whnf
   refine zab rfl ?_
   conv=>whnf
   refine zex ((zle (n:=n) eU gU ((hfw.mv mv).mv v1) sb hw (ok _ hxm p rfl).2).mono fun d V ⟨v2,g2⟩=>?_)
   conv=>whnf
   refine⟨_,_,rfl,(mv.trans (v1.up (by simp))).trans (v2.up (by simp)),?_,?_⟩
   · rw[hK];exact g2
   · rw[hW,v2.old _ _ (by simpa using ne3.symm) g1]
     simp[wr1]
noncomputable def zny:CS:=(.expr (.mt .append (.fld (.loc 0) "hearings") (.cons (.mkT (.val (.sset (.loc 4)))) .nil)) (.ifS (.and (.cmp .Is (.fld (.loc 0) "end") (.con D.non)) (.or (.cmp .Eq (.ix (.fld (.loc 0) "hearings") (.neg (.con (D.int 1)))) (.loc 3)) (.cmp .GtE (.loc 1) (.fld (.loc 0) "rounds")))) (.setF (.loc 0) "end" (.tup (.cons (.loc 1) (.cons (.min1 (.meth "known" [(0,13)] (.loc 0) .nil)) .nil))) .nil) .nil .nil))
theorem zku {S:R.St}{en':Option (Int × Int)}{m:Int}(e:S.get a=some (hD i m r wb hr en))(hf:Fr S a):∃T,zbI S (.ref a) "end" (eD en')=some T/\Mv [a] S T/\T.get a=some (hD i m r wb hr en'):=zc0 e hf (by simp) rfl
theorem znx {L:Nat}{d5 d6:Option D}{w:List Int}{bf:List Int}{dq:D}{m:Int}(e:S.get a=some (hD i m r wb hr en))(hfa:Fr S a)(hfh:Fr S hr)(gw:S.get wb=some (.dic (kvD K)))(gl:S.get L=some (.lst (w.map .int)))(gh:S.get hr=some (.lst (Hs.map pD)))(hl:w.length<64)(hK:K.length<64)(hK0:K≠[])(hH:Hs.length<=50) :
  W (exS (callF prog (n+1)) zny [some (.ref a),some (.int t),some dq,some (pD bf),some (.ref L),d5,d6] S) fun f T=>match f with
   |.nx _=>Mv [a,hr] S T/\T.get a=some (hD i m r wb hr (enZ en t r (zag (dedup w)) bf K))/\T.get hr=some (.lst ((Hs++[zag (dedup w)]).map pD))
   |.rt _=>False:=by
 have ne:a≠hr:=fun z=>by rw[z,gh] at e;cases e
 have nw:wb≠hr:=fun z=>by rw[z,gh] at gw;cases gw
 have na:wb≠a:=fun z=>by rw[z,e] at gw;cases gw
 refine wS_W _ ?_
 conv=>whnf
 refine zaa (zbj e) ?_
 conv=>whnf
 refine zaa (gh) ?_
 conv=>whnf
 refine zaa (zc9 gl) ?_
 conv=>whnf
 refine zab hl ?_
 conv=>whnf
 have hd:(zag (dedup w)).length<=w.length:=by rw[zaH];exact zcV (zbE w) fun x hx=>(zcu w x).mp hx
 refine zab (by rw[List.length_map];omega) ?_
 conv=>whnf
 refine zaa (zal _ _) ?_
 conv=>whnf
 refine zab (by show (List.map D.int (zag (dedup w))).length<=_;rw[List.length_map];omega) ?_
 conv=>whnf
 have e1:=zae (o:=.lst ((zag (dedup w)).map D.int)) e
 have gh1:=zae (o:=.lst ((zag (dedup w)).map D.int)) gh
 have gw1:=zae (o:=.lst ((zag (dedup w)).map D.int)) gw
 have mp:=Mv.push [a,hr] S (.lst ((zag (dedup w)).map D.int))
 generalize S.push (.lst ((zag (dedup w)).map D.int))=S1 at *
 refine zaa (gh1) ?_
 conv=>whnf
 refine zab (by simp only[List.length_append,List.length_map,List.length_cons,List.length_nil];omega) ?_
 conv=>whnf
 obtain⟨U,h1,v1,g1⟩:=zcp (u:=.lst (Hs.map pD++[pD (zag (dedup w))])) (hfh.mv mp) gh1
 refine zaa (h1) ?_
 conv=>whnf
 have e2:=v1.old _ _ (by simpa using ne) e1
 have gw2:=v1.old _ _ (by simpa using nw) gw1
 have m2:=mp.trans (v1.up (by simp))
 refine zaa (zif e2) ?_
 conv=>whnf
 have fin:enZ en t r (zag (dedup w)) bf K=en->Mv [a,hr] S U/\U.get a=some (hD i m r wb hr (enZ en t r (zag (dedup w)) bf K))/\U.get hr=some (.lst ((Hs++[zag (dedup w)]).map pD)):=fun z=>⟨m2,by rw[z];exact e2,by rw[List.map_append];exact g1⟩
 have set:(zag (dedup w)=bf\/r<=t)->en=none->wS (callF prog (n+1)) (.setF (.loc 0) "end" (.tup (.cons (.loc 1) (.cons (.min1 (.meth "known" [(0,13)] (.loc 0) .nil)) .nil))) .nil) [some (.ref a),some (.int t),some dq,some (pD bf),some (.ref L),d5,d6] U fun f T=>match f with
   |.nx _=>Mv [a,hr] S T/\T.get a=some (hD i m r wb hr (enZ en t r (zag (dedup w)) bf K))/\T.get hr=some (.lst ((Hs++[zag (dedup w)]).map pD))
   |.rt _=>False:=by
  intro hc hn
  conv=>whnf
  refine zaa (zaP e2) ?_
  conv=>whnf
  refine zaa (rfl) ?_
  conv=>whnf
  refine zab rfl ?_
  conv=>whnf
  refine zax (zeg (n:=n) e2 gw2 hK) ?_
  conv=>whnf
  refine zaa (zc9 (zal _ _)) ?_
  conv=>whnf
  refine zaa (zjY (zaR K) (fun z=>hK0 (by have:=(zaA K).length_eq;rw[z] at this;exact List.length_eq_zero_iff.mp this.symm))) ?_
  conv=>whnf
  refine zab (by first|decide|omega|(simp;done)|(simp;omega)) ?_
  conv=>whnf
  have e3:=zae (o:=.lst ((zag K).map D.int)) e2
  have g3:=zae (o:=.lst ((zag K).map D.int)) g1
  have m3:=m2.trans (Mv.push [a,hr] U (.lst ((zag K).map D.int)))
  obtain⟨V,h4,v4,g4⟩:=zku (en':=some (t,hdZ (zag K))) e3 (hfa.mv m3)
  refine zaa (h4) ?_
  conv=>whnf
  refine⟨m3.trans (v4.up (by simp)),?_,?_⟩
  · rw[g4]
    unfold enZ
    rw[hn]
    dsimp only
    rw[if_pos hc]
  · rw[List.map_append];exact v4.old _ _ (by simpa using ne.symm) g3
 cases en with
 | some z =>
   exact fin rfl
 | none =>
   refine zaa (zbj e2) ?_
   conv=>whnf
   refine zaa (g1) ?_
   conv=>whnf
   refine zaa (zeu _ _) ?_
   conv=>whnf
   refine zaa (zlv _ _ _) ?_
   conv=>whnf
   refine zey (fun c=>?_) (fun c=>?_)
   · exact set (.inl c) rfl
   · conv=>whnf
     refine zaa (zge e2) ?_
     conv=>whnf
     refine zey (fun c2=>?_) (fun c2=>?_)
     · exact set (.inr c2) rfl
     · exact fin (by unfold enZ;dsimp only;rw[if_neg (by rintro (z|z);exact c z;exact c2 z)])
end
theorem zem {cf:CF}{g:List Nat}{l:CL}{b r:CS}{δ:Ev}{S S1:R.St}{xs:List D}{ls:List Nat}{Q:Fl->R.St->Prop}(h:evL cf l δ S=.ok (xs,ls) S1)
  (w:W (zbt g (exS cf b) xs δ {S1 with lk:=ls++S1.lk}) fun f T=>match f with|.nx δ'=>W (exS cf r δ' {T with lk:=S1.lk}) Q|.rt d=>Q (.rt d) {T with lk:=S1.lk}):W (exS cf (.forS g l b r) δ S) Q:=by
 rw[exS,h,zbf]
 unfold zbm
 dsimp only
 rw[zac,zac]
 refine w.mono fun f T hf=>?_
 rw[W_ok]
 cases f with
 |nx δ'=>exact hf
 |rt d=>exact hf
theorem zji {K:List Int}{x:Ltr}{w:Int}:w∈lrn1 K x↔w∈K\/∃p,x.2=some p/\w∈p:=by
 unfold lrn1
 cases e:x.2 with
 |none=>simp
 |some p=>simp[zfs]
theorem mem_lrn {w:Int}:∀{Ls:List Ltr} {K:List Int},w∈lrn K Ls↔w∈K\/∃x∈Ls,∃p,x.2=some p/\w∈p
 | [],K=>by simp[lrn]
 | x :: Ls, K => by
   show w∈lrn (lrn1 K x) Ls↔_
   rw[mem_lrn (Ls:=Ls),zji,or_assoc]
   simp only[List.mem_cons,exists_eq_or_imp]
theorem zjZ {K:List Int}{Ls:List Ltr}(h:K≠[]):lrn K Ls≠[]:=by
 obtain⟨x,r,rfl⟩:=List.exists_cons_of_ne_nil h
 exact List.ne_nil_of_mem (mem_lrn.mpr (.inl (List.mem_cons_self (a:=x))))
section
variable {S:R.St} {a wb hr n q:Nat} {i r t:Int} {m:Nat} {en:Option (Int × Int)} {K ws:List Int} {Hs:List (List Int)} {Ls:List Ltr}
theorem zne (e:S.get a=some (hD i m r wb hr en))(hfa:Fr S a)(hfw:Fr S wb)(hfh:Fr S hr)(hlk:S.lk=[])(gw:S.get wb=some (.dic (kvD K)))(gh:S.get hr=some (.lst (Hs.map pD)))(gq:S.get q=some (.lst (Ls.map ltD)))(m7:m<=7)(hs:Sb ws K)(hw:ws.length<64)(ok:LOk ws Ls)(hl:Ls.length<=50)(hK0:K≠[])(hH:Hs.length<=50) :
  W (appW (callF prog (n+2)) 11 [.ref a,.int t,.ref q] S) fun d T=>d=.non/\Mv [a,wb,hr] S T/\T.get a=some (hD i m r wb hr (enZ en t r (nowZ i Ls) (bfZ m Hs) (lrn K Ls)))/\T.get wb=some (.dic (kvD (lrn K Ls)))/\T.get hr=some (.lst ((Hs++[nowZ i Ls]).map pD)):=by
 have na:a≠wb:=fun z=>by rw[z,gw] at e;cases e
 have nq:wb≠q:=fun z=>by rw[z,gq] at gw;cases gw
 have nh:hr≠wb:=fun z=>by rw[z,gw] at gh;cases gh
 have nz:wb≠S.len:=fun z=>by have:=zbe gw;omega
 have nz2:a≠S.len:=fun z=>by have:=zbe e;omega
 have nz3:hr≠S.len:=fun z=>by have:=zbe gh;omega
 have nz4:q≠S.len:=fun z=>by have:=zbe gq;omega
 have hff:S.frz.length<=S.len:=by unfold St.len;omega
 refine zdZ (F:=c_FloodHand_hear) rfl rfl ?_
 refine zaY (zjr e gh m7) ?_
 refine zaY (d:=.ref S.len) (S':=S.push (.lst [.int i])) (W.eq (wE_W _ ?_)) ?_
 · conv=>whnf
   refine zaa (zcY e) ?_
   conv=>whnf
   refine zab (by first|decide|omega|(simp;done)|(simp;omega)) ?_
   conv=>whnf
   exact⟨rfl,rfl⟩
 refine zem (xs:=Ls.map ltD) (ls:=[q]) (S1:=S.push (.lst [.int i])) (W.eq (wL_W _ ?_)) ?_
 · conv=>whnf
   refine zaa (zae gq) ?_
   conv=>whnf
   exact⟨rfl,rfl⟩
 have hpl:(S.push (.lst [.int i])).lk=[]:=hlk
 refine W.mono (zbi (fun j δ T=>HI {S.push (.lst [.int i]) with lk:=[q]++(S.push (.lst [.int i])).lk} a wb q S.len i t (bfZ m Hs) K Ls j δ T) (fun _ _=>False) _ 0 _ _ ⟨none,none,rfl,Mv.refl _ _,by rw[List.take_zero];exact zae gw,by rw[List.take_zero];exact zal _ _⟩ ?_) ?_
 · rintro j z δ T hz hI
   rw[Nat.zero_add] at hI⊢
   rw[List.getElem?_map] at hz
   cases ej:Ls[j]? with
   |none=>rw[ej] at hz;cases hz
   | some x =>
     rw[ej] at hz
     cases hz
     refine znw (n:=n) (hr:=hr) (r:=r) (en:=en) (m:=(m:Int)) (ws:=ws) (zae e) ?_ ?_ na nz2 nz hs (by omega) ok hl ej hI
     · exact⟨hfw.f,by show (([q]++S.lk).contains wb)=false;rw[hlk];simpa using nq⟩
     · exact⟨hff,by show (([q]++S.lk).contains S.len)=false;rw[hlk];simpa using nz4.symm⟩
 · rintro f T hI
   cases f with
   |rt d=>exact hI.elim
   | nx δ =>
     obtain⟨v5,v6,rfl,mv,g1,g2⟩:=hI
     rw[Nat.zero_add,List.length_map,List.take_length] at g1 g2
     have mv:=mv.lock
     dsimp only
     have g1:({T with lk:=(S.push (.lst [.int i])).lk}:R.St).get wb=_:=g1
     have g2:({T with lk:=(S.push (.lst [.int i])).lk}:R.St).get S.len=_:=g2
     have mS:Mv [wb] S {T with lk:=(S.push (.lst [.int i])).lk}:=zhJ (mv.up (by intro z hz;simp only[List.mem_cons,List.not_mem_nil,or_false] at hz⊢;exact hz.symm))
     generalize ({T with lk:=(S.push (.lst [.int i])).lk}:R.St)=T' at *
     have sb:=hs.lrn ok
     have sl:=sb.len
     have wl:=zfe Ls
     show W (exS (callF prog (n+1)) zny [some (.ref a),some (.int t),some (.ref q),some (pD (bfZ m Hs)),some (.ref S.len),v5,v6] T') _
     refine W.mono (znx (n:=n) (K:=lrn K Ls) (w:=i::wrs Ls) (Hs:=Hs) (en:=en) (i:=i) (r:=r) (m:=(m:Int)) (mS.old _ _ (by simpa using na) e) (hfa.mv mS) (hfh.mv mS) g1 g2 (mS.old _ _ (by simpa using nh) gh) (by rw[List.length_cons];omega) (by omega) (zjZ hK0) hH) fun f U hU=>?_
     cases f with
     |rt d=>exact hU.elim
     | nx δ' =>
       obtain⟨u1,u2,u3⟩:=hU
       exact⟨rfl,(mS.up (by simp)).trans (u1.up (by intro z hz;simp only[List.mem_cons,List.not_mem_nil,or_false] at hz⊢;rcases hz with z|z<;>simp[z])),u2,u1.old _ _ (by simp[na.symm,nh.symm]) g1,u3⟩
theorem zlf {S:R.St}{m:Int}(e:S.get a=some (.ins 0 []))(hf:Fr S a):W (appW (callF prog (n+1)) 16 [.ref a,.int i,.int m,.int r] S) fun d T=>Mv [a] S T/\T.get a=some (.ins 0 [("number",.int i),("many",.int m),("rounds",.int r)]):=by
 refine zdZ (F:=c_Hand_init) rfl rfl (wS_W _ ?_)
 obtain⟨T1,h1,v1,g1⟩:=zc0 (f:="number") (v:=.int i) (gs:=[("number",.int i)]) e hf (by simp) rfl
 obtain⟨T2,h2,v2,g2⟩:=zc0 (f:="many") (v:=.int m) (gs:=[("number",.int i),("many",.int m)]) g1 (hf.mv v1) (by simp) rfl
 obtain⟨T3,h3,v3,g3⟩:=zc0 (f:="rounds") (v:=.int r) (gs:=[("number",.int i),("many",.int m),("rounds",.int r)]) g2 ((hf.mv v1).mv v2) (by simp) rfl
 conv=>whnf
 refine zaa (h1) ?_
 conv=>whnf
 refine zaa (h2) ?_
 conv=>whnf
 refine zaa (h3) ?_
 conv=>whnf
 exact⟨(v1.trans v2).trans v3,g3⟩
theorem znd {S:R.St}{m:Int}{w:Int}(e:S.get a=some (.ins 0 []))(hf:Fr S a):W (appW (callF prog (n+2)) 8 [.ref a,.int i,.int m,.int r,.int w] S) fun d T=>d=.non/\Mv [a] S T/\∃wb hr,S.len<=wb/\S.len<=hr/\T.get a=some (hD i m r wb hr none)/\T.get wb=some (.dic (kvD [w]))/\T.get hr=some (.lst []):=by
 refine zdZ (F:=c_FloodHand_init) rfl rfl (wS_W _ ?_)
 conv=>whnf
 refine zex ((zlf (n:=n) e hf).mono fun d T ⟨v1,g1⟩=>?_)
 conv=>whnf
 have m1:=v1.trans (Mv.push [a] T (.dic [(w,.bl true)]))
 have g1':=zae (o:=.dic [(w,.bl true)]) g1
 have gw:=zal T (.dic [(w,.bl true)])
 have l1:=v1.len
 have al:=zbe e
 have hwb:S.len<=T.len:=l1
 generalize hT2:T.push (.dic [(w,.bl true)])=T2 at *
 obtain⟨T3,h3,v3,g3⟩:=zc0 (f:="wordbook") (v:=.ref T.len) (gs:=[("number",.int i),("many",.int m),("rounds",.int r),("wordbook",.ref T.len)]) g1' (hf.mv m1) (by simp) rfl
 refine zaa ((show (some (w:Int))=some w from rfl)) ?_
 conv=>whnf
 have h3':zbI (T.push (.dic [(w,.bl true)])) (.ref a) "wordbook" (.ref T.len)=some T3:=by rw[hT2];exact h3
 refine zaa (h3') ?_
 conv=>whnf
 refine zab (by first|decide|omega|(simp;done)|(simp;omega)) ?_
 conv=>whnf
 have m3:=m1.trans v3
 have l3:=m3.len
 have gw3:=v3.old _ _ (by simp;omega) gw
 have g3':=zae (o:=.lst []) g3
 have gw3':=zae (o:=.lst []) gw3
 have gh3:=zal T3 (.lst [])
 have m3':=m3.trans (Mv.push [a] T3 (.lst []))
 obtain⟨T4,h4,v4,g4⟩:=zc0 (f:="hearings") (v:=.ref T3.len) (gs:=[("number",.int i),("many",.int m),("rounds",.int r),("wordbook",.ref T.len),("hearings",.ref T3.len)]) g3' (hf.mv m3') (by simp) rfl
 refine zaa (h4) ?_
 conv=>whnf
 obtain⟨T5,h5,v5,g5⟩:=zc0 (f:="end") (v:=.non) (gs:=[("number",.int i),("many",.int m),("rounds",.int r),("wordbook",.ref T.len),("hearings",.ref T3.len),("end",.non)]) g4 ((hf.mv m3').mv v4) (by simp) rfl
 refine zaa (h5) ?_
 conv=>whnf
 have v45:=v4.trans v5
 exact⟨rfl,m3'.trans v45,T.len,T3.len,hwb,l3,g5,v45.old _ _ (by simp;omega) gw3',v45.old _ _ (by simp;omega) gh3⟩
end
theorem zeH {n:Nat}{S:R.St}{ns:List Int}{k:Nat}:app (callF prog (n+1)) 0 [.fix (ns.map .int),.int k] S=.ok (.int (cellZ ns k)) S:=by
 refine zgp (F:=c_law_cell_at) rfl rfl ?_
 conv=>whnf
 refine zey (fun c=>?_) (fun c=>?_)
 · have c:k<ns.length:=by simpa using c
   conv=>whnf
   refine zaa (zfF (x:=D.int ns[k]) (by simp[c])) ?_
   conv=>whnf
   refine zab (by decide) ?_
   conv=>whnf
   refine zab (by decide) ?_
   conv=>whnf
   refine zbb rfl ⟨?_,rfl⟩
   unfold cellZ
   rw[List.getElem?_eq_getElem c]
   rfl
 · have c:¬k<ns.length:=by simpa using c
   conv=>whnf
   refine zbb rfl ⟨?_,rfl⟩
   unfold cellZ
   rw[List.getElem?_eq_none (by omega)]
theorem zho {n:Nat}{S:R.St}{ns:List Int}{k:Int}(hk:0<=k):app (callF prog (n+1)) 0 [.fix (ns.map .int),.int k] S=.ok (.int (cellZ ns k.toNat)) S:=by
 have:=zeH (n:=n) (S:=S) (ns:=ns) (k:=k.toNat)
 rw[show ((k.toNat:Nat):Int)=k by omega] at this
 exact this
theorem W_ex {α:Type}{o:Out α}{Q:α->R.St->Prop}(h:W o Q):∃a T,o=.ok a T/\Q a T:=W.iff.mp h
theorem zkG {n:Nat}{S:R.St}{c:Int}:∃v:Int,app (callF prog (n+1)) 1 [.int c] S=.ok (.int v) S:=by
 have key:W (app (callF prog (n+1)) 1 [.int c] S) fun d T=>T=S/\∃v:Int,d=.int v:=by
  refine zlK (F:=c_law_word) rfl rfl ?_
  conv=>whnf
  refine zab (by first|decide|omega|(simp;done)|(simp;omega)) ?_
  conv=>whnf
  refine zey (fun c1=>?_) (fun c1=>?_)
  · conv=>whnf
    refine zab (by first|decide|omega|(simp;done)|(simp;omega)) ?_
    conv=>whnf
    refine zab (by first|decide|omega|(simp;done)|(simp;omega)) ?_
    conv=>whnf
    exact zbb rfl ⟨rfl,_,rfl⟩
  · conv=>whnf
    refine zab (by first|decide|omega|(simp;done)|(simp;omega)) ?_
    conv=>whnf
    refine zab (by first|decide|omega|(simp;done)|(simp;omega)) ?_
    conv=>whnf
    refine zab (by simp[zhK]) ?_
    conv=>whnf
    refine zab (by first|decide|omega|(simp;done)|(simp;omega)) ?_
    conv=>whnf
    refine zab (by first|decide|omega|(simp;done)|(simp;omega)) ?_
    conv=>whnf
    exact zbb rfl ⟨rfl,_,rfl⟩
 obtain⟨d,T,e,rfl,o,rfl⟩:=W_ex key
 exact⟨o,e⟩
theorem zd7 {n:Nat}{S:R.St}{i:Int}:app (callF prog (n+1)) 3 [.int i] S=.ok (.bl true) S:=by
 refine zgp (F:=c_law_whole) rfl rfl ?_
 conv=>whnf
 refine zaa ((show tyOf S.enter (.int i)=some "int" from rfl)) ?_
 conv=>whnf
 refine zaa ((show tyOf S.enter (.int i)=some "int" from rfl)) ?_
 conv=>whnf
 exact zbb rfl ⟨rfl,rfl⟩
theorem zjF (is:List Int)(f:D->D)(hf:∀i,f (.int i)=.bl true):allD ((is.map D.int).map f)=some true:=by
 have:(is.map D.int).map f=is.map fun _=>D.bl true:=by rw[List.map_map];exact List.map_congr_left fun i _=>hf i
 rw[this]
 induction is with
 |nil=>rfl
 | cons i is ih =>
   have ih:=ih (by rw[List.map_map];exact List.map_congr_left fun i _=>hf i)
   unfold allD at ih⊢
   rw[List.map_cons,List.mapM_cons]
   cases e:(is.map fun _=>D.bl true).mapM zdY with
   |none=>rw[e] at ih;cases ih
   | some bs =>
     rw[e] at ih
     simp only[Option.map_some,Option.some.injEq] at ih
     simp[zdY,ih]
theorem zof {n:Nat}{S:R.St}{en:Option (Int × Int)}:app (callF prog (n+2)) 4 [eD en,eD en] S=.ok (.bl true) S:=by
 refine zgp (F:=c_law_end) rfl rfl ?_
 cases en with
 | none =>
   conv=>whnf
   exact zbb rfl ⟨rfl,rfl⟩
 | some z =>
   obtain⟨x,y⟩:=z
   conv=>whnf
   refine zaa ((show tyOf S.enter (.tup [.int x,.int y])=some "tuple" from rfl)) ?_
   conv=>whnf
   refine zaa ((zlv S.enter [x,y] [x,y])) ?_
   conv=>whnf
   refine zkd (by simp) ?_
   conv=>whnf
   refine zaV ?_
   refine W.of (zaB (fun _=>true) (fun _=>.bl true) _ none (fun z hz=>?_) (fun z hz _=>?_)) ?_
   · exact W.eq (wT_W _ (by conv => whnf
                            exact⟨rfl,rfl⟩))
   · have:z=.int x\/z=.int y:=by simpa using hz
     refine W.eq (wE_W _ ?_)
     rcases this with rfl|rfl
     · conv=>whnf
       refine zax (zd7 (n:=n)) ?_
       conv=>whnf
       exact⟨rfl,rfl⟩
     · conv=>whnf
       refine zax (zd7 (n:=n)) ?_
       conv=>whnf
       exact⟨rfl,rfl⟩
   · refine zab (by first|decide|omega|(simp;done)|(simp;omega)) ?_
     conv=>whnf
     refine zaa ((show allD _=some true from rfl)) ?_
     conv=>whnf
     exact zbb rfl ⟨rfl,rfl⟩
theorem ziz {ws:List Int}{v:Int}(h0:0<=v)(h1:v<ws.length):∃w∈ws,atI (ws.map D.int) v=some (.int w):=by
 have hv:v.toNat<ws.length:=by omega
 refine⟨ws[v.toNat],List.getElem_mem hv,?_⟩
 have:=zfF (xs:=ws.map D.int) (k:=v.toNat) (x:=.int ws[v.toNat]) (by simp[hv])
 rw[show ((v.toNat:Nat):Int)=v by omega] at this
 exact this
theorem zld {α:Type}{xs:List α}{lo hi:Option Int}{x:α}(h:x∈cut xs lo hi):x∈xs:=List.mem_of_mem_drop (List.mem_of_mem_take h)
theorem zgJ (m:Nat)(i:Int):(oths m i).Nodup:=(zgQ m).filter _
theorem zlu (N:Nat)(Ls:List Ltr):flats N (Ls.map ltD)=true:=by
 rw[zbT]
 intro d hd
 obtain⟨x,_,rfl⟩:=List.mem_map.mp hd
 obtain⟨x1,x2⟩:=x
 cases x2 with
 |none=>rfl
 | some p =>
   show flats N [.tup [.int x1],.tup (p.map .int)]=true
   rw[zbT]
   intro d hd
   simp only[List.mem_cons,List.not_mem_nil,or_false] at hd
   rcases hd with rfl|rfl
   · rfl
   · rw[zju,zbT]
     intro d hd
     obtain⟨x,_,rfl⟩:=List.mem_map.mp hd
     rfl
noncomputable def LI (S:R.St)(ns ws:List Int)(t i:Int)(m lw j:Nat)(δ:Ev)(T:R.St):Prop:=∃(Ls:List Ltr) (nw:List MO) (v7 v8 v9:Option D),T=⟨S.frz++S.new,.lst (Ls.map ltD)::.lst ((oths m i).map .int)::nw,[]⟩/\(Ls.map (·.1)).Sublist ((oths m i).take j)/\LOk ws Ls/\δ=[some (.fix (ns.map .int)),some (.int t),some (.int i),some (.int m),some (.ref lw),some (.ref ((S.frz++S.new).length+0)),some (.ref ((S.frz++S.new).length+1)),v7,v8,v9]
noncomputable def zoO:CS:=(.asg 8 (.call 0 0 (.cons (.loc 0) (.cons (.bin .Add (.bin .Mult (.con (D.int 6)) (.loc 1)) (.loc 7)) .nil))) (.asg 9 (.sl (.lst (.cons (.ix (.loc 4) (.bin .Mod (.bin .FloorDiv (.loc 8) (.con (D.int 5))) (.con (D.int 5)))) (.cons (.ix (.loc 4) (.bin .Mod (.bin .FloorDiv (.loc 8) (.con (D.int 25))) (.con (D.int 5)))) (.cons (.ix (.loc 4) (.bin .Mod (.bin .FloorDiv (.loc 8) (.con (D.int 125))) (.con (D.int 5)))) .nil)))) false true (.con .non) (.bin .Mod (.bin .FloorDiv (.loc 8) (.con (D.int 625))) (.con (D.int 4)))) (.ifS (.cmp .Eq (.bin .Mod (.loc 8) (.con (D.int 5))) (.con (D.int 1))) (.expr (.mt .append (.loc 5) (.cons (.tup (.cons (.tup (.cons (.ix (.loc 6) (.loc 7)) .nil)) (.cons (.con D.non) .nil))) .nil)) .nil) .nil (.ifS (.cmp .Gt (.bin .Mod (.loc 8) (.con (D.int 5))) (.con (D.int 1))) (.expr (.mt .append (.loc 5) (.cons (.tup (.cons (.tup (.cons (.ix (.loc 6) (.loc 7)) .nil)) (.cons (.mkT (.val (.sset (.bin .Add (.loc 9) (.lst (.cons (.ix (.loc 4) (.con (D.int 5))) .nil)))))) .nil))) .nil)) .nil) .nil .nil))))
theorem znj {n:Nat}{S:R.St}{ns ws:List Int}{t i:Int}{m lw j:Nat}{δ:Ev}{T:R.St}(hW:S.get lw=some (.lst (ws.map .int)))(hw6:ws.length=6)(ht:0<=t)(m7:m<=7)(hj:j<(oths m i).length)(h:LI S ns ws t i m lw j δ T) :
  W (exS (callF prog (n+1)) zoO (δ.set 7 (some (.int (j:Int)))) T) fun f T'=>match f with|.nx δ2=>LI S ns ws t i m lw (j+1) δ2 T'|.rt _=>False:=by
 obtain⟨Ls,nw,v7,v8,v9,rfl,hsub,ok,rfl⟩:=h
 have hol:=zcq m i
 have hll:Ls.length<=7:=by
  have h1:=hsub.length_le
  rw[List.length_map] at h1
  have h2:=List.length_take_le' j (oths m i)
  omega
 have hOj:atI ((oths m i).map D.int) (j:Int)=some (.int (oths m i)[j]):=zfF (by simp[hj])
 have grow:∀(nw':List MO) (o:Option (List Int)) (v7 v8 v9:Option D),(∀p,o=some p->p.length<=10/\∀w∈p,w∈ws)->LI S ns ws t i m lw (j+1) [some (.fix (ns.map .int)),some (.int t),some (.int i),some (.int m),some (.ref lw),some (.ref ((S.frz++S.new).length+0)),some (.ref ((S.frz++S.new).length+1)),v7,v8,v9] ⟨S.frz++S.new,.lst (Ls.map ltD++[ltD ((oths m i)[j],o)])::.lst ((oths m i).map .int)::nw',[]⟩:=by
  intro nw' o v7 v8 v9 ho
  refine⟨Ls++[((oths m i)[j],o)],nw',v7,v8,v9,by simp,?_,?_,rfl⟩
  · rw[zbu (List.getElem?_eq_getElem hj),List.map_append]
    exact hsub.append (List.Sublist.refl _)
  · intro x hx p hp
    rcases List.mem_append.mp hx with z|z
    · exact ok x z p hp
    · simp only[List.mem_singleton] at z;subst z;exact ho p hp
 have same:∀(nw':List MO) (v7 v8 v9:Option D),LI S ns ws t i m lw (j+1) [some (.fix (ns.map .int)),some (.int t),some (.int i),some (.int m),some (.ref lw),some (.ref ((S.frz++S.new).length+0)),some (.ref ((S.frz++S.new).length+1)),v7,v8,v9] ⟨S.frz++S.new,.lst (Ls.map ltD)::.lst ((oths m i).map .int)::nw',[]⟩:=by
  intro nw' v7 v8 v9
  refine⟨Ls,nw',v7,v8,v9,rfl,?_,ok,rfl⟩
  rw[zbu (List.getElem?_eq_getElem hj)]
  exact hsub.trans (List.sublist_append_left _ _)
 refine wS_W _ ?_
 conv=>whnf
 refine zab (by simp[zhK]) ?_
 conv=>whnf
 refine zax (zho (n:=n) (k:=6 * t+j) (by omega)) ?_
 conv=>whnf
 generalize cellZ ns (6 * t+(j:Int)).toNat=c
 obtain⟨w1,m1,a1⟩:=ziz (ws:=ws) (v:=c / 5 % 5) (by omega) (by omega)
 obtain⟨w2,m2,a2⟩:=ziz (ws:=ws) (v:=c / 25 % 5) (by omega) (by omega)
 obtain⟨w3,m3,a3⟩:=ziz (ws:=ws) (v:=c / 125 % 5) (by omega) (by omega)
 obtain⟨w5,m5,a5⟩:=ziz (ws:=ws) (v:=5) (by omega) (by omega)
 refine zab (by first|decide|omega|(simp;done)|(simp;omega)) ?_
 conv=>whnf
 refine zab (by first|decide|omega|(simp;done)|(simp;omega)) ?_
 conv=>whnf
 refine zaa (zdl hW _ _) ?_
 conv=>whnf
 refine zaa (a1) ?_
 conv=>whnf
 refine zab (by first|decide|omega|(simp;done)|(simp;omega)) ?_
 conv=>whnf
 refine zab (by first|decide|omega|(simp;done)|(simp;omega)) ?_
 conv=>whnf
 refine zaa (zdl hW _ _) ?_
 conv=>whnf
 refine zaa (a2) ?_
 conv=>whnf
 refine zab (by first|decide|omega|(simp;done)|(simp;omega)) ?_
 conv=>whnf
 refine zab (by first|decide|omega|(simp;done)|(simp;omega)) ?_
 conv=>whnf
 refine zaa (zdl hW _ _) ?_
 conv=>whnf
 refine zaa (a3) ?_
 conv=>whnf
 refine zab (by first|decide|omega|(simp;done)|(simp;omega)) ?_
 conv=>whnf
 refine zab (by first|decide|omega|(simp;done)|(simp;omega)) ?_
 conv=>whnf
 refine zab (by first|decide|omega|(simp;done)|(simp;omega)) ?_
 conv=>whnf
 refine zaa (zaD _ _) ?_
 conv=>whnf
 have hc1:=zlC D.int [w1,w2,w3] none (some (c / 625 % 4))
 have hc2:∀w∈cut [w1,w2,w3] none (some (c / 625 % 4)),w∈ws:=fun w hw=>by
  have:=zld hw
  simp only[List.mem_cons,List.not_mem_nil,or_false] at this
  rcases this with rfl|rfl|rfl
  · exact m1
  · exact m2
  · exact m3
 have hc3:=znE [w1,w2,w3] none (some (c / 625 % 4))
 have hc1:cut [D.int w1,D.int w2,D.int w3] none (some (c / 625 % 4))=(cut [w1,w2,w3] none (some (c / 625 % 4))).map D.int:=hc1
 rw[hc1]
 generalize cut [w1,w2,w3] none (some (c / 625 % 4))=cs at *
 have hc3:cs.length<=3:=hc3
 refine zab (by rw[List.length_map];omega) ?_
 conv=>whnf
 refine zab (by first|decide|omega|(simp;done)|(simp;omega)) ?_
 conv=>whnf
 refine zey (fun c1=>?_) (fun c1=>?_)
 · conv=>whnf
   refine zbA rfl ?_
   conv=>whnf
   refine zbA rfl ?_
   conv=>whnf
   refine zaa (hOj) ?_
   conv=>whnf
   refine zab (by first|decide|omega|(simp;done)|(simp;omega)) ?_
   conv=>whnf
   refine zab (by first|decide|omega|(simp;done)|(simp;omega)) ?_
   conv=>whnf
   refine zbA rfl ?_
   conv=>whnf
   refine zab (by simp only[List.length_append,List.length_map,List.length_cons,List.length_nil];omega) ?_
   conv=>whnf
   refine zfK rfl ?_
   conv=>whnf
   refine zab (by first|decide|omega|(simp;done)|(simp;omega)) ?_
   conv=>whnf
   refine zey (fun c2=>?_) (fun c2=>?_)
   · exfalso;omega
   · conv=>whnf
     exact grow _ none _ _ _ (fun p z=>by cases z)
 · conv=>whnf
   refine zab (by first|decide|omega|(simp;done)|(simp;omega)) ?_
   conv=>whnf
   refine zey (fun c2=>?_) (fun c2=>?_)
   · conv=>whnf
     refine zbA rfl ?_
     conv=>whnf
     refine zbA rfl ?_
     conv=>whnf
     refine zaa (hOj) ?_
     conv=>whnf
     refine zab (by first|decide|omega|(simp;done)|(simp;omega)) ?_
     conv=>whnf
     refine zaa (zdl hW _ _) ?_
     conv=>whnf
     refine zaa (a5) ?_
     conv=>whnf
     refine zab (by first|decide|omega|(simp;done)|(simp;omega)) ?_
     conv=>whnf
     refine zaa (zae (zaD _ _)) ?_
     conv=>whnf
     refine zaa (zaD _ _) ?_
     conv=>whnf
     refine zab (by simp only[List.length_append,List.length_map,List.length_cons,List.length_nil];omega) ?_
     conv=>whnf
     refine zaa (zc9 (ks:=cs++[w5]) (by rw[List.map_append];exact zaD _ _)) ?_
     conv=>whnf
     have hl4:(cs++[w5]).length<=4:=by rw[List.length_append];simp;omega
     refine zab (by omega) ?_
     conv=>whnf
     have hd:(zag (dedup (cs++[w5]))).length<=(cs++[w5]).length:=by rw[zaH];exact zcV (zbE _) fun x hx=>(zcu _ x).mp hx
     have hm:∀w∈zag (dedup (cs++[w5])),w∈ws:=fun w hw=>by
      have:=(zcu _ w).mp ((zaA _).mem_iff.mp hw)
      rcases List.mem_append.mp this with z|z
      · exact hc2 w z
      · simp only[List.mem_singleton] at z;subst z;exact m5
     generalize zag (dedup (cs++[w5]))=st at *
     refine zab (by rw[List.length_map];omega) ?_
     conv=>whnf
     refine zaa (zaD _ _) ?_
     conv=>whnf
     refine zab (by show (st.map D.int).length<=_;rw[List.length_map];omega) ?_
     conv=>whnf
     refine zab (by first|decide|omega|(simp;done)|(simp;omega)) ?_
     conv=>whnf
     refine zbA rfl ?_
     conv=>whnf
     refine zab (by simp only[List.length_append,List.length_map,List.length_cons,List.length_nil];omega) ?_
     conv=>whnf
     refine zfK rfl ?_
     conv=>whnf
     exact grow _ (some st) _ _ _ (fun p z=>by cases z;exact⟨by omega,hm⟩)
   · exact same _ _ _ _
theorem zhn {n:Nat}{S:R.St}{ns ws:List Int}{t i:Int}{m lw:Nat}(hW:S.get lw=some (.lst (ws.map .int)))(hw6:ws.length=6)(ht:0<=t)(m7:m<=7) :
  ∃Ls:List Ltr,app (callF prog (n+2)) 2 [.fix (ns.map .int),.int t,.int i,.int m,.ref lw] S=.ok (.ref S.len) (S.push (.lst (Ls.map ltD)))/\(Ls.map (·.1)).Sublist (oths m i)/\LOk ws Ls:=by
 have hol:=zcq m i
 have:W (app (callF prog (n+2)) 2 [.fix (ns.map .int),.int t,.int i,.int m,.ref lw] S) fun d T=>d=.ref S.len/\∃Ls:List Ltr,T=S.push (.lst (Ls.map ltD))/\(Ls.map (·.1)).Sublist (oths m i)/\LOk ws Ls:=by
  refine zlK (F:=c_law_letters) rfl rfl ?_
  conv=>whnf
  refine zab (by first|decide|omega|(simp;done)|(simp;omega)) ?_
  conv=>whnf
  refine zab (by omega) ?_
  conv=>whnf
  refine zaV ?_
  refine W.of (zaB (fun d=>match d with|.int o=>!decide (o=i)|_=>false) (fun d=>d) _ none (fun z hz=>?_) (fun z hz _=>?_)) ?_
  · obtain⟨o,_,rfl⟩:=List.mem_map.mp hz
    exact W.eq (wT_W _ (by conv => whnf
                           exact⟨rfl,rfl⟩))
  · exact W.eq (wE_W _ (by conv => whnf
                           exact⟨rfl,rfl⟩))
  rw[zco,zdp m i D.int _ _ (fun o=>rfl) (fun o=>rfl)]
  refine zab (by simp;omega) ?_
  conv=>whnf
  refine zab (by simp;omega) ?_
  conv=>whnf
  refine zbA rfl ?_
  conv=>whnf
  refine zab (by simp;omega) ?_
  conv=>whnf
  refine zaV ?_
  refine W.mono (zbi (fun j δ T=>LI S ns ws t i m lw j δ T) (fun _ _=>False) _ 0 _ _ ⟨[],[],none,none,none,rfl,List.Sublist.slnil,(by intro x hx;cases hx),rfl⟩ ?_) ?_
  · rintro j z δ T hz hI
    rw[Nat.zero_add] at hI⊢
    have hjl:j<(oths m i).length:=by
     have:=(List.getElem?_eq_some_iff.mp hz).1
     simpa using this
    have hz':z=.int (j:Int):=by
     have:=(List.getElem?_eq_some_iff.mp hz).2
     rw[<-this];simp
    subst hz'
    exact⟨_,rfl,znj (n:=n) hW hw6 ht m7 hjl hI⟩
  · intro f T hf
    cases f with
    |rt d=>exact hf.elim
    | nx δ =>
      obtain⟨Ls,nw,v7,v8,v9,rfl,hsub,ok,rfl⟩:=hf
      conv=>whnf
      refine ziF (i:=0) rfl (zlu _ _) ⟨rfl,Ls,rfl,hsub.trans (List.take_sublist _ _),ok⟩
 obtain⟨d,T,e,rfl,Ls,rfl,h1,h2⟩:=W_ex this
 exact⟨Ls,e,h1,h2⟩
theorem zjI {S:R.St}{l:Nat}{ds:List D}(h:S.get l=some (.lst ds)):tyOf S (.ref l)=some "list":=by unfold tyOf;dsimp only;rw[h]
noncomputable def pP (p:List Int):PySem.PyData:=.tuple (p.map .int)
theorem zee {α:Type}{S:R.St}{n:Nat}{f:α->D}{g:α->PySem.PyData}(h:∀x,pd S n (f x)=some (g x)):∀xs:List α,(xs.map f).mapM (pd S n)=some (xs.map g)
 | []=>rfl
 |x::xs=>by rw[List.map_cons,List.mapM_cons,zee h xs,h x];rfl
theorem zjU (S:R.St)(n:Nat)(Hs:List (List Int)):(Hs.map pD).mapM (pd S (n+1))=some (Hs.map pP):=zee (fun p=>zhG S n p) Hs
noncomputable def rwP (i:Int)(k:List Int)(o:Int):PySem.PyData:=.tuple [.tuple [.int i],.int o,pP k]
theorem zmY (S:R.St)(n:Nat)(i:Int)(k:List Int)(o:Int):pd S (n+3) (rowD i k o)=some (rwP i k o):=by
 have h1:=zhG S (n+1) k
 unfold rowD
 unfold pd
 rw[List.mapM_cons,List.mapM_cons,List.mapM_cons,List.mapM_nil,h1]
 rfl
theorem two_pd {S:R.St}{x y:Nat}{ds es:List D}{A B:List PySem.PyData}(h1:S.get x=some (.lst ds))(h2:S.get y=some (.lst es))(e1:ds.mapM (pd S 58)=some A)(e2:es.mapM (pd S 58)=some B):[D.ref x,D.ref y].mapM (pd S 59)=some [.list A,.list B]:=by
 rw[List.mapM_cons,List.mapM_cons,List.mapM_nil,zbP h1 e1,zbP h2 e2]
 rfl
theorem zm9 {S:R.St}{l l' x y x' y':Nat}{ds es:List D}{A B:List PySem.PyData}(hl:S.get l=some (.lst [.ref x,.ref y]))(hl':S.get l'=some (.lst [.ref x',.ref y']))(h1:S.get x=some (.lst ds))(h1':S.get x'=some (.lst ds))(h2:S.get y=some (.lst es))(h2':S.get y'=some (.lst es))(e1:ds.mapM (pd S 58)=some A)(e2:es.mapM (pd S 58)=some B):cmpO S .NotEq (.ref l) (.ref l')=some false:=by
 show (zeo S (.ref l) (.ref l')).map (!·)=_
 rw[zdr hl,zih (zbP hl (two_pd h1 h2 e1 e2)) (zbP hl' (two_pd h1' h2' e1 e2))]
 rfl
theorem zgq {xs:List D}{f:D->D}(h:∀x∈xs,f x=.bl true):allD (xs.map f)=some true:=by
 have:xs.map f=(xs.map fun _=>(0:Int)).map fun _=>D.bl true:=by rw[List.map_map];exact List.map_congr_left fun x hx=>h x hx
 rw[this]
 have:=zjF (xs.map fun _=>(0:Int)) (fun _=>D.bl true) (fun _=>rfl)
 rw[List.map_map] at this
 exact this
section
variable {S:R.St} {a wb hr n lk lh:Nat} {i r:Int} {m:Int} {en:Option (Int × Int)} {K:List Int} {Hs:List (List Int)}
noncomputable def zoh:CS:=(.ifS (.or (.nt (.tst (.call 3 0 (.cons (.meth "ending" [(0,10)] (.loc 0) .nil) .nil)))) (.or (.cmp .NotEq (.meth "ending" [(0,10)] (.loc 0) .nil) (.loc 4)) (.nt (.tst (.call 4 0 (.cons (.meth "ended" [(0,9)] (.loc 0) .nil) (.cons (.loc 3) .nil))))))) (.ret (.con (D.bl false)) .nil) .nil (.asg 5 (.lst (.cons (.meth "known" [(0,13)] (.loc 0) .nil) (.cons (.meth "heard_by" [(0,12)] (.loc 0) .nil) .nil))) (.ifS (.or (.nt (.tst (.bi (.isin "list") (.cons (.ix (.loc 5) (.con (D.int 0))) .nil)))) (.cmp .NotEq (.loc 5) (.lst (.cons (.loc 1) (.cons (.loc 2) .nil))))) (.ret (.con (D.bl false)) .nil) .nil (.ifS (.or (.nt (.tst (.all (.comp 1 [] [0] (.val (.ix (.loc 5) (.con (D.int 0)))) (.tst (.con (D.bl true))) (.call 3 0 (.cons (.loc 0) .nil)))))) (.nt (.tst (.all (.comp 1 [] [0] (.val (.ix (.loc 5) (.con (D.int 1)))) (.tst (.con (D.bl true))) (.bi (.isin "tuple") (.cons (.loc 0) .nil))))))) (.ret (.con (D.bl false)) .nil) .nil (.expr (.mt .append (.ix (.loc 5) (.con (D.int 0))) (.cons (.con (D.int 0)) .nil)) (.expr (.mt .append (.ix (.loc 5) (.con (D.int 1))) (.cons (.tup .nil) .nil)) (.ret (.con (D.bl true)) .nil)))))))
theorem zhm (e:S.get a=some (hD i m r wb hr en))(gw:S.get wb=some (.dic (kvD K)))(gh:S.get hr=some (.lst (Hs.map pD)))(gk:S.get lk=some (.lst ((zag K).map .int)))(gl:S.get lh=some (.lst (Hs.map pD)))(hK:K.length<64)(hH:Hs.length<=50) :
  app (callF prog (n+3)) 5 [.ref a,.ref lk,.ref lh,eD en] S=.ok (.bl true) S:=by
 refine zgp (F:=c_law_state) rfl rfl ?_
 rw[<-zdm] at e gw gh gk gl
 have hfz:S.enter.frz.length=S.enter.len:=by simp[St.enter,St.len]
 have hlk:S.enter.lk=[]:=rfl
 generalize S.enter=T at *
 have rest:wS (callF prog (n+2)) zoh [some (.ref a),some (.ref lk),some (.ref lh),some (eD en),some (.int (dueZ en)),none] T fun r T=>wFin S r T fun a T'=>a=.bl true/\T'=S:=by
  conv=>whnf
  refine zaa (zaP e) ?_
  conv=>whnf
  refine zaa (rfl) ?_
  conv=>whnf
  refine zab rfl ?_
  conv=>whnf
  refine zax (zf5 (n:=n+1) e) ?_
  conv=>whnf
  refine zax (zd7 (n:=n+1)) ?_
  conv=>whnf
  refine zaa (zaP e) ?_
  conv=>whnf
  refine zaa (rfl) ?_
  conv=>whnf
  refine zab rfl ?_
  conv=>whnf
  refine zax (zf5 (n:=n+1) e) ?_
  conv=>whnf
  refine zlT (by simp) ?_
  conv=>whnf
  refine zaa (zaP e) ?_
  conv=>whnf
  refine zaa (rfl) ?_
  conv=>whnf
  refine zab rfl ?_
  conv=>whnf
  refine zax (zlg (n:=n+1) e) ?_
  conv=>whnf
  refine zax (zof (n:=n)) ?_
  conv=>whnf
  refine zaa (zaP e) ?_
  conv=>whnf
  refine zaa (rfl) ?_
  conv=>whnf
  refine zab rfl ?_
  conv=>whnf
  refine zax (zeg (n:=n+1) e gw hK) ?_
  conv=>whnf
  have l0:=T.len
  have e1:=zae (o:=.lst ((zag K).map D.int)) e
  have gh1:=zae (o:=.lst ((zag K).map D.int)) gh
  have gk1:=zae (o:=.lst ((zag K).map D.int)) gk
  have gl1:=zae (o:=.lst ((zag K).map D.int)) gl
  have n1:=zal T (.lst ((zag K).map D.int))
  have f1:Fr (T.push (.lst ((zag K).map D.int))) T.len:=⟨by show T.frz.length<=_;omega,by show T.lk.contains _=false;rw[hlk];rfl⟩
  have z1:(T.push (.lst ((zag K).map D.int))).frz.length<=(T.push (.lst ((zag K).map D.int))).len/\(T.push (.lst ((zag K).map D.int))).lk=[]:=⟨by rw[plen];show T.frz.length<=_;omega,hlk⟩
  have s1:=plen T (.lst ((zag K).map D.int))
  generalize T.push (.lst ((zag K).map D.int))=T1 at *
  refine zaa (zaP e1) ?_
  conv=>whnf
  refine zaa (rfl) ?_
  conv=>whnf
  refine zab rfl ?_
  conv=>whnf
  refine zax (zhN (n:=n+1) e1 gh1 (by rw[List.length_map];omega)) ?_
  conv=>whnf
  have gk2:=zae (o:=.lst (Hs.map pD)) gk1
  have gl2:=zae (o:=.lst (Hs.map pD)) gl1
  have n12:=zae (o:=.lst (Hs.map pD)) n1
  have n2:=zal T1 (.lst (Hs.map pD))
  have f12:=f1.mv (Mv.push [] T1 (.lst (Hs.map pD)))
  have f2:Fr (T1.push (.lst (Hs.map pD))) T1.len:=⟨z1.1,by show T1.lk.contains _=false;rw[z1.2];rfl⟩
  have s2:=plen T1 (.lst (Hs.map pD))
  generalize T1.push (.lst (Hs.map pD))=T2 at *
  refine zab (by first|decide|omega|(simp;done)|(simp;omega)) ?_
  conv=>whnf
  have gk3:=zae (o:=.lst [.ref T.len,.ref T1.len]) gk2
  have gl3:=zae (o:=.lst [.ref T.len,.ref T1.len]) gl2
  have n13:=zae (o:=.lst [.ref T.len,.ref T1.len]) n12
  have n23:=zae (o:=.lst [.ref T.len,.ref T1.len]) n2
  have n3:=zal T2 (.lst [.ref T.len,.ref T1.len])
  have f13:=f12.mv (Mv.push [] T2 (.lst [.ref T.len,.ref T1.len]))
  have f23:=f2.mv (Mv.push [] T2 (.lst [.ref T.len,.ref T1.len]))
  generalize T2.push (.lst [.ref T.len,.ref T1.len])=T3 at *
  refine zaa (n3) ?_
  conv=>whnf
  refine zaa (zev) ?_
  conv=>whnf
  refine zaa (zjI n13) ?_
  conv=>whnf
  refine zab (by first|decide|omega|(simp;done)|(simp;omega)) ?_
  conv=>whnf
  have gk4:=zae (o:=.lst [.ref lk,.ref lh]) gk3
  have gl4:=zae (o:=.lst [.ref lk,.ref lh]) gl3
  have n14:=zae (o:=.lst [.ref lk,.ref lh]) n13
  have n24:=zae (o:=.lst [.ref lk,.ref lh]) n23
  have n34:=zae (o:=.lst [.ref lk,.ref lh]) n3
  have n4:=zal T3 (.lst [.ref lk,.ref lh])
  have f14:=f13.mv (Mv.push [] T3 (.lst [.ref lk,.ref lh]))
  have f24:=f23.mv (Mv.push [] T3 (.lst [.ref lk,.ref lh]))
  generalize T3.push (.lst [.ref lk,.ref lh])=T4 at *
  refine zaa (zm9 n34 n4 n14 gk4 n24 gl4 (zc7 _ _ _) (zjU _ 57 _)) ?_
  conv=>whnf
  refine zaa (n34) ?_
  conv=>whnf
  refine zaa (zev) ?_
  conv=>whnf
  refine zaa (n14) ?_
  conv=>whnf
  refine zaV ?_
  refine W.of (zaB (fun _=>true) (fun _=>.bl true) _ none (fun z hz=>?_) (fun z hz _=>?_)) ?_
  · exact W.eq (wT_W _ (by conv => whnf
                           exact⟨rfl,rfl⟩))
  · obtain⟨o,_,rfl⟩:=List.mem_map.mp hz
    refine W.eq (wE_W _ ?_)
    conv=>whnf
    refine zax (zd7 (n:=n+1)) ?_
    conv=>whnf
    exact⟨rfl,rfl⟩
  have fl:((zag K).map D.int).filter (fun _=>true)=(zag K).map D.int:=List.filter_eq_self.mpr fun _ _=>rfl
  rw[fl]
  refine zab (by rw[List.length_map,List.length_map,zaH];omega) ?_
  conv=>whnf
  refine zaa (zgq (fun _ _=>rfl)) ?_
  conv=>whnf
  refine zaa (n34) ?_
  conv=>whnf
  refine zaa (zfH) ?_
  conv=>whnf
  refine zaa (n24) ?_
  conv=>whnf
  refine zaV ?_
  refine W.of (zaB (fun _=>true) (fun _=>.bl true) _ none (fun z hz=>?_) (fun z hz _=>?_)) ?_
  · exact W.eq (wT_W _ (by conv => whnf
                           exact⟨rfl,rfl⟩))
  · obtain⟨o,_,rfl⟩:=List.mem_map.mp hz
    refine W.eq (wE_W _ ?_)
    conv=>whnf
    refine zaa (rfl) ?_
    conv=>whnf
    exact⟨rfl,rfl⟩
  have fl:(Hs.map pD).filter (fun _=>true)=Hs.map pD:=List.filter_eq_self.mpr fun _ _=>rfl
  rw[fl]
  refine zab (by rw[List.length_map,List.length_map];omega) ?_
  conv=>whnf
  refine zaa (zgq (fun _ _=>rfl)) ?_
  conv=>whnf
  refine zaa (n34) ?_
  conv=>whnf
  refine zaa (zev) ?_
  conv=>whnf
  refine zaa (n14) ?_
  conv=>whnf
  refine zaa (n14) ?_
  conv=>whnf
  refine zab (by simp only[List.length_append,List.length_map,zaH,List.length_cons,List.length_nil];omega) ?_
  conv=>whnf
  obtain⟨U,h1,v1,g1⟩:=zcp (u:=.lst ((zag K).map D.int++[.int 0])) f14 n14
  refine zaa (h1) ?_
  conv=>whnf
  refine zaa (v1.old _ _ (by simp;omega) n34) ?_
  conv=>whnf
  refine zaa (zfH) ?_
  conv=>whnf
  have g2:=v1.old _ _ (by simp;omega) n24
  refine zaa (g2) ?_
  conv=>whnf
  refine zab (by first|decide|omega|(simp;done)|(simp;omega)) ?_
  conv=>whnf
  refine zaa (g2) ?_
  conv=>whnf
  refine zab (by simp only[List.length_append,List.length_map,List.length_cons,List.length_nil];omega) ?_
  conv=>whnf
  obtain⟨V,h2,v2,g3⟩:=zcp (u:=.lst (Hs.map pD++[.tup []])) (f24.mv v1) g2
  refine zaa (h2) ?_
  conv=>whnf
  exact zbb rfl ⟨rfl,rfl⟩
 cases en with
 | none =>
   conv=>whnf
   exact rest
 | some z =>
   conv=>whnf
   refine zaa (zfH) ?_
   conv=>whnf
   exact rest
theorem zmx {f:Nat}{m:Nat}(gf:S.get f=some (.lst ((oths m i).map (rowD i (zag K)))))(gk:S.get lk=some (.lst ((zag K).map .int)))(hf:Fr S f)(hK:K.length<64)(m7:m<=7) :
  W (appW (callF prog (n+1)) 6 [.ref f,.int i,.int m,.ref lk] S) fun d T=>d=.bl true/\Mv [f] S T:=by
 have hol:=zcq m i
 refine zdZ (F:=c_law_said) rfl rfl (wS_W _ ?_)
 conv=>whnf
 refine zaa (zjI gf) ?_
 conv=>whnf
 refine zaa (gf) ?_
 conv=>whnf
 refine zaV ?_
 refine W.of (zaB (fun _=>true) (fun _=>.bl true) _ none (fun z hz=>?_) (fun z hz _=>?_)) ?_
 · exact W.eq (wT_W _ (by conv => whnf
                          exact⟨rfl,rfl⟩))
 · obtain⟨o,_,rfl⟩:=List.mem_map.mp hz
   refine W.eq (wE_W _ ?_)
   conv=>whnf
   refine zaa (rfl) ?_
   conv=>whnf
   exact⟨rfl,rfl⟩
 have fl:((oths m i).map (rowD i (zag K))).filter (fun _=>true)=(oths m i).map (rowD i (zag K)):=List.filter_eq_self.mpr fun _ _=>rfl
 rw[fl]
 refine zab (by rw[List.length_map,List.length_map];omega) ?_
 conv=>whnf
 refine zaa (zgq (fun _ _=>rfl)) ?_
 conv=>whnf
 refine zab (by omega) ?_
 conv=>whnf
 refine zaV ?_
 refine W.of (zaB (fun d=>match d with|.int o=>!decide (o=i)|_=>false) (fun d=>match d with|.int o=>rowD i (zag K) o|_=>d) _ none (fun z hz=>?_) (fun z hz _=>?_)) ?_
 · obtain⟨o,_,rfl⟩:=List.mem_map.mp hz
   exact W.eq (wT_W _ (by conv => whnf
                          exact⟨rfl,rfl⟩))
 · obtain⟨o,_,rfl⟩:=List.mem_map.mp hz
   refine W.eq (wE_W _ ?_)
   conv=>whnf
   refine zab (by first|decide|omega|(simp;done)|(simp;omega)) ?_
   conv=>whnf
   refine zaa (gk) ?_
   conv=>whnf
   refine zab (by show ((zag K).map D.int).length<=_;rw[List.length_map,zaH];omega) ?_
   conv=>whnf
   refine zab (by first|decide|omega|(simp;done)|(simp;omega)) ?_
   conv=>whnf
   exact⟨rfl,rfl⟩
 rw[zco,zdp m i (rowD i (zag K)) _ _ (fun o=>rfl) (fun o=>rfl)]
 refine zab (by simp;omega) ?_
 conv=>whnf
 refine zab (by simp;omega) ?_
 conv=>whnf
 refine zaa (zci (zae gf) (zaD _ _) (zee (fun o=>zmY _ 56 i (zag K) o) (oths m i))) ?_
 conv=>whnf
 refine zaa (zae gf) ?_
 conv=>whnf
 refine zab (by first|decide|omega|(simp;done)|(simp;omega)) ?_
 conv=>whnf
 obtain⟨V,h2,v2,g3⟩:=zcp (u:=.lst []) (hf.mv (Mv.push [] S (.lst ((oths m i).map (rowD i (zag K)))))) (zae gf)
 refine zaa (h2) ?_
 conv=>whnf
 exact⟨rfl,(Mv.push _ _ _).trans v2⟩
end
noncomputable def hlD (x:Nat × Nat × Nat × Nat):D:=.tup [.ref x.1,.ref x.2.1,.ref x.2.2.1,.ref x.2.2.2]
noncomputable def RwOk (A:List Nat)(T:R.St)(x:Nat × Nat × Nat × Nat):Prop:=∃(k:List Int) (h:List (List Int)),T.get x.1=some (.lst (k.map .int))/\T.get x.2.1=some (.lst (k.map .int))/\T.get x.2.2.1=some (.lst (h.map pD))/\T.get x.2.2.2=some (.lst (h.map pD))/\x.1∉A/\x.2.1∉A/\x.2.2.1∉A/\x.2.2.2∉A
theorem RwOk.mv {A:List Nat}{T U:R.St}{x:Nat × Nat × Nat × Nat}(h:RwOk A T x)(v:Mv A T U):RwOk A U x:=by
 obtain⟨k,h,a1,a2,a3,a4,b1,b2,b3,b4⟩:=h
 exact⟨k,h,v.old _ _ b1 a1,v.old _ _ b2 a2,v.old _ _ b3 a3,v.old _ _ b4 a4,b1,b2,b3,b4⟩
noncomputable abbrev AA (a wb hr lh ld:Nat):List Nat:=[a,wb,hr,lh,ld]
structure Cs (ws:List Int) (last:Int) (m lw a wb hr lh ld:Nat):Prop where
 nd:(AA a wb hr lh ld).Nodup
 lw:lw∉AA a wb hr lh ld
 w6:ws.length=6
 m7:m<=7
 l1:1<=last
 l8:last<=8
structure Bs (A:List Nat) (lw:Nat) (ws:List Int) (T:R.St):Prop where
 fz:T.frz=[]
 lk:T.lk=[]
 hA:∀x∈A,x<T.len
 gW:T.get lw=some (.lst (ws.map .int))
theorem Bs.mv {A:List Nat}{lw:Nat}{ws:List Int}{T U:R.St}(h:Bs A lw ws T)(v:Mv A T U)(hl:lw∉A):Bs A lw ws U:=⟨v.frz.trans h.fz,v.lk.trans h.lk,fun x hx=>Nat.lt_of_lt_of_le (h.hA x hx) v.len,v.old _ _ hl h.gW⟩
theorem Bs.fr {A:List Nat}{lw:Nat}{ws:List Int}{T:R.St}(h:Bs A lw ws T)(x:Nat):Fr T x:=⟨by rw[h.fz];exact Nat.zero_le _,by rw[h.lk];rfl⟩
theorem Bs.new {A:List Nat}{lw:Nat}{ws:List Int}{T:R.St}(h:Bs A lw ws T){x:Nat}(hx:T.len<=x):x∉A:=fun z=>by have:=h.hA x z;omega
structure Hn (a wb hr:Nat) (i:Int) (m:Nat) (last:Int) (K:List Int) (Hs:List (List Int)) (en:Option (Int × Int)) (T:R.St):Prop where
 ga:T.get a=some (hD i m last wb hr en)
 gw:T.get wb=some (.dic (kvD K))
 gh:T.get hr=some (.lst (Hs.map pD))
theorem Hn.mv {a wb hr:Nat}{i:Int}{m:Nat}{last:Int}{K:List Int}{Hs:List (List Int)}{en:Option (Int × Int)}{T U:R.St}{B:List Nat}(h:Hn a wb hr i m last K Hs en T)(v:Mv B T U)(h1:a∉B)(h2:wb∉B)(h3:hr∉B):Hn a wb hr i m last K Hs en U:=⟨v.old _ _ h1 h.ga,v.old _ _ h2 h.gw,v.old _ _ h3 h.gh⟩
structure Rs (A:List Nat) (ld:Nat) (rows:List (Nat × Nat × Nat × Nat)) (T:R.St):Prop where
 gd:T.get ld=some (.lst (rows.map hlD))
 ok:∀x∈rows,RwOk A T x
theorem Rs.mv {A B:List Nat}{ld:Nat}{rows:List (Nat × Nat × Nat × Nat)}{T U:R.St}(h:Rs A ld rows T)(v:Mv B T U)(hs:∀x∈B,x∈A)(hl:ld∉B):Rs A ld rows U:=⟨v.old _ _ hl h.gd,fun x hx=>(h.ok x hx).mv (v.up hs)⟩
@[irreducible] noncomputable def E (ns:List Int)(m:Nat)(i last:Int)(lw a lk lh:Nat)(en:Option (Int × Int))(ld:Nat)(v10 v11 v12 v13 v14 v15 v16 v17:Option D):Ev:=[some (.fix (ns.map .int)),some (.int m),some (.int i),some (.int last),some (.ref lw),some (.ref a),some (.ref lk),some (.ref lh),some (eD en),some (.ref ld),v10,v11,v12,v13,v14,v15,v16,v17]
noncomputable def LW (ns ws:List Int)(m:Nat)(i last:Int)(lw a wb hr lh ld:Nat)(j:Nat)(δ:Ev)(T:R.St):Prop:=∃(K:List Int) (Hs:List (List Int)) (en:Option (Int × Int)) (lk:Nat) (rows:List (Nat × Nat × Nat × Nat)) (v10 v11 v12 v13 v14 v15 v16 v17:Option D),
 δ=E ns m i last lw a lk lh en ld v10 v11 v12 v13 v14 v15 v16 v17/\Bs (AA a wb hr lh ld) lw ws T/\Hn a wb hr i m last K Hs en T/\T.get lk=some (.lst ((zag K).map .int))/\lk∉AA a wb hr lh ld/\T.get lh=some (.lst (Hs.map pD))/\Rs (AA a wb hr lh ld) ld rows T/\Sb ws K/\K≠[]/\Hs.length=j/\rows.length=j
noncomputable def PQ (ns ws:List Int)(m:Nat)(i last:Int)(lw a wb hr lh ld:Nat)(j:Nat)(f:Fl)(T:R.St):Prop:=match f with|.nx δ=>LW ns ws m i last lw a wb hr lh ld j δ T|.rt _=>False
theorem zf0 {cf:CF}{δ:Ev}{S:R.St}{Q:Fl->R.St->Prop}(h:Q (.nx δ) S):W (exS cf .nil δ S) Q:=by rw[exS];exact h
theorem zjp {cf:CF}{c e1:CE}{i:Nat}{k:Bool}{r:CS}{δ:Ev}{S:R.St}{d:D}{Q:Fl->R.St->Prop}(e:evT cf c δ S=.ok k S)(h:evE cf e1 δ S=.ok d S)(w:W (exS cf r (if k then δ.set i (some d) else δ) S) Q):W (exS cf (.ifS c (.asg i e1 .nil) .nil r) δ S) Q:=by
 rw[exS,e,zbf]
 cases k with
 |true=>simp only[if_true,exS,h,zbf];exact w
 |false=>simp only[Bool.false_eq_true,if_false,exS,zbf];exact w
section
variable {ns ws:List Int} {m:Nat} {i last t:Int} {lw a wb hr lh ld lk j:Nat} {T:R.St} {K:List Int} {Hs:List (List Int)} {en:Option (Int × Int)} {rows:List (Nat × Nat × Nat × Nat)} {v10 v11 v12 v13 v14 v15 v16 v17:Option D} {now:List Int}
noncomputable def c_P:CS:=(.expr (.mt .append (.loc 7) (.cons (.loc 13) .nil)) .nil)
theorem t_P (C:Cs ws last m lw a wb hr lh ld)(B:Bs (AA a wb hr lh ld) lw ws T)(H:Hn a wb hr i m last K (Hs++[now]) en T)(gk:T.get lk=some (.lst ((zag K).map .int)))(hk:lk∉AA a wb hr lh ld)(gl:T.get lh=some (.lst (Hs.map pD)))(R:Rs (AA a wb hr lh ld) ld rows T)(sb:Sb ws K)(k0:K≠[])(hj:Hs.length=j)(rj:rows.length=j+1)(j8:j<=8) :
  W (exS (callF prog 5) c_P (E ns m i last lw a lk lh en ld v10 v11 v12 (some (pD now)) v14 v15 v16 v17) T) (PQ ns ws m i last lw a wb hr lh ld (j+1)):=by
 have nd:=C.nd
 obtain⟨U,u1,u2,u3⟩:=zcp (u:=.lst (Hs.map pD++[pD now])) (B.fr lh) gl
 refine zct (W.of (S:=U) (d:=.non) (W.eq (wE_W _ ?_)) ?_)
 · unfold E
   conv=>whnf
   refine zaa (gl) ?_
   conv=>whnf
   refine zaa (gl) ?_
   conv=>whnf
   refine zab (by simp only[List.length_append,List.length_map,List.length_cons,List.length_nil];omega) ?_
   conv=>whnf
   refine zaa (u1) ?_
   conv=>whnf
   exact⟨rfl,rfl⟩
 have hs:∀x∈[lh],x∈AA a wb hr lh ld:=by simp
 refine zf0 ⟨K,Hs++[now],en,lk,rows,v10,v11,v12,_,v14,v15,v16,v17,rfl,B.mv (u2.up hs) C.lw,H.mv u2 ?_ ?_ ?_,u2.old _ _ ?_ gk,hk,?_,R.mv u2 hs ?_,sb,k0,by simp[hj],rj⟩
 · simp at nd⊢;omega
 · simp at nd⊢;omega
 · simp at nd⊢;omega
 · simp at hk⊢;omega
 · rw[List.map_append];exact u3
 · simp at nd⊢;omega
noncomputable def c_I:CS:=(.ifS (.and (.cmp .Is (.loc 8) (.con D.non)) (.or (.cmp .Eq (.loc 13) (.loc 17)) (.cmp .Eq (.loc 10) (.loc 3)))) (.asg 8 (.tup (.cons (.loc 10) (.cons (.ix (.loc 6) (.con (D.int 0))) .nil))) .nil) .nil c_P)
theorem t_I {bf:List Int}(C:Cs ws last m lw a wb hr lh ld)(B:Bs (AA a wb hr lh ld) lw ws T)(H:Hn a wb hr i m last K (Hs++[now]) (enZ en t last now bf K) T)(gk:T.get lk=some (.lst ((zag K).map .int)))(hk:lk∉AA a wb hr lh ld)(gl:T.get lh=some (.lst (Hs.map pD)))(R:Rs (AA a wb hr lh ld) ld rows T)(sb:Sb ws K)(k0:K≠[])(hj:Hs.length=j)(rj:rows.length=j+1)(j8:j<=8)(htl:t<=last) :
  W (exS (callF prog 5) c_I (E ns m i last lw a lk lh en ld (some (.int t)) v11 v12 (some (pD now)) v14 v15 v16 (some (pD bf))) T) (PQ ns ws m i last lw a wb hr lh ld (j+1)):=by
 have hne:zag K≠[]:=fun z=>k0 (by have:=zaH K;rw[z] at this;exact List.length_eq_zero_iff.mp this.symm)
 refine zjp (k:=en.isNone&&(decide (now=bf) || decide (t=last))) (d:=.tup [.int t,.int (hdZ (zag K))]) (W.eq (wT_W _ ?_)) (W.eq (wE_W _ ?_)) ?_
 · cases en with
   | some z =>
     unfold E
     conv=>whnf
     exact⟨rfl,rfl⟩
   | none =>
     unfold E
     conv=>whnf
     refine zaa (zlv _ _ _) ?_
     conv=>whnf
     refine zey (fun c=>?_) (fun c=>?_)
     · exact⟨by simp[c],rfl⟩
     · conv=>whnf
       exact⟨by simp[c],rfl⟩
 · unfold E
   conv=>whnf
   refine zaa (gk) ?_
   conv=>whnf
   obtain⟨x,r,hx⟩:=List.exists_cons_of_ne_nil hne
   rw[hx]
   refine zaa (zev) ?_
   conv=>whnf
   refine zab (by first|decide|omega|(simp;done)|(simp;omega)) ?_
   conv=>whnf
   exact⟨rfl,rfl⟩
 have key:(if (en.isNone&&(decide (now=bf) || decide (t=last)))=true then (E ns m i last lw a lk lh en ld (some (.int t)) v11 v12 (some (pD now)) v14 v15 v16 (some (pD bf))).set 8 (some (.tup [.int t,.int (hdZ (zag K))])) else E ns m i last lw a lk lh en ld (some (.int t)) v11 v12 (some (pD now)) v14 v15 v16 (some (pD bf)))=E ns m i last lw a lk lh (enZ en t last now bf K) ld (some (.int t)) v11 v12 (some (pD now)) v14 v15 v16 (some (pD bf)):=by
  cases en with
  |some z=>rfl
  | none =>
    unfold enZ E
    dsimp only
    by_cases c:now=bf\/last<=t
    · rw[if_pos c,if_pos (by rcases c with c|c;simp[c];simp[show t=last by omega])];rfl
    · rw[if_neg c,if_neg (by simp only[Option.isNone_none,Bool.true_and,Bool.or_eq_true,decide_eq_true_eq];rintro (z|z);exact c (.inl z);exact c (.inr (by omega)))]
 rw[key]
 exact t_P C B H gk hk gl R sb k0 hj rj j8
noncomputable def e_B:CE:=(.ix (.bin .Add (.lst (.cons (.mkT (.rng1 (.loc 1))) .nil)) (.loc 7)) (.neg (.con (D.int 1))))
noncomputable def c_B:CS:=(.asg 17 e_B c_I)
theorem t_B (C:Cs ws last m lw a wb hr lh ld)(B:Bs (AA a wb hr lh ld) lw ws T)(H:Hn a wb hr i m last K (Hs++[now]) (enZ en t last now (bfZ m Hs) K) T)(gk:T.get lk=some (.lst ((zag K).map .int)))(hk:lk∉AA a wb hr lh ld)(gl:T.get lh=some (.lst (Hs.map pD)))(R:Rs (AA a wb hr lh ld) ld rows T)(sb:Sb ws K)(k0:K≠[])(hj:Hs.length=j)(rj:rows.length=j+1)(j8:j<=8)(htl:t<=last) :
  W (exS (callF prog 5) c_B (E ns m i last lw a lk lh en ld (some (.int t)) v11 v12 (some (pD now)) v14 v15 v16 v17) T) (PQ ns ws m i last lw a wb hr lh ld (j+1)):=by
 have m7:=C.m7
 have key:W (evE (callF prog 5) e_B (E ns m i last lw a lk lh en ld (some (.int t)) v11 v12 (some (pD now)) v14 v15 v16 v17) T) fun d U=>d=pD (bfZ m Hs)/\Mv [] T U:=by
  refine wE_W _ ?_
  unfold E
  conv=>whnf
  refine zab (by omega) ?_
  conv=>whnf
  refine zab (by simp;omega) ?_
  conv=>whnf
  refine zab (by first|decide|omega|(simp;done)|(simp;omega)) ?_
  conv=>whnf
  refine zaa (zaD _ _) ?_
  conv=>whnf
  refine zaa (zae gl) ?_
  conv=>whnf
  refine zab (by simp;omega) ?_
  conv=>whnf
  refine zaa (zaD _ _) ?_
  conv=>whnf
  have:atI ([D.tup ((List.range (m:Int).toNat).map fun (k:Nat)=>D.int k)]++Hs.map pD) (-1)=some (pD (bfZ m Hs)):=by
   rw[zco]
   rcases List.eq_nil_or_concat Hs with rfl|⟨H0,x,rfl⟩
   · rfl
   · rw[List.concat_eq_append,List.map_append,<-List.append_assoc]
     exact (zeu _ _).trans (by simp[bfZ])
  refine zaa (this) ?_
  conv=>whnf
  exact⟨rfl,(Mv.push _ _ _).trans (Mv.push _ _ _)⟩
 refine zcz (key.mono ?_)
 rintro d U ⟨rfl,v⟩
 rw[show (E ns m i last lw a lk lh en ld (some (.int t)) v11 v12 (some (pD now)) v14 v15 v16 v17).set 17 (some (pD (bfZ m Hs)))=E ns m i last lw a lk lh en ld (some (.int t)) v11 v12 (some (pD now)) v14 v15 v16 (some (pD (bfZ m Hs))) by unfold E;rfl]
 exact t_I C (B.mv (v.up (by simp)) C.lw) (H.mv v (by simp) (by simp) (by simp)) (v.old _ _ (by simp) gk) hk (v.old _ _ (by simp) gl) (R.mv v (by simp) (by simp)) sb k0 hj rj j8 htl
end
theorem zhS {K p:List Int}(hn:K.Nodup)(hw:∀ws,Sb ws K->(∀x∈p,x∈ws)->Sb ws (ads K p)):zag (dedup (zag K++p))=zag (ads K p):=by
 have hn2:(ads K p).Nodup:=(hw (K++p) ⟨hn,fun x hx=>List.mem_append_left _ hx⟩ fun x hx=>List.mem_append_right _ hx).nd
 refine zbv ?_ (zaR _) (zaR _)
 refine (zaA _).trans (List.Perm.trans ?_ (zaA _).symm)
 refine (List.perm_ext_iff_of_nodup (zbE _) hn2).mpr fun x=>?_
 rw[zcu,List.mem_append,zfs,(zaA K).mem_iff]
noncomputable def zbw (Ls:List Ltr):List Ltr:=Ls.filter fun x=>x.2.isSome
theorem zda:∀(Ls:List Ltr) (K:List Int),lrn K (zbw Ls)=lrn K Ls
 | [],K=>rfl
 |(x,none)::Ls,K=>zda Ls K
 |(x,some p)::Ls,K=>zda Ls (ads K p)
theorem zck:∀Ls:List Ltr,(zbw Ls).map (·.1)=wrs Ls
 | []=>rfl
 |(x,none)::Ls=>zck Ls
 |(x,some p)::Ls=>congrArg (x::·) (zck Ls)
theorem zdJ {Ls:List Ltr}{x:Ltr}(h:x∈zbw Ls):x∈Ls/\∃p,x.2=some p:=by
 unfold zbw at h
 rw[List.mem_filter] at h
 exact⟨h.1,Option.isSome_iff_exists.mp h.2⟩
theorem zeB (Ls:List Ltr):(zbw Ls).length<=Ls.length:=List.length_filter_le _ _
section
variable {ns ws:List Int} {m:Nat} {i last t:Int} {lw a wb hr lh ld lk j l11 l12:Nat} {T:R.St} {K:List Int} {Hs:List (List Int)} {en:Option (Int × Int)} {rows:List (Nat × Nat × Nat × Nat)} {v10 v11 v12 v13 v14 v15 v16 v17:Option D} {now:List Int} {Ls Gs:List Ltr}
noncomputable def e_K:CE:=(.sset (.bin .Add (.loc 6) (.mkL (.val (.loc 16)))))
noncomputable def c_F:CS:=(.forS [15,16] (.val (.loc 12)) (.asg 6 e_K .nil) c_B)
theorem znp {p:List Int}{U:R.St}{K1:List Int}(gk:U.get lk=some (.lst ((zag K1).map .int)))(sb:Sb ws K1)(w6:ws.length=6)(hp:p.length<=10)(hpw:∀w∈p,w∈ws) :
  W (evE (callF prog 5) e_K (E ns m i last lw a lk lh en ld v10 v11 v12 v13 v14 v15 (some (pD p)) v17) U) fun d V=>∃l,d=.ref l/\U.len<=l/\Mv [] U V/\V.get l=some (.lst ((zag (ads K1 p)).map .int)):=by
 have hl:=sb.len
 have hl2:=(sb.ads hpw).len
 refine wE_W _ ?_
 unfold E
 conv=>whnf
 refine zab (by show (p.map D.int).length<=_;rw[List.length_map];omega) ?_
 conv=>whnf
 refine zaa (zae gk) ?_
 conv=>whnf
 refine zaa (zaD _ _) ?_
 conv=>whnf
 refine zab (by simp[zaH];omega) ?_
 conv=>whnf
 refine zaa (zc9 (ks:=zag K1++p) (by rw[List.map_append];exact zaD _ _)) ?_
 conv=>whnf
 refine zab (by rw[List.length_append,zaH];omega) ?_
 conv=>whnf
 rw[zhS sb.nd (fun ws s h=>s.ads h)]
 refine zab (by rw[List.length_map,zaH];omega) ?_
 conv=>whnf
 exact⟨_,rfl,by rw[plen,plen];omega,((Mv.push _ _ _).trans (Mv.push _ _ _)).trans (Mv.push _ _ _),zaD _ _⟩
noncomputable def KI (A:List Nat)(ns:List Int)(m:Nat)(i last:Int)(lw a lh:Nat)(en:Option (Int × Int))(ld:Nat)(v10 v11 v12 v13 v14 v17:Option D)(T:R.St)(K:List Int)(Gs:List Ltr)(j:Nat)(δ:Ev)(U:R.St):Prop:=∃(lk:Nat) (v15 v16:Option D),δ=E ns m i last lw a lk lh en ld v10 v11 v12 v13 v14 v15 v16 v17/\Mv [] T U/\lk∉A/\U.get lk=some (.lst ((zag (lrn K (Gs.take j))).map .int))
theorem t_F (C:Cs ws last m lw a wb hr lh ld)(B:Bs (AA a wb hr lh ld) lw ws T)(H:Hn a wb hr i m last (lrn K Ls) (Hs++[now]) (enZ en t last now (bfZ m Hs) (lrn K Ls)) T)(gk:T.get lk=some (.lst ((zag K).map .int)))(hk:lk∉AA a wb hr lh ld)(gl:T.get lh=some (.lst (Hs.map pD)))(Y:Rs (AA a wb hr lh ld) ld rows T)(sb:Sb ws K)(ok:LOk ws Ls)(k0:K≠[])(hj:Hs.length=j)(rj:rows.length=j+1)(j8:j<=8)(htl:t<=last)(g12:T.get l12=some (.lst ((zbw Ls).map ltD))) :
  W (exS (callF prog 5) c_F (E ns m i last lw a lk lh en ld (some (.int t)) v11 (some (.ref l12)) (some (pD now)) v14 v15 v16 v17) T) (PQ ns ws m i last lw a wb hr lh ld (j+1)):=by
 refine zem (xs:=(zbw Ls).map ltD) (ls:=[l12]) (S1:=T) (W.eq (wL_W _ ?_)) ?_
 · unfold E
   conv=>whnf
   refine zaa (g12) ?_
   conv=>whnf
   exact⟨rfl,rfl⟩
 refine W.mono (zbi (fun j δ U=>KI (AA a wb hr lh ld) ns m i last lw a lh en ld (some (.int t)) v11 (some (.ref l12)) (some (pD now)) v14 v17 {T with lk:=[l12]++T.lk} K (zbw Ls) j δ U) (fun _ _=>False) _ 0 _ _ ⟨lk,v15,v16,rfl,Mv.refl _ _,hk,by rw[List.take_zero];exact gk⟩ ?_) ?_
 · rintro jj z δ U hz ⟨lk',u15,u16,rfl,mv,hk',gk'⟩
   rw[Nat.zero_add] at gk'⊢
   rw[List.getElem?_map] at hz
   cases ej:(zbw Ls)[jj]? with
   |none=>rw[ej] at hz;cases hz
   | some x =>
     rw[ej] at hz
     cases hz
     obtain⟨hx,p,hp⟩:=zdJ (List.mem_of_getElem? ej)
     obtain⟨x1,x2⟩:=x
     cases (show x2=some p from hp)
     obtain⟨ol,ow⟩:=ok _ hx p rfl
     refine⟨E ns m i last lw a lk' lh en ld (some (.int t)) v11 (some (.ref l12)) (some (pD now)) v14 (some (.tup [.int x1])) (some (pD p)) v17,by unfold E;rfl,?_⟩
     have sb':Sb ws (lrn K ((zbw Ls).take jj)):=sb.lrn fun y hy=>ok y (zdJ (List.mem_of_mem_take hy)).1
     refine zcz ((znp gk' sb' C.w6 ol ow).mono ?_)
     rintro d V ⟨l,rfl,hl,v2,g2⟩
     rw[show (E ns m i last lw a lk' lh en ld (some (.int t)) v11 (some (.ref l12)) (some (pD now)) v14 (some (.tup [.int x1])) (some (pD p)) v17).set 6 (some (.ref l))=E ns m i last lw a l lh en ld (some (.int t)) v11 (some (.ref l12)) (some (pD now)) v14 (some (.tup [.int x1])) (some (pD p)) v17 by unfold E;rfl]
     refine zf0 ⟨l,_,_,rfl,mv.trans v2,?_,?_⟩
     · refine B.new ?_
       have h1:=mv.len
       have h2:({T with lk:=[l12]++T.lk}:R.St).len=T.len:=rfl
       omega
     · rw[zbu ej,zf6];exact g2
 · rintro f U hU
   cases f with
   |rt d=>exact hU.elim
   | nx δ =>
     obtain⟨lk',u15,u16,rfl,mv,hk',gk'⟩:=hU
     rw[Nat.zero_add,List.length_map,List.take_length,zda] at gk'
     have v:=mv.lock
     have gk':({U with lk:=T.lk}:R.St).get lk'=_:=gk'
     dsimp only
     generalize ({U with lk:=T.lk}:R.St)=U' at *
     exact t_B C (B.mv (v.up (by simp)) C.lw) (H.mv v (by simp) (by simp) (by simp)) gk' hk' (v.old _ _ (by simp) gl) (Y.mv v (by simp) (by simp)) (sb.lrn ok) (zjZ k0) hj rj j8 htl
noncomputable def e_H:CE:=(.or (.cmp .IsNot (.meth "hear" [(0,11)] (.loc 5) (.cons (.loc 10) (.cons (.loc 14) .nil))) (.con D.non)) (.cmp .NotEq (.loc 14) (.loc 11)))
noncomputable def c_D:CS:=(.asg 14 (.mkL (.val (.loc 11))) (.ifS e_H (.ret (.con (D.bl false)) .nil) .nil (.expr (.clr (.loc 14)) c_F)))
theorem zot (S:R.St)(Ls:List Ltr):∃xs,(Ls.map ltD).mapM (pd S 59)=some xs:=by
 refine⟨_,zee (g:=fun x=>.tuple [.tuple [.int x.1],match x.2 with|none=>.none|some p=>pP p]) (fun x=>?_) Ls⟩
 obtain⟨x1,x2⟩:=x
 cases x2 with
 |none=>rfl
 | some p =>
   have h:=zhG S 57 p
   show pd S 59 (.tup [.tup [.int x1],pD p])=_
   unfold pd
   rw[List.mapM_cons,List.mapM_cons,List.mapM_nil,h]
   rfl
theorem t_D (C:Cs ws last m lw a wb hr lh ld)(B:Bs (AA a wb hr lh ld) lw ws T)(H:Hn a wb hr i m last K Hs en T)(gk:T.get lk=some (.lst ((zag K).map .int)))(hk:lk∉AA a wb hr lh ld)(gl:T.get lh=some (.lst (Hs.map pD)))(Y:Rs (AA a wb hr lh ld) ld rows T)(sb:Sb ws K)(ok:LOk ws Ls)(k0:K≠[])(hj:Hs.length=j)(rj:rows.length=j+1)(j8:j<=8)(htl:t<=last)(hL:Ls.length<=7)
  (g11:T.get l11=some (.lst (Ls.map ltD))) (h11:l11∉AA a wb hr lh ld) (g12:T.get l12=some (.lst ((zbw Ls).map ltD))) (h12:l12∉AA a wb hr lh ld) :
  W (exS (callF prog 5) c_D (E ns m i last lw a lk lh en ld (some (.int t)) (some (.ref l11)) (some (.ref l12)) (some (pD (nowZ i Ls))) v14 v15 v16 v17) T) (PQ ns ws m i last lw a wb hr lh ld (j+1)):=by
 have nd:=C.nd
 have w6:=C.w6
 refine zaY (d:=.ref T.len) (S':=T.push (.lst (Ls.map ltD))) (W.eq (wE_W _ ?_)) ?_
 · unfold E
   conv=>whnf
   refine zaa (g11) ?_
   conv=>whnf
   refine zab (by show (Ls.map ltD).length<=_;rw[List.length_map];omega) ?_
   conv=>whnf
   exact⟨rfl,rfl⟩
 rw[show (E ns m i last lw a lk lh en ld (some (.int t)) (some (.ref l11)) (some (.ref l12)) (some (pD (nowZ i Ls))) v14 v15 v16 v17).set 14 (some (.ref T.len))=E ns m i last lw a lk lh en ld (some (.int t)) (some (.ref l11)) (some (.ref l12)) (some (pD (nowZ i Ls))) (some (.ref T.len)) v15 v16 v17 by unfold E;rfl]
 have key:W (evT (callF prog 5) e_H (E ns m i last lw a lk lh en ld (some (.int t)) (some (.ref l11)) (some (.ref l12)) (some (pD (nowZ i Ls))) (some (.ref T.len)) v15 v16 v17) (T.push (.lst (Ls.map ltD)))) fun k U=>k=false/\Mv [a,wb,hr] (T.push (.lst (Ls.map ltD))) U/\Hn a wb hr i m last (lrn K Ls) (Hs++[nowZ i Ls]) (enZ en t last (nowZ i Ls) (bfZ m Hs) (lrn K Ls)) U:=by
  have B1:=B.mv (Mv.push _ T (.lst (Ls.map ltD))) C.lw
  have H1:=H.mv (Mv.push [] T (.lst (Ls.map ltD))) (by simp) (by simp) (by simp)
  refine wT_W _ ?_
  unfold E
  conv=>whnf
  refine zaa (zaP H1.ga) ?_
  conv=>whnf
  refine zaa (rfl) ?_
  conv=>whnf
  refine zab rfl ?_
  conv=>whnf
  refine zex ((zne (n:=3) (ws:=ws) H1.ga (B1.fr _) (B1.fr _) (B1.fr _) B1.lk H1.gw H1.gh (zal _ _) C.m7 sb (by omega) ok (by omega) k0 (by omega)).mono ?_)
  rintro d U ⟨rfl,v,x1,x2,x3⟩
  conv=>whnf
  have q1:=v.old _ _ (by
   have:=B.hA
   have h1:=this a (by simp)
   have h2:=this wb (by simp)
   have h3:=this hr (by simp)
   simp;omega) (zal T (.lst (Ls.map ltD)))
  have q2:=v.old _ _ (by simp at h11⊢;omega) (zae (o:=.lst (Ls.map ltD)) g11)
  obtain⟨xs,hxs⟩:=zot U Ls
  refine zaa (zci q1 q2 hxs) ?_
  conv=>whnf
  exact⟨rfl,v,x1,x2,x3⟩
 refine zcW (key.mono ?_)
 rintro k U ⟨rfl,v,HU⟩
 refine⟨rfl,?_⟩
 have lA:=B.hA
 have q1:=v.old _ _ (by
  have h1:=lA a (by simp)
  have h2:=lA wb (by simp)
  have h3:=lA hr (by simp)
  simp;omega) (zal T (.lst (Ls.map ltD)))
 have BU:=(B.mv (Mv.push _ T (.lst (Ls.map ltD))) C.lw).mv (v.up (by simp)) C.lw
 obtain⟨V,u1,u2,u3⟩:=zcp (u:=.lst []) (BU.fr T.len) q1
 refine zct (W.of (S:=V) (d:=.non) (W.eq (wE_W _ ?_)) ?_)
 · unfold E
   conv=>whnf
   refine zaa (q1) ?_
   conv=>whnf
   refine zab (by first|decide|omega|(simp;done)|(simp;omega)) ?_
   conv=>whnf
   refine zaa (u1) ?_
   conv=>whnf
   exact⟨rfl,rfl⟩
 have mv:Mv [a,wb,hr] T V:=zhJ ((v.up (by intro x hx;exact List.mem_cons_of_mem _ hx)).trans (u2.up (by simp)))
 have HV:=HU.mv u2 (by have:=lA a (by simp);simp;omega) (by have:=lA wb (by simp);simp;omega) (by have:=lA hr (by simp);simp;omega)
 exact t_F C (B.mv (mv.up (by simp)) C.lw) HV (mv.old _ _ (by simp at hk⊢;omega) gk) hk (mv.old _ _ (by simp at nd⊢;omega) gl) (Y.mv mv (by simp) (by simp at nd⊢;omega)) sb ok k0 hj rj j8 htl (mv.old _ _ (by simp at h12⊢;omega) g12)
end
theorem zg3 {m:Nat}{i:Int}{Ls:List Ltr}(h:(Ls.map (·.1)).Sublist (oths m i)):(i::wrs Ls).Nodup:=by
 have s:(wrs Ls).Sublist (oths m i):=by
  rw[<-zck]
  exact ((List.filter_sublist).map _).trans h
 refine List.nodup_cons.mpr ⟨fun z=>?_,(zgJ m i).sublist s⟩
 have:=s.subset z
 unfold oths at this
 rw[List.mem_filter] at this
 simp at this
theorem zjV {m:Nat}{i:Int}{Ls:List Ltr}(h:(Ls.map (·.1)).Sublist (oths m i)):nowZ i Ls=zag (i::wrs Ls):=by
 unfold nowZ
 rw[zjy (zg3 h)]
section
variable {ns ws:List Int} {m:Nat} {i last t:Int} {lw a wb hr lh ld lk j l11 l12:Nat} {T:R.St} {K:List Int} {Hs:List (List Int)} {en:Option (Int × Int)} {rows:List (Nat × Nat × Nat × Nat)} {v10 v11 v12 v13 v14 v15 v16 v17:Option D} {now:List Int} {Ls Gs:List Ltr}
noncomputable def e_A:CE:=(.mt .append (.loc 9) (.cons (.tup (.cons (.meth "known" [(0,13)] (.loc 5) .nil) (.cons (.mkL (.val (.loc 6))) (.cons (.meth "heard_by" [(0,12)] (.loc 5) .nil) (.cons (.mkL (.val (.loc 7))) .nil))))) .nil))
noncomputable def c_A:CS:=(.expr e_A c_D)
theorem t_A (C:Cs ws last m lw a wb hr lh ld)(B:Bs (AA a wb hr lh ld) lw ws T)(H:Hn a wb hr i m last K Hs en T)(gk:T.get lk=some (.lst ((zag K).map .int)))(hk:lk∉AA a wb hr lh ld)(gl:T.get lh=some (.lst (Hs.map pD)))(Y:Rs (AA a wb hr lh ld) ld rows T)(sb:Sb ws K)(ok:LOk ws Ls)(k0:K≠[])(hj:Hs.length=j)(rj:rows.length=j)(j8:j<=8)(htl:t<=last)(hL:Ls.length<=7)
  (g11:T.get l11=some (.lst (Ls.map ltD))) (h11:l11∉AA a wb hr lh ld) (g12:T.get l12=some (.lst ((zbw Ls).map ltD))) (h12:l12∉AA a wb hr lh ld) :
  W (exS (callF prog 5) c_A (E ns m i last lw a lk lh en ld (some (.int t)) (some (.ref l11)) (some (.ref l12)) (some (pD (nowZ i Ls))) v14 v15 v16 v17) T) (PQ ns ws m i last lw a wb hr lh ld (j+1)):=by
 have nd:=C.nd
 have w6:=C.w6
 have sl:=sb.len
 have key:W (evE (callF prog 5) e_A (E ns m i last lw a lk lh en ld (some (.int t)) (some (.ref l11)) (some (.ref l12)) (some (pD (nowZ i Ls))) v14 v15 v16 v17) T) fun d U=>Mv [ld] T U/\∃x,RwOk (AA a wb hr lh ld) U x/\U.get ld=some (.lst ((rows++[x]).map hlD)):=by
  refine wE_W _ ?_
  unfold E
  conv=>whnf
  refine zaa (Y.gd) ?_
  conv=>whnf
  refine zaa (zaP H.ga) ?_
  conv=>whnf
  refine zaa (rfl) ?_
  conv=>whnf
  refine zab rfl ?_
  conv=>whnf
  refine zax (zeg (n:=4) H.ga H.gw (by omega)) ?_
  conv=>whnf
  have B1:=B.mv (Mv.push _ T (.lst ((zag K).map .int))) C.lw
  have H1:=H.mv (Mv.push [] T (.lst ((zag K).map .int))) (by simp) (by simp) (by simp)
  have gk1:=zae (o:=.lst ((zag K).map .int)) gk
  have gl1:=zae (o:=.lst ((zag K).map .int)) gl
  have gd1:=zae (o:=.lst ((zag K).map .int)) Y.gd
  have n1:=zal T (.lst ((zag K).map .int))
  have p1:=Mv.push [ld] T (.lst ((zag K).map .int))
  have s1:=plen T (.lst ((zag K).map .int))
  have x1:=B.new (Nat.le_refl T.len)
  generalize T.push (.lst ((zag K).map .int))=T1 at *
  refine zaa (gk1) ?_
  conv=>whnf
  refine zab (by show ((zag K).map D.int).length<=_;rw[List.length_map,zaH];omega) ?_
  conv=>whnf
  have B2:=B1.mv (Mv.push _ T1 (.lst ((zag K).map .int))) C.lw
  have H2:=H1.mv (Mv.push [] T1 (.lst ((zag K).map .int))) (by simp) (by simp) (by simp)
  have gl2:=zae (o:=.lst ((zag K).map .int)) gl1
  have gd2:=zae (o:=.lst ((zag K).map .int)) gd1
  have n12:=zae (o:=.lst ((zag K).map .int)) n1
  have n2:=zal T1 (.lst ((zag K).map .int))
  have p2:=p1.trans (Mv.push [ld] T1 (.lst ((zag K).map .int)))
  have x2:=B1.new (Nat.le_refl T1.len)
  generalize T1.push (.lst ((zag K).map .int))=T2 at *
  refine zaa (zaP H2.ga) ?_
  conv=>whnf
  refine zaa (rfl) ?_
  conv=>whnf
  refine zab rfl ?_
  conv=>whnf
  refine zax (zhN (n:=4) H2.ga H2.gh (by rw[List.length_map];omega)) ?_
  conv=>whnf
  have B3:=B2.mv (Mv.push _ T2 (.lst (Hs.map pD))) C.lw
  have gl3:=zae (o:=.lst (Hs.map pD)) gl2
  have gd3:=zae (o:=.lst (Hs.map pD)) gd2
  have n13:=zae (o:=.lst (Hs.map pD)) n12
  have n23:=zae (o:=.lst (Hs.map pD)) n2
  have n3:=zal T2 (.lst (Hs.map pD))
  have p3:=p2.trans (Mv.push [ld] T2 (.lst (Hs.map pD)))
  have x3:=B2.new (Nat.le_refl T2.len)
  generalize T2.push (.lst (Hs.map pD))=T3 at *
  refine zaa (gl3) ?_
  conv=>whnf
  refine zab (by show (Hs.map pD).length<=_;rw[List.length_map];omega) ?_
  conv=>whnf
  have B4:=B3.mv (Mv.push _ T3 (.lst (Hs.map pD))) C.lw
  have gd4:=zae (o:=.lst (Hs.map pD)) gd3
  have n14:=zae (o:=.lst (Hs.map pD)) n13
  have n24:=zae (o:=.lst (Hs.map pD)) n23
  have n34:=zae (o:=.lst (Hs.map pD)) n3
  have n4:=zal T3 (.lst (Hs.map pD))
  have p4:=p3.trans (Mv.push [ld] T3 (.lst (Hs.map pD)))
  have x4:=B3.new (Nat.le_refl T3.len)
  generalize T3.push (.lst (Hs.map pD))=T4 at *
  refine zab (by first|decide|omega|(simp;done)|(simp;omega)) ?_
  conv=>whnf
  refine zaa (gd4) ?_
  conv=>whnf
  refine zab (by simp only[List.length_append,List.length_map,List.length_cons,List.length_nil];omega) ?_
  conv=>whnf
  obtain⟨U,u1,u2,u3⟩:=zcp (u:=.lst (rows.map hlD++[.tup [.ref T.len,.ref T1.len,.ref T2.len,.ref T3.len]])) (B4.fr ld) gd4
  refine zaa (u1) ?_
  conv=>whnf
  have nl:∀{x:Nat},x∉AA a wb hr lh ld->x∉[ld]:=fun hx=>by simp at hx⊢;omega
  refine⟨p4.trans u2,(T.len,T1.len,T2.len,T3.len),⟨zag K,Hs,u2.old _ _ (nl x1) n14,u2.old _ _ (nl x2) n24,u2.old _ _ (nl x3) n34,u2.old _ _ (nl x4) n4,x1,x2,x3,x4⟩,?_⟩
  rw[u3,List.map_append]
  rfl
 refine zct (key.mono ?_)
 rintro d U ⟨v,x,rx,gd⟩
 have hs:∀x∈[ld],x∈AA a wb hr lh ld:=by simp
 refine t_D (rows:=rows++[x]) C (B.mv (v.up hs) C.lw) (H.mv v (by simp at nd⊢;omega) (by simp at nd⊢;omega) (by simp at nd⊢;omega)) (v.old _ _ (by simp at hk⊢;omega) gk) hk (v.old _ _ (by simp at nd⊢;omega) gl) ⟨gd,?_⟩ sb ok k0 hj (by simp[rj]) j8 htl hL (v.old _ _ (by simp at h11⊢;omega) g11) h11 (v.old _ _ (by simp at h12⊢;omega) g12) h12
 intro y hy
 rcases List.mem_append.mp hy with z|z
 · exact (Y.ok y z).mv (v.up hs)
 · simp only[List.mem_singleton] at z;subst z;exact rx
noncomputable def e_N:CE:=(.mkT (.val (.srt (.bin .Add (.lst (.cons (.loc 2) .nil)) (.mkL (.comp 1 [] [0] (.val (.loc 12)) (.tst (.con (D.bl true))) (.ix (.ix (.loc 0) (.con (D.int 0))) (.con (D.int 0)))))))))
noncomputable def c_N:CS:=(.asg 13 e_N c_A)
noncomputable def fstD:D->D|.tup (.tup [.int o]::_)=>.int o|d=>d
theorem v_N (hL:Ls.length<=7)(hsub:(Ls.map (·.1)).Sublist (oths m i))(g12:T.get l12=some (.lst ((zbw Ls).map ltD))) :
  W (evE (callF prog 5) e_N (E ns m i last lw a lk lh en ld v10 v11 (some (.ref l12)) v13 v14 v15 v16 v17) T) fun d U=>d=pD (nowZ i Ls)/\Mv [] T U:=by
 have sl:=zeB Ls
 refine wE_W _ ?_
 unfold E
 conv=>whnf
 refine zab (by first|decide|omega|(simp;done)|(simp;omega)) ?_
 conv=>whnf
 refine zaa (zae g12) ?_
 conv=>whnf
 refine zaV ?_
 refine W.of (zaB (fun _=>true) fstD _ none (fun z hz=>?_) (fun z hz _=>?_)) ?_
 · exact W.eq (wT_W _ (by conv => whnf
                          exact⟨rfl,rfl⟩))
 · obtain⟨o,_,rfl⟩:=List.mem_map.mp hz
   refine W.eq (wE_W _ ?_)
   conv=>whnf
   refine zaa (zev) ?_
   conv=>whnf
   refine zaa (zev) ?_
   conv=>whnf
   exact⟨rfl,rfl⟩
 have fl:(((zbw Ls).map ltD).filter (fun _=>true)).map fstD=(wrs Ls).map D.int:=by
  rw[List.filter_eq_self.mpr fun _ _=>rfl,<-zck,List.map_map,List.map_map]
  rfl
 rw[fl]
 have wl:=zfe Ls
 refine zab (by rw[List.length_map];omega) ?_
 conv=>whnf
 refine zab (by rw[List.length_map];omega) ?_
 conv=>whnf
 refine zaa (zae (zaD _ _)) ?_
 conv=>whnf
 refine zaa (zaD _ _) ?_
 conv=>whnf
 refine zab (by simp only[List.length_append,List.length_map,List.length_cons,List.length_nil];omega) ?_
 conv=>whnf
 refine zaa (zc9 (ks:=i::wrs Ls) (zaD _ _)) ?_
 conv=>whnf
 refine zab (by rw[List.length_cons];omega) ?_
 conv=>whnf
 rw[<-zjV hsub]
 have nl:(nowZ i Ls).length<=8:=by rw[zjV hsub,zaH,List.length_cons];omega
 refine zab (by rw[List.length_map];omega) ?_
 conv=>whnf
 refine zaa (zaD _ _) ?_
 conv=>whnf
 refine zab (by show ((nowZ i Ls).map D.int).length<=_;rw[List.length_map];omega) ?_
 conv=>whnf
 exact⟨rfl,(((Mv.push _ _ _).trans (Mv.push _ _ _)).trans (Mv.push _ _ _)).trans (Mv.push _ _ _)⟩
theorem t_N (C:Cs ws last m lw a wb hr lh ld)(B:Bs (AA a wb hr lh ld) lw ws T)(H:Hn a wb hr i m last K Hs en T)(gk:T.get lk=some (.lst ((zag K).map .int)))(hk:lk∉AA a wb hr lh ld)(gl:T.get lh=some (.lst (Hs.map pD)))(Y:Rs (AA a wb hr lh ld) ld rows T)(sb:Sb ws K)(ok:LOk ws Ls)(k0:K≠[])(hj:Hs.length=j)(rj:rows.length=j)(j8:j<=8)(htl:t<=last)(hL:Ls.length<=7)(hsub:(Ls.map (·.1)).Sublist (oths m i))
  (g11:T.get l11=some (.lst (Ls.map ltD))) (h11:l11∉AA a wb hr lh ld) (g12:T.get l12=some (.lst ((zbw Ls).map ltD))) (h12:l12∉AA a wb hr lh ld) :
  W (exS (callF prog 5) c_N (E ns m i last lw a lk lh en ld (some (.int t)) (some (.ref l11)) (some (.ref l12)) v13 v14 v15 v16 v17) T) (PQ ns ws m i last lw a wb hr lh ld (j+1)):=by
 refine zcz ((v_N hL hsub g12).mono ?_)
 rintro d U ⟨rfl,v⟩
 rw[show (E ns m i last lw a lk lh en ld (some (.int t)) (some (.ref l11)) (some (.ref l12)) v13 v14 v15 v16 v17).set 13 (some (pD (nowZ i Ls)))=E ns m i last lw a lk lh en ld (some (.int t)) (some (.ref l11)) (some (.ref l12)) (some (pD (nowZ i Ls))) v14 v15 v16 v17 by unfold E;rfl]
 exact t_A C (B.mv (v.up (by simp)) C.lw) (H.mv v (by simp) (by simp) (by simp)) (v.old _ _ (by simp) gk) hk (v.old _ _ (by simp) gl) (Y.mv v (by simp) (by simp)) sb ok k0 hj rj j8 htl hL (v.old _ _ (by simp) g11) h11 (v.old _ _ (by simp) g12) h12
noncomputable def e_S:CE:=(.mkL (.comp 1 [] [0] (.val (.loc 11)) (.cmp .IsNot (.ix (.loc 0) (.con (D.int 1))) (.con D.non)) (.loc 0)))
noncomputable def c_S:CS:=(.asg 12 e_S c_N)
noncomputable def zmd:D->Bool|.tup [_,.non]=>false|_=>true
theorem v_S (hL:Ls.length<=7)(g11:T.get l11=some (.lst (Ls.map ltD))) :
  evE (callF prog 5) e_S (E ns m i last lw a lk lh en ld v10 (some (.ref l11)) v12 v13 v14 v15 v16 v17) T=.ok (.ref T.len) (T.push (.lst ((zbw Ls).map ltD))):=by
 have sl:=zeB Ls
 refine W.eq (wE_W _ ?_)
 unfold E
 conv=>whnf
 refine zaa (g11) ?_
 conv=>whnf
 refine zaV ?_
 refine W.of (zaB zmd (fun d=>d) _ none (fun z hz=>?_) (fun z hz _=>?_)) ?_
 · obtain⟨x,_,rfl⟩:=List.mem_map.mp hz
   obtain⟨x1,x2⟩:=x
   refine W.eq (wT_W _ ?_)
   cases x2 with
   | none =>
     conv=>whnf
     refine zaa (zfH) ?_
     conv=>whnf
     exact⟨rfl,rfl⟩
   | some p =>
     conv=>whnf
     refine zaa (zfH) ?_
     conv=>whnf
     exact⟨rfl,rfl⟩
 · exact W.eq (wE_W _ (by conv => whnf
                          exact⟨rfl,rfl⟩))
 have fl:((Ls.map ltD).filter zmd).map (fun d=>d)=(zbw Ls).map ltD:=by
  rw[List.map_id',List.filter_map]
  unfold zbw
  congr 2
  funext x
  obtain⟨x1,x2⟩:=x
  cases x2<;>rfl
 rw[fl]
 refine zab (by rw[List.length_map];omega) ?_
 conv=>whnf
 refine zab (by rw[List.length_map];omega) ?_
 conv=>whnf
 exact⟨rfl,rfl⟩
theorem t_S (C:Cs ws last m lw a wb hr lh ld)(B:Bs (AA a wb hr lh ld) lw ws T)(H:Hn a wb hr i m last K Hs en T)(gk:T.get lk=some (.lst ((zag K).map .int)))(hk:lk∉AA a wb hr lh ld)(gl:T.get lh=some (.lst (Hs.map pD)))(Y:Rs (AA a wb hr lh ld) ld rows T)(sb:Sb ws K)(ok:LOk ws Ls)(k0:K≠[])(hj:Hs.length=j)(rj:rows.length=j)(j8:j<=8)(htl:t<=last)(hL:Ls.length<=7)(hsub:(Ls.map (·.1)).Sublist (oths m i))
  (g11:T.get l11=some (.lst (Ls.map ltD))) (h11:l11∉AA a wb hr lh ld) :
  W (exS (callF prog 5) c_S (E ns m i last lw a lk lh en ld (some (.int t)) (some (.ref l11)) v12 v13 v14 v15 v16 v17) T) (PQ ns ws m i last lw a wb hr lh ld (j+1)):=by
 refine zaY (v_S hL g11) ?_
 rw[show (E ns m i last lw a lk lh en ld (some (.int t)) (some (.ref l11)) v12 v13 v14 v15 v16 v17).set 12 (some (.ref T.len))=E ns m i last lw a lk lh en ld (some (.int t)) (some (.ref l11)) (some (.ref T.len)) v13 v14 v15 v16 v17 by unfold E;rfl]
 have v:=Mv.push [] T (.lst ((zbw Ls).map ltD))
 have g12:=zal T (.lst ((zbw Ls).map ltD))
 exact t_N C (B.mv (v.up (by simp)) C.lw) (H.mv v (by simp) (by simp) (by simp)) (v.old _ _ (by simp) gk) hk (v.old _ _ (by simp) gl) (Y.mv v (by simp) (by simp)) sb ok k0 hj rj j8 htl hL hsub (v.old _ _ (by simp) g11) h11 g12 (B.new (Nat.le_refl _))
noncomputable def c_L:CS:=(.asg 11 (.call 2 0 (.cons (.loc 0) (.cons (.loc 10) (.cons (.loc 2) (.cons (.loc 1) (.cons (.loc 4) .nil)))))) c_S)
theorem t_L (C:Cs ws last m lw a wb hr lh ld)(B:Bs (AA a wb hr lh ld) lw ws T)(H:Hn a wb hr i m last K Hs en T)(gk:T.get lk=some (.lst ((zag K).map .int)))(hk:lk∉AA a wb hr lh ld)(gl:T.get lh=some (.lst (Hs.map pD)))(Y:Rs (AA a wb hr lh ld) ld rows T)(sb:Sb ws K)(k0:K≠[])(hj:Hs.length=j)(rj:rows.length=j)(j8:j<=8)(htl:t<=last)(ht:0<=t) :
  W (exS (callF prog 5) c_L (E ns m i last lw a lk lh en ld (some (.int t)) v11 v12 v13 v14 v15 v16 v17) T) (PQ ns ws m i last lw a wb hr lh ld (j+1)):=by
 have m7:=C.m7
 obtain⟨Ls,e,hsub,ok⟩:=zhn (n:=3) (ns:=ns) (i:=i) B.gW C.w6 ht C.m7
 have hL:Ls.length<=7:=by
  have:=hsub.length_le
  have h2:=zcq m i
  rw[List.length_map] at this
  omega
 refine zaY (d:=.ref T.len) (S':=T.push (.lst (Ls.map ltD))) (W.eq (wE_W _ ?_)) ?_
 · unfold E
   conv=>whnf
   refine zax (e) ?_
   conv=>whnf
   exact⟨rfl,rfl⟩
 rw[show (E ns m i last lw a lk lh en ld (some (.int t)) v11 v12 v13 v14 v15 v16 v17).set 11 (some (.ref T.len))=E ns m i last lw a lk lh en ld (some (.int t)) (some (.ref T.len)) v12 v13 v14 v15 v16 v17 by unfold E;rfl]
 have v:=Mv.push [] T (.lst (Ls.map ltD))
 have g11:=zal T (.lst (Ls.map ltD))
 exact t_S C (B.mv (v.up (by simp)) C.lw) (H.mv v (by simp) (by simp) (by simp)) (v.old _ _ (by simp) gk) hk (v.old _ _ (by simp) gl) (Y.mv v (by simp) (by simp)) sb ok k0 hj rj j8 htl hL hsub g11 (B.new (Nat.le_refl _))
noncomputable def e_T:CE:=(.or (.nt (.tst (.call 5 0 (.cons (.loc 5) (.cons (.loc 6) (.cons (.loc 7) (.cons (.loc 8) .nil))))))) (.nt (.tst (.callW 6 0 (.cons (.meth "say" [(0,15)] (.loc 5) (.cons (.loc 10) .nil)) (.cons (.loc 2) (.cons (.loc 1) (.cons (.loc 6) .nil))))))))
noncomputable def c_T:CS:=(.ifS e_T (.ret (.con (D.bl false)) .nil) .nil c_L)
theorem t_T (C:Cs ws last m lw a wb hr lh ld)(B:Bs (AA a wb hr lh ld) lw ws T)(H:Hn a wb hr i m last K Hs en T)(gk:T.get lk=some (.lst ((zag K).map .int)))(hk:lk∉AA a wb hr lh ld)(gl:T.get lh=some (.lst (Hs.map pD)))(Y:Rs (AA a wb hr lh ld) ld rows T)(sb:Sb ws K)(k0:K≠[])(hj:Hs.length=j)(rj:rows.length=j)(j8:j<=8)(htl:t<=last)(ht:0<=t) :
  W (exS (callF prog 5) c_T (E ns m i last lw a lk lh en ld (some (.int t)) v11 v12 v13 v14 v15 v16 v17) T) (PQ ns ws m i last lw a wb hr lh ld (j+1)):=by
 have w6:=C.w6
 have sl:=sb.len
 have key:W (evT (callF prog 5) e_T (E ns m i last lw a lk lh en ld (some (.int t)) v11 v12 v13 v14 v15 v16 v17) T) fun k U=>k=false/\Mv [] T U:=by
  refine wT_W _ ?_
  unfold E
  conv=>whnf
  refine zax (zhm (n:=2) H.ga H.gw H.gh gk gl (by omega) (by omega)) ?_
  conv=>whnf
  refine zaa (zaP H.ga) ?_
  conv=>whnf
  refine zaa (rfl) ?_
  conv=>whnf
  refine zab rfl ?_
  conv=>whnf
  refine zax (zoB (n:=3) H.ga H.gw (by omega) C.m7) ?_
  conv=>whnf
  have B1:=(B.mv (Mv.push _ T (.lst ((zag K).map .int))) C.lw).mv (Mv.push _ (T.push (.lst ((zag K).map .int))) (.lst ((oths m i).map (rowD i (zag K))))) C.lw
  refine zex ((zmx (n:=4) (zal _ _) (zae (zae gk)) (B1.fr _) (by omega) C.m7).mono ?_)
  rintro d U ⟨rfl,v⟩
  conv=>whnf
  exact⟨rfl,(Mv.push [] T _).trans (zhJ v)⟩
 refine zcW (key.mono ?_)
 rintro k U ⟨rfl,v⟩
 exact⟨rfl,t_L C (B.mv (v.up (by simp)) C.lw) (H.mv v (by simp) (by simp) (by simp)) (v.old _ _ (by simp) gk) hk (v.old _ _ (by simp) gl) (Y.mv v (by simp) (by simp)) sb k0 hj rj j8 htl ht⟩
end
theorem zez {cf:CF}{e:CE}{rest:Ev}{S:R.St}{α:Type}(f:α->D)(P:α->Prop):∀(xs:List Int) (o:Option D),(∀y∈xs,∃x,evE cf e (some (.int y)::rest) S=.ok (f x) S/\P x)->
  ∃ys:List α,zbo [0] (evT cf (.tst (.con (.bl true)))) (evE cf e) (xs.map D.int) (o::rest) S=.ok (ys.map f) S/\ys.length=xs.length/\∀x∈ys,P x
 | [],o,_=>⟨[],rfl,rfl,fun x h=>by cases h⟩
 | y :: xs, o, h => by
   obtain⟨x,e1,pd⟩:=h y List.mem_cons_self
   obtain⟨ys,e2,l2,p2⟩:=zez (cf:=cf) (e:=e) (rest:=rest) (S:=S) f P xs (some (.int y)) fun z hz=>h z (List.mem_cons_of_mem _ hz)
   refine⟨x::ys,?_,by simp[l2],fun z hz=>?_⟩
   · simp only[List.map_cons,zbo,asgG,zdw,List.set_cons_zero]
     show Out.bind (.ok true S) _=_
     rw[zbf,if_pos rfl,e1,zbf,e2,zbf]
   · rcases List.mem_cons.mp hz with e|e
     · rw[e];exact pd
     · exact p2 z e
@[irreducible] noncomputable def E0 (ns:List Int)(v1 v2 v3 v4 v5 v6 v7 v8 v9:Option D):Ev:=[some (.fix (ns.map .int)),v1,v2,v3,v4,v5,v6,v7,v8,v9,none,none,none,none,none,none,none,none]
theorem E0_1 {ns:List Int}{v1 v2 v3 v4 v5 v6 v7 v8 v9:Option D}{d:D}:(E0 ns v1 v2 v3 v4 v5 v6 v7 v8 v9).set 1 (some d)=E0 ns (some d) v2 v3 v4 v5 v6 v7 v8 v9:=by unfold E0;rfl
theorem E0_2 {ns:List Int}{v1 v2 v3 v4 v5 v6 v7 v8 v9:Option D}{d:D}:(E0 ns v1 v2 v3 v4 v5 v6 v7 v8 v9).set 2 (some d)=E0 ns v1 (some d) v3 v4 v5 v6 v7 v8 v9:=by unfold E0;rfl
theorem E0_3 {ns:List Int}{v1 v2 v3 v4 v5 v6 v7 v8 v9:Option D}{d:D}:(E0 ns v1 v2 v3 v4 v5 v6 v7 v8 v9).set 3 (some d)=E0 ns v1 v2 (some d) v4 v5 v6 v7 v8 v9:=by unfold E0;rfl
theorem E0_4 {ns:List Int}{v1 v2 v3 v4 v5 v6 v7 v8 v9:Option D}{d:D}:(E0 ns v1 v2 v3 v4 v5 v6 v7 v8 v9).set 4 (some d)=E0 ns v1 v2 v3 (some d) v5 v6 v7 v8 v9:=by unfold E0;rfl
theorem E0_5 {ns:List Int}{v1 v2 v3 v4 v5 v6 v7 v8 v9:Option D}{d:D}:(E0 ns v1 v2 v3 v4 v5 v6 v7 v8 v9).set 5 (some d)=E0 ns v1 v2 v3 v4 (some d) v6 v7 v8 v9:=by unfold E0;rfl
theorem E0_6 {ns:List Int}{v1 v2 v3 v4 v5 v6 v7 v8 v9:Option D}{d:D}:(E0 ns v1 v2 v3 v4 v5 v6 v7 v8 v9).set 6 (some d)=E0 ns v1 v2 v3 v4 v5 (some d) v7 v8 v9:=by unfold E0;rfl
theorem E0_7 {ns:List Int}{v1 v2 v3 v4 v5 v6 v7 v8 v9:Option D}{d:D}:(E0 ns v1 v2 v3 v4 v5 v6 v7 v8 v9).set 7 (some d)=E0 ns v1 v2 v3 v4 v5 v6 (some d) v8 v9:=by unfold E0;rfl
theorem E0_8 {ns:List Int}{v1 v2 v3 v4 v5 v6 v7 v8 v9:Option D}{d:D}:(E0 ns v1 v2 v3 v4 v5 v6 v7 v8 v9).set 8 (some d)=E0 ns v1 v2 v3 v4 v5 v6 v7 (some d) v9:=by unfold E0;rfl
theorem E0_9 {ns:List Int}{v1 v2 v3 v4 v5 v6 v7 v8 v9:Option D}{d:D}:(E0 ns v1 v2 v3 v4 v5 v6 v7 v8 v9).set 9 (some d)=E0 ns v1 v2 v3 v4 v5 v6 v7 v8 (some d):=by unfold E0;rfl
noncomputable def TQ (r:Fl)(_:R.St):Prop:=match r with|.nx _=>False|.rt d=>d=.bl true
section
variable {ns ws:List Int} {m:Nat} {i last:Int} {lw a wb hr lh ld j:Nat} {T:R.St}
noncomputable def e_Z:CE:=(.nt (.tst (.all (.comp 1 [] [0] (.val (.loc 9)) (.tst (.con (D.bl true))) (.and (.cmp .Eq (.ix (.loc 0) (.con (D.int 0))) (.ix (.loc 0) (.con (D.int 1)))) (.cmp .Eq (.ix (.loc 0) (.con (D.int 2))) (.ix (.loc 0) (.con (D.int 3)))))))))
noncomputable def c_Z:CS:=(.ifS e_Z (.ret (.con (D.bl false)) .nil) .nil (.ret (.call 5 0 (.cons (.loc 5) (.cons (.loc 6) (.cons (.loc 7) (.cons (.loc 8) .nil))))) .nil))
theorem t_Z {δ:Ev}(w6:ws.length=6)(hj:j<=8)(h:LW ns ws m i last lw a wb hr lh ld j δ T):W (exS (callF prog 5) c_Z δ T) TQ:=by
 obtain⟨K,Hs,en,lk,rows,v10,v11,v12,v13,v14,v15,v16,v17,rfl,B,H,gk,hk,gl,Y,sb,k0,hHs,hrows⟩:=h
 have sl:=sb.len
 have key:evT (callF prog 5) e_Z (E ns m i last lw a lk lh en ld v10 v11 v12 v13 v14 v15 v16 v17) T=.ok false T:=by
  refine W.eq (wT_W _ ?_)
  unfold E
  conv=>whnf
  refine zaa (Y.gd) ?_
  conv=>whnf
  refine zaV ?_
  refine W.of (zaB (fun _=>true) (fun _=>.bl true) _ none (fun z hz=>?_) (fun z hz _=>?_)) ?_
  · exact W.eq (wT_W _ (by conv => whnf
                           exact⟨rfl,rfl⟩))
  · obtain⟨x,hx,rfl⟩:=List.mem_map.mp hz
    obtain⟨k,h,a1,a2,a3,a4,_⟩:=Y.ok x hx
    have g1:({T with lk:=[ld]++T.lk}:R.St).get x.1=_:=a1
    have g2:({T with lk:=[ld]++T.lk}:R.St).get x.2.1=_:=a2
    have g3:({T with lk:=[ld]++T.lk}:R.St).get x.2.2.1=_:=a3
    have g4:({T with lk:=[ld]++T.lk}:R.St).get x.2.2.2=_:=a4
    refine W.eq (wE_W _ ?_)
    conv=>whnf
    refine zaa (zev) ?_
    conv=>whnf
    refine zaa (zfH) ?_
    conv=>whnf
    refine zaa (zdt g1 g2 (zc7 _ _ _)) ?_
    conv=>whnf
    refine zaa ((show atI [D.ref x.1,D.ref x.2.1,D.ref x.2.2.1,D.ref x.2.2.2] 2=some (.ref x.2.2.1) from rfl)) ?_
    conv=>whnf
    refine zaa ((show atI [D.ref x.1,D.ref x.2.1,D.ref x.2.2.1,D.ref x.2.2.2] 3=some (.ref x.2.2.2) from rfl)) ?_
    conv=>whnf
    refine zaa (zdt g3 g4 (zjU _ 58 _)) ?_
    conv=>whnf
    exact⟨rfl,rfl⟩
  have fl:(rows.map hlD).filter (fun _=>true)=rows.map hlD:=List.filter_eq_self.mpr fun _ _=>rfl
  rw[fl]
  refine zab (by rw[List.length_map,List.length_map];omega) ?_
  conv=>whnf
  refine zaa (zgq (fun _ _=>rfl)) ?_
  conv=>whnf
  exact⟨rfl,rfl⟩
 refine zcW (W.of key ⟨rfl,?_⟩)
 refine zhp (W.of (S:=T) (d:=.bl true) (W.eq (wE_W _ ?_)) (show TQ (.rt (.bl true)) T from rfl))
 unfold E
 conv=>whnf
 refine zax (zhm (n:=2) H.ga H.gw H.gh gk gl (by omega) (by omega)) ?_
 conv=>whnf
 exact⟨rfl,rfl⟩
noncomputable def c_R:CS:=(.forS [10] (.rng2 (.con (D.int 1)) (.bin .Add (.loc 3) (.con (D.int 1)))) c_T c_Z)
theorem t_R {lk:Nat}{w0:Int}(C:Cs ws last m lw a wb hr lh ld)(B:Bs (AA a wb hr lh ld) lw ws T)(H:Hn a wb hr i m last [w0] [] none T)(gk:T.get lk=some (.lst [.int w0]))(hk:lk∉AA a wb hr lh ld)(gl:T.get lh=some (.lst []))(gd:T.get ld=some (.lst []))(hw0:w0∈ws) :
  W (exS (callF prog 5) c_R (E ns m i last lw a lk lh none ld none none none none none none none none) T) TQ:=by
 have l1:=C.l1
 have l8:=C.l8
 refine zem (xs:=(List.range (last+1 - 1).toNat).map fun (k:Nat)=>.int (1+k)) (ls:=[]) (S1:=T) (W.eq (wL_W _ ?_)) ?_
 · unfold E
   conv=>whnf
   refine zab (by omega) ?_
   conv=>whnf
   exact⟨rfl,rfl⟩
 refine W.mono (zbi (fun j δ U=>LW ns ws m i last lw a wb hr lh ld j δ U) (fun _ _=>False) _ 0 _ _ ⟨[w0],[],none,lk,[],_,_,_,_,_,_,_,_,rfl,B,H,gk,hk,gl,⟨gd,fun x hx=>by cases hx⟩,⟨by simp,fun x hx=>by simp only[List.mem_singleton] at hx;subst hx;exact hw0⟩,by simp,rfl,rfl⟩ ?_) ?_
 · rintro jj z δ U hz hI
   rw[Nat.zero_add] at hI⊢
   have hjl:jj<(last+1 - 1).toNat:=by
    have:=(List.getElem?_eq_some_iff.mp hz).1
    simpa using this
   have hz':z=.int (1+(jj:Int)):=by
    have:=(List.getElem?_eq_some_iff.mp hz).2
    rw[<-this];simp
   subst hz'
   obtain⟨K,Hs,en,lk,rows,v10,v11,v12,v13,v14,v15,v16,v17,rfl,B,H,gk,hk,gl,Y,sb,k0,hHs,hrows⟩:=hI
   refine⟨E ns m i last lw a lk lh en ld (some (.int (1+(jj:Int)))) v11 v12 v13 v14 v15 v16 v17,by unfold E;rfl,?_⟩
   exact (t_T C B H gk hk gl Y sb k0 hHs hrows (by omega) (by omega) (by omega)).mono fun f V hV=>by cases f<;>exact hV
 · rintro f U hU
   cases f with
   |rt d=>exact hU.elim
   | nx δ =>
     have hU:LW ns ws m i last lw a wb hr lh ld (0+_) δ U:=hU
     rw[Nat.zero_add,List.length_map,List.length_range] at hU
     have hk:U.lk=T.lk:=by
      obtain⟨K,Hs,en,lk,rows,v10,v11,v12,v13,v14,v15,v16,v17,rfl,B',_⟩:=hU
      rw[B'.lk,B.lk]
     dsimp only
     rw[zhP hk]
     exact t_Z C.w6 (by omega) hU
end
noncomputable def e_4:CE:=(.mkL (.comp 1 [0] [0] (.rng1 (.con (D.int 5))) (.tst (.con (D.bl true))) (.call 1 0 (.cons (.call 0 0 (.cons (.loc 1) (.cons (.bin .Add (.con (D.int 1)) (.loc 0)) .nil))) .nil))))
noncomputable def e_5a:CE:=(.mt .append (.loc 4) (.cons (.ix (.loc 4) (.bin .Mod (.bin .FloorDiv (.call 0 0 (.cons (.loc 0) (.cons (.con (D.int 1)) .nil))) (.con (D.int 3))) (.con (D.int 5)))) .nil))
noncomputable def e_5:CE:=(.mk 0 8 "FloodHand" 0 (.cons (.loc 2) (.cons (.loc 1) (.cons (.loc 3) (.cons (.ix (.loc 4) (.con (D.int 0))) .nil)))))
noncomputable def e_6:CE:=(.or (.nt (.tst (.isc [0] "Hand" (.loc 5)))) (.cmp .NotEq (.lst (.cons (.fld (.loc 5) "number") (.cons (.fld (.loc 5) "many") (.cons (.fld (.loc 5) "rounds") .nil)))) (.lst (.cons (.loc 2) (.cons (.loc 1) (.cons (.loc 3) .nil))))))
noncomputable def c_4:CS:=(.asg 6 (.lst (.cons (.ix (.loc 4) (.con (D.int 0))) .nil)) (.asg 7 (.lst .nil) (.asg 8 (.con D.non) (.asg 9 (.lst .nil) c_R))))
noncomputable def c_3:CS:=(.asg 5 e_5 (.ifS e_6 (.ret (.con (D.bl false)) .nil) .nil c_4))
noncomputable def c_2:CS:=(.asg 4 e_4 (.expr e_5a c_3))
noncomputable def c_1:CS:=(.asg 1 (.bin .Add (.con (D.int 1)) (.bin .Mod (.call 0 0 (.cons (.loc 0) (.cons (.con (D.int 0)) .nil))) (.con (D.int 7)))) (.asg 2 (.bin .Mod (.bin .FloorDiv (.call 0 0 (.cons (.loc 0) (.cons (.con (D.int 0)) .nil))) (.con (D.int 7))) (.loc 1)) (.asg 3 (.bin .Add (.con (D.int 1)) (.bin .Mod (.bin .FloorDiv (.call 0 0 (.cons (.loc 0) (.cons (.con (D.int 0)) .nil))) (.con (D.int 49))) (.con (D.int 8)))) c_2)))
theorem zjm:c_law.body=c_1:=rfl
section
variable {ns ws:List Int} {m:Nat} {i last:Int} {w0:Int} {T:R.St}
theorem t_4 {a wb hr:Nat}{v6 v7 v8 v9:Option D}(hw:ws=w0::ws.tail)(w6:ws.length=6)(m7:m<=7)(l1:1<=last)(l8:last<=8)(fz:T.frz=[])(tlk:T.lk=[])(gW:T.get 0=some (.lst (ws.map .int)))(h1:1<=a)(h2:a<wb)(h3:a<hr)(H:Hn a wb hr i m last [w0] [] none T) :
  W (exS (callF prog 5) c_4 (E0 ns (some (.int m)) (some (.int i)) (some (.int last)) (some (.ref 0)) (some (.ref a)) v6 v7 v8 v9) T) TQ:=by
 have nwh:wb≠hr:=fun z=>by have:=H.gw;rw[z,H.gh] at this;cases this
 have la:=zbe H.ga
 have lb:=zbe H.gw
 have lc:=zbe H.gh
 refine zaY (d:=.ref T.len) (S':=T.push (.lst [.int w0])) (W.eq (wE_W _ ?_)) ?_
 · unfold E0
   conv=>whnf
   refine zaa (gW) ?_
   conv=>whnf
   refine zaa ((show atI (ws.map D.int) 0=some (.int w0) by rw[hw];exact zev)) ?_
   conv=>whnf
   refine zab (by first|decide|omega|(simp;done)|(simp;omega)) ?_
   conv=>whnf
   exact⟨rfl,rfl⟩
 rw[E0_6]
 have p1:=Mv.push [] T (.lst [.int w0])
 have n1:=zal T (.lst [.int w0])
 have s1:=plen T (.lst [.int w0])
 generalize T.push (.lst [.int w0])=T1 at *
 refine zaY (d:=.ref T1.len) (S':=T1.push (.lst [])) (W.eq (wE_W _ ?_)) ?_
 · unfold E0
   conv=>whnf
   refine zab (by first|decide|omega|(simp;done)|(simp;omega)) ?_
   conv=>whnf
   exact⟨rfl,rfl⟩
 rw[E0_7]
 have p2:=p1.trans (Mv.push [] T1 (.lst []))
 have n12:=zae (o:=.lst []) n1
 have n2:=zal T1 (.lst [])
 have s2:=plen T1 (.lst [])
 generalize T1.push (.lst [])=T2 at *
 refine zaY (d:=.non) (S':=T2) (W.eq (wE_W _ ?_)) ?_
 · unfold E0
   conv=>whnf
   exact⟨rfl,rfl⟩
 rw[E0_8]
 refine zaY (d:=.ref T2.len) (S':=T2.push (.lst [])) (W.eq (wE_W _ ?_)) ?_
 · unfold E0
   conv=>whnf
   refine zab (by first|decide|omega|(simp;done)|(simp;omega)) ?_
   conv=>whnf
   exact⟨rfl,rfl⟩
 rw[E0_9]
 have p3:=p2.trans (Mv.push [] T2 (.lst []))
 have n13:=zae (o:=.lst []) n12
 have n23:=zae (o:=.lst []) n2
 have n3:=zal T2 (.lst [])
 have s3:=plen T2 (.lst [])
 generalize T2.push (.lst [])=T3 at *
 rw[show E0 ns (some (.int m)) (some (.int i)) (some (.int last)) (some (.ref 0)) (some (.ref a)) (some (.ref T.len)) (some (.ref T1.len)) (some .non) (some (.ref T2.len))=E ns m i last 0 a T.len T1.len none T2.len none none none none none none none none by unfold E0 E;rfl]
 refine t_R (ws:=ws) (wb:=wb) (hr:=hr) (w0:=w0) ⟨?_,?_,w6,m7,l1,l8⟩ ⟨p3.frz.trans fz,p3.lk.trans tlk,?_,p3.old _ _ (by simp) gW⟩ (H.mv p3 (by simp) (by simp) (by simp)) n13 ?_ n23 n3 (by rw[hw];exact List.mem_cons_self)
 · simp;omega
 · simp;omega
 · intro x hx
   simp at hx
   omega
 · simp;omega
theorem v_5 (hw:ws=w0::ws.tail) :
  W (evE (callF prog 5) e_5 (E0 ns (some (.int m)) (some (.int i)) (some (.int last)) (some (.ref 0)) none none none none none) ⟨[],[.lst (ws.map .int)],[]⟩) fun d T=>d=.ref 1/\T.frz=[]/\T.lk=[]/\T.get 0=some (.lst (ws.map .int))/\∃wb hr,1<wb/\1<hr/\Hn 1 wb hr i m last [w0] [] none T:=by
 refine wE_W _ ?_
 unfold E0
 conv=>whnf
 refine zaa ((show (R.St.mk [] [.lst (ws.map .int)] []).get 0=some (.lst (ws.map .int)) from rfl)) ?_
 conv=>whnf
 refine zaa ((show atI (ws.map D.int) 0=some (.int w0) by rw[hw];exact zev)) ?_
 conv=>whnf
 refine zex ((znd (n:=3) (a:=1) (S:=⟨[],[.lst (ws.map .int),.ins 0 []],[]⟩) (i:=i) (m:=(m:Int)) (r:=last) (w:=w0) rfl ⟨Nat.zero_le _,rfl⟩).mono ?_)
 rintro d T ⟨rfl,v,wb,hr,h1,h2,h3,h4,h5⟩
 conv=>whnf
 refine zab rfl ?_
 conv=>whnf
 exact⟨rfl,v.frz,v.lk,v.old 0 _ (by simp) rfl,wb,hr,h1,h2,⟨h3,h4,h5⟩⟩
theorem t_3 (hw:ws=w0::ws.tail)(w6:ws.length=6)(m7:m<=7)(l1:1<=last)(l8:last<=8) :
  W (exS (callF prog 5) c_3 (E0 ns (some (.int m)) (some (.int i)) (some (.int last)) (some (.ref 0)) none none none none none) ⟨[],[.lst (ws.map .int)],[]⟩) TQ:=by
 refine zcz ((v_5 hw).mono ?_)
 rintro d T ⟨rfl,fz,lk,g0,wb,hr,h1,h2,H⟩
 rw[E0_5]
 refine zcW (W.of (d:=false) (S:=(T.push (.lst [.int i,.int m,.int last])).push (.lst [.int i,.int m,.int last])) (W.eq (wT_W _ ?_)) ⟨rfl,?_⟩)
 · unfold E0
   conv=>whnf
   refine zaa (zaP H.ga) ?_
   conv=>whnf
   refine zaa (zcY H.ga) ?_
   conv=>whnf
   refine zaa (zie H.ga) ?_
   conv=>whnf
   refine zaa (zge H.ga) ?_
   conv=>whnf
   refine zab (by first|decide|omega|(simp;done)|(simp;omega)) ?_
   conv=>whnf
   refine zab (by first|decide|omega|(simp;done)|(simp;omega)) ?_
   conv=>whnf
   refine zaa (zci (zae (zaD _ _)) (zaD _ _) (zc7 _ _ [i,m,last])) ?_
   conv=>whnf
   exact⟨rfl,rfl⟩
 have v:=(Mv.push [] T (.lst [.int i,.int m,.int last])).trans (Mv.push [] _ (.lst [.int i,.int m,.int last]))
 exact t_4 hw w6 m7 l1 l8 (v.frz.trans fz) (v.lk.trans lk) (v.old _ _ (by simp) g0) (Nat.le_refl 1) h1 h2 (H.mv v (by simp) (by simp) (by simp))
theorem v_4 {v5 v6 v7 v8 v9:Option D}:∃ys:List Int,evE (callF prog 5) e_4 (E0 ns (some (.int m)) (some (.int i)) (some (.int last)) none v5 v6 v7 v8 v9) ⟨[],[],[]⟩=.ok (.ref 0) ⟨[],[.lst (ys.map .int)],[]⟩/\ys.length=5:=by
 obtain⟨ys,e,hl,_⟩:=zez (cf:=callF prog 5) (e:=.call 1 0 (.cons (.call 0 0 (.cons (.loc 1) (.cons (.bin .Add (.con (D.int 1)) (.loc 0)) .nil))) .nil)) (rest:=[some (.fix (ns.map .int))]) (S:=⟨[],[],[]⟩) D.int (fun _=>True) (hnds 5) none (fun y hy=>by
  obtain⟨v,hv⟩:=zkG (n:=4) (S:=⟨[],[],[]⟩) (c:=cellZ ns (1+y).toNat)
  refine⟨v,W.eq (wE_W _ ?_),trivial⟩
  have:=hnds_mem.mp hy
  conv=>whnf
  refine zax (zho (n:=4) (k:=1+y) (by omega)) ?_
  conv=>whnf
  refine zax (hv) ?_
  conv=>whnf
  exact⟨rfl,rfl⟩)
 refine⟨ys,W.eq (wE_W _ ?_),by simpa[hnds] using hl⟩
 have hl:ys.length=5:=by simpa[hnds] using hl
 unfold E0
 conv=>whnf
 refine zab (by first|decide|omega|(simp;done)|(simp;omega)) ?_
 conv=>whnf
 refine zaV ?_
 refine W.of e ?_
 refine zab (by rw[List.length_map];omega) ?_
 conv=>whnf
 refine zab (by rw[List.length_map];omega) ?_
 conv=>whnf
 exact⟨rfl,rfl⟩
theorem t_2 (m7:m<=7)(l1:1<=last)(l8:last<=8) :
  W (exS (callF prog 5) c_2 (E0 ns (some (.int m)) (some (.int i)) (some (.int last)) none none none none none none) ⟨[],[],[]⟩) TQ:=by
 obtain⟨ys,e,hl⟩:=v_4 (ns:=ns) (m:=m) (i:=i) (last:=last) (v5:=none) (v6:=none) (v7:=none) (v8:=none) (v9:=none)
 refine zaY e ?_
 rw[E0_4]
 obtain⟨w,_,hw⟩:=ziz (ws:=ys) (v:=cellZ ns 1 / 3 % 5) (by omega) (by omega)
 refine zct (W.of (d:=.non) (S:=⟨[],[.lst ((ys++[w]).map .int)],[]⟩) (W.eq (wE_W _ ?_)) ?_)
 · have g0:(R.St.mk [] [.lst (ys.map .int)] []).get 0=some (.lst (ys.map .int)):=rfl
   unfold E0
   conv=>whnf
   refine zaa (g0) ?_
   conv=>whnf
   refine zax (zeH (n:=4) (k:=1)) ?_
   conv=>whnf
   refine zab (by first|decide|omega|(simp;done)|(simp;omega)) ?_
   conv=>whnf
   refine zab (by first|decide|omega|(simp;done)|(simp;omega)) ?_
   conv=>whnf
   refine zaa (g0) ?_
   conv=>whnf
   refine zaa (hw) ?_
   conv=>whnf
   refine zaa (g0) ?_
   conv=>whnf
   refine zab (by simp only[List.length_append,List.length_map,List.length_cons,List.length_nil];omega) ?_
   conv=>whnf
   refine zaa ((show (R.St.mk [] [.lst (ys.map .int)] []).put 0 (.lst (ys.map .int++[.int w]))=some ⟨[],[.lst (ys.map .int++[.int w])],[]⟩ from rfl)) ?_
   conv=>whnf
   exact⟨rfl,by rw[List.map_append];rfl⟩
 obtain⟨w0,r,rfl⟩:=List.exists_cons_of_ne_nil (show ys≠[] by intro z;rw[z] at hl;cases hl)
 exact t_3 (w0:=w0) rfl (by rw[List.length_append,hl];rfl) m7 l1 l8
end
theorem law_true (ns:List Int)(h:ns.length<=63):W (callF prog 6 7 [.fix (ns.map .int)] ⟨[],[],[]⟩) fun d _=>d=.bl true:=by
 refine znF (F:=c_law) rfl rfl rfl ?_
 rw[zjm,show zbk c_law [.fix (ns.map .int)]=E0 ns none none none none none none none none none by unfold E0;rfl]
 have w0:∀{S:R.St} {δ:Ev} {r:CS},W (exS (callF prog 5) r δ S) TQ->W (exS (callF prog 5) r δ S) (fun r T=>match r with|.nx _=>D.non=.bl true|.rt d=>d=.bl true):=fun w=>w.mono fun r T q=>by cases r with|nx _=>exact q.elim|rt d=>exact q
 refine w0 ?_
 have hm0:=Int.emod_nonneg (cellZ ns 0) (by decide:(7:Int)≠0)
 have hm7:=Int.emod_lt_of_pos (cellZ ns 0) (by decide:(0:Int)<7)
 obtain⟨m,hm⟩:∃m:Nat,1+cellZ ns 0 % 7=m:=⟨(1+cellZ ns 0 % 7).toNat,by omega⟩
 refine zaY (d:=.int m) (S':=⟨[],[],[]⟩) (W.eq (wE_W _ ?_)) ?_
 · unfold E0
   conv=>whnf
   refine zax (zeH (n:=4) (k:=0)) ?_
   conv=>whnf
   refine zab (by first|decide|omega|(simp;done)|(simp;omega)) ?_
   conv=>whnf
   rw[hm]
   exact⟨rfl,rfl⟩
 rw[E0_1]
 refine zaY (d:=.int (cellZ ns 0 / 7 % m)) (S':=⟨[],[],[]⟩) (W.eq (wE_W _ ?_)) ?_
 · unfold E0
   conv=>whnf
   refine zax (zeH (n:=4) (k:=0)) ?_
   conv=>whnf
   refine zab (by first|decide|omega|(simp;done)|(simp;omega)) ?_
   conv=>whnf
   refine zab (by omega) ?_
   conv=>whnf
   exact⟨rfl,rfl⟩
 rw[E0_2]
 refine zaY (d:=.int (1+cellZ ns 0 / 49 % 8)) (S':=⟨[],[],[]⟩) (W.eq (wE_W _ ?_)) ?_
 · unfold E0
   conv=>whnf
   refine zax (zeH (n:=4) (k:=0)) ?_
   conv=>whnf
   refine zab (by first|decide|omega|(simp;done)|(simp;omega)) ?_
   conv=>whnf
   refine zab (by first|decide|omega|(simp;done)|(simp;omega)) ?_
   conv=>whnf
   exact⟨rfl,rfl⟩
 rw[E0_3]
 exact t_2 (by omega) (by omega) (by omega)
end
section
open PySem R L2
set_option maxHeartbeats 0 in
theorem all_mk {l:PySem.W.OpenLaw}{w:World}{K:PySem.W.Frag}{h:Heap}{mg:Str->Option Value}{fa f1 f2 f3 f4 f5 f6 f7 f8 fm9 fm10 fm11 fm12 fm13 fm14 fm15 fm16 fm17 hC_Hand iC_Hand:Addr}(X:K.In h)(G:h.Ns mainGlobals mg)(hfa:mg "law"=some (.ref fa))
  {odm9 anm9 odm10 anm10 odm11 anm11 odm12 anm12 odm13 anm13 odm14 anm14 odm15 anm15 odm16 anm16 odm17 anm17:Option Addr} {slm9 slm10 slm11 slm12 slm13 slm14 slm15 slm16 slm17:Array (Option Value)} {ocm9 kVm9 dcm9 pmm9 cdm9 ctm9 ocm10 kVm10 dcm10 pmm10 cdm10 ctm10 ocm11 kVm11 dcm11 pmm11 cdm11 ctm11 ocm12 kVm12 dcm12 pmm12 cdm12 ctm12 ocm13 kVm13 dcm13 pmm13 cdm13 ctm13 ocm14 kVm14 dcm14 pmm14 cdm14 ctm14 ocm15 kVm15 dcm15 pmm15 cdm15 ctm15 ocm16 kVm16 dcm16 pmm16 cdm16 ctm16 ocm17 kVm17 dcm17 pmm17 cdm17 ctm17:Value}
  {od1 an1 od2 an2 od3 an3 od4 an4 od5 an5 od6 an6 od7 an7 od8 an8:Option Addr} {sl1 sl2 sl3 sl4 sl5 sl6 sl7 sl8:Array (Option Value)} {oc1 kV1 dc1 pm1 cd1 ct1 oc2 kV2 dc2 pm2 cd2 ct2 oc3 kV3 dc3 pm3 cd3 ct3 oc4 kV4 dc4 pm4 cd4 ct4 oc5 kV5 dc5 pm5 cd5 ct5 oc6 kV6 dc6 pm6 cd6 ct6 oc7 kV7 dc7 pm7 cd7 ct7 oc8 kV8 dc8 pm8 cd8 ct8:Value}
  (a1:PySem.W.nsIn K mainGlobals "_law_cell_at"=some (some (.ref f1))) (l1:K.lookup f1=some ⟨oc1,od1,.func (PySem.W.fnOf "_law_cell_at" "_law_cell_at" (zaC zaz) (zai zaz) (zad zaz) .none kV1 dc1 pm1 an1 cd1 ct1),sl1⟩) (c1:PySem.W.codeIn K cd1 "_law_cell_at"=true) (k1:PySem.W.keepIn K (.ref f1)=true)
  (a2:PySem.W.nsIn K mainGlobals "_law_word"=some (some (.ref f2))) (l2:K.lookup f2=some ⟨oc2,od2,.func (PySem.W.fnOf "_law_word" "_law_word" (zaC zaS) (zai zaS) (zad zaS) .none kV2 dc2 pm2 an2 cd2 ct2),sl2⟩) (c2:PySem.W.codeIn K cd2 "_law_word"=true) (k2:PySem.W.keepIn K (.ref f2)=true)
  (a3:PySem.W.nsIn K mainGlobals "_law_letters"=some (some (.ref f3))) (l3:K.lookup f3=some ⟨oc3,od3,.func (PySem.W.fnOf "_law_letters" "_law_letters" (zaC zay) (zai zay) (zad zay) .none kV3 dc3 pm3 an3 cd3 ct3),sl3⟩) (c3:PySem.W.codeIn K cd3 "_law_letters"=true) (k3:PySem.W.keepIn K (.ref f3)=true)
  (a4:PySem.W.nsIn K mainGlobals "_law_whole"=some (some (.ref f4))) (l4:K.lookup f4=some ⟨oc4,od4,.func (PySem.W.fnOf "_law_whole" "_law_whole" (zaC zaJ) (zai zaJ) (zad zaJ) .none kV4 dc4 pm4 an4 cd4 ct4),sl4⟩) (c4:PySem.W.codeIn K cd4 "_law_whole"=true) (k4:PySem.W.keepIn K (.ref f4)=true)
  (a5:PySem.W.nsIn K mainGlobals "_law_end"=some (some (.ref f5))) (l5:K.lookup f5=some ⟨oc5,od5,.func (PySem.W.fnOf "_law_end" "_law_end" (zaC za3) (zai za3) (zad za3) .none kV5 dc5 pm5 an5 cd5 ct5),sl5⟩) (c5:PySem.W.codeIn K cd5 "_law_end"=true) (k5:PySem.W.keepIn K (.ref f5)=true)
  (a6:PySem.W.nsIn K mainGlobals "_law_state"=some (some (.ref f6))) (l6:K.lookup f6=some ⟨oc6,od6,.func (PySem.W.fnOf "_law_state" "_law_state" (zaC zaK) (zai zaK) (zad zaK) .none kV6 dc6 pm6 an6 cd6 ct6),sl6⟩) (c6:PySem.W.codeIn K cd6 "_law_state"=true) (k6:PySem.W.keepIn K (.ref f6)=true)
  (a7:PySem.W.nsIn K mainGlobals "_law_said"=some (some (.ref f7))) (l7:K.lookup f7=some ⟨oc7,od7,.func (PySem.W.fnOf "_law_said" "_law_said" (zaC zaT) (zai zaT) (zad zaT) .none kV7 dc7 pm7 an7 cd7 ct7),sl7⟩) (c7:PySem.W.codeIn K cd7 "_law_said"=true) (k7:PySem.W.keepIn K (.ref f7)=true)
  (a8:PySem.W.nsIn K mainGlobals "law"=some (some (.ref f8))) (l8:K.lookup f8=some ⟨oc8,od8,.func (PySem.W.fnOf "law" "law" (zaC zbO) (zai zbO) (zad zbO) .none kV8 dc8 pm8 an8 cd8 ct8),sl8⟩) (c8:PySem.W.codeIn K cd8 "law"=true) (k8:PySem.W.keepIn K (.ref f8)=true)
  (aC0:PySem.W.nsIn K mainGlobals "FloodHand"=some (some (.ref 120)))
  (pg0:PySem.W.plainGet K 120 Str.empty=true)
  (hd0:PySem.W.hasDictIn K 120=true)
  (po0:PySem.W.plainOver K 120=true)
  (sa0:PySem.W.findIn K (.ref 120) "__setattr__"=some (some (.builtin "object.__setattr__")))
  (mkc0:PySem.W.makesIn K 120=true)
  (kc0:PySem.W.keepIn K (.ref 120)=true)
  (n0_number:PySem.W.findIn K (.ref 120) "number"=some none)
  (n0_many:PySem.W.findIn K (.ref 120) "many"=some none)
  (n0_rounds:PySem.W.findIn K (.ref 120) "rounds"=some none)
  (n0_wordbook:PySem.W.findIn K (.ref 120) "wordbook"=some none)
  (n0_hearings:PySem.W.findIn K (.ref 120) "hearings"=some none)
  (n0_end:PySem.W.findIn K (.ref 120) "end"=some none)
  (ja0:PySem.W.findIn K (.ref 120) "__class__"=some (some (.builtin "object.__class__")))
  (jm0:PySem.W.mroIn K 120 (.type "object")=some true)
  (x0_init:PySem.W.findIn K (.ref 120) "__init__"=some (some (.ref fm9)))
  (x0_ended:PySem.W.findIn K (.ref 120) "ended"=some (some (.ref fm10)))
  (x0_ending:PySem.W.findIn K (.ref 120) "ending"=some (some (.ref fm11)))
  (x0_hear:PySem.W.findIn K (.ref 120) "hear"=some (some (.ref fm12)))
  (x0_heard_by:PySem.W.findIn K (.ref 120) "heard_by"=some (some (.ref fm13)))
  (x0_known:PySem.W.findIn K (.ref 120) "known"=some (some (.ref fm14)))
  (x0_learn:PySem.W.findIn K (.ref 120) "learn"=some (some (.ref fm15)))
  (x0_say:PySem.W.findIn K (.ref 120) "say"=some (some (.ref fm16)))
  (jn:PySem.W.specialIn K (.builtin "object.__class__") "__get__"=some (some (.builtin "getset_descriptor.__get__"))) (jt:PySem.W.takesIn K (.builtin "object.__class__")=some true)
  (aI_Hand:PySem.W.nsIn K mainGlobals "Hand"=some (some (.ref iC_Hand)))
  (kit0_Hand:PySem.W.kitOne K (.ref 120) (.ref iC_Hand)=some true)
  (ac_Hand:PySem.W.nsIn K mainGlobals "Hand"=some (some (.ref hC_Hand)))
  (gc_Hand:PySem.W.specialIn K (.ref hC_Hand) "__getattribute__"=some (some (.builtin "type.__getattribute__")))
  (rc_Hand:PySem.W.readsIn K hC_Hand (.type "type")=true)
  (fc_Hand:PySem.W.findCls K (.ref hC_Hand) (.type "type") "__init__"=some (.val (.ref fm17)))
  (lm9:K.lookup fm9=some ⟨ocm9,odm9,.func (PySem.W.fnOf "__init__" "FloodHand.__init__" (zaC zar) (zai zar) (zad zar) .none kVm9 dcm9 pmm9 anm9 cdm9 ctm9),slm9⟩) (cm9:PySem.W.codeIn K cdm9 "FloodHand.__init__"=true) (km9:PySem.W.keepIn K (.ref fm9)=true) (im9:PySem.W.isFn K (.ref fm9)=true)
  (lm10:K.lookup fm10=some ⟨ocm10,odm10,.func (PySem.W.fnOf "ended" "FloodHand.ended" (zaC zao) (zai zao) (zad zao) .none kVm10 dcm10 pmm10 anm10 cdm10 ctm10),slm10⟩) (cm10:PySem.W.codeIn K cdm10 "FloodHand.ended"=true) (km10:PySem.W.keepIn K (.ref fm10)=true) (im10:PySem.W.isFn K (.ref fm10)=true)
  (lm11:K.lookup fm11=some ⟨ocm11,odm11,.func (PySem.W.fnOf "ending" "FloodHand.ending" (zaC zak) (zai zak) (zad zak) .none kVm11 dcm11 pmm11 anm11 cdm11 ctm11),slm11⟩) (cm11:PySem.W.codeIn K cdm11 "FloodHand.ending"=true) (km11:PySem.W.keepIn K (.ref fm11)=true) (im11:PySem.W.isFn K (.ref fm11)=true)
  (lm12:K.lookup fm12=some ⟨ocm12,odm12,.func (PySem.W.fnOf "hear" "FloodHand.hear" (zaC zas) (zai zas) (zad zas) .none kVm12 dcm12 pmm12 anm12 cdm12 ctm12),slm12⟩) (cm12:PySem.W.codeIn K cdm12 "FloodHand.hear"=true) (km12:PySem.W.keepIn K (.ref fm12)=true) (im12:PySem.W.isFn K (.ref fm12)=true)
  (lm13:K.lookup fm13=some ⟨ocm13,odm13,.func (PySem.W.fnOf "heard_by" "FloodHand.heard_by" (zaC zaj) (zai zaj) (zad zaj) .none kVm13 dcm13 pmm13 anm13 cdm13 ctm13),slm13⟩) (cm13:PySem.W.codeIn K cdm13 "FloodHand.heard_by"=true) (km13:PySem.W.keepIn K (.ref fm13)=true) (im13:PySem.W.isFn K (.ref fm13)=true)
  (lm14:K.lookup fm14=some ⟨ocm14,odm14,.func (PySem.W.fnOf "known" "FloodHand.known" (zaC zan) (zai zan) (zad zan) .none kVm14 dcm14 pmm14 anm14 cdm14 ctm14),slm14⟩) (cm14:PySem.W.codeIn K cdm14 "FloodHand.known"=true) (km14:PySem.W.keepIn K (.ref fm14)=true) (im14:PySem.W.isFn K (.ref fm14)=true)
  (lm15:K.lookup fm15=some ⟨ocm15,odm15,.func (PySem.W.fnOf "learn" "FloodHand.learn" (zaC zam) (zai zam) (zad zam) .none kVm15 dcm15 pmm15 anm15 cdm15 ctm15),slm15⟩) (cm15:PySem.W.codeIn K cdm15 "FloodHand.learn"=true) (km15:PySem.W.keepIn K (.ref fm15)=true) (im15:PySem.W.isFn K (.ref fm15)=true)
  (lm16:K.lookup fm16=some ⟨ocm16,odm16,.func (PySem.W.fnOf "say" "FloodHand.say" (zaC zau) (zai zau) (zad zau) .none kVm16 dcm16 pmm16 anm16 cdm16 ctm16),slm16⟩) (cm16:PySem.W.codeIn K cdm16 "FloodHand.say"=true) (km16:PySem.W.keepIn K (.ref fm16)=true) (im16:PySem.W.isFn K (.ref fm16)=true)
  (lm17:K.lookup fm17=some ⟨ocm17,odm17,.func (PySem.W.fnOf "__init__" "Hand.__init__" (zaC zaL) (zai zaL) (zad zaL) .none kVm17 dcm17 pmm17 anm17 cdm17 ctm17),slm17⟩) (cm17:PySem.W.codeIn K cdm17 "Hand.__init__"=true) (km17:PySem.W.keepIn K (.ref fm17)=true) (im17:PySem.W.isFn K (.ref fm17)=true)
  (z_all:PySem.W.nsIn K mainGlobals "all"=some none)
  (z_bool:PySem.W.nsIn K mainGlobals "bool"=some none)
  (z_int:PySem.W.nsIn K mainGlobals "int"=some none)
  (z_isinstance:PySem.W.nsIn K mainGlobals "isinstance"=some none)
  (z_len:PySem.W.nsIn K mainGlobals "len"=some none)
  (z_list:PySem.W.nsIn K mainGlobals "list"=some none)
  (z_min:PySem.W.nsIn K mainGlobals "min"=some none)
  (z_range:PySem.W.nsIn K mainGlobals "range"=some none)
  (z_set:PySem.W.nsIn K mainGlobals "set"=some none)
  (z_sorted:PySem.W.nsIn K mainGlobals "sorted"=some none)
  (z_tuple:PySem.W.nsIn K mainGlobals "tuple"=some none)
  {t_STILL:Tok} (q_STILL:PySem.W.nsIn K mainGlobals "STILL"=some (some (.int 0 t_STILL)))
  : ∃fd:FuncData,(∀(s:Shared) (v:Value),BindsTo s fd ⟨[v],[]⟩ [("_law_script",v)])/\∀base:Heap,K.In base->base.Ns mainGlobals mg->FnOk l.prog w K mg base CX0 12 fa fd ["_law_script"] (spF K (callF prog 6) 7):=by
 have e:=hfa.symm.trans (PySem.W.mg_of X G a8)
 cases e
 have F1:=zaU (st:=zaz) l1 c1 k1
 have m1:=PySem.W.mg_of X G a1
 have b1_0:=F1.binds (ps:=["_law_script","_law_k"]) fun _ _ _ _ _ _ us hl=>match us,hl with | [_,_],_=>rfl
 have F2:=zaU (st:=zaS) l2 c2 k2
 have m2:=PySem.W.mg_of X G a2
 have b2_0:=F2.binds (ps:=["_law_cell"]) fun _ _ _ _ _ _ us hl=>match us,hl with | [_],_=>rfl
 have F3:=zaU (st:=zay) l3 c3 k3
 have m3:=PySem.W.mg_of X G a3
 have b3_0:=F3.binds (ps:=["_law_script","_law_turn","_law_number","_law_many","_law_words"]) fun _ _ _ _ _ _ us hl=>match us,hl with | [_,_,_,_,_],_=>rfl
 have F4:=zaU (st:=zaJ) l4 c4 k4
 have m4:=PySem.W.mg_of X G a4
 have b4_0:=F4.binds (ps:=["_law_found"]) fun _ _ _ _ _ _ us hl=>match us,hl with | [_],_=>rfl
 have F5:=zaU (st:=za3) l5 c5 k5
 have m5:=PySem.W.mg_of X G a5
 have b5_0:=F5.binds (ps:=["_law_found","_law_due"]) fun _ _ _ _ _ _ us hl=>match us,hl with | [_,_],_=>rfl
 have F6:=zaU (st:=zaK) l6 c6 k6
 have m6:=PySem.W.mg_of X G a6
 have b6_0:=F6.binds (ps:=["_law_one","_law_known","_law_hearings","_law_end_here"]) fun _ _ _ _ _ _ us hl=>match us,hl with | [_,_,_,_],_=>rfl
 have F7:=zaU (st:=zaT) l7 c7 k7
 have m7:=PySem.W.mg_of X G a7
 have b7_0:=F7.binds (ps:=["_law_found","_law_number","_law_many","_law_known"]) fun _ _ _ _ _ _ us hl=>match us,hl with | [_,_,_,_],_=>rfl
 have F8:=zaU (st:=zbO) l8 c8 k8
 have m8:=PySem.W.mg_of X G a8
 have b8_0:=F8.binds (ps:=["_law_script"]) fun _ _ _ _ _ _ us hl=>match us,hl with | [_],_=>rfl
 have hb:∀x,tab.blt.contains x=true->mg x=none:=AllIn.get (l:=tab.blt) (And.intro (PySem.W.mg_none_of X G z_all) (And.intro (PySem.W.mg_none_of X G z_bool) (And.intro (PySem.W.mg_none_of X G z_int) (And.intro (PySem.W.mg_none_of X G z_isinstance) (And.intro (PySem.W.mg_none_of X G z_len) (And.intro (PySem.W.mg_none_of X G z_list) (And.intro (PySem.W.mg_none_of X G z_min) (And.intro (PySem.W.mg_none_of X G z_range) (And.intro (PySem.W.mg_none_of X G z_set) (And.intro (PySem.W.mg_none_of X G z_sorted) (And.intro (PySem.W.mg_none_of X G z_tuple) trivial)))))))))))
 have hc:∀x d,tab.cons.lookup x=some d->ziT d=true/\∃u,mg x=some u/\RelV (sV d) u:=by
  intro x d hx
  have hm:=PySem.mem_of_lookup hx
  simp only[tab,List.mem_cons,List.not_mem_nil,or_false,Prod.mk.injEq] at hm
  rcases hm with ⟨rfl,rfl⟩
  · exact⟨rfl,_,PySem.W.mg_of X G q_STILL,⟨_,rfl⟩⟩
 have hd:∀base:Heap,∀fi x ps nd,tab.fns[fi]?=some (x,ps,nd)->DefOk K mg tab prog fi x ps nd\/PrimOk l.prog w K mg base prog fi x ps nd:=fun base fi x ps nd hf=>AllAt.get (P:=fun fi q=>DefOk K mg tab prog fi q.1 q.2.1 q.2.2\/PrimOk l.prog w K mg base prog fi q.1 q.2.1 q.2.2) (l:=tab.fns)
  (And.intro (.inl ⟨⟨c_law_cell_at,_,zaz,_,_,_,_,rfl,rfl,F1,zdB,zdG,rfl,rfl,m1,(fun j hj=>(Nat.le_zero.mp hj).symm▸b1_0)⟩⟩) (And.intro (.inl ⟨⟨c_law_word,_,zaS,_,_,_,_,rfl,rfl,F2,zfh,zfB,rfl,rfl,m2,(fun j hj=>(Nat.le_zero.mp hj).symm▸b2_0)⟩⟩) (And.intro (.inl ⟨⟨c_law_letters,_,zay,_,_,_,_,rfl,rfl,F3,zdA,zdF,rfl,rfl,m3,(fun j hj=>(Nat.le_zero.mp hj).symm▸b3_0)⟩⟩) (And.intro (.inl ⟨⟨c_law_whole,_,zaJ,_,_,_,_,rfl,rfl,F4,zeE,ze5,rfl,rfl,m4,(fun j hj=>(Nat.le_zero.mp hj).symm▸b4_0)⟩⟩) (And.intro (.inl ⟨⟨c_law_end,_,za3,_,_,_,_,rfl,rfl,F5,zgA,zgV,rfl,rfl,m5,(fun j hj=>(Nat.le_zero.mp hj).symm▸b5_0)⟩⟩) (And.intro (.inl ⟨⟨c_law_state,_,zaK,_,_,_,_,rfl,rfl,F6,zeF,ze6,rfl,rfl,m6,(fun j hj=>(Nat.le_zero.mp hj).symm▸b6_0)⟩⟩) (And.intro (.inl ⟨⟨c_law_said,_,zaT,_,_,_,_,rfl,rfl,F7,zfi,zfC,rfl,rfl,m7,(fun j hj=>(Nat.le_zero.mp hj).symm▸b7_0)⟩⟩) (And.intro (.inl ⟨⟨c_law,_,zbO,_,_,_,_,rfl,rfl,F8,zjP,zj7,rfl,rfl,m8,(fun j hj=>(Nat.le_zero.mp hj).symm▸b8_0)⟩⟩) trivial)))))))) fi _ hf
 refine⟨PySem.W.fnOf "law" "law" (zaC zbO) (zai zbO) (zad zbO) .none kV8 dc8 pm8 an8 cd8 ct8,fun s v=>.of_eq rfl,fun base _ _=>?_⟩
 have Fm9:=zaU (st:=zar) lm9 cm9 km9
 have bm9_0:=Fm9.binds (ps:=["self","number","many","rounds","word"]) fun _ _ _ _ _ _ us hl=>match us,hl with | [_,_,_,_,_],_=>rfl
 have Fm10:=zaU (st:=zao) lm10 cm10 km10
 have bm10_0:=Fm10.binds (ps:=["self"]) fun _ _ _ _ _ _ us hl=>match us,hl with | [_],_=>rfl
 have Fm11:=zaU (st:=zak) lm11 cm11 km11
 have bm11_0:=Fm11.binds (ps:=["self"]) fun _ _ _ _ _ _ us hl=>match us,hl with | [_],_=>rfl
 have Fm12:=zaU (st:=zas) lm12 cm12 km12
 have bm12_0:=Fm12.binds (ps:=["self","turn","letters"]) fun _ _ _ _ _ _ us hl=>match us,hl with | [_,_,_],_=>rfl
 have Fm13:=zaU (st:=zaj) lm13 cm13 km13
 have bm13_0:=Fm13.binds (ps:=["self"]) fun _ _ _ _ _ _ us hl=>match us,hl with | [_],_=>rfl
 have Fm14:=zaU (st:=zan) lm14 cm14 km14
 have bm14_0:=Fm14.binds (ps:=["self"]) fun _ _ _ _ _ _ us hl=>match us,hl with | [_],_=>rfl
 have Fm15:=zaU (st:=zam) lm15 cm15 km15
 have bm15_0:=Fm15.binds (ps:=["self","words"]) fun _ _ _ _ _ _ us hl=>match us,hl with | [_,_],_=>rfl
 have Fm16:=zaU (st:=zau) lm16 cm16 km16
 have bm16_0:=Fm16.binds (ps:=["self","turn"]) fun _ _ _ _ _ _ us hl=>match us,hl with | [_,_],_=>rfl
 have Fm17:=zaU (st:=zaL) lm17 cm17 km17
 have bm17_0:=Fm17.binds (ps:=["self","number","many","rounds"]) fun _ _ _ _ _ _ us hl=>match us,hl with | [_,_,_,_],_=>rfl
 have hk:ClsOk tab K mg prog:=by
  refine⟨?_,?_,?_,?_,Nat.le_refl _,?_⟩
  · intro c x hx
    match c,hx with
    | 0, hx =>
      cases hx
      refine⟨_,rfl,⟨pg0,hd0,po0,sa0⟩,PySem.W.mg_of X G aC0,AllIn.get (l:=tab.flds) (And.intro n0_number (And.intro n0_many (And.intro n0_rounds (And.intro n0_wordbook (And.intro n0_hearings (And.intro n0_end trivial))))))⟩
    |n+1,hx=>simp[tab] at hx
  · exact fun c m fi hx=>AllIn.get (P:=fun q=>MOk K tab prog q.2.2 0 (ExM K q.1 q.2.1)) (l:=tab.mts)
     (And.intro (⟨⟨c_FloodHand_ended,_,_,zao,_,_,_,_,_,rfl,rfl,Fm10,zcn,zcx,rfl,rfl,bm10_0,_,rfl,⟨pg0,hd0,po0,sa0⟩,⟨x0_ended,im10,km10⟩⟩⟩) (And.intro (⟨⟨c_FloodHand_ending,_,_,zak,_,_,_,_,_,rfl,rfl,Fm11,zcc,zcj,rfl,rfl,bm11_0,_,rfl,⟨pg0,hd0,po0,sa0⟩,⟨x0_ending,im11,km11⟩⟩⟩) (And.intro (⟨⟨c_FloodHand_hear,_,_,zas,_,_,_,_,_,rfl,rfl,Fm12,zcC,zcK,rfl,rfl,bm12_0,_,rfl,⟨pg0,hd0,po0,sa0⟩,⟨x0_hear,im12,km12⟩⟩⟩) (And.intro (⟨⟨c_FloodHand_heard_by,_,_,zaj,_,_,_,_,_,rfl,rfl,Fm13,zbL,zbW,rfl,rfl,bm13_0,_,rfl,⟨pg0,hd0,po0,sa0⟩,⟨x0_heard_by,im13,km13⟩⟩⟩) (And.intro (⟨⟨c_FloodHand_known,_,_,zan,_,_,_,_,_,rfl,rfl,Fm14,zcm,zcw,rfl,rfl,bm14_0,_,rfl,⟨pg0,hd0,po0,sa0⟩,⟨x0_known,im14,km14⟩⟩⟩) (And.intro (⟨⟨c_FloodHand_learn,_,_,zam,_,_,_,_,_,rfl,rfl,Fm15,zcl,zcv,rfl,rfl,bm15_0,_,rfl,⟨pg0,hd0,po0,sa0⟩,⟨x0_learn,im15,km15⟩⟩⟩) (And.intro (⟨⟨c_FloodHand_say,_,_,zau,_,_,_,_,_,rfl,rfl,Fm16,zcR,zcT,rfl,rfl,bm16_0,_,rfl,⟨pg0,hd0,po0,sa0⟩,⟨x0_say,im16,km16⟩⟩⟩) trivial))))))) (c,m,fi) hx
  · intro c fi j hx
    simp only[tab,List.contains_iff_mem,List.mem_cons,List.not_mem_nil,or_false,Prod.mk.injEq] at hx
    rcases hx with ⟨rfl,rfl,rfl⟩
    · exact⟨⟨c_FloodHand_init,_,_,zar,_,_,_,_,_,rfl,rfl,Fm9,zcB,zcJ,rfl,rfl,bm9_0,_,rfl,⟨mkc0,x0_init,im9,kc0⟩⟩⟩
  · intro x m fi hx
    simp only[tab,List.contains_iff_mem,List.mem_cons,List.not_mem_nil,or_false,Prod.mk.injEq] at hx
    rcases hx with ⟨rfl,rfl,rfl⟩
    · exact⟨⟨c_Hand_init,_,_,zaL,_,_,_,_,_,rfl,rfl,Fm17,zeG,ze7,rfl,rfl,bm17_0,_,_,PySem.W.mg_of X G ac_Hand,gc_Hand,rc_Hand,fc_Hand⟩⟩
  · intro x cs hx
    simp only[tab,List.contains_iff_mem,List.mem_cons,List.not_mem_nil,or_false,Prod.mk.injEq] at hx
    rcases hx with ⟨rfl,rfl⟩
    · refine⟨_,PySem.W.mg_of X G aI_Hand,fun c C hC=>?_⟩
      match c,hC with
      |0,hC=>cases hC;exact⟨⟨ja0,jn,jt,jm0⟩,kit0_Hand⟩
      |n+1,hC=>simp[Mks.cl,mks] at hC
 exact zik (zl2 hb hc (hd base) hk 5) F8 rfl zjP zj7 rfl rfl
end
end K62
open PySem PySem.W PyProof.Rows
set_option maxRecDepth 100000 in
set_option maxHeartbeats 0 in
theorem PySem.Challenge.cw_traitorround_k62_a_flood_hand_holds : PySem.Challenge.rw_traitorround_k62_a_flood_hand.Holds := by
 w_on;o_law;k_head;(case hw=>w_witness2)
 k_fill
 refine L2.walk_of (l:=PySem.Challenge.rw_traitorround_k62_a_flood_hand) (n:=63) (k:=12) (x:="_law_script") (CX:=fun _=>L2.CX0) (sp:=fun w=>R.spF _ (R.callF K62.prog 6) 7) rfl (by decide) rfl ⟨rfl,by decide,by decide⟩ (fun w h Y=>PySem.W.kIn_of Y) ?F (fun _ _ a ns hl hO hS=>R.law_sp rfl hO hS (K62.law_true ns hl)) fun _ _ _ _ _ z=>z
 case F=>
  intro w mg fa h KX G hmg
  refine' K62.all_mk KX G hmg ?a1 ?l1 ?c1 ?k1 ?a2 ?l2 ?c2 ?k2 ?a3 ?l3 ?c3 ?k3 ?a4 ?l4 ?c4 ?k4 ?a5 ?l5 ?c5 ?k5 ?a6 ?l6 ?c6 ?k6 ?a7 ?l7 ?c7 ?k7 ?a8 ?l8 ?c8 ?k8 ?aC0 ?pg0 ?hd0 ?po0 ?sa0 ?mkc0 ?kc0 ?n0_number ?n0_many ?n0_rounds ?n0_wordbook ?n0_hearings ?n0_end ?ja0 ?jm0 ?x0_init ?x0_ended ?x0_ending ?x0_hear ?x0_heard_by ?x0_known ?x0_learn ?x0_say ?jn ?jt ?aI_Hand ?kit0_Hand ?ac_Hand ?gc_Hand ?rc_Hand ?fc_Hand ?lm9 ?cm9 ?km9 ?im9 ?lm10 ?cm10 ?km10 ?im10 ?lm11 ?cm11 ?km11 ?im11 ?lm12 ?cm12 ?km12 ?im12 ?lm13 ?cm13 ?km13 ?im13 ?lm14 ?cm14 ?km14 ?im14 ?lm15 ?cm15 ?km15 ?im15 ?lm16 ?cm16 ?km16 ?im16 ?lm17 ?cm17 ?km17 ?im17 ?z_all ?z_bool ?z_int ?z_isinstance ?z_len ?z_list ?z_min ?z_range ?z_set ?z_sorted ?z_tuple ?q_STILL
  (case a1=>k_is)
  (case l1=>k_is)
  (case c1=>k_is)
  (case k1=>k_is)
  (case a2=>k_is)
  (case l2=>k_is)
  (case c2=>k_is)
  (case k2=>k_is)
  (case a3=>k_is)
  (case l3=>k_is)
  (case c3=>k_is)
  (case k3=>k_is)
  (case a4=>k_is)
  (case l4=>k_is)
  (case c4=>k_is)
  (case k4=>k_is)
  (case a5=>k_is)
  (case l5=>k_is)
  (case c5=>k_is)
  (case k5=>k_is)
  (case a6=>k_is)
  (case l6=>k_is)
  (case c6=>k_is)
  (case k6=>k_is)
  (case a7=>k_is)
  (case l7=>k_is)
  (case c7=>k_is)
  (case k7=>k_is)
  (case a8=>k_is)
  (case l8=>k_is)
  (case c8=>k_is)
  (case k8=>k_is)
  (case aC0=>k_is)
  (case pg0=>k_is)
  (case hd0=>k_is)
  (case po0=>k_is)
  (case sa0=>k_is)
  (case mkc0=>k_is)
  (case kc0=>k_is)
  (case n0_number=>k_is)
  (case n0_many=>k_is)
  (case n0_rounds=>k_is)
  (case n0_wordbook=>k_is)
  (case n0_hearings=>k_is)
  (case n0_end=>k_is)
  (case ja0=>k_is)
  (case jm0=>k_is)
  (case x0_init=>k_is)
  (case x0_ended=>k_is)
  (case x0_ending=>k_is)
  (case x0_hear=>k_is)
  (case x0_heard_by=>k_is)
  (case x0_known=>k_is)
  (case x0_learn=>k_is)
  (case x0_say=>k_is)
  (case jn=>k_is)
  (case jt=>k_is)
  (case aI_Hand=>k_is)
  (case kit0_Hand=>with_unfolding_all rfl)
  (case ac_Hand=>k_is)
  (case gc_Hand=>k_is)
  (case rc_Hand=>k_is)
  (case fc_Hand=>k_is)
  (case lm9=>k_is)
  (case cm9=>k_is)
  (case km9=>k_is)
  (case im9=>k_is)
  (case lm10=>k_is)
  (case cm10=>k_is)
  (case km10=>k_is)
  (case im10=>k_is)
  (case lm11=>k_is)
  (case cm11=>k_is)
  (case km11=>k_is)
  (case im11=>k_is)
  (case lm12=>k_is)
  (case cm12=>k_is)
  (case km12=>k_is)
  (case im12=>k_is)
  (case lm13=>k_is)
  (case cm13=>k_is)
  (case km13=>k_is)
  (case im13=>k_is)
  (case lm14=>k_is)
  (case cm14=>k_is)
  (case km14=>k_is)
  (case im14=>k_is)
  (case lm15=>k_is)
  (case cm15=>k_is)
  (case km15=>k_is)
  (case im15=>k_is)
  (case lm16=>k_is)
  (case cm16=>k_is)
  (case km16=>k_is)
  (case im16=>k_is)
  (case lm17=>k_is)
  (case cm17=>k_is)
  (case km17=>k_is)
  (case im17=>k_is)
  (case z_all=>k_is)
  (case z_bool=>k_is)
  (case z_int=>k_is)
  (case z_isinstance=>k_is)
  (case z_len=>k_is)
  (case z_list=>k_is)
  (case z_min=>k_is)
  (case z_range=>k_is)
  (case z_set=>k_is)
  (case z_sorted=>k_is)
  (case z_tuple=>k_is)
  (case q_STILL=>k_is)
end

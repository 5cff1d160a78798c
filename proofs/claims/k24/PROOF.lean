import PyProof.Rows.All
import Wide.All
import OpenK.AllK
import Wide.FinOn
import Lean
import PyProof.EqAt
import PyProof.EqKinds
import PyProof.TupleCall
import PyProof.P3Statements
import PyProof.Dict
import PySem.Syntax
import PySem.Challenge.RW_traitorround_k24_scribes_and_liars
set_option Elab.async false
set_option linter.all false
set_option maxRecDepth 100000
set_option bootstrap.genMatcherCode false
namespace PySem.W.Fast
end PySem.W.Fast
namespace PySem.W.Fast
def tw1907116078540112751:=0
def tw11444228064427346239:=0
def tw2746673961399279451:=0
def tw13231124885557789446:=0
def tw16636312626848006192:=0
def tw5221302937488680319:=0
def tw8540932363703573939:=0
def tw8286812748352980176:=0
def tw10469035339139581075:=0
def tw6402639037226689365:=0
def tw119632884399330134:=0
def tw7769243927420897817:=0
def tw9190210623931998225:=0
def tw17977974962976293893:=0
def tw9507310063033920013:=0
def tw4619262787119387462:=0
def tw7724772555163023289:=0
def tw7867582575365205091:=0
def tw12443470014011663578:=0
def tw16450211141829054967:=0
def tw7500063763596592491:=0
def tw8426669268062913006:=0
def tw8566139555379275842:=0
def tw7607670736902736115:=0
def tw15076755624487811185:=0
def tw14685853791406765672:=0
def tw1593672969107115358:=0
def tw2888355115588610772:=0
def tw13380891558119770821:=0
def tw15586473452177454524:=0
def tw14991745953245394941:=0
def tw996741663259740863:=0
def tw16795320324619065832:=0
def tw14309829384019015238:=0
def tw6730576806005782754:=0
def tw10310167823772324477:=0
def tw14946141392802392390:=0
def tw7297897665099096682:=0
def tw3480201267033489110:=0
def tw18366205476787118050:=0
def tw7318486181526099007:=0
def tw9461660282240066858:=0
def tw9021657985364602057:=0
def tw406472383434702116:=0
def tw10339600020952966913:=0
def tw9300132895239979022:=0
def tw11422510801610805157:=0
def tw14073825391803615744:=0
def tw6521910506057403371:=0
def tw8646292197507556216:=0
def tw2173568707807117574:=0
def tw7334586370382870655:=0
def tw8145673433716385643:=0
def tw17708098556044423097:=0
def tw1496336017993451519:=0
def tw371288219345278077:=0
def tw9767241707434893698:=0
def tw10945560748001405374:=0
def tw12768859353896072794:=0
def tw13432067560291586825:=0
def tw7441151020687341681:=0
def tw1485640610178826809:=0
def tw15219382105355840430:=0
def tw16882787124615881135:=0
def tw13544075601099937274:=0
def tw10412422075215478843:=0
def tw17856125272094142694:=0
def tw1145932869274988089:=0
def tw13440155830843089745:=0
def tw5980673546514961451:=0
def tw4252218581373209751:=0
def tw14320491308009364950:=0
def tw7083328686274208101:=0
def tw15797950711479106822:=0
def tw1428181926871220332:=0
def tw34350269711862542:=0
def tw12860381129103910724:=0
def tw14246870145286269108:=0
def tw1414178791524886151:=0
def tw14542157256564445804:=0
def tw14030131185293461996:=0
def tw6443569593316413707:=0
def tw8056632168872266261:=0
def tw5914627916291493276:=0
def tw1562210846497492506:=0
def tw9041295478258525271:=0
def tw9202524040373026034:=0
def tw17640705390890955406:=0
def tw14737459615028131912:=0
def tw8180148629491108404:=0
def tw7222254354069559284:=0
def tw3601422326366123673:=0
def tw14694930455931269158:=0
def tw8697338948594720533:=0
def tw12569623083606167749:=0
def tw314380736140752978:=0
def tw2107160100775205592:=0
def tw18402008606562968467:=0
def tw4154398757670410123:=0
def tw2798749637242147432:=0
def tw11854493810290445578:=0
def tw5763831328696919761:=0
def tw18012947883280677748:=0
def tw14794893997363276133:=0
def tw5637815361341794508:=0
def tw14116567105049459376:=0
def tw13013409043818957499:=0
def tw9539499358990099766:=0
def tw14094754123799515289:=0
def tw5937471475724980642:=0
def tw5193473509121815074:=0
def tw10011188187644985584:=0
def tw1275627926893829203:=0
def tw5958214383338297758:=0
def tw7208972875576106106:=0
def tw9508159660796494587:=0
def tw14294734018904605379:=0
def tw5458547832054985800:=0
def tw2056031469182443167:=0
def tw9128241763822142526:=0
def tw618995923115561263:=0
def tw13608878088760128785:=0
def tw9730324676928662361:=0
def tw1135046214325223672:=0
def tw9243623581292901570:=0
def tw8608043862120807655:=0
def tw9195166915009912864:=0
def tw3850803305707876580:=0
def tw8359239453526736028:=0
def tw12450881004386371364:=0
def tw7585351913651607258:=0
def tw13338239733711752881:=0
def tw13448251306757458779:=0
def tw54698843234481466:=0
def tw16201767076610963152:=0
def tw11418282752323804027:=0
def tw9148684119456288900:=0
def tw12301167756502102713:=0
def tw376474956314791105:=0
def tw456941359944591044:=0
def tw16425192319879160129:=0
def tw10940136225346426264:=0
def tw62867918277225423:=0
def tw3355154353142354316:=0
def tw13150355690239110910:=0
def tw8641224210789701167:=0
def tw1147464718336594630:=0
def tw11505634103021586708:=0
def tw10851709689977932080:=0
def tw15969022751874141529:=0
def tw17978033759127083453:=0
def tw6337890840940552300:=0
def tw3672097545069203506:=0
def tw6893258474554736188:=0
def tw6485647631785832880:=0
def tw10045677210195724274:=0
def tw16960708869612075424:=0
def tw2226361997783436288:=0
def tw16772397582426797640:=0
def tw7303170542230623768:=0
def tw7667177320224972382:=0
def tw13399864277641333304:=0
def tw9302936547481276633:=0
def tw2551839022995874387:=0
def tw11061106439930767586:=0
def tw16732717174117636401:=0
def tw13520775816872841701:=0
def tw15564951618054550714:=0
def tw13410766837474166554:=0
def tw15993355013176797936:=0
def tw1141053761575421326:=0
def tw7108023531583855928:=0
def tw12184422792967251355:=0
def tw11441453097506416165:=0
def tw740250566716930962:=0
def tw18269009435457761267:=0
def tw17840316480117269450:=0
def tw8191838600521817292:=0
def tw1335381167295044895:=0
def tw16357448008846351525:=0
def tw17193531001887417174:=0
def tw3884586492928681933:=0
def tw5158836385181212730:=0
def tw14739811689413148172:=0
def tw9574457963561827065:=0
def tw239302502628409861:=0
def tw2796286630967368716:=0
def tw916006802161032744:=0
def tw9402230566981086855:=0
def tw8349109875771026663:=0
def tw7713679283981124615:=0
def tw18230171350791421053:=0
def tw6197397512954529557:=0
def tw10646073531597182804:=0
def tw4722206340292652377:=0
def tw14995801214011448375:=0
def tw13412029777096089405:=0
def tw2993898511948242881:=0
def tw9127734383469938512:=0
def tw1857668321294698977:=0
def tw14766725109062738649:=0
def tw2135796760748116468:=0
def tw5745050826096665698:=0
def tw877913371721945177:=0
def tw5249528156660525345:=0
def tw6998039339604656724:=0
def tw10069566066566630140:=0
def tw14061905821881720561:=0
def tw8535291476835784843:=0
def tw3172568047990641600:=0
def tw6428128062869518242:=0
def tw3488339728789415619:=0
def tw9139962065131174968:=0
def tw7120832156052450212:=0
def tw16448240991261512872:=0
def tw3584076430404217032:=0
def tw14348036573002231634:=0
def tw1160092944228015282:=0
def tw12975877478482780632:=0
def tw4713095707526860860:=0
def tw580466712887534090:=0
def tw8426455294110421157:=0
def tw16874977603710562815:=0
def tw12509786592208743295:=0
def tw13226021626121722356:=0
def tw789228519587139984:=0
def tw10668553332682740254:=0
def tw414875934377921403:=0
def tw11875824864399520570:=0
def tw17420518453549106585:=0
def tw3649582497721302202:=0
def tw7873307527578251504:=0
def tw2557186354478198135:=0
def tw12334636111692803867:=0
def tw588056189436917434:=0
def tw12099384175413644460:=0
def tw7243305106815115279:=0
def tw16966282481518816339:=0
end PySem.W.Fast
section
namespace L2
open PySem PySem.Spec PyProof.Rows
noncomputable abbrev Key:=Sum Int Str
noncomputable def zfM:Key->Value->Bool
 |.inl k,v=>Value.isInt k v
 |.inr x,v=>Value.isStrOf x v
noncomputable def keyH (w:World):Key->Int
 |.inl k=>hashInt k
 |.inr x=>hashStr w x
theorem zaE:∀{k:Key} {v:Value},zfM k v=true->(∃i t,k=Sum.inl i/\v=Value.int i t)\/(∃x t,k=Sum.inr x/\v=Value.str x t)
 | .inl i, v, h => by
   obtain⟨t,e⟩:=Value.isInt_shape (k:=i) (v:=v) h
   exact .inl ⟨i,t,rfl,e⟩
 | .inr x, v, h => by
   obtain⟨t,e⟩:=Value.isStrOf_shape (x:=x) (v:=v) h
   exact .inr ⟨x,t,rfl,e⟩
theorem zid (i:Int)(t:Tok):zfM (.inl i) (.int i t)=true:=by simp[zfM,Value.isInt]
theorem zic (x:Str)(t:Tok):zfM (.inr x) (.str x t)=true:=by simp[zfM,Value.isStrOf]
theorem zoP (a b:Int):decide ((Sum.inl a:Key)=Sum.inl b)=(a == b):=by
 by_cases e:a=b
 · subst e;simp
 · have h:¬(Sum.inl a:Key)=Sum.inl b:=fun q=>e (Sum.inl.inj q)
   rw[decide_eq_false h]
   exact (beq_eq_false_iff_ne.mpr e).symm
theorem zoL (a b:Str):decide ((Sum.inr a:Key)=Sum.inr b)=decide (a=b):=by
 by_cases e:a=b
 · subst e;simp
 · have h:¬(Sum.inr a:Key)=Sum.inr b:=fun q=>e (Sum.inr.inj q)
   rw[decide_eq_false h,decide_eq_false e]
theorem zoO (a:Int)(b:Str):decide ((Sum.inl a:Key)=Sum.inr b)=false:=decide_eq_false (fun q=>nomatch q)
theorem zoM (a:Str)(b:Int):decide ((Sum.inr a:Key)=Sum.inl b)=false:=decide_eq_false (fun q=>nomatch q)
noncomputable def zap (prog:Program)(w:World):PySem.KeyKind prog w Key where
 is:=zfM
 hash:=keyH w
 inj:=fun v a b ha hb=>by
  rcases zaE ha with ⟨i,t,rfl,rfl⟩|⟨x,t,rfl,rfl⟩
  · rcases zaE hb with ⟨j,u,rfl,e⟩|⟨y,u,rfl,e⟩
    · injection e with e1 _;rw[e1]
    · exact nomatch e
  · rcases zaE hb with ⟨j,u,rfl,e⟩|⟨y,u,rfl,e⟩
    · exact nomatch e
    · injection e with e1 _;rw[e1]
 byValue:=fun k v h=>by
  rcases zaE h with ⟨i,t,rfl,rfl⟩|⟨x,t,rfl,rfl⟩<;>rfl
 pyHash:=fun hv h=>by
  rcases zaE hv with ⟨i,t,rfl,rfl⟩|⟨x,t,rfl,rfl⟩
  · exact wpAny_pyHash_int h
  · exact wpAny_pyHash_str h
 eqBool:=fun hu hv h=>by
  rcases zaE hu with ⟨i,t,rfl,rfl⟩|⟨x,t,rfl,rfl⟩
  · rcases zaE hv with ⟨j,u,rfl,rfl⟩|⟨y,u,rfl,rfl⟩
    · rw[zoP] at h;exact wpAny_eqBool_int h
    · rw[zoO] at h;exact SeqAt.EqAt.int_str i t y u _ _ _ _ h
  · rcases zaE hv with ⟨j,u,rfl,rfl⟩|⟨y,u,rfl,rfl⟩
    · rw[zoM] at h;exact SeqAt.EqAt.str_int x t j u _ _ _ _ h
    · rw[zoL] at h;exact wpAny_eqBool_str h
 «strs»:=fun k x t v h=>by
  rcases zaE h with ⟨i,u,rfl,e⟩|⟨y,u,rfl,e⟩
  · exact nomatch e
  · injection e with e1 _
    subst e1
    cases v<;>rfl
theorem zgU (prog:Program)(w:World)(k:Key)(v:Value):(zap prog w).is k v=zfM k v:=rfl
theorem zfF (prog:Program)(w:World)(i:Int)(t:Tok):(zap prog w).is (.inl i) (.int i t)=true:=zid i t
theorem zfE (prog:Program)(w:World)(x:Str)(t:Tok):(zap prog w).is (.inr x) (.str x t)=true:=zic x t
end L2
namespace L2
open PySem PySem.Spec PyProof.Rows
inductive V where
 |non|bl (b:Bool)|int (i:Int)|str (x:Str)|byt (b:Array UInt8)|flt (b:UInt64)|ref (a:Addr)|ty (n:String)
 deriving DecidableEq
noncomputable def RelV:V->Value->Prop
 |.non,u=>u=Value.none
 |.bl b,u=>u=Value.bool b
 |.int i,u=>∃t,u=Value.int i t
 |.str x,u=>∃t,u=Value.str x t
 |.byt b,u=>∃t,u=Value.bytes b t
 |.flt b,u=>∃t,u=Value.float b t
 |.ref a,u=>u=Value.ref a
 |.ty n,u=>u=Value.type n
noncomputable abbrev Vals:List V->List Value->Prop:=Paired RelV
theorem Vals.length {xs:List V}{us:List Value}(r:Vals xs us):xs.length=us.length:=Paired.length r
theorem Vals.get:∀{xs:List V} {us:List Value} {i:Nat} {x:V},Vals xs us->xs[i]?=some x->∃u,us[i]?=some u/\RelV x u
 |_,_,_,_,.nil,e=>by simp at e
 |_,_,0,_,.cons r _,e=>by simp at e;subst e;exact⟨_,rfl,r⟩
 | _, _, i + 1, x, .cons _ t, e => by
   obtain⟨u,h1,h2⟩:=Vals.get (i:=i) (x:=x) t (by simpa using e)
   exact⟨u,by simpa using h1,h2⟩
theorem Vals.set {x:V}{u:Value}(r:RelV x u):∀{xs:List V} {us:List Value} (i:Nat),Vals xs us->Vals (xs.set i x) (us.set i u)
 |_,_,_,.nil=>.nil
 |_,_,0,.cons _ t=>.cons r t
 |_,_,i+1,.cons q t=>.cons q (Vals.set r i t)
theorem Vals.append:∀{xs ys:List V} {us ws:List Value},Vals xs us->Vals ys ws->Vals (xs++ys) (us++ws)
 |_,_,_,_,.nil,s=>s
 |_,_,_,_,.cons r t,s=>.cons r (Vals.append t s)
theorem Vals.take:∀{xs:List V} {us:List Value} (n:Nat),Vals xs us->Vals (xs.take n) (us.take n)
 |_,_,0,_=>.nil
 |_,_,_+1,.nil=>.nil
 |_,_,n+1,.cons r t=>.cons r (Vals.take n t)
theorem Vals.drop:∀{xs:List V} {us:List Value} (n:Nat),Vals xs us->Vals (xs.drop n) (us.drop n)
 |_,_,0,r=>r
 |_,_,_+1,.nil=>.nil
 |_,_,n+1,.cons _ t=>Vals.drop n t
theorem Vals.none_of:∀{xs:List V} {us:List Value} {i:Nat},Vals xs us->xs[i]?=none->us[i]?=none:=fun {xs us i} r e=>by
 have h1:=r.length
 have h2:xs.length<=i:=List.getElem?_eq_none_iff.mp e
 exact List.getElem?_eq_none_iff.mpr (by omega)
noncomputable def RelO:Option V->Option Value->Prop
 |some v,some u=>RelV v u
 |none,none=>True
 |_,_=>False
noncomputable def KV {κ:Type}:List (κ × V)->List (κ × Value)->Prop:=Paired fun (p:κ × V) (q:κ × Value)=>p.1=q.1/\RelV p.2 q.2
noncomputable def kV:Key->V
 |.inl i=>.int i
 |.inr x=>.str x
inductive HO where
 |lst (xs:List V)
 |tup (xs:List V)
 |dK (kvs:List (Key × V))|dT (kvs:List (List Key × V))
 |set (S:Int->Bool) (n:Nat)
 |ins (C dx:Addr) (fs:List (Str × V))
 |own (x:Addr)
 |xd (fs:List (Str × V))
 |met (f x:Addr)
 |rng (lo hi:Int)
 |frz (o:Obj) (u:HO)
 |tbl (ps:Array Value)
 |ext (φ:Heap->Prop)
noncomputable abbrev Hp:=Addr->Option HO
noncomputable def upd (H:Hp)(a:Addr)(o:HO):Hp:=fun b=>if b=a then some o else H b
theorem zai {H:Hp}{a:Addr}{o:HO}:upd H a o a=some o:=by unfold upd;rw[if_pos rfl]
theorem zae {H:Hp}{a b:Addr}{o:HO}(h:b≠a):upd H a o b=H b:=by unfold upd;rw[if_neg h]
theorem zld {H:Hp}{a:Addr}{o u:HO}:upd (upd H a o) a u=upd H a u:=by
 funext b;unfold upd;split<;>rfl
theorem ne_of {H:Hp}{a b:Addr}{o u:HO}(h:H a=some o)(h':H b=some u)(d:o≠u):a≠b:=by
 intro e;subst e;rw[h] at h';exact d (Option.some.inj h')
theorem zaj {H:Hp}{a b:Addr}{o:HO}(h:H a=some o)(h':H b=none):a≠b:=by
 intro e;subst e;rw[h] at h';cases h'
section
variable (P:Program) (w:World)
noncomputable def ObjOk (H:Hp)(h:Heap)(a:Addr):HO->Prop
 |.lst xs=>xs.length<=sizeLine/\∃(its:List Value) (n:Nat),Vals xs its/\h.get? a=some {cls:=.type "list",data:=.seq its.toArray n}
 |.tup xs=>xs.length<=sizeLine/\∃its:List Value,Vals xs its/\IsTup h a its.toArray
 |.dK kvs=>kvs.length<=sizeLine/\(a == sysModules)=false/\∃vs,KV kvs vs/\h.DictOf (zap P w) a vs
 |.dT kvs=>kvs.length<=sizeLine/\(a == sysModules)=false/\∃xs:List (List Key × Addr × Value),
  Paired (fun (p:List Key × V) (q:List Key × Addr × Value)=>p.1=q.1/\H q.2.1=some (.tup (p.1.map kV))/\RelV p.2 q.2.2) kvs xs/\
  ∃o es ep,h.get? a=some o/\o.ExactDict/\o.data=.dict es ep/\es.toList=xs.map (entryOfKey (tupleKind (zap P w)))/\(xs.map (·.1)).Nodup
 |.set S n=>h.SetOf (intKind P w) a S n
 |.ins C dx fs=>H dx=some (.own a)/\fs.length<=1000/\dx≠a/\h.get? a=some (W.instObj C dx)/\
  ∃mA,h.Ns1 dx mA/\(∀f,RelO (fs.lookup f) (mA f))/\PySem.Within mA (fs.map (·.1))
 |.own _=>∃o,h.get? a=some o
 |.xd fs=>∃mA,h.Ns1 a mA/\∀f,RelO (fs.lookup f) (mA f)
 |.rng lo hi=>∃t u v,h.get? a=some {cls:=.type "range",data:=.fields #[.int lo t,.int hi u,.int 1 v]}
 |.frz o u=>h.get? a=some o/\ObjOk H h a u
 |.tbl ps=>h.get? a=some {cls:=.none,data:=.fields ps}
 |.met f x=>h.get? a=some (W.methodObj (.ref f) (.ref x))
 |.ext φ=>φ h/\(∃o,h.get? a=some o)/\∀h1 h2:Heap,φ h1->(∀o,h1.get? a=some o->h2.get? a=some o)->φ h2
noncomputable def HOk (H:Hp)(h:Heap):Prop:=∀a o,H a=some o->ObjOk P w H h a o
end
section
variable {P:Program} {w:World} {H H':Hp} {h h':Heap} {a:Addr} {o:HO}
theorem ObjOk.lt (x:ObjOk P w H h a o):a<h.objs.size:=by
 cases o with
 |lst xs=>obtain⟨_,_,_,_,e⟩:=x;exact Heap.lt_size e
 |tup xs=>obtain⟨_,_,_,p⟩:=x;exact p.lt
 |dK kvs=>obtain⟨_,_,_,_,o,_,_,e,_⟩:=x;exact Heap.lt_size e
 |dT kvs=>obtain⟨_,_,_,_,o,_,_,e,_⟩:=x;exact Heap.lt_size e
 |set S n=>obtain⟨o,_,_,_,e,_⟩:=x;exact Heap.lt_size e
 |ins C dx fs=>obtain⟨_,_,_,e,_⟩:=x;exact Heap.lt_size e
 |own y=>obtain⟨_,e⟩:=x;exact Heap.lt_size e
 |xd fs=>obtain⟨_,⟨_,_,_,e,_⟩,_⟩:=x;exact Heap.lt_size e
 |rng lo hi=>obtain⟨_,_,_,e⟩:=x;exact Heap.lt_size e
 |frz ob u=>obtain⟨e,_⟩:=x;exact Heap.lt_size e
 |tbl ps=>exact Heap.lt_size (show h.get? a=some _ from x)
 |met f y=>exact Heap.lt_size (show h.get? a=some _ from x)
 |ext φ=>obtain⟨_,⟨_,e⟩,_⟩:=x;exact Heap.lt_size e
theorem Paired.mapP {α β:Type}{F G:α->β->Prop}:∀{l₁:List α} {l₂:List β},Paired F l₁ l₂->(∀a b,F a b->G a b)->Paired G l₁ l₂
 |_,_,.nil,_=>.nil
 |_,_,.cons r t,f=>.cons (f _ _ r) (Paired.mapP t f)
theorem ObjOk.stay (x:ObjOk P w H h a o)(k:∀b u,(b=a\/H b=some (.own a))->h.get? b=some u->h'.get? b=some u)
  (ho:∀b,H b=some (.own a)->H' b=some (.own a)) (ht:∀b xs,H b=some (.tup xs)->H' b=some (.tup xs)):ObjOk P w H' h' a o:=by
 induction o with
 |lst xs=>obtain⟨z,its,n,r,e⟩:=x;exact⟨z,its,n,r,k _ _ (.inl rfl) e⟩
 |tup xs=>obtain⟨z,its,r,ob,e,c⟩:=x;exact⟨z,its,r,ob,k _ _ (.inl rfl) e,c⟩
 |dK kvs=>obtain⟨z,y,vs,r,ob,es,ep,e,c⟩:=x;exact⟨z,y,vs,r,ob,es,ep,k _ _ (.inl rfl) e,c⟩
 | dT kvs =>
   obtain⟨z,y,xs,r,ob,es,ep,e,c⟩:=x
   exact⟨z,y,xs,Paired.mapP r fun p q z=>⟨z.1,ht _ _ z.2.1,z.2.2⟩,ob,es,ep,k _ _ (.inl rfl) e,c⟩
 |set S n=>obtain⟨ob,es,ep,t,e,c⟩:=x;exact⟨ob,es,ep,t,k _ _ (.inl rfl) e,c⟩
 | ins C dx fs =>
   obtain⟨d,z,ne,e,mA,⟨od,es,ep,e2,c⟩,r⟩:=x
   exact⟨ho _ d,z,ne,k _ _ (.inl rfl) e,mA,⟨od,es,ep,k _ _ (.inr d) e2,c⟩,r⟩
 |own y=>obtain⟨ob,e⟩:=x;exact⟨ob,k _ _ (.inl rfl) e⟩
 |xd fs=>obtain⟨mA,⟨od,es,ep,e,c⟩,r⟩:=x;exact⟨mA,⟨od,es,ep,k _ _ (.inl rfl) e,c⟩,r⟩
 |rng lo hi=>obtain⟨t,u,v,e⟩:=x;exact⟨t,u,v,k _ _ (.inl rfl) e⟩
 |frz ob u ih=>obtain⟨e,q⟩:=x;exact⟨k _ _ (.inl rfl) e,ih q⟩
 | tbl ps =>
   have e:h.get? a=some {cls:=.none,data:=.fields ps}:=x
   show h'.get? a=some {cls:=.none,data:=.fields ps}
   exact k a _ (.inl rfl) e
 | met f y =>
   have e:h.get? a=some (W.methodObj (.ref f) (.ref y)):=x
   show h'.get? a=some (W.methodObj (.ref f) (.ref y))
   exact k a _ (.inl rfl) e
 |ext φ=>obtain⟨p,⟨o,e⟩,st⟩:=x;exact⟨st _ _ p fun o q=>k _ _ (.inl rfl) q,⟨o,k _ _ (.inl rfl) e⟩,st⟩
theorem HOk.lt (x:HOk P w H h)(e:H a=some o):a<h.objs.size:=(x a o e).lt
theorem HOk.fresh (x:HOk P w H h)(e:h.objs.size<=a):H a=none:=by
 cases q:H a with
 |none=>rfl
 |some u=>exact absurd (Nat.lt_of_lt_of_le (x.lt q) e) (Nat.lt_irrefl _)
theorem HOk.kept (x:HOk P w H h)(k:∀b u,h.get? b=some u->h'.get? b=some u):HOk P w H h':=fun a o e=>
 (x a o e).stay (fun b u _ q=>k b u q) (fun _ q=>q) fun _ _ q=>q
theorem HOk.laid (x:HOk P w H h)(k:∀b u,h.get? b=some u->h'.get? b=some u)(hp:h.objs.size<=a)(new:ObjOk P w (upd H a o) h' a o):HOk P w (upd H a o) h':=fun b u e=>by
 have hn:=x.fresh hp
 by_cases hb:b=a
 · subst hb;rw[zai] at e;cases e;exact new
 · rw[zae hb] at e
   exact (x b u e).stay (fun c v _ q=>k c v q) (fun c q=>by rw[zae (zaj q hn)];exact q) fun c xs q=>by rw[zae (zaj q hn)];exact q
end
noncomputable def Rd (H:Hp)(a:Addr)(u:HO):Prop:=H a=some u\/∃o,H a=some (.frz o u)
theorem Rd.ok {P:Program}{w:World}{H:Hp}{h:Heap}{a:Addr}{u:HO}(r:Rd H a u)(x:HOk P w H h):ObjOk P w H h a u:=by
 rcases r with r|⟨o,r⟩
 · exact x a u r
 · obtain⟨_,q⟩:=x a _ r
   exact q
noncomputable def Mut:Option HO->Prop
 |some (.lst _)=>True
 |some (.dK _)=>True
 |some (.dT _)=>True
 |some (.set _ _)=>True
 |some (.ins _ _ _)=>True
 |some (.ext _)=>True
 |_=>False
section
variable {P:Program} {w:World} {H:Hp} {h h':Heap} {x e:Addr} {o':HO}
theorem HOk.write (ok:HOk P w H h)(mu:Mut (H x))(he:e=x\/H e=some (.own x))(k:∀b u,b≠e->h.get? b=some u->h'.get? b=some u)(heo:∃u,h'.get? e=some u)
  (new:ObjOk P w (upd H x o') h' x o'):HOk P w (upd H x o') h':=fun b u q=>by
 have nown:∀c y,H c=some (.own y)->c≠x:=fun c y r z=>by subst z;rw[r] at mu;exact mu
 have ntup:∀c xs,H c=some (.tup xs)->c≠x:=fun c xs r z=>by subst z;rw[r] at mu;exact mu
 by_cases hb:b=x
 · subst hb;rw[zai] at q;cases q;exact new
 · rw[zae hb] at q
   by_cases hbe:b=e
   · have q':H b=some (.own x):=by
      rcases he with z|z
      · exact absurd (hbe.trans z) hb
      · rw[hbe];exact z
     rw[q] at q';cases q'
     obtain⟨v,hv⟩:=heo
     exact⟨v,by rw[hbe];exact hv⟩
   · refine (ok b u q).stay (fun c v hc r=>k c v ?_ r) (fun c r=>by rw[zae (nown c b r)];exact r) fun c xs r=>by rw[zae (ntup c xs r)];exact r
     rcases hc with rfl|hc
     · exact hbe
     · rintro rfl
       rcases he with z|z
       · exact nown c b hc z
       · rw[hc] at z;cases z;exact hb rfl
end
structure Un (fs ex:List Addr) (H H':Hp) (h h':Heap):Prop where
 keep:∀b o,h.get? b=some o->H b=none->b∉fs->b∉ex->h'.get? b=some o
 slot:∀b o,h.get? b=some o->H b=none->b∈fs->b∉ex->∃sl,h'.get? b=some {o with slots:=sl}
 free:∀b o,h.get? b=some o->H b=none->b∉ex->H' b=none
 there:∀b o,h.get? b=some o->b∉ex->∃o',h'.get? b=some o'
 tups:∀b xs,H b=some (.tup xs)->H' b=some (.tup xs)
 frzs:∀b o u,H b=some (.frz o u)->H' b=some (.frz o u)
 tbls:∀b ps,H b=some (.tbl ps)->∃more,H' b=some (.tbl (ps++more))
section
variable {fs fs' ex ex':List Addr} {H H1 H2:Hp} {h h1 h2 h':Heap} {a x e:Addr} {o:HO}
theorem Un.any (u:Un fs ex H H1 h h1){b:Addr}{ob:Obj}(q:h.get? b=some ob)(n:H b=none)(hx:b∉ex):∃sl,h1.get? b=some {ob with slots:=sl}:=by
 by_cases hb:b∈fs
 · exact u.slot b ob q n hb hx
 · exact⟨ob.slots,u.keep b ob q n hb hx⟩
theorem Un.kept (k:∀b u,h.get? b=some u->h'.get? b=some u):Un fs ex H H h h':=
 ⟨fun b ob q _ _ _=>k b ob q,fun b ob q _ _ _=>⟨ob.slots,k b ob q⟩,fun _ _ _ n _=>n,fun b ob q _=>⟨ob,k b ob q⟩,fun _ _ q=>q,fun _ _ _ q=>q,fun _ ps q=>⟨#[],by rw[q];simp⟩⟩
theorem Un.refl:Un fs ex H H h h:=Un.kept fun _ _ q=>q
theorem Un.laid (k:∀b u,h.get? b=some u->h'.get? b=some u)(hp:h.objs.size<=a)(hn:H a=none):Un fs ex H (upd H a o) h h' where
 keep:=fun b u q _ _ _=>k b u q
 slot:=fun b u q _ _ _=>⟨u.slots,k b u q⟩
 free:=fun b u q n _=>by rw[zae (Nat.ne_of_lt (Nat.lt_of_lt_of_le (Heap.lt_size q) hp))];exact n
 there:=fun b u q _=>⟨u,k b u q⟩
 tups:=fun b xs q=>by rw[zae (zaj q hn)];exact q
 frzs:=fun b u xs q=>by rw[zae (zaj q hn)];exact q
 tbls:=fun b ps q=>⟨#[],by rw[zae (zaj q hn),q];simp⟩
theorem Un.write (mu:Mut (H x))(he:e=x\/H e=some (.own x))(k:∀b u,b≠e->h.get? b=some u->h'.get? b=some u)(heo:∃u,h'.get? e=some u):Un fs ex H (upd H x o) h h':=by
 have hx:∀b,H b=none->b≠x:=fun b n z=>by subst z;rw[n] at mu;exact mu
 have hb:∀b,H b=none->b≠e:=fun b n z=>by
  subst z
  rcases he with r|r
  · exact hx b n r
  · rw[n] at r;cases r
 have hm:∀b u,H b=some u->¬Mut (some u)->b≠x:=fun b u q nm z=>by subst z;rw[q] at mu;exact nm mu
 refine⟨fun b u q n _ _=>k b u (hb b n) q,fun b u q n _ _=>⟨u.slots,k b u (hb b n) q⟩,fun b u q n _=>by rw[zae (hx b n)];exact n,fun b u q _=>?_,
  fun b xs q=>by rw[zae (hm b _ q fun z=>z)];exact q,fun b u xs q=>by rw[zae (hm b _ q fun z=>z)];exact q,fun b ps q=>⟨#[],by rw[zae (hm b _ q fun z=>z),q];simp⟩⟩
 by_cases hbe:b=e
 · subst hbe;exact heo
 · exact⟨u,k b u hbe q⟩
end
noncomputable def trk (h:Heap)(H:Hp):List Addr:=(List.range h.objs.size).filter fun a=>(H a).isSome
noncomputable def hidT (h:Heap)(H:Hp):Heap:=W.hideAll h (trk h H)
theorem ziq (h:Heap)(H:Hp):(hidT h H).objs.size=h.objs.size:=W.hideAll_size _ _
theorem zj6 {h:Heap}{H:Hp}{b:Addr}{o:Obj}(e:h.get? b=some o)(n:H b=none):(hidT h H).get? b=some o:=
 W.hideAll_get _ e fun hm=>by
  have q:(H b).isSome=true:=(List.mem_filter.mp hm).2
  rw[n] at q;simp at q
theorem zmh {h:Heap}{H:Hp}{b:Addr}{o:Obj}(e:(hidT h H).get? b=some o):h.get? b=some o/\H b=none:=by
 have e':h.get? b=some o:=W.of_hideAll (trk h H) e
 refine⟨e',?_⟩
 cases q:H b with
 |none=>rfl
 | some x =>
   have hm:b∈trk h H:=List.mem_filter.mpr ⟨List.mem_range.mpr (Heap.lt_size e'),by simp[q]⟩
   have z:(hidT h H).get? b=none:=W.hideAll_none (trk h H) hm
   rw[z] at e;cases e
end L2
namespace L2
open PySem PySem.Spec PyProof.Rows
structure Mod (K:W.Frag) (mg:Str->Option Value) (base:Heap):Prop where
 kin:K.In base
 glob:base.Ns mainGlobals mg
 blt:∃mb,base.Ns builtinsNs mb/\∀x:Str,x≠"__name__"->mb x=bootBuiltins x
 nolimit:base.NoLimit
structure Cx where
 prog:Program
 w:World
 K:W.Frag
 mg:Str->Option Value
 base:Heap
 A:Around
 N:List Str
 s₀:Shared
 H₀:Hp
 env:Env
 outer:List Env
 stack:List Env
 ex:List Addr
 fn:Str->Bool
 calm:Bool
 pn:List (Addr × Obj)
 xe:Value->Shared->Prop
noncomputable def frs (l:List Env):List Addr:=l.filterMap (·.frame)
noncomputable abbrev Cx.fs (X:Cx):List Addr:=frs X.outer
noncomputable def Vis (sc:Scope)(x:Str):Prop:=sc.names.lookup x=some .local\/sc.names.lookup x=some .cell\/sc.names.lookup x=some .free
noncomputable def Loc (sc:Scope)(x:Str):Prop:=sc.names.lookup x=some .local\/sc.names.lookup x=some .cell
noncomputable def Look (env:Env)(h:Heap)(m:Str->Option Value)(x:Str)(u:Value):Prop:=
 (env.kindOf x=some .local/\m x=some u)\/((env.kindOf x=some .cell\/env.kindOf x=some .free)/\∃c,env.cells.lookup x=some c/\h.IsCell c (some u))
structure Cx.Ok (X:Cx):Prop where
 mod:Mod X.K X.mg X.base
 kind:X.env.scope.kind=.function
 glob:X.env.globals=mainGlobals
 blt:X.env.builtins=builtinsNs
 above:X.s₀.heap.objs.size<=X.env.locals
 inj:∀x y c,X.env.cells.lookup x=some c->X.env.cells.lookup y=some c->x=y
 has:∀x,(X.env.kindOf x=some .cell\/X.env.kindOf x=some .free)->∃c,X.env.cells.lookup x=some c
 cab:∀x c,X.fn x=true->X.env.cells.lookup x=some c->X.s₀.heap.objs.size<=c
 hd:X.calm=true->X.A.handled=none
 frames:X.A.frames=some X.stack
 stk:X.stack=X.outer\/(X.stack=X.env::X.outer/\X.env.frame=some X.env.locals)
 exf:∀b∈X.ex,b≠X.env.locals/\∀x c,X.env.cells.lookup x=some c->c≠b
 bs:∀b o,X.base.get? b=some o->X.s₀.heap.get? b=some o/\X.H₀ b=none
 bsz:X.base.objs.size<=X.s₀.heap.objs.size
 noex:∀b o,X.base.get? b=some o->b∉X.ex
 exfs:∀b∈X.ex,b∉X.fs
 funs:X.s₀.heap.FunFrames X.base X.outer
 frf:∀b∈X.fs,X.H₀ b=none
structure Inv (X:Cx) (pins:List (Addr × Obj)) (σ:List (Option V)) (H:Hp) (s:Shared):Prop where
 ok:X.Ok
 os:s.os=X.s₀.os
 bare:AllBare s.gens
 base:Un X.fs X.ex X.H₀ H X.s₀.heap s.heap
 loc:∃m,s.heap.Ns X.env.locals m/\∀(i:Nat) (x:Str) (v:V),X.N[i]?=some x->σ[i]?=some (some v)->Vis X.env.scope x->∃u,RelV v u/\Look X.env s.heap m x u
 cell:∀x c,X.env.cells.lookup x=some c->∃v,s.heap.IsCell c v
 free:H X.env.locals=none
 freeC:∀x c,X.env.cells.lookup x=some c->H c=none
 pin:∀p∈X.pn++pins,s.heap.get? p.1=some p.2/\H p.1=none/\p.1≠X.env.locals/\p.1∉X.fs/\∀v,p.2.data≠.cell v
 hok:HOk X.prog X.w H s.heap
 len:σ.length=X.N.length
section
variable {X:Cx} {pins:List (Addr × Obj)} {σ:List (Option V)} {H H':Hp} {s:Shared} {h':Heap}
theorem Cx.Ok.nofr (ok:X.Ok){b:Addr}{o:Obj}(e:X.base.get? b=some o):b∉X.fs:=fun hb=>by
 have:=(ok.funs.mem hb).1
 rw[e] at this;cases this
theorem Inv.bs (I:Inv X pins σ H s):∀b o,X.base.get? b=some o->s.heap.get? b=some o/\H b=none:=fun b o e=>
 ⟨I.base.keep b o (I.ok.bs b o e).1 (I.ok.bs b o e).2 (I.ok.nofr e) (I.ok.noex b o e),I.base.free b o (I.ok.bs b o e).1 (I.ok.bs b o e).2 (I.ok.noex b o e)⟩
theorem Inv.bk (I:Inv X pins σ H s):∀b o,X.base.get? b=some o->s.heap.get? b=some o:=fun b o e=>(I.bs b o e).1
theorem Inv.mod (I:Inv X pins σ H s):Mod X.K X.mg X.base:=I.ok.mod
theorem Inv.kIn (I:Inv X pins σ H s):X.K.In s.heap:=I.ok.mod.kin.keeps I.bk
theorem Inv.lt (I:Inv X pins σ H s):X.env.locals<s.heap.objs.size:=let ⟨_,hn,_⟩:=I.loc;hn.lt
theorem Inv.sz (I:Inv X pins σ H s):X.s₀.heap.objs.size<=s.heap.objs.size:=Nat.le_trans I.ok.above (Nat.le_of_lt I.lt)
theorem Inv.nofs (I:Inv X pins σ H s){a:Addr}(h:s.heap.objs.size<=a):a∉X.fs:=fun hb=>by
 obtain⟨_,o,ho,_⟩:=I.ok.funs.mem hb
 exact absurd (Nat.lt_of_lt_of_le (Heap.lt_size ho) (Nat.le_trans I.sz h)) (Nat.lt_irrefl _)
theorem Inv.cne (I:Inv X pins σ H s):∀x c,X.env.cells.lookup x=some c->c≠X.env.locals:=fun x c e z=>by
 obtain⟨v,o,ho,hd⟩:=I.cell x c e
 obtain⟨m,⟨o',es,ep,ho',hd',_⟩,_⟩:=I.loc
 rw[z,ho'] at ho;cases ho;rw[hd'] at hd;cases hd
theorem Inv.funs (I:Inv X pins σ H s):s.heap.FunFrames X.base X.outer:=by
 have all:∀(l:List Env),(∀b∈frs l,b∈X.fs)->X.s₀.heap.FunFrames X.base l->s.heap.FunFrames X.base l:=by
  intro l
  induction l with
  |nil=>intro _ _;trivial
  | cons env r ih =>
    intro hs hl
    obtain⟨hk,⟨L,o,hf,hn,ho,hd⟩,hr⟩:=hl
    have hL:L∈X.fs:=hs L (by unfold frs;rw[List.filterMap_cons,hf];exact List.mem_cons_self)
    obtain⟨sl,e⟩:=I.base.slot L o ho (I.ok.frf L hL) hL fun z=>I.ok.exfs L z hL
    exact⟨hk,⟨L,_,hf,hn,e,hd⟩,ih (fun b hb=>hs b (by unfold frs;rw[List.filterMap_cons,hf];exact List.mem_cons_of_mem _ hb)) hr⟩
 exact all X.outer (fun _ hb=>hb) I.ok.funs
theorem Inv.stack (I:Inv X pins σ H s):s.heap.FunFrames X.base X.stack:=by
 rcases I.ok.stk with e|⟨e,hf⟩
 · rw[e];exact I.funs
 · rw[e]
   obtain⟨m,hn,_⟩:=I.loc
   refine .cons (by rw[I.ok.kind];decide) hf hn ?_ I.funs
   exact Heap.get?_none_of_le (Nat.le_trans I.ok.bsz I.ok.above)
theorem Inv.stkSub (I:Inv X pins σ H s):∀b∈frs X.stack,b∈X.env.locals::X.fs:=fun b hb=>by
 rcases I.ok.stk with e|⟨e,hf⟩
 · rw[e] at hb;exact List.mem_cons_of_mem _ hb
 · rw[e] at hb
   unfold frs at hb
   rw[List.filterMap_cons,hf] at hb
   exact hb
theorem Inv.stkFree (I:Inv X pins σ H s):∀b∈frs X.stack,H b=none:=fun b hb=>by
 rcases List.mem_cons.mp (I.stkSub b hb) with e|hb
 · rw[e];exact I.free
 · obtain⟨_,o,ho,_⟩:=I.ok.funs.mem hb
   exact I.base.free b o ho (I.ok.frf b hb) fun z=>I.ok.exfs b z hb
theorem Inv.step {g':Array GenState}{t':Nat}{d':Drawn}{ch:List Addr}(I:Inv X pins σ H s)
  (hch:∀b∈ch,(b∈X.ex\/X.s₀.heap.objs.size<=b)/\b≠X.env.locals/\(∀x c,X.env.cells.lookup x=some c->c≠b)/\∀p∈X.pn++pins,p.1≠b)
  (keep:∀b o,b≠X.env.locals->b∉X.fs->b∉ch->s.heap.get? b=some o->H b=none->h'.get? b=some o)
  (slot:∀b o,b≠X.env.locals->b∈X.fs->b∉ch->s.heap.get? b=some o->H b=none->∃sl,h'.get? b=some {o with slots:=sl}) (free:∀b o,b∉ch->s.heap.get? b=some o->H b=none->H' b=none)
  (there:∀b o,b∉ch->s.heap.get? b=some o->∃o',h'.get? b=some o')
  (tups:∀b xs,H b=some (.tup xs)->H' b=some (.tup xs)) (frzs:∀b o u,H b=some (.frz o u)->H' b=some (.frz o u)) (tbls:∀b ps,H b=some (.tbl ps)->∃more,H' b=some (.tbl (ps++more)))
  (ns:∀m,s.heap.Ns X.env.locals m->h'.Ns X.env.locals m) (hok:HOk X.prog X.w H' h') (hg:AllBare g') :
  Inv X pins σ H' {s with heap:=h',gens:=g',drawn:=d',toks:=t'}:=by
 have neL:∀b o,X.s₀.heap.get? b=some o->b≠X.env.locals:=fun b o e=>Nat.ne_of_lt (Nat.lt_of_lt_of_le (Heap.lt_size e) I.ok.above)
 have neC:∀b o,X.s₀.heap.get? b=some o->b∉X.ex->b∉ch:=fun b o e hx hb=>by
  rcases (hch b hb).1 with z|z
  · exact hx z
  · exact absurd (Nat.lt_of_lt_of_le (Heap.lt_size e) z) (Nat.lt_irrefl _)
 have cellK:∀x c,X.env.cells.lookup x=some c->∀v,s.heap.IsCell c v->h'.IsCell c v:=fun x c e v ⟨o,ho,hd⟩=>by
  have nch:c∉ch:=fun z=>(hch c z).2.2.1 x c e rfl
  by_cases hc:c∈X.fs
  · obtain⟨sl,q⟩:=slot c o (I.cne x c e) hc nch ho (I.freeC x c e)
    exact⟨_,q,hd⟩
  · exact⟨o,keep c o (I.cne x c e) hc nch ho (I.freeC x c e),hd⟩
 refine⟨I.ok,I.os,hg,⟨fun b o e n hb hx=>?_,fun b o e n hb hx=>?_,fun b o e n hx=>?_,fun b o e hx=>?_,fun b xs e=>tups b xs (I.base.tups b xs e),fun b o xs e=>frzs b o xs (I.base.frzs b o xs e),fun b ps e=>?_⟩,?_,fun x c e=>?_,?_,fun x c e=>?_,fun p hp=>?_,hok,I.len⟩
 · exact keep b o (neL b o e) hb (neC b o e hx) (I.base.keep b o e n hb hx) (I.base.free b o e n hx)
 · obtain⟨sl,e1⟩:=I.base.slot b o e n hb hx
   obtain⟨sl',e2⟩:=slot b _ (neL b o e) hb (neC b o e hx) e1 (I.base.free b o e n hx)
   exact⟨sl',e2⟩
 · obtain⟨o',e1⟩:=I.base.there b o e hx
   exact free b o' (neC b o e hx) e1 (I.base.free b o e n hx)
 · obtain⟨o',e1⟩:=I.base.there b o e hx
   exact there b o' (neC b o e hx) e1
 · obtain⟨m1,e1⟩:=I.base.tbls b ps e
   obtain⟨m2,e2⟩:=tbls b _ e1
   exact⟨m1++m2,by rw[e2,Array.append_assoc]⟩
 · obtain⟨m,hn,hl⟩:=I.loc
   refine⟨m,ns m hn,fun i x v e1 e2 e3=>?_⟩
   obtain⟨u,r,l⟩:=hl i x v e1 e2 e3
   refine⟨u,r,?_⟩
   rcases l with l|⟨k,c,e,z⟩
   · exact .inl l
   · exact .inr ⟨k,c,e,cellK x c e _ z⟩
 · obtain⟨v,z⟩:=I.cell x c e
   exact⟨v,cellK x c e v z⟩
 · obtain⟨m,⟨o,_,_,ho,_⟩,_⟩:=I.loc
   exact free _ o (fun z=>(hch _ z).2.1 rfl) ho I.free
 · obtain⟨v,o,ho,hd⟩:=I.cell x c e
   exact free c o (fun z=>(hch c z).2.2.1 x c e rfl) ho (I.freeC x c e)
 · obtain⟨e,n,ne,nf,d⟩:=I.pin p hp
   have nch:p.1∉ch:=fun z=>(hch p.1 z).2.2.2 p hp rfl
   exact⟨keep p.1 p.2 ne nf nch e n,free p.1 p.2 nch e n,ne,nf,d⟩
theorem Inv.un {t':Nat}(I:Inv X pins σ H s)(u:Un X.fs [] H H' s.heap h')(hok:HOk X.prog X.w H' h'):Inv X pins σ H' {s with heap:=h',toks:=t'}:=by
 obtain⟨m,⟨o,es,ep,ho,r⟩,_⟩:=id I.loc
 obtain⟨sl,hL⟩:=u.any ho I.free (by simp)
 exact I.step (g':=s.gens) (d':=s.drawn) (ch:=[]) (fun _ z=>nomatch z) (fun b o _ hb _ e n=>u.keep b o e n hb (by simp)) (fun b o _ hb _ e n=>u.slot b o e n hb (by simp)) (fun b o _ e n=>u.free b o e n (by simp)) (fun b o _ e=>u.there b o e (by simp)) u.tups u.frzs u.tbls (fun m' hm=>by
  obtain⟨o',es',ep',ho',r'⟩:=hm
  rw[ho] at ho';cases ho'
  exact⟨_,es',ep',hL,r'⟩) hok I.bare
theorem Inv.call {g':Array GenState}{t':Nat}{d':Drawn}{ch:List Addr}(I:Inv X pins σ H s)(u:Un (frs X.stack) ch H H' s.heap h')(hok:HOk X.prog X.w H' h')(hg:AllBare g')
  (hch:∀b∈ch,(b∈X.ex\/X.s₀.heap.objs.size<=b)/\b≠X.env.locals/\(∀x c,X.env.cells.lookup x=some c->c≠b)/\∀p∈X.pn++pins,p.1≠b) :
  Inv X pins σ H' {s with heap:=h',gens:=g',drawn:=d',toks:=t'}:=by
 obtain⟨m,⟨o,es,ep,ho,r⟩,_⟩:=id I.loc
 obtain⟨sl,hL⟩:=u.any ho I.free fun z=>(hch _ z).2.1 rfl
 exact I.step (ch:=ch) hch (fun b o hL hb hc e n=>u.keep b o e n (fun z=>(List.mem_cons.mp (I.stkSub b z)).elim hL hb) hc) (fun b o _ _ hc e n=>u.any e n hc) (fun b o hc e n=>u.free b o e n hc) (fun b o hc e=>u.there b o e hc) u.tups u.frzs u.tbls (fun m' hm=>by
  obtain⟨o',es',ep',ho',r'⟩:=hm
  rw[ho] at ho';cases ho'
  exact⟨_,es',ep',hL,r'⟩) hok hg
theorem Inv.turned {t':Nat}{it:Addr}(I:Inv X pins σ H s)(k:∀b o,b≠it->s.heap.get? b=some o->h'.get? b=some o)(hn:H it=none)(hL:it≠X.env.locals)
  (h1:it∈X.ex\/X.s₀.heap.objs.size<=it) (h2:∀x c,X.env.cells.lookup x=some c->c≠it) (h3:∀p∈X.pn++pins,p.1≠it):Inv X pins σ H {s with heap:=h',toks:=t'}:=by
 have nit:∀b u,H b=some u->b≠it:=fun b u e z=>by rw[z,hn] at e;cases e
 refine I.step (g':=s.gens) (d':=s.drawn) (ch:=[it]) (fun b hb=>?_) (fun b o _ _ hc e _=>k b o (fun z=>hc (by simp[z])) e) (fun b o _ _ hc e _=>⟨o.slots,k b o (fun z=>hc (by simp[z])) e⟩) (fun _ _ _ _ n=>n)
  (fun b o hc e=>⟨o,k b o (fun z=>hc (by simp[z])) e⟩) (fun _ _ e=>e) (fun _ _ _ e=>e) (fun b ps e=>⟨#[],by rw[e];simp⟩) (fun m hm=>?_) (fun b u e=>?_) I.bare
 · have e:b=it:=by simpa using hb
   subst e
   exact⟨h1,hL,h2,h3⟩
 · obtain⟨o,es,ep,ho,r⟩:=hm
   exact⟨o,es,ep,k _ o (Ne.symm hL) ho,r⟩
 · refine (I.hok b u e).stay (fun c v hc q=>k c v ?_ q) (fun _ q=>q) fun _ _ q=>q
   rcases hc with z|z
   · rw[z];exact nit b u e
   · exact nit c _ z
theorem Inv.tok (I:Inv X pins σ H s)(t:Nat):Inv X pins σ H {s with toks:=t}:=I.un (h':=s.heap) (t':=t) Un.refl I.hok
theorem Inv.kept {t':Nat}(I:Inv X pins σ H s)(k:∀b u,s.heap.get? b=some u->h'.get? b=some u):Inv X pins σ H {s with heap:=h',toks:=t'}:=I.un (Un.kept k) (I.hok.kept k)
theorem Inv.laid {a:Addr}{o:HO}{t':Nat}(I:Inv X pins σ H s)(k:∀b u,s.heap.get? b=some u->h'.get? b=some u)(hp:s.heap.objs.size<=a)(new:ObjOk X.prog X.w (upd H a o) h' a o) :
 Inv X pins σ (upd H a o) {s with heap:=h',toks:=t'}:=I.un (Un.laid k hp (I.hok.fresh hp)) (I.hok.laid k hp new)
theorem Inv.write {x e:Addr}{o:HO}{t':Nat}(I:Inv X pins σ H s)(mu:Mut (H x))(he:e=x\/H e=some (.own x))(k:∀b u,b≠e->s.heap.get? b=some u->h'.get? b=some u)(heo:∃u,h'.get? e=some u)
 (new:ObjOk X.prog X.w (upd H x o) h' x o):Inv X pins σ (upd H x o) {s with heap:=h',toks:=t'}:=I.un (Un.write mu he k heo) (I.hok.write mu he k heo new)
theorem Inv.pins_of {pins':List (Addr × Obj)}(I:Inv X pins σ H s)(h:∀p∈pins',s.heap.get? p.1=some p.2/\H p.1=none/\p.1≠X.env.locals/\p.1∉X.fs/\∀v,p.2.data≠.cell v):Inv X pins' σ H s:=
 ⟨I.ok,I.os,I.bare,I.base,I.loc,I.cell,I.free,I.freeC,fun p hp=>(List.mem_append.mp hp).elim (fun z=>I.pin p (List.mem_append_left _ z)) (h p),I.hok,I.len⟩
theorem zgh {N:List Str}(hN:N.Nodup){i j:Nat}{x:Str}(a:N[i]?=some x)(b:N[j]?=some x):i=j:=by
 obtain⟨h1,e1⟩:=List.getElem?_eq_some_iff.mp a
 obtain⟨h2,e2⟩:=List.getElem?_eq_some_iff.mp b
 exact (List.getElem_inj hN).mp (e1.trans e2.symm)
theorem zeA {M:Model}{A:Around}{E:Value->Shared->Prop}{i:Nat}{x:Str}{v:V}{u:Value}{Q:Unit->Shared->Prop}(I:Inv X pins σ H s)(hN:X.N.Nodup)(hi:X.N[i]?=some x)(hx:Loc X.env.scope x)(r:RelV v u)
  (h:∀s',Inv X pins (σ.set i (some v)) H s'->(∃a,Heap.SameBut a s.heap s'.heap/\(a=X.env.locals\/X.env.cells.lookup x=some a))->Q () s') (hf:X.fn x=true\/X.env.scope.names.lookup x=some .local:=by first|exact .inl rfl|exact .inr rfl|assumption):wpAny M A (storeName X.env x u) Q E s:=by
 obtain⟨m,hn,hl⟩:=id I.loc
 have hcls:(X.env.scope.kind == .class || (X.env.scope.kind == .module&&X.env.locals != X.env.globals))=false:=by rw[I.ok.kind];rfl
 have hiσ:i<σ.length:=by rw[I.len];exact (List.getElem?_eq_some_iff.mp hi).1
 have cne:=I.cne
 have tracked:∀{a:Addr} {h':Heap},(∃o,s.heap.get? a=some o/\H a=none)->Heap.SameBut a s.heap h'->HOk X.prog X.w H h':=fun {a h'} ha hs b ob e=>by
  obtain⟨_,_,hfree⟩:=ha
  refine (I.hok b ob e).stay (fun c w' hc q=>(hs.2 c ?_).trans q) (fun _ q=>q) fun _ _ q=>q
  rintro rfl
  rcases hc with rfl|hc
  · rw[hfree] at e;cases e
  · rw[hfree] at hc;cases hc
 rcases hx with hk|hk
 · refine wpAny_storeName_local hk hn (fun h' hn' hs=>?_) hcls
   obtain⟨oL,_,_,hoL,_⟩:=id hn
   refine h _ ⟨I.ok,I.os,I.bare,⟨fun b o e n hb hx=>?_,fun b o e n hb hx=>?_,I.base.free,fun b o e hx=>?_,I.base.tups,I.base.frzs,I.base.tbls⟩,⟨_,hn',fun j y v' e1 e2 e3=>?_⟩,fun y c e=>?_,I.free,I.freeC,fun p hp=>?_,tracked ⟨oL,hoL,I.free⟩ hs,by simpa using I.len⟩ ⟨_,hs,.inl rfl⟩
   · exact (hs.2 b (Nat.ne_of_lt (Nat.lt_of_lt_of_le (Heap.lt_size e) I.ok.above))).trans (I.base.keep b o e n hb hx)
   · obtain⟨sl,e1⟩:=I.base.slot b o e n hb hx
     exact⟨sl,(hs.2 b (Nat.ne_of_lt (Nat.lt_of_lt_of_le (Heap.lt_size e) I.ok.above))).trans e1⟩
   · obtain⟨o',e1⟩:=I.base.there b o e hx
     exact⟨o',(hs.2 b (Nat.ne_of_lt (Nat.lt_of_lt_of_le (Heap.lt_size e) I.ok.above))).trans e1⟩
   · by_cases hj:j=i
     · subst hj
       rw[hi] at e1;cases e1
       rw[List.getElem?_set_self hiσ] at e2
       cases e2
       exact⟨u,r,.inl ⟨hk,by simp⟩⟩
     · rw[List.getElem?_set_ne (Ne.symm hj)] at e2
       obtain⟨u',r',q⟩:=hl j y v' e1 e2 e3
       refine⟨u',r',?_⟩
       rcases q with ⟨k,e⟩|⟨k,c,e,z⟩
       · refine .inl ⟨k,?_⟩
         have:y≠x:=fun e=>hj (zgh hN e1 (e▸hi))
         simp[this,e]
       · exact .inr ⟨k,c,e,z.sameBut hs (cne y c e)⟩
   · obtain⟨w',z⟩:=I.cell y c e
     exact⟨w',z.sameBut hs (cne y c e)⟩
   · obtain⟨e,n,ne,nf,d⟩:=I.pin p hp
     exact⟨(hs.2 p.1 ne).trans e,n,ne,nf,d⟩
 · have hfn:X.fn x=true:=by
    rcases hf with z|z
    · exact z
    · rw[z] at hk;cases hk
   obtain⟨c,hc⟩:=I.ok.has x (.inl hk)
   obtain⟨w',z⟩:=I.cell x c hc
   refine wpAny_storeName_cell I.ok.kind hk hc z (fun h' hc' hs=>?_)
   obtain⟨oc,hoc,hocd⟩:=id z
   refine h {s with heap:=h'} ⟨I.ok,I.os,I.bare,⟨fun b o e n hb hx=>?_,fun b o e n hb hx=>?_,I.base.free,fun b o e hx=>?_,I.base.tups,I.base.frzs,I.base.tbls⟩,⟨m,hn.sameBut hs (Ne.symm (cne x c hc)),fun j y v' e1 e2 e3=>?_⟩,fun y c' e=>?_,I.free,I.freeC,fun p hp=>?_,tracked ⟨oc,hoc,I.freeC x c hc⟩ hs,by simpa using I.len⟩ ⟨c,hs,.inr hc⟩
   · exact (hs.2 b (Nat.ne_of_lt (Nat.lt_of_lt_of_le (Heap.lt_size e) (I.ok.cab x c hfn hc)))).trans (I.base.keep b o e n hb hx)
   · obtain⟨sl,e1⟩:=I.base.slot b o e n hb hx
     exact⟨sl,(hs.2 b (Nat.ne_of_lt (Nat.lt_of_lt_of_le (Heap.lt_size e) (I.ok.cab x c hfn hc)))).trans e1⟩
   · obtain⟨o',e1⟩:=I.base.there b o e hx
     exact⟨o',(hs.2 b (Nat.ne_of_lt (Nat.lt_of_lt_of_le (Heap.lt_size e) (I.ok.cab x c hfn hc)))).trans e1⟩
   · by_cases hj:j=i
     · subst hj
       rw[hi] at e1;cases e1
       rw[List.getElem?_set_self hiσ] at e2
       cases e2
       exact⟨u,r,.inr ⟨.inl hk,c,hc,hc'⟩⟩
     · rw[List.getElem?_set_ne (Ne.symm hj)] at e2
       obtain⟨u',r',q⟩:=hl j y v' e1 e2 e3
       refine⟨u',r',?_⟩
       rcases q with q|⟨k,c',e,z'⟩
       · exact .inl q
       · refine .inr ⟨k,c',e,z'.sameBut hs ?_⟩
         rintro rfl
         exact hj (zgh hN e1 (I.ok.inj _ _ _ e hc▸hi))
   · by_cases hcc:c'=c
     · subst hcc;exact⟨_,hc'⟩
     · obtain⟨w2,z2⟩:=I.cell y c' e
       exact⟨w2,z2.sameBut hs hcc⟩
   · obtain⟨e,n,ne,nf,d⟩:=I.pin p hp
     refine⟨(hs.2 p.1 ?_).trans e,n,ne,nf,d⟩
     intro q
     rw[q,hoc] at e
     have q':oc=p.2:=Option.some.inj e
     exact d w' (by rw[<-q'];exact hocd)
theorem zd5 {M:Model}{A:Around}{E:Value->Shared->Prop}{i:Nat}{x:Str}{v:V}{u:Value}{Q:Unit->Shared->Prop}(I:Inv X pins σ H s)(hN:X.N.Nodup)(hi:X.N[i]?=some x)(hx:Loc X.env.scope x)(r:RelV v u)
  (h:∀s',Inv X pins (σ.set i (some v)) H s'->Q () s') (hf:X.fn x=true\/X.env.scope.names.lookup x=some .local:=by first|exact .inl rfl|exact .inr rfl|assumption):wpAny M A (storeName X.env x u) Q E s:=
 zeA I hN hi hx r (fun s' I' _=>h s' I') hf
theorem Inv.call' {s':Shared}{ch:List Addr}(I:Inv X pins σ H s)(ho:s'.os=s.os)(u:Un (frs X.stack) ch H H' s.heap s'.heap)(hok:HOk X.prog X.w H' s'.heap)(hg:AllBare s'.gens)
  (hch:∀b∈ch,(b∈X.ex\/X.s₀.heap.objs.size<=b)/\b≠X.env.locals/\(∀x c,X.env.cells.lookup x=some c->c≠b)/\∀p∈X.pn++pins,p.1≠b):Inv X pins σ H' s':=by
 obtain⟨h',g',d',t',o'⟩:=s'
 have e:o'=s.os:=ho
 subst e
 exact I.call (g':=g') (t':=t') (d':=d') u hok hg hch
end
noncomputable abbrev XK:=Value->Option Addr->Hp->Prop
noncomputable abbrev St:=List (Option V)
noncomputable abbrev VK:=V->Hp->Prop
noncomputable abbrev TE:=St->Hp->VK->Prop
noncomputable abbrev TT:=St->Hp->(Bool->Hp->Prop)->Prop
noncomputable abbrev TA:=St->Hp->(List V->Hp->Prop)->Prop
structure Ends where
 nx:St->Hp->Prop
 rt:VK
 bk:St->Hp->Prop:=fun _ _=>False
 ct:St->Hp->Prop:=fun _ _=>False
noncomputable abbrev TS:=Ends->St->Hp->Prop
noncomputable def EP (X:Cx)(pins:List (Addr × Obj))(σ:St)(Q:VK)(u:Value)(s':Shared):Prop:=∃v H',Inv X pins σ H' s'/\RelV v u/\Q v H'
noncomputable def TP (X:Cx)(pins:List (Addr × Obj))(σ:St)(Q:Bool->Hp->Prop)(b:Bool)(s':Shared):Prop:=∃H',Inv X pins σ H' s'/\Q b H'
noncomputable def AP (X:Cx)(pins:List (Addr × Obj))(σ:St)(Q:List V->Hp->Prop)(us:List Value)(s':Shared):Prop:=∃vs H',Inv X pins σ H' s'/\Vals vs us/\Q vs H'
noncomputable def SP (X:Cx)(pins:List (Addr × Obj))(D:Ends)(f:Flow)(s':Shared):Prop:=
 match f with
 |.next=>∃σ' H',Inv X pins σ' H' s'/\D.nx σ' H'
 |.brk=>∃σ' H',Inv X pins σ' H' s'/\D.bk σ' H'
 |.cont=>∃σ' H',Inv X pins σ' H' s'/\D.ct σ' H'
 |.ret u=>∃v σ' H',Inv X pins σ' H' s'/\RelV v u/\D.rt v H'
noncomputable def PE (X:Cx)(e:Expr)(t:TE):Prop:=
 ∀(pins:List (Addr × Obj)) (s:Shared) (σ:St) (H:Hp) (Q:VK),Inv X pins σ H s->t σ H Q->wpAny (model X.prog X.w) X.A (eval e X.env) (EP X pins σ Q) X.xe s
noncomputable def PT (X:Cx)(e:Expr)(t:TT):Prop:=
 ∀(pins:List (Addr × Obj)) (s:Shared) (σ:St) (H:Hp) (Q:Bool->Hp->Prop),Inv X pins σ H s->t σ H Q->wpAny (model X.prog X.w) X.A (isTrue e X.env (eval e X.env)) (TP X pins σ Q) X.xe s
noncomputable def PW (X:Cx)(e:Expr)(t:TT):Prop:=
 ∀(whole:Sem Value) (pins:List (Addr × Obj)) (s:Shared) (σ:St) (H:Hp) (Q:Bool->Hp->Prop),Inv X pins σ H s->t σ H Q->wpAny (model X.prog X.w) X.A (isTrue e X.env whole) (TP X pins σ Q) X.xe s
theorem PW.pt {X:Cx}{e:Expr}{t:TT}(h:PW X e t):PT X e t:=h _
noncomputable def PA (X:Cx)(es:List Expr)(t:TA):Prop:=
 ∀(pos:Pos) (pins:List (Addr × Obj)) (s:Shared) (σ:St) (H:Hp) (Q:List V->Hp->Prop),Inv X pins σ H s->t σ H Q->wpAny (model X.prog X.w) X.A (spliced (backTo pos (starEach es X.env))) (AP X pins σ Q) X.xe s
noncomputable def PS (X:Cx)(st:Stmt)(t:TS):Prop:=
 ∀(pins:List (Addr × Obj)) (s:Shared) (σ:St) (H:Hp) (D:Ends),Inv X pins σ H s->t D σ H->wpAny (model X.prog X.w) X.A (exec st X.env) (SP X pins D) X.xe s
noncomputable def PSs (X:Cx)(st:List Stmt)(t:TS):Prop:=
 ∀(pins:List (Addr × Obj)) (s:Shared) (σ:St) (H:Hp) (D:Ends),Inv X pins σ H s->t D σ H->wpAny (model X.prog X.w) X.A (execs st X.env) (SP X pins D) X.xe s
theorem thn {α:Type}{t:Sem α}{Q Q':α->Shared->Prop}{M:Model}{A:Around}{E:Value->Shared->Prop}{s:Shared}(h:wpAny M A t Q E s)(hQ:∀a s,Q a s->Q' a s):wpAny M A t Q' E s:=wpAny_mono h hQ fun _ _ x=>x
end L2
namespace L2
open PySem PySem.Spec PyProof.Rows
section
variable {X:Cx}
theorem bin {a b:Expr}{ta tb:TE}(ha:PE X a ta)(hb:PE X b tb){pins:List (Addr × Obj)}{s:Shared}{σ:St}{H:Hp}{R:V->V->Hp->Prop}(I:Inv X pins σ H s)(h:ta σ H fun x H1=>tb σ H1 fun y H2=>R x y H2)
  {α:Type} {Q:α->Shared->Prop} {f:Value->Value->Sem α}
  (hf:∀v u s2 x y H2,Inv X pins σ H2 s2->RelV x v->RelV y u->R x y H2->wpAny (model X.prog X.w) X.A (f v u) Q X.xe s2) :
  wpAny (model X.prog X.w) X.A (eval a X.env) (fun v s₁=>wpAny (model X.prog X.w) X.A (eval b X.env) (fun u s₂=>wpAny (model X.prog X.w) X.A (f v u) Q X.xe s₂) X.xe s₁) X.xe s:=by
 refine thn (ha pins s σ H _ I h) fun v s1 ⟨x,H1,I1,r1,q1⟩=>?_
 refine thn (hb pins s1 σ H1 _ I1 q1) fun u s2 ⟨y,H2,I2,r2,q2⟩=>?_
 exact hf v u s2 x y H2 I2 r1 r2 q2
noncomputable def tVar (i:Nat):TE:=fun σ H Q=>∃v,σ[i]?=some (some v)/\Q v H
noncomputable def tC (v:V):TE:=fun _ H Q=>Q v H
theorem zbA {i:Nat}{x:Str}{pos:Pos}(hN:X.N[i]?=some x)(hv:Vis X.env.scope x)(hd:(x == ("__debug__":Str))=false:=by decide)(hcd:(x == ("__classdict__":Str))=false:=by decide):PE X (.Name x pos) (tVar i):=by
 intro pins s σ H Q I h
 obtain⟨v,e,h⟩:=h
 obtain⟨m,hn,hl⟩:=I.loc
 obtain⟨u,r,l⟩:=hl i x v hN e hv
 have fin:EP X pins σ Q u s:=⟨v,H,I,r,h⟩
 rcases l with ⟨hk,hm⟩|⟨hk,c,hc,hcell⟩
 · exact wpAny_Name (wpAny_loadName_local I.ok.kind hk hn hm fin) hd
 · rcases hk with hk|hk
   · exact wpAny_Name (wpAny_loadName_cell I.ok.kind hk hc hcell fin) hd
   · exact wpAny_Name (wpAny_loadName_free I.ok.kind hk hc hcell fin hcd) hd
theorem zhO {i j pos}:PE X (.Constant (.int i) j pos) (tC (.int i)):=fun _ _ _ H _ I h=>wpAny_Constant_int ⟨.int i,H,I.tok _,⟨_,rfl⟩,h⟩
theorem zpT {b j pos}:PE X (.Constant (.bool b) j pos) (tC (.bl b)):=fun _ _ _ H _ I h=>Constant_bool ⟨.bl b,H,I,rfl,h⟩
theorem zkM {j pos}:PE X (.Constant .none j pos) (tC .non):=fun _ _ _ H _ I h=>Constant_none ⟨.non,H,I,rfl,h⟩
theorem zoi {x j pos}:PE X (.Constant (.str x) j pos) (tC (.str x)):=fun _ _ _ H _ I h=>Calls.Constant_str ⟨.str x,H,I.tok _,⟨_,rfl⟩,h⟩
noncomputable def Gl (X:Cx)(x:Str):Prop:=X.env.kindOf x=some .globalImplicit
theorem zda {E:Value->Shared->Prop}{pins:List (Addr × Obj)}{s:Shared}{σ:St}{H:Hp}{x:Str}{u:Value}{pos:Pos}{Q:Value->Shared->Prop}(I:Inv X pins σ H s)(hg:Gl X x)(hm:X.mg x=some u)(h:Q u s)
  (hd:(x == ("__debug__":Str))=false:=by decide):wpAny (model X.prog X.w) X.A (eval (.Name x pos) X.env) Q E s:=
 Calls.Name_function_global I.ok.kind hg (Calls.loadGlobal_global (by rw[I.ok.glob];exact I.mod.glob.keeps I.bk) hm h) hd
theorem zdJ {E:Value->Shared->Prop}{pins:List (Addr × Obj)}{s:Shared}{σ:St}{H:Hp}{x:Str}{u:Value}{pos:Pos}{Q:Value->Shared->Prop}(I:Inv X pins σ H s)(hg:Gl X x)(hm:X.mg x=none)(hv:bootBuiltins x=some u)(h:Q u s)
  (hn:x≠"__name__":=by decide) (hd:(x == ("__debug__":Str))=false:=by decide):wpAny (model X.prog X.w) X.A (eval (.Name x pos) X.env) Q E s:=by
 obtain⟨mb,h1,h2⟩:=I.mod.blt
 exact Calls.Name_function_global I.ok.kind hg (Calls.loadGlobal_builtin (by rw[I.ok.glob];exact I.mod.glob.keeps I.bk) hm (by rw[I.ok.blt];exact h1.keeps I.bk) ((h2 x hn).trans hv) h) hd
theorem zfB {x:Str}{v:V}{u:Value}{pos:Pos}(hg:Gl X x)(hm:X.mg x=some u)(r:RelV v u)(hd:(x == ("__debug__":Str))=false:=by decide):PE X (.Name x pos) (tC v):=
 fun _ _ _ H _ I h=>zda I hg hm ⟨v,H,I,r,h⟩ hd
theorem zmb {x:Str}{v:V}{u:Value}{pos:Pos}(hg:Gl X x)(hm:X.mg x=none)(hv:bootBuiltins x=some u)(r:RelV v u)(hn:x≠"__name__":=by decide)(hd:(x == ("__debug__":Str))=false:=by decide):PE X (.Name x pos) (tC v):=
 fun _ _ _ H _ I h=>zdJ I hg hm hv ⟨v,H,I,r,h⟩ hn hd
variable {a b:Expr} {ta tb:TE} {pos:Pos}
theorem RelV.none_iff {x:V}{v:Value}(r:RelV x v):(v == Value.none)=decide (x=.non):=by
 cases x with
 |non=>cases r;rfl
 |bl _=>cases r;rfl
 |int _=>obtain⟨t,rfl⟩:=r;rfl
 |str _=>obtain⟨t,rfl⟩:=r;rfl
 |byt _=>obtain⟨t,rfl⟩:=r;rfl
 |flt _=>obtain⟨t,rfl⟩:=r;rfl
 |ref _=>cases r;rfl
 |ty _=>cases r;rfl
variable {tA tB':TT} {rest:List Expr}
noncomputable def tAnd (t u:TT):TT:=fun σ H Q=>t σ H fun c H1=>if c=true then u σ H1 Q else Q false H1
noncomputable def tOr (t u:TT):TT:=fun σ H Q=>t σ H fun c H1=>if c=true then Q true H1 else u σ H1 Q
noncomputable def tNot (t:TT):TT:=fun σ H Q=>t σ H fun c H1=>Q (!c) H1
theorem zlU (ha:PT X a tA):PW X (.BoolOp .And [a] pos) tA:=by
 intro wh pins s σ H Q I h
 refine isTrue_and (thn (ha pins s σ H Q I h) fun c s1 e=>?_)
 cases c with
 |true=>exact isTrue_and_nil e
 |false=>exact e
theorem zn9 (ha:PT X a tA):PW X (.BoolOp .Or [a] pos) tA:=by
 intro wh pins s σ H Q I h
 refine isTrue_or (thn (ha pins s σ H Q I h) fun c s1 e=>?_)
 cases c with
 |false=>exact isTrue_or_nil e
 |true=>exact e
theorem zoa (ha:PT X a tA)(hb:PW X (.BoolOp .And (b::rest) pos) tB'):PW X (.BoolOp .And (a::b::rest) pos) (tAnd tA tB'):=by
 intro wh pins s σ H Q I h
 refine isTrue_and (thn (ha pins s σ H _ I h) fun c s1 ⟨H1,I1,q1⟩=>?_)
 cases c with
 |true=>exact hb wh pins s1 σ H1 Q I1 q1
 |false=>exact⟨H1,I1,q1⟩
theorem zpP (ha:PT X a tA)(hb:PW X (.BoolOp .Or (b::rest) pos) tB'):PW X (.BoolOp .Or (a::b::rest) pos) (tOr tA tB'):=by
 intro wh pins s σ H Q I h
 refine isTrue_or (thn (ha pins s σ H _ I h) fun c s1 ⟨H1,I1,q1⟩=>?_)
 cases c with
 |true=>exact⟨H1,I1,q1⟩
 |false=>exact hb wh pins s1 σ H1 Q I1 q1
theorem zob (ha:PT X a tA):PT X (.UnaryOp .Not a pos) (tNot tA):=by
 intro pins s σ H Q I h
 exact isTrue_not (ha pins s σ H (fun c H1=>Q (!c) H1) I h)
noncomputable def zpD (ta tb:TE):TE:=fun σ H Q=>ta σ H fun x H1=>∃c,x=.bl c/\if c=true then tb σ H1 Q else Q (.bl false) H1
noncomputable def tOrV (ta tb:TE):TE:=fun σ H Q=>ta σ H fun x H1=>∃c,x=.bl c/\if c=true then Q (.bl true) H1 else tb σ H1 Q
noncomputable def zpB (ta:TE):TE:=fun σ H Q=>ta σ H fun x H1=>∃c,x=.bl c/\Q (.bl (!c)) H1
theorem zkL {op}{t:TE}(h:PE X a t):PE X (.BoolOp op [a] pos) t:=fun pins s σ H Q I hw=>BoolOp_one (h pins s σ H Q I hw)
theorem zos (ha:PE X a ta)(hb:PE X (.BoolOp .And (b::rest) pos) tb):PE X (.BoolOp .And (a::b::rest) pos) (zpD ta tb):=by
 intro pins s σ H Q I h
 refine BoolOp_and (thn (ha pins s σ H _ I h) fun v s1 ⟨x,H1,I1,r1,q1⟩=>?_)
 obtain⟨c,rfl,q1⟩:=q1
 cases r1
 refine wpAny_truthy_bool ?_
 cases c with
 |true=>exact hb pins s1 σ H1 Q I1 q1
 |false=>exact⟨.bl false,H1,I1,rfl,q1⟩
theorem zpR (ha:PE X a ta)(hb:PE X (.BoolOp .Or (b::rest) pos) tb):PE X (.BoolOp .Or (a::b::rest) pos) (tOrV ta tb):=by
 intro pins s σ H Q I h
 refine BoolOp_or (thn (ha pins s σ H _ I h) fun v s1 ⟨x,H1,I1,r1,q1⟩=>?_)
 obtain⟨c,rfl,q1⟩:=q1
 cases r1
 refine wpAny_truthy_bool ?_
 cases c with
 |false=>exact hb pins s1 σ H1 Q I1 q1
 |true=>exact⟨.bl true,H1,I1,rfl,q1⟩
theorem zol (ha:PE X a ta):PE X (.UnaryOp .Not a pos) (zpB ta):=by
 intro pins s σ H Q I h
 refine UnaryOp_ (thn (ha pins s σ H _ I h) fun v s1 ⟨x,H1,I1,r1,q1⟩=>?_)
 obtain⟨c,rfl,q1⟩:=q1
 cases r1
 exact not_of (wpAny_truthy_bool ⟨.bl (!c),H1,I1,rfl,q1⟩)
noncomputable def tIf (t:TT)(ta tb:TE):TE:=fun σ H Q=>t σ H fun c H1=>if c=true then ta σ H1 Q else tb σ H1 Q
theorem zjE {c:Expr}(hc:PT X c tA)(ha:PE X a ta)(hb:PE X b tb):PE X (.IfExp c a b pos) (tIf tA ta tb):=by
 intro pins s σ H Q I h
 refine wpAny_IfExp (thn (hc pins s σ H _ I h) fun d s1 ⟨H1,I1,q1⟩=>?_)
 cases d with
 |true=>exact ha pins s1 σ H1 Q I1 q1
 |false=>exact hb pins s1 σ H1 Q I1 q1
end
end L2
namespace L2
open PySem PySem.Spec PyProof.Rows
noncomputable def SqL (K:W.Frag)(H:Hp)(a:Addr)(xs:List V):Prop:=
 Rd H a (.lst xs)\/
  ∃(o:Obj) (its:Array Value) (n:Nat),K.lookup a=some o/\o.cls=.type "list"/\o.dict=none/\o.data=.seq its n/\its.size<=sizeLine/\Vals xs its.toList
noncomputable def SqT (K:W.Frag)(H:Hp)(a:Addr)(xs:List V):Prop:=
 Rd H a (.tup xs)\/
  ∃(o:Obj) (its:Array Value) (n:Nat),K.lookup a=some o/\o.cls=.type "tuple"/\o.data=.seq its n/\its.size<=sizeLine/\Vals xs its.toList
noncomputable def absV:Value->Option V
 |.none=>some .non
 |.bool b=>some (.bl b)
 |.int i _=>some (.int i)
 |.str x _=>some (.str x)
 |.bytes b _=>some (.byt b)
 |.float b _=>some (.flt b)
 |.ref a=>some (.ref a)
 |.type n=>some (.ty n)
 |_=>none
theorem RelV.abs {x:V}{u:Value}(r:RelV x u):absV u=some x:=by
 cases x with
 |non=>cases r;rfl
 |bl _=>cases r;rfl
 |int _=>obtain⟨t,rfl⟩:=r;rfl
 |str _=>obtain⟨t,rfl⟩:=r;rfl
 |byt _=>obtain⟨t,rfl⟩:=r;rfl
 |flt _=>obtain⟨t,rfl⟩:=r;rfl
 |ref _=>cases r;rfl
 |ty _=>cases r;rfl
theorem RelV.inj {x y:V}{u:Value}(r:RelV x u)(q:RelV y u):x=y:=Option.some.inj (r.abs.symm.trans q.abs)
theorem Vals.inj:∀{xs ys:List V} {us:List Value},Vals xs us->Vals ys us->xs=ys
 |_,_,_,.nil,.nil=>rfl
 |_,_,_,.cons r t,.cons r' t'=>by rw[r.inj r',Vals.inj t t']
section
variable {X:Cx} {pins:List (Addr × Obj)} {σ:St} {H:Hp} {s:Shared} {a:Addr} {xs ys:List V}
theorem SqL.of {K:W.Frag}(h:H a=some (.lst xs)):SqL K H a xs:=.inl (.inl h)
theorem SqT.of {K:W.Frag}(h:H a=some (.tup xs)):SqT K H a xs:=.inl (.inl h)
theorem Inv.list (I:Inv X pins σ H s)(h:SqL X.K H a xs):∃its:List Value,Vals xs its/\PlainL s.heap a its.toArray/\xs.length<=sizeLine:=by
 rcases h with h|⟨o,its,n,hk,hc,hd,hs,hz,r⟩
 · obtain⟨z,its,n,r,e⟩:=h.ok I.hok
   exact⟨its,r,⟨_,n,e,rfl,rfl,rfl⟩,z⟩
 · refine⟨its.toList,r,⟨o,n,I.kIn a o hk,hc,hd,by simpa using hs⟩,?_⟩
   have e:=r.length
   simp only[Array.length_toList] at e
   omega
theorem Inv.tuple (I:Inv X pins σ H s)(h:SqT X.K H a xs):∃its:List Value,Vals xs its/\IsTup s.heap a its.toArray/\xs.length<=sizeLine:=by
 rcases h with h|⟨o,its,n,hk,hc,hs,hz,r⟩
 · obtain⟨z,its,r,p⟩:=h.ok I.hok
   exact⟨its,r,p,z⟩
 · refine⟨its.toList,r,⟨o,I.kIn a o hk,hc,n,by simpa using hs⟩,?_⟩
   have e:=r.length
   simp only[Array.length_toList] at e
   omega
theorem Inv.list_inj (I:Inv X pins σ H s)(h:SqL X.K H a xs)(h':SqL X.K H a ys):xs=ys:=by
 obtain⟨its,r,⟨o,n,e,_,_,d⟩,_⟩:=I.list h
 obtain⟨its',r',⟨o',n',e',_,_,d'⟩,_⟩:=I.list h'
 rw[e] at e';cases e'
 rw[d] at d'
 injection d' with d1 _
 have:its=its':=by simpa using congrArg Array.toList d1
 subst this
 exact r.inj r'
theorem Inv.tuple_inj (I:Inv X pins σ H s)(h:SqT X.K H a xs)(h':SqT X.K H a ys):xs=ys:=by
 obtain⟨its,r,⟨o,e,_,n,d⟩,_⟩:=I.tuple h
 obtain⟨its',r',⟨o',e',_,n',d'⟩,_⟩:=I.tuple h'
 rw[e] at e';cases e'
 rw[d] at d'
 injection d' with d1 _
 have:its=its':=by simpa using congrArg Array.toList d1
 subst this
 exact r.inj r'
end
noncomputable abbrev Cx.wish (X:Cx)(E:Value->Shared->Prop):Cx:={X with xe:=E}
noncomputable abbrev Cx.nox (X:Cx):Cx:=X.wish fun _ _=>False
theorem Cx.Ok.wish {X:Cx}(ok:X.Ok)(E:Value->Shared->Prop):(X.wish E).Ok:=
 ⟨ok.mod,ok.kind,ok.glob,ok.blt,ok.above,ok.inj,ok.has,ok.cab,ok.hd,ok.frames,ok.stk,ok.exf,ok.bs,ok.bsz,ok.noex,ok.exfs,ok.funs,ok.frf⟩
theorem Cx.Ok.unwish {X:Cx}{E:Value->Shared->Prop}(ok:(X.wish E).Ok):X.Ok:=
 ⟨ok.mod,ok.kind,ok.glob,ok.blt,ok.above,ok.inj,ok.has,ok.cab,ok.hd,ok.frames,ok.stk,ok.exf,ok.bs,ok.bsz,ok.noex,ok.exfs,ok.funs,ok.frf⟩
section
variable {X:Cx} {pins:List (Addr × Obj)} {σ:St} {H:Hp} {s:Shared} {E:Value->Shared->Prop}
theorem Inv.wish (I:Inv X pins σ H s)(E:Value->Shared->Prop):Inv (X.wish E) pins σ H s:=⟨I.ok.wish E,I.os,I.bare,I.base,I.loc,I.cell,I.free,I.freeC,I.pin,I.hok,I.len⟩
theorem Inv.unwish (I:Inv (X.wish E) pins σ H s):Inv X pins σ H s:=⟨I.ok.unwish,I.os,I.bare,I.base,I.loc,I.cell,I.free,I.freeC,I.pin,I.hok,I.len⟩
theorem SP.unwish {D:Ends}{f:Flow}{s':Shared}(h:SP (X.wish E) pins D f s'):SP X pins D f s':=by
 cases f with
 |next=>obtain⟨σ',H',I,q⟩:=h;exact⟨σ',H',I.unwish,q⟩
 |brk=>obtain⟨σ',H',I,q⟩:=h;exact⟨σ',H',I.unwish,q⟩
 |cont=>obtain⟨σ',H',I,q⟩:=h;exact⟨σ',H',I.unwish,q⟩
 |ret u=>obtain⟨v,σ',H',I,r,q⟩:=h;exact⟨v,σ',H',I.unwish,r,q⟩
theorem PE.nox {e:Expr}{t:TE}(h:PE X.nox e t):PE X e t:=fun pins s σ H Q I hw=>
 wpAny_mono (h pins s σ H Q (I.wish _) hw) (fun _ _ ⟨v,H',I',r,q⟩=>⟨v,H',I'.unwish,r,q⟩) fun _ _ z=>False.elim z
theorem PSs.nox {st:List Stmt}{t:TS}(h:PSs X.nox st t):PSs X st t:=fun pins s σ H D I hw=>
 wpAny_mono (h pins s σ H D (I.wish _) hw) (fun _ _ q=>q.unwish) fun _ _ z=>False.elim z
end
section
variable {X:Cx} {st:Stmt} {rest:List Stmt} {t u:TS} {e:Expr} {te:TE} {pos:Pos}
noncomputable def zlk:TS:=fun D σ H=>D.nx σ H
noncomputable def tSeq (t u:TS):TS:=fun D σ H=>t {D with nx:=u D} σ H
theorem zhG:PSs X [] zlk:=fun _ _ σ H _ I h=>wpAny_execs_nil ⟨σ,H,I,h⟩
theorem zaM (h1:PS X st t)(h2:PSs X rest u):PSs X (st::rest) (tSeq t u):=by
 intro pins s σ H D I h
 refine wpAny_execs_cons (thn (h1 pins s σ H {D with nx:=u D} I h) fun f s1 q=>?_)
 cases f with
 | next =>
   obtain⟨σ',H',I',q⟩:=q
   exact h2 pins s1 σ' H' D I' q
 |ret v=>exact q
 |brk=>exact q
 |cont=>exact q
theorem zed (h1:PS X st t):PSs X [st] t:=by
 intro pins s σ H D I h
 refine wpAny_execs_cons (thn (h1 pins s σ H D I h) fun f s1 q=>?_)
 cases f with
 |next=>exact wpAny_execs_nil q
 |ret v=>exact q
 |brk=>exact q
 |cont=>exact q
theorem zlZ:PS X (.Pass pos) zlk:=fun _ _ σ H _ I h=>wpAny_Pass ⟨σ,H,I,h⟩
theorem Inv.quiet {pins:List (Addr × Obj)}{σ:St}{H:Hp}{s:Shared}(I:Inv X pins σ H s):interactive X.env=false:=by simp[interactive,I.ok.kind]
noncomputable def zpC (te:TE):TS:=fun D σ H=>te σ H fun _ H1=>D.nx σ H1
theorem zl0 (he:PE X e te)(hs:swapsWith e none pos.line X.env=pure false:=by rfl):PS X (.Expr e pos) (zpC te):=by
 intro pins s σ H D I h
 exact wpAny_Expr_any (thn (he pins s σ H _ I h) fun v s1 ⟨x,H1,I1,r1,q1⟩=>⟨σ,H1,I1,q1⟩) I.quiet hs
noncomputable def tRet (te:TE):TS:=fun D σ H=>te σ H D.rt
theorem zhI (he:PE X e te):PS X (.Return (some e) pos) (tRet te):=by
 intro pins s σ H D I h
 exact wpAny_Return_some (thn (he pins s σ H _ I h) fun v s1 ⟨x,H1,I1,r1,q1⟩=>⟨x,σ,H1,I1,r1,q1⟩)
noncomputable def tIfS (c:TT)(t u:TS):TS:=fun D σ H=>c σ H fun b H1=>if b=true then t D σ H1 else u D σ H1
theorem zoc {c:Expr}{a b:List Stmt}{tc:TT}(hc:PT X c tc)(ha:PSs X a t)(hb:PSs X b u):PS X (.If c a b pos) (tIfS tc t u):=by
 intro pins s σ H D I h
 refine wpAny_If (thn (hc pins s σ H _ I h) fun d s1 ⟨H1,I1,q1⟩=>?_)
 cases d with
 |true=>exact ha pins s1 σ H1 D I1 q1
 |false=>exact hb pins s1 σ H1 D I1 q1
end
noncomputable abbrev TG:=V->St->Hp->(St->Hp->Prop)->Prop
noncomputable abbrev TGs:=List V->St->Hp->(St->Hp->Prop)->Prop
noncomputable def PG (X:Cx)(target:Expr)(t:TG):Prop:=
 ∀(pins:List (Addr × Obj)) (s:Shared) (σ:St) (H:Hp) (v:V) (u:Value) (Q:St->Hp->Prop),Inv X pins σ H s->RelV v u->t v σ H Q->
  wpAny (model X.prog X.w) X.A (assign target X.env u) (fun _ s'=>∃σ' H',Inv X pins σ' H' s'/\Q σ' H') X.xe s
noncomputable def PGs (X:Cx)(ts:List Expr)(t:TGs):Prop:=
 ∀(pins:List (Addr × Obj)) (s:Shared) (σ:St) (H:Hp) (vs:List V) (us:List Value) (Q:St->Hp->Prop),Inv X pins σ H s->Vals vs us->t vs σ H Q->
  wpAny (model X.prog X.w) X.A (assignInOrder ((assignEach ts X.env).map (·.2)) us) (fun _ s'=>∃σ' H',Inv X pins σ' H' s'/\Q σ' H') X.xe s
noncomputable abbrev TSet:=V->V->V->Hp->(Hp->Prop)->Prop
noncomputable def PSet (X:Cx)(t:TSet):Prop:=
 ∀(pins:List (Addr × Obj)) (s:Shared) (σ:St) (H:Hp) (o i v:V) (ov iv u:Value) (Q:Hp->Prop),Inv X pins σ H s->RelV o ov->RelV i iv->RelV v u->t o i v H Q->
  wpAny (model X.prog X.w) X.A (setItem ov iv u) (fun _ s'=>∃H',Inv X pins σ H' s'/\Q H') X.xe s
section
variable {X:Cx} {pos:Pos}
noncomputable def zer (i:Nat):TG:=fun v σ H Q=>Q (σ.set i (some v)) H
theorem zfA {i:Nat}{x:Str}(hN:X.N.Nodup)(hi:X.N[i]?=some x)(hx:Loc X.env.scope x)(hf:X.fn x=true\/X.env.scope.names.lookup x=some .local:=by first|exact .inl rfl|exact .inr rfl|assumption):PG X (.Name x pos) (zer i):=by
 intro pins s σ H v u Q I r h
 exact wpAny_assign_Name (zd5 I hN hi hx r (fun s' I'=>⟨_,H,I',h⟩) hf)
noncomputable def gNil:TGs:=fun vs σ H Q=>vs=[]/\Q σ H
noncomputable def zp6 (t:TG)(u:TGs):TGs:=fun vs σ H Q=>∃v r,vs=v::r/\t v σ H fun σ' H'=>u r σ' H' Q
theorem zl6:PGs X [] gNil:=by
 intro pins s σ H vs us Q I r h
 obtain⟨e,h⟩:=h
 subst e
 cases r
 exact assignInOrder_nil ⟨σ,H,I,h⟩
theorem zjx {e:Expr}{es:List Expr}{t:TG}{u:TGs}(h1:PG X e t)(h2:PGs X es u)
  (hs:(assignEach (e::es) X.env).map (·.2)=assign e X.env::(assignEach es X.env).map (·.2):=by rfl):PGs X (e::es) (zp6 t u):=by
 intro pins s σ H vs us Q I r h
 obtain⟨v,vr,e1,h⟩:=h
 subst e1
 cases r with
 | cons r rr =>
   rw[hs]
   refine assignInOrder_cons (thn (h1 pins s σ H _ _ _ I r h) fun _ s1 ⟨σ1,H1,I1,q1⟩=>?_)
   exact h2 pins s1 σ1 H1 _ _ Q I1 rr q1
noncomputable def gTup (K:W.Frag)(n:Nat)(t:TGs):TG:=fun v σ H Q=>∃a xs,v=.ref a/\SqT K H a xs/\xs.length=n/\t xs σ H Q
theorem zoh {es:List Expr}{k:Nat}{t:TGs}{n:Nat}(hc:X.calm=true)(h:PGs X es t)
  (hn:(assignEach es X.env).length=n:=by rfl) (hst:(assignEach es X.env).findIdx? (·.1)=none:=by rfl):PG X (.Tuple es k pos) (gTup X.K n t):=by
 intro pins s σ H v u Q I r hw
 obtain⟨a,xs,e1,hq,hl,hw⟩:=hw
 subst e1
 cases r
 obtain⟨its,rv,ht,hz⟩:=I.tuple hq
 refine assign_Tuple_tuple (I.ok.hd hc) ht (by simp[hn,<-hl,rv.length]) hst fun h' hx=>?_
 have I1:Inv X pins σ H {s with heap:=h'}:=I.kept (t':=s.toks) fun b o e=>hx b o (Nat.ne_of_lt (Heap.lt_size e)) e
 exact h pins _ σ H xs _ Q I1 (by simpa using rv) hw
noncomputable def tAsg (te:TE)(g:TG):TS:=fun D σ H=>te σ H fun x H1=>g x σ H1 D.nx
theorem zoe {tg e:Expr}{te:TE}{g:TG}(he:PE X e te)(hg:PG X tg g)(hs:swapsWithSole [tg] e pos.line X.env=pure false:=by rfl)(hw:swappedStores [tg] e X.env=pure none:=by rfl)
  (h1:(assignEach [tg] X.env).map (·.2)=[assign tg X.env]:=by rfl):PS X (.Assign [tg] e pos) (tAsg te g):=by
 intro pins s σ H D I h
 refine wpAny_Assign_stores (thn (he pins s σ H _ I h) fun v s1 ⟨x,H1,I1,r1,q1⟩=>?_) hs hw
 rw[h1]
 exact thn (hg pins s1 σ H1 x v _ I1 r1 q1) fun _ s2 q=>q
theorem zhH {i:Nat}{x:Str}{e:Expr}{te:TE}{pos':Pos}(hN:X.N.Nodup)(hi:X.N[i]?=some x)(hx:Loc X.env.scope x)(he:PE X e te)(hs:swapsWith e (some (.Name x pos')) pos.line X.env=pure false:=by rfl)(hf:X.fn x=true\/X.env.scope.names.lookup x=some .local:=by first|exact .inl rfl|exact .inr rfl|assumption) :
  PS X (.Assign [.Name x pos'] e pos) (tAsg te (zer i)):=by
 intro pins s σ H D I h
 refine wpAny_Assign_Name (thn (he pins s σ H _ I h) fun v s1 ⟨y,H1,I1,r1,q1⟩=>?_) hs
 exact zd5 I1 hN hi hx r1 (fun s2 I2=>⟨_,H1,I2,q1⟩) hf
end
section
variable {X:Cx} {pos:Pos}
end
structure It where
 go:Nat->Hp->Prop
 yld:Nat->Hp->V->Hp->Prop
 stop:Nat->Hp->Prop
noncomputable def FpOk (X:Cx)(pins:List (Addr × Obj))(H:Hp)(b:Addr):Prop:=
 H b=none/\b≠X.env.locals/\b∉X.fs/\(b∈X.ex\/X.s₀.heap.objs.size<=b)/\(∀x c,X.env.cells.lookup x=some c->c≠b)/\∀p∈X.pn++pins,p.1≠b
theorem Inv.fpOk {X:Cx}{pins:List (Addr × Obj)}{σ:St}{H H':Hp}{s:Shared}{b:Addr}(I:Inv X pins σ H s)(hb:s.heap.objs.size<=b)(hn:H' b=none):FpOk X pins H' b:=by
 refine⟨hn,Nat.ne_of_gt (Nat.lt_of_lt_of_le I.lt hb),I.nofs hb,.inr (Nat.le_trans I.sz hb),fun x c e z=>?_,fun p hp z=>?_⟩
 · obtain⟨v,q⟩:=I.cell x c e
   exact absurd (Nat.lt_of_lt_of_le q.lt (by rw[z];exact hb)) (Nat.lt_irrefl _)
 · exact absurd (Nat.lt_of_lt_of_le (Heap.lt_size (I.pin p hp).1) (by rw[z];exact hb)) (Nat.lt_irrefl _)
structure Turn (P:Program) (w:World) (K:W.Frag) (tg:Expr) (J:It) (fp:List Addr) (it:Addr) (tn:Nat->Heap->Prop):Prop where
 mem:it∈fp
 obj:∀i h,tn i h->∀b∈fp,∃o,h.get? b=some o/\∀v,o.data≠.cell v
 keep:∀i h h',tn i h->(∀b∈fp,∀o,h.get? b=some o->h'.get? b=some o)->tn i h'
 item:∀(X:Cx),X.prog=P->X.w=w->X.K=K->X.calm=true->∀(i:Nat) (pins:List (Addr × Obj)) (s:Shared) (σ:St) (H:Hp) (E:Value->Shared->Prop),Inv X pins σ H s->(∀b∈fp,FpOk X pins H b)->tn i s.heap->J.go i H->
  wpAny (model P w) X.A (pyNext (.ref it)) (fun r s1=>∃u,r=some u/\
   wpAny (model P w) X.A (letOwnedTupleGo tg (.ref it) u) (fun _ s2=>∃x H',Inv X pins σ H' s2/\RelV x u/\J.yld i H x H'/\tn (i+1) s2.heap/\∀b∈fp,H' b=none) E s1) E s
 done:∀(X:Cx),X.prog=P->X.w=w->X.K=K->X.calm=true->∀(i:Nat) (pins:List (Addr × Obj)) (s:Shared) (σ:St) (H:Hp) (E:Value->Shared->Prop),Inv X pins σ H s->(∀b∈fp,FpOk X pins H b)->tn i s.heap->J.stop i H->
  wpAny (model P w) X.A (pyNext (.ref it)) (fun r s1=>r=none/\Inv X pins σ H s1) E s
 self:∀(A:Around) (i:Nat) (s:Shared) (Q:Value->Shared->Prop) (E:Value->Shared->Prop),tn i s.heap->Q (.ref it) s->wpAny (model P w) A (pyIter (.ref it)) Q E s
noncomputable abbrev TI:=St->Hp->(It->Hp->Prop)->Prop
noncomputable def PIE (X:Cx)(pins:List (Addr × Obj))(σ:St)(tg:Expr)(R:It->Hp->Prop)(itv:Value)(s2:Shared):Prop:=
 ∃(it:Addr) (fp:List Addr) (tn:Nat->Heap->Prop) (J:It) (H':Hp),itv=.ref it/\Inv X pins σ H' s2/\Turn X.prog X.w X.K tg J fp it tn/\tn 0 s2.heap/\(∀b∈fp,FpOk X pins H' b)/\R J H'
noncomputable def PI (X:Cx)(tg iter:Expr)(wi:TI):Prop:=
 ∀(pins:List (Addr × Obj)) (s:Shared) (σ:St) (H:Hp) (R:It->Hp->Prop),Inv X pins σ H s->wi σ H R->
  wpAny (model X.prog X.w) X.A (eval iter X.env) (fun v s1=>wpAny (model X.prog X.w) X.A (pyIter v) (PIE X pins σ tg R) X.xe s1) X.xe s
theorem zmz {M:Model}{A:Around}{E:Value->Shared->Prop}{s:Shared}{tg:Expr}{it:Addr}{u:Value}{o:Obj}{n:String}{vs:Array Value}{Q:Unit->Shared->Prop}(ho:s.heap.get? it=some o)(hc:o.cls=.type n)(hd:o.data=.fields vs)
  (hn:["enumerate","zip","dict_itemiterator","dict_reverseitemiterator","odict_iterator","itertools.zip_longest","itertools.pairwise"].contains n=false) (hQ:Q () s):wpAny M A (letOwnedTupleGo tg (.ref it) u) Q E s:=by
 unfold letOwnedTupleGo
 cases tg<;>first
  |exact wpAny_pure hQ
  |(cases u<;>first
   |exact wpAny_pure hQ
   | (refine wpAny_bind (wpAny_load ho ?_)
      rw[hc,hd]
      show wpAny M A (if (["enumerate","zip","dict_itemiterator","dict_reverseitemiterator","odict_iterator","itertools.zip_longest","itertools.pairwise"].contains n&&vs[0]? == some (rawInt _))=true then _ else _) Q E s
      rw[if_neg (by intro h;rw[hn,Bool.false_and] at h;cases h)]
      exact wpAny_pure hQ))
noncomputable def Itl (K:W.Frag)(a:Addr):It:=
 ⟨fun i H=>∃xs x,SqL K H a xs/\xs[i]?=some x,fun i H x H'=>H'=H/\∀xs,SqL K H a xs->xs[i]?=some x,fun i H=>∃xs,SqL K H a xs/\xs.length<=i⟩
noncomputable def Itt (K:W.Frag)(a:Addr):It:=
 ⟨fun i H=>∃xs x,SqT K H a xs/\xs[i]?=some x,fun i H x H'=>H'=H/\∀xs,SqT K H a xs->xs[i]?=some x,fun i H=>∃xs,SqT K H a xs/\xs.length<=i⟩
noncomputable def Itr (lo:Int)(n:Nat):It:=⟨fun i _=>i<n,fun i H x H'=>H'=H/\x=.int (lo+i),fun i _=>n<=i⟩
theorem zex {P:Program}{w:World}{K:W.Frag}{tg:Expr}(a it:Addr):Turn P w K tg (Itl K a) [it] it (fun i h=>h.IsListIter it a i) where
 mem:=by simp
 obj:=fun i h st b hb=>by
  have e:b=it:=by simpa using hb
  subst e
  obtain⟨o,e,c,d⟩:=st
  exact⟨o,e,fun v z=>by rw[d] at z;cases z⟩
 keep:=fun i h h' st k=>st.at fun o e=>k it (by simp) o e
 item:=by
  intro X hP hw hK hc i pins s σ H E I hf st hg
  subst hP hw hK
  obtain⟨xs,x,hq,hx⟩:=hg
  obtain⟨its,rv,p,hz⟩:=I.list hq
  obtain⟨u,hu,ru⟩:=rv.get hx
  obtain⟨f0,f1,f2,f3,f4,f5⟩:=hf it (by simp)
  refine wpAny_pyNext_list_item st p.isList (x:=u) (by simpa using hu) fun h' st' sb=>?_
  have I1:Inv X pins σ H {s with heap:=h'}:=I.turned (t':=s.toks) (fun b o hb e=>(sb.2 b hb).trans e) f0 f1 f3 f4 f5
  obtain⟨o,e,c,d⟩:=id st'
  exact⟨u,rfl,zmz (s:={s with heap:=h'}) e c d (by decide) ⟨x,H,I1,ru,⟨rfl,fun ys hy=>by rw[I.list_inj hy hq];exact hx⟩,st',fun b hb=>(hf b hb).1⟩⟩
 done:=by
  intro X hP hw hK hc i pins s σ H E I hf st hg
  subst hP hw hK
  obtain⟨xs,hq,hx⟩:=hg
  obtain⟨its,rv,p,hz⟩:=I.list hq
  obtain⟨f0,f1,f2,f3,f4,f5⟩:=hf it (by simp)
  have hl:=rv.length
  exact wpAny_pyNext_list_end (I.ok.hd hc) st p.isList (by simp;omega) fun h' eb=>⟨rfl,I.turned (t':=s.toks) (fun b o hb e=>eb b o hb e) f0 f1 f3 f4 f5⟩
 self:=fun _ _ _ _ _ st h=>wpAny_pyIter_listiter st h
theorem zgJ {P:Program}{w:World}{K:W.Frag}{tg:Expr}(a it:Addr):Turn P w K tg (Itt K a) [it] it (fun i h=>h.IsTupleIter it a i) where
 mem:=by simp
 obj:=fun i h st b hb=>by
  have e:b=it:=by simpa using hb
  subst e
  obtain⟨o,e,c,d⟩:=st
  exact⟨o,e,fun v z=>by rw[d] at z;cases z⟩
 keep:=fun i h h' st k=>st.at fun o e=>k it (by simp) o e
 item:=by
  intro X hP hw hK hc i pins s σ H E I hf st hg
  subst hP hw hK
  obtain⟨xs,x,hq,hx⟩:=hg
  obtain⟨its,rv,p,hz⟩:=I.tuple hq
  obtain⟨u,hu,ru⟩:=rv.get hx
  obtain⟨f0,f1,f2,f3,f4,f5⟩:=hf it (by simp)
  refine wpAny_pyNext_tuple_item st (show s.heap.IsTuple a its.toArray from p) (x:=u) (by simpa using hu) fun h' st' sb=>?_
  have I1:Inv X pins σ H {s with heap:=h'}:=I.turned (t':=s.toks) (fun b o hb e=>(sb.2 b hb).trans e) f0 f1 f3 f4 f5
  obtain⟨o,e,c,d⟩:=id st'
  exact⟨u,rfl,zmz (s:={s with heap:=h'}) e c d (by decide) ⟨x,H,I1,ru,⟨rfl,fun ys hy=>by rw[I.tuple_inj hy hq];exact hx⟩,st',fun b hb=>(hf b hb).1⟩⟩
 done:=by
  intro X hP hw hK hc i pins s σ H E I hf st hg
  subst hP hw hK
  obtain⟨xs,hq,hx⟩:=hg
  obtain⟨its,rv,p,hz⟩:=I.tuple hq
  obtain⟨f0,f1,f2,f3,f4,f5⟩:=hf it (by simp)
  have hl:=rv.length
  exact wpAny_pyNext_tuple_end (I.ok.hd hc) st (show s.heap.IsTuple a its.toArray from p) (by simp;omega) fun h' eb=>⟨rfl,I.turned (t':=s.toks) (fun b o hb e=>eb b o hb e) f0 f1 f3 f4 f5⟩
 self:=fun _ _ _ _ _ st h=>wpAny_pyIter_tupleiter st h
theorem zgK {P:Program}{w:World}{K:W.Frag}{tg:Expr}(it:Addr)(lo:Int)(n:Nat):Turn P w K tg (Itr lo n) [it] it (fun i h=>IsRangeIter h it (lo+(i:Nat) * 1) ((n:Int) - (i:Nat)) 1) where
 mem:=by simp
 obj:=fun i h st b hb=>by
  have e:b=it:=by simpa using hb
  subst e
  exact⟨_,st,fun v z=>by
   have z':Data.fields _=Data.cell v:=z
   cases z'⟩
 keep:=fun i h h' st k=>k it (by simp) _ st
 item:=by
  intro X hP hw hK hc i pins s σ H E I hf st hg
  subst hP hw hK
  obtain⟨f0,f1,f2,f3,f4,f5⟩:=hf it (by simp)
  have W:=Walks.range (prog:=X.prog) (w:=X.w) (I.ok.hd hc) it lo 1 n
  refine W.item i s _ _ hg st fun v h' tk hv st' kk=>?_
  obtain⟨t,rfl⟩:=hv
  have I1:Inv X pins σ H {s with heap:=h',toks:=tk}:=I.turned (fun b o hb e=>kk b o (by simpa using hb) e) f0 f1 f3 f4 f5
  refine⟨_,rfl,zmz (s:={s with heap:=h',toks:=tk}) (n:="range_iterator") st' rfl rfl (by decide) ⟨.int (lo+i),H,I1,⟨t,?_⟩,⟨rfl,rfl⟩,st',fun b hb=>(hf b hb).1⟩⟩
  rw[Int.mul_one]
 done:=by
  intro X hP hw hK hc i pins s σ H E I hf st hg
  subst hP hw hK
  obtain⟨f0,f1,f2,f3,f4,f5⟩:=hf it (by simp)
  exact wpAny_pyNext_range_end (I.ok.hd hc) st (by have:n<=i:=hg;omega) fun h' eb=>⟨rfl,I.turned (t':=s.toks) (fun b o hb e=>eb b o hb e) f0 f1 f3 f4 f5⟩
 self:=fun _ _ _ _ _ st h=>wpAny_pyIter_rangeiter st h
end L2
namespace L2
open PySem PySem.Spec PyProof.Rows
section
variable {X:Cx} {tg:Expr}
noncomputable def zmy (K:W.Frag)(tl:TE):TI:=fun σ H R=>tl σ H fun x H1=>∃a,x=.ref a/\(∃xs,SqL K H1 a xs)/\R (Itl K a) H1
theorem zl5 {l:Expr}{tl:TE}(hl:PE X l tl):PI X tg l (zmy X.K tl):=by
 intro pins s σ H R I h
 refine thn (hl pins s σ H _ I h) fun v s1 ⟨x,H1,I1,r1,q1⟩=>?_
 obtain⟨a,e,⟨xs,hq⟩,q⟩:=q1
 subst e
 cases r1
 obtain⟨its,rv,p,hz⟩:=I1.list hq
 refine wpAny_pyIter_list p.isList ?_
 refine⟨s1.heap.objs.size,[s1.heap.objs.size],_,_,H1,rfl,I1.kept (t':=s1.toks) fun b o e=>Heap.get?_push_of_some _ e,zex a _,⟨_,Heap.get?_push_size _ rfl,rfl,rfl⟩,fun b hb=>?_,q⟩
 have e:b=s1.heap.objs.size:=by simpa using hb
 subst e
 exact I1.fpOk (Nat.le_refl _) (I1.hok.fresh (Nat.le_refl _))
theorem zgc {pins:List (Addr × Obj)}{σ:St}{H:Hp}{s:Shared}{R:It->Hp->Prop}{E:Value->Shared->Prop}{lo hi:Int}{t u v:Tok}{tk:Nat}(I:Inv X pins σ H s)(h1:-(2 ^ 62)<=lo)(h2:lo<2 ^ 62)(h3:-(2 ^ 62)<=hi)(h4:hi<2 ^ 62)
  (q:R (Itr lo (hi - lo).toNat) H):wpAny (model X.prog X.w) X.A (pyIter (.ref s.heap.objs.size)) (PIE X pins σ tg R) E {s with heap:=s.heap.push {cls:=.type "range",data:=.fields #[.int lo t,.int hi u,.int 1 v]},toks:=tk}:=by
 refine wpAny_pyIter_range (IsRange.new ..) (small_one h1 h2 h3 h4) ?_
 have I1:Inv X pins σ H {s with heap:=s.heap.push {cls:=.type "range",data:=.fields #[.int lo t,.int hi u,.int 1 v]},toks:=tk}:=I.kept fun b o e=>Heap.get?_push_of_some _ e
 refine⟨(s.heap.push {cls:=.type "range",data:=.fields #[.int lo t,.int hi u,.int 1 v]}).objs.size,[(s.heap.push {cls:=.type "range",data:=.fields #[.int lo t,.int hi u,.int 1 v]}).objs.size],_,_,H,rfl,
  I1.kept (t':=tk) fun b o e=>Heap.get?_push_of_some _ e,zgK _ lo (hi - lo).toNat,?_,fun b hb=>?_,q⟩
 · have e1:lo+((0:Nat):Int) * 1=lo:=by simp
   have e2:(((hi - lo).toNat:Nat):Int) - ((0:Nat):Int)=Builtin.Range.rangeSize lo hi 1:=by rw[rangeSize_one];split<;>omega
   show IsRangeIter _ _ (lo+((0:Nat):Int) * 1) ((((hi - lo).toNat:Nat):Int) - ((0:Nat):Int)) 1
   rw[e1,e2]
   exact Heap.get?_push_size _ rfl
 · have e:b=(s.heap.push {cls:=.type "range",data:=.fields #[.int lo t,.int hi u,.int 1 v]}).objs.size:=by simpa using hb
   subst e
   exact I1.fpOk (Nat.le_refl _) (I1.hok.fresh (Nat.le_refl _))
noncomputable def zp5 (ta:TA):TI:=fun σ H R=>ta σ H fun vs H1=>∃j:Int,vs=[.int j]/\-(2 ^ 62)<=j/\j<2 ^ 62/\R (Itr 0 j.toNat) H1
noncomputable def zp4 (ta:TA):TI:=fun σ H R=>ta σ H fun vs H1=>∃i j:Int,vs=[.int i,.int j]/\(-(2 ^ 62)<=i/\i<2 ^ 62/\-(2 ^ 62)<=j/\j<2 ^ 62)/\R (Itr i (j - i).toNat) H1
theorem zhM {a:Expr}{ta:TA}{p pos:Pos}(hg:Gl X "range")(hm:X.mg "range"=none)(ha:PA X [a] ta)(hs:starEach [a] X.env=[(false,eval a X.env)]:=by rfl):PI X tg (.Call (.Name "range" p) [a] [] pos) (zp5 ta):=by
 intro pins s σ H R I h
 refine Call_ (zdJ I hg hm boot_range (PyProof.Rows.callWith_type1 (thn (ha pos pins s σ H _ I h) fun us s1 ⟨vs,H1,I1,r1,q1⟩=>?_) hs rfl))
 obtain⟨j,e,q1,q2,q⟩:=q1
 subst e
 cases r1 with
 | cons r rr =>
   cases rr
   obtain⟨t,rfl⟩:=r
   exact call_range_1 (zgc I1 (by omega) (by omega) q1 q2 (by simpa using q))
theorem zhL {a b:Expr}{ta:TA}{p pos:Pos}(hg:Gl X "range")(hm:X.mg "range"=none)(ha:PA X [a,b] ta)(hs:starEach [a,b] X.env=[(false,eval a X.env),(false,eval b X.env)]:=by rfl)(hs2:starEach [b] X.env=[(false,eval b X.env)]:=by rfl) :
  PI X tg (.Call (.Name "range" p) [a,b] [] pos) (zp4 ta):=by
 intro pins s σ H R I h
 refine Call_ (zdJ I hg hm boot_range (PyProof.Rows.callWith_type1 (thn (ha pos pins s σ H _ I h) fun us s1 ⟨vs,H1,I1,r1,q1⟩=>?_) (by rw[hs,hs2]) (by rw[hs2];rfl)))
 obtain⟨i,j,e,⟨q1,q2,q3,q4⟩,q⟩:=q1
 subst e
 cases r1 with
 | cons r rr =>
   cases rr with
   | cons r' rr =>
     cases rr
     obtain⟨t,rfl⟩:=r
     obtain⟨t',rfl⟩:=r'
     exact call_range_2 (zgc I1 q1 q2 q3 q4 q)
noncomputable def tFor (wi:TI)(g:TG)(tb:TS):TS:=fun D σ H=>wi σ H fun J H1=>∃W:Nat->Nat->St->Hp->Prop,(∃m,W 0 m σ H1)/\∀i m σ H,W i m σ H->
 (J.stop i H/\D.nx σ H)\/(J.go i H/\∃N:St->Hp->Prop,(∀σ' H',N σ' H'->∃m',m'<m/\W (i+1) m' σ' H')/\∀x H',J.yld i H x H'->g x σ H' fun σ2 H2=>tb {D with nx:=N,ct:=N,bk:=D.nx} σ2 H2)
noncomputable def zeS (fp:List Addr)(h:Heap):List (Addr × Obj):=fp.filterMap fun b=>(h.get? b).map fun o=>(b,o)
theorem zbP {fp:List Addr}{h:Heap}{b:Addr}{o:Obj}(hb:b∈fp)(e:h.get? b=some o):(b,o)∈zeS fp h:=List.mem_filterMap.mpr ⟨b,hb,by rw[e];rfl⟩
theorem zhS {fp:List Addr}{h:Heap}{p:Addr × Obj}(hp:p∈zeS fp h):p.1∈fp/\h.get? p.1=some p.2:=by
 obtain⟨b,hb,e⟩:=List.mem_filterMap.mp hp
 cases q:h.get? b with
 |none=>rw[q] at e;cases e
 | some o =>
   rw[q] at e
   have e':(b,o)=p:=Option.some.inj e
   subst e'
   exact⟨hb,q⟩
theorem Inv.pinned {pins:List (Addr × Obj)}{σ:St}{H:Hp}{s:Shared}{fp:List Addr}(I:Inv X pins σ H s)(hf:∀b∈fp,FpOk X pins H b)(ho:∀b∈fp,∃o,s.heap.get? b=some o/\∀v,o.data≠.cell v):Inv X (pins++zeS fp s.heap) σ H s:=
 I.pins_of fun p hp=>(List.mem_append.mp hp).elim (fun z=>I.pin p (List.mem_append_right _ z)) fun z=>by
  obtain⟨hb,e⟩:=zhS z
  obtain⟨f0,f1,f2,_⟩:=hf p.1 hb
  obtain⟨o,e',d⟩:=ho p.1 hb
  rw[e] at e';cases e'
  exact⟨e,f0,f1,f2,d⟩
theorem Inv.unpinned {pins pl:List (Addr × Obj)}{σ:St}{H:Hp}{s:Shared}(I:Inv X (pins++pl) σ H s):Inv X pins σ H s:=I.pins_of fun p hp=>I.pin p (List.mem_append_right _ (List.mem_append_left _ hp))
theorem zkJ {iter:Expr}{body:List Stmt}{wi:TI}{g:TG}{tb:TS}{pos:Pos}(hp:PassesOwn (model X.prog X.w) X.A X.env X.xe)(hc:X.calm=true)(hi:PI X tg iter wi)(hg:PG X tg g)(hb:PSs X body tb)
  (hs:∀x,foldedSetIterable iter X.env x=pure x:=by intro _;rfl):PS X (.For tg iter body [] pos) (tFor wi g tb):=by
 intro pins s σ H D I h
 refine wpAny_For (thn (hi pins s σ H _ I h) fun v s1 h1=>thn h1 fun itv s2 h2=>?_) hs
 obtain⟨it,fp,tn,J,H2,e,I2,T,st2,f2,W,⟨m0,w0⟩,turn⟩:=h2
 subst e
 -- what stays true of the iterator's objects through the loop
 have stat:∀{H':Hp},(∀b∈fp,H' b=none)->∀b∈fp,FpOk X pins H' b:=fun hn b hb=>⟨hn b hb,(f2 b hb).2⟩
 refine codeAny_forLoop_any (fun n s'=>∃i σ' H',Inv X pins σ' H' s'/\tn i s'.heap/\(∀b∈fp,H' b=none)/\W i n σ' H') ?_ m0 ⟨0,σ,H2,I2,st2,fun b hb=>(f2 b hb).1,w0⟩
 rintro n s3 ⟨i,σ3,H3,I3,st3,fr3,w3⟩
 rcases turn i n σ3 H3 w3 with ⟨stop,qn⟩|⟨go,N,hN,step⟩
 · refine wpAny_passesOwn hp (thn (T.done X rfl rfl rfl hc i pins s3 σ3 H3 X.xe I3 (stat fr3) st3 stop) fun r s4 ⟨hr,I4⟩=>?_)
   subst hr
   exact wpAny_execs_nil ⟨σ3,H3,I4,qn⟩
 · refine wpAny_passesOwn hp (thn (T.item X rfl rfl rfl hc i pins s3 σ3 H3 X.xe I3 (stat fr3) st3 go) fun r s4 ⟨u,hr,h4⟩=>?_)
   subst hr
   refine wpAny_passesOwn hp (thn h4 fun _ s5 ⟨x,H5,I5,r5,y5,st5,fr5⟩=>?_)
   have I5':=I5.pinned (stat fr5) (T.obj _ _ st5)
   refine wpAny_passesOwn hp (thn (hg _ s5 σ3 H5 x u _ I5' r5 (step x H5 y5)) fun _ s6 ⟨σ6,H6,I6,q6⟩=>?_)
   refine wpAny_passesOwn hp (thn (hb _ s6 σ6 H6 _ I6 q6) fun f s7 q7=>?_)
   have again:∀{σ7:St} {H7:Hp},Inv X (pins++zeS fp s5.heap) σ7 H7 s7->N σ7 H7->∃m,m<n/\∃i σ' H',Inv X pins σ' H' s7/\tn i s7.heap/\(∀b∈fp,H' b=none)/\W i m σ' H':=fun {σ7 H7} I7 n7=>by
    obtain⟨m',hm,w7⟩:=hN σ7 H7 n7
    refine⟨m',hm,i+1,σ7,H7,I7.unpinned,T.keep _ _ _ st5 fun b hb o e=>(I7.pin (b,o) (List.mem_append_right _ (List.mem_append_right _ (zbP hb e)))).1,fun b hb=>?_,w7⟩
    obtain⟨o,e,d⟩:=T.obj _ _ st5 b hb
    exact (I7.pin (b,o) (List.mem_append_right _ (List.mem_append_right _ (zbP hb e)))).2.1
   cases f with
   |next=>obtain⟨σ7,H7,I7,n7⟩:=q7;exact again I7 n7
   |cont=>obtain⟨σ7,H7,I7,n7⟩:=q7;exact again I7 n7
   |brk=>obtain⟨σ7,H7,I7,q7⟩:=q7;exact⟨σ7,H7,I7.unpinned,q7⟩
   |ret v=>obtain⟨x7,σ7,H7,I7,r7,q7⟩:=q7;exact⟨x7,σ7,H7,I7.unpinned,r7,q7⟩
end
theorem zkd {K:W.Frag}{a:Addr}{xs:List V}{g:TG}{tb:TS}{D:Ends}{σ:St}{H:Hp}(Pv:Nat->St->Hp->Prop)(h0:Pv 0 σ H)(hl:∀i σ H,i<=xs.length->Pv i σ H->SqL K H a xs)
  (hs:∀i x σ H,xs[i]?=some x->Pv i σ H->g x σ H fun σ2 H2=>tb {D with nx:=Pv (i+1),ct:=Pv (i+1),bk:=D.nx} σ2 H2) (hd:∀σ H,Pv xs.length σ H->D.nx σ H) :
  ∃W:Nat->Nat->St->Hp->Prop,(∃m,W 0 m σ H)/\∀i m σ H,W i m σ H->
   ((Itl K a).stop i H/\D.nx σ H)\/((Itl K a).go i H/\∃N:St->Hp->Prop,(∀σ' H',N σ' H'->∃m',m'<m/\W (i+1) m' σ' H')/\∀x H',(Itl K a).yld i H x H'->g x σ H' fun σ2 H2=>tb {D with nx:=N,ct:=N,bk:=D.nx} σ2 H2):=by
 refine⟨fun i m σ H=>m=xs.length - i/\i<=xs.length/\Pv i σ H,⟨xs.length,by simp,Nat.zero_le _,h0⟩,?_⟩
 rintro i m σ H ⟨rfl,hi,p⟩
 have q:=hl i σ H hi p
 by_cases hlt:i<xs.length
 · refine .inr ⟨⟨xs,xs[i],q,by simp[hlt]⟩,Pv (i+1),fun σ' H' p'=>⟨xs.length - (i+1),by omega,rfl,hlt,p'⟩,fun x H' y=>?_⟩
   obtain⟨e,y⟩:=y
   subst e
   exact hs i x σ _ (y xs q) p
 · have e:i=xs.length:=by omega
   subst e
   exact .inl ⟨⟨xs,q,Nat.le_refl _⟩,hd σ H p⟩
end L2
namespace L2
open PySem PySem.Spec PyProof.Rows
noncomputable abbrev R2:=V->V->Hp->VK->Prop
noncomputable def OpR (X:Cx)(f:Value->Value->Sem Value)(r:R2):Prop:=
 ∀(pins:List (Addr × Obj)) (s:Shared) (σ:St) (H:Hp) (x y:V) (v u:Value) (Q:VK),Inv X pins σ H s->RelV x v->RelV y u->r x y H Q->
  wpAny (model X.prog X.w) X.A (f v u) (EP X pins σ Q) X.xe s
noncomputable def UnR (X:Cx)(f:Value->Sem Value)(r:V->Hp->VK->Prop):Prop:=
 ∀(pins:List (Addr × Obj)) (s:Shared) (σ:St) (H:Hp) (x:V) (v:Value) (Q:VK),Inv X pins σ H s->RelV x v->r x H Q->
  wpAny (model X.prog X.w) X.A (f v) (EP X pins σ Q) X.xe s
noncomputable def zcc (X:Cx)(f:Value)(r:List V->Hp->VK->Prop):Prop:=
 ∀(pins:List (Addr × Obj)) (s:Shared) (σ:St) (H:Hp) (xs:List V) (us:List Value) (Q:VK),Inv X pins σ H s->Vals xs us->r xs H Q->
  wpAny (model X.prog X.w) X.A (call f us) (EP X pins σ Q) X.xe s
noncomputable def TruR (X:Cx)(r:V->Hp->(Bool->Hp->Prop)->Prop):Prop:=
 ∀(pins:List (Addr × Obj)) (s:Shared) (σ:St) (H:Hp) (x:V) (v:Value) (Q:Bool->Hp->Prop),Inv X pins σ H s->RelV x v->r x H Q->
  wpAny (model X.prog X.w) X.A (truthy v) (TP X pins σ Q) X.xe s
noncomputable def tOp (r:R2)(ta tb:TE):TE:=fun σ H Q=>ta σ H fun x H1=>tb σ H1 fun y H2=>r x y H2 Q
noncomputable def tUn (r:V->Hp->VK->Prop)(ta:TE):TE:=fun σ H Q=>ta σ H fun x H1=>r x H1 Q
noncomputable def rI (C:Int->Int->Prop)(g:Int->Int->V):R2:=fun x y H Q=>∃i j,x=.int i/\y=.int j/\C i j/\Q (g i j) H
noncomputable def rI0 (g:Int->Int->V):R2:=fun x y H Q=>∃i j,x=.int i/\y=.int j/\Q (g i j) H
noncomputable def rU (g:Int->V):V->Hp->VK->Prop:=fun x H Q=>∃i,x=.int i/\Q (g i) H
section
variable {X:Cx} {a b c:Expr} {ta tb tc:TE} {pos:Pos}
theorem binT (ha:PE X a ta)(hb:PE X b tb){pins:List (Addr × Obj)}{s:Shared}{σ:St}{H:Hp}{R:V->V->Hp->Prop}(I:Inv X pins σ H s)
  (h:ta σ H fun x H1=>tb σ H1 fun y H2=>R x y H2) {Q:Value->Shared->Prop} {f:Value->Value->Sem Value}
  (hf:∀v u s2 x y H2,Inv X pins σ H2 s2->RelV x v->RelV y u->R x y H2->wpAny (model X.prog X.w) X.A (f v u) Q X.xe s2) :
  wpAny (model X.prog X.w) X.A (eval a X.env) (fun v s₁=>wpAny (model X.prog X.w) X.A (eval b X.env) (fun u s₂=>wpAny (model X.prog X.w) X.A (f v u) Q X.xe s₂) X.xe s₁) X.xe s:=by
 refine thn (ha pins s σ H _ I h) fun v s1 ⟨x,H1,I1,r1,q1⟩=>?_
 refine thn (hb pins s1 σ H1 _ I1 q1) fun u s2 ⟨y,H2,I2,r2,q2⟩=>?_
 exact hf v u s2 x y H2 I2 r1 r2 q2
theorem zok {op:Operator}{r:R2}(ho:OpR X (binaryOp op) r)(ha:PE X a ta)(hb:PE X b tb):PE X (.BinOp a op b pos) (tOp r ta tb):=by
 intro pins s σ H Q I h
 exact wpAny_BinOp (binT ha hb I h fun v u s2 x y H2 I2 rx ry q=>ho pins s2 σ H2 x y v u Q I2 rx ry q)
theorem zpQ {op:UnaryOp}{r:V->Hp->VK->Prop}(ho:UnR X (unaryOp op) r)(ha:PE X a ta):PE X (.UnaryOp op a pos) (tUn r ta):=by
 intro pins s σ H Q I h
 exact UnaryOp_ (thn (ha pins s σ H _ I h) fun v s1 ⟨x,H1,I1,r1,q1⟩=>ho pins s1 σ H1 x v Q I1 r1 q1)
theorem opI {f:Value->Value->Sem Value}{C:Int->Int->Prop}{g:Int->Int->Int}
  (rule:∀(i j:Int) (t u:Tok) (s:Shared) (Q:Value->Shared->Prop) (E:Value->Shared->Prop),C i j->Q (.int (g i j) s.toks) {s with toks:=s.toks+1}->wpAny (model X.prog X.w) X.A (f (.int i t) (.int j u)) Q E s) :
  OpR X f (rI C fun i j=>.int (g i j)):=by
 intro pins s σ H x y v u Q I rx ry h
 obtain⟨i,j,rfl,rfl,hc,q⟩:=h
 obtain⟨t,rfl⟩:=rx
 obtain⟨t',rfl⟩:=ry
 exact rule i j t t' s _ _ hc ⟨.int (g i j),H,I.tok _,⟨_,rfl⟩,q⟩
theorem opI0 {f:Value->Value->Sem Value}{g:Int->Int->Int}
  (rule:∀(i j:Int) (t u:Tok) (s:Shared) (Q:Value->Shared->Prop) (E:Value->Shared->Prop),Q (.int (g i j) s.toks) {s with toks:=s.toks+1}->wpAny (model X.prog X.w) X.A (f (.int i t) (.int j u)) Q E s) :
  OpR X f (rI0 fun i j=>.int (g i j)):=by
 intro pins s σ H x y v u Q I rx ry h
 obtain⟨i,j,rfl,rfl,q⟩:=h
 obtain⟨t,rfl⟩:=rx
 obtain⟨t',rfl⟩:=ry
 exact rule i j t t' s _ _ ⟨.int (g i j),H,I.tok _,⟨_,rfl⟩,q⟩
theorem opB0 {f:Value->Value->Sem Value}{g:Int->Int->Bool}
  (rule:∀(i j:Int) (t u:Tok) (s:Shared) (Q:Value->Shared->Prop) (E:Value->Shared->Prop),Q (.bool (g i j)) s->wpAny (model X.prog X.w) X.A (f (.int i t) (.int j u)) Q E s) :
  OpR X f (rI0 fun i j=>.bl (g i j)):=by
 intro pins s σ H x y v u Q I rx ry h
 obtain⟨i,j,rfl,rfl,q⟩:=h
 obtain⟨t,rfl⟩:=rx
 obtain⟨t',rfl⟩:=ry
 exact rule i j t t' s _ _ ⟨.bl (g i j),H,I,rfl,q⟩
noncomputable def CDiv (i j:Int):Prop:=0<j/\j<1073741824
noncomputable def CPow (i j:Int):Prop:=0<=j/\j<=1000000/\i.natAbs<2 ^ 64
noncomputable def CMul (i j:Int):Prop:=(-(2 ^ 64)<i/\i<2 ^ 64)\/(-(2 ^ 64)<j/\j<2 ^ 64)
theorem CMul.ok {i j:Int}(h:CMul i j):IntMulOk i j:=by
 rcases h with ⟨h1,h2⟩|⟨h1,h2⟩
 · exact .of_left (intBits_le_64 h1 h2)
 · exact .of_right (intBits_le_64 h1 h2)
theorem zkO:OpR X (binaryOp .Add) (rI0 fun i j=>.int (i+j)):=opI0 fun _ _ _ _ _ _ _ q=>add_int q
theorem zox:OpR X (binaryOp .Sub) (rI0 fun i j=>.int (i - j)):=opI0 fun _ _ _ _ _ _ _ q=>sub_int q
theorem zoA:OpR X (binaryOp .Mult) (rI CMul fun i j=>.int (i * j)):=opI fun _ _ _ _ _ _ _ hc q=>mul_int q hc.ok
theorem zme:OpR X (binaryOp .FloorDiv) (rI CDiv fun i j=>.int (i / j)):=opI fun i j _ _ _ _ _ hc q=>by
 have h1:(0:Int)<j:=hc.1
 have h2:j<1073741824:=hc.2
 exact floordiv_int (by omega) (by rw[Int.fdiv_eq_ediv_of_nonneg i (by omega)];exact q) (.inl (PyProof.noPylong_small (by omega)))
theorem zoB:OpR X (binaryOp .Mod) (rI (fun _ j=>0<j) fun i j=>.int (i % j)):=opI fun i j _ _ _ _ _ hc q=>by
 have h1:(0:Int)<j:=hc
 exact mod_int' (by omega) (by rw[Int.fmod_eq_emod_of_nonneg i (by omega)];exact q)
theorem zoy:OpR X (binaryOp .Pow) (rI CPow fun i j=>.int (i ^ j.toNat)):=opI fun _ _ _ _ _ _ _ hc q=>pow_int_small hc.1 hc.2.1 hc.2.2 q
theorem unI {f:Value->Sem Value}{g:Int->Int}
  (rule:∀(i:Int) (t:Tok) (s:Shared) (Q:Value->Shared->Prop) (E:Value->Shared->Prop),Q (.int (g i) s.toks) {s with toks:=s.toks+1}->wpAny (model X.prog X.w) X.A (f (.int i t)) Q E s) :
  UnR X f (rU fun i=>.int (g i)):=by
 intro pins s σ H x v Q I rx h
 obtain⟨i,rfl,q⟩:=h
 obtain⟨t,rfl⟩:=rx
 exact rule i t s _ _ ⟨.int (g i),H,I.tok _,⟨_,rfl⟩,q⟩
theorem zng:UnR X (unaryOp .USub) (rU fun i=>.int (-i)):=unI fun _ _ _ _ _ q=>neg_int q
end
noncomputable def scal:V->V->Bool
 |.non,.non=>true|.non,.int _=>true|.int _,.non=>true|.non,.bl _=>true|.bl _,.non=>true|.non,.str _=>true|.str _,.non=>true
 |.int _,.int _=>true|.bl _,.bl _=>true|.str _,.str _=>true|.byt _,.byt _=>true
 |.int _,.str _=>true|.str _,.int _=>true|.bl _,.str _=>true|.str _,.bl _=>true
 |_,_=>false
noncomputable def rEq:R2:=fun x y H Q=>scal x y=true/\Q (.bl (decide (x=y))) H
noncomputable def rNe:R2:=fun x y H Q=>scal x y=true/\Q (.bl (!decide (x=y))) H
theorem ziK {i j:Int}:decide (V.int i=V.int j)=(i == j):=by
 rw[Bool.eq_iff_iff]
 simp
theorem zkV {i j:Bool}:decide (V.bl i=V.bl j)=(i == j):=by
 rw[Bool.eq_iff_iff]
 simp
theorem ziJ {i j:Str}:decide (V.str i=V.str j)=(i == j):=by
 rw[Bool.eq_iff_iff]
 simp
theorem ziL {i j:Array UInt8}:decide (V.byt i=V.byt j)=(i.toList == j.toList):=by
 rw[Bool.eq_iff_iff]
 cases i
 cases j
 simp
section
variable {X:Cx} {a b c:Expr} {ta tb tc:TE} {pos:Pos}
theorem zaw {pins:List (Addr × Obj)}{σ:St}{H:Hp}{s:Shared}{Q:VK}{k k':Bool}(I:Inv X pins σ H s)(q:Q (.bl k) H)(e:k=k'):EP X pins σ Q (.bool k') s:=by
 subst e
 exact⟨.bl k,H,I,rfl,q⟩
theorem zp0:OpR X (compareOp .Eq) rEq:=by
 intro pins s σ H x y v u Q I rx ry h
 obtain⟨hs,q⟩:=h
 cases x with
 | non =>
   cases rx
   cases y with
   |non=>cases ry;exact PySem.EqNone.eq_none_none (zaw I q (by simp))
   |bl j=>cases ry;exact PySem.EqNone.eq_none_bool (zaw I q (by simp))
   |int j=>obtain⟨t',rfl⟩:=ry;exact PySem.EqNone.eq_none_int (zaw I q (by simp))
   |str j=>obtain⟨t',rfl⟩:=ry;exact PySem.EqNone.eq_none_str (zaw I q (by simp))
   |_=>exact absurd (show false=true from hs) Bool.false_ne_true
 | bl i =>
   cases rx
   cases y with
   |non=>cases ry;exact PySem.EqNone.eq_bool_none (zaw I q (by simp))
   |bl j=>cases ry;exact eq_bool (zaw I q zkV)
   |str j=>obtain⟨t',rfl⟩:=ry;exact PySem.EqMixed.eq_bool_str (zaw I q (by simp))
   |_=>exact absurd (show false=true from hs) Bool.false_ne_true
 | int i =>
   obtain⟨t,rfl⟩:=rx
   cases y with
   |non=>cases ry;exact PySem.EqNone.eq_int_none (zaw I q (by simp))
   |int j=>obtain⟨t',rfl⟩:=ry;exact eq_int (zaw I q ziK)
   |str j=>obtain⟨t',rfl⟩:=ry;exact PySem.EqMixed.eq_int_str (zaw I q (by simp))
   |_=>exact absurd (show false=true from hs) Bool.false_ne_true
 | str i =>
   obtain⟨t,rfl⟩:=rx
   cases y with
   |non=>cases ry;exact PySem.EqNone.eq_str_none (zaw I q (by simp))
   |bl j=>cases ry;exact PySem.EqMixed.eq_str_bool (zaw I q (by simp))
   |int j=>obtain⟨t',rfl⟩:=ry;exact PySem.EqMixed.eq_str_int (zaw I q (by simp))
   |str j=>obtain⟨t',rfl⟩:=ry;exact eq_str (zaw I q ziJ)
   |_=>exact absurd (show false=true from hs) Bool.false_ne_true
 | byt i =>
   obtain⟨t,rfl⟩:=rx
   cases y with
   |byt j=>obtain⟨t',rfl⟩:=ry;exact W.eq_bytes (zaw I q ziL)
   |_=>exact absurd (show false=true from hs) Bool.false_ne_true
 |_=>cases y<;>exact absurd (show false=true from hs) Bool.false_ne_true
theorem zpV:OpR X (compareOp .NotEq) rNe:=by
 intro pins s σ H x y v u Q I rx ry h
 obtain⟨hs,q⟩:=h
 cases x with
 | non =>
   cases rx
   cases y with
   |non=>cases ry;exact PySem.EqNone.ne_none_none (zaw I q (by simp))
   |bl j=>cases ry;exact PySem.EqNone.ne_none_bool (zaw I q (by simp))
   |int j=>obtain⟨t',rfl⟩:=ry;exact PySem.EqNone.ne_none_int (zaw I q (by simp))
   |str j=>obtain⟨t',rfl⟩:=ry;exact PySem.EqNone.ne_none_str (zaw I q (by simp))
   |_=>exact absurd (show false=true from hs) Bool.false_ne_true
 | bl i =>
   cases rx
   cases y with
   |non=>cases ry;exact PySem.EqNone.ne_bool_none (zaw I q (by simp))
   |bl j=>cases ry;exact ne_bool (zaw I q (congrArg not zkV))
   |str j=>obtain⟨t',rfl⟩:=ry;exact PySem.EqMixed.ne_bool_str (zaw I q (by simp))
   |_=>exact absurd (show false=true from hs) Bool.false_ne_true
 | int i =>
   obtain⟨t,rfl⟩:=rx
   cases y with
   |non=>cases ry;exact PySem.EqNone.ne_int_none (zaw I q (by simp))
   |int j=>obtain⟨t',rfl⟩:=ry;exact ne_int (zaw I q (congrArg not ziK))
   |str j=>obtain⟨t',rfl⟩:=ry;exact PySem.EqMixed.ne_int_str (zaw I q (by simp))
   |_=>exact absurd (show false=true from hs) Bool.false_ne_true
 | str i =>
   obtain⟨t,rfl⟩:=rx
   cases y with
   |non=>cases ry;exact PySem.EqNone.ne_str_none (zaw I q (by simp))
   |bl j=>cases ry;exact PySem.EqMixed.ne_str_bool (zaw I q (by simp))
   |int j=>obtain⟨t',rfl⟩:=ry;exact PySem.EqMixed.ne_str_int (zaw I q (by simp))
   |str j=>obtain⟨t',rfl⟩:=ry;exact ne_str (zaw I q (congrArg not ziJ))
   |_=>exact absurd (show false=true from hs) Bool.false_ne_true
 | byt i =>
   obtain⟨t,rfl⟩:=rx
   cases y with
   |byt j=>obtain⟨t',rfl⟩:=ry;exact W.ne_bytes (zaw I q (congrArg not ziL))
   |_=>exact absurd (show false=true from hs) Bool.false_ne_true
 |_=>cases y<;>exact absurd (show false=true from hs) Bool.false_ne_true
theorem zpW:OpR X (compareOp .Lt) (rI0 fun i j=>.bl (decide (i<j))):=opB0 fun _ _ _ _ _ _ _ q=>lt_int q
theorem zpX:OpR X (compareOp .LtE) (rI0 fun i j=>.bl (decide (i<=j))):=opB0 fun _ _ _ _ _ _ _ q=>le_int q
theorem zpY:OpR X (compareOp .Gt) (rI0 fun i j=>.bl (decide (j<i))):=opB0 fun _ _ _ _ _ _ _ q=>gt_int q
theorem zpZ:OpR X (compareOp .GtE) (rI0 fun i j=>.bl (decide (j<=i))):=opB0 fun _ _ _ _ _ _ _ q=>ge_int q
theorem zmd:OpR X (compareOp .IsNot) (fun x y H Q=>y=.non/\Q (.bl (!decide (x=.non))) H):=by
 intro pins s σ H x y v u Q I rx ry h
 obtain⟨rfl,q⟩:=h
 cases ry
 refine isnot_none_gen (zaw I q ?_)
 cases x<;>first
  |(cases rx;rfl)
  |(obtain⟨t,rfl⟩:=rx;rfl)
theorem zkP (b:Expr){op:CmpOp}(h:op≠.In:=by decide)(h2:op≠.NotIn:=by decide):behindInMarks op b=false:=by
 have e1:(op == CmpOp.In)=false:=by cases op<;>first|rfl|exact absurd rfl h
 have e2:(op == CmpOp.NotIn)=false:=by cases op<;>first|rfl|exact absurd rfl h2
 cases b<;>simp[behindInMarks,e1,e2]
theorem zl9 {op:CmpOp}{r:R2}(ho:OpR X (compareOp op) r)(ha:PE X a ta)(hb:PE X b tb)(hm:behindInMarks op b=false):PE X (.Compare a [op] [b] pos) (tOp r ta tb):=by
 intro pins s σ H Q I h
 exact wpAny_Compare1 (binT ha hb I h fun v u s2 x y H2 I2 rx ry q=>ho pins s2 σ H2 x y v u Q I2 rx ry q) hm
noncomputable def znp (t:TE):TT:=fun σ H Q=>t σ H fun x H'=>∃k,x=.bl k/\Q k H'
theorem zhF {op:CmpOp}{r:R2}(ho:OpR X (compareOp op) r)(ha:PE X a ta)(hb:PE X b tb)(hm:behindInMarks op b=false):PT X (.Compare a [op] [b] pos) (znp (tOp r ta tb)):=by
 intro pins s σ H Q I h
 refine wpAny_isTrue_Compare1 (thn (ha pins s σ H _ I h) fun v s1 ⟨x,H1,I1,r1,q1⟩=>thn (hb pins s1 σ H1 _ I1 q1) fun u s2 ⟨y,H2,I2,r2,q2⟩=>
  thn (ho pins s2 σ H2 x y v u _ I2 r1 r2 q2) fun c s3 ⟨z,H3,I3,r3,k,e,q3⟩=>?_) hm
 subst e
 cases r3
 exact wpAny_truthy_bool ⟨H3,I3,q3⟩
noncomputable def TruV (K:W.Frag)(x:V)(H:Hp)(k:Bool):Prop:=
 match x with
 |.non=>k=false
 |.bl b=>k=b
 |.int i=>k=(i != 0)
 |.str y=>y.length<=sizeLine/\k=((y.length:Int) != 0)
 |.byt y=>y.size<=sizeLine/\k=((y.size:Int) != 0)
 |.ref p=>(∃xs,SqL K H p xs/\k = !xs.isEmpty)\/(∃xs,SqT K H p xs/\k = !xs.isEmpty)\/∃kvs,H p=some (.dK kvs)/\k = !kvs.isEmpty
 |_=>False
theorem zg1 {κ:Type}{kvs:List (κ × V)}{vs:List (κ × Value)}(r:KV kvs vs):(!vs.isEmpty) = !kvs.isEmpty:=by
 cases r<;>rfl
theorem zdM {xs:List V}{its:List Value}(r:Vals xs its):(!its.toArray.isEmpty) = !xs.isEmpty:=by
 cases r<;>simp
theorem zdI:(sizeLine:Nat)<2 ^ 63:=by rw[sizeLine_eq];decide
theorem znj:TruR X (fun x H Q=>∃k,TruV X.K x H k/\Q k H):=by
 intro pins s σ H x v Q I rx h
 obtain⟨k,e,q⟩:=h
 have hl:=zdI
 have hs:sizeLine=16777216:=sizeLine_eq
 cases x with
 | non =>
   cases rx
   have e':k=false:=e
   subst e'
   exact truthy_none ⟨H,I,q⟩
 | bl b =>
   cases rx
   have e':k=b:=e
   subst e'
   exact wpAny_truthy_bool ⟨H,I,q⟩
 | int i =>
   obtain⟨t,rfl⟩:=rx
   have e':k=(i != 0):=e
   subst e'
   exact PySem.P.truthy_int ⟨H,I,q⟩
 | str y =>
   obtain⟨t,rfl⟩:=rx
   obtain⟨hy,e'⟩:y.length<=sizeLine/\k=((y.length:Int) != 0):=e
   subst e'
   exact PySem.P.truthy_str (by omega) ⟨H,I.tok _,q⟩
 | byt y =>
   obtain⟨t,rfl⟩:=rx
   obtain⟨hy,e'⟩:y.size<=sizeLine/\k=((y.size:Int) != 0):=e
   subst e'
   exact W.truthy_bytes (by omega) ⟨H,I.tok _,q⟩
 | ref p =>
   cases rx
   have e':(∃xs,SqL X.K H p xs/\k = !xs.isEmpty)\/(∃xs,SqT X.K H p xs/\k = !xs.isEmpty)\/∃kvs,H p=some (.dK kvs)/\k = !kvs.isEmpty:=e
   rcases e' with ⟨xs,hx,e'⟩|⟨xs,hx,e'⟩|⟨kvs,hx,e'⟩
   · subst e'
     obtain⟨its,r,pl,hz⟩:=I.list hx
     have hlen:=r.length
     exact wpAny_truthy_list pl.isList (by simp only[List.size_toArray];omega) ⟨H,I.tok _,by rw[zdM r];exact q⟩
   · subst e'
     obtain⟨its,r,pl,hz⟩:=I.tuple hx
     have hlen:=r.length
     exact truthy_tuple pl (by simp only[List.size_toArray];omega) ⟨H,I.tok _,by rw[zdM r];exact q⟩
   · subst e'
     obtain⟨hz,hS,vs,r,m⟩:kvs.length<=sizeLine/\(p == sysModules)=false/\∃vs,KV kvs vs/\s.heap.DictOf (zap X.prog X.w) p vs:=I.hok p _ hx
     have hlen:kvs.length=vs.length:=Paired.length r
     exact wpAny_truthy_dict hS m (by omega) ⟨H,I.tok _,by rw[zg1 r];exact q⟩
 |_=>exact (show False from e).elim
theorem zjr (ha:PE X a ta)(he:∀whole,isTrue a X.env whole=(do let v <-whole;standAt a.pos;holding [v] (truthy v))) :
  PT X a (fun σ H Q=>ta σ H fun x H'=>∃k,TruV X.K x H' k/\Q k H'):=by
 intro pins s σ H Q I h
 exact isTrue_plain (thn (ha pins s σ H _ I h) fun v s1 ⟨x,H1,I1,r1,q1⟩=>znj pins s1 σ H1 x v Q I1 r1 q1) (he _)
theorem zlc {x:V}{us:List Value}(r:Vals [x] us):∃u,us=[u]/\RelV x u:=by
 cases r with
 |cons r1 r2=>cases r2;exact⟨_,rfl,r1⟩
theorem zlb {x y:V}{us:List Value}(r:Vals [x,y] us):∃u w',us=[u,w']/\RelV x u/\RelV y w':=by
 cases r with
 | cons r1 r2 =>
   cases r2 with
   |cons r3 r4=>cases r4;exact⟨_,_,rfl,r1,r3⟩
theorem ziS (hc:X.calm=true):zcc X (.builtin "min") (fun xs H Q=>∃i j,xs=[.int i,.int j]/\Q (.int (if j<i then j else i)) H):=by
 intro pins s σ H xs us Q I r h
 obtain⟨i,j,rfl,q⟩:=h
 obtain⟨u,w',rfl,⟨t,rfl⟩,⟨t',rfl⟩⟩:=zlb r
 refine min_two_ints (I.ok.hd hc) fun h' tk k=>⟨_,H,I.kept k,?_,q⟩
 by_cases hj:j<i
 · rw[if_pos hj,if_pos hj];exact⟨_,rfl⟩
 · rw[if_neg hj,if_neg hj];exact⟨_,rfl⟩
end
end L2
namespace L2
open PySem PySem.Spec PyProof.Rows
structure ObjM (h:Heap) (x dx C:Addr) (mA:Str->Option Value):Prop where
 obj:h.get? x=some (W.instObj C dx)
 ns:h.Ns1 dx mA
 ne:dx≠x
theorem zh4 {h:Heap}{dx:Addr}{mA:Str->Option Value}(n:h.Ns1 dx mA):∃od,h.get? dx=some od/\∀name,W.lookIn name od=some (mA name):=by
 obtain⟨o,es,ep,ho,hd,hk,_,hm⟩:=n
 refine⟨o,ho,fun name=>?_⟩
 have e:=hm name
 unfold nsFind findBy at e
 rw[<-Array.find?_toList] at e
 unfold W.lookIn
 rw[hd]
 dsimp only
 split
 · rename_i y q
   rw[q] at e
   exact congrArg some e
 · rename_i q
   rw[q] at e
   have a:es.toList.any (·.refKey)=false:=by
    rw[List.any_eq_false]
    intro y hy
    obtain⟨z,t,hkey⟩:=hk y (Array.mem_toList_iff.mp hy)
    simp[DictEntry.refKey,hkey]
   have a':¬es.toList.any (·.refKey)=true:=by rw[a];exact Bool.false_ne_true
   rw[if_neg a']
   exact congrArg some e
theorem ObjM.look {h:Heap}{x dx C:Addr}{mA:Str->Option Value}(I:ObjM h x dx C mA):∃od,W.InstAt h x (W.instObj C dx) C (some od)/\∀name,W.lookIn name od=some (mA name):=
 let ⟨od,ho,hl⟩:=zh4 I.ns
 ⟨od,⟨I.obj,rfl,rfl,ho⟩,hl⟩
section
variable {prog:Program} {w:World} {A:Around} {E:Value->Shared->Prop} {s:Shared} {K:W.Frag} {x dx C f:Addr} {mA:Str->Option Value} {name:Str} {v:Value}
theorem zmB {expr:Bool}{Q:Value->Shared->Prop}(X:K.In s.heap)(I:ObjM s.heap x dx C mA)(hg:W.plainGet K C name=true)(hh:W.hasDictIn K C=true)
  (ha:W.findIn K (.ref C) name=some none) (hv:mA name=some v) (hv':W.handedIn v=true) (h:Q v {s with toks:=s.toks+1}) :
  wpAny (model prog w) A (getAttr (.ref x) name expr) Q E s:=by
 obtain⟨od,J,hl⟩:=I.look
 exact W.get_value X J (W.plainGet_of hg).1 (W.findObj_own hh ha rfl (by rw[hl,hv])) hv' h
theorem zkb {pl:Sem Bool}{Q:Value × List Value->Shared->Prop}(X:K.In s.heap)(I:ObjM s.heap x dx C mA)(hg:W.plainGet K C name=true)
  (hf:W.findIn K (.ref C) name=some (some (.ref f))) (ht:W.isFn K (.ref f)=true) (hv:mA name=none) (h:Q (.ref f,[.ref x]) s) :
  wpAny (model prog w) A (getMethod (.ref x) name pl) Q E s:=by
 obtain⟨od,J,hl⟩:=I.look
 exact W.method_fn X J (W.plainGet_of hg).1 (W.plainGet_of hg).2 hf (beq_iff_eq.mp ht) (by show (W.lookIn name od).map (·.isSome)=some false;rw[hl,hv];rfl) h
theorem zlz {ns:List Str}{Q:Unit->Shared->Prop}(X:K.In s.heap)(I:ObjM s.heap x dx C mA)
  (hs:W.findIn K (.ref C) "__setattr__"=some (some (.builtin "object.__setattr__"))) (hp:W.plainOver K C=true) (ht:W.takerIn K C name=some none) (hh:W.hasDictIn K C=true)
  (hw:PySem.Within mA ns) (hsz:ns.length<=sizeLine)
  (h:∀h',ObjM h' x dx C (fun y=>if y=name then some v else mA y)->Heap.SameBut dx s.heap h'->Q () {s with heap:=h',toks:=s.toks+2}) :
  wpAny (model prog w) A (setAttr (.ref x) name v) Q E s:=by
 obtain⟨od,J,hl⟩:=I.look
 refine W.set_plain X J hs (W.osa_open (s:={s with toks:=s.toks+1}) (r:=none) X J hp ht fun b=>?_)
 obtain⟨cd,hc,hd'⟩:=W.any_some hh
 have hx:s.heap.get? x=some ⟨.ref C,some dx,.plain,#[]⟩:=I.obj
 refine wpAny_bind (wpAny_pure (wpAny_bind (wpAny_bind (wpAny_loadPart hx (wpAny_bind (W.Looks.here (s:={s with toks:=s.toks+1}) (W.looks_clsIn X hc) ?_))))))
 rw[hd']
 refine wpAny_pure (a:=some dx) (wpAny_bind (wpAny_pure (wpAny_bind ?_)))
 refine wpAny_nsSet1 (s:={s with toks:=s.toks+1}) I.ns fun h' hn2 hs2=>?_
 obtain⟨oD,esD,epD,hoD,hdD,hcD⟩:=hn2.count (PySem.Within.cons name v hw)
 refine wpAny_bind (wpAny_lookBehind hoD (by rw[hdD];exact pastItsLine_dict (Nat.le_trans hcD (by rw[List.length_cons];omega))) ?_)
 exact wpAny_pure (h _ ⟨(hs2.2 _ (Ne.symm I.ne)).trans I.obj,hn2,I.ne⟩ hs2)
theorem zjP {R:Result->Shared->Prop}{vs:List Value}{kw:List (Str × Value)}(X:K.In s.heap)(hm:W.makesIn K C=true)
  (hi:W.findIn K (.ref C) "__init__"=some (some (.ref f))) (hf:W.typeIn K (.ref f)=some (.type "function"))
  (h:codeAny (model prog w) (A.under (.builtin "type.__call__" ⟨.ref C::vs,kw⟩)) (.call (.ref f) ⟨.ref (s.heap.objs.size+1)::vs,kw⟩) (W.InitBack (s.heap.objs.size+1) R)
   {s with heap:=(s.heap.push W.emptyDict).push (W.instObj C s.heap.objs.size)}) :
  codeAny (model prog w) A (.call (.ref C) ⟨vs,kw⟩) R s:=by
 obtain⟨hh,g,d,t,os⟩:=s
 exact W.make_core (W.makes_of X hm) (W.looks_findIn X hi) (fun self=>W.bind_fn X self hf) (.inl rfl) h
end
noncomputable def putF (f:Str)(v:V):List (Str × V)->List (Str × V)
 | []=>[(f,v)]
 |(g,x)::r=>if g=f then (g,v)::r else (g,x)::putF f v r
theorem zc5 (f g:Str)(v:V):∀fs:List (Str × V),(putF f v fs).lookup g=if g=f then some v else fs.lookup g
 | [] => by
   show List.lookup g [(f,v)]=_
   by_cases h:g=f
   · have hb:(g == f)=true:=beq_iff_eq.mpr h
     simp only[List.lookup,hb,if_pos h]
   · have hb:(g == f)=false:=beq_eq_false_iff_ne.mpr h
     simp only[List.lookup,hb,if_neg h]
 | (k, x) :: r => by
   have ih:=zc5 f g v r
   rw[show putF f v ((k,x)::r)=(if k=f then (k,v)::r else (k,x)::putF f v r) from rfl]
   by_cases hk:k=f
   · rw[if_pos hk]
     by_cases h:g=k
     · have hb:(g == k)=true:=beq_iff_eq.mpr h
       simp only[List.lookup,hb,if_pos (h.trans hk)]
     · have hb:(g == k)=false:=beq_eq_false_iff_ne.mpr h
       simp only[List.lookup,hb,if_neg (fun e:g=f=>h (e.trans hk.symm))]
   · rw[if_neg hk]
     by_cases h:g=k
     · have hb:(g == k)=true:=beq_iff_eq.mpr h
       simp only[List.lookup,hb,if_neg (fun e:g=f=>hk (h.symm.trans e))]
     · have hb:(g == k)=false:=beq_eq_false_iff_ne.mpr h
       simp only[List.lookup,hb]
       exact ih
theorem zdb (f:Str)(v:V):∀fs:List (Str × V),f∈(putF f v fs).map (·.1)/\∀g,g∈fs.map (·.1)->g∈(putF f v fs).map (·.1)
 | []=>⟨by simp[putF],fun g h=>by simp at h⟩
 | (k, x) :: r => by
   obtain⟨i1,i2⟩:=zdb f v r
   rw[show putF f v ((k,x)::r)=(if k=f then (k,v)::r else (k,x)::putF f v r) from rfl]
   by_cases hk:k=f
   · rw[if_pos hk]
     subst hk
     exact⟨by simp,fun g h=>by simpa using h⟩
   · rw[if_neg hk]
     refine⟨?_,fun g h=>?_⟩
     · rw[List.map_cons]
       exact List.mem_cons_of_mem _ i1
     · rw[List.map_cons] at h⊢
       rcases List.mem_cons.mp h with e|e
       · exact List.mem_cons.mpr (.inl e)
       · exact List.mem_cons_of_mem _ (i2 g e)
theorem zc8 (f:Str)(v:V):∀fs:List (Str × V),(putF f v fs).length<=fs.length+1
 | []=>by simp[putF]
 | (k, x) :: r => by
   have ih:=zc8 f v r
   rw[show putF f v ((k,x)::r)=(if k=f then (k,v)::r else (k,x)::putF f v r) from rfl]
   by_cases hk:k=f
   · rw[if_pos hk,List.length_cons,List.length_cons];omega
   · rw[if_neg hk,List.length_cons,List.length_cons];omega
theorem RelO.some_of {v:V}{o:Option Value}(r:RelO (some v) o):∃u,o=some u/\RelV v u:=by
 cases o with
 |none=>exact (show False from r).elim
 |some u=>exact⟨u,rfl,r⟩
theorem RelO.none_of {o:Option Value}(r:RelO none o):o=none:=by
 cases o with
 |none=>rfl
 |some u=>exact (show False from r).elim
theorem ziu {v:V}{u:Value}(r:RelV v u):W.handedIn u=true:=by
 cases v with
 |non=>cases (show u=Value.none from r);rfl
 |bl b=>cases (show u=Value.bool b from r);rfl
 |int i=>obtain⟨t,e⟩:=(show ∃t,u=Value.int i t from r);cases e;rfl
 |str x=>obtain⟨t,e⟩:=(show ∃t,u=Value.str x t from r);cases e;rfl
 |byt b=>obtain⟨t,e⟩:=(show ∃t,u=Value.bytes b t from r);cases e;rfl
 |flt b=>obtain⟨t,e⟩:=(show ∃t,u=Value.float b t from r);cases e;rfl
 |ref a=>cases (show u=Value.ref a from r);rfl
 |ty n=>cases (show u=Value.type n from r);rfl
section
variable {P:Program} {w:World} {H H':Hp} {h h':Heap} {a C dx:Addr} {fs fs':List (Str × V)}
theorem zep (hok:HOk P w H h)(e:H a=some (.ins C dx fs)):∃mA,ObjM h a dx C mA/\(∀f,RelO (fs.lookup f) (mA f))/\PySem.Within mA (fs.map (·.1))/\fs.length<=1000/\H dx=some (.own a):=by
 obtain⟨d,z,ne,ob,mA,n,r,q⟩:=(show ObjOk P w H h a (.ins C dx fs) from hok a _ e)
 exact⟨mA,⟨ob,n,ne⟩,r,q,z,d⟩
end
structure Cls (K:W.Frag) (C:Addr):Prop where
 pg:W.plainGet K C Str.empty=true
 hd:W.hasDictIn K C=true
 po:W.plainOver K C=true
 sa:W.findIn K (.ref C) "__setattr__"=some (some (.builtin "object.__setattr__"))
theorem Cls.get {K:W.Frag}{C:Addr}(c:Cls K C)(f:Str):W.plainGet K C f=true:=c.pg
noncomputable def NoAttr (K:W.Frag)(C:Addr)(f:Str):Prop:=W.findIn K (.ref C) f=some none
theorem NoAttr.taker {K:W.Frag}{C:Addr}{f:Str}(n:NoAttr K C f):W.takerIn K C f=some none:=by
 unfold W.takerIn
 rw[show W.findIn K (.ref C) f=some none from n]
 rfl
structure Con (K:W.Frag) (C:Addr) (f:Str) (v:V) (u:Value):Prop where
 at_:W.findIn K (.ref C) f=some (some u)
 rel:RelV v u
 get:W.specialIn K u "__get__"=some none
 cp:W.copiedNames.contains f=false
structure Meth (K:W.Frag) (C:Addr) (m:Str) (f:Addr):Prop where
 at_:W.findIn K (.ref C) m=some (some (.ref f))
 fn:W.isFn K (.ref f)=true
 kp:W.keepIn K (.ref f)=true
section
variable {X:Cx} {pins:List (Addr × Obj)} {σ:St} {H:Hp} {s:Shared} {a C dx:Addr} {fs:List (Str × V)} {f:Str} {v:V} {A:Around} {E:Value->Shared->Prop}
theorem zg3 {b:Bool}{Q:Value->Shared->Prop}(I:Inv X pins σ H s)(e:H a=some (.ins C dx fs))(c:Cls X.K C)(n:NoAttr X.K C f)(l:fs.lookup f=some v)
  (h:∀u s',Inv X pins σ H s'->RelV v u->Q u s'):wpAny (model X.prog X.w) A (getAttr (.ref a) f b) Q E s:=by
 obtain⟨mA,O,r,_,_,_⟩:=zep I.hok e
 obtain⟨u,hu,ru⟩:=RelO.some_of (v:=v) (o:=mA f) (by rw[<-l];exact r f)
 exact zmB I.kIn O (c.get f) c.hd n hu (ziu ru) (h u _ (I.tok _) ru)
theorem zdN {m:Str}{g:Addr}{pl:Sem Bool}{Q:Value × List Value->Shared->Prop}(I:Inv X pins σ H s)(e:H a=some (.ins C dx fs))(c:Cls X.K C)(k:Meth X.K C m g)(l:fs.lookup m=none)
  (h:Q (.ref g,[.ref a]) s):wpAny (model X.prog X.w) A (getMethod (.ref a) m pl) Q E s:=by
 obtain⟨mA,O,r,_,_,_⟩:=zep I.hok e
 have hn:mA m=none:=RelO.none_of (by rw[<-l];exact r m)
 exact zkb I.kIn O (c.get m) k.at_ k.fn hn h
theorem zgN {y:V}{u:Value}{Q:Unit->Shared->Prop}(I:Inv X pins σ H s)(e:H a=some (.ins C dx fs))(c:Cls X.K C)(n:NoAttr X.K C f)(hl:fs.length<1000)(ry:RelV y u)
  (h:∀s',Inv X pins σ (upd H a (.ins C dx (putF f y fs))) s'->Q () s'):wpAny (model X.prog X.w) A (setAttr (.ref a) f u) Q E s:=by
 obtain⟨mA,O,r,wi,_,ho⟩:=zep I.hok e
 have hz:(fs.map (·.1)).length<=sizeLine:=by rw[List.length_map,sizeLine_eq];omega
 refine zlz I.kIn O c.sa c.po n.taker c.hd wi hz fun h' O' sb=>h _ ?_
 have hd:∃o,h'.get? dx=some o:=let ⟨o,_,_,e',_⟩:=O'.ns;⟨o,e'⟩
 refine I.write (x:=a) (e:=dx) (by rw[e];exact True.intro) (.inr ho) (fun b q hb z=>(sb.2 b hb).trans z) hd ?_
 refine⟨by rw[zae O.ne];exact ho,?_,O.ne,O'.obj,_,O'.ns,fun g=>?_,fun g hg=>?_⟩
 · have:=zc8 f y fs;omega
 · show RelO ((putF f y fs).lookup g) (if g=f then some u else mA g)
   rw[zc5]
   by_cases q:g=f
   · rw[if_pos q,if_pos q];exact ry
   · rw[if_neg q,if_neg q];exact r g
 · by_cases q:g=f
   · rw[q];exact (zdb f y fs).1
   · refine (zdb f y fs).2 g (wi g fun z=>hg ?_)
     show (if g=f then some u else mA g)=none
     rw[if_neg q];exact z
theorem Inv.made (I:Inv X pins σ H s):Inv X pins σ (upd (upd H s.heap.objs.size (.own (s.heap.objs.size+1))) (s.heap.objs.size+1) (.ins C s.heap.objs.size []))
  {s with heap:=(s.heap.push W.emptyDict).push (W.instObj C s.heap.objs.size)}:=by
 have e1:(s.heap.push W.emptyDict).get? s.heap.objs.size=some W.emptyDict:=Heap.get?_push_size s.heap rfl
 have e2:((s.heap.push W.emptyDict).push (W.instObj C s.heap.objs.size)).get? (s.heap.objs.size+1)=some (W.instObj C s.heap.objs.size):=by
  have:=Heap.get?_push_size (s.heap.push W.emptyDict) (o:=W.instObj C s.heap.objs.size) rfl
  rwa [Heap.size_push] at this
 have e3:(s.heap.push W.emptyDict).Ns s.heap.objs.size (fun _=>none):=⟨W.emptyDict,#[],_,e1,rfl,(fun e he=>absurd he (by simp)),fun _=>rfl⟩
 have I1:=I.laid (a:=s.heap.objs.size) (o:=.own (s.heap.objs.size+1)) (h':=s.heap.push W.emptyDict) (t':=s.toks) (fun b u q=>Heap.get?_push_of_some _ q) (Nat.le_refl _) ⟨_,e1⟩
 refine I1.laid (a:=s.heap.objs.size+1) (o:=.ins C s.heap.objs.size []) (t':=s.toks) (fun b u q=>Heap.get?_push_of_some _ q) (Nat.le_of_eq (Heap.size_push _ _)) ?_
 have ne:s.heap.objs.size≠s.heap.objs.size+1:=Nat.ne_of_lt (Nat.lt_succ_self _)
 refine⟨by rw[zae ne,zai],Nat.zero_le _,ne,e2,fun _=>none,(Heap.Ns1.of_empty e3).at fun o q=>Heap.get?_push_of_some _ q,fun _=>True.intro,fun y hy=>absurd rfl hy⟩
theorem zmX {prog:Program}{w:World}{env:Env}{e:Expr}{f:Str}{pos:Pos}{s:Shared}{Q:Value->Shared->Prop}(hb:attributeBase e f env (eval e env)=eval e env)
  (h:wpAny (model prog w) A (eval e env) (fun o s₁=>wpAny (model prog w) A (getAttr o f true) Q E s₁) E s):wpAny (model prog w) A (eval (.Attribute e f pos) env) Q E s:=
 Attribute_any_ h (by rw[arm_eval_Attribute,hb])
end
noncomputable def tFld (K:W.Frag)(ta:TE)(f:Str):TE:=fun σ H Q=>ta σ H fun x H1=>∃a C dx fs v,x=.ref a/\H1 a=some (.ins C dx fs)/\Cls K C/\NoAttr K C f/\fs.lookup f=some v/\Q v H1
noncomputable def sFld (K:W.Frag)(ta tv:TE)(f:Str):TS:=fun D σ H=>tv σ H fun y H1=>ta σ H1 fun x H2=>∃a C dx fs,x=.ref a/\H2 a=some (.ins C dx fs)/\Cls K C/\NoAttr K C f/\fs.length<1000/\
 D.nx σ (upd H2 a (.ins C dx (putF f y fs)))
section
variable {X:Cx} {o e value:Expr} {f:Str} {pos pos' tpos:Pos} {ta tv:TE}
theorem zop (he:PE X e ta)(hb:attributeBase e f X.env (eval e X.env)=eval e X.env):PE X (.Attribute e f pos) (tFld X.K ta f):=by
 intro pins s σ H Q I h
 refine zmX hb (thn (he pins s σ H _ I h) fun u s1 ⟨x,H1,I1,rx,a,C,dx,fs,v,ex,ea,c,n,l,q⟩=>?_)
 subst ex
 obtain rfl:u=Value.ref a:=rx
 exact zg3 I1 ea c n l fun u' s2 I2 ru=>⟨v,H1,I2,ru,q⟩
theorem zod (ha:PE X o ta)(hv:PE X value tv)(hs:swapsWith value (some (.Attribute o f pos')) pos.line X.env=pure false):PS X (.Assign [.Attribute o f pos'] value pos) (sFld X.K ta tv f):=by
 intro pins s σ H D I h
 refine plainObj_wpAny_Assign_Attribute (thn (hv pins s σ H _ I h) fun u s1 ⟨y,H1,I1,ry,q⟩=>thn (ha pins s1 σ H1 _ I1 q) fun ov s2 ⟨x,H2,I2,rx,a,C,dx,fs,ex,ea,c,n,l,q2⟩=>?_) hs
 subst ex
 obtain rfl:ov=Value.ref a:=rx
 exact zgN I2 ea c n l ry fun s3 I3=>⟨σ,_,I3,q2⟩
end
section
variable {X:Cx} {pins:List (Addr × Obj)} {σ:St} {H:Hp} {s:Shared} {A:Around} {E:Value->Shared->Prop} {Q:Value->Shared->Prop} {c:Value} {b:Bool}
inductive TyOf (K:W.Frag) (H:Hp):V->Value->Prop where
 |non:TyOf K H .non (.type "NoneType")
 |bl (x:Bool):TyOf K H (.bl x) (.type "bool")
 |int (i:Int):TyOf K H (.int i) (.type "int")
 |str (x:Str):TyOf K H (.str x) (.type "str")
 |flt (x:UInt64):TyOf K H (.flt x) (.type "float")
 |lst {a:Addr} {xs:List V} (e:H a=some (.lst xs)):TyOf K H (.ref a) (.type "list")
 |frz {a:Addr} {o:Obj} {xs:List V} (e:H a=some (.frz o (.lst xs))):TyOf K H (.ref a) (.type "list")
 |tup {a:Addr} {xs:List V} (e:H a=some (.tup xs)):TyOf K H (.ref a) (.type "tuple")
 |dK {a:Addr} {kvs:List (Key × V)} (e:H a=some (.dK kvs)):TyOf K H (.ref a) (.type "dict")
 |dT {a:Addr} {kvs:List (List Key × V)} (e:H a=some (.dT kvs)):TyOf K H (.ref a) (.type "dict")
 |ins {a C dx:Addr} {fs:List (Str × V)} (e:H a=some (.ins C dx fs)) (cl:Cls K C) (ha:W.findIn K (.ref C) "__class__"=some (some (.builtin "object.__class__")))
  (hn:W.specialIn K (.builtin "object.__class__") "__get__"=some (some (.builtin "getset_descriptor.__get__"))) (htk:W.takesIn K (.builtin "object.__class__")=some true)
  (hm:W.mroIn K C (.type "object")=some true):TyOf K H (.ref a) (.ref C)
theorem zeY {x:V}{u t:Value}(I:Inv X pins σ H s)(rx:RelV x u)(ty:TyOf X.K H x t)(e:W.kitOne X.K t c=some b)(h:∀tk,Q (.bool b) {s with toks:=tk}) :
  wpAny (model X.prog X.w) A (call (.builtin "isinstance") [u,c]) Q E s:=by
 cases ty with
 |non=>cases (show u=Value.none from rx);exact W.kia_one W.kitx_none I.kIn True.intro e (fun z=>nomatch z) h
 |bl y=>cases (show u=Value.bool y from rx);exact W.kia_one W.kitx_bool I.kIn True.intro e (fun z=>nomatch z) h
 |int i=>obtain⟨t,q⟩:=(show ∃t,u=Value.int i t from rx);cases q;exact W.kia_one W.kitx_int I.kIn True.intro e (fun z=>nomatch z) h
 |str y=>obtain⟨t,q⟩:=(show ∃t,u=Value.str y t from rx);cases q;exact W.kia_one W.kitx_str I.kIn True.intro e (fun z=>nomatch z) h
 |flt y=>obtain⟨t,q⟩:=(show ∃t,u=Value.float y t from rx);cases q;exact W.kia_one W.kitx_float I.kIn True.intro e (fun z=>nomatch z) h
 | @lst a xs ea =>
   cases (show u=Value.ref a from rx)
   obtain⟨_,_,n,_,h1⟩:=(show ObjOk X.prog X.w H s.heap a (.lst xs) from I.hok a _ ea)
   exact W.kia_one W.kitx_list I.kIn ⟨_,h1,rfl⟩ e (fun z=>nomatch z) h
 | @frz a ob xs ea =>
   cases (show u=Value.ref a from rx)
   obtain⟨_,_,_,n,_,h1⟩:=(show ObjOk X.prog X.w H s.heap a (.frz ob (.lst xs)) from I.hok a _ ea)
   exact W.kia_one W.kitx_list I.kIn ⟨_,h1,rfl⟩ e (fun z=>nomatch z) h
 | @tup a xs ea =>
   cases (show u=Value.ref a from rx)
   obtain⟨_,_,_,p⟩:=(show ObjOk X.prog X.w H s.heap a (.tup xs) from I.hok a _ ea)
   obtain⟨o,h1,h2,_⟩:=p
   exact W.kia_one W.kitx_tuple I.kIn ⟨o,h1,h2⟩ e (fun z=>nomatch z) h
 | @dK a kvs ea =>
   cases (show u=Value.ref a from rx)
   obtain⟨_,_,vs,_,p⟩:=(show ObjOk X.prog X.w H s.heap a (.dK kvs) from I.hok a _ ea)
   obtain⟨o,es,ep,h1,h2,_⟩:=p
   exact W.kia_one W.kitx_dict I.kIn ⟨o,h1,h2.1⟩ e (fun z=>nomatch z) h
 | @dT a kvs ea =>
   cases (show u=Value.ref a from rx)
   obtain⟨_,_,xs,_,o,es,ep,h1,h2,_⟩:=(show ObjOk X.prog X.w H s.heap a (.dT kvs) from I.hok a _ ea)
   exact W.kia_one W.kitx_dict I.kIn ⟨o,h1,h2.1⟩ e (fun z=>nomatch z) h
 | @ins a C dx fs ea cl ha hn htk hm =>
   cases (show u=Value.ref a from rx)
   obtain⟨mA,O,_⟩:=zep I.hok ea
   obtain⟨od,J,_⟩:=O.look
   exact W.kia_one (W.kitx_own (cl.get _) cl.hd ha hn htk hm) I.kIn J e (fun z=>nomatch z) h
end
end L2
namespace L2
open PySem PySem.Spec PyProof.Rows
structure Room (k:Nat) (A:Around):Prop where
 hd:A.handled=none
 dp:A.depth+3 * k+5<recursionLimit
 un:A.units+16 * k+200<cLine
theorem Room.mono {j k:Nat}{A:Around}(r:Room k A)(h:j<=k):Room j A:=⟨r.hd,by have:=r.dp;omega,by have:=r.un;omega⟩
theorem Room.deeper {k:Nat}{A:Around}(r:Room (k+1) A)(env:Env):Room k (A.deeper env):=
 ⟨r.hd,by have:=r.dp;show A.depth+1+3 * k+5<_;omega,by have:=r.un;show A.units+3+16 * k+200<_;omega⟩
theorem Room.in1 {k:Nat}{A:Around}(r:Room (k+1) A):Room k A.in1:=
 ⟨r.hd,by have:=r.dp;show A.depth+3 * k+5<_;omega,by have:=r.un;show A.units+1+16 * k+200<_;omega⟩
theorem zgX {A:Around}{C:Addr}{us:List Value}{kw:List (Str × Value)}:(A.under (.builtin "type.__call__" ⟨.ref C::us,kw⟩)).depth=A.depth+1:=by
 first|rfl|simp[Around.under,Code.weight,Code.isCreation,Code.isGuard,Code.isCaller,Code.frames,Code.isFrame,guardIds]
theorem zgW {A:Around}{C:Addr}{us:List Value}{kw:List (Str × Value)}:(A.under (.builtin "type.__call__" ⟨.ref C::us,kw⟩)).units=A.units+1:=by
 first|rfl|simp[Around.under,Code.cUnits,Code.frames,Code.isFrame]
theorem Room.make {k:Nat}{A:Around}(r:Room (k+1) A)(C:Addr)(us:List Value)(kw:List (Str × Value)):Room k (A.under (.builtin "type.__call__" ⟨.ref C::us,kw⟩)):=
 ⟨r.hd,by have:=r.dp;rw[zgX];omega,by have:=r.un;rw[zgW];omega⟩
theorem Room.depth {k:Nat}{A:Around}(r:Room k A):A.depth<recursionLimit:=by have:=r.dp;omega
noncomputable def tNil:TA:=fun _ H Q=>Q [] H
noncomputable def zey (ta:TE)(tr:TA):TA:=fun σ H Q=>ta σ H fun x H1=>tr σ H1 fun xs H2=>Q (x::xs) H2
section
variable {X:Cx} {e:Expr} {es:List Expr} {te:TE} {t:TA} {pos:Pos}
theorem zdH:PA X [] tNil:=fun _ _ _ _ H Q I h=>Calls.spliced_nil ⟨[],H,I,.nil,h⟩
theorem za4 (ha:PE X e te)(hr:PA X es t)(hs:starEach (e::es) X.env=(false,eval e X.env)::starEach es X.env:=by rfl):PA X (e::es) (zey te t):=by
 intro pos pins s σ H Q I h
 rw[hs]
 show wpAny _ _ (spliced ((false,eval e X.env)::backTo pos (starEach es X.env))) _ _ s
 refine Calls.spliced_cons (thn (ha pins s σ H _ I h) fun u s1 ⟨x,H1,I1,r1,q1⟩=>?_)
 exact thn (hr pos pins s1 σ H1 _ I1 q1) fun us s2 ⟨xs,H2,I2,r2,q2⟩=>⟨x::xs,H2,I2,.cons r1 r2,q2⟩
noncomputable def tTup (t:TA):TE:=fun σ H Q=>t σ H fun xs H1=>xs.length<=sizeLine/\∀p,H1 p=none->Q (.ref p) (upd H1 p (.tup xs))
noncomputable def tLst (t:TA):TE:=fun σ H Q=>t σ H fun xs H1=>xs.length<=sizeLine/\∀p,H1 p=none->Q (.ref p) (upd H1 p (.lst xs))
theorem zkK {x1}(h:PA X es t):PE X (.Tuple es x1 pos) (tTup t):=by
 intro pins s σ H Q I hq
 refine wpAny_Tuple_spliced (thn (h pos pins s σ H _ I hq) fun us s1 ⟨xs,H1,I1,r,z,q⟩=>⟨by rw[<-r.length];exact z,?_⟩)
 have hf:H1 s1.heap.objs.size=none:=I1.hok.fresh (Nat.le_refl _)
 refine⟨.ref s1.heap.objs.size,upd H1 s1.heap.objs.size (.tup xs),I1.laid (t':=s1.toks) (fun b u e=>Heap.get?_push_of_some _ e) (Nat.le_refl _) ?_,rfl,q _ hf⟩
 exact⟨z,us,r,⟨_,Heap.get?_push_size _ rfl,rfl,_,rfl⟩⟩
theorem zom (h:PA X es t):PE X (.List es pos) (tLst t):=by
 intro pins s σ H Q I hq
 refine wpAny_List_spliced (thn (h pos pins s σ H _ I hq) fun us s1 ⟨xs,H1,I1,r,z,q⟩=>⟨by rw[<-r.length];exact z,?_⟩)
 have hf:H1 s1.heap.objs.size=none:=I1.hok.fresh (Nat.le_refl _)
 refine⟨.ref s1.heap.objs.size,upd H1 s1.heap.objs.size (.lst xs),I1.laid (t':=s1.toks) (fun b u e=>Heap.get?_push_of_some _ e) (Nat.le_refl _) ?_,rfl,q _ hf⟩
 exact⟨z,us,0,r,Heap.get?_push_size _ rfl⟩
end
noncomputable abbrev Sp:=List V->Hp->VK->XK->Prop
noncomputable abbrev CXT:=List Env->Hp->Shared->XK->Value->Shared->Prop
structure Env0 (P:Program) (w:World) (K:W.Frag) (mg:Str->Option Value) (base:Heap) (A:Around) (outer:List Env) (s:Shared) (H:Hp):Prop where
 frames:A.frames=some outer
 mod:Mod K mg base
 bs:∀b o,base.get? b=some o->s.heap.get? b=some o/\H b=none
 bsz:base.objs.size<=s.heap.objs.size
 funs:s.heap.FunFrames base outer
 frf:∀b∈frs outer,H b=none
 hok:HOk P w H s.heap
 bare:AllBare s.gens
noncomputable def CE (outer:List Env)(P:Program)(w:World)(H:Hp)(s:Shared)(Q:VK)(u:Value)(s':Shared):Prop:=
 ∃v H',s'.os=s.os/\AllBare s'.gens/\Un (frs outer) [] H H' s.heap s'.heap/\HOk P w H' s'.heap/\RelV v u/\Q v H'
noncomputable def CR (CX:CXT)(outer:List Env)(P:Program)(w:World)(H:Hp)(s:Shared)(Q:VK)(E:XK)(r:Result)(s':Shared):Prop:=
 match r with
 |.ok (.ret u)=>CE outer P w H s Q u s'
 |.ok _=>False
 |.error e=>CX outer H s E e s'
structure FnOk (P:Program) (w:World) (K:W.Frag) (mg:Str->Option Value) (base:Heap) (CX:CXT) (k:Nat) (f:Addr) (fd:FuncData) (ps:List Str) (sp:Sp):Prop where
 len:∀vs H Q E,sp vs H Q E->vs.length=ps.length
 run:∀(A:Around) (outer:List Env) (s:Shared) (H:Hp) (args:Args) (us:List Value) (vs:List V) (Q:VK) (E:XK),Room k A->Env0 P w K mg base A outer s H->BindsTo s fd args (ps.zip us)->Vals vs us->sp vs H Q E->
  codeAny (model P w) A (.call (.ref f) args) (CR CX outer P w H s Q E) s
theorem FnOk.mono {P:Program}{w:World}{K:W.Frag}{mg:Str->Option Value}{base:Heap}{CX:CXT}{j k:Nat}{f:Addr}{fd:FuncData}{ps:List Str}{sp:Sp}(F:FnOk P w K mg base CX j f fd ps sp)(h:j<=k) :
 FnOk P w K mg base CX k f fd ps sp:=⟨F.len,fun A outer s H args us vs Q E hr=>F.run A outer s H args us vs Q E (hr.mono h)⟩
theorem Env0.make {P:Program}{w:World}{K:W.Frag}{mg:Str->Option Value}{base:Heap}{A:Around}{outer:List Env}{s:Shared}{H:Hp}(e:Env0 P w K mg base A outer s H)(C:Addr)(us:List Value)(kw:List (Str × Value)) :
 Env0 P w K mg base (A.under (.builtin "type.__call__" ⟨.ref C::us,kw⟩)) outer s H:=⟨by first|exact e.frames|(simpa[Around.under,Code.envs,Code.isFrame,pushEnvs] using e.frames),e.mod,e.bs,e.bsz,e.funs,e.frf,e.hok,e.bare⟩
theorem Env0.in1 {P:Program}{w:World}{K:W.Frag}{mg:Str->Option Value}{base:Heap}{A:Around}{outer:List Env}{s:Shared}{H:Hp}(e:Env0 P w K mg base A outer s H) :
 Env0 P w K mg base A.in1 outer s H:=⟨e.frames,e.mod,e.bs,e.bsz,e.funs,e.frf,e.hok,e.bare⟩
section
variable {X:Cx} {pins:List (Addr × Obj)} {σ:St} {H:Hp} {s s':Shared}
theorem Inv.env0 (I:Inv X pins σ H s):Env0 X.prog X.w X.K X.mg X.base X.A X.stack s H:=
 ⟨I.ok.frames,I.ok.mod,I.bs,Nat.le_trans I.ok.bsz I.sz,I.stack,I.stkFree,I.hok,I.bare⟩
theorem Inv.after {Q:VK}{u:Value}(I:Inv X pins σ H s)(h:CE X.stack X.prog X.w H s Q u s'):EP X pins σ Q u s':=by
 obtain⟨v,H',os,bare,un,hok,r,q⟩:=h
 obtain⟨hh,g,d,t,os'⟩:=s'
 obtain rfl:os'=s.os:=os
 exact⟨v,H',I.call (h':=hh) (g':=g) (d':=d) (t':=t) (ch:=[]) un hok bare (fun b z=>absurd z (by simp)),r,q⟩
end
noncomputable def zdu (sp:Sp)(dvs:List V)(E:XK)(t:TA):TE:=fun σ H Q=>t σ H fun vs H1=>sp (vs++dvs) H1 Q E
noncomputable def zll (C:Addr)(sp:Sp)(dvs:List V)(E:XK)(t:TA):TE:=fun σ H Q=>t σ H fun vs H1=>∀x dx,H1 x=none->H1 dx=none->dx≠x->
 sp (.ref x::(vs++dvs)) (upd (upd H1 dx (.own x)) x (.ins C dx [])) (fun v H2=>v=.non/\Q (.ref x) H2) E
noncomputable def Binds (K:W.Frag)(fd:FuncData)(ps:List Str)(ds:List Value):Prop:=
 ∀(s:Shared) (us:List Value),K.In s.heap->(us++ds).length=ps.length->BindsTo s fd ⟨us,[]⟩ (ps.zip (us++ds))
theorem Binds.all {K:W.Frag}{fd:FuncData}{ps:List Str}(h:∀us:List Value,us.length=ps.length->bindArgs fd ⟨us,[]⟩=pure (ps.zip us)):Binds K fd ps []:=fun s us _ hl=>by
 rw[List.append_nil] at hl⊢
 exact .of_eq (h us hl)
noncomputable def zds (CX:CXT)(X:Cx)(E:XK):Prop:=∀(pins:List (Addr × Obj)) (σ:St) (H:Hp) (s:Shared) (e:Value) (s':Shared),Inv X pins σ H s->CX X.stack H s E e s'->X.xe e s'
section
variable {X:Cx} {CX:CXT} {k:Nat} {f C:Addr} {fd:FuncData} {ps:List Str} {sp:Sp} {dvs:List V} {ds:List Value} {E:XK} {x m:Str} {p pos apos:Pos} {e o:Expr} {es:List Expr} {ta:TE} {t:TA}
theorem zeD {pins:List (Addr × Obj)}{σ:St}{H:Hp}{s:Shared}{Q:VK}{us:List Value}{vs:List V}(F:FnOk X.prog X.w X.K X.mg X.base CX k f fd ps sp)(hr:Room k X.A)(hb:Binds X.K fd ps ds)(hd:Vals dvs ds)(hx:zds CX X E)
  (I:Inv X pins σ H s) (r:Vals vs us) (h:sp (vs++dvs) H Q E):wpAny (model X.prog X.w) X.A (call (.ref f) us) (EP X pins σ Q) X.xe s:=by
 have r2:Vals (vs++dvs) (us++ds):=r.append hd
 have hl:(us++ds).length=ps.length:=by rw[<-r2.length];exact F.len _ _ _ _ h
 refine wpAny_call (codeAny_mono (F.run X.A X.stack s H ⟨us,[]⟩ (us++ds) (vs++dvs) Q E hr I.env0 (hb s us I.kIn hl) r2 h) fun r s' hq=>?_)
 cases r with
 |error e=>exact hx pins σ H s e s' I hq
 | ok fl =>
   cases fl with
   |ret u=>exact I.after hq
   |next=>exact False.elim hq
   |brk=>exact False.elim hq
   |cont=>exact False.elim hq
theorem zma (F:FnOk X.prog X.w X.K X.mg X.base CX k f fd ps sp)(hr:Room k X.A)(hg:Gl X x)(hm:X.mg x=some (.ref f))(hk:W.keepIn X.K (.ref f)=true)(hb:Binds X.K fd ps ds)(hd:Vals dvs ds)(hx:zds CX X E)
  (ha:PA X (e::es) t) (hdb:(x == ("__debug__":Str))=false:=by decide) (he:starEach (e::es) X.env=(false,eval e X.env)::starEach es X.env:=by rfl) (hpl:(backTo pos (starEach es X.env)).any (·.1)=false:=by rfl) :
  PE X (.Call (.Name x p) (e::es) [] pos) (zdu sp dvs E t):=by
 intro pins s σ H Q I h
 refine wpAny_Call_Name_kw (zda I hg hm ?_ hdb)
 refine W.callWith_K (h₀:=X.base) I.ok.mod.kin hk (thn (ha pos pins s σ H _ I h) fun us s1 ⟨vs,H1,I1,r,q⟩=>⟨I1.kIn,?_⟩) he hpl
 exact zeD F hr hb hd hx I1 r q
theorem zjK (F:FnOk X.prog X.w X.K X.mg X.base CX k f fd ps sp)(hr:Room k X.A)(hg:Gl X x)(hm:X.mg x=some (.ref f))(hk:W.keepIn X.K (.ref f)=true)(hb:Binds X.K fd ps ds)(hd:Vals dvs ds)(hx:zds CX X E)
  (hdb:(x == ("__debug__":Str))=false:=by decide):PE X (.Call (.Name x p) [] [] pos) (zdu sp dvs E tNil):=by
 intro pins s σ H Q I h
 refine wpAny_Call_Name_kw (zda I hg hm ?_ hdb)
 exact W.callWith_K0 I.kIn hk (zeD (us:=[]) F hr hb hd hx I .nil h)
structure Mk (K:W.Frag) (C f:Addr):Prop where
 makes:W.makesIn K C=true
 init:W.findIn K (.ref C) "__init__"=some (some (.ref f))
 fn:W.isFn K (.ref f)=true
 kp:W.keepIn K (.ref C)=true
theorem zf8 {pins:List (Addr × Obj)}{σ:St}{H:Hp}{s:Shared}{Q:VK}{us:List Value}{vs:List V}(M:Mk X.K C f)(F:FnOk X.prog X.w X.K X.mg X.base CX k f fd ps sp)(hr:Room (k+1) X.A)(hb:Binds X.K fd ps ds)(hd:Vals dvs ds)
  (hx:zds CX X E) (I:Inv X pins σ H s) (r:Vals vs us)
  (h:∀x dx,H x=none->H dx=none->dx≠x->sp (.ref x::(vs++dvs)) (upd (upd H dx (.own x)) x (.ins C dx [])) (fun v H2=>v=.non/\Q (.ref x) H2) E) :
  wpAny (model X.prog X.w) X.A (call (.ref C) us) (EP X pins σ Q) X.xe s:=by
 have hq:=h (s.heap.objs.size+1) s.heap.objs.size (I.hok.fresh (Nat.le_succ _)) (I.hok.fresh (Nat.le_refl _)) (Nat.ne_of_lt (Nat.lt_succ_self _))
 have I2:=Inv.made (C:=C) I
 have r2:Vals (V.ref (s.heap.objs.size+1)::(vs++dvs)) (Value.ref (s.heap.objs.size+1)::(us++ds)):=.cons rfl (r.append hd)
 have hl:(Value.ref (s.heap.objs.size+1)::us++ds).length=ps.length:=by
  have e:=r2.length
  rw[F.len _ _ _ _ hq] at e
  exact e.symm
 refine wpAny_call (zjP (f:=f) I.kIn M.makes M.init (beq_iff_eq.mp M.fn) (codeAny_mono (F.run _ X.stack _ _ ⟨Value.ref (s.heap.objs.size+1)::us,[]⟩ (Value.ref (s.heap.objs.size+1)::(us++ds)) _ _ E (hr.make C us [])
  (I2.env0.make C us []) (hb _ (Value.ref (s.heap.objs.size+1)::us) I2.kIn hl) r2 hq) fun r s' hq'=>?_))
 cases r with
 |error e=>exact hx pins σ _ _ e s' I2 hq'
 | ok fl =>
   cases fl with
   | ret u =>
     obtain⟨v,H',I3,rv,ev,q3⟩:=I2.after hq'
     subst ev
     exact⟨rv,⟨V.ref (s.heap.objs.size+1),H',I3,rfl,q3⟩⟩
   |next=>exact False.elim hq'
   |brk=>exact False.elim hq'
   |cont=>exact False.elim hq'
theorem zl7 (M:Mk X.K C f)(F:FnOk X.prog X.w X.K X.mg X.base CX k f fd ps sp)(hr:Room (k+1) X.A)(hg:Gl X x)(hm:X.mg x=some (.ref C))(hb:Binds X.K fd ps ds)(hd:Vals dvs ds)(hx:zds CX X E)
  (ha:PA X (e::es) t) (hdb:(x == ("__debug__":Str))=false:=by decide) (he:starEach (e::es) X.env=(false,eval e X.env)::starEach es X.env:=by rfl) (hpl:(backTo pos (starEach es X.env)).any (·.1)=false:=by rfl) :
  PE X (.Call (.Name x p) (e::es) [] pos) (zll C sp dvs E t):=by
 intro pins s σ H Q I h
 refine wpAny_Call_Name_kw (zda I hg hm ?_ hdb)
 refine W.callWith_K (h₀:=X.base) I.ok.mod.kin M.kp (thn (ha pos pins s σ H _ I h) fun us s1 ⟨vs,H1,I1,r,q⟩=>⟨I1.kIn,?_⟩) he hpl
 exact zf8 M F hr hb hd hx I1 r q
theorem zjB (M:Mk X.K C f)(F:FnOk X.prog X.w X.K X.mg X.base CX k f fd ps sp)(hr:Room (k+1) X.A)(hg:Gl X x)(hm:X.mg x=some (.ref C))(hb:Binds X.K fd ps ds)(hd:Vals dvs ds)(hx:zds CX X E)
  (hdb:(x == ("__debug__":Str))=false:=by decide):PE X (.Call (.Name x p) [] [] pos) (zll C sp dvs E tNil):=by
 intro pins s σ H Q I h
 refine wpAny_Call_Name_kw (zda I hg hm ?_ hdb)
 exact W.callWith_K0 I.kIn M.kp (zf8 (us:=[]) M F hr hb hd hx I .nil h)
end
noncomputable def PK (X:Cx)(kws:List Keyword)(t:TA):Prop:=
 ∀(pos:Pos) (pins:List (Addr × Obj)) (s:Shared) (σ:St) (H:Hp) (Q:List V->Hp->Prop),Inv X pins σ H s->t σ H Q->wpAny (model X.prog X.w) X.A (evalAll ((backToKw pos (keywordEach kws X.env)).map (·.2))) (AP X pins σ Q) X.xe s
section
variable {X:Cx} {CX:CXT} {k:Nat} {f C:Addr} {fd:FuncData} {ps ks:List Str} {sp:Sp} {E:XK} {x m:Str} {p pos apos kpos:Pos} {e o:Expr} {es:List Expr} {kws:List Keyword} {te ta:TE} {t tk:TA} {nm:Option Str}
theorem zof:PK X [] tNil:=fun _ _ _ _ H Q I h=>wpAny_evalAll_nil ⟨[],H,I,.nil,h⟩
theorem zl4 (ha:PE X e te)(hr:PK X kws t):PK X (⟨nm,e,kpos⟩::kws) (zey te t):=by
 intro pos pins s σ H Q I h
 show wpAny _ _ (evalAll ((do let v <-eval e X.env;standAt pos;pure v)::(backToKw pos (keywordEach kws X.env)).map (·.2))) _ _ s
 refine wpAny_evalAll_cons (wpAny_bind (thn (ha pins s σ H _ I h) fun u s1 ⟨x,H1,I1,r1,q1⟩=>wpAny_bind (wpAny_standAt (wpAny_pure ?_))))
 exact thn (hr pos pins s1 σ H1 _ I1 q1) fun us s2 ⟨xs,H2,I2,r2,q2⟩=>⟨x::xs,H2,I2,.cons r1 r2,q2⟩
structure KBinds (K:W.Frag) (fd:FuncData) (ps ks:List Str) (g:List Value->List Value->List Value) (gV:List V->List V->List V):Prop where
 to:∀(s:Shared) (us ws:List Value),K.In s.heap->(g us ws).length=ps.length->BindsTo s fd ⟨us,ks.zip ws⟩ (ps.zip (g us ws))
 rel:∀{vs:List V} {us:List Value} {zs:List V} {ws:List Value},Vals vs us->Vals zs ws->Vals (gV vs zs) (g us ws)
variable {g:List Value->List Value->List Value} {gV:List V->List V->List V}
end
structure FnScope (N P:List Str) (sc:Scope):Prop where
 kind:sc.kind=.function
 co:sc.isCoroutine=false
 gen:sc.isGenerator=false
 nd:N.Nodup
 pre:N.take P.length=P
 par:∀x∈P,sc.names.lookup x=some .local\/sc.names.lookup x=some .cell
 nofree:∀y∈sc.names,y.2≠.free
theorem ze6 {kindOf:Str->Option NameKind}{x:Str}:∀{binds:List (Str × Value)} {m:Str->Option Value},(∀v,(x,v)∉binds)->bindL kindOf binds m x=m x
 | [],_,_=>rfl
 | (n, v) :: r, m, h => by
   unfold bindL
   rw[ze6 fun w hw=>h w (List.mem_cons_of_mem _ hw)]
   split
   · have:x≠n:=by rintro rfl;exact h v List.mem_cons_self
     simp[this]
   · rfl
theorem ze8 {kindOf:Str->Option NameKind}{x:Str}:∀{binds:List (Str × Value)} {m:Str->Option Value},(∀v,(x,v)∉binds)->bindC kindOf binds m x=m x
 | [],_,_=>rfl
 | (n, v) :: r, m, h => by
   unfold bindC
   rw[ze8 fun w hw=>h w (List.mem_cons_of_mem _ hw)]
   split
   · rfl
   · have:x≠n:=by rintro rfl;exact h v List.mem_cons_self
     simp[this]
theorem ze7 {kindOf:Str->Option NameKind}{x:Str}{v:Value}:∀{P:List Str} {vs:List Value} {i:Nat} {m:Str->Option Value},P.Nodup->P[i]?=some x->vs[i]?=some v->kindOf x=some .local->
  bindL kindOf (P.zip vs) m x=some v
 | [],_,_,_,_,h,_,_=>by simp at h
 |_::_,[],_,_,_,_,h,_=>by simp at h
 | p :: P, w :: vs, 0, m, nd, h1, h2, hk => by
   simp at h1 h2;subst h1;subst h2
   show bindL kindOf ((p,w)::P.zip vs) m p=_
   unfold bindL
   rw[ze6 fun v hv=>(List.nodup_cons.mp nd).1 (List.of_mem_zip hv).1,if_pos hk]
   simp
 | p :: P, w :: vs, i + 1, m, nd, h1, h2, hk => by
   show bindL kindOf ((p,w)::P.zip vs) m x=_
   unfold bindL
   exact ze7 (i:=i) (List.nodup_cons.mp nd).2 (by simpa using h1) (by simpa using h2) hk
theorem ze9 {kindOf:Str->Option NameKind}{x:Str}{v:Value}:∀{P:List Str} {vs:List Value} {i:Nat} {m:Str->Option Value},P.Nodup->P[i]?=some x->vs[i]?=some v->kindOf x≠some .local->
  bindC kindOf (P.zip vs) m x=some v
 | [],_,_,_,_,h,_,_=>by simp at h
 |_::_,[],_,_,_,_,h,_=>by simp at h
 | p :: P, w :: vs, 0, m, nd, h1, h2, hk => by
   simp at h1 h2;subst h1;subst h2
   show bindC kindOf ((p,w)::P.zip vs) m p=_
   unfold bindC
   rw[ze8 fun v hv=>(List.nodup_cons.mp nd).1 (List.of_mem_zip hv).1,if_neg hk]
   simp
 | p :: P, w :: vs, i + 1, m, nd, h1, h2, hk => by
   show bindC kindOf ((p,w)::P.zip vs) m x=_
   unfold bindC
   exact ze9 (i:=i) (List.nodup_cons.mp nd).2 (by simpa using h1) (by simpa using h2) hk
noncomputable def start (N:List Str)(vs:List V):St:=vs.map some++List.replicate (N.length - vs.length) none
noncomputable def cxOf (CX:CXT)(P:Program)(w:World)(K:W.Frag)(mg:Str->Option Value)(base:Heap)(N:List Str)(qual:Str)(scope:Scope)(f:Addr)(cd:Value)(A:Around)(outer:List Env)(s:Shared)(H:Hp)(E:XK):Cx where
 prog:=P
 w:=w
 K:=K
 mg:=mg
 base:=base
 A:=A.deeper (envOfC qual scope s.heap.objs.size f cd)
 N:=N
 s₀:=s
 H₀:=H
 env:=envOfC qual scope s.heap.objs.size f cd
 outer:=outer
 stack:=envOfC qual scope s.heap.objs.size f cd::outer
 ex:=[]
 calm:=true
 fn:=fun _=>true
 pn:=[]
 xe:=fun e s'=>wpAny (model P w) (A.deeper (envOfC qual scope s.heap.objs.size f cd)) (leaving (envOfC qual scope s.heap.objs.size f cd) e) (fun _ s''=>CX outer H s E e s'') (fun e' s''=>CX outer H s E e' s'') s'
theorem zgC {sc:Scope}{n:Nat}{x:Str}(h:sc.names.lookup x=some .cell):∃c,(cellsFrom n sc.names []).lookup x=some c:=by
 have q:=W.cellsFrom_some sc.names n [] (.inl h)
 exact Option.isSome_iff_exists.mp q
theorem zdc {CX:CXT}{P:Program}{w:World}{K:W.Frag}{mg:Str->Option Value}{base:Heap}{N ps:List Str}{qual:Str}{scope:Scope}{f:Addr}{cd:Value}{A:Around}{outer:List Env}{s s1:Shared}{H:Hp}{E:XK}{us:List Value}{vs:List V}
  (S:FnScope N ps scope) (hd:A.handled=none) (e0:Env0 P w K mg base A outer s H) (hl:vs.length=ps.length) (r:Vals vs us)
  (x:InCallC s s.heap.objs.size (bindL (envOfC qual scope s.heap.objs.size f cd).kindOf (ps.zip us) fun _=>none) (cellsFrom (s.heap.objs.size+1) scope.names []) (bindC (envOfC qual scope s.heap.objs.size f cd).kindOf (ps.zip us) fun _=>none) s1) :
  Inv (cxOf CX P w K mg base N qual scope f cd A outer s H E) [] (start N vs) H s1:=by
 have hpl:ps.length<=N.length:=by have:=congrArg List.length S.pre;rw[List.length_take] at this;omega
 obtain⟨h1,tk,rfl,hk⟩:=x.done
 have noA:∀b:Addr,b∉(cxOf CX P w K mg base N qual scope f cd A outer s H E).ex:=fun b z=>absurd (show b∈([]:List Addr) from z) (by simp)
 refine⟨⟨e0.mod,S.kind,rfl,rfl,Nat.le_refl _,fun y z c h1 h2=>?_,fun y hy=>?_,fun y c _ h=>?_,fun _=>hd,Around.frames_deeper e0.frames,.inr ⟨rfl,rfl⟩,fun b z=>absurd z (noA b),e0.bs,e0.bsz,fun b _ _=>noA b,fun b z=>absurd z (noA b),e0.funs,e0.frf⟩,
  rfl,e0.bare,Un.kept hk,⟨_,x.toInCall.ns,fun i y v h1 h2 h3=>?_⟩,fun y c h=>⟨_,x.cell y c h⟩,e0.hok.fresh (Nat.le_refl _),fun y c h=>?_,fun p hp=>absurd (show p∈([]:List (Addr × Obj)) from hp) (by simp),e0.hok.kept hk,?_⟩
 · exact name_of_addr x.apart (PySem.mem_of_lookup h1) (PySem.mem_of_lookup h2)
 · have hy:scope.names.lookup y=some .cell\/scope.names.lookup y=some .free:=hy
   rcases hy with hy|hy
   · exact zgC hy
   · exact absurd rfl (S.nofree _ (PySem.mem_of_lookup hy))
 · exact Nat.le_of_lt (x.above y c (PySem.mem_of_lookup h))
 · have hi:i<vs.length:=by
    unfold start at h2
    by_cases hi:i<vs.length
    · exact hi
    · rw[List.getElem?_append_right (by simpa using hi)] at h2
      rw[List.getElem?_replicate] at h2
      split at h2<;>cases h2
   have ha:vs[i]?=some v:=by
    unfold start at h2
    rw[List.getElem?_append_left (by simpa using hi),List.getElem?_map] at h2
    cases e:vs[i]? with
    |none=>rw[e] at h2;cases h2
    |some a=>rw[e] at h2;cases h2;rfl
   obtain⟨u,hu,rv⟩:=r.get ha
   have hp:ps[i]?=some y:=by
    rw[<-S.pre,List.getElem?_take_of_lt (by omega)];exact h1
   have ndP:ps.Nodup:=by rw[<-S.pre];exact S.nd.sublist (List.take_sublist _ _)
   refine⟨u,rv,?_⟩
   rcases S.par y (List.mem_of_getElem? hp) with k|k
   · exact .inl ⟨k,ze7 ndP hp hu k⟩
   · obtain⟨c,e⟩:=zgC (n:=s.heap.objs.size+1) k
     refine .inr ⟨.inl k,c,e,?_⟩
     have q:=x.cell y c e
     rw[ze9 ndP hp hu (by show scope.names.lookup y≠_;rw[k];decide)] at q
     exact q
 · exact e0.hok.fresh (Nat.le_of_lt (x.above y c (PySem.mem_of_lookup h)))
 · unfold start
   show _=N.length
   rw[List.length_append,List.length_map,List.length_replicate]
   omega
theorem zoU {CX:CXT}{P:Program}{w:World}{K:W.Frag}{mg:Str->Option Value}{base:Heap}{k:Nat}{f:Addr}{name qual:Str}{params:Arguments}{body:List Stmt}{scope:Scope}{dV kV doc pm cdv ct oc:Value}{an od:Option Addr}
  {osl:Array (Option Value)} {N ps:List Str} {sp:Sp} (lk:K.lookup f=some ⟨oc,od,.func (W.fnOf name qual params body scope dV kV doc pm an cdv ct),osl⟩) (hcd:W.codeIn K cdv qual=true) (S:FnScope N ps scope)
  (len:∀vs H Q E,sp vs H Q E->vs.length=ps.length)
  (hbody:∀(A:Around) (outer:List Env) (s:Shared) (H:Hp) (vs:List V) (Q:VK) (E:XK),Room k (A.deeper (envOfC qual scope s.heap.objs.size f cdv))->sp vs H Q E->
   ∃t,PSs (cxOf CX P w K mg base N qual scope f cdv A outer s H E) body t/\t {nx:=fun _ H'=>Q .non H',rt:=Q} (start N vs) H) :
  FnOk P w K mg base CX (k+1) f (W.fnOf name qual params body scope dV kV doc pm an cdv ct) ps sp:=by
 refine⟨len,fun A outer s H args us vs Q E hr e0 hb r hsp=>?_⟩
 have hl:=len _ _ _ _ hsp
 have KX:K.In s.heap:=e0.mod.kin.keeps fun b o e=>(e0.bs b o e).1
 have lim:s.heap.NoLimit:=e0.mod.nolimit.keeps fun b o e=>(e0.bs b o e).1
 have hkind:∀y∈ps.zip us,scope.names.lookup y.1=some .local\/(scope.names.lookup y.1=some .cell/\((cellsFrom (s.heap.objs.size+1) scope.names []).lookup y.1).isSome=true):=fun⟨n,v⟩ hy=>by
  rcases S.par n (List.of_mem_zip hy).1 with q|q
  · exact .inl q
  · exact .inr ⟨q,W.cellsFrom_some _ _ _ (.inl q)⟩
 refine codeAny_call_function hr.depth (KX _ _ lk) rfl S.co S.gen rfl (W.codeRec_of KX hcd) (hb _ _ _ _ ?_)
 refine wpAny_newFunctionEnv_cells S.kind hkind fun env he s1 x=>?_
 subst he
 refine⟨lim.keeps x.toInCall.keep,codeAny_func ?_⟩
 obtain⟨t,ht,hq⟩:=hbody A outer s H vs Q E (hr.deeper _) hsp
 have I:Inv (cxOf CX P w K mg base N qual scope f cdv A outer s H E) [] (start N vs) H s1:=zdc S hr.hd e0 hl r x
 refine wpAny_mono (ht [] s1 (start N vs) H _ I hq) (fun fl s' hs=>?_) fun e s' hs=>hs
 have fin:∀{σ':St} {H':Hp} {v:V} {u:Value},Inv (cxOf CX P w K mg base N qual scope f cdv A outer s H E) [] σ' H' s'->RelV v u->Q v H'->CE outer P w H s Q u s':=
  fun {σ' H' v u} J rv q=>⟨v,H',J.os,J.bare,J.base,J.hok,rv,q⟩
 cases fl with
 | ret u =>
   obtain⟨v,σ',H',J,rv,q⟩:=hs
   exact fin J rv q
 | next =>
   obtain⟨σ',H',J,q⟩:=hs
   exact fin (v:=V.non) (u:=Value.none) J rfl q
 | brk =>
   obtain⟨_,_,_,q⟩:=hs
   exact False.elim q
 | cont =>
   obtain⟨_,_,_,q⟩:=hs
   exact False.elim q
end L2
namespace L2
open PySem PySem.Spec PyProof.Rows
section
variable {X:Cx} {x:Str} {p pos:Pos} {e:Expr} {es:List Expr} {t:TA} {id T:String} {r:List V->Hp->VK->Prop}
noncomputable def tCB (r:List V->Hp->VK->Prop)(t:TA):TE:=fun σ H Q=>t σ H fun vs H1=>r vs H1 Q
theorem zeg (hc:zcc X (.builtin id) r)(hg:Gl X x)(hm:X.mg x=none)(hv:bootBuiltins x=some (.builtin id))(ha:PA X (e::es) t)(hn:x≠"__name__":=by decide)(hdb:(x == ("__debug__":Str))=false:=by decide)
  (he:starEach (e::es) X.env=(false,eval e X.env)::starEach es X.env:=by rfl) (hpl:(backTo pos (starEach es X.env)).any (·.1)=false:=by rfl):PE X (.Call (.Name x p) (e::es) [] pos) (tCB r t):=by
 intro pins s σ H Q I h
 refine wpAny_Call_Name_kw (zdJ I hg hm hv ?_ hn hdb)
 exact PyProof.Rows.callWith_builtin1 (thn (ha pos pins s σ H _ I h) fun us s1 ⟨vs,H1,I1,r1,q1⟩=>hc pins s1 σ H1 vs us Q I1 r1 q1) he hpl
theorem zci (hc:zcc X (.type T) r)(hg:Gl X x)(hm:X.mg x=none)(hv:bootBuiltins x=some (.type T))(ha:PA X (e::es) t)(hn:x≠"__name__":=by decide)(hdb:(x == ("__debug__":Str))=false:=by decide)
  (he:starEach (e::es) X.env=(false,eval e X.env)::starEach es X.env:=by rfl) (hpl:(backTo pos (starEach es X.env)).any (·.1)=false:=by rfl):PE X (.Call (.Name x p) (e::es) [] pos) (tCB r t):=by
 intro pins s σ H Q I h
 refine wpAny_Call_Name_kw (zdJ I hg hm hv ?_ hn hdb)
 exact PyProof.Rows.callWith_type1 (thn (ha pos pins s σ H _ I h) fun us s1 ⟨vs,H1,I1,r1,q1⟩=>hc pins s1 σ H1 vs us Q I1 r1 q1) he hpl
end
end L2
namespace L2
open PySem PySem.Spec PyProof.Rows
section
variable {κ:Type} [DecidableEq κ]
noncomputable def valV (kvs:List (κ × V))(k:κ):Option V:=(kvs.find? fun kv=>decide (kv.1=k)).map (·.2)
noncomputable def putK (kvs:List (κ × V))(k:κ)(v:V):List (κ × V):=
 if (kvs.any fun kv=>decide (kv.1=k))=true then kvs.map (fun kv=>if kv.1=k then (kv.1,v) else kv) else kvs++[(k,v)]
theorem zd0 {p:κ × V}{r:List (κ × V)}{k:κ}(e:p.1=k):valV (p::r) k=some p.2:=by simp[valV,List.find?_cons,e]
theorem zd1 {p:κ × V}{r:List (κ × V)}{k:κ}(e:¬p.1=k):valV (p::r) k=valV r k:=by simp[valV,List.find?_cons,e]
theorem zf1 (k:κ):∀kvs:List (κ × V),(kvs.any fun kv=>decide (kv.1=k))=(valV kvs k).isSome
 | []=>rfl
 | p :: r => by
   rw[List.any_cons]
   by_cases e:p.1=k
   · simp only[zd0 e,decide_eq_true e,Bool.true_or,Option.isSome_some]
   · rw[zd1 e,decide_eq_false e,Bool.false_or];exact zf1 k r
theorem zc7 (kvs:List (κ × V))(k:κ)(v:V):(putK kvs k v).length<=kvs.length+1:=by
 unfold putK
 split
 · rw[List.length_map];omega
 · rw[List.length_append,List.length_cons,List.length_nil];omega
theorem RelO.isSome_eq {o:Option V}{u:Option Value}(r:RelO o u):o.isSome=u.isSome:=by
 cases o with
 | none => cases u with
   |none=>rfl
   |some _=>exact (show False from r).elim
 | some _ => cases u with
   |none=>exact (show False from r).elim
   |some _=>rfl
theorem RelO.getD {o:Option V}{u:Option Value}{d:V}{d':Value}(r:RelO o u)(rd:RelV d d'):RelV (o.getD d) (u.getD d'):=by
 cases o with
 | none => cases u with
   |none=>exact rd
   |some _=>exact (show False from r).elim
 | some _ => cases u with
   |none=>exact (show False from r).elim
   |some _=>exact r
theorem KV.val {kvs:List (κ × V)}{vs:List (κ × Value)}(r:KV kvs vs)(k:κ):RelO (valV kvs k) (valueAt vs k):=by
 unfold KV at r
 induction r with
 |nil=>exact True.intro
 | @cons p q ps qs h t ih =>
   obtain⟨h1,h2⟩:=h
   by_cases e:p.1=k
   · have e':q.1=k:=h1.symm.trans e
     have b:valueAt (q::qs) k=some q.2:=by simp[valueAt,List.find?_cons,e']
     rw[zd0 e,b];exact h2
   · have e':¬q.1=k:=fun z=>e (h1.trans z)
     have b:valueAt (q::qs) k=valueAt qs k:=by simp[valueAt,List.find?_cons,e']
     rw[zd1 e,b];exact ih
theorem KV.any {kvs:List (κ × V)}{vs:List (κ × Value)}(r:KV kvs vs)(k:κ):(kvs.any fun kv=>decide (kv.1=k))=vs.any fun kv=>decide (kv.1=k):=by
 unfold KV at r
 induction r with
 |nil=>rfl
 |cons h t ih=>rw[List.any_cons,List.any_cons,ih,h.1]
theorem KV.repl {kvs:List (κ × V)}{vs:List (κ × Value)}(r:KV kvs vs)(k:κ){y:V}{u:Value}(ry:RelV y u) :
  KV (kvs.map fun kv=>if kv.1=k then (kv.1,y) else kv) (vs.map fun kv=>if kv.1=k then (kv.1,u) else kv):=by
 unfold KV at r⊢
 induction r with
 |nil=>exact .nil
 | @cons p q ps qs h t ih =>
   rw[List.map_cons,List.map_cons]
   refine .cons ?_ ih
   obtain⟨h1,h2⟩:=h
   by_cases e:p.1=k
   · rw[if_pos e,if_pos (h1.symm.trans e)];exact⟨h1,ry⟩
   · rw[if_neg e,if_neg (fun z=>e (h1.trans z))];exact⟨h1,h2⟩
theorem KV.put {kvs:List (κ × V)}{vs:List (κ × Value)}(r:KV kvs vs)(k:κ){y:V}{u:Value}(ry:RelV y u):KV (putK kvs k y) (stored vs k u):=by
 unfold putK stored
 rw[r.any k]
 by_cases e:(vs.any fun kv=>decide (kv.1=k))=true
 · rw[if_pos e,if_pos e];exact r.repl k ry
 · rw[if_neg e,if_neg e];exact Paired.snoc r ⟨rfl,ry⟩
theorem KV.length {kvs:List (κ × V)}{vs:List (κ × Value)}(r:KV kvs vs):kvs.length=vs.length:=Paired.length r
end
theorem zms {P:Program}{w:World}{k:Key}{u:Value}(r:RelV (kV k) u):(zap P w).is k u=true:=by
 cases k with
 |inl i=>obtain⟨t,e⟩:=(show ∃t,u=Value.int i t from r);subst e;exact zfF P w i t
 |inr x=>obtain⟨t,e⟩:=(show ∃t,u=Value.str x t from r);subst e;exact zfE P w x t
theorem zeX {P:Program}{w:World}:∀{ks:List Key} {us:List Value},Vals (ks.map kV) us->ItemsAre (zap P w) ks us
 | [],_,r=>by rw[List.map_nil] at r;cases r;exact .nil
 | k :: ks, _, r => by
   rw[List.map_cons] at r
   cases r with
   |cons h t=>exact .cons (zms h) (zeX t)
noncomputable abbrev KT (H:Hp):List (List Key × V)->List (List Key × Addr × Value)->Prop:=Paired fun p q=>p.1=q.1/\H q.2.1=some (.tup (p.1.map kV))/\RelV p.2 q.2.2
theorem KT.val {H:Hp}{kvs:List (List Key × V)}{xs:List (List Key × Addr × Value)}(r:KT H kvs xs)(k:List Key):RelO (valV kvs k) ((atKey xs k).map (·.2)):=by
 induction r with
 |nil=>exact True.intro
 | @cons p q ps qs h t ih =>
   obtain⟨h1,_,h2⟩:=h
   by_cases e:p.1=k
   · have e':q.1=k:=h1.symm.trans e
     have b:atKey (q::qs) k=some q.2:=by simp[atKey,List.find?_cons,e']
     rw[zd0 e,b];exact h2
   · have e':¬q.1=k:=fun z=>e (h1.trans z)
     have b:atKey (q::qs) k=atKey qs k:=by simp[atKey,List.find?_cons,e']
     rw[zd1 e,b];exact ih
theorem KT.repl {H:Hp}{kvs:List (List Key × V)}{xs:List (List Key × Addr × Value)}(r:KT H kvs xs)(k:List Key){y:V}{u:Value}(ry:RelV y u) :
  KT H (kvs.map fun kv=>if kv.1=k then (kv.1,y) else kv) (xs.map (putAt k u)):=by
 induction r with
 |nil=>exact .nil
 | @cons p q ps qs h t ih =>
   rw[List.map_cons,List.map_cons]
   refine .cons ?_ ih
   obtain⟨h1,h2,h3⟩:=h
   unfold putAt
   by_cases e:p.1=k
   · rw[if_pos e,if_pos (h1.symm.trans e)];exact⟨h1,h2,ry⟩
   · rw[if_neg e,if_neg (fun z=>e (h1.trans z))];exact⟨h1,h2,h3⟩
theorem KT.put {H:Hp}{kvs:List (List Key × V)}{xs:List (List Key × Addr × Value)}(r:KT H kvs xs)(k:List Key){b:Addr}{y:V}{u:Value}(hb:H b=some (.tup (k.map kV)))(ry:RelV y u) :
  KT H (putK kvs k y) (storedH xs k b u):=by
 have e:(kvs.any fun kv=>decide (kv.1=k))=(atKey xs k).isSome:=by
  rw[zf1,(r.val k).isSome_eq,Option.isSome_map]
 unfold putK storedH
 rw[e]
 by_cases q:(atKey xs k).isSome=true
 · rw[if_pos q,if_pos q];exact r.repl k ry
 · rw[if_neg q,if_neg q];exact Paired.snoc r ⟨rfl,hb,ry⟩
theorem KT.keeps {H H':Hp}{kvs:List (List Key × V)}{xs:List (List Key × Addr × Value)}(r:KT H kvs xs)(ht:∀b ys,H b=some (.tup ys)->H' b=some (.tup ys)):KT H' kvs xs:=
 Paired.mapP r fun _ _ z=>⟨z.1,ht _ _ z.2.1,z.2.2⟩
section
variable {P:Program} {w:World} {H:Hp} {h:Heap} {a:Addr}
theorem zn3 {u:HO}(ok:HOk P w H h)(e:Rd H a u):ObjOk P w H h a u:=e.ok ok
theorem zmM {kvs:List (Key × V)}(ok:HOk P w H h)(e:Rd H a (.dK kvs)):kvs.length<=sizeLine/\(a == sysModules)=false/\∃vs,KV kvs vs/\h.DictOf (zap P w) a vs:=
 show ObjOk P w H h a (.dK kvs) from zn3 ok e
theorem zqb {kvs:List (Key × V)}(ok:HOk P w H h)(e:H a=some (.dK kvs)):kvs.length<=sizeLine/\(a == sysModules)=false/\∃vs,KV kvs vs/\h.DictOf (zap P w) a vs:=zmM ok (.inl e)
theorem zgr {ks:List Key}(ok:HOk P w H h)(e:H a=some (.tup (ks.map kV))):(tupleKind (zap P w)).is h ks a:=by
 obtain⟨_,its,r,o,h1,h2,n,h3⟩:=(show ObjOk P w H h a (.tup (ks.map kV)) from ok a _ e)
 exact⟨o,its.toArray,n,h1,h2,h3,by simpa using zeX r⟩
theorem zmL {kvs:List (List Key × V)}(ok:HOk P w H h)(e:Rd H a (.dT kvs)):kvs.length<=sizeLine/\(a == sysModules)=false/\
  ∃xs,KT H kvs xs/\h.DictOfH (tupleKind (zap P w)) a xs:=by
 obtain⟨z,y,xs,r,o,es,ep,h1,h2,h3,h4,h5⟩:=(show ObjOk P w H h a (.dT kvs) from zn3 ok e)
 refine⟨z,y,xs,r,o,es,ep,h1,h2,h3,h4,fun x hx=>?_,h5⟩
 have all:∀{l:List (List Key × V)} {m:List (List Key × Addr × Value)},KT H l m->∀x∈m,(tupleKind (zap P w)).is h x.1 x.2.1:=by
  intro l m q
  induction q with
  |nil=>intro x hx;exact nomatch hx
  | @cons p q ps qs hq t ih =>
    intro x hx
    rcases List.mem_cons.mp hx with e|hx
    · subst e
      exact zgr ok (by rw[<-hq.1];exact hq.2.1)
    · exact ih x hx
 exact all r x hx
theorem zqa {kvs:List (List Key × V)}(ok:HOk P w H h)(e:H a=some (.dT kvs)):kvs.length<=sizeLine/\(a == sysModules)=false/\
 ∃xs,KT H kvs xs/\h.DictOfH (tupleKind (zap P w)) a xs:=zmL ok (.inl e)
end
noncomputable def DGet (H:Hp)(a:Addr)(y:V)(r:Option V):Prop:=
 (∃kvs k,Rd H a (.dK kvs)/\y=kV k/\r=valV kvs k)\/∃kvs k b,Rd H a (.dT kvs)/\y=.ref b/\H b=some (.tup (k.map kV))/\r=valV kvs k
noncomputable def DPut (H:Hp)(a:Addr)(y v:V)(H':Hp):Prop:=
 (∃kvs k,H a=some (.dK kvs)/\y=kV k/\kvs.length<sizeLine/\H'=upd H a (.dK (putK kvs k v)))\/
 ∃kvs k b,H a=some (.dT kvs)/\y=.ref b/\H b=some (.tup (k.map kV))/\kvs.length<sizeLine/\H'=upd H a (.dT (putK kvs k v))
theorem DGet.k {H:Hp}{a:Addr}{kvs:List (Key × V)}{k:Key}(e:H a=some (.dK kvs)):DGet H a (kV k) (valV kvs k):=.inl ⟨kvs,k,.inl e,rfl,rfl⟩
theorem DPut.k {H:Hp}{a:Addr}{kvs:List (Key × V)}{k:Key}{v:V}(e:H a=some (.dK kvs))(hl:kvs.length<sizeLine):DPut H a (kV k) v (upd H a (.dK (putK kvs k v))):=.inl ⟨kvs,k,e,rfl,hl,rfl⟩
section
variable {X:Cx} {pins:List (Addr × Obj)} {σ:St} {H:Hp} {s:Shared} {a:Addr} {y v:V} {u r:Value} {o:Option V} {A:Around} {E:Value->Shared->Prop}
theorem Inv.big (I:Inv X pins σ H s):sysModules<s.heap.objs.size:=by
 have h:mainGlobals<s.heap.objs.size:=(I.mod.glob.keeps I.bk).lt
 exact Nat.lt_trans (by decide) h
theorem zfQ {h':Heap}{t':Nat}{ob:HO}(I:Inv X pins σ H s)(mu:Mut (H a))(hs:Heap.SameBut a s.heap h')(he:∃q,h'.get? a=some q)(new:ObjOk X.prog X.w (upd H a ob) h' a ob) :
  Inv X pins σ (upd H a ob) {s with heap:=h',toks:=t'}:=
 I.write (x:=a) (e:=a) mu (.inl rfl) (fun b q hb z=>(hs.2 b hb).trans z) he new
theorem zo2 {P:Program}{w:World}{H':Hp}{h':Heap}{kvs:List (Key × V)}{vs:List (Key × Value)}(z:kvs.length<=sizeLine)(hd:(a == sysModules)=false)(rel:KV kvs vs)(dd:h'.DictOf (zap P w) a vs) :
 ObjOk P w H' h' a (.dK kvs):=⟨z,hd,vs,rel,dd⟩
theorem ziM {H':Hp}{Q:Unit->Shared->Prop}(hu:A.units+1<cLine)(I:Inv X pins σ H s)(g:DPut H a y v H')(ry:RelV y u)(rv:RelV v r)(h:∀s',Inv X pins σ H' s'->Q () s') :
  wpAny (model X.prog X.w) A (setItem (.ref a) u r) Q E s:=by
 rcases g with ⟨kvs,k,e,ey,l,eH⟩|⟨kvs,k,b,e,ey,eb,l,eH⟩
 · subst ey eH
   obtain⟨z,hd,vs,rel,dd⟩:=zqb I.hok e
   have hz:vs.length<=sizeLine:=by rw[<-rel.length];exact z
   have hl:(putK kvs k v).length<=sizeLine:=by have:=zc7 kvs k v;omega
   refine wpAny_setItem_pairs (hsz:=hz) (zms ry) dd fun h' dd' hs=>h _ ?_
   have he:∃q,h'.get? a=some q:=let ⟨q,_,_,hq,_⟩:=dd';⟨q,hq⟩
   exact zfQ I (by rw[e];exact True.intro) hs he (zo2 hl hd (rel.put k rv) dd')
 · subst ey eH
   cases (show u=Value.ref b from ry)
   obtain⟨z,hd,xs,rel,dd⟩:=zqa I.hok e
   have hz:xs.length<=sizeLine:=by rw[<-Paired.length rel];exact z
   have hl:(putK kvs k v).length<=sizeLine:=by have:=zc7 kvs k v;omega
   refine wpAny_setItem_heap (hsz:=hz) (tupleKind_room_in1 hu) (zgr I.hok eb) dd fun h' dd' hs=>h _ ?_
   obtain⟨q,es,ep,hq,h2,h3,h4,_,h5⟩:=dd'
   refine zfQ I (by rw[e];exact True.intro) hs ⟨q,hq⟩ ⟨hl,hd,_,(rel.put k eb rv).keeps fun c ys ec=>?_,q,es,ep,hq,h2,h3,h4,h5⟩
   rw[zae (ne_of ec e (fun z=>nomatch z))]
   exact ec
end
section
variable {X:Cx} {pins:List (Addr × Obj)} {σ:St} {H:Hp} {s:Shared} {a:Addr} {kvs:List (Key × V)} {k:Key} {u:Value} {A:Around} {E:Value->Shared->Prop}
end
noncomputable def zn0 (td ty tv:TE):TS:=fun D σ H=>tv σ H fun v H1=>td σ H1 fun x H2=>ty σ H2 fun y H3=>∃a H4,x=.ref a/\DPut H3 a y v H4/\D.nx σ H4
section
variable {X:Cx} {o i e value:Expr} {pos pos' tpos:Pos} {td ty tv:TE}
theorem zl1 (hu:X.A.units+1<cLine)(ho:PE X o td)(hi:PE X i ty)(hv:PE X value tv)(hs:swapsWith value (some (.Subscript o i pos')) pos.line X.env=pure false) :
  PS X (.Assign [.Subscript o i pos'] value pos) (zn0 td ty tv):=by
 intro pins s σ H D I h
 refine wpAny_Assign_Subscript (thn (hv pins s σ H _ I h) fun r s1 ⟨v,H1,I1,rv,q1⟩=>thn (ho pins s1 σ H1 _ I1 q1) fun u s2 ⟨x,H2,I2,rx,q2⟩=>thn (hi pins s2 σ H2 _ I2 q2) fun iv s3 ⟨y,H3,I3,ry,a,H4,ex,g,q3⟩=>?_) hs
 subst ex
 obtain rfl:u=Value.ref a:=rx
 exact ziM hu I3 g ry rv fun s4 I4=>⟨σ,H4,I4,q3⟩
end
theorem zkg {P:Program}{w:World}{H:Hp}(h:Heap)(hb:sysModules<h.objs.size):ObjOk P w H (h.push {cls:=.type "dict",data:=.dict #[]}) h.objs.size (.dK []):=
 ⟨Nat.zero_le _,beq_eq_false_iff_ne.mpr (Ne.symm (Nat.ne_of_lt hb)),[],.nil,Heap.DictOf.new h⟩
noncomputable def zhm:TE:=fun _ H Q=>∀p,H p=none->Q (.ref p) (upd H p (.dK []))
section
variable {X:Cx} {pos:Pos}
theorem zjF:PE X (.Dict [] [] pos) zhm:=fun pins s σ H Q I h=>
 wpAny_Dict_empty ⟨.ref s.heap.objs.size,_,I.laid (a:=s.heap.objs.size) (o:=.dK []) (t':=s.toks) (fun _ _ q=>Heap.get?_push_of_some _ q) (Nat.le_refl _) (zkg s.heap I.big),rfl,h _ (I.hok.fresh (Nat.le_refl _))⟩
end
structure M1 (X:Cx) (o:Expr) (m:Str) (apos:Pos) (e:Expr) (cpos:Pos):Prop where
 base:attributeBase o m X.env (eval o X.env)=eval o X.env
 few:((backTo cpos (starEach [e] X.env)).all (fun x=>!x.1)&&(backToKw cpos (keywordEach [] X.env)).all (fun x=>x.1.isSome)
  && decide (([e]:List Expr).length+([]:List Keyword).length+(if ([]:List Keyword).isEmpty then 0 else 1)<30))=true
 line:(apos.endLine == cpos.line)=true
 trees:backTo cpos (starEach [e] X.env)=[(false,eval e X.env)]
structure M2 (X:Cx) (o:Expr) (m:Str) (apos:Pos) (e f:Expr) (cpos:Pos):Prop where
 base:attributeBase o m X.env (eval o X.env)=eval o X.env
 few:((backTo cpos (starEach [e,f] X.env)).all (fun x=>!x.1)&&(backToKw cpos (keywordEach [] X.env)).all (fun x=>x.1.isSome)
  && decide (([e,f]:List Expr).length+([]:List Keyword).length+(if ([]:List Keyword).isEmpty then 0 else 1)<30))=true
 line:(apos.endLine == cpos.line)=true
 trees:backTo cpos (starEach [e,f] X.env)=[(false,eval e X.env),(false,eval f X.env)]
noncomputable def IsD (H:Hp)(a:Addr):Prop:=(∃kvs,Rd H a (.dK kvs))\/∃kvs,Rd H a (.dT kvs)
theorem zkS {X:Cx}{pins:List (Addr × Obj)}{σ:St}{H:Hp}{s:Shared}{a:Addr}(I:Inv X pins σ H s)(d:IsD H a) :
  s.TypeIs (.ref a) "dict"/\(∀b,Value.ref a=.ref b->∃ob,s.heap.get? b=some ob/\ob.dict=none)/\(a == sysModules)=false:=by
 rcases d with ⟨kvs,e⟩|⟨kvs,e⟩
 · obtain⟨_,hd,vs,_,dd⟩:=zmM I.hok e
   refine⟨dd.typeIs,fun b q=>?_,hd⟩
   cases q
   obtain⟨ob,_,_,h1,h2,_⟩:=dd
   exact⟨ob,h1,h2.2.1⟩
 · obtain⟨_,hd,xs,_,dd⟩:=zmL I.hok e
   refine⟨dd.typeIs,fun b q=>?_,hd⟩
   cases q
   obtain⟨ob,_,_,h1,h2,_⟩:=dd
   exact⟨ob,h1,h2.2.1⟩
section
variable {X:Cx} {pins:List (Addr × Obj)} {σ:St} {H:Hp} {s:Shared} {a:Addr} {y d:V} {u r:Value} {o:Option V} {A:Around} {E:Value->Shared->Prop}
theorem zo3 {Q:Value->Shared->Prop}(hu:A.units+1<cLine)(I:Inv X pins σ H s)(g:DGet H a y o)(ry:RelV y u)(rd:RelV d r)(h:∀w' s',Inv X pins σ H s'->RelV (o.getD d) w'->Q w' s') :
  wpAny (model X.prog X.w) A (call (.builtin "dict.get") [.ref a,u,r]) Q E s:=by
 rcases g with ⟨kvs,k,e,ey,l⟩|⟨kvs,k,b,e,ey,eb,l⟩
 · subst ey
   obtain⟨z,hd,vs,rel,dd⟩:=zmM I.hok e
   refine call_meetsIn PySem.F.slot_dict_get dd.typeIs PySem.F.entry_dict_get (PySem.F.args_dict_get_3 _ _ _) (meets_dict_get_default (zap X.prog X.w) a (zms ry) hd r) ⟨_,dd.mapOf,h _ _ (I.tok _) ?_⟩
   rw[l]
   exact (rel.val k).getD rd
 · subst ey
   cases (show u=Value.ref b from ry)
   obtain⟨z,hd,xs,rel,dd⟩:=zmL I.hok e
   refine call_meetsIn PySem.F.slot_dict_get dd.typeIs PySem.F.entry_dict_get (PySem.F.args_dict_get_3 _ _ _) (meetsH_dict_get_default (tupleKind (zap X.prog X.w)) a b hd r) ⟨tupleKind_room_in1 hu,k,xs,zgr I.hok eb,dd,h _ _ (I.tok _) ?_⟩
   rw[l]
   exact (rel.val k).getD rd
end
noncomputable def zkz (td ty tx:TE):TE:=fun σ H Q=>td σ H fun x H1=>∃a,x=.ref a/\IsD H1 a/\ty σ H1 fun y H2=>tx σ H2 fun z H3=>∃o,DGet H3 a y o/\Q (o.getD z) H3
section
variable {X:Cx} {o e f:Expr} {apos cpos:Pos} {td ty tx:TE}
theorem zjI (hu:X.A.units+1<cLine)(ho:PE X o td)(he:PE X e ty)(hf:PE X f tx)(m:M2 X o "get" apos e f cpos):PE X (.Call (.Attribute o "get" apos) [e,f] [] cpos) (zkz td ty tx):=by
 intro pins s σ H Q I h
 refine wpAny_Call_method m.base m.few m.line PySem.F.plainAttrs_dict PySem.F.slot_dict_get PySem.F.type_dict_get (thn (ho pins s σ H _ I h) fun u s1 ⟨x,H1,I1,rx,a,ex,d,q1⟩=>?_)
 subst ex
 obtain rfl:u=Value.ref a:=rx
 obtain⟨t1,t2,_⟩:=zkS I1 d
 refine⟨t1,t2,?_⟩
 rw[m.trees]
 refine Calls.callWith_builtin rfl (Calls.evalArgs_plain (Calls.spliced_cons (thn (he pins s1 σ H1 _ I1 q1) fun iv s2 ⟨y,H2,I2,ry,q2⟩=>
  Calls.spliced_cons (thn (hf pins s2 σ H2 _ I2 q2) fun fv s3 ⟨z,H3,I3,rz,ov,g,q3⟩=>Calls.spliced_nil ?_))))
 exact zo3 hu I3 g ry rz fun w' s4 I4 rw'=>⟨_,H3,I4,rw',q3⟩
end
section
variable {X:Cx} {pins:List (Addr × Obj)} {σ:St} {H:Hp} {s:Shared} {a:Addr} {kvs:List (Key × V)} {A:Around} {E:Value->Shared->Prop}
end
section
variable {X:Cx} {pins:List (Addr × Obj)} {σ:St} {H:Hp} {s:Shared} {a:Addr} {y:V} {u:Value} {A:Around} {E:Value->Shared->Prop}
end
end L2
namespace HT
open PySem PyProof.Rows
section
open PySem.SeqAt
open PySem.AutoSeq1 (wpAny_loadPart')
open PySem.MeetsSeq PySem.MeetsSeq2 PySem.MeetsSeq3
end
section
variable {prog:Program} {w:World} {A:Around} {E:Value->Shared->Prop} {s:Shared}
theorem cat_tup {t b:Addr}{vs ws:List Value}{Q:Value->Shared->Prop}(ht:IsTup s.heap t vs.toArray)(hb:IsTup s.heap b ws.toArray)(hv:vs≠[])
  (h1:ws=[]->Q (.ref t) s) (h2:ws≠[]->Q (.ref s.heap.objs.size) {s with heap:=s.heap.push {cls:=.type "tuple",data:=.seq (vs++ws).toArray}})
  (hsz:vs.length+ws.length<=sizeLine):wpAny (model prog w) A (binaryOp .Add (.ref t) (.ref b)) Q E s:=by
 obtain⟨⟨cls,dd,data,sl⟩,ho,hc,n,hd⟩:=id ht
 obtain⟨⟨cls2,dd2,data2,sl2⟩,ho2,hc2,n2,hd2⟩:=id hb
 simp only at hc hd hc2 hd2
 subst hc hd hc2 hd2
 have e:vs.toArray++ws.toArray=(vs++ws).toArray:=by simp
 by_cases hw:ws=[]
 · exact concat_meets ⟨_,ho,rfl⟩ ⟨_,ho2,rfl⟩ noFill_tuple_add seq_tuple_add PySem.F.slot_tuple_add PySem.F.entry_tuple_add (PySem.F.args_tuple_add_2 _ _)
    (tuple_addW1 t b vs.toArray ws.toArray n n2 dd dd2 sl sl2 (by simpa using hv) (by simp[hw])) ⟨ho,ho2,h1 hw⟩
 · refine concat_meets ⟨_,ho,rfl⟩ ⟨_,ho2,rfl⟩ noFill_tuple_add seq_tuple_add PySem.F.slot_tuple_add PySem.F.entry_tuple_add (PySem.F.args_tuple_add_2 _ _)
    (tuple_addW2 t b vs.toArray ws.toArray n n2 dd dd2 sl sl2 (by simpa using hv) (by simpa using hw) (by rw[List.size_toArray,List.size_toArray];exact hsz)) ⟨ho,ho2,?_⟩
   rw[e]
   exact h2 hw
noncomputable def sIx (n d:Nat):Option Int->Nat
 |none=>d
 |some v=>if v<0 then (v+(n:Int)).toNat else min v.toNat n
theorem znY (n d:Nat)(hd:d<=n)(o:Option Int):sIx n d o<=n:=by
 cases o with
 |none=>exact hd
 | some v =>
   show (if v<0 then (v+(n:Int)).toNat else min v.toNat n)<=n
   by_cases hv:v<0
   · rw[if_pos hv];omega
   · rw[if_neg hv];exact Nat.min_le_right _ _
theorem ziR (v:Int)(n d:Nat):(if v<0 then max (v+(n:Int)) 0 else min v (n:Int))=((sIx n d (some v):Nat):Int):=by
 show (if v<0 then max (v+(n:Int)) 0 else min v (n:Int))=(((if v<0 then (v+(n:Int)).toNat else min v.toNat n):Nat):Int)
 by_cases hv:v<0
 · simp only[if_pos hv];omega
 · simp only[if_neg hv];omega
theorem zhd (lo hi:Option Int)(n:Nat):Builtin.Slice.sliceAdjust lo hi 1 (n:Int)=(((sIx n 0 lo:Nat):Int),((sIx n n hi:Nat):Int)):=by
 have h1:¬((1:Int)<0):=by omega
 unfold Builtin.Slice.sliceAdjust
 simp only[h1,if_false]
 refine Prod.ext ?_ ?_
 · cases lo with
   |none=>rfl
   |some v=>exact ziR v n 0
 · cases hi with
   |none=>rfl
   |some v=>exact ziR v n n
theorem zgS (i j:Nat):Builtin.Slice.slicePlaces (i:Int) (j:Int) 1=j - i:=by
 unfold Builtin.Slice.slicePlaces
 have h1:(1:Int) > 0:=by omega
 simp only[h1,if_true,Int.ediv_one]
 split<;>omega
theorem zdF {v:Value}{o:Option Int}{Q:Option Int->Shared->Prop}(p:IsPart v o)(h:Q o s):wpAny (model prog w) A (Builtin.Slice.slicePartIndex v) Q E s:=by
 cases p with
 |none=>exact slicePart_none h
 |int i t=>exact slicePart_int h
theorem sliceApplied_gen {sl:Addr}{vl vu:Value}{lo hi:Option Int}{n:Nat}{Q:Int × Int × Nat->Shared->Prop}(hs:s.heap.IsSliceOf sl vl vu .none)(pl:IsPart vl lo)(pu:IsPart vu hi)
  (h:Q (((sIx n 0 lo:Nat):Int),1,sIx n n hi - sIx n 0 lo) s):wpAny (model prog w) A (Builtin.Slice.sliceApplied (.ref sl) (pure (n:Int))) Q E s:=by
 obtain⟨os,hos,hcs,hds⟩:=id hs
 unfold Builtin.Slice.sliceApplied Builtin.Slice.sliceFields
 refine wpAny_bind (wpAny_bind (wpAny_field hos hds (x:=vl) rfl (wpAny_bind (wpAny_field hos hds (x:=vu) rfl (wpAny_bind (wpAny_field hos hds (x:=.none) rfl (wpAny_pure ?_)))))))
 refine wpAny_bind (slicePart_none ?_)
 show wpAny _ _ (if ((1:Int) == 0)=true then _ else _) _ _ s
 rw[if_neg (by decide)]
 refine wpAny_bind (zdF pl (wpAny_bind (zdF pu (wpAny_bind (wpAny_pure ?_)))))
 show wpAny _ _ (match Builtin.Slice.sliceAdjust lo hi 1 (n:Int) with|(lo,hi)=>pure (lo,(1:Int),Builtin.Slice.slicePlaces lo hi 1)) _ _ s
 rw[zhd lo hi n]
 show wpAny _ _ (pure (((sIx n 0 lo:Nat):Int),(1:Int),Builtin.Slice.slicePlaces ((sIx n 0 lo:Nat):Int) ((sIx n n hi:Nat):Int) 1)) _ _ s
 rw[zgS]
 exact wpAny_pure h
theorem zjv (xs:Array Value)(i k:Nat):((List.range k).filterMap fun (m:Nat)=>xs[((i:Int)+(m:Int) * 1).toNat]?).toArray=((xs.toList.drop i).take k).toArray:=by
 have e:(fun (m:Nat)=>xs[((i:Int)+(m:Int) * 1).toNat]?)=fun m=>xs[i+m]?:=by
  funext m
  have:((i:Int)+(m:Int) * 1).toNat=i+m:=by omega
  rw[this]
 rw[e]
 have:=pick_run xs i k
 rw[List.filterMap_map] at this
 have e2:((fun x=>xs[x]?)∘fun x=>i+x)=fun m=>xs[i+m]?:=rfl
 rw[e2] at this
 rw[this]
theorem getItem_tuple_cut {t sl:Addr}{items:Array Value}{vl vu:Value}{lo hi:Option Int}{Q:Value->Shared->Prop}(ht:IsTup s.heap t items)(hs:s.heap.IsSliceOf sl vl vu .none)(pl:IsPart vl lo)(pu:IsPart vu hi)
  (hw:¬(sIx items.size 0 lo=0/\sIx items.size items.size hi=items.size))
  (h:Q (.ref s.heap.objs.size) {s with heap:=s.heap.push {cls:=.type "tuple",data:=.seq ((items.toList.drop (sIx items.size 0 lo)).take (sIx items.size items.size hi - sIx items.size 0 lo)).toArray}})
  (hsz:items.size<=sizeLine):wpAny (model prog w) A (getItem (.ref t) (.ref sl)) Q E s:=by
 have htake:sizeOk (.seq ((items.toList.drop (sIx items.size 0 lo)).take (sIx items.size items.size hi - sIx items.size 0 lo)).toArray):=by
  show ((items.toList.drop (sIx items.size 0 lo)).take (sIx items.size items.size hi - sIx items.size 0 lo)).toArray.size<=sizeLine
  rw[List.size_toArray,List.length_take,List.length_drop,Array.length_toList]
  omega
 have hj:sIx items.size items.size hi<=items.size:=znY _ _ (Nat.le_refl _) hi
 obtain⟨os,hos,hcs,hds⟩:=id hs
 have hTs:s.TypeIs (.ref sl) "slice":=⟨os,hos,hcs⟩
 unfold getItem
 try with_reducible refine wpAny_holding ?_
 first|refine wpAny_bind (wpAny_pure ?_)|skip
 refine wpAny_bind (wpAny_sequenceKey ht.typeIs (by decide) ?_)
 refine wpAny_bind (wpAny_callSpecial?_slot (name:=Str.ofString "__getitem__") ht.typeIs PyProof.Rows.slot_tuple_getitem
  (wpAny_call_entry PyProof.Rows.slot_tuple_getitem ht.typeIs entry_tuple_getitem ?_ (args_tuple_getitem _ _)))
 show wpAny _ _ (Builtin.Tuple.tupleItemsOf (.ref t) >>= _) _ _ s
 refine wpAny_bind (tupleItemsOf_ ht ?_)
 refine wpAny_bind (wpAny_typeOf hTs ?_)
 rw[if_pos (by decide)]
 refine wpAny_bind (sliceApplied_gen hs pl pu ?_)
 have hno:¬((((sIx items.size 0 lo:Nat):Int) == 0&&(1:Int) == 1&&(sIx items.size items.size hi - sIx items.size 0 lo) == items.size)=true):=by
  intro q
  rw[Bool.and_eq_true,Bool.and_eq_true] at q
  have q1:((sIx items.size 0 lo:Nat):Int)=0:=eq_of_beq q.1.1
  have q2:sIx items.size items.size hi - sIx items.size 0 lo=items.size:=eq_of_beq q.2
  exact hw ⟨by omega,by omega⟩
 show wpAny _ _ (if (((sIx items.size 0 lo:Nat):Int) == 0&&(1:Int) == 1&&(sIx items.size items.size hi - sIx items.size 0 lo) == items.size)=true then _ else _) _ _ s
 rw[if_neg hno,zjv]
 first
  |exact wpAny_bind (m:=Builtin.Tuple.tupleExact _) (wpAny_newObj_type (wpAny_pure ⟨_,rfl,wpAny_pure h⟩) htake)
  |exact wpAny_bind (m:=Builtin.Tuple.tupleExact _) (wpAny_newObj_type (wpAny_bind (wpAny_pure (wpAny_pure ⟨_,rfl,wpAny_pure h⟩))) htake)
  |exact wpAny_bind (wpAny_bind (m:=Builtin.Tuple.tupleExact _) (wpAny_newObj_type (wpAny_pure (wpAny_pure ⟨_,rfl,wpAny_pure h⟩)) htake))
  |exact wpAny_bind (wpAny_bind (m:=Builtin.Tuple.tupleExact _) (wpAny_newObj_type (wpAny_pure ⟨_,rfl,wpAny_pure h⟩) htake))
end
end HT
namespace L2
open PySem PySem.Spec PyProof.Rows
noncomputable abbrev TO:=St->Hp->(Option Int->Hp->Prop)->Prop
noncomputable def PO (X:Cx)(e:Option Expr)(t:TO):Prop:=
 ∀(pins:List (Addr × Obj)) (s:Shared) (σ:St) (H:Hp) (Q:Option Int->Hp->Prop),Inv X pins σ H s->t σ H Q->
  wpAny (model X.prog X.w) X.A (evalPart e X.env) (fun u s'=>∃o H',Inv X pins σ H' s'/\IsPart u o/\Q o H') X.xe s
noncomputable def zlj:TO:=fun _ H Q=>Q none H
noncomputable def znr (t:TE):TO:=fun σ H Q=>t σ H fun x H1=>∃i,x=.int i/\Q (some i) H1
section
variable {X:Cx} {e:Expr} {te:TE} {lo hi:Option Expr} {tl th:TO} {pos p2:Pos}
theorem zfz:PO X none zlj:=by
 intro pins s σ H Q I h
 rw[evalPart_none]
 exact wpAny_pure ⟨none,H,I,.none,h⟩
theorem zhK (h:PE X e te):PO X (some e) (znr te):=by
 intro pins s σ H Q I hw
 rw[evalPart_some]
 refine thn (h pins s σ H _ I hw) fun u s1 ⟨x,H1,I1,r1,q1⟩=>?_
 obtain⟨i,rfl,q⟩:=q1
 obtain⟨t,rfl⟩:=r1
 exact⟨some i,H1,I1,.int i t,q⟩
noncomputable def SlR (X:Cx)(r:V->Option Int->Option Int->Hp->VK->Prop):Prop:=
 ∀(pins:List (Addr × Obj)) (s:Shared) (σ:St) (H:Hp) (x:V) (v vl vu:Value) (lo hi:Option Int) (sl:Addr) (Q:VK),Inv X pins σ H s->RelV x v->s.heap.IsSliceOf sl vl vu .none->IsPart vl lo->IsPart vu hi->r x lo hi H Q->
  ∃T id,typeLookup (.type T) "__getitem__"=pure (some (.builtin id))/\s.TypeIs v T/\wpAny (model X.prog X.w) X.A (getItem v (.ref sl)) (EP X pins σ Q) X.xe s
theorem SlR.or {r r':V->Option Int->Option Int->Hp->VK->Prop}(h:SlR X r)(h':SlR X r'):SlR X (fun x lo hi H Q=>r x lo hi H Q\/r' x lo hi H Q):=by
 intro pins s σ H x v vl vu lo hi sl Q I rx hs pl pu q
 rcases q with q|q
 · exact h pins s σ H x v vl vu lo hi sl Q I rx hs pl pu q
 · exact h' pins s σ H x v vl vu lo hi sl Q I rx hs pl pu q
noncomputable def tSl (r:V->Option Int->Option Int->Hp->VK->Prop)(te:TE)(tl th:TO):TE:=fun σ H Q=>te σ H fun x H1=>tl σ H1 fun l H2=>th σ H2 fun u H3=>r x l u H3 Q
theorem zjz {r:V->Option Int->Option Int->Hp->VK->Prop}(hr:SlR X r)(he:PE X e te)(hl:PO X lo tl)(hu:PO X hi th):PE X (.Subscript e (.Slice lo hi none p2) pos) (tSl r te tl th):=by
 intro pins s σ H Q I h
 refine Subscript_ (thn (he pins s σ H _ I h) fun v s1 ⟨x,H1,I1,r1,q1⟩=>?_)
 refine wpAny_Slice (thn (hl pins s1 σ H1 _ I1 q1) fun vl s2 ⟨l,H2,I2,pl,q2⟩=>thn (hu pins s2 σ H2 _ I2 q2) fun vu s3 ⟨u,H3,I3,pu,q3⟩=>?_)
 rw[evalPart_none]
 refine wpAny_pure ?_
 have I4:Inv X pins σ H3 {s3 with heap:=s3.heap.push {cls:=.type "slice",data:=.fields #[vl,vu,.none]}}:=I3.kept (t':=s3.toks) fun b ob q=>Heap.get?_push_of_some _ q
 obtain⟨T,id,hT,ht,hg⟩:=hr pins {s3 with heap:=s3.heap.push {cls:=.type "slice",data:=.fields #[vl,vu,.none]}} σ H3 x v vl vu l u s3.heap.objs.size Q I4 r1 (Heap.IsSliceOf.new ..) pl pu q3
 show wpAny (model X.prog X.w) X.A (subscriptTail e (.Slice lo hi none p2) v (.ref s3.heap.objs.size)) (EP X pins σ Q) X.xe {s3 with heap:=s3.heap.push {cls:=.type "slice",data:=.fields #[vl,vu,.none]}}
 exact tail_any (ops:=[.ref s3.heap.objs.size,v]) ht hT hg (by with_unfolding_all rfl)
noncomputable def cutV (xs:List V)(lo hi:Option Int):List V:=(xs.drop (HT.sIx xs.length 0 lo)).take (HT.sIx xs.length xs.length hi - HT.sIx xs.length 0 lo)
theorem zdj (xs:List V)(lo hi:Option Int):(cutV xs lo hi).length<=xs.length:=by
 unfold cutV
 rw[List.length_take,List.length_drop]
 omega
noncomputable def rSlT (K:W.Frag):V->Option Int->Option Int->Hp->VK->Prop:=fun x lo hi H Q=>∃a xs,x=.ref a/\SqT K H a xs/\
 ¬(HT.sIx xs.length 0 lo=0/\HT.sIx xs.length xs.length hi=xs.length)/\∀p,H p=none->Q (.ref p) (upd H p (.tup (cutV xs lo hi)))
theorem znC:SlR X (rSlT X.K):=by
 intro pins s σ H x v vl vu lo hi sl Q I rx hs pl pu h
 obtain⟨a,xs,rfl,hx,hw,q⟩:=h
 cases rx
 obtain⟨its,r,ht,hz⟩:=I.tuple hx
 have hlen:its.toArray.size=xs.length:=by rw[List.size_toArray];exact r.length.symm
 refine⟨"tuple",_,PyProof.Rows.slot_tuple_getitem.lookup,ht.typeIs,?_⟩
 refine HT.getItem_tuple_cut ht hs pl pu (by rw[hlen];exact hw) ?_ (by rw[hlen];exact hz)
 rw[hlen]
 refine⟨.ref s.heap.objs.size,_,I.laid (t':=s.toks) (o:=.tup (cutV xs lo hi)) (fun b ob q=>Heap.get?_push_of_some _ q) (Nat.le_refl _) ?_,rfl,q _ (I.hok.fresh (Nat.le_refl _))⟩
 exact⟨Nat.le_trans (zdj xs lo hi) hz,_,(r.drop (HT.sIx xs.length 0 lo)).take (HT.sIx xs.length xs.length hi - HT.sIx xs.length 0 lo),IsTup.new _ _⟩
noncomputable def zpO (K:W.Frag):R2:=fun x y H Q=>∃a b xs ys,x=.ref a/\y=.ref b/\SqT K H a xs/\SqT K H b ys/\xs≠[]/\xs.length+ys.length<=sizeLine/\
 (ys=[]->Q (.ref a) H)/\(ys≠[]->∀p,H p=none->Q (.ref p) (upd H p (.tup (xs++ys))))
theorem Vals.nil_iff {xs:List V}{us:List Value}(r:Vals xs us):us=[]↔xs=[]:=by
 cases r with
 |nil=>simp
 |cons _ _=>simp
theorem zmf:OpR X (binaryOp .Add) (zpO X.K):=by
 intro pins s σ H x y v u Q I rx ry h
 obtain⟨a,b,xs,ys,rfl,rfl,ha,hb,hx,hz,q1,q2⟩:=h
 cases rx
 cases ry
 obtain⟨its,r1,p1,_⟩:=I.tuple ha
 obtain⟨its2,r2,p2,_⟩:=I.tuple hb
 refine HT.cat_tup p1 p2 (fun z=>hx (r1.nil_iff.mp z)) (fun z=>⟨.ref a,H,I,rfl,q1 (r2.nil_iff.mp z)⟩) (fun z=>?_) (by rw[<-r1.length,<-r2.length];exact hz)
 refine⟨.ref s.heap.objs.size,_,I.laid (t':=s.toks) (o:=.tup (xs++ys)) (fun b ob q=>Heap.get?_push_of_some _ q) (Nat.le_refl _) ?_,rfl,q2 (fun w=>z (r2.nil_iff.mpr w)) _ (I.hok.fresh (Nat.le_refl _))⟩
 exact⟨by rw[List.length_append];exact hz,_,r1.append r2,IsTup.new _ _⟩
end
end L2
namespace L2
open PySem PySem.Spec PyProof.Rows
noncomputable def ixN (n:Nat)(i:Int):Option Nat:=if 0<=i then (if i<n then some i.toNat else none) else if -(n:Int)<=i then some (i+n).toNat else none
noncomputable def atI {α:Type}(xs:List α)(i:Int):Option α:=(ixN xs.length i).bind fun j=>xs[j]?
theorem zif {n:Nat}{i:Int}{j:Nat}(h:ixN n i=some j):seqIndex? i n=some j/\j<n/\-(n:Int)<=i/\i<n:=by
 unfold ixN at h
 by_cases h0:0<=i
 · rw[if_pos h0] at h
   by_cases h1:i<n
   · rw[if_pos h1] at h
     have e:i.toNat=j:=Option.some.inj h
     exact⟨by rw[seqIndex_of h0 h1,e],by omega,by omega,h1⟩
   · rw[if_neg h1] at h;cases h
 · rw[if_neg h0] at h
   by_cases h1:-(n:Int)<=i
   · rw[if_pos h1] at h
     have e:(i+n).toNat=j:=Option.some.inj h
     exact⟨by rw[seqIndex_neg (by omega) h1,e],by omega,h1,by omega⟩
   · rw[if_neg h1] at h;cases h
theorem zfX {α:Type}{xs:List α}{i:Int}{v:α}(h:atI xs i=some v):∃j,seqIndex? i xs.length=some j/\xs[j]?=some v/\j<xs.length/\-(xs.length:Int)<=i/\i<xs.length:=by
 unfold atI at h
 cases e:ixN xs.length i with
 |none=>rw[e] at h;cases h
 | some j =>
   rw[e] at h
   obtain⟨h1,h2,h3,h4⟩:=zif e
   exact⟨j,h1,h,h2,h3,h4⟩
noncomputable def zi1 (b:Expr):Prop:=∀o i,subscripted b false o i=operate [o,i] (getItem o i)
noncomputable def IxR (X:Cx)(r:R2):Prop:=
 ∀(value slice:Expr) (pins:List (Addr × Obj)) (s:Shared) (σ:St) (H:Hp) (x y:V) (v u:Value) (Q:VK),Inv X pins σ H s->RelV x v->RelV y u->r x y H Q->
  subscripted slice false v u=operate [v,u] (getItem v u)->wpAny (model X.prog X.w) X.A (subscriptTail value slice v u) (EP X pins σ Q) X.xe s
noncomputable def MtR (X:Cx)(id:String)(r:V->List V->Hp->VK->Prop):Prop:=
 ∀(pins:List (Addr × Obj)) (s:Shared) (σ:St) (H:Hp) (x:V) (xs:List V) (v:Value) (us:List Value) (Q:VK),Inv X pins σ H s->RelV x v->Vals xs us->r x xs H Q->
  wpAny (model X.prog X.w) X.A (call (.builtin id) (v::us)) (EP X pins σ Q) X.xe s
section
variable {X:Cx} {a b:Expr} {ta tb:TE} {pos:Pos}
theorem IxR.or {r r':R2}(h:IxR X r)(h':IxR X r'):IxR X (fun x y H Q=>r x y H Q\/r' x y H Q):=by
 intro value slice pins s σ H x y v u Q I rx ry q hs
 rcases q with q|q
 · exact h value slice pins s σ H x y v u Q I rx ry q hs
 · exact h' value slice pins s σ H x y v u Q I rx ry q hs
theorem zpS {r:R2}(hr:IxR X r)(ha:PE X a ta)(hb:PE X b tb)(hs:zi1 b):PE X (.Subscript a b pos) (tOp r ta tb):=by
 intro pins s σ H Q I h
 exact Subscript_ (binT ha hb I h fun v u s2 x y H2 I2 rx ry q=>hr a b pins s2 σ H2 x y v u Q I2 rx ry q (hs _ _))
noncomputable def rIxL (K:W.Frag):R2:=fun x y H Q=>∃p xs i v,x=.ref p/\y=.int i/\SqL K H p xs/\atI xs i=some v/\Q v H
noncomputable def rIxT (K:W.Frag):R2:=fun x y H Q=>∃p xs i v,x=.ref p/\y=.int i/\SqT K H p xs/\atI xs i=some v/\Q v H
noncomputable def rIxS:R2:=fun x y H Q=>∃z i c,x=.str z/\y=.int i/\z.length<=sizeLine/\atI z.cps.toList i=some c/\Q (.str ⟨#[c]⟩) H
theorem ix_list:IxR X (rIxL X.K):=by
 intro value slice pins s σ H x y v u Q I rx ry h hs
 obtain⟨p,xs,i,z,rfl,rfl,hq,he,q⟩:=h
 cases rx
 obtain⟨t,rfl⟩:=ry
 obtain⟨its,r,pl,hz⟩:=I.list hq
 obtain⟨j,h1,h2,h3,h4,h5⟩:=zfX he
 obtain⟨w,ew,rw'⟩:=r.get h2
 have hl:=r.length
 have hn:=zdI
 have fin:EP X pins σ Q w s:=⟨z,H,I,rw',q⟩
 by_cases h0:0<=i
 · have hj:i.toNat=j:=by
    rw[seqIndex_of h0 h5] at h1
    exact Option.some.inj h1
   exact item_listR pl.isList h0 (by omega) (by rw[hj];simpa using ew) fin hs
 · have hj:(i+(its.toArray.size:Int)).toNat=j:=by
    rw[seqIndex_neg (by omega) h4] at h1
    rw[List.size_toArray,<-hl]
    exact Option.some.inj h1
   exact subscriptTail_builtinR (x:=w) pl.isList.typeIs slot_list_getitem.lookup
    (wpAny_getItem_list_neg (Q:=fun r s'=>r=w/\EP X pins σ Q r s') pl.isList (by omega) (by rw[List.size_toArray]<;>omega) (by omega) (by rw[hj];simpa using ew) ⟨rfl,fin⟩) hs
theorem ix_tup:IxR X (rIxT X.K):=by
 intro value slice pins s σ H x y v u Q I rx ry h hs
 obtain⟨p,xs,i,z,rfl,rfl,hq,he,q⟩:=h
 cases rx
 obtain⟨t,rfl⟩:=ry
 obtain⟨its,r,pl,hz⟩:=I.tuple hq
 obtain⟨j,h1,h2,h3,h4,h5⟩:=zfX he
 obtain⟨w,ew,rw'⟩:=r.get h2
 have hl:=r.length
 have hn:=zdI
 have fin:EP X pins σ Q w s:=⟨z,H,I,rw',q⟩
 exact subscriptTail_builtinR (x:=w) pl.typeIs slot_tuple_getitem.lookup
  (getItem_tuple (j:=j) (Q:=fun r s'=>r=w/\EP X pins σ Q r s') pl (by omega) (by omega) (by rw[List.size_toArray,<-hl];exact h1) (by simpa using ew) ⟨rfl,fin⟩) hs
theorem zoQ:IxR X rIxS:=by
 intro value slice pins s σ H x y v u Q I rx ry h hs
 obtain⟨z,i,c,rfl,rfl,hz,he,q⟩:=h
 obtain⟨t,rfl⟩:=rx
 obtain⟨t',rfl⟩:=ry
 obtain⟨j,h1,h2,h3,h4,h5⟩:=zfX he
 have hl:z.cps.toList.length=z.length:=by simp[Str.length]
 rw[hl] at h1 h4 h5
 have hn:=zdI
 exact tail_any (typeIs_str s z t) slot_str_getitem.lookup (getItem_str (c:=c) (by
  have e1:decide (i < -(2 ^ 63:Int))=false:=decide_eq_false (by omega)
  have e2:decide (i≥2 ^ 63)=false:=decide_eq_false (by omega)
  rw[e1,e2,Bool.or_false]) (by rw[h1];simpa using h2) ⟨.str ⟨#[c]⟩,H,I.tok _,⟨_,rfl⟩,q⟩) hs
noncomputable def rIx (K:W.Frag):R2:=fun x y H Q=>rIxL K x y H Q\/rIxT K x y H Q\/rIxS x y H Q
theorem zoR:IxR X (rIx X.K):=ix_list.or (ix_tup.or zoQ)
theorem zgV (its:List Value)(n j:Nat)(u:Value):Obj.mapSeq (·.setIfInBounds j u) {cls:=.type "list",data:=.seq its.toArray n}={cls:=.type "list",data:=.seq (its.set j u).toArray n}:=by
 simp[Obj.mapSeq]
theorem Inv.lst {pins:List (Addr × Obj)}{σ:St}{H:Hp}{s:Shared}{p:Addr}{xs:List V}(I:Inv X pins σ H s)(h:H p=some (.lst xs)) :
  ∃(its:List Value) (n:Nat),Vals xs its/\s.heap.get? p=some {cls:=.type "list",data:=.seq its.toArray n}/\xs.length<=sizeLine:=by
 obtain⟨z,its,n,r,e⟩:=I.hok p _ h
 exact⟨its,n,r,e,z⟩
theorem Inv.lstUpd {pins:List (Addr × Obj)}{σ:St}{H:Hp}{s:Shared}{p:Addr}{xs ys:List V}{its its':List Value}{n n':Nat}{f:Obj->Obj}(I:Inv X pins σ H s)(h:H p=some (.lst xs))
  (ho:s.heap.get? p=some {cls:=.type "list",data:=.seq its.toArray n}) (hf:f {cls:=.type "list",data:=.seq its.toArray n}={cls:=.type "list",data:=.seq its'.toArray n'}) (r:Vals ys its') (hz:ys.length<=sizeLine) (t:Nat) :
  Inv X pins σ (upd H p (.lst ys)) {s with heap:=s.heap.update p f,toks:=t}:=by
 have e:(s.heap.update p f).get? p=some {cls:=.type "list",data:=.seq its'.toArray n'}:=by
  rw[Heap.get?_update_self f ho (by rw[hf]<;>rfl),hf]
 refine I.write (x:=p) (e:=p) (by rw[h];trivial) (.inl rfl) (fun b u hb q=>(Heap.get?_update_other _ _ (Ne.symm hb)).trans q) ⟨_,e⟩ ?_
 exact⟨hz,its',n',r,e⟩
noncomputable def zpN:V->V->V->Hp->(Hp->Prop)->Prop:=fun o i v H Q=>∃p xs k j,o=.ref p/\i=.int k/\H p=some (.lst xs)/\ixN xs.length k=some j/\Q (upd H p (.lst (xs.set j v)))
theorem zi8:PSet X zpN:=by
 intro pins s σ H o i v ov iv u Q I ro ri rv h
 obtain⟨p,xs,k,j,rfl,rfl,hp,hj,q⟩:=h
 cases ro
 obtain⟨t,rfl⟩:=ri
 obtain⟨its,n,r,ho,hz⟩:=I.lst hp
 obtain⟨h1,h2,h3,h4⟩:=zif hj
 have hl:=r.length
 have hn:=zdI
 have I':Inv X pins σ (upd H p (.lst (xs.set j v))) {s with heap:=s.heap.update p (Obj.mapSeq (·.setIfInBounds j u))}:=
  I.lstUpd hp ho (zgV its n j u) (r.set rv j) (by rw[List.length_set];exact hz) s.toks
 by_cases h0:0<=k
 · have hk:k.toNat=j:=by
    rw[seqIndex_of h0 h4] at h1
    exact Option.some.inj h1
   exact W.ki_setAt ho h0 (by omega) (by rw[List.size_toArray,<-hl];exact h4) (by rw[hk];exact⟨_,I',q⟩)
 · have hk:(k+(its.toArray.size:Int)).toNat=j:=by
    rw[seqIndex_neg (by omega) h3] at h1
    rw[List.size_toArray,<-hl]
    exact Option.some.inj h1
   exact W.ki_setBack ho (by omega) (by rw[List.size_toArray,<-hl];exact h3) (by omega) (by rw[hk];exact⟨_,I',q⟩)
theorem zeB (lo hi:Option Int)(n:Nat):(sliceBounds lo hi none n).1=((HT.sIx n 0 lo:Nat):Int)/\(sliceBounds lo hi none n).2.1=((HT.sIx n n hi:Nat):Int)/\(sliceBounds lo hi none n).2.2=1:=by
 refine⟨?_,?_,rfl⟩
 · cases lo with
   |none=>simp[sliceBounds,HT.sIx]
   | some i =>
     simp only[sliceBounds,HT.sIx,Option.getD_none,show (1:Int) > 0 by decide,if_true]
     by_cases h:i<0
     · simp only[h,if_true]<;>omega
     · simp only[h,if_false]<;>omega
 · cases hi with
   |none=>simp[sliceBounds,HT.sIx]
   | some i =>
     simp only[sliceBounds,HT.sIx,Option.getD_none,show (1:Int) > 0 by decide,if_true]
     by_cases h:i<0
     · simp only[h,if_true]<;>omega
     · simp only[h,if_false]<;>omega
theorem zd6 (its:List Value)(lo hi:Option Int):slicePick its.toArray lo hi none=((its.drop (HT.sIx its.length 0 lo)).take (HT.sIx its.length its.length hi - HT.sIx its.length 0 lo)).toArray:=by
 obtain⟨h1,h2,h3⟩:=zeB lo hi its.toArray.size
 unfold slicePick
 rw[h1,h2,h3]
 simp only[sliceRange_one,pick_run,List.size_toArray]<;>rfl
noncomputable def rSlL (K:W.Frag):V->Option Int->Option Int->Hp->VK->Prop:=fun x lo hi H Q=>∃a xs,x=.ref a/\SqL K H a xs/\∀p,H p=none->Q (.ref p) (upd H p (.lst (cutV xs lo hi)))
theorem zlu:SlR X (rSlL X.K):=by
 intro pins s σ H x v vl vu lo hi sl Q I rx hs pl pu h
 obtain⟨a,xs,rfl,hx,q⟩:=h
 cases rx
 obtain⟨its,r,ht,hz⟩:=I.list hx
 have hlen:=r.length
 refine⟨"list",_,slot_list_getitem.lookup,ht.isList.typeIs,?_⟩
 refine wpAny_getItem_list_slice ht.isList hs pl pu .none (by simp) ?_ (by rw[List.size_toArray]<;>omega)
 rw[zd6,<-hlen]
 refine⟨.ref s.heap.objs.size,_,I.laid (t':=s.toks) (o:=.lst (cutV xs lo hi)) (fun b ob q=>Heap.get?_push_of_some _ q) (Nat.le_refl _) ?_,rfl,q _ (I.hok.fresh (Nat.le_refl _))⟩
 exact⟨Nat.le_trans (zdj xs lo hi) hz,_,0,(r.drop (HT.sIx xs.length 0 lo)).take (HT.sIx xs.length xs.length hi - HT.sIx xs.length 0 lo),Heap.get?_push_size _ rfl⟩
theorem zbG:zcc X (.builtin "len") (fun xs H Q=>∃p ys,xs=[.ref p]/\(SqL X.K H p ys\/SqT X.K H p ys)/\Q (.int ys.length) H):=by
 intro pins s σ H xs us Q I r h
 obtain⟨p,ys,rfl,hq,q⟩:=h
 obtain⟨u,rfl,rx⟩:=zlc r
 cases rx
 have hn:=zdI
 rcases hq with hq|hq
 · obtain⟨its,r',pl,hz⟩:=I.list hq
   have hlen:=r'.length
   exact Calls.call_len_list pl.isList (by simp only[List.size_toArray]<;>omega) ⟨.int ys.length,H,I.tok _,⟨s.toks+1,by rw[List.size_toArray,hlen]⟩,q⟩
 · obtain⟨its,r',pl,hz⟩:=I.tuple hq
   have hlen:=r'.length
   exact len_tuple pl (by simp only[List.size_toArray]<;>omega) ⟨.int ys.length,H,I.tok _,⟨s.toks+1,by rw[List.size_toArray,hlen]⟩,q⟩
theorem ze5:zcc X (.type "list") (fun xs H Q=>∃p ys,xs=[.ref p]/\(SqL X.K H p ys\/SqT X.K H p ys)/\∀l,H l=none->Q (.ref l) (upd H l (.lst ys))):=by
 intro pins s σ H xs us Q I r h
 obtain⟨p,ys,rfl,hq,q⟩:=h
 obtain⟨u,rfl,rx⟩:=zlc r
 cases rx
 have fin:∀(its:List Value),Vals ys its->ys.length<=sizeLine->∀(h':Heap) (c':Nat),(∀b o',s.heap.get? b=some o'->h'.get? b=some o')->
   h'.get? s.heap.objs.size=some {cls:=.type "list",dict:=none,data:=.seq its.toArray c',slots:=#[]}->EP X pins σ Q (.ref s.heap.objs.size) {s with heap:=h'}:=fun its r' hz h' c' kp e=>
  ⟨.ref s.heap.objs.size,_,I.laid (t':=s.toks) kp (Nat.le_refl _) (show ObjOk X.prog X.w _ h' _ (.lst ys) from⟨hz,its,c',r',e⟩),rfl,q _ (I.hok.fresh (Nat.le_refl _))⟩
 rcases hq with hq|hq
 · obtain⟨its,r',pl,hz⟩:=I.list hq
   have hlen:=r'.length
   obtain⟨o,ho,hc,n,hd⟩:=pl.isList
   exact call_list_seq p (.inl rfl) ho hc hd (fun h' c' kp e=>fin its r' hz h' c' kp e) (by simp only[List.size_toArray]<;>omega)
 · obtain⟨its,r',pl,hz⟩:=I.tuple hq
   have hlen:=r'.length
   obtain⟨o,ho,hc,n,hd⟩:=pl
   exact call_list_seq p (.inr rfl) ho hc hd (fun h' c' kp e=>fin its r' hz h' c' kp e) (by simp only[List.size_toArray]<;>omega)
theorem zet:zcc X (.type "tuple") (fun xs H Q=>∃p ys,xs=[.ref p]/\((SqL X.K H p ys/\∀l,H l=none->Q (.ref l) (upd H l (.tup ys)))\/(SqT X.K H p ys/\Q (.ref p) H))):=by
 intro pins s σ H xs us Q I r h
 obtain⟨p,ys,rfl,h⟩:=h
 obtain⟨u,rfl,rx⟩:=zlc r
 cases rx
 rcases h with ⟨hq,q⟩|⟨hq,q⟩
 · obtain⟨its,r',pl,hz⟩:=I.list hq
   have hlen:=r'.length
   refine call_tuple_list pl.isList (fun h' kp=>?_) (by simp only[List.size_toArray]<;>omega)
   have I1:Inv X pins σ H {s with heap:=h'}:=I.kept (t':=s.toks) kp
   have I2:Inv X pins σ (upd H h'.objs.size (.tup ys)) {s with heap:=h'.push {cls:=.type "tuple",data:=.seq its.toArray}}:=
    I1.laid (t':=s.toks) (fun b o e=>Heap.get?_push_of_some _ e) (Nat.le_refl _) (show ObjOk X.prog X.w _ _ _ (.tup ys) from⟨hz,its,r',IsTup.new _ _⟩)
   exact⟨.ref h'.objs.size,_,I2,rfl,q _ (I1.hok.fresh (Nat.le_refl _))⟩
 · obtain⟨its,r',pl,hz⟩:=I.tuple hq
   exact call_tuple_same pl ⟨.ref p,H,I,rfl,q⟩
noncomputable def tyV (K:W.Frag)(T:String)(x:V)(H:Hp):Prop:=match x with
 |.str _=>T="str"
 |.int _=>T="int"
 |.ref p=>(T="list"/\∃xs,SqL K H p xs)\/(T="tuple"/\∃o,K.lookup p=some o/\o.cls=.type "tuple"/\o.dict=none)\/
  (T="dict"/\((∃kvs,H p=some (.dK kvs))\/∃kvs,H p=some (.dT kvs)))\/(T="set"/\∃S n,H p=some (.set S n))
 |_=>False
theorem zkw {pins:List (Addr × Obj)}{σ:St}{H:Hp}{s:Shared}{T:String}{x:V}{v:Value}(I:Inv X pins σ H s)(r:RelV x v)(ty:tyV X.K T x H) :
  s.TypeIs v T/\∀a,v=.ref a->∃ob,s.heap.get? a=some ob/\ob.dict=none:=by
 cases x with
 | str z =>
   obtain⟨t,rfl⟩:=r
   cases (show T="str" from ty)
   exact⟨typeIs_str s z t,fun _ e=>nomatch e⟩
 | int i =>
   obtain⟨t,rfl⟩:=r
   cases (show T="int" from ty)
   exact⟨typeIs_int s i t,fun _ e=>nomatch e⟩
 | ref p =>
   cases r
   rcases ty with ⟨rfl,xs,hq⟩|⟨rfl,o,hk,hc,hd⟩|⟨rfl,hk⟩|⟨rfl,S,n,hk⟩
   · obtain⟨its,_,pl,_⟩:=I.list hq
     refine⟨pl.isList.typeIs,fun a e=>?_⟩
     cases e
     obtain⟨o,n,e,c,hd,_⟩:=pl
     exact⟨o,e,hd⟩
   · refine⟨⟨o,I.kIn p o hk,hc⟩,fun a e=>?_⟩
     cases e
     exact⟨o,I.kIn _ o hk,hd⟩
   · have z:∃o,s.heap.get? p=some o/\o.ExactDict:=by
      rcases hk with ⟨kvs,hk⟩|⟨kvs,hk⟩
      · obtain⟨_,_,_,_,o,_,_,e,ex,_⟩:=I.hok p _ hk
        exact⟨o,e,ex⟩
      · obtain⟨_,_,_,_,o,_,_,e,ex,_⟩:=I.hok p _ hk
        exact⟨o,e,ex⟩
     obtain⟨o,e,ex⟩:=z
     refine⟨⟨o,e,ex.1⟩,fun a e2=>?_⟩
     cases e2
     exact⟨o,e,ex.2.1⟩
   · obtain⟨o,_,_,_,e,ex,_⟩:=I.hok p _ hk
     refine⟨⟨o,e,ex.1⟩,fun a e2=>?_⟩
     cases e2
     exact⟨o,e,ex.2.1⟩
 |_=>exact False.elim ty
noncomputable def tBM0 (K:W.Frag)(T:String)(r:V->List V->Hp->VK->Prop)(to:TE):TE:=fun σ H Q=>to σ H fun x H1=>tyV K T x H1/\r x [] H1 Q
noncomputable def tBM (K:W.Frag)(T:String)(r:V->List V->Hp->VK->Prop)(to:TE)(t:TA):TE:=fun σ H Q=>to σ H fun x H1=>tyV K T x H1/\t σ H1 fun xs H2=>r x xs H2 Q
variable {o e:Expr} {es:List Expr} {to:TE} {t:TA} {name:Str} {apos cpos:Pos} {T id:String} {r:V->List V->Hp->VK->Prop}
theorem zoq (pa:PlainAttrs T)(slot:Slot T name id)(hty:typeOf (.builtin id)=pure (.type "method_descriptor"))(hm:MtR X id r)(ho:PE X o to)
  (hbase:attributeBase o name X.env (eval o X.env)=eval o X.env:=by rfl) (hline:(apos.endLine == cpos.line)=true:=by rfl):PE X (.Call (.Attribute o name apos) [] [] cpos) (tBM0 X.K T r to):=by
 intro pins s σ H Q I h
 refine wpAny_Call_method0_late hbase hline (thn (ho pins s σ H _ I h) fun v s1 ⟨x,H1,I1,r1,ty,q1⟩=>?_)
 obtain⟨h1,h2⟩:=zkw I1 r1 ty
 exact⟨T,id,pa,slot,hty,h1,h2,Calls.callWith_builtin rfl (PySem.evalArgs_none (hm pins s1 σ H1 x [] v [] Q I1 r1 .nil q1))⟩
theorem zor (pa:PlainAttrs T)(slot:Slot T name id)(hty:typeOf (.builtin id)=pure (.type "method_descriptor"))(hm:MtR X id r)(ho:PE X o to)(ha:PA X (e::es) t)
  (hbase:attributeBase o name X.env (eval o X.env)=eval o X.env:=by rfl)
  (hfew:((backTo cpos (starEach (e::es) X.env)).all (fun x=>!x.1)&&(backToKw cpos (keywordEach [] X.env)).all (fun x=>x.1.isSome)
   && decide ((e::es).length+([]:List Keyword).length+(if ([]:List Keyword).isEmpty then 0 else 1)<30))=true:=by rfl)
  (hline:(apos.endLine == cpos.line)=true:=by rfl) (hs:starEach (e::es) X.env=(false,eval e X.env)::starEach es X.env:=by rfl) (hplain:(backTo cpos (starEach es X.env)).any (·.1)=false:=by rfl) :
  PE X (.Call (.Attribute o name apos) (e::es) [] cpos) (tBM X.K T r to t):=by
 intro pins s σ H Q I h
 refine wpAny_Call_method_late hbase hfew hline rfl (thn (ho pins s σ H _ I h) fun v s1 ⟨x,H1,I1,r1,ty,q1⟩=>?_)
 obtain⟨h1,h2⟩:=zkw I1 r1 ty
 refine⟨T,id,pa,slot,hty,h1,h2,?_⟩
 have hA:=ha cpos pins s1 σ H1 _ I1 q1
 rw[hs] at hA⊢
 refine Calls.callWith_builtin (by show (false || (backTo cpos (starEach es X.env)).any (·.1))=false;rw[hplain]<;>rfl) (Calls.evalArgs_plain ?_)
 exact thn hA fun us s2 ⟨vs,H2,I2,r2,q2⟩=>hm pins s2 σ H2 x vs v us Q I2 r1 r2 q2
end
end L2
namespace L2
open PySem PySem.Spec PyProof.Rows
noncomputable def MtM (X:Cx)(id:String)(r:V->List V->Hp->VK->Prop):Prop:=
 ∀(pins:List (Addr × Obj)) (s:Shared) (σ:St) (H:Hp) (x:V) (xs:List V) (v:Value) (us:List Value) (Q:VK),Inv X pins σ H s->RelV x v->Vals xs us->r x xs H Q->
  wpAny (model X.prog X.w) X.A (call (.builtin id) (v::us)) (EP X pins σ Q) X.xe s
theorem Vals.one:∀{x:V} {us:List Value},Vals [x] us->∃u,us=[u]/\RelV x u
 |_,_,.cons r .nil=>⟨_,rfl,r⟩
theorem Vals.zero:∀{us:List Value},Vals [] us->us=[]
 |_,.nil=>rfl
section
variable {X:Cx} {pins:List (Addr × Obj)} {σ:St} {H:Hp} {s:Shared} {l b:Addr} {xs ys zs:List V}
theorem Inv.lset {its its':List Value}{n:Nat}{f:Array Value->Array Value}{t':Nat}(I:Inv X pins σ H s)(hH:H l=some (.lst xs))
  (e:s.heap.get? l=some {cls:=.type "list",data:=.seq its.toArray n}) (hf:f its.toArray=its'.toArray) (hv:Vals ys its') (hz:ys.length<=sizeLine) :
  Inv X pins σ (upd H l (.lst ys)) {s with heap:=s.heap.update l (Obj.mapSeq f),toks:=t'}:=by
 have q:=PySem.IsL.update e f
 rw[hf] at q
 refine I.write (x:=l) (e:=l) (by rw[hH];exact trivial) (.inl rfl) (fun b' u hb hu=>(Heap.get?_update_other s.heap (Obj.mapSeq f) (Ne.symm hb)).trans hu) ⟨_,q⟩ ?_
 exact⟨hz,its',_,hv,q⟩
theorem Inv.lnew {its:List Value}{t':Nat}(I:Inv X pins σ H s)(hv:Vals ys its)(hz:ys.length<=sizeLine) :
  Inv X pins σ (upd H s.heap.objs.size (.lst ys)) {s with heap:=s.heap.push {cls:=.type "list",data:=.seq its.toArray},toks:=t'}:=
 I.laid (fun _ _ q=>Heap.get?_push_of_some _ q) (Nat.le_refl _) ⟨hz,its,0,hv,Heap.get?_push_size _ rfl⟩
theorem Inv.fresh (I:Inv X pins σ H s):H s.heap.objs.size=none:=I.hok.fresh (Nat.le_refl _)
theorem Inv.lstM (I:Inv X pins σ H s)(hH:H l=some (.lst xs)):xs.length<=sizeLine/\∃(its:List Value) (n:Nat),Vals xs its/\xs.length=its.length/\s.heap.get? l=some {cls:=.type "list",data:=.seq its.toArray n}:=by
 obtain⟨z,its,n,r,e⟩:=I.hok l _ hH
 exact⟨z,its,n,r,r.length,e⟩
theorem zjN {n:Nat}(h:n<=sizeLine):Builtin.List.listTooLong n=false:=by
 unfold Builtin.List.listTooLong
 exact decide_eq_false (by omega)
end
section
variable {X:Cx}
noncomputable def zlS:V->List V->Hp->VK->Prop:=fun x vs H Q=>∃l xs y,x=.ref l/\vs=[y]/\H l=some (.lst xs)/\xs.length<sizeLine/\Q .non (upd H l (.lst (xs++[y])))
theorem zeU:MtM X "list.append" zlS:=by
 intro pins s σ H x vs v us Q I rx rv h
 obtain⟨l,xs,y,rfl,rfl,hH,hz,q⟩:=h
 cases rx
 obtain⟨u,rfl,ru⟩:=rv.one
 obtain⟨z,its,n,r,hl,e⟩:=I.lstM hH
 refine call_meets F.slot_list_append ⟨_,e,rfl⟩ F.entry_list_append (F.args_list_append_2 _ _) (PySem.list_append l its.toArray n u (by rw[List.size_toArray];omega)) ⟨e,?_⟩
 refine⟨.non,_,I.lset (its':=its++[u]) hH e (by simp) (r.append (.cons ru .nil)) ?_,rfl,q⟩
 rw[List.length_append,List.length_singleton]
 omega
noncomputable def zlR:V->List V->Hp->VK->Prop:=fun x vs H Q=>∃l b xs zs,x=.ref l/\vs=[.ref b]/\H l=some (.lst xs)/\H b=some (.lst zs)/\xs.length+zs.length<=sizeLine/\Q .non (upd H l (.lst (xs++zs)))
theorem zhU:MtM X "list.extend" zlR:=by
 intro pins s σ H x vs v us Q I rx rv h
 obtain⟨l,b,xs,zs,rfl,rfl,hH,hB,hz,q⟩:=h
 cases rx
 obtain⟨u,rfl,ru⟩:=rv.one
 cases ru
 obtain⟨z,its,n,r,hl,e⟩:=I.lstM hH
 obtain⟨z2,its2,n2,r2,hl2,e2⟩:=I.lstM hB
 have hsz:its.toArray.size+its2.toArray.size<=sizeLine:=by rw[List.size_toArray,List.size_toArray];omega
 have hlong:¬(!its.toArray.isEmpty&&Builtin.List.listTooLong (its.toArray.size+its2.toArray.size))=true:=by
  rw[zjN hsz,Bool.and_false]
  exact Bool.false_ne_true
 refine call_meets F.slot_list_extend ⟨_,e,rfl⟩ F.entry_list_extend (F.args_list_extend_2 _ _)
  (AutoSeq1.list_extend_list_list_0 l its.toArray n b its2.toArray n2 hlong (by rw[List.size_toArray];omega) (by omega)) ⟨e,e2,?_⟩
 refine⟨.non,_,I.lset (its':=its++its2) hH e (by simp) (r.append r2) ?_,rfl,q⟩
 rw[List.length_append]
 omega
noncomputable def zn6:V->List V->Hp->VK->Prop:=fun x vs H Q=>∃l xs,x=.ref l/\vs=[]/\H l=some (.lst xs)/\Q .non (upd H l (.lst []))
theorem zjO:MtM X "list.clear" zn6:=by
 intro pins s σ H x vs v us Q I rx rv h
 obtain⟨l,xs,rfl,rfl,hH,q⟩:=h
 cases rx
 have hus:=rv.zero
 subst hus
 obtain⟨z,its,n,r,hl,e⟩:=I.lstM hH
 refine call_meets F.slot_list_clear ⟨_,e,rfl⟩ F.entry_list_clear (F.args_list_clear_1 _) (AutoSeq1.list_clear_list_0 l its.toArray n (by rw[List.size_toArray];omega)) ⟨e,?_⟩
 exact⟨.non,_,I.lset (its':=[]) (ys:=[]) hH e rfl .nil (Nat.zero_le _),rfl,q⟩
noncomputable def rCat:R2:=fun x y H Q=>∃l b xs zs,x=.ref l/\y=.ref b/\H l=some (.lst xs)/\H b=some (.lst zs)/\xs.length+zs.length<=sizeLine/\∀p,H p=none->Q (.ref p) (upd H p (.lst (xs++zs)))
theorem zoD:OpR X (binaryOp .Add) rCat:=by
 intro pins s σ H x y v u Q I rx ry h
 obtain⟨l,b,xs,zs,rfl,rfl,hH,hB,hz,q⟩:=h
 cases rx
 cases ry
 obtain⟨z,its,n,r,hl,e⟩:=I.lstM hH
 obtain⟨z2,its2,n2,r2,hl2,e2⟩:=I.lstM hB
 refine PySem.P.add_list e e2 ?_ (by rw[List.size_toArray,List.size_toArray];omega)
 have ea:its.toArray++its2.toArray=(its++its2).toArray:=by simp
 rw[ea]
 exact⟨.ref _,_,I.lnew (t':=s.toks) (r.append r2) (by rw[List.length_append];omega),rfl,q _ I.fresh⟩
end
section
variable {prog:Program} {w:World} {A:Around} {E:Value->Shared->Prop} {s:Shared}
end
section
variable {X:Cx}
end
end L2
namespace Att
open PySem PySem.W PySem.Calls PyProof.Rows
theorem zdd {P:Params}{h:Heap}:∀(ns:List Int) (vs:List Value),WellAll P h vs (ns.map WData.int)->IntsAre vs ns:=by
 intro ns
 induction ns with
 | nil =>
   intro vs w
   rw[List.map_nil] at w
   cases w
   exact .nil
 | cons n ns ih =>
   intro vs w
   rw[List.map_cons] at w
   cases w with
   | cons a b =>
     cases a
     exact .cons _ _ (ih _ b)
theorem zhp {l:OpenLaw}{n:Nat}(hn:l.most=some n){P:Params}{h:Heap}{args:List WData}{vals:List Value}
  (hpre:l.row.toRowW.claim.pre args=true) (hwl:WellAll P h vals args) :
  ∃a vs ns,vals=[Value.ref a]/\args=[WData.list (ns.map WData.int)]/\h.get? a=some {cls:=.type "list",data:=.seq vs.toArray}/\IntsAre vs ns/\ns.length<=n:=by
 have hsh:WShape.hasAll [] args [.list .int]=true:=(pre_splitW hpre).1
 have hc:l.pre.holds [] {args:=args}=true:=(pre_splitW hpre).2
 obtain⟨d,r,rfl,h1,h2⟩:=hasAllW_cons hsh
 obtain rfl:=hasAllW_nil h2
 obtain⟨xs,rfl,h3⟩:=hasW_list h1
 obtain⟨ns,rfl⟩:=items_int h3
 have hlen:ns.length<=n:=by
  unfold OpenLaw.pre at hc
  have h4:(WTm.not (.lt (.lit (.int (n:Int))) (.len (.arg 0)))).holds [] {args:=[.list (ns.map .int)]}=true:=by
   have h4:=(holds_andW hc).1
   rw[hn] at h4
   exact h4
  have h5:=condW_of h4 (w_not (w_lt w_lit (w_len_list (w_arg rfl))))
  rw[List.length_map] at h5
  refine Nat.le_of_not_lt fun q=>?_
  have q':(n:Int)<((ns.length:Nat):Int):=by omega
  first
   |(rw[decide_eq_true q'] at h5;exact absurd h5 (by decide))
   |(simp at h5;omega)
 cases hwl with
 | cons w1 w2 =>
   cases w2
   cases w1 with
   |list ho hall=>exact⟨_,_,ns,rfl,rfl,ho,zdd ns _ hall,hlen⟩
theorem zhJ (l:OpenLaw)(args:List WData):l.row.toRowW.claim.post args (.bool true) args=true:=
 postW_of (r:=l.row.toRowW) (X:=(true == true))
  (show WShape.has [] (.bool true) .bool=true by first|rfl|decide|simp[WShape.has,WShape.arms,WShape.armsAll])
  (show (WTm.eq .res (.lit (.bool true))).value [] {args:=args,res:=some (.bool true),after:=args}=some (.bool (true == true)) from w_eq_bool (w_res rfl) w_lit) rfl
theorem attach_call {l:OpenLaw}{n:Nat}{q:Program}{loose:List Str}{XP:(Str->Option Value)->Heap->Prop}{YP:World->Heap->Prop}{d:DefRec}
  (hn:l.most=some n) (hdf:d.params.defaults=[])
  (call:∀(w:World) (s₀ s₁:Shared) (mg mb:Str->Option Value) (fa:Addr) (o:Obj) (pm cd doc:Value) (a:Addr) (vs:List Value) (ns:List Int),
   Ground q loose [] XP w s₀ mg mb s₁.heap->YP w s₁.heap->
   s₁.heap.get? fa=some o->o.data=.func (docDef d.name d.params d.body d.scope pm cd doc)->s₁.heap.CodeRec cd d.name->mg d.name=some (.ref fa)->
   s₁.heap.get? a=some {cls:=.type "list",data:=.seq vs.toArray}->IntsAre vs ns->ns.length<=n->s₁.gens = #[]->
   codeAny (model l.prog w) callerA (.call (.ref fa) ⟨[.ref a],[]⟩) (fun r s'=>r=.ok (.ret (.bool true))/\OldK s₁.heap s'.heap/\s'.os=s₁.os/\AllBare s'.gens) s₁) :
  WalkO q loose XP YP l.row.toRowW d [] (fun f vs=>PySem.call f vs):=by
 intro w s₀ s₁ mg mb G Y fa o pm cd doc dV kV ho hd hcd hD hmg hg args vals as hpre hlay hrd hwl hlo
 obtain rfl:dV=.none:=Dflts.none hD hdf
 obtain rfl:kV=.none:=Dflts.noKw hD
 obtain⟨a,vs,ns,rfl,rfl,hobj,hints,hlen⟩:=zhp hn hpre hwl
 refine enter_call (codeAny_mono (call w s₀ s₁ mg mb fa o pm cd doc a vs ns G Y ho (fd_plain hd) hcd hmg hobj hints hlen hg) fun r s' hq=>?_)
 obtain⟨rfl,h2,h3,h4⟩:=hq
 exact⟨.inl ⟨.bool true,.bool true,[],rfl,fun _=>rfl,.bool true,zhJ l _,fun _=>⟨List.Pairwise.nil,fun _ hm=>(nomatch hm)⟩⟩,h2,h3,h4⟩
section
variable {prog:Program} {w:World} {A:Around} {E:Value->Shared->Prop} {s:Shared} {K:Frag}
end
end Att
namespace L2
open PySem PySem.Spec PyProof.Rows
theorem zew:∀{vs:List Value} {ns:List Int},IntsAre vs ns->Vals (ns.map V.int) vs
 |_,_,.nil=>.nil
 |_,_,.cons n t h=>.cons ⟨t,rfl⟩ (zew h)
end L2
namespace L2
open PySem PySem.Spec PyProof.Rows
end L2
namespace L2
open PySem PySem.Spec PyProof.Rows
noncomputable def zat (s:Stmt):Arguments:=match s with
 |.FunctionDef _ a _ _ _ _ _ _ _ _=>a
 |_=>{posonlyargs:=[],args:=[],vararg:=none,kwonlyargs:=[],kw_defaults:=[],kwarg:=none,defaults:=[]}
noncomputable def zan (s:Stmt):List Stmt:=match s with
 |.FunctionDef _ _ b _ _ _ _ _ _ _=>b
 |_=>[]
noncomputable def zad (s:Stmt):Scope:=match s with
 |.FunctionDef _ _ _ _ _ _ sc _ _ _=>sc
 |_=>{kind:=.function,names:=[],isGenerator:=false,isCoroutine:=false}
noncomputable abbrev CX0:CXT:=fun _ _ _ _ _ _=>False
noncomputable abbrev E0:XK:=fun _ _ _=>False
theorem zfD {X:Cx}:zds CX0 X E0:=fun _ _ _ _ _ _ _ h=>h.elim
structure Fun (K:W.Frag) (x qual:Str) (st:Stmt) (f:Addr) (fd:FuncData):Prop where
 ex:∃(oc:Value) (od:Option Addr) (kV doc pm:Value) (an:Option Addr) (cdv ct:Value) (osl:Array (Option Value)),
  fd=W.fnOf x qual (zat st) (zan st) (zad st) .none kV doc pm an cdv ct/\K.lookup f=some ⟨oc,od,.func fd,osl⟩/\W.codeIn K cdv qual=true
 kp:W.keepIn K (.ref f)=true
section
variable {P:Program} {w:World} {K:W.Frag} {mg:Str->Option Value} {base:Heap}
end
section
variable {X:Cx}
end
noncomputable def Same (H H':Hp):Prop:=∀b o,H b=some o->H' b=some o
end L2
namespace L2
open PySem PySem.Spec PyProof.Rows
section
variable {X:Cx}
end
section
variable {κ:Type} [DecidableEq κ]
end
end L2
end
section
namespace L2
open PySem PySem.Spec PyProof.Rows
noncomputable def za3 (cells:List (Str × Addr))(y:Str × NameKind)(acc:List (Str × Addr)):List (Str × Addr):=
 if (y.2 == NameKind.free)=true then (match cells.lookup y.1 with|some c=>(y.1,c)::acc|none=>acc) else acc
noncomputable def zfT (cells:List (Str × Addr))(names:List (Str × NameKind))(acc:List (Str × Addr)):List (Str × Addr):=names.foldl (fun a y=>za3 cells y a) acc
theorem zdh {α β:Type}(f:α->β->Sem (ForInStep β))(g:α->β->β):∀(l:List α) (b:β),(∀x∈l,∀b,f x b=pure (.yield (g x b)))->forIn l b f=(pure (l.foldl (fun b x=>g x b) b):Sem β)
 | [],b,_=>rfl
 | x :: l, b, h => by
   rw[List.forIn_cons,h x List.mem_cons_self,pure_bind]
   exact zdh f g l _ fun y hy=>h y (List.mem_cons_of_mem _ hy)
theorem zbs {scope:Scope}{env:Env}(h:∀y∈scope.names,y.2=.free->∃c,env.cells.lookup y.1=some c) :
  closureFor scope env=pure (zfT env.cells scope.names []):=by
 unfold closureFor zfT
 dsimp only
 rw[zdh _ (fun y a=>za3 env.cells y a)]
 · simp
 · intro y hy a
   obtain⟨n,k⟩:=y
   by_cases hk:k=.free
   · obtain⟨c,hc⟩:=h _ hy hk
     subst hk
     simp at hc
     simp[cellOf,hc,za3]
   · have:(k == NameKind.free)=false:=by simpa using hk
     simp[this,za3]
theorem ze4 {cells:List (Str × Addr)}:∀(names:List (Str × NameKind)) (acc:List (Str × Addr)),(∀x c,acc.lookup x=some c->cells.lookup x=some c)->
  ∀x c,(zfT cells names acc).lookup x=some c->cells.lookup x=some c
 | [],acc,h=>h
 | y :: r, acc, h => by
   refine ze4 r (za3 cells y acc) ?_
   intro x c e
   unfold za3 at e
   split at e
   · split at e
     · rename_i c' hc'
       rw[List.lookup_cons] at e
       cases hx:x == y.1 with
       | true =>
         rw[hx] at e
         have q:x=y.1:=beq_iff_eq.mp hx
         have e':c'=c:=Option.some.inj e
         rw[q,<-e']
         exact hc'
       |false=>rw[hx] at e;exact h x c e
     · exact h x c e
   · exact h x c e
theorem zdk {cells:List (Str × Addr)}:∀(names:List (Str × NameKind)) (acc:List (Str × Addr)) (x:Str),(∀y∈names,y.2=.free->∃c,cells.lookup y.1=some c)->
  ((∃c,acc.lookup x=some c)\/(x,NameKind.free)∈names)->∃c,(zfT cells names acc).lookup x=some c
 | [], acc, x, _, h => by
   rcases h with h|h
   · exact h
   · cases h
 | y :: r, acc, x, hf, h => by
   refine zdk r (za3 cells y acc) x (fun z hz=>hf z (List.mem_cons_of_mem _ hz)) ?_
   rcases h with ⟨c,h⟩|h
   · left
     unfold za3
     split
     · split
       · rename_i c' hc'
         rw[List.lookup_cons]
         cases hx:x == y.1 with
         |true=>exact⟨c',rfl⟩
         |false=>exact⟨c,h⟩
       · exact⟨c,h⟩
     · exact⟨c,h⟩
   · rcases List.mem_cons.mp h with h|h
     · left
       subst h
       obtain⟨c,hc⟩:=hf _ List.mem_cons_self rfl
       refine⟨c,?_⟩
       simp at hc
       simp[za3,hc]
     · exact .inr h
noncomputable def zbS (env:Env)(y:Str × NameKind):Str × NameKind:=if (y.2 == .free&&env.scope.kind == .function&&env.kindOf y.1 == some .cell)=true then (y.1,.cell) else y
theorem zbi (scope:Scope)(env:Env):(relabel scope env).names=scope.names.map (zbS env):=by
 unfold relabel
 show scope.names.map _=_
 refine List.map_congr_left fun y _=>?_
 obtain⟨n,k⟩:=y
 rfl
theorem zcY (env:Env)(y:Str × NameKind):(zbS env y).1=y.1:=by unfold zbS;split<;>rfl
theorem zcX (env:Env)(y:Str × NameKind):(zbS env y).2=y.2\/(y.2=.free/\(zbS env y).2=.cell):=by
 unfold zbS
 split
 · rename_i h
   simp only[Bool.and_eq_true,beq_iff_eq] at h
   exact .inr ⟨h.1.1,rfl⟩
 · exact .inl rfl
theorem zbx (env:Env)(x:Str):∀names:List (Str × NameKind),∀k,(names.map (zbS env)).lookup x=some k->∃k0,(x,k0)∈names/\names.lookup x=some k0/\(k=k0\/(k0=.free/\k=.cell))
 | [],k,h=>by simp at h
 | y :: r, k, h => by
   rw[List.map_cons] at h
   have f1:=zcY env y
   have f2:=zcX env y
   obtain⟨n,k1⟩:=y
   generalize hz:zbS env (n,k1)=z at *
   obtain⟨zn,zk⟩:=z
   simp only at f1 f2
   subst f1
   rw[List.lookup_cons] at h
   rw[List.lookup_cons]
   cases hx:x == zn with
   | true =>
     rw[hx] at h
     have q:x=zn:=beq_iff_eq.mp hx
     subst q
     have e:zk=k:=Option.some.inj h
     subst e
     exact⟨k1,List.mem_cons_self,rfl,f2⟩
   | false =>
     rw[hx] at h
     obtain⟨k0,m,l,q⟩:=zbx env x r k h
     exact⟨k0,List.mem_cons_of_mem _ m,l,q⟩
theorem zbj (env:Env)(x:Str):∀names:List (Str × NameKind),names.lookup x=some .free->(names.map (zbS env)).lookup x=some .free\/(names.map (zbS env)).lookup x=some .cell
 | [],h=>by simp at h
 | y :: r, h => by
   rw[List.map_cons]
   have f1:=zcY env y
   have f2:=zcX env y
   obtain⟨n,k1⟩:=y
   generalize hz:zbS env (n,k1)=z at *
   obtain⟨zn,zk⟩:=z
   simp only at f1 f2
   subst f1
   rw[List.lookup_cons] at h
   rw[List.lookup_cons]
   cases hx:x == zn with
   | true =>
     rw[hx] at h
     have e:k1=.free:=Option.some.inj h
     subst e
     rcases f2 with f2|⟨_,f2⟩
     · left;show some zk=_;rw[f2]
     · right;show some zk=_;rw[f2]
   | false =>
     rw[hx] at h
     exact zbj env x r h
structure CompOk (sc scope:Scope) (N0:List Str) (js:List Nat):Prop where
 kind:scope.kind=.function
 nocell:∀y∈scope.names,y.2≠.cell
 locs:∀y∈scope.names,y.2=.local->scope.names.lookup y.1=some .local
 frees:∀y∈scope.names,y.2=.free->sc.names.lookup y.1=some .cell\/sc.names.lookup y.1=some .free
 caps:∀j∈js,scope.names.lookup (N0.getD j "")=some .free/\j<N0.length
noncomputable abbrev zaH (X:Cx)(N':List Str)(scope:Scope)(cl:List (Str × Addr))(C:Addr)(fp:List Addr)(s:Shared)(H:Hp)(pn:List (Addr × Obj)):Cx:=
 {X with N:=N',s₀:=s,H₀:=H,env:=compEnvC scope cl C X.env,outer:=X.stack,stack:=X.stack,ex:=fp,fn:=fun _=>false,pn:=pn,xe:=fun _ _=>False}
noncomputable def csl (nt:Nat)(js:List Nat)(σ:St):St:=List.replicate nt none++js.map fun j=>(σ[j]?).join
noncomputable abbrev capN (N0:List Str)(tgs:List Str)(js:List Nat):List Str:=tgs++js.map fun j=>N0.getD j ""
noncomputable def PTs (X:Cx)(ifs:List Expr)(t:TT):Prop:=
 ∀(pins:List (Addr × Obj)) (s:Shared) (σ:St) (H:Hp) (Q:Bool->Hp->Prop),Inv X pins σ H s->t σ H Q->
  wpAny (model X.prog X.w) X.A (forIn ifs true fun c r=>if r=true then do let ok <-isTrue c X.env (eval c X.env);pure (ForInStep.yield ok) else pure (ForInStep.yield r)) (TP X pins σ Q) X.xe s
noncomputable def tYes:TT:=fun _ H Q=>Q true H
theorem zlX {X:Cx}:PTs X [] tYes:=fun pins s σ H Q I h=>wpAny_tests_nil ⟨H,I,h⟩
theorem zhE {X:Cx}{c:Expr}{t:TT}(h:PT X c t):PTs X [c] t:=fun pins s σ H Q I q=>wpAny_tests_one (h pins s σ H Q I q)
noncomputable def zlm (nt:Nat)(js:List Nat)(wi:TI)(g:TG)(tt:TT)(te:TE):TE:=fun σ H Q=>wi σ H fun J H1=>∀p,H1 p=none->
 ∃W:Nat->Nat->St->Hp->Prop,(∃m,W 0 m (csl nt js σ) (upd H1 p (.lst [])))/\∀i m σ' H',W i m σ' H'->
  (J.stop i H'/\Q (.ref p) H')\/(J.go i H'/\∃N:St->Hp->Prop,(∀σ2 H2,N σ2 H2->∃m',m'<m/\W (i+1) m' σ2 H2)/\
   ∀x H2,J.yld i H' x H2->g x σ' H2 fun σ2 H3=>tt σ2 H3 fun b H4=>if b=true then te σ2 H4 fun v H5=>∃acc,H5 p=some (.lst acc)/\acc.length<sizeLine/\N σ2 (upd H5 p (.lst (acc++[v]))) else N σ2 H4)
section
variable {prog:Program} {w:World} {A:Around} {R:Result->Shared->Prop} {s:Shared}
theorem zg5 {elt tg iter:Expr}{ifs:List Expr}{scope:Scope}{pos:Pos}{it acc:Value}{env:Env}(J:Nat->Shared->Prop)
  (turn:∀n s,J n s->wpAny (model prog w) A (pyNext it) (fun r s₁=>(r=none/\R (.ok .next) s₁)\/∃v,r=some v/\
   wpAny (model prog w) A (letOwnedTupleGo tg it v) (fun _ s₀=>wpAny (model prog w) A (assign tg env v) (fun _ s₂=>
    wpAny (model prog w) A (forIn ifs true fun c r=>if r=true then do let ok <-isTrue c env (eval c env);pure (ForInStep.yield ok) else pure (ForInStep.yield r)) (fun ok s₃=>
     if ok=true then wpAny (model prog w) A (eval elt env) (fun x s₄=>wpAny (model prog w) A (call (.builtin "list.append") [acc,x]) (fun _ s₅=>∃m,m<n/\J m s₅) (fun _ _=>False) s₄) (fun _ _=>False) s₃
     else ∃m,m<n/\J m s₃) (fun _ _=>False) s₂) (fun _ _=>False) s₀) (fun _ _=>False) s₁) (fun _ _=>False) s)
  (n:Nat) (h:J n s):codeAny (model prog w) A (.compLoop (.ListComp elt [⟨tg,iter,ifs,0⟩] scope pos) 0 it acc env) R s:=by
 refine codeAny_loop rfl J (fun n s hI=>?_) n h
 show wpAny _ A ((compTurn (.ListComp elt [⟨tg,iter,ifs,0⟩] scope pos) 0 it acc env).onRaise (fun x=>do noteFrame x env;theTreesLotGoes x)) _ _ s
 refine wpAny_noted ?_
 rw[compTurn_list]
 refine wpAny_bind (wpAny_standAt (wpAny_bind (wpAny_mono (turn n s hI) (fun r s₁ h₁=>?_) fun _ _ f=>f.elim)))
 rcases h₁ with ⟨rfl,h₁⟩|⟨v,rfl,h₁⟩
 · exact wpAny_pure h₁
 · refine wpAny_bind (wpAny_mono h₁ (fun _ s₀ h₀=>?_) fun _ _ f=>f.elim)
   refine wpAny_bind (wpAny_mono h₀ (fun _ s₂ h₂=>?_) fun _ _ f=>f.elim)
   refine wpAny_bind (wpAny_mono h₂ (fun ok s₃ h₃=>?_) fun _ _ f=>f.elim)
   cases ok with
   |false=>exact wpAny_pure ⟨rfl,h₃⟩
   | true =>
     refine wpAny_bind (wpAny_bind (wpAny_mono h₃ (fun x s₄ h₄=>?_) fun _ _ f=>f.elim))
     exact wpAny_bind (wpAny_mono h₄ (fun _ s₅ h₅=>wpAny_pure (wpAny_pure ⟨rfl,h₅⟩)) fun _ _ f=>f.elim)
end
section
variable {X:Cx} {sc scope:Scope} {tgs:List Str} {js:List Nat} {elt tg iter:Expr} {ifs:List Expr} {pos:Pos} {wi:TI} {g:TG} {tt:TT} {te:TE}
theorem zdK (hc:X.calm=true)(hsc:X.env.scope=sc)(ok:CompOk sc scope X.N js)
  (hg:∀cl C fp s H pn,PG (zaH X (capN X.N tgs js) scope cl C fp s H pn) tg g)
  (ht:∀cl C fp s H pn,PTs (zaH X (capN X.N tgs js) scope cl C fp s H pn) ifs tt)
  (he:∀cl C fp s H pn,PE (zaH X (capN X.N tgs js) scope cl C fp s H pn) elt te)
  {pins:List (Addr × Obj)} {σ:St} {H2:Hp} {s2:Shared} {it:Addr} {fp:List Addr} {tn:Nat->Heap->Prop} {J:It} {E:Value->Shared->Prop} {RR:Value->Addr->Result->Shared->Prop} {Q:VK}
  (I2:Inv X pins σ H2 s2) (T:Turn X.prog X.w X.K tg J fp it tn) (st2:tn 0 s2.heap) (f2:∀b∈fp,FpOk X pins H2 b)
  (rd:∀p,H2 p=none->∃W:Nat->Nat->St->Hp->Prop,(∃m,W 0 m (csl tgs.length js σ) (upd H2 p (.lst [])))/\∀i m σ' H',W i m σ' H'->
   (J.stop i H'/\Q (.ref p) H')\/(J.go i H'/\∃N:St->Hp->Prop,(∀σ2 H2,N σ2 H2->∃m',m'<m/\W (i+1) m' σ2 H2)/\
    ∀x H2,J.yld i H' x H2->g x σ' H2 fun σ2 H3=>tt σ2 H3 fun b H4=>if b=true then te σ2 H4 fun v H5=>∃acc,H5 p=some (.lst acc)/\acc.length<sizeLine/\N σ2 (upd H5 p (.lst (acc++[v]))) else N σ2 H4))
  (fin:∀p C H' s',Inv X pins σ H' s'->(∃m,s'.heap.Ns C m)->s2.heap.objs.size<C->H' C=none->Q (.ref p) H'->RR (.ref p) C (.ok .next) s') :
  wpAny (model X.prog X.w) X.A (newList []) (fun acc s₃=>wpAny (model X.prog X.w) X.A (newFunctionEnv scope X.env.globals (zfT X.env.cells scope.names []) [] X.env.qual none .none (some X.env)) (fun cenv s₄=>
   codeAny (model X.prog X.w) X.A (.compStart (.ListComp elt [⟨tg,iter,ifs,0⟩] scope pos) 0 (.ref it) acc {cenv with scope:=relabel scope X.env}) (RR acc cenv.locals) s₄) E s₃) E s2:=by
 subst hsc
 refine wpAny_newObj_type (wpAny_newFunctionEnv ok.nocell (by intro y hy;simp at hy) (fun h₁ hns₁ hsb₁=>?_) ok.kind)
 have I3:Inv X pins σ (upd H2 s2.heap.objs.size (.lst [])) {s2 with heap:=s2.heap.push {cls:=.type "list",data:=.seq ([]:List Value).toArray}}:=
  I2.lnew (its:=[]) (ys:=[]) (t':=s2.toks) .nil (Nat.zero_le _)
 obtain⟨W,⟨m0,w0⟩,turn⟩:=rd _ I2.fresh
 generalize hp:s2.heap.objs.size=p at *
 generalize hs3:({s2 with heap:=s2.heap.push {cls:=.type "list",data:=.seq ([]:List Value).toArray}}:Shared)=s3 at I3
 have e3:s3.heap=s2.heap.push {cls:=.type "list",data:=.seq ([]:List Value).toArray}:=by rw[<-hs3]
 have sz3:s3.heap.objs.size=p+1:=by rw[e3,Heap.size_push,hp]
 generalize hH3:upd H2 p (.lst [])=H3 at *
 -- the block's frame
 have hns:h₁.Ns s3.heap.objs.size (fun x=>([]:List (Str × Value)).reverse.lookup x):=by rw[e3];exact hns₁
 have hsb:Heap.SameBut s3.heap.objs.size (s3.heap.push {cls:=.type "dict",data:=.dict #[]}) h₁:=by rw[e3];exact hsb₁
 have old:∀b o,s3.heap.get? b=some o->h₁.get? b=some o:=fun b o e=>
  (hsb.2 b (Nat.ne_of_lt (Heap.lt_size e))).trans (Heap.get?_push_of_some _ e)
 have frees:∀y∈scope.names,y.2=.free->∃c,X.env.cells.lookup y.1=some c:=fun y hy hk=>I2.ok.has y.1 (ok.frees y hy hk)
 have cellX:∀x c,(zfT X.env.cells scope.names []).lookup x=some c->X.env.cells.lookup x=some c:=ze4 scope.names [] (fun x c e=>by simp at e)
 generalize hcl:zfT X.env.cells scope.names []=cl at *
 have okX:(zaH X (capN X.N tgs js) scope cl s3.heap.objs.size fp s3 H3 (X.pn++pins)).Ok:=
  { mod := I3.ok.mod, kind := ok.kind, glob := I3.ok.glob, blt := I3.ok.blt, above := Nat.le_refl _,
    inj:=fun x y c e1 e2=>I3.ok.inj x y c (cellX x c e1) (cellX y c e2),
    has:=fun x hk=>by
     have hk':(scope.names.map (zbS X.env)).lookup x=some .cell\/(scope.names.map (zbS X.env)).lookup x=some .free:=by
      rw[<-zbi];exact hk
     rw[<-hcl]
     refine zdk scope.names [] x frees (.inr ?_)
     rcases hk' with q|q
     · obtain⟨k0,m,_,e⟩:=zbx X.env x _ _ q
       rcases e with e|⟨e,_⟩
       · subst e;exact absurd rfl (ok.nocell _ m)
       · subst e;exact m
     · obtain⟨k0,m,_,e⟩:=zbx X.env x _ _ q
       rcases e with e|⟨e,z⟩
       · subst e;exact m
       · exact absurd z (fun h=>(nomatch h)),
    cab:=fun x c e=>absurd e Bool.false_ne_true,hd:=I3.ok.hd,frames:=I3.ok.frames,stk:=.inl rfl,
    exf:=fun b hb=>⟨Nat.ne_of_lt (by
     obtain⟨o,ho,_⟩:=T.obj 0 _ st2 b hb
     show b<s3.heap.objs.size
     rw[sz3,<-hp]
     exact Nat.lt_succ_of_lt (Heap.lt_size ho)),fun x c e=>(f2 b hb).2.2.2.2.1 x c (cellX x c e)⟩,
    bs:=I3.bs,bsz:=Nat.le_trans I3.ok.bsz I3.sz,
    noex:=fun b o e hb=>by
     rcases (f2 b hb).2.2.2.1 with z|z
     · exact I3.ok.noex b o e z
     · exact absurd (Nat.lt_of_lt_of_le (Heap.lt_size e) (Nat.le_trans I3.ok.bsz z)) (Nat.lt_irrefl _),
    exfs:=fun b hb hx=>by
     rcases List.mem_cons.mp (I3.stkSub b hx) with z|z
     · exact (f2 b hb).2.1 z
     · exact (f2 b hb).2.2.1 z,
    funs:=I3.stack,frf:=I3.stkFree}
 have I4:Inv (zaH X (capN X.N tgs js) scope cl s3.heap.objs.size fp s3 H3 (X.pn++pins)) [] (csl tgs.length js σ) H3 {s3 with heap:=h₁}:=
  { ok := okX, os := rfl, bare := I3.bare, base := Un.kept old,
    loc:=⟨_,hns,fun i x v e1 e2 e3=>by
     have e1:(tgs++js.map fun j=>X.N.getD j "")[i]?=some x:=e1
     have e2:(List.replicate tgs.length none++js.map fun j=>(σ[j]?).join)[i]?=some (some v):=e2
     by_cases hi:i<tgs.length
     · rw[List.getElem?_append_left (by rw[List.length_replicate];exact hi),List.getElem?_replicate,if_pos hi] at e2
       cases e2
     · rw[List.getElem?_append_right (by omega),List.getElem?_map] at e1
       rw[List.getElem?_append_right (by rw[List.length_replicate];omega),List.length_replicate,List.getElem?_map] at e2
       cases hj:js[i - tgs.length]? with
       |none=>rw[hj] at e1;cases e1
       | some j =>
         rw[hj] at e1 e2
         have e1:X.N.getD j ""=x:=Option.some.inj e1
         have e2:(σ[j]?).join=some v:=Option.some.inj e2
         have hjm:j∈js:=List.mem_of_getElem? hj
         obtain⟨hfr,hjl⟩:=ok.caps j hjm
         rw[e1] at hfr
         have hNj:X.N[j]?=some x:=by
          rw[List.getElem?_eq_getElem hjl]
          rw[List.getD_eq_getElem?_getD,List.getElem?_eq_getElem hjl] at e1
          exact congrArg some e1
         have hσ:σ[j]?=some (some v):=by
          cases q:σ[j]? with
          |none=>rw[q] at e2;cases e2
          | some o =>
            rw[q] at e2
            have e2:o=some v:=e2
            rw[e2]
         have hmem:(x,NameKind.free)∈scope.names:=by
          obtain⟨l1,l2,h3,_⟩:=List.lookup_eq_some_iff.mp hfr
          rw[h3];simp
         have hkX:=ok.frees _ hmem rfl
         have hvis:Vis X.env.scope x:=hkX.elim (fun z=>.inr (.inl z)) fun z=>.inr (.inr z)
         obtain⟨m,hn,hl⟩:=I3.loc
         obtain⟨u,r,lk⟩:=hl j x v hNj hσ hvis
         refine⟨u,r,.inr ⟨?_,?_⟩⟩
         · have q:=zbj X.env x scope.names hfr
           rw[<-zbi] at q
           exact q.symm
         · rcases lk with ⟨k,_⟩|⟨_,c,ec,z⟩
           · exfalso
             have k:X.env.scope.names.lookup x=some .local:=k
             rcases hkX with q|q<;>(rw[k] at q;cases q)
           · obtain⟨c',hc'⟩:∃c',cl.lookup x=some c':=by
              rw[<-hcl]
              exact zdk scope.names [] x frees (.inr hmem)
             have q:=cellX x c' hc'
             rw[ec] at q
             cases q
             obtain⟨o,ho,hd⟩:=z
             exact⟨c,hc',o,old _ _ ho,hd⟩⟩,
    cell:=fun x c e=>by
     obtain⟨v,o,ho,hd⟩:=I3.cell x c (cellX x c e)
     exact⟨v,o,old _ _ ho,hd⟩,
    free:=I3.fresh,
    freeC:=fun x c e=>I3.freeC x c (cellX x c e),
    pin:=fun q hq=>by
     have hq:q∈X.pn++pins:=by simpa using hq
     obtain⟨e,n,ne,nf,d⟩:=I3.pin q hq
     refine⟨old _ _ e,n,Nat.ne_of_lt (Heap.lt_size e),fun z=>?_,d⟩
     rcases List.mem_cons.mp (I3.stkSub _ z) with z|z
     · exact ne z
     · exact nf z,
    hok:=I3.hok.kept old,
    len:=by
     show (List.replicate tgs.length none++js.map fun j=>(σ[j]?).join).length=(tgs++js.map fun j=>X.N.getD j "").length
     simp}
 have stat:∀{H':Hp},(∀b∈fp,H' b=none)->∀b∈fp,FpOk (zaH X (capN X.N tgs js) scope cl s3.heap.objs.size fp s3 H3 (X.pn++pins)) [] H' b:=fun hn b hb=>
  ⟨hn b hb,(okX.exf b hb).1,okX.exfs b hb,.inl hb,(okX.exf b hb).2,fun q hq=>by
   have hq:q∈X.pn++pins:=by simpa using hq
   exact (f2 b hb).2.2.2.2.2 q hq⟩
 have fr3:∀b∈fp,H3 b=none:=fun b hb=>by
  obtain⟨o,ho,_⟩:=T.obj 0 _ st2 b hb
  rw[<-hH3,zae (Nat.ne_of_lt (hp▸Heap.lt_size ho))]
  exact (f2 b hb).1
 have st4:tn 0 h₁:=T.keep 0 _ _ st2 fun b hb o e=>old b o (by rw[e3];exact Heap.get?_push_of_some _ e)
 have loop:codeAny (model X.prog X.w) X.A (.compLoop (.ListComp elt [⟨tg,iter,ifs,0⟩] scope pos) 0 (.ref it) (.ref p) (compEnvC scope cl s3.heap.objs.size X.env)) (RR (.ref p) s3.heap.objs.size) {s3 with heap:=h₁}:=by
  refine zg5 (fun n s'=>∃i σ' H',Inv (zaH X (capN X.N tgs js) scope cl s3.heap.objs.size fp s3 H3 (X.pn++pins)) [] σ' H' s'/\tn i s'.heap/\(∀b∈fp,H' b=none)/\W i n σ' H') ?_ m0 ⟨0,_,H3,I4,st4,fr3,w0⟩
  rintro n s4 ⟨i,σ4,H4,J4,st4,fr4,w4⟩
  rcases turn i n σ4 H4 w4 with ⟨stop,qn⟩|⟨go,N,hN,step⟩
  · refine thn (T.done (zaH X (capN X.N tgs js) scope cl s3.heap.objs.size fp s3 H3 (X.pn++pins)) rfl rfl rfl hc i [] s4 σ4 H4 _ J4 (stat fr4) st4 stop) fun r s5 ⟨hr,J5⟩=>.inl ⟨hr,?_⟩
    have hX:Inv X pins σ H4 s5:=I3.call' J5.os J5.base J5.hok J5.bare fun b hb=>⟨(f2 b hb).2.2.2.1,(f2 b hb).2.1,(f2 b hb).2.2.2.2.1,(f2 b hb).2.2.2.2.2⟩
    obtain⟨m,hm,_⟩:=J5.loc
    exact fin p _ H4 s5 hX ⟨m,hm⟩ (by rw[sz3];exact Nat.lt_succ_self _) J5.free qn
  · refine thn (T.item (zaH X (capN X.N tgs js) scope cl s3.heap.objs.size fp s3 H3 (X.pn++pins)) rfl rfl rfl hc i [] s4 σ4 H4 _ J4 (stat fr4) st4 go) fun r s5 ⟨u,hr,h5⟩=>.inr ⟨u,hr,?_⟩
    refine thn h5 fun _ s6 ⟨x,H6,J6,r6,y6,st6,fr6⟩=>?_
    have J6':=J6.pinned (stat fr6) (T.obj _ _ st6)
    refine thn (hg _ _ _ _ _ _ _ s6 σ4 H6 x u _ J6' r6 (step x H6 y6)) fun _ s7 ⟨σ7,H7,J7,q7⟩=>?_
    refine thn (ht _ _ _ _ _ _ _ s7 σ7 H7 _ J7 q7) fun ok8 s8 ⟨H8,J8,q8⟩=>?_
    have again:∀{s9:Shared} {H9:Hp},Inv (zaH X (capN X.N tgs js) scope cl s3.heap.objs.size fp s3 H3 (X.pn++pins)) ([]++zeS fp s6.heap) σ7 H9 s9->N σ7 H9->
      ∃m,m<n/\∃i σ' H',Inv (zaH X (capN X.N tgs js) scope cl s3.heap.objs.size fp s3 H3 (X.pn++pins)) [] σ' H' s9/\tn i s9.heap/\(∀b∈fp,H' b=none)/\W i m σ' H':=fun {s9 H9} J9 n9=>by
     obtain⟨m',hm,w9⟩:=hN σ7 H9 n9
     refine⟨m',hm,i+1,σ7,H9,J9.unpinned,T.keep _ _ _ st6 fun b hb o e=>(J9.pin (b,o) (List.mem_append_right _ (List.mem_append_right _ (zbP hb e)))).1,fun b hb=>?_,w9⟩
     obtain⟨o,e,d⟩:=T.obj _ _ st6 b hb
     exact (J9.pin (b,o) (List.mem_append_right _ (List.mem_append_right _ (zbP hb e)))).2.1
    cases ok8 with
    |false=>exact again J8 q8
    | true =>
      refine thn (he _ _ _ _ _ _ _ s8 σ7 H8 _ J8 q8) fun y s9 ⟨v,H9,J9,r9,acc,ha,hl,q9⟩=>?_
      refine thn (zeU _ s9 σ7 H9 (.ref p) [v] (.ref p) [y] (fun _ H=>N σ7 H) J9 rfl (.cons r9 .nil) ⟨p,acc,v,rfl,rfl,ha,hl,q9⟩) fun _ s10 ⟨_,H10,J10,_,q10⟩=>?_
      exact again J10 q10
 exact codeAny_compStart_list loop (T.self _ 0 _ _ _ st4 loop)
theorem zjC (sc:Scope)(tgs:List Str)(js:List Nat)(hc:X.calm=true)(hsc:X.env.scope=sc)(ok:CompOk sc scope X.N js)(hi:PI X tg iter wi)
  (hg:∀cl C fp s H pn,PG (zaH X (capN X.N tgs js) scope cl C fp s H pn) tg g)
  (ht:∀cl C fp s H pn,PTs (zaH X (capN X.N tgs js) scope cl C fp s H pn) ifs tt)
  (he:∀cl C fp s H pn,PE (zaH X (capN X.N tgs js) scope cl C fp s H pn) elt te)
  (hs:∀x,foldedSetIterable iter X.env x=pure x:=by intro _;rfl) :
  PE X (.ListComp elt [⟨tg,iter,ifs,0⟩] scope pos) (zlm tgs.length js wi g tt te):=by
 intro pins s σ H Q I h
 rw[eval_ListComp]
 have frees:∀y∈scope.names,y.2=.free->∃c,X.env.cells.lookup y.1=some c:=fun y hy hk=>I.ok.has y.1 (by
  have q:=ok.frees y hy hk
  rw[<-hsc] at q
  exact q)
 refine wpAny_comprehension_free (use:=none) rfl hs (zbs frees) ok.kind ok.locs (thn (hi pins s σ H _ I h) fun v s1 h1=>thn h1 fun itv s2 h2=>?_)
 obtain⟨it,fp,tn,J,H2,e,I2,T,st2,f2,rd⟩:=h2
 subst e
 refine zdK hc hsc ok hg ht he I2 T st2 f2 rd (Q:=Q) fun p C H' s' I' hm hC hn q=>?_
 obtain⟨m,hm⟩:=hm
 refine⟨m,hm,fun h' hs'=>⟨.ref p,H',?_,rfl,q⟩⟩
 exact I'.turned (t':=s'.toks) (it:=C) (fun b o hb e=>(hs'.2 b hb).trans e) hn (Nat.ne_of_gt (Nat.lt_trans I2.lt hC)) (.inr (Nat.le_trans I2.sz (Nat.le_of_lt hC))) (fun x c e=>by
  obtain⟨v,o,ho,_⟩:=I2.cell x c e
  exact Nat.ne_of_lt (Nat.lt_trans (Heap.lt_size ho) hC)) fun q hq=>Nat.ne_of_lt (Nat.lt_trans (Heap.lt_size (I2.pin q hq).1) hC)
theorem zlY (sc:Scope)(tgs:List Str)(js:List Nat){i:Nat}{y:Str}{py spos:Pos}(hN:X.N.Nodup)(hi':X.N[i]?=some y)(hy:Loc X.env.scope y)(hc:X.calm=true)(hsc:X.env.scope=sc)(ok:CompOk sc scope X.N js)(hi:PI X tg iter wi)
  (hg:∀cl C fp s H pn,PG (zaH X (capN X.N tgs js) scope cl C fp s H pn) tg g)
  (ht:∀cl C fp s H pn,PTs (zaH X (capN X.N tgs js) scope cl C fp s H pn) ifs tt)
  (he:∀cl C fp s H pn,PE (zaH X (capN X.N tgs js) scope cl C fp s H pn) elt te)
  (hsw:swapsWith (.ListComp elt [⟨tg,iter,ifs,0⟩] scope pos) (some (.Name y py)) spos.line X.env=pure true:=by rfl)
  (hs:∀x,foldedSetIterable iter X.env x=pure x:=by intro _;rfl)
  (hf:X.fn y=true\/X.env.scope.names.lookup y=some .local:=by first|exact .inl rfl|exact .inr rfl|assumption) :
  PS X (.Assign [.Name y py] (.ListComp elt [⟨tg,iter,ifs,0⟩] scope pos) spos) (tAsg (zlm tgs.length js wi g tt te) (zer i)):=by
 intro pins s σ H D I h
 have frees:∀y∈scope.names,y.2=.free->∃c,X.env.cells.lookup y.1=some c:=fun y hy hk=>I.ok.has y.1 (by
  have q:=ok.frees y hy hk
  rw[<-hsc] at q
  exact q)
 rw[exec_Assign_Name_used _ _ _ _ hsw]
 refine wpAny_bind (wpAny_standAt (wpAny_bind ?_))
 show wpAny _ X.A (do let _ <-comprehension (.ListComp elt [⟨tg,iter,ifs,0⟩] scope pos) scope X.env _ (newList []) false (eval iter X.env) (some (assign (.Name y py) X.env))) _ _ s
 refine wpAny_bind (wpAny_mono (wpAny_comprehension_free (use:=some (assign (.Name y py) X.env)) (Q:=fun _ s'=>SP X pins D .next s') rfl hs (zbs frees) ok.kind ok.locs
  (thn (hi pins s σ H _ I h) fun v s1 h1=>thn h1 fun itv s2 h2=>?_)) (fun _ s' hq=>wpAny_pure (wpAny_pure hq)) fun _ _ e=>e)
 obtain⟨it,fp,tn,J,H2,e,I2,T,st2,f2,rd⟩:=h2
 subst e
 refine zdK hc hsc ok hg ht he I2 T st2 f2 rd (Q:=fun x H1=>zer i x σ H1 D.nx) fun p C H' s' I' hm hC hn q=>?_
 obtain⟨m,hm⟩:=hm
 have hL:C≠X.env.locals:=Nat.ne_of_gt (Nat.lt_trans I2.lt hC)
 have hCc:∀x c,X.env.cells.lookup x=some c->c≠C:=fun x c e=>by
  obtain⟨v,o,ho,_⟩:=I2.cell x c e
  exact Nat.ne_of_lt (Nat.lt_trans (Heap.lt_size ho) hC)
 show wpAny _ X.A (assign (.Name y py) X.env (.ref p)) _ _ _
 refine wpAny_assign_Name (zeA I' hN hi' hy (v:=.ref p) rfl (fun s'' I'' hch=>?_) hf)
 obtain⟨a,hsb,ha⟩:=hch
 have hCa:C≠a:=by
  rcases ha with z|z
  · rw[z];exact hL
  · exact fun e=>hCc y a z e.symm
 refine⟨m,hm.sameBut hsb hCa,fun h' hs'=>⟨σ.set i (some (.ref p)),H',?_,q⟩⟩
 exact I''.turned (t':=s''.toks) (it:=C) (fun b o hb e=>(hs'.2 b hb).trans e) hn hL (.inr (Nat.le_trans I2.sz (Nat.le_of_lt hC))) hCc fun q hq=>Nat.ne_of_lt (Nat.lt_trans (Heap.lt_size (I2.pin q hq).1) hC)
end
end L2
end
section
namespace L2
open PySem PySem.Spec PyProof.Rows
structure FunV (K:W.Frag) (x qual:Str) (st:Stmt) (dV:Value) (f:Addr) (fd:FuncData):Prop where
 ex:∃(oc:Value) (od:Option Addr) (kV doc pm:Value) (an:Option Addr) (cdv ct:Value) (osl:Array (Option Value)),
  fd=W.fnOf x qual (zat st) (zan st) (zad st) dV kV doc pm an cdv ct/\K.lookup f=some ⟨oc,od,.func fd,osl⟩/\W.codeIn K cdv qual=true
 kp:W.keepIn K (.ref f)=true
theorem zdf {K:W.Frag}{x qual:Str}{st:Stmt}{f:Addr}{oc:Value}{od an:Option Addr}{osl:Array (Option Value)}{dV kV doc pm cdv ct:Value}(l:K.lookup f=some ⟨oc,od,.func (W.fnOf x qual (zat st) (zan st) (zad st) dV kV doc pm an cdv ct),osl⟩)
 (c:W.codeIn K cdv qual=true) (k:W.keepIn K (.ref f)=true):FunV K x qual st dV f (W.fnOf x qual (zat st) (zan st) (zad st) dV kV doc pm an cdv ct):=⟨⟨oc,od,kV,doc,pm,an,cdv,ct,osl,rfl,l,c⟩,k⟩
section
variable {P:Program} {w:World} {K:W.Frag} {mg:Str->Option Value} {base:Heap}
theorem FunV.ok {x qual:Str}{st:Stmt}{dV:Value}{f:Addr}{fd:FuncData}{N ps:List Str}{k:Nat}{sp:Sp}(F:FunV K x qual st dV f fd)(S:FnScope N ps (zad st))(len:∀vs H Q E,sp vs H Q E->vs.length=ps.length)
  (hbody:∀(cdv:Value) (A:Around) (outer:List Env) (s:Shared) (H:Hp) (vs:List V) (Q:VK) (E:XK),Room k (A.deeper (envOfC qual (zad st) s.heap.objs.size f cdv))->sp vs H Q E->
   ∃t,PSs (cxOf CX0 P w K mg base N qual (zad st) f cdv A outer s H E).nox (zan st) t/\t {nx:=fun _ H'=>Q .non H',rt:=Q} (start N vs) H):FnOk P w K mg base CX0 (k+1) f fd ps sp:=by
 obtain⟨oc,od,kV,doc,pm,an,cdv,ct,osl,rfl,lk,hcd⟩:=F.ex
 refine zoU lk hcd S len fun A outer s H vs Q E hr hsp=>?_
 obtain⟨t,h,q⟩:=hbody cdv A outer s H vs Q E hr hsp
 exact⟨t,h.nox,q⟩
theorem FunV.binds {x qual:Str}{st:Stmt}{dV:Value}{f:Addr}{fd:FuncData}{ps:List Str}(F:FunV K x qual st dV f fd)
  (h:∀(kV doc pm:Value) (an:Option Addr) (cdv ct:Value) (us:List Value),us.length=ps.length->bindArgs (W.fnOf x qual (zat st) (zan st) (zad st) dV kV doc pm an cdv ct) ⟨us,[]⟩=pure (ps.zip us)):Binds K fd ps []:=by
 obtain⟨oc,od,kV,doc,pm,an,cdv,ct,osl,rfl,lk,hcd⟩:=F.ex
 exact .all (h kV doc pm an cdv ct)
structure Has (P:Program) (w:World) (K:W.Frag) (mg:Str->Option Value) (base:Heap) (k:Nat) (x:Str) (ps:List Str) (dvs:List V) (sp:Sp):Prop where
 ex:∃(f:Addr) (fd:FuncData) (ds:List Value),FnOk P w K mg base CX0 k f fd ps sp/\mg x=some (.ref f)/\W.keepIn K (.ref f)=true/\Binds K fd ps ds/\Vals dvs ds
end
theorem zl8 {X:Cx}{k:Nat}{x:Str}{ps:List Str}{dvs:List V}{sp:Sp}{p pos:Pos}{e:Expr}{es:List Expr}{t:TA}(G:Has X.prog X.w X.K X.mg X.base k x ps dvs sp)(hr:Room k X.A)(ha:PA X (e::es) t)(hg:Gl X x:=by rfl)
  (hdb:(x == ("__debug__":Str))=false:=by decide) (he:starEach (e::es) X.env=(false,eval e X.env)::starEach es X.env:=by rfl) (hpl:(backTo pos (starEach es X.env)).any (·.1)=false:=by rfl) :
  PE X (.Call (.Name x p) (e::es) [] pos) (zdu sp dvs E0 t):=by
 obtain⟨f,fd,ds,F,hm,hk,hb,hd⟩:=G.ex
 exact zma F hr hg hm hk hb hd zfD ha hdb he hpl
theorem zoo {X:Cx}{k:Nat}{x:Str}{ps:List Str}{dvs:List V}{sp:Sp}{p pos:Pos}(G:Has X.prog X.w X.K X.mg X.base k x ps dvs sp)(hr:Room k X.A)(hg:Gl X x:=by rfl)
  (hdb:(x == ("__debug__":Str))=false:=by decide):PE X (.Call (.Name x p) [] [] pos) (zdu sp dvs E0 tNil):=by
 obtain⟨f,fd,ds,F,hm,hk,hb,hd⟩:=G.ex
 exact zjK F hr hg hm hk hb hd zfD hdb
mutual
noncomputable def Rep (H:Hp):PyData->V->Prop
 |.none,v=>v=.non
 |.bool b,v=>v=.bl b
 |.int i,v=>v=.int i
 |.str x,v=>v=.str x
 |.list ds,v=>∃a vs,v=.ref a/\H a=some (.lst vs)/\RepAll H ds vs
 |.tuple ds,v=>∃a vs,v=.ref a/\H a=some (.tup vs)/\RepAll H ds vs
 |.dict _,_=>False
noncomputable def RepAll (H:Hp):List PyData->List V->Prop
 | [],vs=>vs=[]
 |d::ds,vs=>∃v r,vs=v::r/\Rep H d v/\RepAll H ds r
end
mutual
noncomputable def imm:PyData->Bool
 |.none=>true
 |.bool _=>true
 |.int _=>true
 |.str _=>true
 |.list _=>false
 |.tuple ds=>ze0 ds
 |.dict _=>false
noncomputable def ze0:List PyData->Bool
 | []=>true
 |d::ds=>imm d&&ze0 ds
end
noncomputable def Tups (H H':Hp):Prop:=∀b xs,H b=some (.tup xs)->H' b=some (.tup xs)
theorem Tups.refl (H:Hp):Tups H H:=fun _ _ h=>h
theorem Tups.trans {H H1 H2:Hp}(a:Tups H H1)(b:Tups H1 H2):Tups H H2:=fun c xs h=>b c xs (a c xs h)
theorem Tups.upd {H:Hp}{p:Addr}{o:HO}(h:∀xs,H p≠some (.tup xs)):Tups H (upd H p o):=fun b xs e=>by
 have hb:b≠p:=fun z=>by subst z;exact h xs e
 rw[zae hb];exact e
theorem Tups.upd_lst {H:Hp}{p:Addr}{o:HO}{xs:List V}(h:H p=some (.lst xs)):Tups H (L2.upd H p o):=Tups.upd fun ys e=>by rw[h] at e;cases e
theorem Tups.upd_new {H:Hp}{p:Addr}{o:HO}(h:H p=none):Tups H (L2.upd H p o):=Tups.upd fun ys e=>by rw[h] at e;cases e
mutual
theorem Rep.same {H H':Hp}(hs:Same H H'):∀{d:PyData} {v:V},Rep H d v->Rep H' d v
 |.none,_,h=>h
 |.bool _,_,h=>h
 |.int _,_,h=>h
 |.str _,_,h=>h
 | .list ds, v, h => by
   obtain⟨a,vs,e,ha,r⟩:=h
   exact⟨a,vs,e,hs _ _ ha,RepAll.same hs r⟩
 | .tuple ds, v, h => by
   obtain⟨a,vs,e,ha,r⟩:=h
   exact⟨a,vs,e,hs _ _ ha,RepAll.same hs r⟩
 |.dict _,_,h=>h
theorem RepAll.same {H H':Hp}(hs:Same H H'):∀{ds:List PyData} {vs:List V},RepAll H ds vs->RepAll H' ds vs
 | [],_,h=>h
 | d :: ds, vs, h => by
   obtain⟨v,r,e,h1,h2⟩:=h
   exact⟨v,r,e,Rep.same hs h1,RepAll.same hs h2⟩
end
mutual
theorem Rep.tups {H H':Hp}(hs:Tups H H'):∀{d:PyData} {v:V},imm d=true->Rep H d v->Rep H' d v
 |.none,_,_,h=>h
 |.bool _,_,_,h=>h
 |.int _,_,_,h=>h
 |.str _,_,_,h=>h
 |.list ds,v,i,h=>by simp[imm] at i
 | .tuple ds, v, i, h => by
   obtain⟨a,vs,e,ha,r⟩:=h
   exact⟨a,vs,e,hs _ _ ha,RepAll.tups hs (by simpa[imm] using i) r⟩
 |.dict _,_,_,h=>h
theorem RepAll.tups {H H':Hp}(hs:Tups H H'):∀{ds:List PyData} {vs:List V},ze0 ds=true->RepAll H ds vs->RepAll H' ds vs
 | [],_,_,h=>h
 | d :: ds, vs, i, h => by
   obtain⟨v,r,e,h1,h2⟩:=h
   have i':imm d=true/\ze0 ds=true:=by simpa[ze0] using i
   exact⟨v,r,e,Rep.tups hs i'.1 h1,RepAll.tups hs i'.2 h2⟩
end
theorem RepAll.ints (H:Hp):∀ns:List Int,RepAll H (ns.map PyData.int) (ns.map V.int)
 | []=>rfl
 |n::ns=>⟨_,_,rfl,rfl,RepAll.ints H ns⟩
mutual
theorem Rep.reads {X:Cx}{pins:List (Addr × Obj)}{σ:St}{H:Hp}{s:Shared}(I:Inv X pins σ H s):∀(d:PyData) (v:V) (u:Value),Rep H d v->RelV v u->∃as,Reads s.heap u d as
 | .none, v, u, h, r => by
   cases (show v=.non from h)
   cases (show u=Value.none from r)
   exact⟨_,.none⟩
 | .bool b, v, u, h, r => by
   cases (show v=.bl b from h)
   cases (show u=Value.bool b from r)
   exact⟨_,.bool b⟩
 | .int i, v, u, h, r => by
   cases (show v=.int i from h)
   obtain⟨t,rfl⟩:=(show ∃t,u=Value.int i t from r)
   exact⟨_,.int i t⟩
 | .str x, v, u, h, r => by
   cases (show v=.str x from h)
   obtain⟨t,rfl⟩:=(show ∃t,u=Value.str x t from r)
   exact⟨_,.str x t⟩
 | .list ds, v, u, h, r => by
   obtain⟨a,vs,rfl,ha,hr⟩:=h
   cases (show u=Value.ref a from r)
   obtain⟨its,n,rv,e,_⟩:=I.lst ha
   obtain⟨as,q⟩:=RepAll.reads I ds vs its hr rv
   exact⟨_,.list e rfl rfl q⟩
 | .tuple ds, v, u, h, r => by
   obtain⟨a,vs,rfl,ha,hr⟩:=h
   cases (show u=Value.ref a from r)
   obtain⟨its,rv,⟨o,e1,e2,n,e3⟩,_⟩:=I.tuple (SqT.of (K:=X.K) ha)
   obtain⟨as,q⟩:=RepAll.reads I ds vs its hr rv
   exact⟨_,.tuple e1 e2 e3 q⟩
 |.dict _,_,_,h,_=>False.elim h
theorem RepAll.reads {X:Cx}{pins:List (Addr × Obj)}{σ:St}{H:Hp}{s:Shared}(I:Inv X pins σ H s):∀(ds:List PyData) (vs:List V) (us:List Value),RepAll H ds vs->Vals vs us->∃as,ReadsAll s.heap us ds as
 | [], vs, us, h, r => by
   cases (show vs=[] from h)
   cases r
   exact⟨_,.nil⟩
 | d :: ds, vs, us, h, r => by
   obtain⟨v,vr,rfl,h1,h2⟩:=h
   cases r with
   | cons r1 r2 =>
     obtain⟨as,q1⟩:=Rep.reads I d v _ h1 r1
     obtain⟨bs,q2⟩:=RepAll.reads I ds vr _ h2 r2
     exact⟨_,.cons q1 q2⟩
end
theorem eqv_int (i j:Int):PyData.eqv (.int i) (.int j)=(i == j):=by simp[PyData.eqv]
section
variable {X:Cx}
noncomputable def rEqD (g:Bool->Bool):R2:=fun x y H Q=>∃da db,Rep H da x/\Rep H db y/\da.canLay0=true/\db.canLay0=true/\min da.depth db.depth<=60/\Q (.bl (g (PyData.eqv da db))) H
theorem zoC (hu:X.A.units+64<cLine):OpR X (compareOp .Eq) (rEqD id):=by
 intro pins s σ H x y v u Q I rx ry h
 obtain⟨da,db,h1,h2,l1,l2,hd,q⟩:=h
 obtain⟨as,r1⟩:=Rep.reads I da x v h1 rx
 obtain⟨bs,r2⟩:=Rep.reads I db y u h2 ry
 exact SeqAt.compareEq_reads r1 r2 l1 l2 (by omega) (zaw I q rfl)
theorem zoz (hu:X.A.units+64<cLine):OpR X (compareOp .NotEq) (rEqD not):=by
 intro pins s σ H x y v u Q I rx ry h
 obtain⟨da,db,h1,h2,l1,l2,hd,q⟩:=h
 obtain⟨as,r1⟩:=Rep.reads I da x v h1 rx
 obtain⟨bs,r2⟩:=Rep.reads I db y u h2 ry
 exact SeqAt.compareNe_reads r1 r2 l1 l2 (by omega) (zaw I q rfl)
noncomputable def zcF (H:Hp):V->Option String
 |.non=>some "NoneType"
 |.bl _=>some "bool"
 |.int _=>some "int"
 |.str _=>some "str"
 | .ref a => match H a with
   |some (.lst _)=>some "list"
   |some (.frz _ (.lst _))=>some "list"
   |some (.tup _)=>some "tuple"
   |some (.dK _)=>some "dict"
   |some (.dT _)=>some "dict"
   |_=>none
 |_=>none
theorem zhh {K:W.Frag}{H:Hp}{x:V}{a:String}(h:zcF H x=some a):TyOf K H x (.type a):=by
 cases x with
 |non=>cases h;exact .non
 |bl b=>cases h;exact .bl b
 |int i=>cases h;exact .int i
 |str y=>cases h;exact .str y
 |byt _=>cases h
 |flt _=>cases h
 |ty _=>cases h
 | ref p =>
   unfold zcF at h
   cases e:H p with
   |none=>simp[e] at h
   | some o =>
     cases o with
     |lst xs=>simp[e] at h;subst h;exact .lst e
     |tup xs=>simp[e] at h;subst h;exact .tup e
     |dK kvs=>simp[e] at h;subst h;exact .dK e
     |dT kvs=>simp[e] at h;subst h;exact .dT e
     | frz ob q =>
       cases q with
       |lst xs=>simp[e] at h;subst h;exact .frz e
       |_=>simp[e] at h
     |_=>simp[e] at h
noncomputable def subT (a b:String):Bool:=a == b || (a == "bool"&&b == "int")
theorem zmq (K:W.Frag){a b:String}(ha:a∈["NoneType","bool","int","str","list","tuple","dict"])(hb:b∈["bool","int","str","list","tuple","dict"]):W.kitOne K (.type a) (.type b)=some (subT a b):=by
 simp only[List.mem_cons,List.not_mem_nil,or_false] at ha hb
 rcases ha with rfl|rfl|rfl|rfl|rfl|rfl|rfl<;>rcases hb with rfl|rfl|rfl|rfl|rfl|rfl<;>rfl
theorem zgI {H:Hp}{x:V}{a:String}(h:zcF H x=some a):a∈["NoneType","bool","int","str","list","tuple","dict"]:=by
 cases x with
 |non=>cases h;simp
 |bl b=>cases h;simp
 |int i=>cases h;simp
 |str y=>cases h;simp
 |byt _=>cases h
 |flt _=>cases h
 |ty _=>cases h
 | ref p =>
   unfold zcF at h
   simp only at h
   split at h<;>first|(cases h;simp)|cases h
theorem zfU:zcc X (.builtin "isinstance") (fun xs H Q=>∃x c a,xs=[x,.ty c]/\zcF H x=some a/\c∈["bool","int","str","list","tuple","dict"]/\Q (.bl (subT a c)) H):=by
 intro pins s σ H xs us Q I r h
 obtain⟨x,c,a,rfl,hx,hc,q⟩:=h
 obtain⟨u,w',rfl,rx,rc⟩:=zlb r
 cases (show w'=Value.type c from rc)
 exact zeY I rx (zhh hx) (zmq X.K (zgI hx) hc) fun tk=>⟨.bl (subT a c),H,I.tok tk,rfl,q⟩
end
end L2
namespace L2
open PySem PySem.Spec PyProof.Rows
section
variable {X:Cx} {scope:Scope} {elt tg iter:Expr} {ifs:List Expr} {pos:Pos} {wi:TI} {g:TG} {tt:TT} {te:TE}
end
end L2
namespace L2
open PySem PySem.Spec PyProof.Rows
section
variable {X:Cx} (K:W.Frag) (hK:X.K=K)
include hK
end
end L2
end
section
namespace TM
structure Good (m:Nat) (wo:Option Int) (s:Int) (n:Nat) (p:List Int):Prop where
 len:p.length=n
 head:p.head?=some s
 nd:p.Nodup
 rng:∀h∈p,0<=h/\h<m/\wo≠some h
end TM
end
section
namespace L2
open PySem PySem.Spec PyProof.Rows
theorem zpj:bootBuiltins "len"=some (.builtin "len"):=by decide +kernel
theorem zpi:bootBuiltins "min"=some (.builtin "min"):=by decide +kernel
theorem zcw:bootBuiltins "isinstance"=some (.builtin "isinstance"):=by decide +kernel
theorem zpk:bootBuiltins "int"=some (.type "int"):=by decide +kernel
theorem zmW:bootBuiltins "bool"=some (.type "bool"):=by decide +kernel
theorem zph:bootBuiltins "str"=some (.type "str"):=by decide +kernel
theorem zfW:bootBuiltins "list"=some (.type "list"):=by decide +kernel
theorem zgD:bootBuiltins "tuple"=some (.type "tuple"):=by decide +kernel
theorem zmV:bootBuiltins "dict"=some (.type "dict"):=by decide +kernel
noncomputable def cellZ (ns:List Int)(k:Nat):Int:=match ns[k]? with|some v=>v % 10 ^ 64|none=>0
end L2
end
section
namespace R
noncomputable def zcy (a b:Int × Int):Bool:=decide (b.2<a.2\/(a.2=b.2/\a.1<=b.1))
noncomputable def za0 (rows:List (Int × Int)):List (Int × Int):=rows.mergeSort zcy
noncomputable def bump:List (Int × Int)->Int->List (Int × Int)
 | [],w=>[(w,1)]
 |(k,c)::r,w=>if k=w then (k,c+1)::r else (k,c)::bump r w
noncomputable def zah (kvs:List (Int × Int))(ws:List (Option Int)):List (Int × Int):=ws.foldl (fun a w=>match w with|some x=>bump a x|none=>a) kvs
theorem zcv:∀(kvs:List (Int × Int)) (w:Int),(bump kvs w).map (·.1)=if w∈kvs.map (·.1) then kvs.map (·.1) else kvs.map (·.1)++[w]
 | [],w=>by simp[bump]
 | (k, c) :: r, w => by
   unfold bump
   by_cases e:k=w
   · subst e;simp
   · have ih:=zcv r w
     rw[if_neg e]
     simp only[List.map_cons,List.mem_cons,ih]
     by_cases h:w∈r.map (·.1)
     · rw[if_pos h,if_pos (.inr h)]
     · rw[if_neg h,if_neg (by rintro (z|z);exact e z.symm;exact h z)];rfl
theorem zha {kvs:List (Int × Int)}{w:Int}(h:(kvs.map (·.1)).Nodup):((bump kvs w).map (·.1)).Nodup:=by
 rw[zcv]
 split
 · exact h
 · rename_i n
   rw[List.nodup_append]
   refine⟨h,by simp,?_⟩
   intro a ha b hb
   rw[List.mem_singleton] at hb
   subst hb
   intro z
   subst z
   exact n ha
noncomputable def at0 (kvs:List (Int × Int))(x:Int):Int:=match kvs.find? (fun r=>r.1 == x) with|some r=>r.2|none=>0
theorem zgF:∀(kvs:List (Int × Int)) (w x:Int),at0 (bump kvs w) x=at0 kvs x+if x=w then 1 else 0
 | [], w, x => by
   unfold bump at0
   by_cases e:w=x
   · subst e;simp
   · have:¬x=w:=fun z=>e z.symm
     simp[e,this]
 | (k, c) :: r, w, x => by
   unfold bump
   have ih:=zgF r w x
   by_cases e:k=w
   · subst e
     rw[if_pos rfl]
     by_cases z:k=x
     · subst z;simp[at0]
     · have z':¬x=k:=fun y=>z y.symm
       simp[at0,z,z']
   · rw[if_neg e]
     by_cases z:k=x
     · subst z;simp[at0,e]
     · have h1:at0 ((k,c)::bump r w) x=at0 (bump r w) x:=by simp[at0,z]
       have h2:at0 ((k,c)::r) x=at0 r x:=by simp[at0,z]
       rw[h1,h2,ih]
theorem ziV {kvs:List (Int × Int)}(nd:(kvs.map (·.1)).Nodup){x c:Int}(h:(x,c)∈kvs):at0 kvs x=c:=by
 induction kvs with
 |nil=>cases h
 | cons a r ih =>
   obtain⟨k,d⟩:=a
   simp only[List.map_cons,List.nodup_cons] at nd
   rcases List.mem_cons.mp h with e|e
   · cases e;simp[at0]
   · have:¬k=x:=fun z=>nd.1 (by rw[z];exact List.mem_map.mpr ⟨_,e,rfl⟩)
     have h2:at0 ((k,d)::r) x=at0 r x:=by simp[at0,this]
     rw[h2];exact ih nd.2 e
theorem zaR:∀(ws:List (Option Int)) {kvs:List (Int × Int)},(kvs.map (·.1)).Nodup->((zah kvs ws).map (·.1)).Nodup
 | [],_,h=>h
 |some w::ws,kvs,h=>zaR ws (zha (w:=w) h)
 |none::ws,kvs,h=>zaR ws h
theorem zbo:∀(ws:List (Option Int)) (kvs:List (Int × Int)) (x:Int),at0 (zah kvs ws) x=at0 kvs x+(ws.count (some x):Nat)
 | [],kvs,x=>by simp[zah]
 | some w :: ws, kvs, x => by
   show at0 (zah (bump kvs w) ws) x=_
   rw[zbo ws (bump kvs w) x,zgF,List.count_cons]
   by_cases e:x=w
   · subst e;simp;omega
   · have:¬(w=x):=fun z=>e z.symm
     simp[e,this]
 | none :: ws, kvs, x => by
   show at0 (zah kvs ws) x=_
   rw[zbo ws kvs x,List.count_cons]
   simp
theorem zaU:∀(ws:List (Option Int)) (kvs:List (Int × Int)) (x:Int),x∈(zah kvs ws).map (·.1)↔x∈kvs.map (·.1)\/some x∈ws
 | [],kvs,x=>by simp[zah]
 | some w :: ws, kvs, x => by
   show x∈(zah (bump kvs w) ws).map (·.1)↔_
   rw[zaU ws (bump kvs w) x,zcv]
   by_cases h:w∈kvs.map (·.1)
   · rw[if_pos h]
     constructor
     · rintro (z|z)
       · exact .inl z
       · exact .inr (List.mem_cons_of_mem _ z)
     · rintro (z|z)
       · exact .inl z
       · rcases List.mem_cons.mp z with y|y
         · cases y;exact .inl h
         · exact .inr y
   · rw[if_neg h]
     constructor
     · rintro (z|z)
       · rcases List.mem_append.mp z with y|y
         · exact .inl y
         · rw[List.mem_singleton] at y;subst y;exact .inr List.mem_cons_self
       · exact .inr (List.mem_cons_of_mem _ z)
     · rintro (z|z)
       · exact .inl (List.mem_append_left _ z)
       · rcases List.mem_cons.mp z with y|y
         · cases y;exact .inl (List.mem_append_right _ (List.mem_singleton.mpr rfl))
         · exact .inr y
 | none :: ws, kvs, x => by
   show x∈(zah kvs ws).map (·.1)↔_
   rw[zaU ws kvs x]
   simp
theorem counts_row {ws:List (Option Int)}{x c:Int}:(x,c)∈zah [] ws↔some x∈ws/\c=(ws.count (some x):Nat):=by
 have nd:((zah [] ws).map (·.1)).Nodup:=zaR ws (by simp)
 have at_:=zbo ws [] x
 have k0:at0 [] x=0:=rfl
 rw[k0,Int.zero_add] at at_
 constructor
 · intro h
   have:=(zaU ws [] x).mp (List.mem_map.mpr ⟨_,h,rfl⟩)
   refine⟨this.resolve_left (by simp),?_⟩
   rw[<-at_,ziV nd h]
 · rintro⟨h,rfl⟩
   have:=(zaU ws [] x).mpr (.inr h)
   obtain⟨⟨y,c⟩,hm,rfl⟩:=List.mem_map.mp this
   have e:=ziV nd hm
   have:c=(ws.count (some y):Nat):=by rw[<-at_];exact e.symm
   rw[<-this];exact hm
theorem zdP (ws:List (Option Int)):(zah [] ws).length<=ws.length:=by
 have:∀(ws:List (Option Int)) (kvs:List (Int × Int)),(zah kvs ws).length<=kvs.length+ws.length:=by
  intro ws
  induction ws with
  |nil=>intro kvs;simp[zah]
  | cons w ws ih =>
    intro kvs
    cases w with
    |none=>have:=ih kvs;show (zah kvs ws).length<=_;simp;omega
    | some x =>
      have:=ih (bump kvs x)
      have hb:(bump kvs x).length<=kvs.length+1:=by
       have:=congrArg List.length (zcv kvs x)
       simp only[List.length_map] at this
       rw[this];split<;>simp
      show (zah (bump kvs x) ws).length<=_
      simp;omega
 simpa using this ws []
end R
end
section
namespace R
noncomputable abbrev K3:=Int × List Int × Int
end R
end
section
namespace R
open PySem (Str PyData Operator CmpOp)
inductive D where
 |non|bl (b:Bool)|int (i:Int)|str (x:Str)|tup (ds:List D)|ref (l:Nat)
 |fix (ds:List D)
 |clo (kvs:List (K3 × Option Int))
inductive MO where
 |lst (ds:List D)|ins (c:Nat) (fs:List (Str × D))
 |d3 (kvs:List (K3 × D))
structure St where
 frz:List MO
 new:List MO
 lk:List Nat
inductive Out (α:Type) where
 |ok (a:α) (S:St)
 |err (d:D) (S:St)
 |bad
noncomputable def Out.bind {α β:Type}(o:Out α)(f:α->St->Out β):Out β:=match o with
 |.ok a S=>f a S
 |.err d S=>.err d S
 |.bad=>.bad
noncomputable def lift {α:Type}(S:St):Option α->Out α
 |some a=>.ok a S
 |none=>.bad
namespace St
noncomputable def get (S:St)(l:Nat):Option MO:=if l<S.frz.length then S.frz[l]? else S.new[l - S.frz.length]?
noncomputable def len (S:St):Nat:=S.frz.length+S.new.length
noncomputable def push (S:St)(o:MO):St:={S with new:=S.new++[o]}
noncomputable def put (S:St)(l:Nat)(o:MO):Option St:=if l<S.frz.length then none else if S.lk.contains l then none else some {S with new:=S.new.set (l - S.frz.length) o}
noncomputable def enter (S:St):St:=⟨S.frz++S.new,[],[]⟩
end St
noncomputable def lay (S:St)(ds:List D):Out D:=if ds.length<=16777216 then .ok (.ref S.len) (S.push (.lst ds)) else .bad
noncomputable def wr (S:St)(l:Nat)(ds:List D)(d:D):Out D:=if ds.length<=16777216 then (match S.put l (.lst ds) with|some S'=>.ok d S'|none=>.bad) else .bad
noncomputable def pd (S:St):Nat->D->Option PyData
 |_,.non=>some .none
 |_,.bl b=>some (.bool b)
 |_,.int i=>some (.int i)
 |_,.str x=>if PySem.PyData.strOk x then some (.str x) else none
 |n+1,.tup ds=>(ds.mapM (pd S n)).map PyData.tuple
 | n + 1, .ref l => match S.get l with
   |some (.lst ds)=>(ds.mapM (pd S n)).map PyData.list
   |_=>none
 |_,.fix _=>none
 |_,.clo _=>none
 |0,_=>none
mutual
noncomputable def flat (n:Nat):D->Bool
 |.tup ds=>flats n ds
 |.ref l=>decide (l<n)
 |.fix ds=>flats n ds
 |_=>true
noncomputable def flats (n:Nat):List D->Bool
 | []=>true
 |d::ds=>flat n d&&flats n ds
end
noncomputable def za6 (S:St):D->Option (List D)
 |.tup ds=>some ds
 |.fix ds=>some ds
 | .ref l => match S.get l with
   |some (.lst ds)=>some ds
   |_=>none
 |_=>none
noncomputable def lkOf (S:St):D->List Nat
 |.ref l=>[l]
 |_=>[]
noncomputable def tru (S:St):D->Option Bool
 |.non=>some false
 |.bl b=>some b
 |.int i=>some (i != 0)
 |.tup ds=>some (!ds.isEmpty)
 | .ref l => match S.get l with
   |some (.lst ds)=>some (!ds.isEmpty)
   |_=>none
 |_=>none
noncomputable def tyOf (S:St):D->Option String
 |.non=>some "NoneType"
 |.bl _=>some "bool"
 |.int _=>some "int"
 |.str _=>some "str"
 |.tup _=>some "tuple"
 | .ref l => match S.get l with
   |some (.lst _)=>some "list"
   |_=>none
 |.fix _=>none
 |.clo _=>none
noncomputable def ixN (n:Nat)(i:Int):Option Nat:=if 0<=i then (if i<n then some i.toNat else none) else if -(n:Int)<=i then some (i+n).toNat else none
noncomputable def atI {α:Type}(xs:List α)(i:Int):Option α:=(ixN xs.length i).bind fun j=>xs[j]?
noncomputable def sIx (n d:Nat):Option Int->Nat
 |none=>d
 |some i=>if i<0 then (i+n).toNat else min i.toNat n
noncomputable def cut {α:Type}(xs:List α)(lo hi:Option Int):List α:=(xs.drop (sIx xs.length 0 lo)).take (sIx xs.length xs.length hi - sIx xs.length 0 lo)
noncomputable def zdB:D->Option Int
 |.int i=>some i
 |_=>none
noncomputable def zbB (m:Bool)(d:D):Option (Option Int):=if m then (match d with|.int i=>some (some i)|_=>none) else some none
noncomputable def zeT (i j:Int):Bool:=decide (-(2 ^ 64)<i/\i<2 ^ 64) || decide (-(2 ^ 64)<j/\j<2 ^ 64)
noncomputable def binI (S:St)(op:Operator)(i j:Int):Out D:=match op with
 |.Add=>.ok (.int (i+j)) S
 |.Sub=>.ok (.int (i - j)) S
 |.Mult=>if zeT i j then .ok (.int (i * j)) S else .bad
 |.FloorDiv=>if 0<j/\j<1073741824 then .ok (.int (i / j)) S else .bad
 |.Mod=>if 0<j then .ok (.int (i % j)) S else .bad
 |.Pow=>if 0<=j/\j<=1000000/\-18446744073709551616<i/\i<18446744073709551616 then .ok (.int (i ^ j.toNat)) S else .bad
 |_=>.bad
noncomputable def binD (S:St)(op:Operator)(x y:D):Out D:=match x,y with
 |.int i,.int j=>binI S op i j
 |.tup xs,.tup ys=>(match op with|.Add=>if xs.length+ys.length<=16777216 then .ok (.tup (xs++ys)) S else .bad|_=>.bad)
 |.ref a,.ref b=>(match op,S.get a,S.get b with|.Add,some (.lst xs),some (.lst ys)=>lay S (xs++ys)|_,_,_=>.bad)
 |_,_=>.bad
noncomputable def eqD (S:St)(x y:D):Option Bool:=(pd S 60 x).bind fun a=>(pd S 60 y).map fun b=>PyData.eqv a b
noncomputable def inD (S:St)(x:D)(ys:List D):Option Bool:=(ys.mapM fun z=>eqD S z x).map fun bs=>bs.any id
noncomputable def za8 (ds:List D):Option (List Int):=ds.mapM zdB
noncomputable def cmpI (op:CmpOp)(i j:Int):Option Bool:=match op with
 |.Eq=>some (decide (i=j))
 |.NotEq=>some (!decide (i=j))
 |.Lt=>some (decide (i<j))
 |.LtE=>some (decide (i<=j))
 |.Gt=>some (decide (j<i))
 |.GtE=>some (decide (j<=i))
 |_=>none
noncomputable def zmu:D->Bool|.non=>true|_=>false
noncomputable def zbT:D->Option (Option Int)
 |.non=>some none
 |.int i=>some (some i)
 |_=>none
noncomputable def key3:D->Option K3
 |.tup [.int a,.tup ds,.int b]=>(za8 ds).map fun p=>(a,p,b)
 |_=>none
noncomputable def zfx (kvs:List (K3 × D))(k:K3)(v:D):List (K3 × D):=if k∈kvs.map (·.1) then kvs.map (fun x=>if x.1=k then (x.1,v) else x) else kvs++[(k,v)]
noncomputable def cmpO (S:St)(op:CmpOp)(x y:D):Option Bool:=match op with
 |.Eq=>eqD S x y
 |.NotEq=>(eqD S x y).map (!·)
 |.Is=>(match y with|.non=>some (zmu x)|_=>none)
 |.IsNot=>(match y with|.non=>some (!zmu x)|_=>none)
 |.NotIn=>((za6 S y).bind fun ys=>inD S x ys).map (!·)
 |_=>none
noncomputable def cmpD (S:St)(op:CmpOp)(x y:D):Option Bool:=match x,y with
 |.int i,.int j=>cmpI op i j
 |_,_=>cmpO S op x y
inductive Bi where
 |len|min2|isin (t:String)
noncomputable def zcx (ds:List D):Option (List (Option Int)):=ds.mapM zbT
inductive Mt where
 |append
noncomputable def bi (S:St):Bi->List D->Out D
 | .len, [x] => (match x with
   |.tup ds=>.ok (.int ds.length) S
   |.fix ds=>.ok (.int ds.length) S
   |.ref l=>(match S.get l with|some (.lst ds)=>.ok (.int ds.length) S|_=>.bad)
   |_=>.bad)
 |.min2,[.int i,.int j]=>.ok (.int (if j<i then j else i)) S
 |.isin t,[x]=>(match tyOf S x with|some a=>.ok (.bl (a == t || (a == "bool"&&t == "int"))) S|none=>.bad)
 |_,_=>.bad
noncomputable def isL (S:St):D->Bool
 |.ref l=>(match S.get l with|some (.lst _)=>true|_=>false)
 |_=>false
noncomputable def mt (S:St):Mt->D->List D->Out D
 |.append,.ref l,[y]=>(match S.get l with|some (.lst ds)=>wr S l (ds++[y]) .non|_=>.bad)
 |_,_,_=>.bad
noncomputable def dPut (S:St)(x y v:D):Option St:=match x with
 | .ref l => (match S.get l with
   |some (.d3 kvs)=>(key3 y).bind fun k=>if kvs.length<16777216 then S.put l (.d3 (zfx kvs k v)) else none
   |some (.lst ds)=>(zdB y).bind fun i=>(ixN ds.length i).bind fun j=>S.put l (.lst (ds.set j v))
   |_=>none)
 |_=>none
noncomputable def wD:Option Int->D
 |none=>.non
 |some i=>.int i
noncomputable def putW (kvs:List (K3 × Option Int))(k:K3)(o:Option Int):List (K3 × Option Int):=if k∈kvs.map (·.1) then kvs.map (fun x=>if x.1=k then (x.1,o) else x) else kvs++[(k,o)]
noncomputable def lie4:D->Option (K3 × Option Int)
 |.tup [.int a,.tup ds,.int b,w]=>(za8 ds).bind fun p=>(zbT w).map fun o=>((a,p,b),o)
 |_=>none
noncomputable def zaA (kvs:List (K3 × Option Int)):List (K3 × Option Int)->List (K3 × Option Int)
 | []=>kvs
 |l::ls=>zaA (putW kvs l.1 l.2) ls
noncomputable def zco:D->List D->Option D
 |.clo kvs,[.int t,.tup ds,.int b,w]=>(za8 ds).map fun p=>(match kvs.find? fun kv=>decide (kv.1=(t,p,b)) with|some kv=>wD kv.2|none=>w)
 |_,_=>none
noncomputable def zb7 (S:St):D->Option (Nat × List (Str × D))
 |.ref l=>(match S.get l with|some (.ins c fs)=>some (c,fs)|_=>none)
 |_=>none
noncomputable def zhD (f:Str)(v:D):List (Str × D)->List (Str × D)
 | []=>[(f,v)]
 |(g,x)::r=>if g=f then (g,v)::r else (g,x)::zhD f v r
noncomputable def zbW (S:St)(x:D)(f:Str)(v:D):Option St:=match x with
 |.ref l=>(match S.get l with|some (.ins c fs)=>if fs.length<1000 then S.put l (.ins c (zhD f v fs)) else none|_=>none)
 |_=>none
noncomputable def zkR:D->Bool|.non=>true|_=>false
noncomputable def stpI (n:Nat)(k:Int):List Nat:=PySem.sliceRange (if k > 0 then 0 else (n:Int) - 1) (if k > 0 then (n:Int) else -1) k
noncomputable def stp {α:Type}(xs:List α)(k:Int):List α:=(stpI xs.length k).filterMap (xs[·]?)
mutual
inductive CE where
 |loc (i:Nat)|con (d:D)
 |tst (a:CE)
 |bin (op:Operator) (a b:CE)|neg (a:CE)|nt (a:CE)
 |cmp (op:CmpOp) (a b:CE)
 |and (a b:CE)|or (a b:CE)|ite (c a b:CE)
 |tup (es:CEs)|lst (es:CEs)|dnew3
 |ix (a b:CE)
 |fld (a:CE) (f:Str)|mk (c f:Nat) (x:Str) (j:Nat) (es:CEs)|meth (m:Str) (tb:List (Nat × Nat)) (o:CE) (es:CEs)|isc (cs:List Nat) (x:Str) (a:CE)|callC (f:Nat) (x m:Str) (es:CEs)|clr (a:CE)|callV (a:CE) (es:CEs)
 |sl (a:CE) (ml mh:Bool) (lo hi:CE)|slS (a b:CE)
 |call (f j:Nat) (es:CEs)|callW (f j:Nat) (es:CEs)|bi (b:Bi) (es:CEs)|mt (m:Mt) (o:CE) (es:CEs)
 |mkL (l:CL)|mkT (l:CL)|ext (a:CE) (l:CL)
inductive CEs where
 |nil|cons (e:CE) (r:CEs)
inductive CL where
 |val (e:CE)|callL (f j:Nat) (es:CEs)|rng1 (a:CE)|rng2 (a b:CE)
 |comp (nt:Nat) (js:List Nat) (g:List Nat) (it:CL) (c:CE) (e:CE)
end
inductive CS where
 |nil|stop|asg (i:Nat) (e:CE) (r:CS)|asgT (g:List Nat) (e:CE) (r:CS)|setIx (a b e:CE) (r:CS)|setF (a:CE) (f:Str) (e:CE) (r:CS)
 |ifS (c:CE) (t u:CS) (r:CS)|forS (g:List Nat) (l:CL) (b:CS) (r:CS)|ret (e:CE) (r:CS)|expr (e:CE) (r:CS)|pass (r:CS)
noncomputable abbrev Ev:=List (Option D)
noncomputable def zdq:List Nat->List D->Ev->Ev
 |i::is,d::ds,δ=>zdq is ds (δ.set i (some d))
 |_,_,δ=>δ
noncomputable def asgG (g:List Nat)(x:D)(δ:Ev):Option Ev:=match g with
 | [i]=>some (δ.set i (some x))
 |is=>(match x with|.tup ds=>if ds.length=is.length then some (zdq is ds δ) else none|_=>none)
noncomputable abbrev CF:=Nat->List D->St->Out D
noncomputable def zcj (S:St)(d:D)(T:St):Out D:=
 if flat S.len d then .ok d S else
 let keep:Out D:=.ok d ⟨S.frz,S.new++T.new,S.lk⟩
 match d with
  | .ref l => (match T.get l with
    |some (.lst ds)=>if flats S.len ds then .ok (.ref S.len) (S.push (.lst ds)) else keep
    |_=>keep)
  |_=>keep
noncomputable def zc9 (S:St)(d:D)(T:St):Out (List D):=match d with
 |.ref l=>if l<S.len then .bad else (match T.get l with|some (.lst ds)=>if flats S.len ds then .ok ds S else .bad|_=>.bad)
 |_=>.bad
@[irreducible] noncomputable def app (cf:CF)(f:Nat)(ds:List D)(S:St):Out D:=(cf f ds S.enter).bind fun d T=>zcj S d T
@[irreducible] noncomputable def appL (cf:CF)(f:Nat)(ds:List D)(S:St):Out (List D):=(cf f ds S.enter).bind fun d T=>zc9 S d T
@[irreducible] noncomputable def appW (cf:CF)(f:Nat)(ds:List D)(S:St):Out D:=cf f ds S
noncomputable def csl (nt:Nat)(js:List Nat)(δ:Ev):Ev:=List.replicate nt none++js.map fun j=>(δ[j]?).join
noncomputable def zax (g:List Nat)(c:Ev->St->Out Bool)(e:Ev->St->Out D):List D->Ev->St->Out (List D)
 | [],_,S=>.ok [] S
 | x :: xs, δ, S => match asgG g x δ with
   |none=>.bad
   |some δ'=>(c δ' S).bind fun b S1=>if b then (e δ' S1).bind fun d S2=>(zax g c e xs δ' S2).bind fun ds S3=>.ok (d::ds) S3 else zax g c e xs δ' S1
noncomputable def za1 {α:Type}(ls:List Nat)(S:St)(f:St->Out α):Out α:=
 (f {S with lk:=ls++S.lk}).bind fun a S'=>.ok a {S' with lk:=S.lk}
section
variable (cf:CF)
mutual
noncomputable def evE:CE->Ev->St->Out D
 |.loc i,δ,S=>lift S (δ[i]?).join
 |.con d,_,S=>.ok d S
 |.tst _,_,_=>.bad
 |.bin op a b,δ,S=>(evE a δ S).bind fun x S1=>(evE b δ S1).bind fun y S2=>binD S2 op x y
 |.neg a,δ,S=>(evE a δ S).bind fun x S1=>match x with|.int i=>.ok (.int (-i)) S1|_=>.bad
 |.nt a,δ,S=>(evE a δ S).bind fun x S1=>match x with|.bl b=>.ok (.bl (!b)) S1|_=>.bad
 |.cmp op a b,δ,S=>(evE a δ S).bind fun x S1=>(evE b δ S1).bind fun y S2=>(lift S2 (cmpD S2 op x y)).bind fun k S3=>.ok (.bl k) S3
 |.and a b,δ,S=>(evE a δ S).bind fun x S1=>match x with|.bl k=>if k then evE b δ S1 else .ok (.bl false) S1|_=>.bad
 |.or a b,δ,S=>(evE a δ S).bind fun x S1=>match x with|.bl k=>if k then .ok (.bl true) S1 else evE b δ S1|_=>.bad
 |.ite c a b,δ,S=>(evT c δ S).bind fun k S1=>if k then evE a δ S1 else evE b δ S1
 |.tup es,δ,S=>(evEs es δ S).bind fun ds S1=>if ds.length<=16777216 then .ok (.tup ds) S1 else .bad
 |.lst es,δ,S=>(evEs es δ S).bind fun ds S1=>lay S1 ds
 |.dnew3,_,S=>.ok (.ref S.len) (S.push (.d3 []))
 |.fld a f,δ,S=>(evE a δ S).bind fun x S1=>lift S1 ((zb7 S1 x).bind fun p=>p.2.lookup f)
 |.mk c f _ j es,δ,S=>(evEs es δ S).bind fun ds S1=>(appW cf f (.ref S1.len::(ds++List.replicate j .non)) (S1.push (.ins c []))).bind fun d S2=>if zkR d then .ok (.ref S1.len) S2 else .bad
 |.meth m tb o es,δ,S=>(evE o δ S).bind fun x S1=>(lift S1 (zb7 S1 x)).bind fun p S1=>(lift S1 (tb.lookup p.1)).bind fun f S1=>if (p.2.lookup m).isNone then (evEs es δ S1).bind fun ds S2=>appW cf f (x::ds) S2 else .bad
 |.isc cs _ a,δ,S=>(evE a δ S).bind fun x S1=>(lift S1 (zb7 S1 x)).bind fun p S1=>.ok (.bl (cs.contains p.1)) S1
 |.callC f _ _ es,δ,S=>(evEs es δ S).bind fun ds S1=>appW cf f ds S1
 |.clr a,δ,S=>(evE a δ S).bind fun x S1=>if isL S1 x then (match x with|.ref l=>wr S1 l [] .non|_=>.bad) else .bad
 |.callV a es,δ,S=>(evE a δ S).bind fun x S1=>(evEs es δ S1).bind fun ds S2=>lift S2 (zco x ds)
 |.ix a b,δ,S=>(evE a δ S).bind fun x S1=>(evE b δ S1).bind fun y S2=>match za6 S2 x,y with|some ds,.int i=>lift S2 (atI ds i)|_,_=>.bad
 |.slS a b,δ,S=>(evE a δ S).bind fun x S1=>(evE b δ S1).bind fun y S2=>match x,y with
  |.ref p,.int k=>if k=0 then .bad else (match S2.get p with|some (.lst ds)=>lay S2 (stp ds k)|_=>.bad)
  |_,_=>.bad
 |.sl a ml mh lo hi,δ,S=>(evE a δ S).bind fun x S1=>(evE lo δ S1).bind fun y S2=>(evE hi δ S2).bind fun z S3=>match zbB ml y,zbB mh z with
  | some l, some h => (match x with
    |.tup ds=>.ok (.tup (cut ds l h)) S3
    |.fix ds=>lay S3 (cut ds l h)
    |.ref p=>(match S3.get p with|some (.lst ds)=>lay S3 (cut ds l h)|_=>.bad)
    |_=>.bad)
  |_,_=>.bad
 |.call f j es,δ,S=>(evEs es δ S).bind fun ds S1=>app cf f (ds++List.replicate j .non) S1
 |.callW f j es,δ,S=>(evEs es δ S).bind fun ds S1=>appW cf f (ds++List.replicate j .non) S1
 |.bi b es,δ,S=>(evEs es δ S).bind fun ds S1=>R.bi S1 b ds
 |.mt m o es,δ,S=>(evE o δ S).bind fun x S1=>if isL S1 x then (evEs es δ S1).bind fun ds S2=>R.mt S2 m x ds else .bad
 |.mkL l,δ,S=>(evL l δ S).bind fun r S1=>lay S1 r.1
 |.mkT l,δ,S=>(evL l δ S).bind fun r S1=>if r.1.length<=16777216 then .ok (.tup r.1) S1 else .bad
 |.ext a l,δ,S=>(evE a δ S).bind fun x S1=>if isL S1 x then (evL l δ S1).bind fun r S2=>(match x with
  |.ref p=>(match S2.get p with|some (.lst ds)=>wr S2 p (ds++r.1) .non|_=>.bad)
  |_=>.bad) else .bad
noncomputable def evEs:CEs->Ev->St->Out (List D)
 |.nil,_,S=>.ok [] S
 |.cons e r,δ,S=>(evE e δ S).bind fun d S1=>(evEs r δ S1).bind fun ds S2=>.ok (d::ds) S2
noncomputable def evT:CE->Ev->St->Out Bool
 |.cmp op a b,δ,S=>(evE a δ S).bind fun x S1=>(evE b δ S1).bind fun y S2=>lift S2 (cmpD S2 op x y)
 |.nt a,δ,S=>(evT a δ S).bind fun k S1=>.ok (!k) S1
 |.and a b,δ,S=>(evT a δ S).bind fun k S1=>if k then evT b δ S1 else .ok false S1
 |.or a b,δ,S=>(evT a δ S).bind fun k S1=>if k then .ok true S1 else evT b δ S1
 |.tst e,δ,S=>(evE e δ S).bind fun x S1=>lift S1 (tru S1 x)
 |_,_,_=>.bad
noncomputable def evL:CL->Ev->St->Out (List D × List Nat)
 |.val e,δ,S=>(evE e δ S).bind fun x S1=>(lift S1 (za6 S1 x)).bind fun ds S2=>.ok (ds,lkOf S2 x) S2
 |.callL f j es,δ,S=>(evEs es δ S).bind fun ds S1=>(appL cf f (ds++List.replicate j .non) S1).bind fun r S2=>.ok (r,[]) S2
 |.rng1 a,δ,S=>(evE a δ S).bind fun x S1=>match x with|.int j=>if -(2 ^ 62)<=j/\j<2 ^ 62 then .ok ((List.range j.toNat).map fun (k:Nat)=>.int k,[]) S1 else .bad|_=>.bad
 |.rng2 a b,δ,S=>(evE a δ S).bind fun x S1=>(evE b δ S1).bind fun y S2=>match x,y with
  |.int i,.int j=>if -(2 ^ 62)<=i/\i<2 ^ 62/\-(2 ^ 62)<=j/\j<2 ^ 62 then .ok ((List.range (j - i).toNat).map fun (k:Nat)=>.int (i+k),[]) S2 else .bad
  |_,_=>.bad
 |.comp n js g it c e,δ,S=>(evL it δ S).bind fun r S1=>(za1 r.2 S1 fun S2=>zax g (evT c) (evE e) r.1 (csl n js δ) S2).bind fun ds S3=>if ds.length<=16777216 then .ok (ds,[]) S3 else .bad
end
inductive Fl where
 |nx (δ:Ev)|rt (d:D)
noncomputable def zbd (g:List Nat)(b:Ev->St->Out Fl):List D->Ev->St->Out Fl
 | [],δ,S=>.ok (.nx δ) S
 | x :: xs, δ, S => match asgG g x δ with
   |none=>.bad
   | some δ' => (b δ' S).bind fun f S1 => match f with
     |.nx δ2=>zbd g b xs δ2 S1
     |.rt d=>.ok (.rt d) S1
noncomputable def exS:CS->Ev->St->Out Fl
 |.nil,δ,S=>.ok (.nx δ) S
 |.stop,_,_=>.bad
 |.asg i e r,δ,S=>(evE cf e δ S).bind fun x S1=>exS r (δ.set i (some x)) S1
 |.asgT g e r,δ,S=>(evE cf e δ S).bind fun x S1=>(lift S1 (asgG g x δ)).bind fun δ' S2=>exS r δ' S2
 |.setIx a b e r,δ,S=>(evE cf e δ S).bind fun v S1=>(evE cf a δ S1).bind fun x S2=>(evE cf b δ S2).bind fun y S3=>match dPut S3 x y v with|some S4=>exS r δ S4|none=>.bad
 |.setF a f e r,δ,S=>(evE cf e δ S).bind fun v S1=>(evE cf a δ S1).bind fun x S2=>match zbW S2 x f v with|some S3=>exS r δ S3|none=>.bad
 |.ifS c t u r,δ,S=>(evT cf c δ S).bind fun k S1=>(if k then exS t δ S1 else exS u δ S1).bind fun f S2=>match f with
  |.nx δ'=>exS r δ' S2
  |.rt d=>.ok (.rt d) S2
 |.forS g l b r,δ,S=>(evL cf l δ S).bind fun q S1=>(za1 q.2 S1 fun S2=>zbd g (exS b) q.1 δ S2).bind fun f S3=>match f with
  |.nx δ'=>exS r δ' S3
  |.rt d=>.ok (.rt d) S3
 |.ret e _,δ,S=>(evE cf e δ S).bind fun x S1=>.ok (.rt x) S1
 |.expr e r,δ,S=>(evE cf e δ S).bind fun _ S1=>exS r δ S1
 |.pass r,δ,S=>exS r δ S
end
inductive Prim where
 |tally|road
noncomputable def rowD (r:Int × Int):D:=.tup [.int r.1,.int r.2]
noncomputable def talD (os:List (Option Int)):List D:=(za0 (zah [] os)).map rowD
noncomputable def prm (S:St):Prim->List D->Out D
 | .tally, [.ref l] => (match S.get l with
   | some (.lst ws) => (match zcx ws with
     |some os=>if (zah [] os).length<64/\os.length<=16777216 then .ok (.ref S.len) (S.push (.lst (talD os))) else .bad
     |none=>.bad)
   |_=>.bad)
 | .road, [x] => (match (za6 S x).bind fun ds => ds.mapM lie4 with
   |some ls=>if ls.length<=1000/\S.lk=[] then .ok (.clo (zaA [] ls)) S else .bad
   |none=>.bad)
 |_,_=>.bad
structure Fn where
 np:Nat
 nn:Nat
 body:CS
 prim:Option Prim
noncomputable def zaJ (F:Fn)(ds:List D):Ev:=ds.map some++List.replicate (F.nn - F.np) none
noncomputable def callF (P:List Fn):Nat->CF
 |0,_,_,_=>.bad
 | n + 1, f, ds, S => match P[f]? with
   | some F => if ds.length = F.np then (match F.prim with
      |some p=>if 3<=n then prm S p ds else .bad
      | none => (exS (callF P n) F.body (zaJ F ds) S).bind fun r T => match r with
        |.nx _=>.ok .non T
        |.rt d=>.ok d T)
     else .bad
   |none=>.bad
end R
end
section
namespace R
open PySem (Str PyData Operator CmpOp)
@[simp] theorem zas {α β:Type}(a:α)(S:St)(f:α->St->Out β):(Out.ok a S).bind f=f a S:=rfl
@[simp] theorem zpv {α β:Type}(f:α->St->Out β):(Out.bad:Out α).bind f=.bad:=rfl
@[simp] theorem zpu {α β:Type}(d:D)(S:St)(f:α->St->Out β):(Out.err d S:Out α).bind f=.err d S:=rfl
@[simp] theorem zc6 {α:Type}(S:St)(a:α):lift S (some a)=.ok a S:=rfl
theorem zaG (S:St):S.enter.get=S.get:=by
 funext l
 simp only[St.get,St.enter,List.length_append,List.getElem?_append]
 by_cases h:l<S.frz.length
 · simp[h,Nat.lt_of_lt_of_le h (Nat.le_add_right _ _)]
 · simp only[h,if_false]
   split
   · rfl
   · simp only[List.getElem?_nil]
     exact (List.getElem?_eq_none (by omega)).symm
@[simp] theorem ziF (S:St):S.enter.frz=S.frz++S.new:=rfl
@[simp] theorem zo0 (S:St):S.enter.new=[]:=rfl
@[simp] theorem zpt (S:St):S.enter.lk=[]:=rfl
@[simp] theorem enter_len (S:St):S.enter.len=S.len:=by simp[St.len]
theorem zfK (S:St):(S.frz++S.new).length=S.len:=by simp[St.len]
theorem zar {S:St}{l:Nat}{o:MO}(h:S.get l=some o):l<S.len:=by
 unfold St.get at h
 unfold St.len
 split at h
 · omega
 · have:=(List.getElem?_eq_some_iff.mp h).1
   omega
theorem zmA {S:St}{l:Nat}{o:MO}(h:S.get l=some o)(nw:List MO)(lk:List Nat):(St.mk (S.frz++S.new) nw lk).get l=some o:=by
 have hl:=zar h
 rw[<-zaG] at h
 unfold St.get at h⊢
 have e:l<(S.frz++S.new).length:=by rw[zfK];exact hl
 simp only[ziF,e,if_true] at h⊢
 exact h
theorem ziv (F nw:List MO)(lk:List Nat)(i:Nat):(St.mk F nw lk).get (F.length+i)=nw[i]?:=by
 have:¬F.length+i<F.length:=by omega
 simp[St.get,this]
theorem zka (F nw:List MO)(lk:List Nat):(St.mk F nw lk).get F.length=nw[0]?:=ziv F nw lk 0
@[simp] theorem zpq (n:Nat):flat n .non=true:=by simp[flat]
@[simp] theorem zp7 (n:Nat)(b:Bool):flat n (.bl b)=true:=by simp[flat]
@[simp] theorem zpr (n:Nat)(i:Int):flat n (.int i)=true:=by simp[flat]
@[simp] theorem zpp (n:Nat)(x:Str):flat n (.str x)=true:=by simp[flat]
@[simp] theorem zke (n:Nat)(ds:List D):flat n (.tup ds)=flats n ds:=by simp[flat]
@[simp] theorem zps (n:Nat)(ds:List D):flat n (.fix ds)=flats n ds:=by simp[flat]
@[simp] theorem zoV (n:Nat):flats n []=true:=by simp[flats]
@[simp] theorem zdO (n:Nat)(d:D)(ds:List D):flats n (d::ds)=(flat n d&&flats n ds):=by simp[flats]
@[simp] theorem ze1 (n : Nat) : ∀ ds es : List D, flats n (ds ++ es) = (flats n ds && flats n es)
  | [],es=>by simp
  |d::ds,es=>by simp[ze1 n ds es,Bool.and_assoc]
theorem zbf (n:Nat):∀ds:List D,flats n ds=true↔∀d∈ds,flat n d=true
 | []=>by simp
 |d::ds=>by simp[zbf n ds]
@[simp] theorem zm5 (n:Nat)(ns:List Int):flats n (ns.map D.int)=true:=by rw[zbf];simp
@[simp] theorem zgZ (S:St)(d:D)(T:St)(h:flat S.len d=true):zcj S d T=.ok d S:=by simp[zcj,h]
noncomputable def W {α:Type}(o:Out α)(Q:α->St->Prop):Prop:=match o with
 |.ok a S=>Q a S
 |_=>False
@[simp] theorem W_ok {α:Type}(a:α)(S:St)(Q:α->St->Prop):W (.ok a S) Q=Q a S:=rfl
@[simp] theorem zqi {α:Type}(Q:α->St->Prop):W (.bad:Out α) Q=False:=rfl
@[simp] theorem zqh {α:Type}(d:D)(S:St)(Q:α->St->Prop):W (.err d S:Out α) Q=False:=rfl
@[simp] theorem zac {α β : Type} (o : Out α) (f : α → St → Out β) (Q : β → St → Prop) : W (o.bind f) Q = W o fun a S => W (f a S) Q := by
  cases o<;>rfl
theorem W.mono {α:Type}{o:Out α}{Q Q':α->St->Prop}(h:W o Q)(hq:∀a S,Q a S->Q' a S):W o Q':=by
 cases o with
 |ok a S=>exact hq a S h
 |err d S=>exact h
 |bad=>exact h
theorem W.eq {α:Type}{o:Out α}{d:α}{S:St}(h:W o fun a T=>a=d/\T=S):o=.ok d S:=by
 cases o with
 |ok a T=>obtain⟨rfl,rfl⟩:=h;rfl
 |err d S=>exact False.elim h
 |bad=>exact False.elim h
theorem W.of {α:Type}{o:Out α}{d:α}{S:St}{Q:α->St->Prop}(h:o=.ok d S)(q:Q d S):W o Q:=by rw[h];exact q
theorem W.iff {α:Type}{o:Out α}{Q:α->St->Prop}:W o Q↔∃a S,o=.ok a S/\Q a S:=by
 cases o with
 |ok a S=>exact⟨fun h=>⟨a,S,rfl,h⟩,fun⟨_,_,e,h⟩=>by cases e;exact h⟩
 |err d S=>exact⟨fun h=>h.elim,fun⟨_,_,e,_⟩=>nomatch e⟩
 |bad=>exact⟨fun h=>h.elim,fun⟨_,_,e,_⟩=>nomatch e⟩
noncomputable def fin (S:St)(r:Fl)(T:St):Out D:=match r with
 |.nx _=>zcj S .non T
 |.rt d=>zcj S d T
@[simp] theorem zkT (S T:St)(d:D):fin S (.rt d) T=zcj S d T:=rfl
@[simp] theorem zqg (S T:St)(δ:Ev):fin S (.nx δ) T=.ok .non S:=by simp[fin]
theorem ziZ {P:List Fn}{F:Fn}{f n:Nat}{ds:List D}{S:St}(h:P[f]?=some F)(hl:ds.length=F.np)(hp:F.prim=none:=by rfl) :
  app (callF P (n+1)) f ds S=(exS (callF P n) F.body (zaJ F ds) S.enter).bind fun r T=>fin S r T:=by
 simp only[app,callF,h,hl,hp,if_true]
 generalize exS (callF P n) F.body (zaJ F ds) S.enter=o
 cases o with
 |ok r T=>cases r<;>rfl
 |err d S=>rfl
 |bad=>rfl
noncomputable def finL (S:St)(r:Fl)(T:St):Out (List D):=match r with
 |.nx _=>.bad
 |.rt d=>zc9 S d T
@[simp] theorem zmE (S T:St)(d:D):finL S (.rt d) T=zc9 S d T:=rfl
theorem zm2 {P:List Fn}{F:Fn}{f n:Nat}{ds:List D}{S:St}(h:P[f]?=some F)(hl:ds.length=F.np)(hp:F.prim=none:=by rfl) :
  appL (callF P (n+1)) f ds S=(exS (callF P n) F.body (zaJ F ds) S.enter).bind fun r T=>finL S r T:=by
 simp only[appL,callF,h,hl,hp,if_true]
 generalize exS (callF P n) F.body (zaJ F ds) S.enter=o
 cases o with
 |ok r T=>cases r<;>rfl
 |err d S=>rfl
 |bad=>rfl
theorem zaS {g:List Nat}{b:Ev->St->Out Fl}(I:Nat->Ev->St->Prop)(Rt:D->St->Prop):∀(xs:List D) (k:Nat) (δ:Ev) (S:St),I k δ S->
  (∀i x δ S,xs[i]?=some x->I (k+i) δ S->∃δ',asgG g x δ=some δ'/\W (b δ' S) fun f S'=>match f with|.nx δ2=>I (k+i+1) δ2 S'|.rt d=>Rt d S')->
  W (zbd g b xs δ S) fun f S'=>match f with|.nx δ'=>I (k+xs.length) δ' S'|.rt d=>Rt d S'
 | [],k,δ,S,h,_=>by simpa[zbd] using h
 | x :: xs, k, δ, S, h, step => by
   obtain⟨δ',e,w⟩:=step 0 x δ S rfl h
   simp only[zbd,e,zac]
   refine w.mono fun f S1 hf=>?_
   cases f with
   |rt d=>exact hf
   | nx δ2 =>
     have ih:=zaS I Rt xs (k+1) δ2 S1 hf (fun i y δ S hy hi=>by
      have:=step (i+1) y δ S (by simpa using hy) (by rw[show k+(i+1)=k+1+i by omega];exact hi)
      rw[show k+(i+1)+1=k+1+i+1 by omega] at this
      exact this)
     rw[show k+1+xs.length=k+(x::xs).length by simp;omega] at ih
     exact ih
theorem zbh {c:Ev->St->Out Bool}{e:Ev->St->Out D}{S:St}{rest:Ev}(p:D->Bool)(f:D->D):∀(xs:List D) (o:Option D),
  (∀x∈xs,c (some x::rest) S=.ok (p x) S)->(∀x∈xs,p x=true->e (some x::rest) S=.ok (f x) S)->zax [0] c e xs (o::rest) S=.ok ((xs.filter p).map f) S
 | [],o,_,_=>rfl
 | x :: xs, o, hc, he => by
   have ih:=zbh p f xs (some x) (fun y hy=>hc y (List.mem_cons_of_mem _ hy)) (fun y hy=>he y (List.mem_cons_of_mem _ hy))
   simp only[zax,asgG,List.set_cons_zero,hc x List.mem_cons_self,zas]
   cases hp:p x with
   |false=>simp[ih,hp]
   |true=>simp[ih,hp,he x List.mem_cons_self hp]
@[simp] theorem zm4 {α:Type}(S:St)(f:St->Out α):za1 [] S f=(f S).bind fun a S'=>.ok a {S' with lk:=S.lk}:=rfl
end R
end
section
namespace R
open PySem (Str PyData Operator CmpOp)
noncomputable def wIf (c:Bool)(P Q:Prop):Prop:=match c with|true=>P|false=>Q
@[irreducible] noncomputable def wOpt {α:Type}(o:Option α)(k:α->Prop):Prop:=match o with|some a=>k a|none=>False
@[irreducible] noncomputable def zaT (p k:Prop):Prop:=p/\k
@[irreducible] noncomputable def wOut {α:Type}(o:Out α)(Q:α->St->Prop):Prop:=W o Q
theorem zpy {c:Bool}{P Q:Prop}(h:c=true)(k:P):wIf c P Q:=by subst h;exact k
theorem zk8 {c:Bool}{P Q:Prop}(h:c=false)(k:Q):wIf c P Q:=by subst h;exact k
theorem zna {c:Bool}{P Q:Prop}(h1:c=true->P)(h2:c=false->Q):wIf c P Q:=by
 cases c with
 |true=>exact zpy rfl (h1 rfl)
 |false=>exact zk8 rfl (h2 rfl)
theorem zdt {p:Prop}[Decidable p]{P Q:Prop}(h1:p->P)(h2:¬p->Q):wIf (decide p) P Q:=zna (fun h=>h1 (of_decide_eq_true h)) (fun h=>h2 (of_decide_eq_false h))
theorem zaa {α:Type}{o:Option α}{k:α->Prop}{a:α}(h:o=some a)(q:k a):wOpt o k:=by unfold wOpt;rw[h];exact q
theorem zab {p k:Prop}(h:p)(q:k):zaT p k:=by unfold zaT;exact⟨h,q⟩
theorem zal {α:Type}{o:Out α}{Q:α->St->Prop}{a:α}{S:St}(h:o=.ok a S)(q:Q a S):wOut o Q:=by unfold wOut;rw[h];exact q
theorem zaZ {α:Type}{o:Out α}{Q:α->St->Prop}(h:W o Q):wOut o Q:=by unfold wOut;exact h
noncomputable abbrev wGet (S:St)(l:Nat)(k:MO->Prop):Prop:=wOpt (S.get l) k
noncomputable abbrev wPut (S:St)(l:Nat)(o:MO)(k:St->Prop):Prop:=wOpt (S.put l o) k
theorem za2 {F nw:List MO}{lk:List Nat}{i:Nat}{o:MO}{k:MO->Prop}(h:nw[i]?=some o)(q:k o):wGet (St.mk F nw lk) (F.length+i) k:=zaa ((ziv F nw lk i).trans h) q
noncomputable def wLay (S:St)(ds:List D)(Q:D->St->Prop):Prop:=zaT (ds.length<=16777216) (Q (.ref S.len) (S.push (.lst ds)))
theorem zdD {S:St}{ds:List D}{Q:D->St->Prop}(h:wLay S ds Q):W (lay S ds) Q:=by
 unfold wLay zaT at h
 unfold lay
 rw[if_pos h.1];exact h.2
noncomputable def wWr (S:St)(l:Nat)(ds:List D)(d:D)(Q:D->St->Prop):Prop:=zaT (ds.length<=16777216) (wPut S l (.lst ds) fun S'=>Q d S')
theorem zk7 {S:St}{l:Nat}{ds:List D}{d:D}{Q:D->St->Prop}(h:wWr S l ds d Q):W (wr S l ds d) Q:=by
 unfold wWr zaT wPut wOpt at h
 unfold wr
 rw[if_pos h.1]
 have h2:=h.2
 cases e:S.put l (.lst ds) with
 |none=>rw[e] at h2;exact h2.elim
 |some S'=>rw[e] at h2;exact h2
noncomputable def znc (S:St)(op:Operator)(i j:Int)(Q:D->St->Prop):Prop:=match op with
 |.Add=>Q (.int (i+j)) S
 |.Sub=>Q (.int (i - j)) S
 |.Mult=>zaT (zeT i j=true) (Q (.int (i * j)) S)
 |.FloorDiv=>zaT (0<j/\j<1073741824) (Q (.int (i / j)) S)
 |.Mod=>zaT (0<j) (Q (.int (i % j)) S)
 |.Pow=>zaT (0<=j/\j<=1000000/\-18446744073709551616<i/\i<18446744073709551616) (Q (.int (i ^ j.toNat)) S)
 |_=>False
noncomputable def wBin (S:St)(op:Operator)(x y:D)(Q:D->St->Prop):Prop:=match x,y with
 |.int i,.int j=>znc S op i j Q
 |.tup xs,.tup ys=>(match op with|.Add=>zaT (xs.length+ys.length<=16777216) (Q (.tup (xs++ys)) S)|_=>False)
 |.ref a,.ref b=>(match op with|.Add=>wGet S a fun o=>wGet S b fun u=>(match o,u with|.lst xs,.lst ys=>wLay S (xs++ys) Q|_,_=>False)|_=>False)
 |_,_=>False
theorem znb {S:St}{op:Operator}{x y:D}{Q:D->St->Prop}(h:wBin S op x y Q):W (binD S op x y) Q:=by
 unfold wBin at h
 unfold binD
 split at h
 · unfold znc zaT at h
   unfold binI
   split at h<;>(try dsimp only)<;>first|exact h|(rw[if_pos h.1];exact h.2)|exact False.elim h
 · split at h
   · unfold zaT at h
     (try simp only)
     rw[if_pos h.1];exact h.2
   · exact h.elim
 · split at h
   · unfold wGet wOpt at h
     (try simp only)
     cases ea:S.get _ with
     |none=>simp only[ea] at h
     | some o =>
       simp only[ea] at h
       cases eb:S.get _ with
       |none=>simp only[eb] at h
       | some u =>
         simp only[eb] at h
         cases o<;>cases u<;>first|exact zdD h|exact h.elim
   · exact h.elim
 · exact h.elim
noncomputable def wCmp (S:St)(op:CmpOp)(x y:D)(Q:Bool->Prop):Prop:=match x,y with
 |.int i,.int j=>(match cmpI op i j with|some k=>Q k|none=>False)
 | _, _ => (match op with
   |.Is=>(match cmpO S .Is x y with|some k=>Q k|none=>False)
   |.IsNot=>(match cmpO S .IsNot x y with|some k=>Q k|none=>False)
   |_=>wOpt (cmpO S op x y) Q)
theorem zmQ {S:St}{op:CmpOp}{x y:D}(h:∀i j,x=.int i->y=.int j->False):cmpD S op x y=cmpO S op x y:=by
 unfold cmpD
 split
 · rename_i i j;exact (h i j rfl rfl).elim
 · rfl
theorem zla {S:St}{op:CmpOp}{x y:D}{Q:Bool->Prop}(h:wCmp S op x y Q):∃k,cmpD S op x y=some k/\Q k:=by
 have fin:∀o:Option Bool,(match o with|some k=>Q k|none=>False)->∃k,o=some k/\Q k:=fun o q=>by
  cases o with
  |none=>exact q.elim
  |some k=>exact⟨k,rfl,q⟩
 unfold wCmp at h
 split at h
 · exact fin _ h
 · rename_i hn
   rw[zmQ hn]
   split at h
   · exact fin _ h
   · exact fin _ h
   · unfold wOpt at h
     cases e:cmpO S op x y with
     |none=>rw[e] at h;exact h.elim
     |some k=>rw[e] at h;exact⟨k,rfl,h⟩
theorem zkt {S:St}{op:CmpOp}{x y:D}{Q:Bool->St->Prop}(h:wCmp S op x y fun k=>Q k S):W (lift S (cmpD S op x y)) Q:=by
 obtain⟨k,e,q⟩:=zla h
 rw[e];exact q
noncomputable def wBi (S:St)(b:Bi)(ds:List D)(Q:D->St->Prop):Prop:=match b,ds with
 | .len, [x] => (match x with
   |.tup ds=>Q (.int ds.length) S
   |.fix ds=>Q (.int ds.length) S
   |.ref l=>wGet S l fun o=>(match o with|.lst ds=>Q (.int ds.length) S|_=>False)
   |_=>False)
 |.min2,[.int i,.int j]=>Q (.int (if j<i then j else i)) S
 |.isin t,[x]=>wOpt (tyOf S x) fun a=>Q (.bl (a == t || (a == "bool"&&t == "int"))) S
 |_,_=>False
theorem zpz {S:St}{b:Bi}{ds:List D}{Q:D->St->Prop}(h:wBi S b ds Q):W (bi S b ds) Q:=by
 unfold wBi at h
 split at h
 · split at h
   · exact h
   · exact h
   · rename_i l
     unfold wGet wOpt at h
     simp only[bi]
     cases e:S.get l with
     |none=>rw[e] at h;exact h.elim
     |some o=>rw[e] at h;cases o<;>first|exact h|exact h.elim
   · exact h.elim
 · exact h
 · rename_i t x
   unfold wOpt at h
   simp only[bi]
   cases e:tyOf S x with
   |none=>rw[e] at h;exact h.elim
   |some a=>rw[e] at h;exact h
 · exact h.elim
noncomputable def wIsL (S:St)(x:D)(P:Prop):Prop:=match x with
 |.ref l=>wGet S l fun o=>(match o with|.lst _=>P|_=>False)
 |_=>False
theorem zfe {S:St}{x:D}{P:Prop}(h:wIsL S x P):isL S x=true/\P:=by
 unfold wIsL at h
 split at h
 · rename_i l
   unfold wGet wOpt at h
   unfold isL
   cases e:S.get l with
   |none=>rw[e] at h;exact h.elim
   | some o =>
     rw[e] at h
     cases o with
     |lst ds=>exact⟨by simp[e],h⟩
     |_=>exact False.elim h
 · exact h.elim
noncomputable def wMt (S:St)(m:Mt)(x:D)(ds:List D)(Q:D->St->Prop):Prop:=match m,x,ds with
 |.append,.ref l,[y]=>wGet S l fun o=>(match o with|.lst ds=>wWr S l (ds++[y]) .non Q|_=>False)
 |_,_,_=>False
theorem zpx {S:St}{m:Mt}{x:D}{ds:List D}{Q:D->St->Prop}(h:wMt S m x ds Q):W (mt S m x ds) Q:=by
 unfold wMt at h
 split at h
 · rename_i l y
   unfold wGet wOpt at h
   simp only[mt]
   cases e:S.get l with
   |none=>rw[e] at h;exact h.elim
   |some o=>rw[e] at h;cases o<;>first|exact zk7 h|exact h.elim
 · exact h.elim
noncomputable def wSeq (S:St)(x:D)(k:List D->Prop):Prop:=match x with
 |.tup ds=>k ds
 |.fix ds=>k ds
 |.ref l=>wGet S l fun o=>(match o with|.lst ds=>k ds|_=>False)
 |_=>False
theorem zhf {S:St}{x:D}{k:List D->Prop}(h:wSeq S x k):∃ds,za6 S x=some ds/\k ds:=by
 unfold wSeq at h
 unfold za6
 split at h
 · exact⟨_,rfl,h⟩
 · exact⟨_,rfl,h⟩
 · rename_i l
   unfold wGet wOpt at h
   cases e:S.get l with
   |none=>rw[e] at h;exact h.elim
   | some o =>
     rw[e] at h
     cases o with
     |lst ds=>exact⟨ds,by simp[e],h⟩
     |ins _ _=>exact False.elim h
     |d3 _=>exact False.elim h
 · exact h.elim
noncomputable def wTru (S:St)(x:D)(Q:Bool->Prop):Prop:=match x with
 |.bl b=>Q b
 |.non=>Q false
 |.int i=>Q (i != 0)
 |.tup ds=>Q (!ds.isEmpty)
 |.ref l=>wGet S l fun o=>(match o with|.lst ds=>Q (!ds.isEmpty)|_=>False)
 |_=>False
theorem zm9 {S:St}{x:D}{Q:Bool->St->Prop}(h:wTru S x fun k=>Q k S):W (lift S (tru S x)) Q:=by
 unfold wTru at h
 unfold tru
 split at h
 · exact h
 · exact h
 · exact h
 · exact h
 · rename_i l
   unfold wGet wOpt at h
   simp only
   cases e:S.get l with
   |none=>rw[e] at h;exact h.elim
   |some o=>rw[e] at h;cases o<;>first|exact h|exact h.elim
 · exact h.elim
@[irreducible] noncomputable def zgH {α:Type}(ls:List Nat)(S:St)(f:St->Out α)(Q:α->St->Prop):Prop:=W (za1 ls S f) Q
theorem zhg {α:Type}{ls:List Nat}{S:St}{f:St->Out α}{Q:α->St->Prop}(h:zgH ls S f Q):W (za1 ls S f) Q:=by unfold zgH at h;exact h
theorem zay {α:Type}{ls:List Nat}{S:St}{f:St->Out α}{Q:α->St->Prop}(h:W (f {S with lk:=ls++S.lk}) fun a T=>Q a {T with lk:=S.lk}):zgH ls S f Q:=by
 unfold zgH za1
 rw[zac];exact h
section
variable (cf:CF)
mutual
noncomputable def wE:CE->Ev->St->(D->St->Prop)->Prop
 |.loc i,δ,S,Q=>(match (δ[i]?).join with|some d=>Q d S|none=>False)
 |.con d,_,S,Q=>Q d S
 |.tst _,_,_,_=>False
 |.bin op a b,δ,S,Q=>wE a δ S fun x S1=>wE b δ S1 fun y S2=>wBin S2 op x y Q
 |.neg a,δ,S,Q=>wE a δ S fun x S1=>(match x with|.int i=>Q (.int (-i)) S1|_=>False)
 |.nt a,δ,S,Q=>wE a δ S fun x S1=>(match x with|.bl b=>Q (.bl (!b)) S1|_=>False)
 |.cmp op a b,δ,S,Q=>wE a δ S fun x S1=>wE b δ S1 fun y S2=>wCmp S2 op x y fun k=>Q (.bl k) S2
 |.and a b,δ,S,Q=>wE a δ S fun x S1=>(match x with|.bl k=>wIf k (wE b δ S1 Q) (Q (.bl false) S1)|_=>False)
 |.or a b,δ,S,Q=>wE a δ S fun x S1=>(match x with|.bl k=>wIf k (Q (.bl true) S1) (wE b δ S1 Q)|_=>False)
 |.ite c a b,δ,S,Q=>wT c δ S fun k S1=>wIf k (wE a δ S1 Q) (wE b δ S1 Q)
 |.tup es,δ,S,Q=>wEs es δ S fun ds S1=>zaT (ds.length<=16777216) (Q (.tup ds) S1)
 |.lst es,δ,S,Q=>wEs es δ S fun ds S1=>wLay S1 ds Q
 |.dnew3,_,S,Q=>Q (.ref S.len) (S.push (.d3 []))
 |.fld a f,δ,S,Q=>wE a δ S fun x S1=>wOpt ((zb7 S1 x).bind fun p=>p.2.lookup f) fun v=>Q v S1
 |.mk c f _ j es,δ,S,Q=>wEs es δ S fun ds S1=>wOut (appW cf f (.ref S1.len::(ds++List.replicate j .non)) (S1.push (.ins c []))) fun d S2=>zaT (zkR d=true) (Q (.ref S1.len) S2)
 |.meth m tb o es,δ,S,Q=>wE o δ S fun x S1=>wOpt (zb7 S1 x) fun p=>wOpt (tb.lookup p.1) fun f=>zaT ((p.2.lookup m).isNone=true) (wEs es δ S1 fun ds S2=>wOut (appW cf f (x::ds) S2) Q)
 |.isc cs _ a,δ,S,Q=>wE a δ S fun x S1=>wOpt (zb7 S1 x) fun p=>Q (.bl (cs.contains p.1)) S1
 |.callC f _ _ es,δ,S,Q=>wEs es δ S fun ds S1=>wOut (appW cf f ds S1) Q
 |.clr a,δ,S,Q=>wE a δ S fun x S1=>wIsL S1 x (match x with|.ref l=>wWr S1 l [] .non Q|_=>False)
 |.callV a es,δ,S,Q=>wE a δ S fun x S1=>wEs es δ S1 fun ds S2=>wOpt (zco x ds) fun d=>Q d S2
 |.ix a b,δ,S,Q=>wE a δ S fun x S1=>wE b δ S1 fun y S2=>wSeq S2 x fun ds=>(match y with|.int i=>wOpt (atI ds i) fun d=>Q d S2|_=>False)
 |.slS a b,δ,S,Q=>wE a δ S fun x S1=>wE b δ S1 fun y S2=>(match x,y with
  |.ref p,.int k=>zaT (k≠0) (wGet S2 p fun o=>(match o with|.lst ds=>wLay S2 (stp ds k) Q|_=>False))
  |_,_=>False)
 |.sl a ml mh lo hi,δ,S,Q=>wE a δ S fun x S1=>wE lo δ S1 fun y S2=>wE hi δ S2 fun z S3=>(match zbB ml y,zbB mh z with
  | some l, some h => (match x with
    |.tup ds=>Q (.tup (cut ds l h)) S3
    |.fix ds=>wLay S3 (cut ds l h) Q
    |.ref p=>wGet S3 p fun o=>(match o with|.lst ds=>wLay S3 (cut ds l h) Q|_=>False)
    |_=>False)
  |_,_=>False)
 |.call f j es,δ,S,Q=>wEs es δ S fun ds S1=>wOut (app cf f (ds++List.replicate j .non) S1) Q
 |.callW f j es,δ,S,Q=>wEs es δ S fun ds S1=>wOut (appW cf f (ds++List.replicate j .non) S1) Q
 |.bi b es,δ,S,Q=>wEs es δ S fun ds S1=>wBi S1 b ds Q
 |.mt m o es,δ,S,Q=>wE o δ S fun x S1=>wIsL S1 x (wEs es δ S1 fun ds S2=>wMt S2 m x ds Q)
 |.mkL l,δ,S,Q=>wL l δ S fun r S1=>wLay S1 r.1 Q
 |.mkT l,δ,S,Q=>wL l δ S fun r S1=>zaT (r.1.length<=16777216) (Q (.tup r.1) S1)
 |.ext a l,δ,S,Q=>wE a δ S fun x S1=>wIsL S1 x (wL l δ S1 fun r S2=>(match x with
  |.ref p=>wGet S2 p fun o=>(match o with|.lst ds=>wWr S2 p (ds++r.1) .non Q|_=>False)
  |_=>False))
noncomputable def wEs:CEs->Ev->St->(List D->St->Prop)->Prop
 |.nil,_,S,Q=>Q [] S
 |.cons e r,δ,S,Q=>wE e δ S fun d S1=>wEs r δ S1 fun ds S2=>Q (d::ds) S2
noncomputable def wT:CE->Ev->St->(Bool->St->Prop)->Prop
 |.cmp op a b,δ,S,Q=>wE a δ S fun x S1=>wE b δ S1 fun y S2=>wCmp S2 op x y fun k=>Q k S2
 |.nt a,δ,S,Q=>wT a δ S fun k S1=>Q (!k) S1
 |.and a b,δ,S,Q=>wT a δ S fun k S1=>wIf k (wT b δ S1 Q) (Q false S1)
 |.or a b,δ,S,Q=>wT a δ S fun k S1=>wIf k (Q true S1) (wT b δ S1 Q)
 |.tst e,δ,S,Q=>wE e δ S fun x S1=>wTru S1 x fun k=>Q k S1
 |_,_,_,_=>False
noncomputable def wL:CL->Ev->St->(List D × List Nat->St->Prop)->Prop
 |.val e,δ,S,Q=>wE e δ S fun x S1=>wSeq S1 x fun ds=>Q (ds,lkOf S1 x) S1
 |.callL f j es,δ,S,Q=>wEs es δ S fun ds S1=>wOut (appL cf f (ds++List.replicate j .non) S1) fun r S2=>Q (r,[]) S2
 |.rng1 a,δ,S,Q=>wE a δ S fun x S1=>(match x with|.int j=>zaT (-(2 ^ 62)<=j/\j<2 ^ 62) (Q ((List.range j.toNat).map fun (k:Nat)=>.int k,[]) S1)|_=>False)
 |.rng2 a b,δ,S,Q=>wE a δ S fun x S1=>wE b δ S1 fun y S2=>(match x,y with
  |.int i,.int j=>zaT (-(2 ^ 62)<=i/\i<2 ^ 62/\-(2 ^ 62)<=j/\j<2 ^ 62) (Q ((List.range (j - i).toNat).map fun (k:Nat)=>.int (i+k),[]) S2)
  |_,_=>False)
 |.comp n js g it c e,δ,S,Q=>wL it δ S fun r S1=>zgH r.2 S1 (fun S2=>zax g (evT cf c) (evE cf e) r.1 (csl n js δ) S2) fun ds S3=>zaT (ds.length<=16777216) (Q (ds,[]) S3)
end
noncomputable def wS:CS->Ev->St->(Fl->St->Prop)->Prop
 |.nil,δ,S,Q=>Q (.nx δ) S
 |.stop,_,_,_=>False
 |.asg i e r,δ,S,Q=>wE cf e δ S fun x S1=>wS r (δ.set i (some x)) S1 Q
 |.asgT g e r,δ,S,Q=>wE cf e δ S fun x S1=>wOpt (asgG g x δ) fun δ'=>wS r δ' S1 Q
 |.setIx a b e r,δ,S,Q=>wE cf e δ S fun v S1=>wE cf a δ S1 fun x S2=>wE cf b δ S2 fun y S3=>wOpt (dPut S3 x y v) fun S4=>wS r δ S4 Q
 |.setF a f e r,δ,S,Q=>wE cf e δ S fun v S1=>wE cf a δ S1 fun x S2=>wOpt (zbW S2 x f v) fun S3=>wS r δ S3 Q
 |.ifS c t u r,δ,S,Q=>wT cf c δ S fun k S1=>wIf k (wS t δ S1 fun f S2=>(match f with|.nx δ'=>wS r δ' S2 Q|.rt d=>Q (.rt d) S2)) (wS u δ S1 fun f S2=>(match f with|.nx δ'=>wS r δ' S2 Q|.rt d=>Q (.rt d) S2))
 |.forS g l b r,δ,S,Q=>wL cf l δ S fun q S1=>zgH q.2 S1 (fun S2=>zbd g (exS cf b) q.1 δ S2) fun f S3=>(match f with|.nx δ'=>wS r δ' S3 Q|.rt d=>Q (.rt d) S3)
 |.ret e _,δ,S,Q=>wE cf e δ S fun x S1=>Q (.rt x) S1
 |.expr e r,δ,S,Q=>wE cf e δ S fun _ S1=>wS r δ S1 Q
 |.pass r,δ,S,Q=>wS r δ S Q
end
section
variable {cf:CF}
mutual
theorem wE_W:∀(e:CE) {δ:Ev} {S:St} {Q:D->St->Prop},wE cf e δ S Q->W (evE cf e δ S) Q
 | .loc i, δ, S, Q, h => by
   simp only[wE] at h
   simp only[evE]
   cases e:(δ[i]?).join with
   |none=>rw[e] at h;exact h.elim
   |some d=>rw[e] at h;exact h
 |.con d,δ,S,Q,h=>by simp only[wE] at h;simp only[evE];exact h
 |.tst _,δ,S,Q,h=>by simp only[wE] at h
 | .bin op a b, δ, S, Q, h => by
   simp only[wE] at h
   simp only[evE,zac]
   exact (wE_W a h).mono fun x S1 h1=>(wE_W b h1).mono fun y S2 h2=>znb h2
 | .neg a, δ, S, Q, h => by
   simp only[wE] at h
   simp only[evE,zac]
   refine (wE_W a h).mono fun x S1 h1=>?_
   cases x<;>first|exact h1|exact h1.elim
 | .nt a, δ, S, Q, h => by
   simp only[wE] at h
   simp only[evE,zac]
   refine (wE_W a h).mono fun x S1 h1=>?_
   cases x<;>first|exact h1|exact h1.elim
 | .cmp op a b, δ, S, Q, h => by
   simp only[wE] at h
   simp only[evE,zac,W_ok]
   exact (wE_W a h).mono fun x S1 h1=>(wE_W b h1).mono fun y S2 h2=>zkt (Q:=fun k S=>Q (.bl k) S) h2
 | .and a b, δ, S, Q, h => by
   simp only[wE] at h
   simp only[evE,zac]
   refine (wE_W a h).mono fun x S1 h1=>?_
   cases x with
   | bl k =>
     unfold wIf at h1
     cases k with
     |false=>exact h1
     |true=>exact wE_W b h1
   |_=>exact h1.elim
 | .or a b, δ, S, Q, h => by
   simp only[wE] at h
   simp only[evE,zac]
   refine (wE_W a h).mono fun x S1 h1=>?_
   cases x with
   | bl k =>
     unfold wIf at h1
     cases k with
     |true=>exact h1
     |false=>exact wE_W b h1
   |_=>exact h1.elim
 | .ite c a b, δ, S, Q, h => by
   simp only[wE] at h
   simp only[evE,zac]
   refine (wT_W c h).mono fun k S1 h1=>?_
   unfold wIf at h1
   cases k with
   |true=>exact wE_W a h1
   |false=>exact wE_W b h1
 | .tup es, δ, S, Q, h => by
   simp only[wE] at h
   simp only[evE,zac]
   refine (zcN es h).mono fun ds S1 h1=>?_
   unfold zaT at h1
   rw[if_pos h1.1];exact h1.2
 | .lst es, δ, S, Q, h => by
   simp only[wE] at h
   simp only[evE,zac]
   exact (zcN es h).mono fun ds S1 h1=>zdD h1
 | .fld a f, δ, S, Q, h => by
   simp only[wE] at h
   simp only[evE,zac]
   refine (wE_W a h).mono fun x S1 h1=>?_
   unfold wOpt at h1
   cases e:(zb7 S1 x).bind fun p=>p.2.lookup f with
   |none=>rw[e] at h1;exact h1.elim
   |some o=>rw[e] at h1;exact h1
 | .mk c f _ j es, δ, S, Q, h => by
   simp only[wE] at h
   simp only[evE,zac]
   refine (zcN es h).mono fun ds S1 h1=>?_
   unfold wOut at h1
   refine h1.mono fun d S2 h2=>?_
   unfold zaT at h2
   rw[if_pos h2.1];exact h2.2
 | .meth m tb o es, δ, S, Q, h => by
   simp only[wE] at h
   simp only[evE,zac]
   refine (wE_W o h).mono fun x S1 h1=>?_
   unfold wOpt at h1
   cases e:zb7 S1 x with
   |none=>rw[e] at h1;exact h1.elim
   | some p =>
     rw[e] at h1
     dsimp only at h1
     cases e2:tb.lookup p.1 with
     |none=>rw[e2] at h1;exact h1.elim
     | some f =>
       rw[e2] at h1
       unfold zaT at h1
       simp only[zc6,W_ok]
       rw[e2,zc6,W_ok,if_pos h1.1,zac]
       refine (zcN es h1.2).mono fun ds S2 h2=>?_
       unfold wOut at h2;exact h2
 | .callV a es, δ, S, Q, h => by
   simp only[wE] at h
   simp only[evE,zac]
   refine (wE_W a h).mono fun x S1 h1=>?_
   refine (zcN es h1).mono fun ds S2 h2=>?_
   unfold wOpt at h2
   cases e:zco x ds with
   |none=>rw[e] at h2;exact h2.elim
   |some o=>rw[e] at h2;exact h2
 | .isc cs _ a, δ, S, Q, h => by
   simp only[wE] at h
   simp only[evE,zac]
   refine (wE_W a h).mono fun x S1 h1=>?_
   unfold wOpt at h1
   cases e:zb7 S1 x with
   |none=>rw[e] at h1;exact h1.elim
   |some p=>rw[e] at h1;exact h1
 | .callC f _ _ es, δ, S, Q, h => by
   simp only[wE] at h
   simp only[evE,zac]
   refine (zcN es h).mono fun ds S1 h1=>?_
   unfold wOut at h1;exact h1
 | .clr a, δ, S, Q, h => by
   simp only[wE] at h
   simp only[evE,zac]
   refine (wE_W a h).mono fun x S1 h1=>?_
   obtain⟨h2,h3⟩:=zfe h1
   rw[if_pos h2]
   cases x with
   |ref l=>exact zk7 h3
   |_=>exact h3.elim
 | .ix a b, δ, S, Q, h => by
   simp only[wE] at h
   simp only[evE,zac]
   refine (wE_W a h).mono fun x S1 h1=>(wE_W b h1).mono fun y S2 h2=>?_
   obtain⟨ds,e,h3⟩:=zhf h2
   rw[e]
   cases y with
   | int i =>
     unfold wOpt at h3
     simp only at h3⊢
     cases e2:atI ds i with
     |none=>rw[e2] at h3;exact h3.elim
     |some d=>rw[e2] at h3;exact h3
   |_=>exact h3.elim
 | .slS a b, δ, S, Q, h => by
   simp only[wE] at h
   simp only[evE,zac]
   refine (wE_W a h).mono fun x S1 h1=>(wE_W b h1).mono fun y S2 h2=>?_
   cases x with
   | ref p =>
     cases y with
     | int k =>
       dsimp only at h2⊢
       unfold zaT at h2
       rw[if_neg h2.1]
       have h3:=h2.2
       unfold wGet wOpt at h3
       cases e:S2.get p with
       |none=>rw[e] at h3;exact h3.elim
       |some o=>rw[e] at h3;cases o<;>first|exact zdD h3|exact h3.elim
     |_=>exact h2.elim
   |_=>exact h2.elim
 | .sl a ml mh lo hi, δ, S, Q, h => by
   simp only[wE] at h
   simp only[evE,zac]
   refine (wE_W a h).mono fun x S1 h1=>(wE_W lo h1).mono fun y S2 h2=>(wE_W hi h2).mono fun z S3 h3=>?_
   cases ey:zbB ml y with
   |none=>rw[ey] at h3;exact h3.elim
   | some l =>
     cases ez:zbB mh z with
     |none=>rw[ey,ez] at h3;exact h3.elim
     | some u =>
       rw[ey,ez] at h3
       cases x with
       |tup ds=>exact h3
       |fix ds=>exact zdD h3
       | ref p =>
         unfold wGet wOpt at h3
         simp only at h3⊢
         cases e:S3.get p with
         |none=>rw[e] at h3;exact h3.elim
         |some o=>rw[e] at h3;cases o<;>first|exact zdD h3|exact h3.elim
       |_=>exact h3.elim
 | .call f j es, δ, S, Q, h => by
   simp only[wE] at h
   simp only[evE,zac]
   refine (zcN es h).mono fun ds S1 h1=>?_
   unfold wOut at h1;exact h1
 | .callW f j es, δ, S, Q, h => by
   simp only[wE] at h
   simp only[evE,zac]
   refine (zcN es h).mono fun ds S1 h1=>?_
   unfold wOut at h1;exact h1
 | .bi b es, δ, S, Q, h => by
   simp only[wE] at h
   simp only[evE,zac]
   exact (zcN es h).mono fun ds S1 h1=>zpz h1
 | .mt m o es, δ, S, Q, h => by
   simp only[wE] at h
   simp only[evE,zac]
   refine (wE_W o h).mono fun x S1 h1=>?_
   obtain⟨c,h2⟩:=zfe h1
   rw[if_pos c,zac]
   exact (zcN es h2).mono fun ds S2 h3=>zpx h3
 | .mkL l, δ, S, Q, h => by
   simp only[wE] at h
   simp only[evE,zac]
   exact (wL_W l h).mono fun ds S1 h1=>zdD h1
 | .mkT l, δ, S, Q, h => by
   simp only[wE] at h
   simp only[evE,zac]
   refine (wL_W l h).mono fun r S1 h1=>?_
   unfold zaT at h1
   rw[if_pos h1.1];exact h1.2
 | .ext a l, δ, S, Q, h => by
   simp only[wE] at h
   simp only[evE,zac]
   refine (wE_W a h).mono fun x S1 h1=>?_
   obtain⟨c,h1⟩:=zfe h1
   rw[if_pos c,zac]
   refine (wL_W l h1).mono fun r S2 h2=>?_
   cases x with
   | ref p =>
     unfold wGet wOpt at h2
     simp only at h2⊢
     cases e:S2.get p with
     |none=>rw[e] at h2;exact h2.elim
     |some o=>rw[e] at h2;cases o<;>first|exact zk7 h2|exact h2.elim
   |_=>exact h2.elim
 |.dnew3,δ,S,Q,h=>by simp only[wE] at h;simp only[evE];exact h
theorem zcN:∀(es:CEs) {δ:Ev} {S:St} {Q:List D->St->Prop},wEs cf es δ S Q->W (evEs cf es δ S) Q
 |.nil,δ,S,Q,h=>by simp only[wEs] at h;simp only[evEs];exact h
 | .cons e r, δ, S, Q, h => by
   simp only[wEs] at h
   simp only[evEs,zac]
   exact (wE_W e h).mono fun d S1 h1=>(zcN r h1).mono fun ds S2 h2=>h2
theorem wT_W:∀(e:CE) {δ:Ev} {S:St} {Q:Bool->St->Prop},wT cf e δ S Q->W (evT cf e δ S) Q
 | .cmp op a b, δ, S, Q, h => by
   simp only[wT] at h
   simp only[evT,zac]
   exact (wE_W a h).mono fun x S1 h1=>(wE_W b h1).mono fun y S2 h2=>zkt h2
 | .nt a, δ, S, Q, h => by
   simp only[wT] at h
   simp only[evT,zac]
   exact (wT_W a h).mono fun k S1 h1=>h1
 | .and a b, δ, S, Q, h => by
   simp only[wT] at h
   simp only[evT,zac]
   refine (wT_W a h).mono fun k S1 h1=>?_
   unfold wIf at h1
   cases k with
   |false=>exact h1
   |true=>exact wT_W b h1
 | .or a b, δ, S, Q, h => by
   simp only[wT] at h
   simp only[evT,zac]
   refine (wT_W a h).mono fun k S1 h1=>?_
   unfold wIf at h1
   cases k with
   |true=>exact h1
   |false=>exact wT_W b h1
 | .tst e, δ, S, Q, h => by
   simp only[wT] at h
   simp only[evT,zac]
   exact (wE_W e h).mono fun x S1 h1=>zm9 h1
 |.loc i,δ,S,Q,h=>by simp only[wT] at h
 |.con d,δ,S,Q,h=>by simp only[wT] at h
 |.bin op a b,δ,S,Q,h=>by simp only[wT] at h
 |.neg a,δ,S,Q,h=>by simp only[wT] at h
 |.ite c a b,δ,S,Q,h=>by simp only[wT] at h
 |.tup es,δ,S,Q,h=>by simp only[wT] at h
 |.lst es,δ,S,Q,h=>by simp only[wT] at h
 |.fld a f,δ,S,Q,h=>by simp only[wT] at h
 |.mk c f x j es,δ,S,Q,h=>by simp only[wT] at h
 |.meth m tb o es,δ,S,Q,h=>by simp only[wT] at h
 |.isc cs x a,δ,S,Q,h=>by simp only[wT] at h
 |.callC f x m es,δ,S,Q,h=>by simp only[wT] at h
 |.clr a,δ,S,Q,h=>by simp only[wT] at h
 |.callV a es,δ,S,Q,h=>by simp only[wT] at h
 |.ix a b,δ,S,Q,h=>by simp only[wT] at h
 |.slS a b,δ,S,Q,h=>by simp only[wT] at h
 |.sl a ml mh lo hi,δ,S,Q,h=>by simp only[wT] at h
 |.call f j es,δ,S,Q,h=>by simp only[wT] at h
 |.callW f j es,δ,S,Q,h=>by simp only[wT] at h
 |.bi b es,δ,S,Q,h=>by simp only[wT] at h
 |.mt m o es,δ,S,Q,h=>by simp only[wT] at h
 |.mkL l,δ,S,Q,h=>by simp only[wT] at h
 |.mkT l,δ,S,Q,h=>by simp only[wT] at h
 |.ext a l,δ,S,Q,h=>by simp only[wT] at h
 |.dnew3,δ,S,Q,h=>by simp only[wT] at h
theorem wL_W:∀(l:CL) {δ:Ev} {S:St} {Q:List D × List Nat->St->Prop},wL cf l δ S Q->W (evL cf l δ S) Q
 | .val e, δ, S, Q, h => by
   simp only[wL] at h
   simp only[evL,zac]
   refine (wE_W e h).mono fun x S1 h1=>?_
   obtain⟨ds,e,h2⟩:=zhf h1
   rw[e];exact h2
 | .callL f j es, δ, S, Q, h => by
   simp only[wL] at h
   simp only[evL,zac]
   refine (zcN es h).mono fun ds S1 h1=>?_
   unfold wOut at h1;exact h1
 | .rng1 a, δ, S, Q, h => by
   simp only[wL] at h
   simp only[evL,zac]
   refine (wE_W a h).mono fun x S1 h1=>?_
   cases x with
   | int j =>
     unfold zaT at h1
     simp only
     rw[if_pos h1.1];exact h1.2
   |_=>exact h1.elim
 | .rng2 a b, δ, S, Q, h => by
   simp only[wL] at h
   simp only[evL,zac]
   refine (wE_W a h).mono fun x S1 h1=>(wE_W b h1).mono fun y S2 h2=>?_
   cases x with
   | int i =>
     cases y with
     | int j =>
       unfold zaT at h2
       simp only
       rw[if_pos h2.1];exact h2.2
     |_=>exact h2.elim
   |_=>exact h2.elim
 | .comp n js g it c e, δ, S, Q, h => by
   simp only[wL] at h
   simp only[evL,zac]
   refine (wL_W it h).mono fun r S1 h1=>(zhg h1).mono fun ds S3 h3=>?_
   unfold zaT at h3
   rw[if_pos h3.1];exact h3.2
end
theorem wS_W:∀(s:CS) {δ:Ev} {S:St} {Q:Fl->St->Prop},wS cf s δ S Q->W (exS cf s δ S) Q
 |.nil,δ,S,Q,h=>by simp only[wS] at h;simp only[exS];exact h
 |.stop,δ,S,Q,h=>by simp only[wS] at h
 | .asg i e r, δ, S, Q, h => by
   simp only[wS] at h
   simp only[exS,zac]
   exact (wE_W e h).mono fun x S1 h1=>wS_W r h1
 | .asgT g e r, δ, S, Q, h => by
   simp only[wS] at h
   simp only[exS,zac]
   refine (wE_W e h).mono fun x S1 h1=>?_
   unfold wOpt at h1
   cases e:asgG g x δ with
   |none=>rw[e] at h1;exact h1.elim
   |some d=>rw[e] at h1;exact wS_W r h1
 | .setIx a b e r, δ, S, Q, h => by
   simp only[wS] at h
   simp only[exS,zac]
   refine (wE_W e h).mono fun v S1 h1=>(wE_W a h1).mono fun x S2 h2=>(wE_W b h2).mono fun y S3 h3=>?_
   unfold wOpt at h3
   cases e:dPut S3 x y v with
   |none=>rw[e] at h3;exact h3.elim
   |some S4=>rw[e] at h3;exact wS_W r h3
 | .setF a f e r, δ, S, Q, h => by
   simp only[wS] at h
   simp only[exS,zac]
   refine (wE_W e h).mono fun v S1 h1=>(wE_W a h1).mono fun x S2 h2=>?_
   unfold wOpt at h2
   cases e:zbW S2 x f v with
   |none=>rw[e] at h2;exact h2.elim
   |some S3=>rw[e] at h2;exact wS_W r h2
 | .ifS c t u r, δ, S, Q, h => by
   simp only[wS] at h
   simp only[exS,zac]
   refine (wT_W c h).mono fun k S1 h1=>?_
   unfold wIf at h1
   have nx:∀(f:Fl) (S2:St),(match f with|.nx δ'=>wS cf r δ' S2 Q|.rt d=>Q (.rt d) S2)->W (match f with|.nx δ'=>exS cf r δ' S2|.rt d=>.ok (.rt d) S2) Q:=fun f S2 q=>by
    cases f with
    |nx δ'=>exact wS_W r q
    |rt d=>exact q
   cases k with
   |true=>exact (wS_W t h1).mono nx
   |false=>exact (wS_W u h1).mono nx
 | .forS g l b r, δ, S, Q, h => by
   simp only[wS] at h
   simp only[exS,zac]
   refine (wL_W l h).mono fun q S1 h1=>(zhg h1).mono fun f S2 q=>?_
   cases f with
   |nx δ'=>exact wS_W r q
   |rt d=>exact q
 | .ret e r, δ, S, Q, h => by
   simp only[wS] at h
   simp only[exS,zac]
   exact (wE_W e h).mono fun x S1 h1=>h1
 | .expr e r, δ, S, Q, h => by
   simp only[wS] at h
   simp only[exS,zac]
   exact (wE_W e h).mono fun x S1 h1=>wS_W r h1
 | .pass r, δ, S, Q, h => by
   simp only[wS] at h
   simp only[exS]
   exact wS_W r h
@[irreducible] noncomputable def wFin (S:St)(r:Fl)(T:St)(Q:D->St->Prop):Prop:=W (fin S r T) Q
theorem zi0 {P:List Fn}{F:Fn}{f n:Nat}{ds:List D}{S:St}{Q:D->St->Prop}(h:P[f]?=some F)(hl:ds.length=F.np)(w:wS (callF P n) F.body (zaJ F ds) S.enter fun r T=>wFin S r T Q)(hp:F.prim=none:=by rfl) :
  W (app (callF P (n+1)) f ds S) Q:=by
 rw[ziZ h hl hp,zac]
 refine (wS_W _ w).mono fun r T q=>?_
 unfold wFin at q;exact q
theorem zdZ {P:List Fn}{F:Fn}{f n:Nat}{ds:List D}{S S':St}{d:D}(h:P[f]?=some F)(hl:ds.length=F.np)(w:wS (callF P n) F.body (zaJ F ds) S.enter fun r T=>wFin S r T fun a T'=>a=d/\T'=S')(hp:F.prim=none:=by rfl) :
 app (callF P (n+1)) f ds S=.ok d S':=W.eq (zi0 h hl w hp)
theorem zao {S T:St}{d:D}{Q:D->St->Prop}(h:flat S.len d=true)(q:Q d S):wFin S (.rt d) T Q:=by
 unfold wFin;rw[zkT,zgZ S d T h];exact q
theorem zev {S T:St}{l:Nat}{ds:List D}{Q:D->St->Prop}(hl:S.len<=l)(hg:T.get l=some (.lst ds))(h:flats S.len ds=true)(q:Q (.ref S.len) (S.push (.lst ds))):wFin S (.rt (.ref l)) T Q:=by
 have h0:flat S.len (.ref l)=false:=by simp[flat];omega
 unfold wFin
 rw[zkT]
 unfold zcj
 simp only[h0,hg,h,if_true,Bool.false_eq_true,if_false]
 exact q
end
end R
end
section
namespace R
open PySem (Str PyData Operator CmpOp)
structure Frm (S S':St):Prop where
 frz:S'.frz=S.frz
 lk:S'.lk=S.lk
 len:S.new.length<=S'.new.length
 same:∀l∈S.lk,l<S.len->S'.get l=S.get l
theorem Frm.refl (S:St):Frm S S:=⟨rfl,rfl,Nat.le_refl _,fun _ _ _=>rfl⟩
theorem Frm.lens {S S':St}(h:Frm S S'):S.len<=S'.len:=by unfold St.len;rw[h.frz];have:=h.len;omega
theorem Frm.trans {S S1 S2:St}(a:Frm S S1)(b:Frm S1 S2):Frm S S2:=
 ⟨b.frz.trans a.frz,b.lk.trans a.lk,Nat.le_trans a.len b.len,fun l hl h=>(b.same l (by rw[a.lk];exact hl) (Nat.lt_of_lt_of_le h a.lens)).trans (a.same l hl h)⟩
theorem Frm.push (S:St)(o:MO):Frm S (S.push o):=by
 refine⟨rfl,rfl,by simp[St.push],fun l _ h=>?_⟩
 unfold St.len at h
 unfold St.get St.push
 simp only
 split
 · rfl
 · rw[List.getElem?_append_left (by omega)]
theorem Frm.put {S S':St}{l:Nat}{o:MO}(h:S.put l o=some S'):Frm S S':=by
 unfold St.put at h
 split at h
 · cases h
 · split at h
   · cases h
   · rename_i h1 h2
     injection h with h
     subst h
     refine⟨rfl,rfl,by simp,fun m hm hl=>?_⟩
     have hne:m≠l:=fun e=>by subst e;exact h2 (by simpa using hm)
     unfold St.get
     simp only
     split
     · rfl
     · rw[List.getElem?_set_ne (by omega)]
noncomputable abbrev WF {α:Type}(S:St)(o:Out α)(Q:α->St->Prop):Prop:=W o fun a S'=>Q a S'/\Frm S S'
theorem WF.bind {α β:Type}{S:St}{o:Out α}{f:α->St->Out β}{Q:β->St->Prop}(h:WF S o fun a S1=>W (f a S1) Q)(hf:∀a S1,W (f a S1) Q->WF S1 (f a S1) Q):WF S (o.bind f) Q:=by
 rw[WF,zac]
 exact h.mono fun a S1 ⟨q,f1⟩=>(hf a S1 q).mono fun b S2 ⟨q2,f2⟩=>⟨q2,f1.trans f2⟩
theorem zg0 {S:St}{ds:List D}{Q:D->St->Prop}(h:W (lay S ds) Q):WF S (lay S ds) Q:=by
 unfold lay at h⊢
 split
 · rename_i c;rw[if_pos c] at h;exact⟨h,Frm.push _ _⟩
 · rename_i c;rw[if_neg c] at h;exact h.elim
theorem wr_F {S:St}{l:Nat}{ds:List D}{d:D}{Q:D->St->Prop}(h:W (wr S l ds d) Q):WF S (wr S l ds d) Q:=by
 unfold wr at h⊢
 split
 · rename_i c
   rw[if_pos c] at h
   cases e:S.put l (.lst ds) with
   |none=>rw[e] at h;exact h.elim
   |some S'=>rw[e] at h;exact⟨h,Frm.put e⟩
 · rename_i c;rw[if_neg c] at h;exact h.elim
theorem zbq {α:Type}{S:St}{o:Option α}{Q:α->St->Prop}(h:W (lift S o) Q):WF S (lift S o) Q:=by
 cases o with
 |none=>exact h.elim
 |some a=>exact⟨h,Frm.refl S⟩
theorem zpg {S:St}{op:Operator}{x y:D}{Q:D->St->Prop}(h:W (binD S op x y) Q):WF S (binD S op x y) Q:=by
 unfold binD at h⊢
 split
 · unfold binI at h⊢
   dsimp only at h
   cases op<;>dsimp only at h⊢<;> first
    |exact⟨h,Frm.refl S⟩
    |exact h.elim
    | (split at h
       · rename_i c;rw[if_pos c];exact⟨h,Frm.refl S⟩
       · exact h.elim)
 · dsimp only at h
   cases op<;>dsimp only at h⊢<;> first
    |exact False.elim h
    | (split at h
       · rename_i c;rw[if_pos c];exact⟨h,Frm.refl S⟩
       · exact False.elim h)
 · dsimp only at h
   split at h
   · exact zg0 h
   · exact False.elim h
 · rename_i h1 h2 h3
   split at h
   · exact (h1 _ _ rfl rfl).elim
   · exact (h2 _ _ rfl rfl).elim
   · exact (h3 _ _ rfl rfl).elim
   · exact False.elim h
theorem bi_F {S:St}{b:Bi}{ds:List D}{Q:D->St->Prop}(h:W (bi S b ds) Q):WF S (bi S b ds) Q:=by
 unfold bi at h⊢
 split
 · rename_i x
   dsimp only at h
   cases x with
   |tup ds=>exact⟨h,Frm.refl S⟩
   |fix ds=>exact⟨h,Frm.refl S⟩
   | ref l =>
     dsimp only at h⊢
     cases e:S.get l with
     |none=>rw[e] at h;exact False.elim h
     |some o=>rw[e] at h;cases o<;>first|exact⟨h,Frm.refl S⟩|exact False.elim h
   |_=>exact False.elim h
 · exact⟨h,Frm.refl S⟩
 · dsimp only at h
   split at h
   · exact⟨h,Frm.refl S⟩
   · exact False.elim h
 · exact False.elim (by simpa using h)
theorem mt_F {S:St}{m:Mt}{x:D}{ds:List D}{Q:D->St->Prop}(h:W (mt S m x ds) Q):WF S (mt S m x ds) Q:=by
 unfold mt at h⊢
 split
 · dsimp only at h
   split at h
   · exact wr_F h
   · exact False.elim h
 · exact False.elim (by simpa using h)
theorem Frm.keep (S T:St):Frm S ⟨S.frz,S.new++T.new,S.lk⟩:=by
 refine⟨rfl,rfl,by simp,fun l _ h=>?_⟩
 unfold St.len at h
 unfold St.get
 simp only
 split
 · rfl
 · rw[List.getElem?_append_left (by omega)]
theorem zi9 {S S':St}{x:D}{f:Str}{v:D}(h:zbW S x f v=some S'):Frm S S':=by
 unfold zbW at h
 split at h
 · split at h
   · split at h
     · exact Frm.put h
     · cases h
   · cases h
 · cases h
theorem zo5 {S S':St}{x y v:D}(h:dPut S x y v=some S'):Frm S S':=by
 unfold dPut at h
 split at h
 · split at h
   · cases e:key3 y with
     |none=>rw[e] at h;cases h
     | some k =>
       rw[e] at h
       dsimp only[Option.bind_some] at h
       split at h
       · exact Frm.put h
       · cases h
   · cases e:zdB y with
     |none=>rw[e] at h;cases h
     | some k =>
       rw[e,Option.bind_some] at h
       rename_i ds _
       cases e2:ixN ds.length k with
       |none=>rw[e2] at h;cases h
       |some j=>rw[e2,Option.bind_some] at h;exact Frm.put h
   · cases h
 · cases h
theorem zmn {S T:St}{d:D}{Q:D->St->Prop}(h:W (zcj S d T) Q):WF S (zcj S d T) Q:=by
 unfold zcj at h⊢
 split
 · rename_i c;rw[if_pos c] at h;exact⟨h,Frm.refl S⟩
 · rename_i c
   rw[if_neg c] at h
   dsimp only at h⊢
   split at h
   · split at h
     · split at h
       · rename_i c;rw[if_pos c];exact⟨h,Frm.push _ _⟩
       · rename_i c;rw[if_neg c];exact⟨h,Frm.keep _ _⟩
     · exact⟨h,Frm.keep _ _⟩
   · exact⟨h,Frm.keep _ _⟩
theorem zqd {cf:CF}{f:Nat}{ds:List D}{S:St}{Q:D->St->Prop}(h:W (app cf f ds S) Q):WF S (app cf f ds S) Q:=by
 unfold app at h⊢
 cases e:cf f ds S.enter with
 |ok d T=>rw[e] at h;exact zmn h
 |err d T=>rw[e] at h;exact h.elim
 |bad=>rw[e] at h;exact h.elim
theorem zpm {cf:CF}{f:Nat}{ds:List D}{S:St}{Q:List D->St->Prop}(h:W (appL cf f ds S) Q):WF S (appL cf f ds S) Q:=by
 unfold appL at h⊢
 cases e:cf f ds S.enter with
 | ok d T =>
   rw[e] at h
   simp only[zas] at h⊢
   unfold zc9 at h⊢
   cases d with
   | ref l =>
     dsimp only at h⊢
     split at h
     · exact False.elim h
     · rename_i c
       rw[if_neg c]
       cases e:T.get l with
       |none=>rw[e] at h;exact False.elim h
       | some o =>
         rw[e] at h
         cases o with
         | lst ds =>
           dsimp only at h⊢
           split at h
           · rename_i c;rw[if_pos c];exact⟨h,Frm.refl S⟩
           · exact False.elim h
         |_=>exact False.elim h
   |_=>exact False.elim h
 |err d T=>rw[e] at h;exact h.elim
 |bad=>rw[e] at h;exact h.elim
theorem Frm.unlock {S T:St}{ls:List Nat}(h:Frm {S with lk:=ls++S.lk} T):Frm S {T with lk:=S.lk}:=
 ⟨h.frz,rfl,h.len,fun l hl hn=>h.same l (List.mem_append_right _ hl) hn⟩
theorem zgo {α:Type}{ls:List Nat}{S:St}{f:St->Out α}{Q:α->St->Prop}(h:W (za1 ls S f) Q)(hf:∀Q',W (f {S with lk:=ls++S.lk}) Q'->WF {S with lk:=ls++S.lk} (f {S with lk:=ls++S.lk}) Q'):WF S (za1 ls S f) Q:=by
 unfold za1 at h⊢
 rw[zac] at h
 rw[WF,zac]
 exact (hf _ h).mono fun a T ⟨q,fr⟩=>⟨q,fr.unlock⟩
theorem zd2 {g:List Nat}{c:Ev->St->Out Bool}{e:Ev->St->Out D}(hc:∀δ S Q,W (c δ S) Q->WF S (c δ S) Q)(he:∀δ S Q,W (e δ S) Q->WF S (e δ S) Q) :
  ∀(xs:List D) (δ:Ev) (S:St) (Q:List D->St->Prop),W (zax g c e xs δ S) Q->WF S (zax g c e xs δ S) Q
 | [],δ,S,Q,h=>⟨h,Frm.refl S⟩
 | x :: xs, δ, S, Q, h => by
   simp only[zax] at h⊢
   cases ea:asgG g x δ with
   |none=>rw[ea] at h;exact h.elim
   | some δ' =>
     rw[ea] at h
     dsimp only at h⊢
     rw[zac] at h
     refine WF.bind (hc _ _ _ h) fun b S1 h1=>?_
     cases b with
     | false =>
       simp only[Bool.false_eq_true,if_false] at h1⊢
       exact zd2 hc he xs δ' S1 Q h1
     | true =>
       simp only[if_true] at h1⊢
       rw[zac] at h1
       refine WF.bind (he _ _ _ h1) fun d S2 h2=>?_
       rw[zac] at h2
       exact WF.bind (zd2 hc he xs δ' S2 _ h2) fun ds S3 h3=>⟨h3,Frm.refl _⟩
theorem zf2 {g:List Nat}{b:Ev->St->Out Fl}(hb:∀δ S Q,W (b δ S) Q->WF S (b δ S) Q) :
  ∀(xs:List D) (δ:Ev) (S:St) (Q:Fl->St->Prop),W (zbd g b xs δ S) Q->WF S (zbd g b xs δ S) Q
 | [],δ,S,Q,h=>⟨h,Frm.refl S⟩
 | x :: xs, δ, S, Q, h => by
   simp only[zbd] at h⊢
   cases ea:asgG g x δ with
   |none=>rw[ea] at h;exact h.elim
   | some δ' =>
     rw[ea] at h
     dsimp only at h⊢
     rw[zac] at h
     refine WF.bind (hb _ _ _ h) fun f S1 h1=>?_
     cases f with
     |nx δ2=>exact zf2 hb xs δ2 S1 Q h1
     |rt d=>exact⟨h1,Frm.refl _⟩
noncomputable def CFok (cf:CF):Prop:=∀f ds S d T,cf f ds S=.ok d T->Frm S T
theorem appW_F {cf:CF}(hcf:CFok cf){f:Nat}{ds:List D}{S:St}{Q:D->St->Prop}(h:W (appW cf f ds S) Q):WF S (appW cf f ds S) Q:=by
 unfold appW at h⊢
 cases e:cf f ds S with
 |ok d T=>rw[e] at h;exact⟨h,hcf f ds S d T e⟩
 |err d T=>rw[e] at h;exact h.elim
 |bad=>rw[e] at h;exact h.elim
section
variable {cf:CF} (hcf:CFok cf)
include hcf
mutual
theorem zaC:∀(e:CE) (δ:Ev) (S:St) (Q:D->St->Prop),W (evE cf e δ S) Q->WF S (evE cf e δ S) Q
 |.loc i,δ,S,Q,h=>by simp only[evE] at h⊢;exact zbq h
 |.con d,δ,S,Q,h=>by simp only[evE] at h⊢;exact⟨h,Frm.refl S⟩
 |.tst _,δ,S,Q,h=>by simp only[evE] at h;exact h.elim
 | .bin op a b, δ, S, Q, h => by
   simp only[evE] at h⊢
   rw[zac] at h
   refine WF.bind (zaC a δ S _ h) fun x S1 h1=>?_
   rw[zac] at h1
   exact WF.bind (zaC b δ S1 _ h1) fun y S2 h2=>zpg h2
 | .neg a, δ, S, Q, h => by
   simp only[evE] at h⊢
   rw[zac] at h
   refine WF.bind (zaC a δ S _ h) fun x S1 h1=>?_
   cases x<;>first|exact⟨h1,Frm.refl _⟩|exact h1.elim
 | .nt a, δ, S, Q, h => by
   simp only[evE] at h⊢
   rw[zac] at h
   refine WF.bind (zaC a δ S _ h) fun x S1 h1=>?_
   cases x<;>first|exact⟨h1,Frm.refl _⟩|exact h1.elim
 | .cmp op a b, δ, S, Q, h => by
   simp only[evE] at h⊢
   rw[zac] at h
   refine WF.bind (zaC a δ S _ h) fun x S1 h1=>?_
   rw[zac] at h1
   refine WF.bind (zaC b δ S1 _ h1) fun y S2 h2=>?_
   rw[zac] at h2
   exact WF.bind (zbq h2) fun k S3 h3=>⟨h3,Frm.refl _⟩
 | .and a b, δ, S, Q, h => by
   simp only[evE] at h⊢
   rw[zac] at h
   refine WF.bind (zaC a δ S _ h) fun x S1 h1=>?_
   cases x with
   | bl k =>
     cases k with
     |false=>exact⟨h1,Frm.refl _⟩
     |true=>exact zaC b δ S1 Q h1
   |_=>exact h1.elim
 | .or a b, δ, S, Q, h => by
   simp only[evE] at h⊢
   rw[zac] at h
   refine WF.bind (zaC a δ S _ h) fun x S1 h1=>?_
   cases x with
   | bl k =>
     cases k with
     |true=>exact⟨h1,Frm.refl _⟩
     |false=>exact zaC b δ S1 Q h1
   |_=>exact h1.elim
 | .ite c a b, δ, S, Q, h => by
   simp only[evE] at h⊢
   rw[zac] at h
   refine WF.bind (zes c δ S _ h) fun k S1 h1=>?_
   cases k with
   |true=>exact zaC a δ S1 Q h1
   |false=>exact zaC b δ S1 Q h1
 | .tup es, δ, S, Q, h => by
   simp only[evE] at h⊢
   rw[zac] at h
   refine WF.bind (zbr es δ S _ h) fun ds S1 h1=>?_
   split at h1
   · rename_i c;rw[if_pos c];exact⟨h1,Frm.refl _⟩
   · exact h1.elim
 | .lst es, δ, S, Q, h => by
   simp only[evE] at h⊢
   rw[zac] at h
   exact WF.bind (zbr es δ S _ h) fun ds S1 h1=>zg0 h1
 | .fld a f, δ, S, Q, h => by
   simp only[evE] at h⊢
   rw[zac] at h
   exact WF.bind (zaC a δ S _ h) fun x S1 h1=>zbq h1
 | .mk c f _ j es, δ, S, Q, h => by
   simp only[evE] at h⊢
   rw[zac] at h
   refine WF.bind (zbr es δ S _ h) fun ds S1 h1=>?_
   rw[zac] at h1
   have h2:=(appW_F hcf h1:WF (S1.push (.ins c [])) _ _)
   refine WF.bind (h2.mono fun d T q=>⟨q.1,(Frm.push S1 _).trans q.2⟩) fun d S2 h3=>?_
   split at h3
   · rename_i c;rw[if_pos c];exact⟨h3,Frm.refl _⟩
   · exact h3.elim
 | .meth m tb o es, δ, S, Q, h => by
   simp only[evE] at h⊢
   rw[zac] at h
   refine WF.bind (zaC o δ S _ h) fun x S1 h1=>?_
   rw[zac] at h1
   refine WF.bind (zbq h1) fun p S2 h2=>?_
   rw[zac] at h2
   refine WF.bind (zbq h2) fun f S3 h3=>?_
   split at h3
   · rename_i c
     rw[if_pos c]
     rw[zac] at h3
     exact WF.bind (zbr es δ S3 _ h3) fun ds S4 h4=>appW_F hcf h4
   · exact h3.elim
 | .callV a es, δ, S, Q, h => by
   simp only[evE] at h⊢
   rw[zac] at h
   refine WF.bind (zaC a δ S _ h) fun x S1 h1=>?_
   rw[zac] at h1
   exact WF.bind (zbr es δ S1 _ h1) fun ds S2 h2=>zbq h2
 | .isc cs _ a, δ, S, Q, h => by
   simp only[evE] at h⊢
   rw[zac] at h
   refine WF.bind (zaC a δ S _ h) fun x S1 h1=>?_
   rw[zac] at h1
   exact WF.bind (zbq h1) fun p S2 h2=>⟨h2,Frm.refl _⟩
 | .callC f _ _ es, δ, S, Q, h => by
   simp only[evE] at h⊢
   rw[zac] at h
   exact WF.bind (zbr es δ S _ h) fun ds S1 h1=>appW_F hcf h1
 | .clr a, δ, S, Q, h => by
   simp only[evE] at h⊢
   rw[zac] at h
   refine WF.bind (zaC a δ S _ h) fun x S1 h1=>?_
   split at h1
   · rename_i c
     rw[if_pos c]
     cases x with
     |ref l=>exact wr_F h1
     |_=>exact h1.elim
   · exact h1.elim
 | .ix a b, δ, S, Q, h => by
   simp only[evE] at h⊢
   rw[zac] at h
   refine WF.bind (zaC a δ S _ h) fun x S1 h1=>?_
   rw[zac] at h1
   refine WF.bind (zaC b δ S1 _ h1) fun y S2 h2=>?_
   split at h2
   · exact zbq h2
   · exact h2.elim
 | .slS a b, δ, S, Q, h => by
   simp only[evE] at h⊢
   rw[zac] at h
   refine WF.bind (zaC a δ S _ h) fun x S1 h1=>?_
   rw[zac] at h1
   refine WF.bind (zaC b δ S1 _ h1) fun y S2 h2=>?_
   cases x with
   | ref p =>
     cases y with
     | int k =>
       dsimp only at h2⊢
       by_cases hk:k=0
       · rw[if_pos hk] at h2;exact h2.elim
       · rw[if_neg hk] at h2⊢
         cases e:S2.get p with
         |none=>rw[e] at h2;exact h2.elim
         | some o =>
           rw[e] at h2
           cases o<;>first|exact zg0 h2|exact h2.elim
     |_=>exact h2.elim
   |_=>exact h2.elim
 | .sl a ml mh lo hi, δ, S, Q, h => by
   simp only[evE] at h⊢
   rw[zac] at h
   refine WF.bind (zaC a δ S _ h) fun x S1 h1=>?_
   rw[zac] at h1
   refine WF.bind (zaC lo δ S1 _ h1) fun y S2 h2=>?_
   rw[zac] at h2
   refine WF.bind (zaC hi δ S2 _ h2) fun z S3 h3=>?_
   split at h3
   · split at h3
     · exact⟨h3,Frm.refl _⟩
     · exact zg0 h3
     · split at h3
       · exact zg0 h3
       · exact h3.elim
     · exact h3.elim
   · exact h3.elim
 | .call f j es, δ, S, Q, h => by
   simp only[evE] at h⊢
   rw[zac] at h
   exact WF.bind (zbr es δ S _ h) fun ds S1 h1=>zqd h1
 | .callW f j es, δ, S, Q, h => by
   simp only[evE] at h⊢
   rw[zac] at h
   exact WF.bind (zbr es δ S _ h) fun ds S1 h1=>appW_F hcf h1
 | .bi b es, δ, S, Q, h => by
   simp only[evE] at h⊢
   rw[zac] at h
   exact WF.bind (zbr es δ S _ h) fun ds S1 h1=>bi_F h1
 | .mt m o es, δ, S, Q, h => by
   simp only[evE] at h⊢
   rw[zac] at h
   refine WF.bind (zaC o δ S _ h) fun x S1 h1=>?_
   split at h1
   · rename_i c
     rw[if_pos c]
     rw[zac] at h1
     exact WF.bind (zbr es δ S1 _ h1) fun ds S2 h2=>mt_F h2
   · exact h1.elim
 | .mkL l, δ, S, Q, h => by
   simp only[evE] at h⊢
   rw[zac] at h
   exact WF.bind (ziD l δ S _ h) fun r S1 h1=>zg0 h1
 | .mkT l, δ, S, Q, h => by
   simp only[evE] at h⊢
   rw[zac] at h
   refine WF.bind (ziD l δ S _ h) fun r S1 h1=>?_
   split at h1
   · rename_i c;rw[if_pos c];exact⟨h1,Frm.refl _⟩
   · exact h1.elim
 | .ext a l, δ, S, Q, h => by
   simp only[evE] at h⊢
   rw[zac] at h
   refine WF.bind (zaC a δ S _ h) fun x S1 h1=>?_
   split at h1
   · rename_i c
     rw[if_pos c]
     rw[zac] at h1
     refine WF.bind (ziD l δ S1 _ h1) fun r S2 h2=>?_
     split at h2
     · split at h2
       · exact wr_F h2
       · exact h2.elim
     · exact h2.elim
   · exact h1.elim
 |.dnew3,δ,S,Q,h=>by simp only[evE] at h⊢;exact⟨h,Frm.push _ _⟩
theorem zbr:∀(es:CEs) (δ:Ev) (S:St) (Q:List D->St->Prop),W (evEs cf es δ S) Q->WF S (evEs cf es δ S) Q
 |.nil,δ,S,Q,h=>by simp only[evEs] at h⊢;exact⟨h,Frm.refl S⟩
 | .cons e r, δ, S, Q, h => by
   simp only[evEs] at h⊢
   rw[zac] at h
   refine WF.bind (zaC e δ S _ h) fun x S1 h1=>?_
   rw[zac] at h1
   exact WF.bind (zbr r δ S1 _ h1) fun k S3 h3=>⟨h3,Frm.refl _⟩
theorem zes:∀(e:CE) (δ:Ev) (S:St) (Q:Bool->St->Prop),W (evT cf e δ S) Q->WF S (evT cf e δ S) Q
 | .cmp op a b, δ, S, Q, h => by
   simp only[evT] at h⊢
   rw[zac] at h
   refine WF.bind (zaC a δ S _ h) fun x S1 h1=>?_
   rw[zac] at h1
   exact WF.bind (zaC b δ S1 _ h1) fun y S2 h2=>zbq h2
 | .nt a, δ, S, Q, h => by
   simp only[evT] at h⊢
   rw[zac] at h
   exact WF.bind (zes a δ S _ h) fun k S3 h3=>⟨h3,Frm.refl _⟩
 | .and a b, δ, S, Q, h => by
   simp only[evT] at h⊢
   rw[zac] at h
   refine WF.bind (zes a δ S _ h) fun k S1 h1=>?_
   cases k with
   |false=>exact⟨h1,Frm.refl _⟩
   |true=>exact zes b δ S1 Q h1
 | .or a b, δ, S, Q, h => by
   simp only[evT] at h⊢
   rw[zac] at h
   refine WF.bind (zes a δ S _ h) fun k S1 h1=>?_
   cases k with
   |true=>exact⟨h1,Frm.refl _⟩
   |false=>exact zes b δ S1 Q h1
 | .tst e, δ, S, Q, h => by
   simp only[evT] at h⊢
   rw[zac] at h
   exact WF.bind (zaC e δ S _ h) fun k S3 h3=>zbq h3
 |.loc i,δ,S,Q,h=>by simp only[evT] at h;exact h.elim
 |.con d,δ,S,Q,h=>by simp only[evT] at h;exact h.elim
 |.bin op a b,δ,S,Q,h=>by simp only[evT] at h;exact h.elim
 |.neg a,δ,S,Q,h=>by simp only[evT] at h;exact h.elim
 |.ite c a b,δ,S,Q,h=>by simp only[evT] at h;exact h.elim
 |.tup es,δ,S,Q,h=>by simp only[evT] at h;exact h.elim
 |.lst es,δ,S,Q,h=>by simp only[evT] at h;exact h.elim
 |.fld a f,δ,S,Q,h=>by simp only[evT] at h;exact h.elim
 |.mk c f x j es,δ,S,Q,h=>by simp only[evT] at h;exact h.elim
 |.meth m tb o es,δ,S,Q,h=>by simp only[evT] at h;exact h.elim
 |.isc cs x a,δ,S,Q,h=>by simp only[evT] at h;exact h.elim
 |.callC f x m es,δ,S,Q,h=>by simp only[evT] at h;exact h.elim
 |.clr a,δ,S,Q,h=>by simp only[evT] at h;exact h.elim
 |.callV a es,δ,S,Q,h=>by simp only[evT] at h;exact h.elim
 |.ix a b,δ,S,Q,h=>by simp only[evT] at h;exact h.elim
 |.slS a b,δ,S,Q,h=>by simp only[evT] at h;exact h.elim
 |.sl a ml mh lo hi,δ,S,Q,h=>by simp only[evT] at h;exact h.elim
 |.call f j es,δ,S,Q,h=>by simp only[evT] at h;exact h.elim
 |.callW f j es,δ,S,Q,h=>by simp only[evT] at h;exact h.elim
 |.bi b es,δ,S,Q,h=>by simp only[evT] at h;exact h.elim
 |.mt m o es,δ,S,Q,h=>by simp only[evT] at h;exact h.elim
 |.mkL l,δ,S,Q,h=>by simp only[evT] at h;exact h.elim
 |.mkT l,δ,S,Q,h=>by simp only[evT] at h;exact h.elim
 |.ext a l,δ,S,Q,h=>by simp only[evT] at h;exact h.elim
 |.dnew3,δ,S,Q,h=>by simp only[evT] at h;exact h.elim
theorem ziD:∀(l:CL) (δ:Ev) (S:St) (Q:List D × List Nat->St->Prop),W (evL cf l δ S) Q->WF S (evL cf l δ S) Q
 | .val e, δ, S, Q, h => by
   simp only[evL] at h⊢
   rw[zac] at h
   refine WF.bind (zaC e δ S _ h) fun x S1 h1=>?_
   rw[zac] at h1
   exact WF.bind (zbq h1) fun k S3 h3=>⟨h3,Frm.refl _⟩
 | .callL f j es, δ, S, Q, h => by
   simp only[evL] at h⊢
   rw[zac] at h
   refine WF.bind (zbr es δ S _ h) fun ds S1 h1=>?_
   rw[zac] at h1
   exact WF.bind (zpm h1) fun k S3 h3=>⟨h3,Frm.refl _⟩
 | .rng1 a, δ, S, Q, h => by
   simp only[evL] at h⊢
   rw[zac] at h
   refine WF.bind (zaC a δ S _ h) fun x S1 h1=>?_
   cases x with
   | int j =>
     dsimp only at h1⊢
     split at h1
     · rename_i c;rw[if_pos c];exact⟨h1,Frm.refl _⟩
     · exact h1.elim
   |_=>exact h1.elim
 | .rng2 a b, δ, S, Q, h => by
   simp only[evL] at h⊢
   rw[zac] at h
   refine WF.bind (zaC a δ S _ h) fun x S1 h1=>?_
   rw[zac] at h1
   refine WF.bind (zaC b δ S1 _ h1) fun y S2 h2=>?_
   split at h2
   · split at h2
     · rename_i c;rw[if_pos c];exact⟨h2,Frm.refl _⟩
     · exact h2.elim
   · exact h2.elim
 | .comp n js g it c e, δ, S, Q, h => by
   simp only[evL] at h⊢
   rw[zac] at h
   refine WF.bind (ziD it δ S _ h) fun r S1 h1=>?_
   rw[zac] at h1
   exact WF.bind (zgo h1 fun Q' h2=>zd2 (fun δ S Q=>zes c δ S Q) (fun δ S Q=>zaC e δ S Q) _ _ _ _ h2) fun k S3 h3=>by
    split at h3
    · rename_i c;rw[if_pos c];exact⟨h3,Frm.refl _⟩
    · exact h3.elim
end
theorem zcD:∀(s:CS) (δ:Ev) (S:St) (Q:Fl->St->Prop),W (exS cf s δ S) Q->WF S (exS cf s δ S) Q
 |.nil,δ,S,Q,h=>by simp only[exS] at h⊢;exact⟨h,Frm.refl S⟩
 |.stop,δ,S,Q,h=>by simp only[exS] at h;exact h.elim
 | .asg i e r, δ, S, Q, h => by
   simp only[exS] at h⊢
   rw[zac] at h
   exact WF.bind (zaC hcf e δ S _ h) fun x S1 h1=>zcD r _ S1 Q h1
 | .asgT g e r, δ, S, Q, h => by
   simp only[exS] at h⊢
   rw[zac] at h
   refine WF.bind (zaC hcf e δ S _ h) fun x S1 h1=>?_
   rw[zac] at h1
   exact WF.bind (zbq h1) fun δ' S2 h2=>zcD r _ S2 Q h2
 | .setIx a b e r, δ, S, Q, h => by
   simp only[exS] at h⊢
   rw[zac] at h
   refine WF.bind (zaC hcf e δ S _ h) fun v S1 h1=>?_
   rw[zac] at h1
   refine WF.bind (zaC hcf a δ S1 _ h1) fun x S2 h2=>?_
   rw[zac] at h2
   refine WF.bind (zaC hcf b δ S2 _ h2) fun y S3 h3=>?_
   cases ed:dPut S3 x y v with
   |none=>rw[ed] at h3;exact h3.elim
   | some S4 =>
     rw[ed] at h3
     have f1:=zo5 ed
     have f2:=zcD r δ S4 Q h3
     dsimp only
     unfold WF at f2⊢
     exact f2.mono fun a T ⟨q,f⟩=>⟨q,f1.trans f⟩
 | .setF a f e r, δ, S, Q, h => by
   simp only[exS] at h⊢
   rw[zac] at h
   refine WF.bind (zaC hcf e δ S _ h) fun v S1 h1=>?_
   rw[zac] at h1
   refine WF.bind (zaC hcf a δ S1 _ h1) fun x S2 h2=>?_
   cases ed:zbW S2 x f v with
   |none=>rw[ed] at h2;exact h2.elim
   | some S3 =>
     rw[ed] at h2
     exact (zcD r δ S3 Q h2).mono fun a S' q=>⟨q.1,(zi9 ed).trans q.2⟩
 | .ifS c t u r, δ, S, Q, h => by
   simp only[exS] at h⊢
   rw[zac] at h
   refine WF.bind (zes hcf c δ S _ h) fun k S1 h1=>?_
   rw[zac] at h1
   refine WF.bind (Q:=Q) (S:=S1) ?_ fun f S2 h2=>?_
   · cases k with
     |true=>exact zcD t δ S1 _ h1
     |false=>exact zcD u δ S1 _ h1
   · cases f with
     |nx δ'=>exact zcD r _ S2 Q h2
     |rt d=>exact⟨h2,Frm.refl _⟩
 | .forS g l b r, δ, S, Q, h => by
   simp only[exS] at h⊢
   rw[zac] at h
   refine WF.bind (ziD hcf l δ S _ h) fun q S1 h1=>?_
   rw[zac] at h1
   refine WF.bind (zgo h1 fun Q' h2=>zf2 (fun δ S Q=>zcD b δ S Q) _ _ _ _ h2) fun f S3 h3=>?_
   cases f with
   |nx δ'=>exact zcD r _ S3 Q h3
   |rt d=>exact⟨h3,Frm.refl _⟩
 | .ret e r, δ, S, Q, h => by
   simp only[exS] at h⊢
   rw[zac] at h
   exact WF.bind (zaC hcf e δ S _ h) fun x S1 h1=>⟨h1,Frm.refl _⟩
 | .expr e r, δ, S, Q, h => by
   simp only[exS] at h⊢
   rw[zac] at h
   exact WF.bind (zaC hcf e δ S _ h) fun x S1 h1=>zcD r _ S1 Q h1
 | .pass r, δ, S, Q, h => by
   simp only[exS] at h⊢
   exact zcD r _ S Q h
end
end R
end
section
set_option maxHeartbeats 4000000
namespace R
open PySem PySem.Spec PyProof.Rows L2
section
variable {prog:Program} {w:World} {A:Around} {E:Value->Shared->Prop} {s:Shared}
noncomputable def IsTri (prog:Program)(w:World)(h:Heap)(k:K3)(a:Addr):Prop:=∃o t u b n,h.get? a=some o/\o.cls=.type "tuple"/\o.data=.seq #[.int k.1 t,.ref b,.int k.2.2 u] n/\IsTupleKey (zap prog w) h (k.2.1.map Sum.inl) b
theorem zin {x y:List Int}(h:(x.map Sum.inl:List Key)=y.map Sum.inl):x=y:=(List.map_inj_right (fun a b e=>Sum.inl.inj e)).mp h
theorem IsTri.typeIs {k:K3}{a:Addr}(x:IsTri prog w s.heap k a):s.TypeIs (.ref a) "tuple":=let ⟨o,_,_,_,_,ho,hc,_⟩:=x;⟨o,ho,hc⟩
theorem IsTri.inj {h:Heap}{a:Addr}{x y:K3}(hx:IsTri prog w h x a)(hy:IsTri prog w h y a):x=y:=by
 obtain⟨o,t,u,b,n,ho,_,hd,hi⟩:=hx
 obtain⟨o',t',u',b',n',ho',_,hd',hi'⟩:=hy
 obtain rfl:o=o':=Option.some.inj (ho.symm.trans ho')
 rw[hd] at hd'
 injection hd' with h1 _
 have h1:=congrArg Array.toList h1
 simp only[List.cons.injEq,Value.int.injEq,Value.ref.injEq,and_true] at h1
 obtain⟨⟨e1,_⟩,rfl,e3,_⟩:=h1
 have e2:=zin (hi.inj hi')
 obtain⟨x1,x2,x3⟩:=x
 obtain⟨y1,y2,y3⟩:=y
 simp_all
theorem IsTri.keeps {h h':Heap}{k:K3}{a d:Addr}{o:Obj}{es ep}(x:IsTri prog w h k a)(ho:h.get? d=some o)(hd:o.data=.dict es ep)(hs:Heap.SameBut d h h'):IsTri prog w h' k a:=by
 obtain⟨o',t,u,b,n,ho',hc,hd',hi⟩:=x
 have hne:a≠d:=by
  rintro rfl
  obtain rfl:o'=o:=Option.some.inj (ho'.symm.trans ho)
  rw[hd] at hd';exact nomatch hd'
 exact⟨o',t,u,b,n,(hs.2 a hne).trans ho',hc,hd',hi.keeps ho hd hs⟩
noncomputable def zcU (prog:Program)(w:World)(k:K3):Int:=reduceHash (Builtin.Tuple.tupleHashOf [hashInt k.1,tupleKeyHash (zap prog w) (k.2.1.map Sum.inl),hashInt k.2.2])
theorem zcL {k:K3}{a:Addr}{Q:Int->Shared->Prop}(hu:A.units+4<cLine)(hk:IsTri prog w s.heap k a)(h:Q (zcU prog w k) {s with toks:=s.toks+(k.2.1.length+4)}) :
  wpAny (model prog w) A (pyHash (.ref a)) Q E s:=by
 have hT:=hk.typeIs
 obtain⟨o,t,u,b,n,ho,_,hd,hi⟩:=hk
 unfold pyHash
 first|unfold pyHashByItsType|skip
 first|refine wpAny_bind (wpAny_cRoomFor_or (.inr (by omega)) ?_)|skip
 refine wpAny_bind (wpAny_specialOf hT F.slot_tuple_hash.lookup ?_)
 show wpAny _ _ (if (some (Value.builtin "tuple.__hash__") == some Value.none)=true then _ else _) Q E s
 rw[if_neg (by rw[beq_builtin_none];exact Bool.false_ne_true)]
 refine wpAny_bind (wpAny_specialOf hT F.slot_tuple_hash.lookup ?_)
 show wpAny _ _ (callSpecialIfBoundUnlessNone? (.ref a) "__hash__" _ >>= _) Q E s
 refine wpAny_bind (wpAny_callSpecialIfBoundUnlessNone?_slot hT F.slot_tuple_hash (wpAny_call_entry F.slot_tuple_hash hT F.entry_tuple_hash ?_ (F.args_tuple_hash_1 _)))
 show wpAny _ _ (Builtin.Tuple.tupleItemsOf (.ref a) >>= _) _ _ s
 refine wpAny_bind (wpAny_tupleItemsOf ho hd ?_)
 refine wpAny_bind ?_
 rw[<-Array.forIn_toList]
 refine wpAny_forIn_list _
  (fun rest (g:Array Int) s'=>(rest=[.int k.1 t,.ref b,.int k.2.2 u]/\g.toList=[]/\s'=s)\/(rest=[.ref b,.int k.2.2 u]/\g.toList=[hashInt k.1]/\s'={s with toks:=s.toks+1})
   \/(rest=[.int k.2.2 u]/\g.toList=[hashInt k.1,tupleKeyHash (zap prog w) (k.2.1.map Sum.inl)]/\s'={s with toks:=s.toks+(k.2.1.length+2)})
   \/(rest=[]/\g.toList=[hashInt k.1,tupleKeyHash (zap prog w) (k.2.1.map Sum.inl),hashInt k.2.2]/\s'={s with toks:=s.toks+(k.2.1.length+3)}))
  _ ?_ ?_ _ _ (.inl ⟨rfl,rfl,rfl⟩)
 · rintro x rest g s' (⟨e,hg,rfl⟩|⟨e,hg,rfl⟩|⟨e,hg,rfl⟩|⟨e,hg,rfl⟩)
   · cases e
     refine wpAny_bind (wpAny_pyHash_int ?_)
     exact wpAny_pure (.inr (.inl ⟨rfl,by simp[hg],rfl⟩))
   · cases e
     refine wpAny_bind (wpAny_pyHash_tuple (knd:=zap prog w) (ks:=k.2.1.map Sum.inl) ?_ hi ?_)
     · show A.units+1<cLine;omega
     · exact wpAny_pure (.inr (.inr (.inl ⟨rfl,by simp[hg],by simp only[List.length_map];congr 1;omega⟩)))
   · cases e
     refine wpAny_bind (wpAny_pyHash_int ?_)
     exact wpAny_pure (.inr (.inr (.inr ⟨rfl,by simp[hg],by simp[Nat.add_assoc]⟩)))
   · cases e
 · rintro g s' (⟨e,hg,rfl⟩|⟨e,hg,rfl⟩|⟨e,hg,rfl⟩|⟨e,hg,rfl⟩)
   · cases e
   · cases e
   · cases e
   show wpAny _ _ (retInt (Builtin.Tuple.tupleHashOf g.toList)) _ _ _
   rw[hg]
   refine wpAny_ret_mkInt ?_
   show wpAny _ _ (if (decide (-(2:Int) ^ 63<=Builtin.Tuple.tupleHashOf [hashInt k.1,tupleKeyHash (zap prog w) (k.2.1.map Sum.inl),hashInt k.2.2])&&decide (Builtin.Tuple.tupleHashOf [hashInt k.1,tupleKeyHash (zap prog w) (k.2.1.map Sum.inl),hashInt k.2.2]<2 ^ 63))=true then _ else _) Q E _
   unfold zcU reduceHash at h
   by_cases hr:(decide (-(2:Int) ^ 63<=Builtin.Tuple.tupleHashOf [hashInt k.1,tupleKeyHash (zap prog w) (k.2.1.map Sum.inl),hashInt k.2.2])&&decide (Builtin.Tuple.tupleHashOf [hashInt k.1,tupleKeyHash (zap prog w) (k.2.1.map Sum.inl),hashInt k.2.2]<2 ^ 63))=true
   · rw[if_pos hr]
     rw[if_pos hr] at h
     exact wpAny_pure (by simpa[Nat.add_assoc] using h)
   · rw[if_neg hr]
     rw[if_neg hr] at h
     exact wpAny_bind (wpAny_rule (wpAny_pure (by simpa[Nat.add_assoc] using h)))
theorem zff {x y:K3}{a b:Addr}{P:Fin->Shared->Prop}(hu:A.units<cLine)(hx:IsTri prog w s.heap x a)(hy:IsTri prog w s.heap y b)(h:P (.done (.ret (.bool (decide (x=y))))) s) :
  wpAny (model prog w) A (Builtin.«tuple.__eq__» ⟨[.ref a,.ref b],[]⟩) P E s:=by
 have hTb:=hy.typeIs
 obtain⟨oa,t1,u1,b1,na,hoa,_,hda,hia⟩:=hx
 obtain⟨ob,t2,u2,b2,nb,hob,_,hdb,hib⟩:=hy
 obtain⟨x1,x2,x3⟩:=x
 obtain⟨y1,y2,y3⟩:=y
 show wpAny _ _ (isInstance (.ref b) (.type "tuple") >>= _) _ _ s
 refine wpAny_bind (wpAny_isInstance hTb isSubtype_tuple_tuple ?_)
 simp only[Bool.not_true,Bool.false_eq_true,if_false]
 refine wpAny_bind (wpAny_tupleItemsOf hoa hda ?_)
 refine wpAny_bind (wpAny_tupleItemsOf hob hdb ?_)
 refine wpAny_bind ?_
 refine wpAny_forIn_list _
  (fun rest r s'=>r.1=none/\s'=s/\(rest=[(.int x1 t1,.int y1 t2),(.ref b1,.ref b2),(.int x3 u1,.int y3 u2)]\/(rest=[(.ref b1,.ref b2),(.int x3 u1,.int y3 u2)]/\x1=y1)\/(rest=[(.int x3 u1,.int y3 u2)]/\x1=y1/\x2=y2)\/(rest=[]/\x1=y1/\x2=y2/\x3=y3)))
  _ ?_ ?_ _ _ ⟨rfl,rfl,.inl rfl⟩
 · rintro⟨p,q⟩ rest r s' ⟨hr,rfl,(e|⟨e,z1⟩|⟨e,z1,z2⟩|⟨e,z1,z2,z3⟩)⟩
   · cases e
     refine wpAny_bind (wpAny_eqBool_int ?_)
     by_cases hk:x1=y1
     · rw[show (x1 == y1)=true by simp[hk]]
       simp only[Bool.not_true,Bool.false_eq_true,if_false]
       exact wpAny_pure ⟨rfl,rfl,.inr (.inl ⟨trivial,hk⟩)⟩
     · rw[show (x1 == y1)=false by simp[hk]]
       simp only[Bool.not_false,if_true]
       rw[decide_eq_false (by simp[hk])] at h
       exact wpAny_bind (wpAny_pure (wpAny_pure (wpAny_pure h)))
   · cases e
     refine wpAny_bind (wpAny_eqBool_tuple hu hia hib ?_)
     by_cases hk:x2=y2
     · rw[decide_eq_true (by rw[hk])]
       simp only[Bool.not_true,Bool.false_eq_true,if_false]
       exact wpAny_pure ⟨rfl,rfl,.inr (.inr (.inl ⟨trivial,z1,hk⟩))⟩
     · rw[decide_eq_false (fun z=>hk (zin z))]
       simp only[Bool.not_false,if_true]
       rw[decide_eq_false (by simp[hk])] at h
       exact wpAny_bind (wpAny_pure (wpAny_pure (wpAny_pure h)))
   · cases e
     refine wpAny_bind (wpAny_eqBool_int ?_)
     by_cases hk:x3=y3
     · rw[show (x3 == y3)=true by simp[hk]]
       simp only[Bool.not_true,Bool.false_eq_true,if_false]
       exact wpAny_pure ⟨rfl,rfl,.inr (.inr (.inr ⟨trivial,z1,z2,hk⟩))⟩
     · rw[show (x3 == y3)=false by simp[hk]]
       simp only[Bool.not_false,if_true]
       rw[decide_eq_false (by simp[hk])] at h
       exact wpAny_bind (wpAny_pure (wpAny_pure (wpAny_pure h)))
   · cases e
 · rintro⟨r1,r2⟩ s' ⟨hr,rfl,(e|⟨e,z1⟩|⟨e,z1,z2⟩|⟨e,z1,z2,z3⟩)⟩
   · cases e
   · cases e
   · cases e
   simp only at hr
   subst hr
   refine wpAny_pure ?_
   rw[decide_eq_true (by rw[z1,z2,z3])] at h
   exact h
theorem zcM {x y:K3}{a b:Addr}{Q:Bool->Shared->Prop}(hu:A.units+4<cLine)(hx:IsTri prog w s.heap x a)(hy:IsTri prog w s.heap y b)(h:Q (decide (x=y)) s) :
  wpAny (model prog w) A (eqBool (.ref a) (.ref b)) Q E s:=by
 unfold eqBool
 try with_reducible refine wpAny_holding ?_
 show wpAny _ _ (if (Value.ref a == Value.ref b)=true then _ else _) Q E s
 by_cases hab:(Value.ref a == Value.ref b)=true
 · rw[if_pos hab]
   have e:a=b:=by have:=eq_of_beq hab;injection this
   subst e
   obtain rfl:=hx.inj hy
   exact wpAny_bind (wpAny_rule (wpAny_pure (by simpa using h)))
 · rw[if_neg hab]
   exact wpAny_bind (wpAny_richCompare_same_room (op:=.Eq) hx.typeIs hy.typeIs F.slot_tuple_eq
    (wpAny_call_entry F.slot_tuple_eq hx.typeIs F.entry_tuple_eq (zff (by show A.units+1<cLine;omega) hx hy ⟨_,rfl,(fun e=>nomatch e),wpAny_truthy_bool h⟩) (F.args_tuple_eq_2 _ _)) (by omega))
theorem zn7 {ks:List Key}{a:Addr}{Q:Bool->Shared->Prop}(hk:IsTupleKey (zap prog w) s.heap ks a)(h:Q true s):wpAny (model prog w) A (eqIsQuiet 7 (.ref a)) Q E s:=by
 have hT:=hk.typeIs
 obtain⟨o,items,n,ho,_,hd,hi⟩:=hk
 unfold eqIsQuiet
 refine wpAny_bind (wpAny_specialOf hT F.slot_tuple_eq.lookup ?_)
 show wpAny _ _ (isInstance (.ref a) (.type "tuple") >>= _) _ _ s
 refine wpAny_bind (wpAny_isInstance hT isSubtype_tuple_tuple ?_)
 simp only[Bool.not_true,Bool.false_eq_true,if_false]
 refine wpAny_bind (wpAny_seqItems ho hd ?_)
 refine wpAny_bind ?_
 show wpAny _ _ (forIn items _ _) _ _ s
 rw[<-Array.forIn_toList]
 refine wpAny_forIn_list _ (fun rest r s'=>r.1=none/\s'=s/\∀v∈rest,carriedByValue v=true) _ ?_ ?_ _ _ ⟨rfl,rfl,hi.byValue⟩
 · rintro v rest r s' ⟨hr,rfl,hall⟩
   rw[eqIsQuiet_byValue _ (hall v List.mem_cons_self)]
   refine wpAny_bind (wpAny_pure ?_)
   simp only[Bool.not_true,Bool.false_eq_true,if_false]
   exact wpAny_pure ⟨rfl,rfl,fun u hu'=>hall u (List.mem_cons_of_mem _ hu')⟩
 · rintro⟨r1,r2⟩ s' ⟨hr,rfl,_⟩
   simp only at hr
   subst hr
   exact wpAny_pure h
theorem zb1 {k:K3}{a:Addr}{Q:Bool->Shared->Prop}(hk:IsTri prog w s.heap k a)(h:Q true s):wpAny (model prog w) A (eqIsQuiet 8 (.ref a)) Q E s:=by
 have hT:=hk.typeIs
 obtain⟨o,t,u,b,n,ho,_,hd,hi⟩:=hk
 unfold eqIsQuiet
 refine wpAny_bind (wpAny_specialOf hT F.slot_tuple_eq.lookup ?_)
 show wpAny _ _ (isInstance (.ref a) (.type "tuple") >>= _) _ _ s
 refine wpAny_bind (wpAny_isInstance hT isSubtype_tuple_tuple ?_)
 simp only[Bool.not_true,Bool.false_eq_true,if_false]
 refine wpAny_bind (wpAny_seqItems ho hd ?_)
 refine wpAny_bind ?_
 show wpAny _ _ (forIn #[Value.int k.1 t,.ref b,.int k.2.2 u] _ _) _ _ s
 rw[<-Array.forIn_toList]
 refine wpAny_forIn_list _ (fun rest r s'=>r.1=none/\s'=s/\∀v∈rest,carriedByValue v=true\/v=.ref b) _ ?_ ?_ _ _ ⟨rfl,rfl,fun v hv=>by
  simp only[List.mem_cons,List.not_mem_nil,or_false] at hv
  rcases hv with rfl|rfl|rfl
  · exact .inl rfl
  · exact .inr rfl
  · exact .inl rfl⟩
 · rintro v rest r s' ⟨hr,rfl,hall⟩
   rcases hall v List.mem_cons_self with hv|rfl
   · rw[eqIsQuiet_byValue _ hv]
     refine wpAny_bind (wpAny_pure ?_)
     simp only[Bool.not_true,Bool.false_eq_true,if_false]
     exact wpAny_pure ⟨rfl,rfl,fun u hu'=>hall u (List.mem_cons_of_mem _ hu')⟩
   · refine wpAny_bind (zn7 hi ?_)
     simp only[Bool.not_true,Bool.false_eq_true,if_false]
     exact wpAny_pure ⟨rfl,rfl,fun u hu'=>hall u (List.mem_cons_of_mem _ hu')⟩
 · rintro⟨r1,r2⟩ s' ⟨hr,rfl,_⟩
   simp only at hr
   subst hr
   exact wpAny_pure h
end
noncomputable def zbu (prog:Program)(w:World):HeapKind prog w K3 where
 is:=IsTri prog w
 hash:=zcU prog w
 draws:=fun k=>k.2.1.length+4
 room:=fun A=>A.units+4<cLine
 inj:=fun hx hy=>hx.inj hy
 keeps:=fun x ho hd hs=>x.keeps ho hd hs
 pyHash:=fun hu hk h=>zcL hu hk h
 eqBool:=fun hu hx hy h=>zcM hu hx hy h
 quiet:=fun hk h=>zb1 hk h
end R
end
section
set_option maxHeartbeats 4000000
namespace R
open PySem PySem.Spec PyProof.Rows L2
noncomputable def zj8 (k:K3):Int:=reduceHash (Builtin.Tuple.tupleHashOf [hashInt k.1,reduceHash (Builtin.Tuple.tupleHashOf (k.2.1.map hashInt)),hashInt k.2.2])
theorem zj7 {P:Program}{w:World}(k:K3):(zbu P w).hash k=zj8 k:=by
 show zcU P w k=zj8 k
 unfold zcU zj8 tupleKeyHash
 rw[List.map_map]
 rfl
noncomputable def P3 (p:K3 × Addr × V)(q:K3 × Addr × Value):Prop:=p.1=q.1/\p.2.1=q.2.1/\RelV p.2.2 q.2.2
noncomputable def ent3 (x:K3 × Addr × Value):DictEntry:=⟨zj8 x.1,.ref x.2.1,x.2.2⟩
theorem zfP {P:Program}{w:World}(x:K3 × Addr × Value):entryOfKey (zbu P w) x=ent3 x:=by
 unfold entryOfKey ent3
 rw[zj7]
noncomputable def TriO (a:Addr)(kxs:List (K3 × Addr × V))(h:Heap):Prop:=kxs.length<=sizeLine/\(a == sysModules)=false/\∃xs,Paired P3 kxs xs/\∃o es ep,h.get? a=some o/\o.ExactDict/\o.data=.dict es ep/\es.toList=xs.map ent3/\(xs.map (·.1)).Nodup
noncomputable def Key3 (H:Hp)(k:K3)(c:Addr):Prop:=∃b,H c=some (.tup [.int k.1,.ref b,.int k.2.2])/\H b=some (.tup (k.2.1.map V.int))
noncomputable def TriK (H:Hp)(kxs:List (K3 × Addr × V)):Prop:=∀x∈kxs,Key3 H x.1 x.2.1
theorem Key3.up {H H':Hp}{k:K3}{c:Addr}(h:Key3 H k c)(ht:∀b xs,H b=some (.tup xs)->H' b=some (.tup xs)):Key3 H' k c:=let ⟨b,h1,h2⟩:=h;⟨b,ht _ _ h1,ht _ _ h2⟩
theorem TriO.stay {a:Addr}{kxs:List (K3 × Addr × V)}{h h':Heap}(x:TriO a kxs h)(k:∀o,h.get? a=some o->h'.get? a=some o):TriO a kxs h':=by
 obtain⟨z,y,xs,r,o,es,ep,e,c⟩:=x
 exact⟨z,y,xs,r,o,es,ep,k _ e,c⟩
theorem TriO.objOk {P:Program}{w:World}{H:Hp}{h:Heap}{a:Addr}{kxs:List (K3 × Addr × V)}(x:TriO a kxs h):ObjOk P w H h a (.ext (TriO a kxs)):=by
 refine⟨x,?_,fun h1 h2 p k=>p.stay k⟩
 obtain⟨_,_,_,_,o,_,_,e,_⟩:=x
 exact⟨o,e⟩
theorem zkN:∀{kxs:List (K3 × Addr × V)} {xs:List (K3 × Addr × Value)},Paired P3 kxs xs->xs.length=kxs.length
 |_,_,.nil=>rfl
 |_,_,.cons _ t=>by simp[zkN t]
theorem zhR:∀{kxs:List (K3 × Addr × V)} {xs:List (K3 × Addr × Value)},Paired P3 kxs xs->xs.map (·.1)=kxs.map (·.1)
 |_,_,.nil=>rfl
 |_,_,.cons h t=>by rw[List.map_cons,List.map_cons,zhR t,h.1]
section
variable {P:Program} {w:World} {H:Hp} {h:Heap} {a c:Addr} {kxs:List (K3 × Addr × V)}
theorem zeo {k:K3}(ok:HOk P w H h)(e:Key3 H k c):IsTri P w h k c:=by
 obtain⟨b,e1,e2⟩:=e
 obtain⟨_,its,rv,o,ho,hc,n,hd⟩:=(show ObjOk P w H h c (.tup _) from ok c _ e1)
 cases rv with
 | @cons _ v1 _ r1 q1 rv =>
   cases rv with
   | @cons _ v2 _ r2 q2 rv =>
     cases rv with
     | @cons _ v3 _ r3 q3 rv =>
       cases rv
       obtain⟨t,rfl⟩:=q1
       cases (show v2=Value.ref b from q2)
       obtain⟨u,rfl⟩:=q3
       refine⟨o,t,u,b,n,ho,hc,hd,?_⟩
       have:=zgr (ks:=k.2.1.map Sum.inl) ok (a:=b) (by rw[List.map_map];exact e2)
       exact this
theorem znm (ok:HOk P w H h)(e:H a=some (.ext (TriO a kxs)))(tk:TriK H kxs):kxs.length<=sizeLine/\(a == sysModules)=false/\∃xs,Paired P3 kxs xs/\h.DictOfH (zbu P w) a xs:=by
 obtain⟨⟨z,y,xs,r,o,es,ep,ho,hx,hd,he,nd⟩,_,_⟩:=(show ObjOk P w H h a (.ext _) from ok a _ e)
 refine⟨z,y,xs,r,o,es,ep,ho,hx,hd,?_,?_,nd⟩
 · rw[he];exact List.map_congr_left fun x _=>(zfP x).symm
 · have all:∀{l:List (K3 × Addr × V)} {m:List (K3 × Addr × Value)},Paired P3 l m->TriK H l->∀x∈m,(zbu P w).is h x.1 x.2.1:=by
    intro l m q
    induction q with
    |nil=>intro _ x hx;exact nomatch hx
    | @cons p q ps qs hq t ih =>
      intro tk x hx
      rcases List.mem_cons.mp hx with e|hx
      · subst e
        rw[<-hq.1,<-hq.2.1]
        exact zeo ok (tk p List.mem_cons_self)
      · exact ih (fun y hy=>tk y (List.mem_cons_of_mem _ hy)) x hx
   exact all r tk
end
noncomputable def put3 (kxs:List (K3 × Addr × V))(k:K3)(c:Addr)(v:V):List (K3 × Addr × V):=if k∈kxs.map (·.1) then kxs.map (fun x=>if x.1=k then (x.1,x.2.1,v) else x) else kxs++[(k,c,v)]
theorem zfb {xs:List (K3 × Addr × Value)}{k:K3}:(atKey xs k).isSome=decide (k∈xs.map (·.1)):=by
 unfold atKey
 rw[Option.isSome_map]
 apply Bool.eq_iff_iff.mpr
 rw[List.find?_isSome,decide_eq_true_eq,List.mem_map]
 constructor
 · rintro⟨x,hx,e⟩;exact⟨x,hx,by simpa using e⟩
 · rintro⟨x,hx,e⟩;exact⟨x,hx,by simpa using e⟩
theorem zow {k:K3}{c:Addr}{v:V}{r:Value}(rv:RelV v r){kxs:List (K3 × Addr × V)}{xs:List (K3 × Addr × Value)}(h:Paired P3 kxs xs):Paired P3 (put3 kxs k c v) (storedH xs k c r):=by
 unfold put3 storedH
 rw[zfb,zhR h]
 by_cases hk:k∈kxs.map (·.1)
 · rw[if_pos hk,if_pos (by simpa using hk)]
   clear hk
   induction h with
   |nil=>exact .nil
   | @cons p q ps qs hq t ih =>
     rw[List.map_cons,List.map_cons]
     refine .cons ?_ ih
     unfold putAt
     by_cases e:p.1=k
     · rw[if_pos e,if_pos (by rw[<-hq.1];exact e)]
       exact⟨hq.1,hq.2.1,rv⟩
     · rw[if_neg e,if_neg (by rw[<-hq.1];exact e)]
       exact hq
 · rw[if_neg hk,if_neg (by simpa using hk)]
   clear hk
   induction h with
   |nil=>exact .cons ⟨rfl,rfl,rv⟩ .nil
   |cons hq t ih=>exact .cons hq ih
theorem zjq (kxs:List (K3 × Addr × V))(k:K3)(c:Addr)(v:V):(put3 kxs k c v).length<=kxs.length+1:=by
 unfold put3
 split
 · rw[List.length_map];omega
 · simp
section
variable {X:Cx} {pins:List (Addr × Obj)} {σ:L2.St} {H:Hp} {s:Shared} {a c:Addr} {kxs:List (K3 × Addr × V)} {k:K3} {v:V} {r:Value} {A:Around} {E:Value->Shared->Prop}
theorem zg4 {Q:Unit->Shared->Prop}(hu:A.units+5<cLine)(I:Inv X pins σ H s)(e:H a=some (.ext (TriO a kxs)))(tk:TriK H kxs)(ek:Key3 H k c)(hl:kxs.length<sizeLine)(rv:RelV v r)
  (h:∀s',Inv X pins σ (upd H a (.ext (TriO a (put3 kxs k c v)))) s'->Q () s'):wpAny (model X.prog X.w) A (setItem (.ref a) (.ref c) r) Q E s:=by
 obtain⟨z,hd,xs,rel,dd⟩:=znm I.hok e tk
 have hz:xs.length<=sizeLine:=by rw[zkN rel];exact z
 have hl':=zjq kxs k c v
 refine wpAny_setItem_heap (knd:=zbu X.prog X.w) (hsz:=hz) (show A.units+1+4<cLine by omega) (zeo I.hok ek) dd fun h' dd' hs=>h _ ?_
 obtain⟨q,es,ep,hq,h2,h3,h4,_,h5⟩:=dd'
 refine zfQ I (by rw[e];exact True.intro) hs ⟨q,hq⟩ (TriO.objOk ⟨by omega,hd,_,zow rv rel,q,es,ep,hq,h2,h3,?_,h5⟩)
 rw[h4];exact List.map_congr_left fun x _=>zfP x
theorem zjG {pos:Pos}:PE X (.Dict [] [] pos) (fun _ H Q=>∀p,H p=none->Q (.ref p) (upd H p (.ext (TriO p [])))):=fun pins s σ H Q I h=>
 wpAny_Dict_empty ⟨.ref s.heap.objs.size,_,I.laid (a:=s.heap.objs.size) (o:=.ext (TriO s.heap.objs.size [])) (t':=s.toks) (fun _ _ q=>Heap.get?_push_of_some _ q) (Nat.le_refl _)
  (TriO.objOk ⟨Nat.zero_le _,beq_eq_false_iff_ne.mpr (Ne.symm (Nat.ne_of_lt I.big)),[],.nil,_,#[],0,Heap.get?_push_size _ rfl,⟨rfl,rfl,rfl⟩,rfl,rfl,List.nodup_nil⟩),rfl,h _ (I.hok.fresh (Nat.le_refl _))⟩
end
end R
end
section
namespace R
open PySem L2
noncomputable def KL (K:W.Frag)(a:Addr)(xs:List V):Prop:=∃(o:Obj) (its:Array Value) (n:Nat),K.lookup a=some o/\o.cls=.type "list"/\o.dict=none/\o.data=.seq its n/\its.size<=sizeLine/\Vals xs its.toList
noncomputable def FixL (K:W.Frag)(H:Hp)(a:Addr)(xs:List V):Prop:=(∃o,H a=some (.frz o (.lst xs)))\/KL K a xs
theorem FixL.sq {K:W.Frag}{H:Hp}{a:Addr}{xs:List V}(h:FixL K H a xs):SqL K H a xs:=h.elim (fun⟨o,e⟩=>.inl (.inr ⟨o,e⟩)) .inr
noncomputable abbrev arrN:Str:="word_on_arrival"
noncomputable abbrev arrQ:Str:="road.<locals>.word_on_arrival"
structure CloSt (st:Stmt):Prop where
 body:∃(x6:Nat) (p1 p2 p3 p4 p5 p6 p7 p8 p9:Pos),zan st=[.Return (some (.Call (.Attribute (.Name "last" p1) "get" p2) [.Tuple [.Name "turn" p3,.Name "path" p4,.Name "to" p5] x6 p6,.Name "word" p7] [] p8)) p9]/\(p2.endLine == p8.line)=true
 kind:(zad st).kind=.function
 co:(zad st).isCoroutine=false
 gen:(zad st).isGenerator=false
 cell:∀y∈(zad st).names,y.2≠.cell
 free:∀y∈(zad st).names,y.2=.free->y.1=("last":Str)
 l0:(zad st).names.lookup ("turn":Str)=some .local
 l1:(zad st).names.lookup ("path":Str)=some .local
 l2:(zad st).names.lookup ("to":Str)=some .local
 l3:(zad st).names.lookup ("word":Str)=some .local
 l4:(zad st).names.lookup ("last":Str)=some .free
 bind:∀(cl:List (Str × Addr)) (doc pm cd ct a b c d:Value),bindArgs (W.fnX arrN arrQ (zat st) (zan st) (zad st) cl .none .none doc pm none cd ct) ⟨[a,b,c,d],[]⟩=pure [(("turn":Str),a),(("path":Str),b),(("to":Str),c),(("word":Str),d)]
 text:∃pos:Pos,st=.FunctionDef arrN (zat st) (zan st) [] none [] (zad st) none arrN pos
 d0:(zat st).defaults=[]
 k0:(zat st).kw_defaults=[]
 an:∀env:Env,annTrees (zat st) none env=[]
 clo:∀(env:Env) (c:Addr),env.cells.lookup ("last":Str)=some c->closureFor (zad st) env=pure [(("last":Str),c)]
noncomputable def RsOk:Option Stmt->Prop
 |none=>True
 |some st=>CloSt st
class Mks where
 ts:List (Addr × Str)
 cl:List Addr
 rs:Option Stmt
 ro:RsOk rs
variable [Mks]
noncomputable def TabIn (H:Hp)(P:Addr)(q:Str):Prop:=∃ps:Array Value,H P=some (.tbl ps)/\TriplesOk ps.toList/\
 ∀(pos:Pos) (v:Value),codeAmong pos ps.toList=some v->∃(c:Addr) (oc:Obj) (vs:Array Value) (t:Tok),v=.ref c/\H c=some (.frz oc (.own 0))/\oc.data=.fields vs/\vs[1]?=some (.str q t)
theorem TabIn.up {H H':Hp}{P:Addr}{q:Str}(t:TabIn H P q)(e:H' P=H P)(f:∀b o u,H b=some (.frz o u)->H' b=some (.frz o u)):TabIn H' P q:=by
 obtain⟨ps,h1,h2,h3⟩:=t
 refine⟨ps,by rw[e];exact h1,h2,fun pos v hv=>?_⟩
 obtain⟨c,oc,vs,t,a1,a2,a3⟩:=h3 pos v hv
 exact⟨c,oc,vs,t,a1,f _ _ _ a2,a3⟩
noncomputable def TB (H:Hp):Prop:=∀p∈Mks.ts,TabIn H p.1 p.2
structure Kp (H H':Hp):Prop where
 tups:Tups H H'
 frzs:∀b o u,H b=some (.frz o u)->H' b=some (.frz o u)
 tab:TB H->TB H'
theorem Kp.refl (H:Hp):Kp H H:=⟨Tups.refl H,fun _ _ _ h=>h,fun h=>h⟩
theorem Kp.trans {H H1 H2:Hp}(a:Kp H H1)(b:Kp H1 H2):Kp H H2:=⟨a.tups.trans b.tups,fun c o u h=>b.frzs c o u (a.frzs c o u h),fun h=>b.tab (a.tab h)⟩
theorem Kp.same {H H':Hp}(a:Tups H H')(b:∀b o u,H b=some (.frz o u)->H' b=some (.frz o u))(c:∀P ps,H P=some (.tbl ps)->H' P=some (.tbl ps)):Kp H H':=
 ⟨a,b,fun h p hp=>by
  obtain⟨ps,h1,_⟩:=id (h p hp)
  exact (h p hp).up ((c _ _ h1).trans h1.symm) b⟩
theorem FixL.kp {K:W.Frag}{H H':Hp}{a:Addr}{xs:List V}(h:FixL K H a xs)(k:Kp H H'):FixL K H' a xs:=h.elim (fun⟨o,e⟩=>.inl ⟨o,k.frzs _ _ _ e⟩) .inr
noncomputable def vW:Option Int->V
 |none=>.non
 |some i=>.int i
noncomputable def W3s (H:Hp):List (K3 × Option Int)->List (K3 × Addr × V)->Prop
 | [],ws=>ws=[]
 |(k,o)::r,ws=>∃c w,ws=(k,c,vW o)::w/\Key3 H k c/\W3s H r w
theorem W3s.up {H H':Hp}(ht:∀b xs,H b=some (.tup xs)->H' b=some (.tup xs)):∀{kvs:List (K3 × Option Int)} {ws:List (K3 × Addr × V)},W3s H kvs ws->W3s H' kvs ws
 | [],_,r=>r
 | (k, o) :: kvs, ws, r => by
   obtain⟨c,w,e,r0,r2⟩:=r
   exact⟨c,w,e,r0.up ht,W3s.up ht r2⟩
noncomputable def CloF (H:Hp)(f c:Addr):Prop:=∃(st:Stmt) (pm ct doc:Value) (c':Addr) (oc:Obj) (vs:Array Value) (t:Tok),Mks.rs=some st/\H f=some (.frz (W.fnMade arrN arrQ (zat st) (zan st) (zad st) [(("last":Str),c)] doc pm c' ct) (.own 0))/\H c'=some (.frz oc (.own 0))/\oc.data=.fields vs/\vs[1]?=some (.str arrQ t)
noncomputable def CloAt (H:Hp)(f:Addr)(kvs:List (K3 × Option Int)):Prop:=∃(c d:Addr) (ou od:Obj) (ws:List (K3 × Addr × V)),CloF H f c/\H c=some (.frz ou (.own 0))/\ou.data=.cell (some (.ref d))/\H d=some (.frz od (.ext (TriO d ws)))/\W3s H kvs ws
theorem CloF.up {H H':Hp}{f c:Addr}(h:CloF H f c)(k:∀b o u,H b=some (.frz o u)->H' b=some (.frz o u)):CloF H' f c:=by
 obtain⟨st,pm,ct,doc,c',oc,vs,t,h0,h1,h2,h3⟩:=h
 exact⟨st,pm,ct,doc,c',oc,vs,t,h0,k _ _ _ h1,k _ _ _ h2,h3⟩
theorem CloAt.kp {H H':Hp}{f:Addr}{kvs:List (K3 × Option Int)}(h:CloAt H f kvs)(k:Kp H H'):CloAt H' f kvs:=by
 obtain⟨c,d,ou,od,ws,h1,h2,h3,h4,h5⟩:=h
 exact⟨c,d,ou,od,ws,h1.up k.frzs,k.frzs _ _ _ h2,h3,k.frzs _ _ _ h4,h5.up k.tups⟩
mutual
noncomputable def RV (K:W.Frag)(ι:List Addr)(H:Hp):D->V->Prop
 |.non,v=>v=.non
 |.bl b,v=>v=.bl b
 |.int i,v=>v=.int i
 |.str x,v=>v=.str x
 |.tup ds,v=>∃a xs,v=.ref a/\H a=some (.tup xs)/\RVs K ι H ds xs
 |.ref l,v=>∃a,ι[l]?=some a/\v=.ref a
 |.fix ds,v=>∃a xs,v=.ref a/\FixL K H a xs/\RVs K ι H ds xs
 |.clo kvs,v=>∃f,v=.ref f/\CloAt H f kvs
noncomputable def RVs (K:W.Frag)(ι:List Addr)(H:Hp):List D->List V->Prop
 | [],vs=>vs=[]
 |d::ds,vs=>∃v r,vs=v::r/\RV K ι H d v/\RVs K ι H ds r
end
noncomputable def R3s (K:W.Frag)(ι:List Addr)(H:Hp):List (K3 × D)->List (K3 × Addr × V)->Prop
 | [],ws=>ws=[]
 |(k,d)::r,ws=>∃c v w,ws=(k,c,v)::w/\Key3 H k c/\RV K ι H d v/\R3s K ι H r w
noncomputable def RFs (K:W.Frag)(ι:List Addr)(H:Hp):List (Str × D)->List (Str × V)->Prop
 | [],ws=>ws=[]
 |(f,d)::r,ws=>∃v w,ws=(f,v)::w/\RV K ι H d v/\RFs K ι H r w
noncomputable def RO (K:W.Frag)(ι:List Addr)(H:Hp)(a:Addr):MO->Prop
 |.lst ds=>∃xs,H a=some (.lst xs)/\RVs K ι H ds xs
 |.ins c fs=>∃C dx ws,Mks.cl[c]?=some C/\H a=some (.ins C dx ws)/\RFs K ι H fs ws
 |.d3 kvs=>(kvs.map (·.1)).Nodup/\∃ws,H a=some (.ext (TriO a ws))/\R3s K ι H kvs ws
structure RH (K:W.Frag) (ι:List Addr) (H:Hp) (S:St):Prop where
 len:ι.length=S.len
 nd:ι.Nodup
 obj:∀l o,S.get l=some o->∃a,ι[l]?=some a/\RO K ι H a o
 tab:TB H
structure Ext (ι:List Addr) (H:Hp) (ι':List Addr) (H':Hp):Prop where
 pre:ι <+: ι'
 kp:Kp H H'
 rest:∀a o,a∉ι->H a=some o->(H' a=some o\/((∃ps,o=.tbl ps)/\∃ps,H' a=some (.tbl ps)))/\a∉ι'
theorem Ext.refl (ι:List Addr)(H:Hp):Ext ι H ι H:=⟨List.prefix_refl _,Kp.refl H,fun a o h e=>⟨.inl e,h⟩⟩
theorem Ext.trans {ι ι1 ι2:List Addr}{H H1 H2:Hp}(a:Ext ι H ι1 H1)(b:Ext ι1 H1 ι2 H2):Ext ι H ι2 H2:=
 ⟨a.pre.trans b.pre,a.kp.trans b.kp,fun x o h e=>by
  obtain⟨e1,h1⟩:=a.rest x o h e
  rcases e1 with e1|⟨t,ps,e1⟩
  · exact b.rest x o h1 e1
  · obtain⟨e2,h2⟩:=b.rest x _ h1 e1
    refine⟨.inr ⟨t,?_⟩,h2⟩
    rcases e2 with e2|⟨_,e2⟩
    · exact⟨ps,e2⟩
    · exact e2⟩
theorem Ext.keep {ι ι1:List Addr}{H H1:Hp}(x:Ext ι H ι1 H1){a:Addr}{o:HO}(h:a∉ι)(e:H a=some o)(n:∀ps,o≠.tbl ps):H1 a=some o:=
 (x.rest a o h e).1.elim id fun⟨⟨ps,z⟩,_⟩=>absurd z (n ps)
theorem zbz {ι ι':List Addr}(h:ι <+: ι'){l:Nat}{a:Addr}(e:ι[l]?=some a):ι'[l]?=some a:=by
 obtain⟨t,rfl⟩:=h
 rw[List.getElem?_append_left (List.getElem?_eq_some_iff.mp e).1]
 exact e
mutual
theorem RV.up {K:W.Frag}{ι ι':List Addr}{H H':Hp}(hp:ι <+: ι')(hk:Kp H H'):∀{d:D} {v:V},RV K ι H d v->RV K ι' H' d v
 |.non,_,r=>r
 |.bl _,_,r=>r
 |.int _,_,r=>r
 |.str _,_,r=>r
 | .tup ds, _, r => by
   obtain⟨a,xs,e,ha,q⟩:=r
   exact⟨a,xs,e,hk.tups _ _ ha,RVs.up hp hk q⟩
 | .ref l, _, r => by
   obtain⟨a,e,q⟩:=r
   exact⟨a,zbz hp e,q⟩
 | .fix ds, _, r => by
   obtain⟨a,xs,e,ha,q⟩:=r
   exact⟨a,xs,e,ha.kp hk,RVs.up hp hk q⟩
 | .clo kvs, _, r => by
   obtain⟨f,e,h⟩:=r
   exact⟨f,e,h.kp hk⟩
theorem RVs.up {K:W.Frag}{ι ι':List Addr}{H H':Hp}(hp:ι <+: ι')(hk:Kp H H'):∀{ds:List D} {vs:List V},RVs K ι H ds vs->RVs K ι' H' ds vs
 | [],_,r=>r
 | d :: ds, vs, r => by
   obtain⟨v,w,e,r1,r2⟩:=r
   exact⟨v,w,e,RV.up hp hk r1,RVs.up hp hk r2⟩
end
theorem R3s.up {K:W.Frag}{ι ι':List Addr}{H H':Hp}(hp:ι <+: ι')(hk:Kp H H'):∀{kvs:List (K3 × D)} {ws:List (K3 × Addr × V)},R3s K ι H kvs ws->R3s K ι' H' kvs ws
 | [],_,r=>r
 | (k, d) :: kvs, ws, r => by
   obtain⟨c,v,w,e,r0,r1,r2⟩:=r
   exact⟨c,v,w,e,r0.up hk.tups,RV.up hp hk r1,R3s.up hp hk r2⟩
theorem R3s.length {K:W.Frag}{ι:List Addr}{H:Hp}:∀{kvs:List (K3 × D)} {ws:List (K3 × Addr × V)},R3s K ι H kvs ws->ws.length=kvs.length
 | [],_,r=>by rw[show _=[] from r];rfl
 | (k, d) :: kvs, ws, r => by
   obtain⟨c,v,w,rfl,_,_,r2⟩:=r
   simp[R3s.length r2]
theorem R3s.keys {K:W.Frag}{ι:List Addr}{H:Hp}:∀{kvs:List (K3 × D)} {ws:List (K3 × Addr × V)},R3s K ι H kvs ws->ws.map (·.1)=kvs.map (·.1)
 | [],_,r=>by rw[show _=[] from r];rfl
 | (k, d) :: kvs, ws, r => by
   obtain⟨c,v,w,rfl,_,_,r2⟩:=r
   simp[R3s.keys r2]
theorem R3s.triK {K:W.Frag}{ι:List Addr}{H:Hp}:∀{kvs:List (K3 × D)} {ws:List (K3 × Addr × V)},R3s K ι H kvs ws->TriK H ws
 | [],_,r=>by rw[show _=[] from r];intro x hx;cases hx
 | (k, d) :: kvs, ws, r => by
   obtain⟨c,v,w,rfl,r0,_,r2⟩:=r
   intro x hx
   rcases List.mem_cons.mp hx with e|e
   · subst e;exact r0
   · exact R3s.triK r2 x e
theorem R3s.put {K:W.Frag}{ι:List Addr}{H:Hp}{k:K3}{c:Addr}{d:D}{v:V}(q:RV K ι H d v)(hc:Key3 H k c){kvs:List (K3 × D)}{ws:List (K3 × Addr × V)}(r:R3s K ι H kvs ws):R3s K ι H (zfx kvs k d) (put3 ws k c v):=by
 unfold zfx put3
 rw[r.keys]
 split
 · rename_i hm;clear hm
   induction kvs generalizing ws with
   |nil=>rw[show ws=[] from r];rfl
   | cons x kvs ih =>
     obtain⟨j,e⟩:=x
     obtain⟨c',u,w,rfl,r0,r1,r2⟩:=r
     rw[List.map_cons,List.map_cons]
     by_cases z:j=k
     · rw[if_pos z,if_pos z]
       exact⟨c',v,_,rfl,r0,q,ih r2⟩
     · rw[if_neg z,if_neg z]
       exact⟨c',u,_,rfl,r0,r1,ih r2⟩
 · rename_i hm;clear hm
   induction kvs generalizing ws with
   |nil=>rw[show ws=[] from r];exact⟨c,v,[],rfl,hc,q,rfl⟩
   | cons x kvs ih =>
     obtain⟨j,e⟩:=x
     obtain⟨c',u,w,rfl,r0,r1,r2⟩:=r
     exact⟨c',u,_,rfl,r0,r1,ih r2⟩
theorem zfw {k:K3}{d:D}{kvs:List (K3 × D)}(h:(kvs.map (·.1)).Nodup):((zfx kvs k d).map (·.1)).Nodup:=by
 unfold zfx
 split
 · rw[List.map_map,show ((fun x:K3 × D=>x.1)∘fun x=>if x.1=k then (x.1,d) else x)=fun x=>x.1 from by funext x;show (if x.1=k then (x.1,d) else x).1=x.1;split<;>rfl]
   exact h
 · rename_i n
   rw[List.map_append,List.nodup_append]
   refine⟨h,by simp,fun a ha b hb=>?_⟩
   simp only[List.map_cons,List.map_nil,List.mem_singleton] at hb
   subst hb
   exact fun z=>n (z▸ha)
theorem RFs.up {K:W.Frag}{ι ι':List Addr}{H H':Hp}(hp:ι <+: ι')(hk:Kp H H'):∀{fs:List (Str × D)} {ws:List (Str × V)},RFs K ι H fs ws->RFs K ι' H' fs ws
 | [],_,h=>h
 | (f, d) :: r, _, h => by
   obtain⟨v,w,e,r1,r2⟩:=h
   exact⟨v,w,e,RV.up hp hk r1,RFs.up hp hk r2⟩
theorem RFs.length {K:W.Frag}{ι:List Addr}{H:Hp}:∀{fs:List (Str × D)} {ws:List (Str × V)},RFs K ι H fs ws->ws.length=fs.length
 | [],_,h=>by cases (show _=[] from h);rfl
 | (f, d) :: r, _, h => by
   obtain⟨v,w,rfl,r1,r2⟩:=h
   simp[RFs.length r2]
theorem RFs.look {K:W.Frag}{ι:List Addr}{H:Hp}(f:Str):∀{fs:List (Str × D)} {ws:List (Str × V)},RFs K ι H fs ws->(fs.lookup f=none/\ws.lookup f=none)\/∃d v,fs.lookup f=some d/\ws.lookup f=some v/\RV K ι H d v
 | [],_,h=>by cases (show _=[] from h);exact .inl ⟨rfl,rfl⟩
 | (g, d) :: r, _, h => by
   obtain⟨v,w,rfl,r1,r2⟩:=h
   by_cases c:(f == g)=true
   · exact .inr ⟨d,v,by simp only[List.lookup,c],by simp only[List.lookup,c],r1⟩
   · have c:(f == g)=false:=by simpa using c
     simp only[List.lookup,c]
     exact RFs.look f r2
theorem RFs.put {K:W.Frag}{ι:List Addr}{H:Hp}(f:Str){d:D}{v:V}(q:RV K ι H d v):∀{fs:List (Str × D)} {ws:List (Str × V)},RFs K ι H fs ws->RFs K ι H (zhD f d fs) (putF f v ws)
 | [],_,h=>by cases (show _=[] from h);exact⟨v,[],rfl,q,rfl⟩
 | (g, x) :: r, _, h => by
   obtain⟨u,w,rfl,r1,r2⟩:=h
   unfold zhD putF
   by_cases c:g=f
   · rw[if_pos c,if_pos c];exact⟨v,w,rfl,q,r2⟩
   · rw[if_neg c,if_neg c];exact⟨u,_,rfl,r1,RFs.put f q r2⟩
theorem RV.ext {K:W.Frag}{ι ι':List Addr}{H H':Hp}(h:Ext ι H ι' H'){d:D}{v:V}(r:RV K ι H d v):RV K ι' H' d v:=r.up h.pre h.kp
theorem RVs.ext {K:W.Frag}{ι ι':List Addr}{H H':Hp}(h:Ext ι H ι' H'){ds:List D}{vs:List V}(r:RVs K ι H ds vs):RVs K ι' H' ds vs:=r.up h.pre h.kp
theorem RVs.length {K:W.Frag}{ι:List Addr}{H:Hp}:∀{ds:List D} {vs:List V},RVs K ι H ds vs->vs.length=ds.length
 | [],_,r=>by rw[show _=[] from r];rfl
 | d :: ds, vs, r => by
   obtain⟨v,w,rfl,_,r2⟩:=r
   simp[RVs.length r2]
theorem RVs.get {K:W.Frag}{ι:List Addr}{H:Hp}:∀{ds:List D} {vs:List V} {i:Nat} {d:D},RVs K ι H ds vs->ds[i]?=some d->∃v,vs[i]?=some v/\RV K ι H d v
 | [],_,_,_,_,e=>by simp at e
 | d :: ds, vs, 0, d', r, e => by
   obtain⟨v,w,rfl,r1,_⟩:=r
   simp at e;subst e
   exact⟨v,rfl,r1⟩
 | d :: ds, vs, i + 1, d', r, e => by
   obtain⟨v,w,rfl,_,r2⟩:=r
   obtain⟨u,e1,e2⟩:=RVs.get (i:=i) (d:=d') r2 (by simpa using e)
   exact⟨u,by simpa using e1,e2⟩
theorem RVs.get' {ι:List Addr}{H:Hp}{ds:List D}{vs:List V}{i:Nat}{v:V}(r:RVs K ι H ds vs)(e:vs[i]?=some v):∃d,ds[i]?=some d/\RV K ι H d v:=by
 have hi:i<ds.length:=by rw[<-r.length];exact (List.getElem?_eq_some_iff.mp e).1
 obtain⟨u,e1,e2⟩:=r.get (List.getElem?_eq_getElem hi)
 rw[e] at e1;cases e1
 exact⟨_,List.getElem?_eq_getElem hi,e2⟩
theorem RVs.append {K:W.Frag}{ι:List Addr}{H:Hp}:∀{ds es:List D} {vs us:List V},RVs K ι H ds vs->RVs K ι H es us->RVs K ι H (ds++es) (vs++us)
 | [],_,_,_,r,q=>by rw[show _=[] from r];exact q
 | d :: ds, es, vs, us, r, q => by
   obtain⟨v,w,rfl,r1,r2⟩:=r
   exact⟨v,w++us,rfl,r1,RVs.append r2 q⟩
theorem RVs.take {K:W.Frag}{ι:List Addr}{H:Hp}:∀{ds:List D} {vs:List V} (n:Nat),RVs K ι H ds vs->RVs K ι H (ds.take n) (vs.take n)
 |_,_,0,_=>rfl
 | [],_,n+1,r=>by rw[show _=[] from r];rfl
 | d :: ds, vs, n + 1, r => by
   obtain⟨v,w,rfl,r1,r2⟩:=r
   exact⟨v,w.take n,rfl,r1,RVs.take n r2⟩
theorem RVs.drop {K:W.Frag}{ι:List Addr}{H:Hp}:∀{ds:List D} {vs:List V} (n:Nat),RVs K ι H ds vs->RVs K ι H (ds.drop n) (vs.drop n)
 |_,_,0,r=>r
 | [],_,n+1,r=>by rw[show _=[] from r];rfl
 | d :: ds, vs, n + 1, r => by
   obtain⟨v,w,rfl,r1,r2⟩:=r
   exact RVs.drop n r2
theorem RVs.set {K:W.Frag}{ι:List Addr}{H:Hp}{d:D}{v:V}(q:RV K ι H d v):∀{ds:List D} {vs:List V} (n:Nat),RVs K ι H ds vs->RVs K ι H (ds.set n d) (vs.set n v)
 | [],_,n,r=>by rw[show _=[] from r];rfl
 | _ :: ds, vs, 0, r => by
   obtain⟨_,w,rfl,r1,r2⟩:=r
   exact⟨v,w,rfl,q,r2⟩
 | _ :: ds, vs, n + 1, r => by
   obtain⟨u,w,rfl,r1,r2⟩:=r
   exact⟨u,w.set n v,rfl,r1,RVs.set q n r2⟩
theorem RVs.cons_iff {K:W.Frag}{ι:List Addr}{H:Hp}{d:D}{ds:List D}{v:V}{vs:List V}:RVs K ι H (d::ds) (v::vs)↔RV K ι H d v/\RVs K ι H ds vs:=by
 constructor
 · rintro⟨v',r,e,h1,h2⟩;cases e;exact⟨h1,h2⟩
 · rintro⟨h1,h2⟩;exact⟨v,vs,rfl,h1,h2⟩
theorem RVs.ints {K:W.Frag}{ι:List Addr}{H:Hp}:∀ns:List Int,RVs K ι H (ns.map D.int) (ns.map V.int)
 | []=>rfl
 |n::ns=>⟨_,_,rfl,rfl,RVs.ints ns⟩
theorem RVs.ints_eq {K:W.Frag}{ι:List Addr}{H:Hp}:∀{ns:List Int} {vs:List V},RVs K ι H (ns.map D.int) vs->vs=ns.map V.int
 | [],_,h=>h
 | n :: ns, vs, h => by
   obtain⟨v,r,rfl,h1,h2⟩:=h
   rw[RVs.ints_eq h2,show v=.int n from h1];rfl
theorem zj2:∀{ds:List D} {ns:List Int},za8 ds=some ns->ds=ns.map D.int:=by
 intro ds
 unfold za8
 induction ds with
 |nil=>intro ns h;simp at h;subst h;rfl
 | cons d ds ih =>
   intro ns h
   rw[List.mapM_cons] at h
   cases d with
   | int i =>
     cases e:List.mapM zdB ds with
     |none=>rw[e] at h;simp[zdB] at h
     |some ms=>rw[e] at h;simp[zdB] at h;subst h;simp[ih e]
   |_=>simp[zdB] at h
mutual
theorem RV.flat {K:W.Frag}{ι:List Addr}{H:Hp}:∀{d:D} {v:V},RV K ι H d v->R.flat ι.length d=true
 |.non,_,_=>by simp[R.flat]
 |.bl _,_,_=>by simp[R.flat]
 |.int _,_,_=>by simp[R.flat]
 |.str _,_,_=>by simp[R.flat]
 | .tup ds, _, r => by
   obtain⟨a,xs,e,ha,q⟩:=r
   simp only[R.flat]
   exact RVs.flats q
 | .ref l, _, r => by
   obtain⟨a,e,q⟩:=r
   simp only[R.flat,decide_eq_true_eq]
   exact (List.getElem?_eq_some_iff.mp e).1
 | .fix ds, _, r => by
   obtain⟨a,xs,e,ha,q⟩:=r
   simp only[R.flat]
   exact RVs.flats q
 |.clo _,_,_=>by simp[R.flat]
theorem RVs.flats {K:W.Frag}{ι:List Addr}{H:Hp}:∀{ds:List D} {vs:List V},RVs K ι H ds vs->R.flats ι.length ds=true
 | [],_,_=>by simp[R.flats]
 | d :: ds, vs, r => by
   obtain⟨v,w,e,r1,r2⟩:=r
   simp only[R.flats,Bool.and_eq_true]
   exact⟨RV.flat r1,RVs.flats r2⟩
end
mutual
theorem RV.restrict {K:W.Frag}{ι ι':List Addr}{H:Hp}(hp:ι <+: ι'):∀{d:D} {v:V},R.flat ι.length d=true->RV K ι' H d v->RV K ι H d v
 |.non,_,_,r=>r
 |.bl _,_,_,r=>r
 |.int _,_,_,r=>r
 |.str _,_,_,r=>r
 | .tup ds, _, f, r => by
   obtain⟨a,xs,e,ha,q⟩:=r
   simp only[R.flat] at f
   exact⟨a,xs,e,ha,RVs.restrict hp f q⟩
 | .ref l, _, f, r => by
   obtain⟨a,e,q⟩:=r
   simp only[R.flat,decide_eq_true_eq] at f
   refine⟨a,?_,q⟩
   obtain⟨t,rfl⟩:=hp
   rw[List.getElem?_append_left f] at e
   exact e
 | .fix ds, _, f, r => by
   obtain⟨a,xs,e,ha,q⟩:=r
   simp only[R.flat] at f
   exact⟨a,xs,e,ha,RVs.restrict hp f q⟩
 |.clo _,_,_,r=>r
theorem RVs.restrict {K:W.Frag}{ι ι':List Addr}{H:Hp}(hp:ι <+: ι'):∀{ds:List D} {vs:List V},R.flats ι.length ds=true->RVs K ι' H ds vs->RVs K ι H ds vs
 | [],_,_,r=>r
 | d :: ds, vs, f, r => by
   obtain⟨v,w,e,r1,r2⟩:=r
   simp only[R.flats,Bool.and_eq_true] at f
   exact⟨v,w,e,RV.restrict hp f.1 r1,RVs.restrict hp f.2 r2⟩
end
theorem R3s.flats {K:W.Frag}{ι:List Addr}{H:Hp}:∀{kvs:List (K3 × D)} {ws:List (K3 × Addr × V)},R3s K ι H kvs ws->R.flats ι.length (kvs.map (·.2))=true
 | [],_,_=>by simp[R.flats]
 | (k, d) :: kvs, ws, r => by
   obtain⟨c,v,w,e,_,r1,r2⟩:=r
   simp only[List.map_cons,R.flats,Bool.and_eq_true]
   exact⟨RV.flat r1,R3s.flats r2⟩
theorem R3s.restrict {K:W.Frag}{ι ι':List Addr}{H:Hp}(hp:ι <+: ι'):∀{kvs:List (K3 × D)} {ws:List (K3 × Addr × V)},R.flats ι.length (kvs.map (·.2))=true->R3s K ι' H kvs ws->R3s K ι H kvs ws
 | [],_,_,r=>r
 | (k, d) :: kvs, ws, f, r => by
   obtain⟨c,v,w,e,r0,r1,r2⟩:=r
   simp only[List.map_cons,R.flats,Bool.and_eq_true] at f
   exact⟨c,v,w,e,r0,RV.restrict hp f.1 r1,R3s.restrict hp f.2 r2⟩
theorem RFs.flats {K:W.Frag}{ι:List Addr}{H:Hp}:∀{fs:List (Str × D)} {ws:List (Str × V)},RFs K ι H fs ws->R.flats ι.length (fs.map (·.2))=true
 | [],_,_=>by simp
 | (f, d) :: r, _, h => by
   obtain⟨v,w,_,r1,r2⟩:=h
   simp only[List.map_cons,zdO,Bool.and_eq_true]
   exact⟨RV.flat r1,RFs.flats r2⟩
theorem RFs.restrict {K:W.Frag}{ι ι':List Addr}{H:Hp}(hp:ι <+: ι'):∀{fs:List (Str × D)} {ws:List (Str × V)},R.flats ι.length (fs.map (·.2))=true->RFs K ι' H fs ws->RFs K ι H fs ws
 | [],_,_,h=>h
 | (f, d) :: r, _, f0, h => by
   obtain⟨v,w,e,r1,r2⟩:=h
   simp only[List.map_cons,zdO,Bool.and_eq_true] at f0
   exact⟨v,w,e,RV.restrict hp f0.1 r1,RFs.restrict hp f0.2 r2⟩
theorem RO.up {K:W.Frag}{ι ι':List Addr}{H H':Hp}{a:Addr}{o:MO}(h:RO K ι H a o)(hp:ι <+: ι')(hk:Kp H H')(e:H' a=H a):RO K ι' H' a o:=by
 cases o with
 |lst ds=>obtain⟨xs,h1,h2⟩:=h;exact⟨xs,e.trans h1,h2.up hp hk⟩
 |ins c fs=>obtain⟨C,dx,ws,h0,h1,h2⟩:=h;exact⟨C,dx,ws,h0,e.trans h1,h2.up hp hk⟩
 |d3 kvs=>obtain⟨h0,ws,h1,h2⟩:=h;exact⟨h0,ws,e.trans h1,h2.up hp hk⟩
theorem RO.stay {K:W.Frag}{ι ι':List Addr}{H H':Hp}{a:Addr}{o:MO}(h:RO K ι H a o)(x:Ext ι H ι' H')(e:H' a=H a):RO K ι' H' a o:=h.up x.pre x.kp e
section
variable {K:W.Frag} {ι ι':List Addr} {H H':Hp} {S S' T:St} {l:Nat} {a p:Addr}
theorem RH.mem (h:RH K ι H S){o:MO}(e:S.get l=some o):∃a,ι[l]?=some a/\RO K ι H a o/\a∈ι:=by
 obtain⟨a,h1,h2⟩:=h.obj l o e
 exact⟨a,h1,h2,List.mem_of_getElem? h1⟩
theorem zj9 (h:l<S.len):∃o,S.get l=some o:=by
 unfold St.len at h
 unfold St.get
 split
 · rename_i c;exact⟨_,List.getElem?_eq_getElem c⟩
 · exact⟨_,List.getElem?_eq_getElem (by omega)⟩
theorem RH.off (h:RH K ι H S)(x:Ext ι H ι H')(e:∀a∈ι,H' a=H a):RH K ι H' S:=
 ⟨h.len,h.nd,fun l o q=>let ⟨a,h1,h2,hm⟩:=h.mem q;⟨a,h1,h2.stay x (e a hm)⟩,x.kp.tab h.tab⟩
theorem RH.live (h:RH K ι H S)(ha:a∈ι):∃o,H a=some o/\(∀xs,o≠.tup xs)/\(∀z u,o≠.frz z u)/\∀ps,o≠.tbl ps:=by
 obtain⟨l,hl⟩:=List.mem_iff_getElem?.mp ha
 have hlt:l<S.len:=by rw[<-h.len];exact (List.getElem?_eq_some_iff.mp hl).1
 obtain⟨o,e⟩:=zj9 hlt
 obtain⟨b,h1,h2⟩:=h.obj l o e
 rw[hl] at h1;cases h1
 cases o with
 |lst ds=>obtain⟨xs,q,_⟩:=h2;exact⟨_,q,⟨fun _ z=>(by cases z),fun _ _ z=>(by cases z),fun _ z=>(by cases z)⟩⟩
 |ins c fs=>obtain⟨C,dx,ws,_,q,_⟩:=h2;exact⟨_,q,⟨fun _ z=>(by cases z),fun _ _ z=>(by cases z),fun _ z=>(by cases z)⟩⟩
 |d3 kvs=>obtain⟨_,ws,q,_⟩:=h2;exact⟨_,q,⟨fun _ z=>(by cases z),fun _ _ z=>(by cases z),fun _ z=>(by cases z)⟩⟩
theorem RH.fresh (h:RH K ι H S)(hp:H p=Option.none):p∉ι:=fun hm=>by
 obtain⟨o,e,_⟩:=h.live hm
 rw[hp] at e;cases e
theorem RH.notup (h:RH K ι H S){xs:List V}(hp:H p=some (.tup xs)):p∉ι:=fun hm=>by
 obtain⟨o,e,q,_⟩:=h.live hm
 rw[hp] at e;cases e;exact q _ rfl
theorem Kp.new (hp:H p=Option.none)(o:HO):Kp H (upd H p o):=
 .same (Tups.upd_new hp) (fun b z u e=>by rw[zae (zaj e hp)];exact e) fun b ps e=>by rw[zae (zaj e hp)];exact e
theorem Ext.new (hp:H p=Option.none)(o:HO):Ext ι H ι (upd H p o):=
 ⟨List.prefix_refl _,Kp.new hp o,fun a u h e=>⟨.inl (by rw[zae (zaj e hp)];exact e),h⟩⟩
theorem RH.new (h:RH K ι H S)(hp:H p=Option.none)(o:HO):RH K ι (upd H p o) S:=
 h.off (Ext.new hp o) fun a ha=>zae fun e=>h.fresh hp (e▸ha)
theorem zeq (S:St)(o:MO):(S.push o).get S.len=some o:=by
 have h:¬S.len<S.frz.length:=by unfold St.len;omega
 unfold St.get St.push
 simp only[h,if_false]
 unfold St.len
 simp
theorem zb8 {o:MO}(h:l<S.len):(S.push o).get l=S.get l:=by
 unfold St.len at h
 unfold St.get St.push
 simp only
 split
 · rfl
 · rw[List.getElem?_append_left (by omega)]
theorem zbO (S:St)(o:MO):(S.push o).len=S.len+1:=by simp[St.push,St.len];omega
theorem Ext.obj (h:RH K ι H S)(hp:H p=Option.none)(u:HO):Ext ι H (ι++[p]) (upd H p u):=
 ⟨List.prefix_append _ _,Kp.new hp u,fun a o ha e=>⟨.inl (by rw[zae (zaj e hp)];exact e),by
  intro z
  rcases List.mem_append.mp z with z|z
  · exact ha z
  · simp at z;exact zaj e hp z⟩⟩
theorem RH.obj' (h:RH K ι H S)(hp:H p=Option.none)(u:HO)(o:MO)(ho:RO K (ι++[p]) (upd H p u) p o):RH K (ι++[p]) (upd H p u) (S.push o):=by
 refine⟨by rw[List.length_append,h.len,zbO];rfl,?_,fun l o' e=>?_,(Kp.new hp u).tab h.tab⟩
 · rw[List.nodup_append]
   refine⟨h.nd,by simp,fun a ha b hb=>?_⟩
   simp at hb;subst hb
   exact fun z=>h.fresh hp (z▸ha)
 · by_cases hl:l<S.len
   · rw[zb8 hl] at e
     obtain⟨a,h1,h2,hm⟩:=h.mem e
     exact⟨a,zbz (List.prefix_append _ _) h1,h2.stay (Ext.obj h hp u) (zae fun z=>h.fresh hp (z▸hm))⟩
   · have hl2:=zar e
     rw[zbO] at hl2
     have:l=S.len:=by omega
     subst this
     rw[zeq] at e;cases e
     exact⟨p,by rw[<-h.len];simp,ho⟩
theorem RH.lay (h:RH K ι H S)(hp:H p=Option.none){ds:List D}{xs:List V}(r:RVs K ι H ds xs):RH K (ι++[p]) (upd H p (.lst xs)) (S.push (.lst ds)):=
 h.obj' hp _ _ ⟨xs,zai,r.ext (Ext.obj h hp _)⟩
theorem RH.last (h:RH K ι H S)(p:Addr):(ι++[p])[S.len]?=some p:=by rw[<-h.len];simp
theorem Ext.wr (h:RH K ι H S){o:MO}(e:S.get l=some o)(hl:ι[l]?=some a)(u:HO):Ext ι H ι (upd H a u):=by
 have hm:=List.mem_of_getElem? hl
 refine⟨List.prefix_refl _,.same (fun b xs hb=>?_) (fun b z v hb=>?_) fun b ps hb=>?_,fun b o hb e=>⟨.inl ((zae fun (z:b=a)=>hb (by rw[z];exact hm)).trans e),hb⟩⟩
 · rw[zae];exact hb
   rintro rfl
   exact h.notup hb hm
 · rw[zae];exact hb
   rintro rfl
   obtain⟨o,e,_,q,_⟩:=h.live hm
   rw[hb] at e;cases e;exact q _ _ rfl
 · rw[zae];exact hb
   rintro rfl
   obtain⟨o,e,_,_,q⟩:=h.live hm
   rw[hb] at e;cases e;exact q _ rfl
theorem zlV {o:MO}(e:S.put l o=some S'):S'.len=S.len/\(l<S.len->S'.get l=some o)/\(∀m,m≠l->S'.get m=S.get m)/\S.frz.length<=l:=by
 unfold St.put at e
 split at e
 · cases e
 · split at e
   · cases e
   · injection e with e
     subst e
     rename_i c1 c2
     refine⟨by simp[St.len],fun hl=>?_,fun m hm=>?_,by omega⟩
     · unfold St.len at hl
       unfold St.get
       simp only[c1,if_false]
       rw[List.getElem?_set_self (by omega)]
     · unfold St.get
       simp only
       split
       · rfl
       · rw[List.getElem?_set_ne (by omega)]
theorem RH.wr (h:RH K ι H S){o o':MO}{u:HO}(e:S.get l=some o)(hl:ι[l]?=some a)(w:S.put l o'=some S')(ho:RO K ι (upd H a u) a o'):RH K ι (upd H a u) S':=by
 obtain⟨h1,h2,h3,_⟩:=zlV w
 refine⟨h.len.trans h1.symm,h.nd,fun m o2 e2=>?_,(Ext.wr h e hl u).kp.tab h.tab⟩
 by_cases hm:m=l
 · subst hm
   rw[h2 (zar e)] at e2;cases e2
   exact⟨a,hl,ho⟩
 · rw[h3 m hm] at e2
   obtain⟨b,q1,q2,_⟩:=h.mem e2
   refine⟨b,q1,q2.stay (Ext.wr h e hl u) (zae ?_)⟩
   rintro rfl
   obtain⟨i1,e1⟩:=List.getElem?_eq_some_iff.mp hl
   obtain⟨i2,e2⟩:=List.getElem?_eq_some_iff.mp q1
   exact hm ((List.getElem_inj h.nd).mp (e2.trans e1.symm))
end
end R
end
section
namespace R
open PySem PySem.Spec PyProof.Rows L2
section
variable {prog:Program} {w:World} {K:Type} [DecidableEq K] {knd:HeapKind prog w K} {A:Around} {E:Value->Shared->Prop} {s:Shared} {xs ys:List (K × Addr × Value)} {a b d:Addr}
end
end R
end
section
namespace R
open PySem PySem.Spec PyProof.Rows L2
variable [Mks]
theorem zmr {K:W.Frag}{ι:List Addr}{H:Hp}{y:D}{v:V}{k:K3}(r:RV K ι H y v)(h:key3 y=some k):∃c,v=.ref c/\Key3 H k c:=by
 unfold key3 at h
 split at h
 · rename_i a ds b
   cases e:za8 ds with
   |none=>rw[e] at h;cases h
   | some p =>
     rw[e] at h
     cases h
     obtain⟨c,xs,rfl,hc,v1,r1,rfl,q1,v2,r2,rfl,q2,v3,r3,rfl,q3,q4⟩:=r
     cases (show r3=[] from q4)
     obtain rfl:v1=.int a:=q1
     obtain⟨b',ys,rfl,hb,rr⟩:=q2
     obtain rfl:v3=.int b:=q3
     rw[zj2 e] at rr
     rw[rr.ints_eq] at hb
     exact⟨c,rfl,b',hc,hb⟩
 · cases h
end R
end
section
namespace R
open PySem PySem.Spec PyProof.Rows L2
section
variable {prog:Program} {w:World} {K:Type} [DecidableEq K] {knd:HeapKind prog w K} {A:Around} {E:Value->Shared->Prop} {s:Shared} {xs:List (K × Addr × Value)} {d:Addr}
end
section
variable {X:Cx} {o e f:Expr} {apos cpos:Pos} {td ty tv:TE}
end
end R
end
section
namespace R
open PySem PySem.Spec PyProof.Rows L2
section
variable {prog:Program} {w:World} {K:Type} [DecidableEq K] {knd:HeapKind prog w K} {A:Around} {E:Value->Shared->Prop} {s:Shared} {xs:List (K × Addr × Value)} {d j:Addr} {i ep:Nat}
noncomputable def HAt (knd:HeapKind prog w K)(h:Heap)(d:Addr)(xs:List (K × Addr × Value))(ep:Nat):Prop:=∃o es,h.get? d=some o/\o.ExactDict/\o.data=.dict es ep/\es.toList=xs.map (entryOfKey knd)
theorem HAt.at {h h':Heap}(x:HAt knd h d xs ep)(e:∀o,h.get? d=some o->h'.get? d=some o):HAt knd h' d xs ep:=let ⟨o,es,ho,r⟩:=x;⟨o,es,e _ ho,r⟩
end
section
variable {X:Cx}
end
end R
end
section
namespace R
open PySem PySem.Spec PyProof.Rows L2
variable [Mks]
noncomputable def Lf (K:W.Frag)(ι:List Addr)(H:Hp)(Q:D->R.St->Prop):VK:=fun v H'=>∃d ι' S',Ext ι H ι' H'/\RV K ι' H' d v/\RH K ι' H' S'/\Q d S'
section
variable {K:W.Frag} {ι ι':List Addr} {H H':Hp} {S S':R.St} {Q:D->R.St->Prop} {d:D} {v:V} {p:Addr}
theorem Lf.of (h:RH K ι H S)(r:RV K ι H d v)(q:Q d S):Lf K ι H Q v H:=⟨d,ι,S,Ext.refl ι H,r,h,q⟩
theorem Lf.up (x:Ext ι H ι' H')(h:Lf K ι' H' Q v p'):Lf K ι H Q v p':=by
 obtain⟨d,ι2,S2,x2,r⟩:=h
 exact⟨d,ι2,S2,x.trans x2,r⟩
theorem Lf.tup (h:RH K ι H S)(hp:H p=Option.none){ds:List D}{xs:List V}(r:RVs K ι H ds xs)(q:Q (.tup ds) S):Lf K ι H Q (.ref p) (upd H p (.tup xs)):=
 ⟨.tup ds,ι,S,Ext.new hp _,⟨p,xs,rfl,zai,r.ext (Ext.new hp _)⟩,h.new hp _,q⟩
theorem Lf.lst (h:RH K ι H S)(hp:H p=Option.none){ds:List D}{xs:List V}(r:RVs K ι H ds xs)(q:Q (.ref S.len) (S.push (.lst ds))):Lf K ι H Q (.ref p) (upd H p (.lst xs)):=
 ⟨.ref S.len,ι++[p],S.push (.lst ds),Ext.obj h hp _,⟨p,h.last p,rfl⟩,h.lay hp r,q⟩
theorem Lf.wr (h:RH K ι H S){l:Nat}{a:Addr}{o:MO}{ds:List D}{xs:List V}(e:S.get l=some o)(hl:ι[l]?=some a)(w:S.put l (.lst ds)=some S')(r:RVs K ι H ds xs)(rv:RV K ι H d v)(q:Q d S'):Lf K ι H Q v (upd H a (.lst xs)):=
 ⟨d,ι,S',Ext.wr h e hl _,rv.ext (Ext.wr h e hl _),h.wr e hl w ⟨xs,zai,r.ext (Ext.wr h e hl _)⟩,q⟩
end
theorem zcH {S:R.St}{ds:List D}{Q:D->R.St->Prop}(h:W (lay S ds) Q):ds.length<=sizeLine/\Q (.ref S.len) (S.push (.lst ds)):=by
 unfold lay at h
 split at h
 · rename_i c;exact⟨by rw[sizeLine_eq];exact c,h⟩
 · exact h.elim
theorem zk6 {S:R.St}{l:Nat}{ds:List D}{d:D}{Q:D->R.St->Prop}(h:W (wr S l ds d) Q):ds.length<=sizeLine/\∃S',S.put l (.lst ds)=some S'/\Q d S':=by
 unfold wr at h
 split at h
 · rename_i c
   refine⟨by rw[sizeLine_eq];exact c,?_⟩
   cases e:S.put l (.lst ds) with
   |none=>rw[e] at h;exact h.elim
   |some S'=>rw[e] at h;exact⟨S',rfl,h⟩
 · exact h.elim
noncomputable def rD2 (K:W.Frag)(f:R.St->D->D->Out D):R2:=fun x y H Qv=>∃ι S d e Qd,RV K ι H d x/\RV K ι H e y/\RH K ι H S/\W (f S d e) Qd/\∀v H',Lf K ι H Qd v H'->Qv v H'
section
variable {X:Cx}
theorem zkk {prog:Program}{w:World}{A:Around}{E:Value->Shared->Prop}{s:Shared}{t b:Addr}{vs ws:List Value}{Q:Value->Shared->Prop}(ht:IsTup s.heap t vs.toArray)(hb:IsTup s.heap b ws.toArray)(hv:vs=[])
  (h1:Q (.ref b) s):wpAny (model prog w) A (binaryOp .Add (.ref t) (.ref b)) Q E s:=by
 obtain⟨⟨cls,dd,data,sl⟩,ho,hc,n,hd⟩:=id ht
 obtain⟨⟨cls2,dd2,data2,sl2⟩,ho2,hc2,n2,hd2⟩:=id hb
 simp only at hc hd hc2 hd2
 subst hc hd hc2 hd2
 exact concat_meets ⟨_,ho,rfl⟩ ⟨_,ho2,rfl⟩ noFill_tuple_add seq_tuple_add PySem.F.slot_tuple_add PySem.F.entry_tuple_add (PySem.F.args_tuple_add_2 _ _)
  (tuple_addW0 t b vs.toArray ws.toArray n n2 dd dd2 sl sl2 (by simp[hv])) ⟨ho,ho2,h1⟩
theorem zjM:OpR X (binaryOp .Add) (fun x y H Q=>∃a b ys,x=.ref a/\y=.ref b/\SqT X.K H a []/\SqT X.K H b ys/\Q (.ref b) H):=by
 intro pins s σ H x y v u Q I rx ry h
 obtain⟨a,b,ys,rfl,rfl,ha,hb,q⟩:=h
 cases rx
 cases ry
 obtain⟨its,r1,p1,_⟩:=I.tuple ha
 obtain⟨its2,r2,p2,_⟩:=I.tuple hb
 exact zkk p1 p2 (r1.nil_iff.mpr rfl) ⟨.ref b,H,I,rfl,q⟩
theorem zpf (op:Operator):OpR X (binaryOp op) (rD2 X.K fun S d e=>binD S op d e):=by
 intro pins s σ H x y v u Qv I rx ry ⟨ι,S,d,e,Qd,hd,he,hH,hw,q⟩
 dsimp only at hw
 unfold binD at hw
 split at hw
 · rename_i i j
   obtain rfl:x=.int i:=hd
   obtain rfl:y=.int j:=he
   have fin:∀k:Int,Qd (.int k) S->Qv (.int k) H:=fun k hk=>q _ _ (Lf.of (d:=.int k) hH rfl hk)
   unfold binI at hw
   split at hw
   · exact zkO pins s σ H _ _ v u Qv I rx ry ⟨i,j,rfl,rfl,fin _ hw⟩
   · exact zox pins s σ H _ _ v u Qv I rx ry ⟨i,j,rfl,rfl,fin _ hw⟩
   · split at hw
     · rename_i c
       refine zoA pins s σ H _ _ v u Qv I rx ry ⟨i,j,rfl,rfl,?_,fin _ hw⟩
       unfold zeT at c
       rw[Bool.or_eq_true,decide_eq_true_eq,decide_eq_true_eq] at c
       exact c
     · exact hw.elim
   · split at hw
     · rename_i c
       exact zme pins s σ H _ _ v u Qv I rx ry ⟨i,j,rfl,rfl,c,fin _ hw⟩
     · exact hw.elim
   · split at hw
     · rename_i c
       exact zoB pins s σ H _ _ v u Qv I rx ry ⟨i,j,rfl,rfl,c,fin _ hw⟩
     · exact hw.elim
   · split at hw
     · rename_i c
       exact zoy pins s σ H _ _ v u Qv I rx ry ⟨i,j,rfl,rfl,⟨c.1,c.2.1,by omega⟩,fin _ hw⟩
     · exact hw.elim
   · exact hw.elim
 · rename_i xs ys
   split at hw
   · split at hw
     · rename_i c
       obtain⟨a,us,rfl,ha,r1⟩:=hd
       obtain⟨b,ws,rfl,hb,r2⟩:=he
       by_cases hn:us=[]
       · subst hn
         have hx:xs=[]:=by
          have:=r1.length
          simpa using this.symm
         subst hx
         refine zjM pins s σ H _ _ v u Qv I rx ry ⟨a,b,ws,rfl,rfl,SqT.of ha,SqT.of hb,?_⟩
         exact q _ _ (Lf.of (d:=.tup ys) hH ⟨b,ws,rfl,hb,r2⟩ (by simpa using hw))
       · refine zmf pins s σ H _ _ v u Qv I rx ry ⟨a,b,us,ws,rfl,rfl,SqT.of ha,SqT.of hb,hn,?_,fun hy=>?_,fun hy p hp=>?_⟩
         · rw[r1.length,r2.length,sizeLine_eq];exact c
         · subst hy
           have hx:ys=[]:=by
            have:=r2.length
            simpa using this.symm
           subst hx
           exact q _ _ (Lf.of (d:=.tup xs) hH ⟨a,us,rfl,ha,r1⟩ (by simpa using hw))
         · exact q _ _ (Lf.tup hH hp (r1.append r2) hw)
     · exact hw.elim
   · exact hw.elim
 · rename_i a b
   split at hw
   · rename_i xs ys e1 e2
     obtain⟨a1,h1,rfl⟩:=hd
     obtain⟨b1,h2,rfl⟩:=he
     obtain⟨a2,h3,us,ha,r1⟩:=hH.obj _ _ e1
     obtain⟨b2,h4,ws,hb,r2⟩:=hH.obj _ _ e2
     rw[h1] at h3;cases h3
     rw[h2] at h4;cases h4
     obtain⟨z,hq⟩:=zcH hw
     refine zoD pins s σ H _ _ v u Qv I rx ry ⟨a1,b1,us,ws,rfl,rfl,ha,hb,?_,fun p hp=>?_⟩
     · rw[r1.length,r2.length];rw[List.length_append] at z;exact z
     · exact q _ _ (Lf.lst hH hp (r1.append r2) hq)
   · exact hw.elim
 · exact hw.elim
theorem zaI {α β:Type}{f:α->Option β}{x:α}{xs:List α}{ys:List β}(h:(x::xs).mapM f=some ys):∃y r,f x=some y/\xs.mapM f=some r/\ys=y::r:=by
 rw[List.mapM_cons] at h
 cases e:f x with
 |none=>rw[e] at h;cases h
 | some y =>
   rw[e] at h
   cases e2:xs.mapM f with
   |none=>rw[e2] at h;cases h
   |some r=>rw[e2] at h;injection h with h;exact⟨y,r,rfl,rfl,h.symm⟩
theorem zgT {ι:List Addr}{H:Hp}{S:R.St}(hH:RH X.K ι H S):∀(n:Nat) (d:D) (pdd:PyData) (v:V),pd S n d=some pdd->RV X.K ι H d v->Rep H pdd v/\pdd.canLay0=true/\pdd.depth<=n:=by
 intro n
 induction n with
 | zero =>
   intro d p v h r
   cases d<;>simp only[pd] at h
   · cases h;exact⟨r,rfl,Nat.le_refl _⟩
   · cases h;exact⟨r,rfl,Nat.le_refl _⟩
   · cases h;exact⟨r,rfl,Nat.le_refl _⟩
   · split at h
     · rename_i c;cases h;exact⟨r,c,Nat.le_refl _⟩
     · cases h
   all_goals cases h
 | succ n ih =>
   have all:∀(ds:List D) (ps:List PyData) (vs:List V),ds.mapM (pd S n)=some ps->RVs X.K ι H ds vs->RepAll H ps vs/\PyData.canLayAll0 ps=true/\PyData.depthAll ps<=n:=by
    intro ds
    induction ds with
    | nil =>
      intro ps vs h r
      have h:ps=[]:=by simpa using h.symm
      subst h
      exact⟨r,rfl,Nat.zero_le _⟩
    | cons d ds ihd =>
      intro ps vs h r
      obtain⟨y,rr,h1,h2,rfl⟩:=zaI h
      obtain⟨v,w,rfl,r1,r2⟩:=r
      obtain⟨a1,a2,a3⟩:=ih d y v h1 r1
      obtain⟨b1,b2,b3⟩:=ihd rr w h2 r2
      refine⟨⟨v,w,rfl,a1,b1⟩,by simp[PyData.canLayAll0,a2,b2],?_⟩
      simp only[PyData.depthAll]
      omega
   intro d p v h r
   cases d with
   |non=>simp only[pd] at h;cases h;exact⟨r,rfl,Nat.zero_le _⟩
   |bl b=>simp only[pd] at h;cases h;exact⟨r,rfl,Nat.zero_le _⟩
   |int i=>simp only[pd] at h;cases h;exact⟨r,rfl,Nat.zero_le _⟩
   | str x =>
     simp only[pd] at h
     split at h
     · rename_i c;cases h;exact⟨r,c,Nat.zero_le _⟩
     · cases h
   | tup ds =>
     simp only[pd] at h
     cases e:ds.mapM (pd S n) with
     |none=>rw[e] at h;cases h
     | some ps =>
       rw[e] at h
       have h:PyData.tuple ps=p:=by simpa using h
       subst h
       obtain⟨a,xs,rfl,ha,rr⟩:=r
       obtain⟨b1,b2,b3⟩:=all ds ps xs e rr
       refine⟨⟨a,xs,rfl,ha,b1⟩,by simp[PyData.canLay0,b2],?_⟩
       simp only[PyData.depth]
       omega
   | ref l =>
     simp only[pd] at h
     split at h
     · rename_i ds eg
       cases e:ds.mapM (pd S n) with
       |none=>rw[e] at h;cases h
       | some ps =>
         rw[e] at h
         have h:PyData.list ps=p:=by simpa using h
         subst h
         obtain⟨a,h1,rfl⟩:=r
         obtain⟨a2,h2,xs,ha,rr⟩:=hH.obj _ _ eg
         rw[h1] at h2;cases h2
         obtain⟨b1,b2,b3⟩:=all ds ps xs e rr
         refine⟨⟨a,xs,rfl,ha,b1⟩,by simp[PyData.canLay0,b2],?_⟩
         simp only[PyData.depth]
         omega
     · cases h
   |fix ds=>simp only[pd] at h;cases h
   |clo ds=>simp only[pd] at h;cases h
noncomputable def rC2 (K:W.Frag)(op:CmpOp):R2:=fun x y H Qv=>∃ι S d e k,RV K ι H d x/\RV K ι H e y/\RH K ι H S/\cmpD S op d e=some k/\Qv (.bl k) H
theorem zgx {S:R.St}{d e:D}{k:Bool}(h:eqD S d e=some k):∃a b,pd S 60 d=some a/\pd S 60 e=some b/\k=PyData.eqv a b:=by
 unfold eqD at h
 cases e1:pd S 60 d with
 |none=>rw[e1] at h;cases h
 | some a =>
   rw[e1] at h
   cases e2:pd S 60 e with
   |none=>rw[e2] at h;cases h
   |some b=>rw[e2] at h;injection h with h;exact⟨a,b,rfl,rfl,h.symm⟩
open Classical in
noncomputable def eqRd (h:Heap)(p:PyData)(u:Value):Bool:=if c:∃q as,Reads h u q as/\q.canLay0=true then PyData.eqv c.choose p else false
theorem zmJ {h:Heap}{p q:PyData}{u:Value}{as:List Addr}(r:Reads h u q as)(c:q.canLay0=true):eqRd h p u=PyData.eqv q p:=by
 have ex:∃q as,Reads h u q as/\q.canLay0=true:=⟨q,as,r,c⟩
 unfold eqRd
 rw[dif_pos ex]
 obtain⟨as',r',c'⟩:=ex.choose_spec
 rw[SeqAt.Reads.unique _ _ _ _ _ c r r']
theorem zj3 {ι:List Addr}{H:Hp}{S:R.St}{pins:List (Addr × Obj)}{σ:L2.St}{s:Shared}{A:Around}(I:Inv X pins σ H s)(hA:A.units+62<cLine)(hH:RH X.K ι H S){x:D}{px:PyData}{vx:V}{ux:Value}(hx:pd S 60 x=some px)(rx:RV X.K ι H x vx)(qx:RelV vx ux) :
  ∀{ds:List D} {vs:List V} {us:List Value} {bs:List Bool},RVs X.K ι H ds vs->Vals vs us->ds.mapM (fun z=>eqD S z x)=some bs->us.any (eqRd s.heap px)=bs.any id/\∀u∈us,SeqAt.EqAt A s u ux (eqRd s.heap px u):=by
 obtain⟨x1,x2,x3⟩:=zgT hH 60 x px vx hx rx
 obtain⟨asx,rdx⟩:=Rep.reads I px vx ux x1 qx
 intro ds
 induction ds with
 | nil =>
   intro vs us bs r rv h
   cases (show vs=[] from r)
   cases rv
   have h:bs=[]:=by simpa using h.symm
   subst h
   exact⟨rfl,fun u hu=>nomatch hu⟩
 | cons d ds ih =>
   intro vs us bs r rv h
   obtain⟨v,w,rfl,r1,r2⟩:=r
   obtain⟨b,rr,e,h2,rfl⟩:=zaI h
   cases rv with
   | cons q1 q2 =>
     rename_i u us'
     obtain⟨a,b',e1,e2,rfl⟩:=zgx e
     rw[hx] at e2;cases e2
     obtain⟨p1,p2,p3⟩:=zgT hH 60 d a v e1 r1
     obtain⟨as,rd⟩:=Rep.reads I a v u p1 q1
     have hq:=zmJ (p:=px) rd p2
     obtain⟨i1,i2⟩:=ih r2 q2 h2
     refine⟨by simp[hq,i1],fun z hz=>?_⟩
     rcases List.mem_cons.mp hz with rfl|hz
     · rw[hq]
       exact SeqAt.eqAt_reads a px A s z ux as asx rd rdx p2 x2 (by omega)
     · exact i2 z hz
theorem zkC {ι:List Addr}{H:Hp}{S:R.St}(hH:RH X.K ι H S){d:D}{v:V}{ds:List D}(h:za6 S d=some ds)(r:RV X.K ι H d v):∃a xs,v=.ref a/\(SqL X.K H a xs\/SqT X.K H a xs)/\RVs X.K ι H ds xs:=by
 cases d with
 | tup es =>
   cases h
   obtain⟨a,xs,rfl,ha,rr⟩:=r
   exact⟨a,xs,rfl,.inr (SqT.of ha),rr⟩
 | fix es =>
   cases h
   obtain⟨a,xs,rfl,ha,rr⟩:=r
   exact⟨a,xs,rfl,.inl ha.sq,rr⟩
 | ref l =>
   simp only[za6] at h
   split at h
   · rename_i ds' e
     cases h
     obtain⟨a,h1,rfl⟩:=r
     obtain⟨a2,h2,xs,ha,rr⟩:=hH.obj _ _ e
     rw[h1] at h2;cases h2
     exact⟨a,xs,rfl,.inl (SqL.of ha),rr⟩
   · cases h
 |_=>cases h
theorem zoS {S:R.St}{x:D}{ys:List D}{k:Bool}(h:inD S x ys=some k):∃bs,ys.mapM (fun z=>eqD S z x)=some bs/\k=bs.any id:=by
 unfold inD at h
 cases e:ys.mapM (fun z=>eqD S z x) with
 |none=>rw[e] at h;cases h
 |some bs=>rw[e] at h;injection h with h;exact⟨bs,rfl,h.symm⟩
theorem nonV {K:W.Frag}{ι:List Addr}{H:Hp}{d:D}{x:V}(hd:RV K ι H d x):decide (x=V.non)=zmu d:=by
 cases d with
 |non=>rw[show x=.non from hd];rfl
 |bl b=>rw[show x=.bl b from hd];rfl
 |int b=>rw[show x=.int b from hd];rfl
 |str b=>rw[show x=.str b from hd];rfl
 |tup b=>obtain⟨_,_,rfl,_⟩:=hd;rfl
 |ref b=>obtain⟨_,_,rfl⟩:=hd;rfl
 |fix b=>obtain⟨_,_,rfl,_⟩:=hd;rfl
 |clo b=>obtain⟨_,rfl,_⟩:=hd;rfl
theorem zkX (hu:X.A.units+128<cLine)(op:CmpOp):OpR X (compareOp op) (rC2 X.K op):=by
 intro pins s σ H x y v u Qv I rx ry ⟨ι,S,d,e,k,hd,he,hH,hc,q⟩
 unfold cmpD at hc
 split at hc
 · rename_i i j
   obtain rfl:x=.int i:=hd
   obtain rfl:y=.int j:=he
   unfold cmpI at hc
   split at hc
   · cases hc;exact zp0 pins s σ H _ _ v u Qv I rx ry ⟨rfl,by simpa using q⟩
   · cases hc;exact zpV pins s σ H _ _ v u Qv I rx ry ⟨rfl,by simpa using q⟩
   · cases hc;exact zpW pins s σ H _ _ v u Qv I rx ry ⟨i,j,rfl,rfl,q⟩
   · cases hc;exact zpX pins s σ H _ _ v u Qv I rx ry ⟨i,j,rfl,rfl,q⟩
   · cases hc;exact zpY pins s σ H _ _ v u Qv I rx ry ⟨i,j,rfl,rfl,q⟩
   · cases hc;exact zpZ pins s σ H _ _ v u Qv I rx ry ⟨i,j,rfl,rfl,q⟩
   · cases hc
 · unfold cmpO at hc
   have isin:∀(k:Bool),((za6 S e).bind fun ys=>inD S d ys)=some k->∃a xs,y=.ref a/\(SqL X.K H a xs\/SqT X.K H a xs)/\∃(px:PyData),∀us,Vals xs us->us.any (eqRd s.heap px)=k/\∀z∈us,SeqAt.EqAt X.A.in1 s z v (eqRd s.heap px z):=by
    intro k h
    cases es:za6 S e with
    |none=>rw[es] at h;cases h
    | some ys =>
      rw[es] at h
      obtain⟨bs,hb,rfl⟩:=zoS (show inD S d ys=some k from h)
      obtain⟨a,xs,rfl,hq,rr⟩:=zkC hH es he
      refine⟨a,xs,rfl,hq,?_⟩
      cases hp:pd S 60 d with
      |some px=>exact⟨px,fun us hus=>zj3 I (show X.A.units+1+62<cLine by omega) hH hp hd rx rr hus hb⟩
      | none =>
        cases ys with
        | nil =>
          refine⟨.none,fun us hus=>?_⟩
          cases (show xs=[] from rr)
          cases hus
          have hb:bs=[]:=by simpa using hb.symm
          subst hb
          exact⟨rfl,fun z hz=>nomatch hz⟩
        | cons z zs =>
          obtain⟨b,r,h1,_⟩:=zaI hb
          obtain⟨_,_,_,h3,_⟩:=zgx h1
          rw[hp] at h3;cases h3
   split at hc
   · skip
     obtain⟨a,b,h1,h2,rfl⟩:=zgx hc
     obtain⟨p1,p2,p3⟩:=zgT hH 60 d a x h1 hd
     obtain⟨q1,q2,q3⟩:=zgT hH 60 e b y h2 he
     exact zoC (by omega) pins s σ H x y v u Qv I rx ry ⟨a,b,p1,q1,p2,q2,by omega,q⟩
   · cases hk:eqD S d e with
     |none=>rw[hk] at hc;cases hc
     | some k' =>
       rw[hk] at hc
       obtain⟨a,b,h1,h2,rfl⟩:=zgx hk
       obtain⟨p1,p2,p3⟩:=zgT hH 60 d a x h1 hd
       obtain⟨q1,q2,q3⟩:=zgT hH 60 e b y h2 he
       have hc:k = !PyData.eqv a b:=by simpa using hc.symm
       subst hc
       exact zoz (by omega) pins s σ H x y v u Qv I rx ry ⟨a,b,p1,q1,p2,q2,by omega,q⟩
   · split at hc
     · obtain rfl:y=.non:=he
       cases hc
       obtain rfl:u=Value.none:=ry
       refine is_none_gen ⟨.bl _,H,I,rfl,?_⟩
       rw[rx.none_iff,nonV hd];exact q
     · cases hc
   · split at hc
     · obtain rfl:y=.non:=he
       cases hc
       obtain rfl:u=Value.none:=ry
       refine isnot_none_gen ⟨.bl _,H,I,rfl,?_⟩
       rw[rx.none_iff,nonV hd];exact q
     · cases hc
   · cases hk:(za6 S e).bind fun ys=>inD S d ys with
     |none=>rw[hk] at hc;cases hc
     | some k' =>
       rw[hk] at hc
       have hc:k = !k':=by simpa using hc.symm
       subst hc
       obtain⟨a,xs,rfl,hq,px,hp⟩:=isin k' hk
       cases (show u=Value.ref a from ry)
       rcases hq with hq|hq
       · obtain⟨its,r,pl,hz⟩:=I.list hq
         obtain⟨h1,h2⟩:=hp its r
         exact SeqAt.notIn_listAt (eqRd s.heap px) pl.isList (fun w hw=>h2 w (by simpa using hw)) (zaw I q (by simpa using congrArg (!·) h1.symm))
       · obtain⟨its,r,pl,hz⟩:=I.tuple hq
         obtain⟨h1,h2⟩:=hp its r
         exact SeqAt.notIn_tupleAt (eqRd s.heap px) pl (fun w hw=>h2 w (by simpa using hw)) (zaw I q (by simpa using congrArg (!·) h1.symm))
   · cases hc
end
end R
end
section
namespace R
open PySem PySem.Spec PyProof.Rows L2
variable [Mks]
noncomputable def zav:Expr->Bool|.Starred _ _=>false|_=>true
noncomputable def zba:Expr->Bool|.ListComp ..=>false|.SetComp ..=>false|.DictComp ..=>false|_=>true
noncomputable def zei:Expr->Bool|.Slice ..=>false|_=>true
noncomputable def zbZ:Expr->Bool|.Set ..=>false|_=>true
noncomputable def zbe:Expr->Bool|.Call (.Name _ _) [] [] _=>false|_=>true
noncomputable def zge:Expr->Bool|.UnaryOp .Not _ _=>false|.BoolOp ..=>false|.IfExp ..=>false|.Compare ..=>false|_=>true
theorem zau {e:Expr}(h:zav e=true)(es:List Expr)(env:Env):starEach (e::es) env=(false,eval e env)::starEach es env:=by
 cases e<;>first|rfl|cases h
theorem zd4 {e:Expr}(h:zba e=true)(t:Option Expr)(l:Nat)(env:Env):swapsWith e t l env=pure false:=by
 cases e<;>first|rfl|cases h
theorem zp2 {e:Expr}(h:zei e=true):zi1 e:=by
 intro o i
 cases e<;>first|rfl|cases h
theorem zhW {e:Expr}(h:zbZ e=true)(op:CmpOp):behindInMarks op e=false:=by
 cases e<;>first|rfl|cases h
theorem zcV {e:Expr}(h:zbe e=true)(x:Str)(env:Env)(w:Sem Value):attributeBase e x env w=w:=by
 unfold attributeBase
 split
 · cases h
 · rfl
theorem znk {e:Expr}(h:zge e=true)(env:Env)(w:Sem Value):isTrue e env w=(do let v <-w;standAt e.pos;holding [v] (truthy v)):=by
 cases e with
 |UnaryOp op x p=>cases op<;>first|rfl|cases h
 |_=>first|rfl|cases h
theorem zfO {e:Expr}(h:zbZ e=true)(env:Env)(x:Value):foldedSetIterable e env x=pure x:=by
 cases e<;>first|rfl|cases h
theorem zaK {pos:Pos}{env:Env}:∀{es:List Expr},es.all zav=true->(backTo pos (starEach es env)).any (·.1)=false
 | [],_=>rfl
 | e :: es, h => by
   rw[List.all_cons,Bool.and_eq_true] at h
   rw[zau h.1]
   exact zaK (es:=es) h.2
structure Tab where
 blt:List Str
 cons:List (Str × D)
 fns:List (Str × List Str × Nat)
 cls:List Str:=[]
 flds:List Str:=[]
 mts:List (Nat × Str × Nat):=[]
 inits:List (Nat × Nat × Nat):=[]
 cms:List (Str × Str × Nat):=[]
 isas:List (Str × List Nat):=[]
noncomputable def zih (sc:Scope)(x:Str):Bool:=match sc.names.lookup x with|some .local=>true|some .cell=>true|some .free=>true|_=>false
noncomputable def zeZ (sc:Scope)(x:Str):Bool:=match sc.names.lookup x with|some .local=>true|some .cell=>true|_=>false
noncomputable def isGl (sc:Scope)(x:Str):Bool:=match sc.names.lookup x with|some .globalImplicit=>true|_=>false
noncomputable def eqC:D->D->Bool
 |.non,.non=>true|.bl a,.bl b=>a == b|.int a,.int b=>a == b|.str a,.str b=>a == b|_,_=>false
theorem zoZ:∀{d e:D},eqC d e=true->d=e:=by
 intro d e h
 cases d<;>cases e<;>first|rfl|(simp only[eqC,beq_iff_eq] at h;subst h;rfl)|cases h
noncomputable def sV:D->V
 |.non=>.non|.bl b=>.bl b|.int i=>.int i|.str x=>.str x|_=>.non
noncomputable def zlF:D->Bool
 |.non=>true|.bl _=>true|.int _=>true|.str _=>true|_=>false
theorem zpM {K:W.Frag}{ι:List Addr}{H:Hp}{d:D}(h:zlF d=true):RV K ι H d (sV d):=by
 cases d<;>first|rfl|cases h
noncomputable def conB:D->Const->Bool
 |.non,.none=>true|.bl a,.bool b=>a == b|.int a,.int b=>a == b|.str a,.str b=>a == b|_,_=>false
noncomputable def bltB (T:Tab)(sc:Scope)(x:Str):Bool:=isGl sc x&&T.blt.contains x
noncomputable def spF (K:W.Frag)(cf:CF)(f:Nat):Sp:=fun vs H Qv _=>∃ι S ds,RVs K ι H ds vs/\RH K ι H S/\W (cf f ds S) (fun d T=>∀v H' ι',Ext ι H ι' H'->RV K ι' H' d v->RH K ι' H' T->Qv v H')
structure HasM (P:Program) (w:World) (K:W.Frag) (mg:Str->Option Value) (base:Heap) (k c:Nat) (m:Str) (sp:Sp):Prop where
 ex:∃(C fa:Addr) (fd:FuncData) (ps:List Str),Mks.cl[c]?=some C/\Cls K C/\Meth K C m fa/\FnOk P w K mg base CX0 k fa fd ps sp/\Binds K fd ps []
structure HasI (P:Program) (w:World) (K:W.Frag) (mg:Str->Option Value) (base:Heap) (k c j:Nat) (sp:Sp):Prop where
 ex:∃(C fa:Addr) (fd:FuncData) (ps:List Str),Mks.cl[c]?=some C/\Mk K C fa/\FnOk P w K mg base CX0 k fa fd ps sp/\Binds K fd ps (List.replicate j Value.none)
structure HasC (P:Program) (w:World) (K:W.Frag) (mg:Str->Option Value) (base:Heap) (k:Nat) (x m:Str) (sp:Sp):Prop where
 ex:∃(C fa:Addr) (fd:FuncData) (ps:List Str) (mc:Value),mg x=some (.ref C)/\W.specialIn K (.ref C) "__getattribute__"=some (some (.builtin "type.__getattribute__"))/\W.readsIn K C mc=true/\W.findCls K (.ref C) mc m=some (.val (.ref fa))/\
  W.keepIn K (.ref fa)=true/\FnOk P w K mg base CX0 k fa fd ps sp/\Binds K fd ps []
structure IsaOk (K:W.Frag) (C:Addr):Prop where
 ha:W.findIn K (.ref C) "__class__"=some (some (.builtin "object.__class__"))
 hn:W.specialIn K (.builtin "object.__class__") "__get__"=some (some (.builtin "getset_descriptor.__get__"))
 ht:W.takesIn K (.builtin "object.__class__")=some true
 hm:W.mroIn K C (.type "object")=some true
structure TabOk (T:Tab) (cf:CF) (k:Nat) (P:Program) (w:World) (K:W.Frag) (mg:Str->Option Value) (base:Heap):Prop where
 blt:∀x,T.blt.contains x=true->mg x=none
 con:∀x d,T.cons.lookup x=some d->zlF d=true/\∃u,mg x=some u/\RelV (sV d) u
 fns:∀f x ps nd,T.fns[f]?=some (x,ps,nd)->∀j,j<=nd->Has P w K mg base k x ps (List.replicate j .non) (spF K cf f)
 frm:CFok cf
 cls:∀(c:Nat) (x:Str),T.cls[c]?=some x->∃C,Mks.cl[c]?=some C/\Cls K C/\mg x=some (.ref C)/\∀f,T.flds.contains f=true->NoAttr K C f
 mth:∀(c:Nat) (m:Str) (fi:Nat),T.mts.contains (c,m,fi)=true->HasM P w K mg base k c m (spF K cf fi)
 ini:∀(c fi j:Nat),T.inits.contains (c,fi,j)=true->HasI P w K mg base k c j (spF K cf fi)
 cmd:∀(x m:Str) (fi:Nat),T.cms.contains (x,m,fi)=true->HasC P w K mg base k x m (spF K cf fi)
 cln:(T.flds≠[]\/T.inits≠[]\/T.isas≠[])->Mks.cl.length<=T.cls.length
 isa:∀(x:Str) (cs:List Nat),T.isas.contains (x,cs)=true->∃D,mg x=some (.ref D)/\∀c C,Mks.cl[c]?=some C->IsaOk K C/\W.kitOne K (.ref C) (.ref D)=some (cs.contains c)
structure Gd (T:Tab) (cf:CF) (k:Nat) (N:List Str) (sc:Scope) (X:Cx):Prop where
 nm:X.N=N
 nd:N.Nodup
 loc:∀x,sc.names.lookup x=some .local->X.env.scope.names.lookup x=some .local
 cell:∀x,sc.names.lookup x=some .cell->X.env.scope.names.lookup x=some .cell
 free:∀x,sc.names.lookup x=some .free->X.env.scope.names.lookup x=some .free\/X.env.scope.names.lookup x=some .cell
 glob:∀x,sc.names.lookup x=some .globalImplicit->X.env.scope.names.lookup x=some .globalImplicit
 fn:(∀x,X.fn x=true)\/∀x,sc.names.lookup x≠some .cell
 calm:X.calm=true
 xe:X.xe=fun _ _=>False
 room':Room (k+1) X.A
 tab:TabOk T cf k X.prog X.w X.K X.mg X.base
section
variable {T:Tab} {cf:CF} {k:Nat} {N:List Str} {sc:Scope} {X:Cx}
theorem Gd.room (G:Gd T cf k N sc X):Room k X.A:=G.room'.mono (Nat.le_succ k)
theorem Gd.hu (G:Gd T cf k N sc X):X.A.units+128<cLine:=by have:=G.room.un;omega
theorem Gd.vis (G:Gd T cf k N sc X){x:Str}(h:zih sc x=true):Vis X.env.scope x:=by
 unfold zih at h
 split at h
 · rename_i e;exact .inl (G.loc x e)
 · rename_i e;exact .inr (.inl (G.cell x e))
 · rename_i e
   rcases G.free x e with q|q
   · exact .inr (.inr q)
   · exact .inr (.inl q)
 · cases h
theorem Gd.lc (G:Gd T cf k N sc X){x:Str}(h:zeZ sc x=true):Loc X.env.scope x/\(X.fn x=true\/X.env.scope.names.lookup x=some .local):=by
 unfold zeZ at h
 split at h
 · rename_i e;exact⟨.inl (G.loc x e),.inr (G.loc x e)⟩
 · rename_i e
   refine⟨.inr (G.cell x e),?_⟩
   rcases G.fn with q|q
   · exact .inl (q x)
   · exact absurd e (q x)
 · cases h
theorem Gd.gl (G:Gd T cf k N sc X){x:Str}(h:isGl sc x=true):Gl X x:=by
 unfold isGl at h
 split at h
 · rename_i e;exact G.glob x e
 · cases h
end
noncomputable def RS (K:W.Frag)(ι:List Addr)(H:Hp)(δ:Ev)(σ:L2.St):Prop:=δ.length=σ.length/\∀(i:Nat) (d:D),δ[i]?=some (some d)->∃v,σ[i]?=some (some v)/\RV K ι H d v
theorem RS.ext {K:W.Frag}{ι ι':List Addr}{H H':Hp}{δ:Ev}{σ:L2.St}(h:RS K ι H δ σ)(x:Ext ι H ι' H'):RS K ι' H' δ σ:=
 ⟨h.1,fun i d e=>let ⟨v,e1,r⟩:=h.2 i d e;⟨v,e1,r.ext x⟩⟩
theorem RS.set {K:W.Frag}{ι:List Addr}{H:Hp}{δ:Ev}{σ:L2.St}(h:RS K ι H δ σ){d:D}{v:V}(r:RV K ι H d v)(i:Nat):RS K ι H (δ.set i (some d)) (σ.set i (some v)):=by
 refine⟨by simp[h.1],fun j e hj=>?_⟩
 by_cases hij:i=j
 · subst hij
   have hl:i<δ.length:=by
    have:=(List.getElem?_eq_some_iff.mp hj).1
    simpa using this
   rw[List.getElem?_set_self hl] at hj
   cases hj
   exact⟨v,List.getElem?_set_self (by rw[<-h.1];exact hl),r⟩
 · rw[List.getElem?_set_ne hij] at hj
   obtain⟨v',e1,r'⟩:=h.2 j e hj
   exact⟨v',by rw[List.getElem?_set_ne hij];exact e1,r'⟩
noncomputable def tE (K:W.Frag)(cf:CF)(ce:CE):TE:=fun σ H Qv=>∃δ ι S Q,RS K ι H δ σ/\RH K ι H S/\W (evE cf ce δ S) Q/\∀v H',Lf K ι H Q v H'->Qv v H'
noncomputable def LfB (K:W.Frag)(ι:List Addr)(H:Hp)(Q:Bool->R.St->Prop):Bool->Hp->Prop:=fun b H'=>∃ι' S',Ext ι H ι' H'/\RH K ι' H' S'/\Q b S'
noncomputable def tT (K:W.Frag)(cf:CF)(ce:CE):TT:=fun σ H Qv=>∃δ ι S Q,RS K ι H δ σ/\RH K ι H S/\W (evT cf ce δ S) Q/\∀b H',LfB K ι H Q b H'->Qv b H'
noncomputable def LfA (K:W.Frag)(ι:List Addr)(H:Hp)(Q:List D->R.St->Prop):List V->Hp->Prop:=fun vs H'=>∃ds ι' S',Ext ι H ι' H'/\RVs K ι' H' ds vs/\RH K ι' H' S'/\Q ds S'
noncomputable def tAs (K:W.Frag)(cf:CF)(ces:CEs):TA:=fun σ H Qv=>∃δ ι S Q,RS K ι H δ σ/\RH K ι H S/\W (evEs cf ces δ S) Q/\∀vs H',LfA K ι H Q vs H'->Qv vs H'
inductive SqK (K:W.Frag) (ι:List Addr) (H:Hp) (S:R.St) (a:Addr) (xs:List V) (ds:List D) (lks:List Nat):Prop where
 |tmp (h:a∉ι) (e:H a=some (.lst xs)):SqK K ι H S a xs ds lks
 |tup (e:H a=some (.tup xs)):SqK K ι H S a xs ds lks
 |fix (e:FixL K H a xs):SqK K ι H S a xs ds lks
 |own (l:Nat) (hl:l∈lks) (hi:ι[l]?=some a) (hs:S.get l=some (.lst ds)) (e:H a=some (.lst xs)):SqK K ι H S a xs ds lks
noncomputable def Sq (K:W.Frag)(ι:List Addr)(H:Hp)(S:R.St)(v:V)(ds:List D)(lks:List Nat):Prop:=∃a xs,v=.ref a/\RVs K ι H ds xs/\SqK K ι H S a xs ds lks
noncomputable def LfL (K:W.Frag)(ι:List Addr)(H:Hp)(Q:List D × List Nat->R.St->Prop):VK:=fun v H'=>∃ds lks ι' S',Ext ι H ι' H'/\Sq K ι' H' S' v ds lks/\RH K ι' H' S'/\Q (ds,lks) S'
noncomputable def tL (K:W.Frag)(cf:CF)(cl:CL):TE:=fun σ H Qv=>∃δ ι S Q,RS K ι H δ σ/\RH K ι H S/\W (evL cf cl δ S) Q/\∀v H',LfL K ι H Q v H'->Qv v H'
noncomputable def LfT (K:W.Frag)(ι:List Addr)(H:Hp)(Q:List D × List Nat->R.St->Prop):VK:=fun v H'=>∃ds ι' S' a xs,Ext ι H ι' H'/\v=.ref a/\RVs K ι' H' ds xs/\a∉ι'/\H' a=some (.lst xs)/\RH K ι' H' S'/\H a=none/\Q (ds,[]) S'
noncomputable def tLt (K:W.Frag)(cf:CF)(cl:CL):TE:=fun σ H Qv=>∃δ ι S Q,RS K ι H δ σ/\RH K ι H S/\W (evL cf cl δ S) Q/\∀v H',LfT K ι H Q v H'->Qv v H'
theorem LfT.l {K:W.Frag}{ι:List Addr}{H:Hp}{Q:List D × List Nat->R.St->Prop}{v:V}{H':Hp}(h:LfT K ι H Q v H'):LfL K ι H Q v H':=by
 obtain⟨ds,ι',S',a,xs,x,rfl,r,ha,e,hh,_,q⟩:=h
 exact⟨ds,[],ι',S',x,⟨a,xs,rfl,r,.tmp ha e⟩,hh,q⟩
theorem PE.imp {X:Cx}{e:Expr}{t t':TE}(h:PE X e t)(i:∀σ H Q,t' σ H Q->t σ H Q):PE X e t':=fun pins s σ H Q I q=>h pins s σ H Q I (i σ H Q q)
theorem PT.imp {X:Cx}{e:Expr}{t t':TT}(h:PT X e t)(i:∀σ H Q,t' σ H Q->t σ H Q):PT X e t':=fun pins s σ H Q I q=>h pins s σ H Q I (i σ H Q q)
theorem PW.imp {X:Cx}{e:Expr}{t t':TT}(h:PW X e t)(i:∀σ H Q,t' σ H Q->t σ H Q):PW X e t':=fun wh pins s σ H Q I q=>h wh pins s σ H Q I (i σ H Q q)
theorem PA.imp {X:Cx}{es:List Expr}{t t':TA}(h:PA X es t)(i:∀σ H Q,t' σ H Q->t σ H Q):PA X es t':=fun pos pins s σ H Q I q=>h pos pins s σ H Q I (i σ H Q q)
theorem tE.run {K:W.Frag}{cf:CF}{a:CE}{δ:Ev}{σ:L2.St}{ι:List Addr}{H:Hp}{S:R.St}{Q:D->R.St->Prop}{Qv:VK}(hs:RS K ι H δ σ)(hh:RH K ι H S)(w:W (evE cf a δ S) Q)
  (h:∀d v ι' H' S',Ext ι H ι' H'->RS K ι' H' δ σ->RH K ι' H' S'->RV K ι' H' d v->Q d S'->Qv v H'):tE K cf a σ H Qv:=
 ⟨δ,ι,S,Q,hs,hh,w,fun v H' ⟨d,ι',S',x,r,hh',q⟩=>h d v ι' H' S' x (hs.ext x) hh' r q⟩
theorem tT.run {K:W.Frag}{cf:CF}{a:CE}{δ:Ev}{σ:L2.St}{ι:List Addr}{H:Hp}{S:R.St}{Q:Bool->R.St->Prop}{Qv:Bool->Hp->Prop}(hs:RS K ι H δ σ)(hh:RH K ι H S)(w:W (evT cf a δ S) Q)
  (h:∀b ι' H' S',Ext ι H ι' H'->RS K ι' H' δ σ->RH K ι' H' S'->Q b S'->Qv b H'):tT K cf a σ H Qv:=
 ⟨δ,ι,S,Q,hs,hh,w,fun b H' ⟨ι',S',x,hh',q⟩=>h b ι' H' S' x (hs.ext x) hh' q⟩
theorem tAs.run {K:W.Frag}{cf:CF}{a:CEs}{δ:Ev}{σ:L2.St}{ι:List Addr}{H:Hp}{S:R.St}{Q:List D->R.St->Prop}{Qv:List V->Hp->Prop}(hs:RS K ι H δ σ)(hh:RH K ι H S)(w:W (evEs cf a δ S) Q)
  (h:∀ds vs ι' H' S',Ext ι H ι' H'->RS K ι' H' δ σ->RH K ι' H' S'->RVs K ι' H' ds vs->Q ds S'->Qv vs H'):tAs K cf a σ H Qv:=
 ⟨δ,ι,S,Q,hs,hh,w,fun v H' ⟨d,ι',S',x,r,hh',q⟩=>h d v ι' H' S' x (hs.ext x) hh' r q⟩
theorem PE.ofT {X:Cx}{e:Expr}{cf:CF}{cl:CL}(h:PE X e (tLt X.K cf cl)):PE X e (tL X.K cf cl):=
 PE.imp h fun σ H Qv ⟨δ,ι,S,Q,hs,hh,w,q⟩=>⟨δ,ι,S,Q,hs,hh,w,fun v H' l=>q v H' l.l⟩
theorem tLt.run {K:W.Frag}{cf:CF}{a:CL}{δ:Ev}{σ:L2.St}{ι:List Addr}{H:Hp}{S:R.St}{Q:List D × List Nat->R.St->Prop}{Qv:VK}(hs:RS K ι H δ σ)(hh:RH K ι H S)(w:W (evL cf a δ S) Q)
  (h:∀ds p xs ι' H' S',Ext ι H ι' H'->RS K ι' H' δ σ->RH K ι' H' S'->RVs K ι' H' ds xs->p∉ι'->H' p=some (.lst xs)->H p=none->Q (ds,[]) S'->Qv (.ref p) H'):tLt K cf a σ H Qv:=
 ⟨δ,ι,S,Q,hs,hh,w,fun v H' ⟨ds,ι',S',p,xs,x,e,r,hp,hx,hh',hn,q⟩=>e▸h ds p xs ι' H' S' x (hs.ext x) hh' r hp hx hn q⟩
theorem tL.run {K:W.Frag}{cf:CF}{a:CL}{δ:Ev}{σ:L2.St}{ι:List Addr}{H:Hp}{S:R.St}{Q:List D × List Nat->R.St->Prop}{Qv:VK}(hs:RS K ι H δ σ)(hh:RH K ι H S)(w:W (evL cf a δ S) Q)
  (h:∀ds lks v ι' H' S',Ext ι H ι' H'->RS K ι' H' δ σ->RH K ι' H' S'->Sq K ι' H' S' v ds lks->Q (ds,lks) S'->Qv v H'):tL K cf a σ H Qv:=
 ⟨δ,ι,S,Q,hs,hh,w,fun v H' ⟨ds,lks,ι',S',x,r,hh',q⟩=>h ds lks v ι' H' S' x (hs.ext x) hh' r q⟩
end R
end
section
namespace R
open PySem PySem.Spec PyProof.Rows L2
variable [Mks]
section
variable {T:Tab} {cf:CF} {k:Nat} {N:List Str} {sc:Scope} {X:Cx} {pos:Pos}
theorem zdC {α:Type}{o:Out α}{Q:α->R.St->Prop}(h:W o Q):∃a S,o=.ok a S/\Q a S:=W.iff.mp h
theorem zaW {α:Type}{S:R.St}{o:Option α}{Q:α->R.St->Prop}(h:W (lift S o) Q):∃a,o=some a/\Q a S:=by
 cases o with
 |none=>exact h.elim
 |some a=>exact⟨a,rfl,h⟩
theorem zkE (G:Gd T cf k N sc X){i:Nat}{x:Str}(h1:N[i]?=some x)(h2:zih sc x=true)(h3:(x == ("__debug__":Str))=false)(h4:(x == ("__classdict__":Str))=false):PE X (.Name x pos) (tE X.K cf (.loc i)):=by
 refine PE.imp (zbA (i:=i) (by rw[G.nm];exact h1) (G.vis h2) h3 h4) fun σ H Qv ⟨δ,ι,S,Q,hs,hh,w,q⟩=>?_
 simp only[evE] at w
 obtain⟨d,e,hq⟩:=zaW w
 have e':δ[i]?=some (some d):=by
  cases z:δ[i]? with
  |none=>rw[z] at e;cases e
  |some o=>rw[z] at e;simp at e;rw[e]
 obtain⟨v,ev,r⟩:=hs.2 i d e'
 exact⟨v,ev,q v H (Lf.of hh r hq)⟩
theorem znO {d:D}{c:Const}{j:Nat}(h:conB d c=true):PE X (.Constant c j pos) (tE X.K cf (.con d)):=by
 have key:∀{v:V},PE X (.Constant c j pos) (tC v)->(∀K ι H,RV K ι H d v)->PE X (.Constant c j pos) (tE X.K cf (.con d)):=fun {v} hp hr=>
  PE.imp hp fun σ H Qv ⟨δ,ι,S,Q,hs,hh,w,q⟩=>q v H (Lf.of hh (hr _ _ _) (by simpa[evE] using w))
 cases d<;>cases c<;>first
  |exact key zkM fun _ _ _=>rfl
  |cases h
  |(simp only[conB,beq_iff_eq] at h;subst h;exact key zhO fun _ _ _=>rfl)
  |(simp only[conB,beq_iff_eq] at h;subst h;exact key zpT fun _ _ _=>rfl)
  |(simp only[conB,beq_iff_eq] at h;subst h;exact key zoi fun _ _ _=>rfl)
theorem zlD (G:Gd T cf k N sc X){d d':D}{x:Str}(h1:isGl sc x=true)(h2:T.cons.lookup x=some d')(h3:eqC d' d=true)(h4:(x == ("__debug__":Str))=false):PE X (.Name x pos) (tE X.K cf (.con d)):=by
 have e:=zoZ h3
 subst e
 obtain⟨hsc,u,hu,r⟩:=G.tab.con x d' h2
 exact PE.imp (zfB (G.gl h1) hu r h4) fun σ H Qv ⟨δ,ι,S,Q,hs,hh,w,q⟩=>q (sV d') H (Lf.of hh (zpM hsc) (by simpa[evE] using w))
theorem znR {ca cb:CE}{a b:Expr}{op:Operator}(ha:PE X a (tE X.K cf ca))(hb:PE X b (tE X.K cf cb)):PE X (.BinOp a op b pos) (tE X.K cf (.bin op ca cb)):=by
 refine PE.imp (zok (zpf op) ha hb) fun σ H Qv ⟨δ,ι,S,Q,hs,hh,w,q⟩=>?_
 simp only[evE,zac] at w
 refine tE.run hs hh w fun d v ι1 H1 S1 x1 hs1 hh1 r1 w1=>tE.run hs1 hh1 w1 fun e u ι2 H2 S2 x2 hs2 hh2 r2 w2=>?_
 exact⟨ι2,S2,d,e,Q,r1.ext x2,r2,hh2,w2,fun z H3 l=>q z H3 (Lf.up (x1.trans x2) l)⟩
theorem znG {ca:CE}{a:Expr}(ha:PE X a (tE X.K cf ca)):PE X (.UnaryOp .USub a pos) (tE X.K cf (.neg ca)):=by
 refine PE.imp (zpQ zng ha) fun σ H Qv ⟨δ,ι,S,Q,hs,hh,w,q⟩=>?_
 simp only[evE,zac] at w
 refine tE.run hs hh w fun d v ι1 H1 S1 x1 hs1 hh1 r1 w1=>?_
 cases d with
 | int i =>
   obtain rfl:v=.int i:=r1
   exact⟨i,rfl,q _ _ (Lf.up x1 (Lf.of (d:=.int (-i)) hh1 rfl w1))⟩
 |_=>exact w1.elim
theorem zpH {ca:CE}{a:Expr}(ha:PE X a (tE X.K cf ca)):PE X (.UnaryOp .Not a pos) (tE X.K cf (.nt ca)):=by
 refine PE.imp (zol ha) fun σ H Qv ⟨δ,ι,S,Q,hs,hh,w,q⟩=>?_
 simp only[evE,zac] at w
 refine tE.run hs hh w fun d v ι1 H1 S1 x1 hs1 hh1 r1 w1=>?_
 cases d with
 | bl i =>
   obtain rfl:v=.bl i:=r1
   exact⟨i,rfl,q _ _ (Lf.up x1 (Lf.of (d:=.bl (!i)) hh1 rfl w1))⟩
 |_=>exact w1.elim
theorem znP (G:Gd T cf k N sc X){ca cb:CE}{a b:Expr}{op:CmpOp}(ha:PE X a (tE X.K cf ca))(hb:PE X b (tE X.K cf cb))(hm:zbZ b=true):PE X (.Compare a [op] [b] pos) (tE X.K cf (.cmp op ca cb)):=by
 refine PE.imp (zl9 (zkX G.hu op) ha hb (zhW hm op)) fun σ H Qv ⟨δ,ι,S,Q,hs,hh,w,q⟩=>?_
 simp only[evE,zac] at w
 refine tE.run hs hh w fun d v ι1 H1 S1 x1 hs1 hh1 r1 w1=>tE.run hs1 hh1 w1 fun e u ι2 H2 S2 x2 hs2 hh2 r2 w2=>?_
 obtain⟨b,hb,w3⟩:=zaW w2
 exact⟨ι2,S2,d,e,b,r1.ext x2,r2,hh2,hb,q _ _ (Lf.up (x1.trans x2) (Lf.of (d:=.bl b) hh2 rfl w3))⟩
theorem znw (G:Gd T cf k N sc X){ca cb:CE}{a b:Expr}{op:CmpOp}(ha:PE X a (tE X.K cf ca))(hb:PE X b (tE X.K cf cb))(hm:zbZ b=true):PT X (.Compare a [op] [b] pos) (tT X.K cf (.cmp op ca cb)):=by
 refine PT.imp (zhF (zkX G.hu op) ha hb (zhW hm op)) fun σ H Qv ⟨δ,ι,S,Q,hs,hh,w,q⟩=>?_
 simp only[evT,zac] at w
 refine tE.run hs hh w fun d v ι1 H1 S1 x1 hs1 hh1 r1 w1=>tE.run hs1 hh1 w1 fun e u ι2 H2 S2 x2 hs2 hh2 r2 w2=>?_
 obtain⟨b,hb,w3⟩:=zaW w2
 exact⟨ι2,S2,d,e,b,r1.ext x2,r2,hh2,hb,b,rfl,q _ _ ⟨ι2,S2,x1.trans x2,hh2,w3⟩⟩
theorem zkF {ca cb:CE}{a b:Expr}{rest:List Expr}(ha:PE X a (tE X.K cf ca))(hb:PE X (.BoolOp .And (b::rest) pos) (tE X.K cf cb)):PE X (.BoolOp .And (a::b::rest) pos) (tE X.K cf (.and ca cb)):=by
 refine PE.imp (zos ha hb) fun σ H Qv ⟨δ,ι,S,Q,hs,hh,w,q⟩=>?_
 simp only[evE,zac] at w
 refine tE.run hs hh w fun d v ι1 H1 S1 x1 hs1 hh1 r1 w1=>?_
 cases d with
 | bl c =>
   obtain rfl:v=.bl c:=r1
   refine⟨c,rfl,?_⟩
   cases c with
   |false=>exact q _ _ (Lf.up x1 (Lf.of (d:=.bl false) hh1 rfl w1))
   |true=>exact⟨δ,ι1,S1,Q,hs1,hh1,w1,fun z H3 l=>q z H3 (Lf.up x1 l)⟩
 |_=>exact w1.elim
theorem znF {ca cb:CE}{a b:Expr}{rest:List Expr}(ha:PE X a (tE X.K cf ca))(hb:PE X (.BoolOp .Or (b::rest) pos) (tE X.K cf cb)):PE X (.BoolOp .Or (a::b::rest) pos) (tE X.K cf (.or ca cb)):=by
 refine PE.imp (zpR ha hb) fun σ H Qv ⟨δ,ι,S,Q,hs,hh,w,q⟩=>?_
 simp only[evE,zac] at w
 refine tE.run hs hh w fun d v ι1 H1 S1 x1 hs1 hh1 r1 w1=>?_
 cases d with
 | bl c =>
   obtain rfl:v=.bl c:=r1
   refine⟨c,rfl,?_⟩
   cases c with
   |true=>exact q _ _ (Lf.up x1 (Lf.of (d:=.bl true) hh1 rfl w1))
   |false=>exact⟨δ,ι1,S1,Q,hs1,hh1,w1,fun z H3 l=>q z H3 (Lf.up x1 l)⟩
 |_=>exact w1.elim
theorem LfB.up {K:W.Frag}{ι ι':List Addr}{H H':Hp}{Q:Bool->R.St->Prop}{b:Bool}{H2:Hp}(x:Ext ι H ι' H')(h:LfB K ι' H' Q b H2):LfB K ι H Q b H2:=by
 obtain⟨ι2,S2,x2,r⟩:=h
 exact⟨ι2,S2,x.trans x2,r⟩
theorem zkA {ca cb:CE}{a b:Expr}{rest:List Expr}(ha:PT X a (tT X.K cf ca))(hb:PW X (.BoolOp .And (b::rest) pos) (tT X.K cf cb)):PW X (.BoolOp .And (a::b::rest) pos) (tT X.K cf (.and ca cb)):=by
 refine PW.imp (zoa ha hb) fun σ H Qv ⟨δ,ι,S,Q,hs,hh,w,q⟩=>?_
 simp only[evT,zac] at w
 refine tT.run hs hh w fun c ι1 H1 S1 x1 hs1 hh1 w1=>?_
 cases c with
 |false=>exact q _ _ ⟨ι1,S1,x1,hh1,w1⟩
 |true=>exact⟨δ,ι1,S1,Q,hs1,hh1,w1,fun z H3 l=>q z H3 (LfB.up x1 l)⟩
theorem znv {ca cb:CE}{a b:Expr}{rest:List Expr}(ha:PT X a (tT X.K cf ca))(hb:PW X (.BoolOp .Or (b::rest) pos) (tT X.K cf cb)):PW X (.BoolOp .Or (a::b::rest) pos) (tT X.K cf (.or ca cb)):=by
 refine PW.imp (zpP ha hb) fun σ H Qv ⟨δ,ι,S,Q,hs,hh,w,q⟩=>?_
 simp only[evT,zac] at w
 refine tT.run hs hh w fun c ι1 H1 S1 x1 hs1 hh1 w1=>?_
 cases c with
 |true=>exact q _ _ ⟨ι1,S1,x1,hh1,w1⟩
 |false=>exact⟨δ,ι1,S1,Q,hs1,hh1,w1,fun z H3 l=>q z H3 (LfB.up x1 l)⟩
theorem zpE {ca:CE}{a:Expr}(ha:PT X a (tT X.K cf ca)):PT X (.UnaryOp .Not a pos) (tT X.K cf (.nt ca)):=by
 refine PT.imp (zob ha) fun σ H Qv ⟨δ,ι,S,Q,hs,hh,w,q⟩=>?_
 simp only[evT,zac] at w
 exact tT.run hs hh w fun c ι1 H1 S1 x1 hs1 hh1 w1=>q _ _ ⟨ι1,S1,x1,hh1,w1⟩
theorem znl {ι:List Addr}{H:Hp}{S:R.St}{d:D}{v:V}{b:Bool}(hh:RH X.K ι H S)(r:RV X.K ι H d v)(h:tru S d=some b):TruV X.K v H b:=by
 cases d with
 |non=>obtain rfl:v=.non:=r;cases h;rfl
 |bl c=>obtain rfl:v=.bl c:=r;cases h;rfl
 |int i=>obtain rfl:v=.int i:=r;cases h;rfl
 | tup ds =>
   obtain⟨a,xs,rfl,ha,rr⟩:=r
   cases h
   refine .inr (.inl ⟨xs,SqT.of ha,?_⟩)
   have:=rr.length
   cases ds<;>cases xs<;>first|rfl|simp at this
 | ref l =>
   simp only[tru] at h
   split at h
   · rename_i ds e
     cases h
     obtain⟨a,h1,rfl⟩:=r
     obtain⟨a2,h2,xs,ha,rr⟩:=hh.obj _ _ e
     rw[h1] at h2;cases h2
     refine .inl ⟨xs,SqL.of ha,?_⟩
     have:=rr.length
     cases ds<;>cases xs<;>first|rfl|simp at this
   · cases h
 |_=>cases h
theorem znu {ca:CE}{a:Expr}(ha:PE X a (tE X.K cf ca))(hp:zge a=true):PT X a (tT X.K cf (.tst ca)):=by
 refine PT.imp (zjr ha (znk hp X.env)) fun σ H Qv ⟨δ,ι,S,Q,hs,hh,w,q⟩=>?_
 simp only[evT,zac] at w
 refine tE.run hs hh w fun d v ι1 H1 S1 x1 hs1 hh1 r1 w1=>?_
 obtain⟨b,hb,w2⟩:=zaW w1
 exact⟨b,znl hh1 r1 hb,q _ _ ⟨ι1,S1,x1,hh1,w2⟩⟩
theorem znK {cc ca cb:CE}{c a b:Expr}(hc:PT X c (tT X.K cf cc))(ha:PE X a (tE X.K cf ca))(hb:PE X b (tE X.K cf cb)):PE X (.IfExp c a b pos) (tE X.K cf (.ite cc ca cb)):=by
 refine PE.imp (zjE hc ha hb) fun σ H Qv ⟨δ,ι,S,Q,hs,hh,w,q⟩=>?_
 simp only[evE,zac] at w
 refine tT.run hs hh w fun c ι1 H1 S1 x1 hs1 hh1 w1=>?_
 cases c with
 |true=>exact⟨δ,ι1,S1,Q,hs1,hh1,w1,fun z H3 l=>q z H3 (Lf.up x1 l)⟩
 |false=>exact⟨δ,ι1,S1,Q,hs1,hh1,w1,fun z H3 l=>q z H3 (Lf.up x1 l)⟩
theorem zkG:PA X [] (tAs X.K cf .nil):=PA.imp zdH fun σ H Qv ⟨δ,ι,S,Q,hs,hh,w,q⟩=>q [] H ⟨[],ι,S,Ext.refl _ _,rfl,hh,by simpa[evEs] using w⟩
theorem zhr {ce:CE}{ces:CEs}{e:Expr}{es:List Expr}(he:PE X e (tE X.K cf ce))(hes:PA X es (tAs X.K cf ces))(hn:zav e=true):PA X (e::es) (tAs X.K cf (.cons ce ces)):=by
 refine PA.imp (za4 he hes (zau hn es X.env)) fun σ H Qv ⟨δ,ι,S,Q,hs,hh,w,q⟩=>?_
 simp only[evEs,zac] at w
 refine tE.run hs hh w fun d v ι1 H1 S1 x1 hs1 hh1 r1 w1=>tAs.run hs1 hh1 w1 fun ds vs ι2 H2 S2 x2 hs2 hh2 r2 w2=>?_
 exact q _ _ ⟨d::ds,ι2,S2,x1.trans x2,⟨v,vs,rfl,r1.ext x2,r2⟩,hh2,w2⟩
theorem znD {ces:CEs}{es:List Expr}{j:Nat}(h:PA X es (tAs X.K cf ces)):PE X (.Tuple es j pos) (tE X.K cf (.tup ces)):=by
 refine PE.imp (zkK h) fun σ H Qv ⟨δ,ι,S,Q,hs,hh,w,q⟩=>?_
 simp only[evE,zac] at w
 refine tAs.run hs hh w fun ds vs ι1 H1 S1 x1 hs1 hh1 r1 w1=>?_
 split at w1
 · rename_i c
   exact⟨by rw[r1.length,sizeLine_eq];exact c,fun p hp=>q _ _ (Lf.up x1 (Lf.tup hh1 hp r1 w1))⟩
 · exact w1.elim
theorem znJ {ces:CEs}{es:List Expr}(h:PA X es (tAs X.K cf ces)):PE X (.List es pos) (tE X.K cf (.lst ces)):=by
 refine PE.imp (zom h) fun σ H Qv ⟨δ,ι,S,Q,hs,hh,w,q⟩=>?_
 simp only[evE,zac] at w
 refine tAs.run hs hh w fun ds vs ι1 H1 S1 x1 hs1 hh1 r1 w1=>?_
 obtain⟨c,w2⟩:=zcH w1
 exact⟨by rw[r1.length];exact c,fun p hp=>q _ _ (Lf.up x1 (Lf.lst hh1 hp r1 w2))⟩
theorem zp1 {ι:List Addr}{H:Hp}{S:R.St}{d:D}{v:V}{ds:List D}{i:Int}{e:D}(hh:RH X.K ι H S)(r:RV X.K ι H d v)(hq:za6 S d=some ds)(ha:R.atI ds i=some e):∃u,rIx X.K v (.int i) H (fun z H'=>z=u/\H'=H)/\RV X.K ι H e u:=by
 obtain⟨a,xs,rfl,hx,rr⟩:=zkC hh hq r
 have hl:=rr.length
 have key:∃u,L2.atI xs i=some u/\RV X.K ι H e u:=by
  unfold R.atI at ha
  cases e1:R.ixN ds.length i with
  |none=>rw[e1] at ha;cases ha
  | some j =>
    rw[e1] at ha
    obtain⟨u,h1,h2⟩:=rr.get (show ds[j]?=some e from ha)
    refine⟨u,?_,h2⟩
    unfold L2.atI
    have:L2.ixN xs.length i=some j:=by rw[hl];exact e1
    rw[this];exact h1
 obtain⟨u,h1,h2⟩:=key
 refine⟨u,?_,h2⟩
 rcases hx with hx|hx
 · exact .inl ⟨a,xs,i,u,rfl,rfl,hx,h1,rfl,rfl⟩
 · exact .inr (.inl ⟨a,xs,i,u,rfl,rfl,hx,h1,rfl,rfl⟩)
theorem zlQ {K:W.Frag}{x y u:V}{H:Hp}{Q:VK}(h:rIx K x y H (fun z H'=>z=u/\H'=H))(q:Q u H):rIx K x y H Q:=by
 rcases h with ⟨p,xs,i,v,h1,h2,h3,h4,rfl,_⟩|⟨p,xs,i,v,h1,h2,h3,h4,rfl,_⟩|⟨z,i,c,h1,h2,h3,h4,h5,_⟩
 · exact .inl ⟨p,xs,i,v,h1,h2,h3,h4,q⟩
 · exact .inr (.inl ⟨p,xs,i,v,h1,h2,h3,h4,q⟩)
 · exact .inr (.inr ⟨z,i,c,h1,h2,h3,h4,by rw[h5];exact q⟩)
theorem zpK {ca cb:CE}{a b:Expr}(ha:PE X a (tE X.K cf ca))(hb:PE X b (tE X.K cf cb))(hp:zei b=true):PE X (.Subscript a b pos) (tE X.K cf (.ix ca cb)):=by
 refine PE.imp (zpS zoR ha hb (zp2 hp)) fun σ H Qv ⟨δ,ι,S,Q,hs,hh,w,q⟩=>?_
 simp only[evE,zac] at w
 refine tE.run hs hh w fun d v ι1 H1 S1 x1 hs1 hh1 r1 w1=>tE.run hs1 hh1 w1 fun e u ι2 H2 S2 x2 hs2 hh2 r2 w2=>?_
 split at w2
 · rename_i ds i eq
   obtain⟨z,hz,w3⟩:=zaW w2
   obtain rfl:u=.int i:=r2
   obtain⟨u,h1,h2⟩:=zp1 hh2 (r1.ext x2) eq hz
   exact zlQ h1 (q _ _ (Lf.up (x1.trans x2) (Lf.of hh2 h2 w3)))
 · exact w2.elim
end
end R
end
section
namespace R
open PySem PySem.Spec PyProof.Rows L2
variable [Mks]
section
variable {K:W.Frag} {ι ι':List Addr} {H H':Hp} {S T:R.St} {d:D} {v:V}
theorem zmC {l:Nat}{o:MO}(hf:T.frz=S.frz++S.new)(h:S.get l=some o):T.get l=some o:=by
 obtain⟨f,n,k⟩:=T
 have hf:f=S.frz++S.new:=hf
 subst hf
 exact zmA h n k
theorem RH.cut (hh:RH K ι H S)(x:Ext ι H ι' H')(hT:RH K ι' H' T)(hf:T.frz=S.frz++S.new):RH K ι H' S:=by
 refine⟨hh.len,hh.nd,fun l o e=>?_,hT.tab⟩
 obtain⟨a,h1,h2⟩:=hh.obj l o e
 obtain⟨b,h3,h4⟩:=hT.obj l o (zmC hf e)
 rw[zbz x.pre h1] at h3;cases h3
 refine⟨a,h1,?_⟩
 cases o with
 | lst ds =>
   obtain⟨xs,_,r1⟩:=h2
   obtain⟨ys,e2,r2⟩:=h4
   exact⟨ys,e2,r2.restrict x.pre r1.flats⟩
 | ins c fs =>
   obtain⟨_,_,ws,_,_,r1⟩:=h2
   obtain⟨C,dx,ys,e0,e2,r2⟩:=h4
   exact⟨C,dx,ys,e0,e2,r2.restrict x.pre r1.flats⟩
 | d3 kvs =>
   obtain⟨_,ws,_,r1⟩:=h2
   obtain⟨nd,ys,e2,r2⟩:=h4
   exact⟨nd,ys,e2,r2.restrict x.pre r1.flats⟩
theorem Ext.cut (x:Ext ι H ι' H'):Ext ι H ι H':=⟨List.prefix_refl _,x.kp,fun a o h e=>⟨(x.rest a o h e).1,h⟩⟩
theorem zfy {l:Nat}{a:Addr}(hp:ι <+: ι')(nd:ι'.Nodup)(hl:ι'[l]?=some a)(h:ι.length<=l):a∉ι:=fun hm=>by
 obtain⟨t,rfl⟩:=hp
 rw[List.getElem?_append_right h] at hl
 have h2:=List.mem_of_getElem? hl
 exact (List.nodup_append.mp nd).2.2 a hm a h2 rfl
theorem zmH {l:Nat}{a:Addr}(x:Ext ι H ι' H')(nd:ι'.Nodup)(hl:ι'[l]?=some a)(h:ι.length<=l):Ext ι H (ι++[a]) H':=by
 refine⟨List.prefix_append _ _,x.kp,fun b o hb e=>⟨(x.rest b o hb e).1,fun z=>?_⟩⟩
 rcases List.mem_append.mp z with z|z
 · exact hb z
 · simp at z
   subst z
   exact (x.rest b o hb e).2 (List.mem_of_getElem? hl)
theorem RH.one {l:Nat}{a:Addr}{o:MO}(hh:RH K ι H' S)(nd:a∉ι)(ho:RO K (ι++[a]) H' a o):RH K (ι++[a]) H' (S.push o):=by
 refine⟨by rw[List.length_append,hh.len,zbO];rfl,?_,fun l o' e=>?_,hh.tab⟩
 · rw[List.nodup_append]
   refine⟨hh.nd,by simp,fun b hb c hc=>?_⟩
   simp at hc;subst hc
   exact fun z=>nd (z▸hb)
 · by_cases hl:l<S.len
   · rw[zb8 hl] at e
     obtain⟨b,h1,h2⟩:=hh.obj l o' e
     exact⟨b,zbz (List.prefix_append _ _) h1,h2.up (List.prefix_append _ _) (Kp.refl _) rfl⟩
   · have hl2:=zar e
     rw[zbO] at hl2
     have:l=S.len:=by omega
     subst this
     rw[zeq] at e;cases e
     exact⟨a,by rw[<-hh.len];simp,ho⟩
theorem RH.keep (hT:RH K ι' H' T)(hf:T.frz=S.frz++S.new):RH K ι' H' ⟨S.frz,S.new++T.new,S.lk⟩:=by
 have hg:∀l,(R.St.mk S.frz (S.new++T.new) S.lk).get l=T.get l:=fun l=>by
  unfold St.get
  rw[hf]
  simp only[List.length_append]
  by_cases h1:l<S.frz.length
  · rw[if_pos h1,if_pos (by omega),List.getElem?_append_left h1]
  · by_cases h2:l<S.frz.length+S.new.length
    · rw[if_neg h1,if_pos h2,List.getElem?_append_left (by omega),List.getElem?_append_right (by omega)]
    · rw[if_neg h1,if_neg h2,List.getElem?_append_right (by omega)]
      congr 1;omega
 refine⟨?_,hT.nd,fun l o e=>hT.obj l o (by rw[<-hg];exact e),hT.tab⟩
 rw[hT.len]
 unfold St.len
 rw[hf]
 simp only[List.length_append]
 omega
theorem zgp {Q:D->R.St->Prop}(hh:RH K ι H S)(x:Ext ι H ι' H')(r:RV K ι' H' d v)(hT:RH K ι' H' T)(hf:T.frz=S.frz++S.new)(w:W (zcj S d T) Q):Lf K ι H Q v H':=by
 have hc:=hh.cut x hT hf
 unfold zcj at w
 split at w
 · rename_i c
   rw[<-hh.len] at c
   exact⟨d,ι,S,x.cut,r.restrict x.pre c,hc,w⟩
 · rename_i c
   dsimp only at w
   split at w
   · rename_i l
     obtain⟨a,h1,rfl⟩:=id r
     have hl:ι.length<=l:=by
      simp only[R.flat,decide_eq_true_eq] at c
      rw[hh.len];omega
     have ha:=zfy x.pre hT.nd h1 hl
     split at w
     · rename_i ds e
       obtain⟨b,h2,h3⟩:=hT.obj l _ e
       rw[h1] at h2;cases h2
       split at w
       · rename_i c2
         rw[<-hh.len] at c2
         obtain⟨ys,e2,r2⟩:=h3
         refine⟨.ref S.len,ι++[a],S.push (.lst ds),zmH x hT.nd h1 hl,⟨a,by rw[<-hh.len];simp,rfl⟩,hc.one (l:=l) ha ⟨ys,e2,(r2.restrict x.pre c2).up (List.prefix_append _ _) (Kp.refl _)⟩,w⟩
       · exact⟨_,ι',_,x,r,hT.keep hf,w⟩
     · exact⟨_,ι',_,x,r,hT.keep hf,w⟩
   · exact⟨_,ι',_,x,r,hT.keep hf,w⟩
theorem zh9 {Q:List D->R.St->Prop}(hh:RH K ι H S)(x:Ext ι H ι' H')(r:RV K ι' H' d v)(hT:RH K ι' H' T)(hf:T.frz=S.frz++S.new)(w:W (zc9 S d T) Q):∃ds a xs,Ext ι H ι H'/\RH K ι H' S/\v=.ref a/\RVs K ι H' ds xs/\a∉ι/\H' a=some (.lst xs)/\H a=none/\Q ds S:=by
 have hc:=hh.cut x hT hf
 unfold zc9 at w
 cases d with
 | ref l =>
   dsimp only at w
   split at w
   · exact w.elim
   · rename_i c
     obtain⟨a,h1,rfl⟩:=r
     have hl:ι.length<=l:=by rw[hh.len];omega
     have ha:=zfy x.pre hT.nd h1 hl
     cases e:T.get l with
     |none=>rw[e] at w;exact w.elim
     | some o =>
       rw[e] at w
       obtain⟨b,h2,h3⟩:=hT.obj l o e
       rw[h1] at h2;cases h2
       cases o with
       | lst ds =>
         dsimp only at w
         split at w
         · rename_i c2
           rw[<-hh.len] at c2
           obtain⟨ys,e2,r2⟩:=h3
           refine⟨ds,a,ys,x.cut,hc,rfl,r2.restrict x.pre c2,ha,e2,?_,w⟩
           cases eh:H a with
           |none=>rfl
           |some o=>exact absurd (List.mem_of_getElem? h1) (x.rest a o ha eh).2
         · exact w.elim
       |_=>exact w.elim
 |_=>exact w.elim
end
section
variable {T:Tab} {cf:CF} {k:Nat} {N:List Str} {sc:Scope} {X:Cx} {pos p:Pos}
theorem RVs.nons {K:W.Frag}{ι:List Addr}{H:Hp}:∀j:Nat,RVs K ι H (List.replicate j .non) (List.replicate j .non)
 |0=>rfl
 |j+1=>⟨.non,List.replicate j .non,rfl,rfl,RVs.nons j⟩
theorem RH.enter {K:W.Frag}{ι:List Addr}{H:Hp}{S:R.St}(h:RH K ι H S):RH K ι H S.enter:=⟨by rw[enter_len];exact h.len,h.nd,fun l o e=>h.obj l o (by rw[zaG] at e;exact e),h.tab⟩
theorem ziT {f j:Nat}{ces:CEs}{σ:L2.St}{H:Hp}{Qv:VK}(hfr:CFok cf)(h:tE X.K cf (.call f j ces) σ H Qv) :
  zdu (spF X.K cf f) (List.replicate j .non) E0 (tAs X.K cf ces) σ H Qv:=by
 obtain⟨δ,ι,S,Q,hs,hh,w,q⟩:=h
 simp only[evE,zac] at w
 refine tAs.run hs hh w fun ds vs ι1 H1 S1 x1 hs1 hh1 r1 w1=>?_
 unfold app at w1
 rw[zac] at w1
 refine⟨ι1,S1.enter,ds++List.replicate j .non,r1.append (RVs.nons j),hh1.enter,?_⟩
 obtain⟨d,T',e,w2⟩:=zdC w1
 rw[e]
 exact fun v H' ι' x r hT=>q v H' (Lf.up x1 (zgp hh1 x r hT (hfr _ _ _ _ _ e).frz w2))
theorem zfa {K:W.Frag}{ι ι1:List Addr}{H H1:Hp}{S1:R.St}{a:Addr}(hh:RH K ι1 H1 S1)(x:Ext ι H ι1 H1)(hn:H1 a=none):H a=none:=by
 cases e:H a with
 |none=>rfl
 | some o =>
   by_cases hm:a∈ι
   · have h2:a∈ι1:=by obtain⟨t,rfl⟩:=x.pre;exact List.mem_append_left _ hm
     exact absurd h2 (hh.fresh hn)
   · have:=(x.rest a o hm e).1
     rw[hn] at this
     rcases this with z|⟨_,_,z⟩<;>cases z
theorem zg8 {f j:Nat}{ces:CEs}{σ:L2.St}{H:Hp}{Qv:VK}(hfr:CFok cf)(h:tLt X.K cf (.callL f j ces) σ H Qv) :
  zdu (spF X.K cf f) (List.replicate j .non) E0 (tAs X.K cf ces) σ H Qv:=by
 obtain⟨δ,ι,S,Q,hs,hh,w,q⟩:=h
 simp only[evL,zac] at w
 refine tAs.run hs hh w fun ds vs ι1 H1 S1 x1 hs1 hh1 r1 w1=>?_
 unfold appL at w1
 rw[zac] at w1
 refine⟨ι1,S1.enter,ds++List.replicate j .non,r1.append (RVs.nons j),hh1.enter,?_⟩
 obtain⟨d,T',e,w2⟩:=zdC w1
 rw[e]
 intro v H' ι' x r hT
 obtain⟨ds,a,xs,x2,hh2,e1,r2,ha,e2,hn,w3⟩:=zh9 hh1 x r hT (hfr _ _ _ _ _ e).frz w2
 exact q v H' ⟨ds,ι1,S1,a,xs,x1.trans x2,e1,r2,ha,e2,hh2,zfa hh1 x1 hn,w3⟩
theorem zlE (G:Gd T cf k N sc X){f j:Nat}{x:Str}{ps:List Str}{nd:Nat}{ces:CEs}{e:Expr}{es:List Expr}(hf:T.fns[f]?=some (x,ps,nd))(hj:j<=nd)(hg:isGl sc x=true)(hd:(x == ("__debug__":Str))=false)(ha:PA X (e::es) (tAs X.K cf ces))(hst:(e::es).all zav=true) :
  PE X (.Call (.Name x p) (e::es) [] pos) (tE X.K cf (.call f j ces)):=by
 have Hs:=G.tab.fns f x ps nd hf j hj
 rw[List.all_cons,Bool.and_eq_true] at hst
 exact PE.imp (zl8 Hs G.room ha (G.gl hg) hd (zau hst.1 es X.env) (zaK hst.2)) fun σ H Qv h=>ziT G.tab.frm h
theorem zjf (G:Gd T cf k N sc X){f j:Nat}{x:Str}{ps:List Str}{nd:Nat}(hf:T.fns[f]?=some (x,ps,nd))(hj:j<=nd)(hg:isGl sc x=true)(hd:(x == ("__debug__":Str))=false) :
  PE X (.Call (.Name x p) [] [] pos) (tE X.K cf (.call f j .nil)):=by
 have Hs:=G.tab.fns f x ps nd hf j hj
 refine PE.imp (zoo Hs G.room (G.gl hg) hd) fun σ H Qv ⟨δ,ι,S,Q,hs,hh,w,q⟩=>?_
 simp only[evE,evEs,zas] at w
 unfold app at w
 rw[zac] at w
 obtain⟨d,T',e,w2⟩:=zdC w
 refine⟨ι,S.enter,[]++List.replicate j .non,RVs.append rfl (RVs.nons j),hh.enter,?_⟩
 rw[e]
 exact fun v H' ι' x r hT=>q v H' (zgp hh x r hT (G.tab.frm _ _ _ _ _ e).frz w2)
theorem zlv (G:Gd T cf k N sc X){f j:Nat}{x:Str}{ps:List Str}{nd:Nat}{ces:CEs}{e:Expr}{es:List Expr}(hf:T.fns[f]?=some (x,ps,nd))(hj:j<=nd)(hg:isGl sc x=true)(hd:(x == ("__debug__":Str))=false)(ha:PA X (e::es) (tAs X.K cf ces))(hst:(e::es).all zav=true) :
  PE X (.Call (.Name x p) (e::es) [] pos) (tLt X.K cf (.callL f j ces)):=by
 have Hs:=G.tab.fns f x ps nd hf j hj
 rw[List.all_cons,Bool.and_eq_true] at hst
 exact PE.imp (zl8 Hs G.room ha (G.gl hg) hd (zau hst.1 es X.env) (zaK hst.2)) fun σ H Qv h=>zg8 G.tab.frm h
theorem zg7 {f j:Nat}{ces:CEs}{σ:L2.St}{H:Hp}{Qv:VK}(h:tE X.K cf (.callW f j ces) σ H Qv) :
  zdu (spF X.K cf f) (List.replicate j .non) E0 (tAs X.K cf ces) σ H Qv:=by
 obtain⟨δ,ι,S,Q,hs,hh,w,q⟩:=h
 simp only[evE,zac] at w
 refine tAs.run hs hh w fun ds vs ι1 H1 S1 x1 hs1 hh1 r1 w1=>?_
 unfold appW at w1
 refine⟨ι1,S1,ds++List.replicate j .non,r1.append (RVs.nons j),hh1,?_⟩
 obtain⟨d,T',e,w2⟩:=zdC w1
 rw[e]
 exact fun v H' ι' x r hT=>q v H' (Lf.up x1 ⟨d,ι',T',x,r,hT,w2⟩)
theorem zjc (G:Gd T cf k N sc X){f j:Nat}{x:Str}{ps:List Str}{nd:Nat}{ces:CEs}{e:Expr}{es:List Expr}(hf:T.fns[f]?=some (x,ps,nd))(hj:j<=nd)(hg:isGl sc x=true)(hd:(x == ("__debug__":Str))=false)(ha:PA X (e::es) (tAs X.K cf ces))(hst:(e::es).all zav=true) :
  PE X (.Call (.Name x p) (e::es) [] pos) (tE X.K cf (.callW f j ces)):=by
 have Hs:=G.tab.fns f x ps nd hf j hj
 rw[List.all_cons,Bool.and_eq_true] at hst
 exact PE.imp (zl8 Hs G.room ha (G.gl hg) hd (zau hst.1 es X.env) (zaK hst.2)) fun σ H Qv h=>zg7 h
end
end R
end
section
namespace R
open PySem PySem.Spec PyProof.Rows L2
variable [Mks]
noncomputable def zbm:Tab:={blt:=[],cons:=[],fns:=[]}
noncomputable def noCF:CF:=fun _ _ _=>.bad
theorem zgi {k:Nat}{P:Program}{w:World}{K:W.Frag}{mg:Str->Option Value}{base:Heap}:TabOk zbm noCF k P w K mg base:=
 ⟨fun x h=>(by cases h),fun x d h=>(by cases h),fun f x ps nd h=>(by simp[zbm] at h),fun f ds S d T' h=>(by cases h),fun c x h=>(by simp[zbm] at h),fun c m f h=>(by simp[zbm] at h),fun c f j h=>(by simp[zbm] at h),fun x m f h=>(by simp[zbm] at h),fun h=>(by simp[zbm] at h),fun x cs h=>(by simp[zbm] at h)⟩
theorem zn2 {K:W.Frag}{H:Hp}(tb:TB H):RH K [] H ⟨[],[],[]⟩:=⟨rfl,List.nodup_nil,fun l o h=>(by simp[St.get] at h),tb⟩
section
variable {X:Cx} {pins:List (Addr × Obj)} {σ:L2.St} {H H':Hp} {s:Shared}
structure Own (X:Cx) (pins:List (Addr × Obj)) (b:Addr):Prop where
 new:X.s₀.heap.objs.size<=b
 loc:b≠X.env.locals
 cel:∀x c,X.env.cells.lookup x=some c->c≠b
 pin:∀p∈X.pn++pins,p.1≠b
theorem Own.fresh (I:Inv X pins σ H s){b:Addr}(h:s.heap.objs.size<=b):Own X pins b:=by
 refine⟨Nat.le_trans I.sz h,fun e=>?_,fun x c e z=>?_,fun p hp z=>?_⟩
 · exact absurd (Nat.lt_of_lt_of_le I.lt h) (by rw[e];exact Nat.lt_irrefl _)
 · obtain⟨v,o,ho,_⟩:=I.cell x c e
   exact absurd (Nat.lt_of_lt_of_le (Heap.lt_size ho) h) (by rw[z];exact Nat.lt_irrefl _)
 · exact absurd (Nat.lt_of_lt_of_le (Heap.lt_size (I.pin p hp).1) h) (by rw[z];exact Nat.lt_irrefl _)
theorem Own.stk (o:Own X pins b)(I:Inv X pins σ H s):b∉frs X.stack:=fun hb=>by
 rcases List.mem_cons.mp (I.stkSub b hb) with e|e
 · exact o.loc e
 · obtain⟨_,ob,ho,_⟩:=I.ok.funs.mem e
   exact absurd (Nat.lt_of_lt_of_le (Heap.lt_size ho) o.new) (Nat.lt_irrefl _)
theorem zaQ {h':Heap}{g':Array GenState}{t':Nat}{d':Drawn}{ch:List Addr}(I:Inv X pins σ H s)(ow:∀b∈ch,Own X pins b)(hn:∀b∈ch,H b=none)(k:∀b o,b∉ch->s.heap.get? b=some o->h'.get? b=some o)(hg:AllBare g') :
  Inv X pins σ H {s with heap:=h',gens:=g',drawn:=d',toks:=t'}:=by
 refine I.call (ch:=ch) ⟨fun b o e n _ hx=>k b o hx e,fun b o e n _ hx=>⟨o.slots,k b o hx e⟩,fun b o _ n _=>n,fun b o e hx=>⟨o,k b o hx e⟩,fun _ _ e=>e,fun _ _ _ e=>e,fun b ps e=>⟨#[],by rw[e];simp⟩⟩ ?_ hg fun b hb=>⟨.inr (ow b hb).new,(ow b hb).loc,(ow b hb).cel,(ow b hb).pin⟩
 intro a o e
 refine (I.hok a o e).stay (fun b u hb q=>k b u (fun z=>?_) q) (fun _ q=>q) fun _ _ q=>q
 have:=hn b z
 rcases hb with rfl|hb
 · rw[e] at this;cases this
 · rw[hb] at this;cases this
end
section
variable {X:Cx} {pins:List (Addr × Obj)} {σ:L2.St} {H H':Hp} {s:Shared} {b:Addr} {o:HO}
theorem zbE (I:Inv X pins σ H s)(ow:Own X pins b)(hn:H b=none)(ok:ObjOk X.prog X.w (upd H b o) s.heap b o):Inv X pins σ (upd H b o) s:=by
 have un:Un (frs X.stack) [b] H (upd H b o) s.heap s.heap:=⟨fun c q e _ _ _=>e,fun c q e _ _ _=>⟨q.slots,e⟩,fun c q e n hx=>by rw[zae (by simpa using hx)];exact n,fun c q e _=>⟨q,e⟩,
  fun c xs q=>by rw[zae (zaj q hn)];exact q,fun c q u e=>by rw[zae (zaj e hn)];exact e,fun c ps q=>⟨#[],by rw[zae (zaj q hn),q];simp⟩⟩
 refine I.call' rfl un ?_ I.bare fun c hc=>?_
 · intro a u e
   by_cases z:a=b
   · subst z;rw[zai] at e;cases e;exact ok
   · rw[zae z] at e
     exact (I.hok a u e).stay (fun _ _ _ q=>q) (fun c q=>by rw[zae (zaj q hn)];exact q) fun c xs q=>by rw[zae (zaj q hn)];exact q
 · rw[List.mem_singleton.mp hc]
   exact⟨.inr ow.new,ow.loc,ow.cel,ow.pin⟩
end
noncomputable def BM (mg:Str->Option Value)(base:Heap):Prop:=∃(bm:Addr) (o:Obj),mg "__builtins__"=some (.ref bm)/\bm≠builtinsNs/\bm≠mainGlobals/\base.get? bm=some o/\o.cls=.type "module"/\o.dict=some builtinsNs/\o.data=.plain
structure StepT (P:Addr) (H H':Hp):Prop where
 rest:∀a o,a≠P->H a=some o->H' a=some o
 tab:∀ps,H P=some (.tbl ps)->∃more,H' P=some (.tbl (ps++more))
theorem zcn {pos:Pos}{l:List Value}{v a b c:Value}(h:TriplesOk l)(e:codeAmong pos (l++[a,b,c])=some v):codeAmong pos l=some v\/v=c:=by
 induction l using codeAmong.induct (pos:=pos) with
 | case1 line _ col _ c' rest cond =>
   simp only[List.cons_append,codeAmong,cond,if_true] at e⊢
   exact .inl e
 | case2 line _ col _ c' rest cond ih =>
   simp only[List.cons_append,codeAmong,cond,if_false] at e⊢
   exact ih (by simpa[TriplesOk] using h) e
 | case3 l hno =>
   cases l with
   | nil =>
     right
     unfold codeAmong at e
     split at e
     · rename_i h;simp at h;obtain⟨_,_,rfl,rfl⟩:=h
       split at e
       · cases e;rfl
       · simp[codeAmong] at e
     · cases e
   | cons x l =>
     exfalso
     unfold TriplesOk at h
     split at h
     · rename_i h0;cases h0
     · rename_i h0;cases h0;exact hno _ _ _ _ _ _ rfl
     · exact h
theorem StepT.ext {P:Addr}{H H':Hp}{ps:Array Value}(st:StepT P H H')(hP:H P=some (.tbl ps))(tb:TB H'):Ext [] H [] H':=by
 have nP:∀a o,H a=some o->(∀ps,o≠.tbl ps)->a≠P:=fun a o e n z=>by rw[z,hP] at e;cases e;exact n _ rfl
 refine⟨List.prefix_refl _,⟨fun a xs e=>st.rest a _ (nP a _ e (by simp)) e,fun a o u e=>st.rest a _ (nP a _ e (by simp)) e,fun _=>tb⟩,fun a o _ e=>⟨?_,by simp⟩⟩
 by_cases z:a=P
 · subst z
   obtain⟨more,e'⟩:=st.tab ps hP
   rw[hP] at e;cases e
   exact .inr ⟨⟨_,rfl⟩,_,e'⟩
 · exact .inl (st.rest a o z e)
section
variable {X:Cx} {pins:List (Addr × Obj)} {σ:L2.St} {H:Hp} {s:Shared} {c P:Addr} {params:Arguments} {scope:Scope} {lpos:Pos}
theorem BM.at_ (b:BM X.mg X.base)(I:Inv X pins σ H s){P:Addr}{o:HO}(hP:H P=some o):s.heap.BuiltinsAt X.mg P:=by
 obtain⟨bm,ob,h1,h2,h3,h4,h5⟩:=b
 obtain⟨k1,k2⟩:=I.bs bm ob h4
 exact⟨bm,ob,h1,h2,h3,fun z=>(by rw[z,hP] at k2;cases k2),k1,h5⟩
noncomputable def zqe (H:Hp)(f:Addr)(name qual:Str)(params:Arguments)(body:List Stmt)(scope:Scope)(clos:List (Str × Addr)):Prop:=∃(pm ct doc:Value) (c':Addr) (oc:Obj) (vs:Array Value) (t:Tok),H f=some (.frz (W.fnMade name qual params body scope clos doc pm c' ct) (.own 0))/\H c'=some (.frz oc (.own 0))/\oc.data=.fields vs/\vs[1]?=some (.str qual t)
theorem zkh {name qual:Str}{body:List Stmt}{clos:List (Str × Addr)}{fl:Nat}{Q:Value->Shared->Prop}{E:Value->Shared->Prop}(I:Inv X pins σ H s)(bm:BM X.mg X.base)(hcode:X.env.code=.ref c)(hC:W.codeHdIn X.K c P=true)(tb:TabIn H P qual)(hcl:closureFor scope X.env=pure clos)
  (q:∀f H' s',Inv X pins σ H' s'->zqe H' f name qual params body scope clos->TabIn H' P qual->StepT P H H'->Q (.ref f) s') :
  wpAny (model X.prog X.w) X.A (makeFunction name qual params (.stmts body) scope X.env [] [] [] lpos fl) Q E s:=by
 obtain⟨ps,h1,h2,h3⟩:=tb
 have C:=W.codeHd_of_K I.kIn hC
 have hP:s.heap.get? P=some (W.tabObj ps):=I.hok P _ h1
 have hb:=bm.at_ I h1
 have hg:s.heap.Ns mainGlobals X.mg:=I.mod.glob.keeps I.bk
 have hPl:P<s.heap.objs.size:=Heap.lt_size hP
 cases hf:codeAmong lpos ps.toList with
 | some cv =>
   obtain⟨c',oc,vs,t,rfl,a2,a3,a4⟩:=h3 lpos cv hf
   refine W.makeFunction_hit hcl I.ok.glob hg hcode C hP h2 hf hb fun ctv doc h' tk hk hsz=>?_
   have hn:H h'.objs.size=none:=I.hok.fresh hsz
   have ow:Own X pins h'.objs.size:=Own.fresh I hsz
   have I1:Inv X pins σ H {s with heap:=h'.push (W.fnMade name qual params body scope clos doc ((X.mg "__name__").getD .none) c' ctv),toks:=tk}:=
    zaQ (g':=s.gens) (t':=tk) (d':=s.drawn) (ch:=[]) I (fun b hb=>by cases hb) (fun b hb=>by cases hb) (fun b o _ e=>Heap.get?_push_of_some _ (hk b o e)) I.bare
   have I2:=zbE (o:=.frz (W.fnMade name qual params body scope clos doc ((X.mg "__name__").getD .none) c' ctv) (.own 0)) I1 ow hn ⟨Heap.get?_push_size _ rfl,_,Heap.get?_push_size _ rfl⟩
   have st:∀a o,H a=some o->upd H h'.objs.size (.frz (W.fnMade name qual params body scope clos doc ((X.mg "__name__").getD .none) c' ctv) (.own 0)) a=some o:=fun a o e=>by rw[zae (zaj e hn)];exact e
   refine q _ _ _ I2 ⟨_,ctv,doc,c',oc,vs,t,zai,st _ _ a2,a3,a4⟩ ?_ ⟨fun a o _ e=>st a o e,fun ps' e=>⟨#[],by rw[st _ _ e];simp⟩⟩
   exact TabIn.up ⟨ps,h1,h2,h3⟩ (by rw[st _ _ h1,h1]) fun b o u e=>st _ _ e
 | none =>
   have hgP:mainGlobals≠P:=fun z=>by
    obtain⟨o,es,ep,e,hd,_⟩:=hg
    rw[z,hP] at e;cases e;cases hd
   refine W.makeFunction_K hcl I.ok.glob hg hcode C hP h2 hf hgP hb fun c' ctv doc h' tk hx hge hlt hrec htb=>?_
   obtain⟨c2,oc,vs,t,e2,hoc,hd,hv⟩:=hrec
   cases e2
   generalize hfo:W.fnMade name qual params body scope clos doc ((X.mg "__name__").getD .none) c' ctv=fo
   have hfr:(h'.push fo).get? h'.objs.size=some fo:=by rw[<-hfo];exact Heap.get?_push_size _ rfl
   have hfn:H h'.objs.size=none:=I.hok.fresh (Nat.le_trans hge (Nat.le_of_lt hlt))
   have hcn:H c'=none:=I.hok.fresh hge
   have nPc:P≠c':=Nat.ne_of_lt (Nat.lt_of_lt_of_le hPl hge)
   have nPf:P≠h'.objs.size:=Nat.ne_of_lt (Nat.lt_trans (Nat.lt_of_lt_of_le hPl hge) hlt)
   have ncf:c'≠h'.objs.size:=Nat.ne_of_lt hlt
   have st:∀a o,a≠P->H a=some o->upd (upd (upd H P (.tbl (ps ++ #[rawInt lpos.line,rawInt lpos.col,.ref c']))) c' (.frz oc (.own 0))) h'.objs.size (.frz fo (.own 0)) a=some o:=fun a o n e=>by
    rw[zae (zaj e hfn),zae (zaj e hcn),zae n];exact e
   have atP:upd (upd (upd H P (.tbl (ps ++ #[rawInt lpos.line,rawInt lpos.col,.ref c']))) c' (.frz oc (.own 0))) h'.objs.size (.frz fo (.own 0)) P=some (.tbl (ps ++ #[rawInt lpos.line,rawInt lpos.col,.ref c'])):=by
    rw[zae nPf,zae nPc,zai]
   have atC:upd (upd (upd H P (.tbl (ps ++ #[rawInt lpos.line,rawInt lpos.col,.ref c']))) c' (.frz oc (.own 0))) h'.objs.size (.frz fo (.own 0)) c'=some (.frz oc (.own 0)):=by
    rw[zae ncf,zai]
   have hno:∀a,H a=none->a≠P:=fun a e z=>by rw[z,h1] at e;cases e
   have keep:∀b o,b≠P->s.heap.get? b=some o->(h'.push fo).get? b=some o:=fun b o n e=>Heap.get?_push_of_some _ (hx b o n e)
   have inv:Inv X pins σ (upd (upd (upd H P (.tbl (ps ++ #[rawInt lpos.line,rawInt lpos.col,.ref c']))) c' (.frz oc (.own 0))) h'.objs.size (.frz fo (.own 0))) {s with heap:=h'.push fo,toks:=tk}:=by
    refine I.call (g':=s.gens) (t':=tk) (d':=s.drawn) (ch:=[]) ⟨fun b o e n _ _=>keep b o (hno b n) e,fun b o e n _ _=>⟨o.slots,keep b o (hno b n) e⟩,fun b o e n _=>?_,fun b o e _=>?_,fun b xs e=>?_,fun b o u e=>?_,fun b ps' e=>?_⟩ ?_ I.bare (fun b hb=>by cases hb)
    · have hb:=Heap.lt_size e
      rw[zae (Nat.ne_of_lt (Nat.lt_trans (Nat.lt_of_lt_of_le hb hge) hlt)),zae (Nat.ne_of_lt (Nat.lt_of_lt_of_le hb hge)),zae (hno b n)];exact n
    · by_cases z:b=P
      · subst z;exact⟨_,Heap.get?_push_of_some _ htb⟩
      · exact⟨o,keep b o z e⟩
    · exact st b _ (fun z=>by rw[z,h1] at e;cases e) e
    · exact st b _ (fun z=>by rw[z,h1] at e;cases e) e
    · by_cases z:b=P
      · subst z;rw[h1] at e;cases e;exact⟨_,atP⟩
      · exact⟨#[],by rw[st b _ z e];simp⟩
    · intro a u e
      by_cases zf:a=h'.objs.size
      · subst zf;rw[zai] at e;cases e;exact⟨hfr,_,hfr⟩
      · rw[zae zf] at e
        by_cases zc:a=c'
        · subst zc;rw[zai] at e;cases e;exact⟨Heap.get?_push_of_some _ hoc,_,Heap.get?_push_of_some _ hoc⟩
        · rw[zae zc] at e
          by_cases zp:a=P
          · subst zp;rw[zai] at e;cases e;exact Heap.get?_push_of_some _ htb
          · rw[zae zp] at e
            refine (I.hok a u e).stay (fun b o hb e'=>keep b o ?_ e') (fun b e'=>st b _ (fun z=>by rw[z,h1] at e';cases e') e') fun b xs e'=>st b _ (fun z=>by rw[z,h1] at e';cases e') e'
            rcases hb with rfl|hb
            · exact zp
            · intro z;rw[z,h1] at hb;cases hb
   refine q _ _ _ inv ⟨_,ctv,doc,c',oc,vs,t,by rw[zai,<-hfo],atC,hd,hv⟩ ?_ ⟨fun a o n e=>st a o n e,fun ps' e=>by rw[h1] at e;cases e;exact⟨_,atP⟩⟩
   refine⟨_,atP,?_,fun pos v e=>?_⟩
   · have:=TriplesOk_snoc lpos.line lpos.col (.ref c') ps.toList h2
     simpa using this
   · have e':codeAmong pos (ps.toList++[rawInt lpos.line,rawInt lpos.col,.ref c'])=some v:=by simpa using e
     rcases zcn h2 e' with z|z
     · obtain⟨d,od,ws,u,a1,a2,a3⟩:=h3 pos v z
       exact⟨d,od,ws,u,a1,st _ _ (fun y=>by rw[y,h1] at a2;cases a2) a2,a3⟩
     · exact⟨c',oc,vs,t,z,atC,hd,hv⟩
end
end R
end
section
set_option maxHeartbeats 4000000
namespace R
open PySem PySem.Spec PyProof.Rows L2
section
variable {X:Cx} {pins:List (Addr × Obj)} {σ:L2.St} {H:Hp} {s:Shared} {A:Around} {E:Value->Shared->Prop} {a c:Addr} {k:K3} {ws:List (K3 × Addr × V)}
noncomputable def val3 (ws:List (K3 × Addr × V))(k:K3):Option V:=(ws.find? fun x=>decide (x.1=k)).map (·.2.2)
theorem zkx {P:Program}{w:World}{h:Heap}(ok:HOk P w H h)(e:Rd H a (.ext (TriO a ws)))(tk:TriK H ws):ws.length<=sizeLine/\(a == sysModules)=false/\∃xs,Paired P3 ws xs/\h.DictOfH (zbu P w) a xs:=by
 obtain⟨⟨z,y,xs,r,o,es,ep,ho,hx,hd,he,nd⟩,_,_⟩:=(show ObjOk P w H h a (.ext _) from e.ok ok)
 refine⟨z,y,xs,r,o,es,ep,ho,hx,hd,?_,?_,nd⟩
 · rw[he];exact List.map_congr_left fun x _=>(zfP x).symm
 · have all:∀{l:List (K3 × Addr × V)} {m:List (K3 × Addr × Value)},Paired P3 l m->TriK H l->∀x∈m,(zbu P w).is h x.1 x.2.1:=by
    intro l m q
    induction q with
    |nil=>intro _ x hx;exact nomatch hx
    | @cons p q ps qs hq t ih =>
      intro tk x hx
      rcases List.mem_cons.mp hx with e|hx
      · subst e
        rw[<-hq.1,<-hq.2.1]
        exact zeo ok (tk p List.mem_cons_self)
      · exact ih (fun y hy=>tk y (List.mem_cons_of_mem _ hy)) x hx
   exact all r tk
theorem zov {xs:List (K3 × Addr × Value)}(k:K3)(h:Paired P3 ws xs):RelO (val3 ws k) ((atKey xs k).map (·.2)):=by
 induction h with
 |nil=>exact trivial
 | @cons p q ps qs hq t ih =>
   unfold val3 atKey at ih⊢
   rw[List.find?_cons,List.find?_cons]
   by_cases e:p.1=k
   · rw[decide_eq_true e,decide_eq_true (hq.1▸e)]
     exact hq.2.2
   · rw[decide_eq_false e,decide_eq_false (hq.1▸e)]
     exact ih
theorem zmN {Q:Value->Shared->Prop}{d:V}{r:Value}(hu:A.units+5<cLine)(I:Inv X pins σ H s)(e:Rd H a (.ext (TriO a ws)))(tk:TriK H ws)(ek:Key3 H k c)(rd:RelV d r)(h:∀w' s',Inv X pins σ H s'->RelV ((val3 ws k).getD d) w'->Q w' s') :
  wpAny (model X.prog X.w) A (call (.builtin "dict.get") [.ref a,.ref c,r]) Q E s:=by
 obtain⟨z,hd,xs,rel,dd⟩:=zkx I.hok e tk
 refine call_meetsIn PySem.F.slot_dict_get dd.typeIs PySem.F.entry_dict_get (PySem.F.args_dict_get_3 _ _ _) (meetsH_dict_get_default (zbu X.prog X.w) a c hd r) ⟨(show A.units+1+4<cLine by omega),k,xs,zeo I.hok ek,dd,h _ _ (I.tok _) ?_⟩
 exact (zov k rel).getD rd
end
noncomputable def zns (td ty tx:TE):TE:=fun σ H Q=>td σ H fun x H1=>∃a ws,x=.ref a/\Rd H1 a (.ext (TriO a ws))/\TriK H1 ws/\ty σ H1 fun y H2=>tx σ H2 fun z H3=>∃k c,y=.ref c/\Key3 H3 k c/\Rd H3 a (.ext (TriO a ws))/\TriK H3 ws/\Q ((val3 ws k).getD z) H3
theorem zjH {X:Cx}{o e f:Expr}{apos cpos:Pos}{td ty tx:TE}(hu:X.A.units+5<cLine)(ho:PE X o td)(he:PE X e ty)(hf:PE X f tx)(m:M2 X o "get" apos e f cpos):PE X (.Call (.Attribute o "get" apos) [e,f] [] cpos) (zns td ty tx):=by
 intro pins s σ H Q I h
 refine wpAny_Call_method m.base m.few m.line PySem.F.plainAttrs_dict PySem.F.slot_dict_get PySem.F.type_dict_get (thn (ho pins s σ H _ I h) fun u s1 ⟨x,H1,I1,rx,a,ws,ex,d,tk,q1⟩=>?_)
 subst ex
 obtain rfl:u=Value.ref a:=rx
 obtain⟨_,hd,xs,_,dd⟩:=zkx I1.hok d tk
 refine⟨dd.typeIs,fun b q=>?_,?_⟩
 · cases q
   obtain⟨ob,_,_,h1,h2,_⟩:=dd
   exact⟨ob,h1,h2.2.1⟩
 rw[m.trees]
 refine Calls.callWith_builtin rfl (Calls.evalArgs_plain (Calls.spliced_cons (thn (he pins s1 σ H1 _ I1 q1) fun iv s2 ⟨y,H2,I2,ry,q2⟩=>
  Calls.spliced_cons (thn (hf pins s2 σ H2 _ I2 q2) fun fv s3 ⟨z,H3,I3,rz,k,c,ey,ek,d3,tk3,q3⟩=>Calls.spliced_nil ?_))))
 subst ey
 cases (show iv=Value.ref c from ry)
 exact zmN hu I3 d3 tk3 ek rz fun w' s4 I4 rw'=>⟨_,H3,I4,rw',q3⟩
end R
end
section
set_option maxHeartbeats 4000000
namespace R
open PySem PySem.Spec PyProof.Rows L2
variable [Mks]
noncomputable def hid (H:Hp)(c:Addr):Hp:=fun b=>if b=c then none else H b
theorem zio {H:Hp}{c:Addr}:hid H c c=none:=if_pos rfl
theorem zck {H:Hp}{b c:Addr}(h:b≠c):hid H c b=H b:=if_neg h
theorem zj5 {H:Hp}{b c:Addr}{o:HO}(h:hid H c b=some o):b≠c/\H b=some o:=by
 unfold hid at h
 split at h
 · cases h
 · rename_i n;exact⟨n,h⟩
theorem zbQ {H:Hp}{b c:Addr}(h:H b=none):hid H c b=none:=by
 unfold hid;split
 · rfl
 · exact h
noncomputable abbrev envK (st:Stmt)(f c c' L:Addr):Env:=W.envX arrQ (zad st) L f (.ref c') [(("last":Str),c)]
noncomputable def ziN (P:Program)(w:World)(K:W.Frag)(mg:Str->Option Value)(base:Heap)(st:Stmt)(f c c':Addr)(A:Around)(outer:List Env)(s:Shared)(H:Hp):Cx where
 prog:=P
 w:=w
 K:=K
 mg:=mg
 base:=base
 A:=A.deeper (envK st f c c' s.heap.objs.size)
 N:=["turn","path","to","word","last"]
 s₀:=s
 H₀:=hid H c
 env:=envK st f c c' s.heap.objs.size
 outer:=outer
 stack:=envK st f c c' s.heap.objs.size::outer
 ex:=[]
 calm:=true
 fn:=fun _=>false
 pn:=[]
 xe:=fun _ _=>False
section
variable {P:Program} {w:World} {K:W.Frag} {mg:Str->Option Value} {base:Heap} {st:Stmt} {f c c' d:Addr} {A:Around} {outer:List Env} {s:Shared} {H:Hp} {ou:Obj}
theorem zmw {h₁:Heap}{tk:Nat}{u0 u1 u2 u3:Value}{v0 v1 v2 v3:V}(T:CloSt st)(hd:A.handled=none)(e0:Env0 P w K mg base A outer s H)(hc:H c=some (.frz ou (.own 0)))(ho:ou.data=.cell (some (.ref d)))
  (r0:RelV v0 u0) (r1:RelV v1 u1) (r2:RelV v2 u2) (r3:RelV v3 u3)
  (hns:h₁.Ns s.heap.objs.size (fun x=>([(("turn":Str),u0),(("path":Str),u1),(("to":Str),u2),(("word":Str),u3)]:List (Str × Value)).reverse.lookup x)) (hk:∀b o,s.heap.get? b=some o->h₁.get? b=some o) :
  Inv (ziN P w K mg base st f c c' A outer s H) [] [some v0,some v1,some v2,some v3,some (.ref d)] (hid H c) {s with heap:=h₁,toks:=tk}:=by
 have oc:s.heap.get? c=some ou:=(e0.hok c _ hc).1
 have hcl:∀(y:Str) (z:Addr),(envK st f c c' s.heap.objs.size).cells.lookup y=some z->y="last"/\z=c:=fun y z h=>by
  simp only[List.lookup] at h
  split at h
  · rename_i e;cases h;exact⟨by simpa using e,rfl⟩
  · cases h
 have look4:(envK st f c c' s.heap.objs.size).cells.lookup ("last":Str)=some c:=by simp[List.lookup]
 have ok0:HOk P w (hid H c) s.heap:=fun b o e=>by
  obtain⟨n,e⟩:=zj5 e
  refine (e0.hok b o e).stay (fun _ _ _ q=>q) (fun x q=>?_) fun x xs q=>?_
  · rw[zck (fun z=>by rw[z,hc] at q;cases q)];exact q
  · rw[zck (fun z=>by rw[z,hc] at q;cases q)];exact q
 have noA:∀b:Addr,b∉(ziN P w K mg base st f c c' A outer s H).ex:=fun b z=>absurd (show b∈([]:List Addr) from z) (by simp)
 refine⟨⟨e0.mod,T.kind,rfl,rfl,Nat.le_refl _,fun y z x h1 h2=>?_,fun y hy=>?_,fun y z hz _=>(by cases hz),fun _=>hd,Around.frames_deeper e0.frames,.inr ⟨rfl,rfl⟩,fun b z=>absurd z (noA b),fun b o e=>⟨(e0.bs b o e).1,zbQ (e0.bs b o e).2⟩,e0.bsz,fun b _ _=>noA b,fun b z=>absurd z (noA b),e0.funs,fun b hb=>zbQ (e0.frf b hb)⟩,
  rfl,e0.bare,Un.kept hk,⟨_,hns,fun i y v h1 h2 h3=>?_⟩,fun y z h=>?_,zbQ (e0.hok.fresh (Nat.le_refl _)),fun y z h=>?_,fun p hp=>absurd (show p∈([]:List (Addr × Obj)) from hp) (by simp),ok0.kept hk,rfl⟩
 · obtain⟨rfl,_⟩:=hcl y x h1
   exact (hcl z x h2).1.symm
 · rcases hy with hy|hy
   · exact absurd rfl (T.cell _ (PySem.mem_of_lookup hy))
   · have this:y="last":=T.free _ (PySem.mem_of_lookup hy) rfl
     rw[this];exact⟨c,look4⟩
 · match i,h1,h2 with
   |0,h1,h2=>cases h1;cases h2;exact⟨u0,r0,.inl ⟨T.l0,rfl⟩⟩
   |1,h1,h2=>cases h1;cases h2;exact⟨u1,r1,.inl ⟨T.l1,rfl⟩⟩
   |2,h1,h2=>cases h1;cases h2;exact⟨u2,r2,.inl ⟨T.l2,rfl⟩⟩
   |3,h1,h2=>cases h1;cases h2;exact⟨u3,r3,.inl ⟨T.l3,rfl⟩⟩
   |4,h1,h2=>cases h1;cases h2;exact⟨.ref d,rfl,.inr ⟨.inr T.l4,c,look4,ou,hk _ _ oc,ho⟩⟩
   |i+5,h1,h2=>simp at h2
 · obtain⟨_,rfl⟩:=hcl y z h
   exact⟨_,ou,hk _ _ oc,ho⟩
 · obtain⟨_,rfl⟩:=hcl y z h
   exact zio
theorem zkj {H':Hp}{s':Shared}(e0:Env0 P w K mg base A outer s H)(hc:H c=some (.frz ou (.own 0)))(un:Un (frs outer) [] (hid H c) H' s.heap s'.heap)(hok:HOk P w H' s'.heap) :
  Un (frs outer) [] H (upd H' c (.frz ou (.own 0))) s.heap s'.heap/\HOk P w (upd H' c (.frz ou (.own 0))) s'.heap:=by
 have oc:s.heap.get? c=some ou:=(e0.hok c _ hc).1
 have cf:c∉frs outer:=fun z=>by rw[e0.frf c z] at hc;cases hc
 have oc':s'.heap.get? c=some ou:=un.keep c ou oc zio cf (by simp)
 have hn:H' c=none:=un.free c ou oc zio (by simp)
 have ne:∀b,H b=none->b≠c:=fun b n z=>by rw[z,hc] at n;cases n
 refine⟨⟨fun b o q n h1 h2=>un.keep b o q (zbQ n) h1 h2,fun b o q n h1 h2=>un.slot b o q (zbQ n) h1 h2,fun b o q n h=>?_,fun b o q h=>un.there b o q h,fun b xs q=>?_,fun b o u q=>?_,fun b ps q=>?_⟩,fun b o q=>?_⟩
 · rw[zae (ne b n)];exact un.free b o q (zbQ n) h
 · have z:b≠c:=fun z=>by rw[z,hc] at q;cases q
   rw[zae z];exact un.tups b xs (by rw[zck z];exact q)
 · by_cases z:b=c
   · subst z;rw[hc] at q;cases q;exact zai
   · rw[zae z];exact un.frzs b o u (by rw[zck z];exact q)
 · have z:b≠c:=fun z=>by rw[z,hc] at q;cases q
   rw[zae z];exact un.tbls b ps (by rw[zck z];exact q)
 · by_cases z:b=c
   · subst z;rw[zai] at q;cases q;exact⟨oc',_,oc'⟩
   · rw[zae z] at q
     exact (hok b o q).stay (fun _ _ _ q=>q) (fun x q=>by rw[zae (zaj q hn)];exact q) fun x xs q=>by rw[zae (zaj q hn)];exact q
theorem zmR {k:Nat}{u0 u1 u2 u3:Value}{v0 v1 v2 v3:V}{Q:VK}{E:XK}{ct doc pm:Value}{oc od:Obj}{vs:Array Value}{t:Tok}{ws:List (K3 × Addr × V)}{kk:K3}{pb:Addr}(hst:Mks.rs=some st)(hr:Room (k+1) A)(e0:Env0 P w K mg base A outer s H)
  (hf:H f=some (.frz (W.fnMade arrN arrQ (zat st) (zan st) (zad st) [(("last":Str),c)] doc pm c' ct) (.own 0))) (hc':H c'=some (.frz oc (.own 0))) (hoc:oc.data=.fields vs) (hv:vs[1]?=some (.str arrQ t))
  (hc:H c=some (.frz ou (.own 0))) (ho:ou.data=.cell (some (.ref d))) (hd:H d=some (.frz od (.ext (TriO d ws)))) (tk:TriK H ws)
  (r0:RelV v0 u0) (r1:RelV v1 u1) (r2:RelV v2 u2) (r3:RelV v3 u3) (e0':v0=.int kk.1) (e1:v1=.ref pb) (hp:H pb=some (.tup (kk.2.1.map V.int))) (e2:v2=.int kk.2.2)
  (q:∀p,H p=none->Q ((val3 ws kk).getD v3) (upd H p (.tup [v0,v1,v2]))) :
  codeAny (model P w) A (.call (.ref f) ⟨[u0,u1,u2,u3],[]⟩) (CR CX0 outer P w H s Q E) s:=by
 have T:CloSt st:=by have:=Mks.ro;rw[hst] at this;exact this
 have lim:s.heap.NoLimit:=e0.mod.nolimit.keeps fun b o e=>(e0.bs b o e).1
 refine codeAny_call_def (fd:=W.fnX arrN arrQ (zat st) (zan st) (zad st) [(("last":Str),c)] .none .none doc pm none (.ref c') ct) (body:=zan st) hr.depth (e0.hok f _ hf).1 rfl lim ⟨c',oc,vs,t,rfl,(e0.hok c' _ hc').1,hoc,hv⟩ rfl (.of_eq (T.bind _ doc pm _ ct u0 u1 u2 u3)) T.cell (fun x hx=>?_) (fun h₁ hns hk=>?_) T.co T.gen T.kind
 · simp only[List.mem_cons,List.not_mem_nil,or_false] at hx
   rcases hx with rfl|rfl|rfl|rfl
   · exact T.l0
   · exact T.l1
   · exact T.l2
   · exact T.l3
 have I:=zmw (f:=f) (c':=c') (tk:=s.toks+([(("turn":Str),u0),(("path":Str),u1),(("to":Str),u2),(("word":Str),u3)]:List (Str × Value)).length) T hr.hd e0 hc ho r0 r1 r2 r3 hns hk
 obtain⟨x6,p1,p2,p3,p4,p5,p6,p7,p8,p9,eb,l1⟩:=T.body
 have hu:(ziN P w K mg base st f c c' A outer s H).A.units+5<cLine:=by have:=hr.un;show A.units+3+5<_;omega
 have pT:PE (ziN P w K mg base st f c c' A outer s H) (.Tuple [.Name "turn" p3,.Name "path" p4,.Name "to" p5] x6 p6) (tTup (zey (tVar 0) (zey (tVar 1) (zey (tVar 2) tNil)))):=
  zkK (za4 (zbA rfl (.inl T.l0)) (za4 (zbA rfl (.inl T.l1)) (za4 (zbA rfl (.inl T.l2)) zdH)))
 have pb':=zed (zhI (pos:=p9) (zjH hu (zbA (X:=ziN P w K mg base st f c c' A outer s H) (pos:=p1) (i:=4) (x:="last") rfl (.inr (.inr T.l4))) pT (zbA (pos:=p7) (i:=3) (x:="word") rfl (.inl T.l3)) (apos:=p2) (cpos:=p8) ⟨rfl,rfl,l1,rfl⟩))
 have hdc:d≠c:=fun z=>by rw[z,hc] at hd;injection hd with hd;injection hd with _ hd;cases hd
 have pbc:pb≠c:=fun z=>by rw[z,hc] at hp;cases hp
 rw[eb]
 subst e0' e1 e2
 have hw:=pb' [] _ _ _ {nx:=fun _ _=>False,rt:=fun v H'=>∃p,hid H c p=none/\v=(val3 ws kk).getD v3/\H'=upd (hid H c) p (.tup [.int kk.1,.ref pb,.int kk.2.2])} I ?_
 · refine wpAny_mono hw (fun fl s' hs=>?_) fun e s' z=>False.elim z
   cases fl with
   | ret u =>
     obtain⟨v,σ',H',J,rv,p,pn,rfl,rfl⟩:=hs
     have look4:(envK st f c c' s.heap.objs.size).cells.lookup ("last":Str)=some c:=by simp[List.lookup]
     have pc:p≠c:=fun z=>by
      have:=J.freeC "last" c look4
      rw[z,zai] at this;cases this
     have pH:H p=none:=by rw[zck pc] at pn;exact pn
     have un:Un (frs outer) [] (hid H c) (upd (hid H c) p (.tup [.int kk.1,.ref pb,.int kk.2.2])) s.heap s'.heap:=J.base
     obtain⟨un',hok'⟩:=zkj e0 hc un J.hok
     have e:upd (upd (hid H c) p (.tup [.int kk.1,.ref pb,.int kk.2.2])) c (.frz ou (.own 0))=upd H p (.tup [.int kk.1,.ref pb,.int kk.2.2]):=by
      funext b
      by_cases z:b=c
      · subst z;rw[zai,zae (Ne.symm pc)];exact hc.symm
      · rw[zae z]
        by_cases y:b=p
        · subst y;rw[zai,zai]
        · rw[zae y,zae y,zck z]
     rw[e] at un' hok'
     exact⟨_,_,J.os,J.bare,un',hok',rv,q p pH⟩
   |next=>obtain⟨_,_,_,z⟩:=hs;exact False.elim z
   |brk=>obtain⟨_,_,_,z⟩:=hs;exact False.elim z
   |cont=>obtain⟨_,_,_,z⟩:=hs;exact False.elim z
 · have up1:∀b xs,H b=some (.tup xs)->hid H c b=some (.tup xs):=fun b xs e=>by rw[zck (fun z=>by rw[z,hc] at e;cases e)];exact e
   have tk1:TriK (hid H c) ws:=fun x hx=>(tk x hx).up up1
   have rd1:hid H c d=some (.frz od (.ext (TriO d ws))):=by rw[zck hdc];exact hd
   refine⟨.ref d,rfl,d,ws,rfl,.inr ⟨od,rd1⟩,tk1,_,rfl,_,rfl,_,rfl,(by show 3<=sizeLine;rw[sizeLine_eq];decide),fun p hp'=>⟨v3,rfl,kk,p,rfl,⟨pb,zai,?_⟩,.inr ⟨od,?_⟩,fun x hx=>(tk1 x hx).up fun b xs e=>?_,p,hp',rfl,rfl⟩⟩
   · rw[zae (zaj (up1 _ _ hp) hp')];exact up1 _ _ hp
   · rw[zae (zaj rd1 hp')];exact rd1
   · rw[zae (zaj e hp')];exact e
end
end R
end
section
set_option maxHeartbeats 4000000
namespace R
open PySem PySem.Spec PyProof.Rows L2
variable [Mks]
theorem zdQ {d:D}{ds:List D}{r:D}(h:zco d ds=some r):∃kvs t ps b w p,d=.clo kvs/\ds=[.int t,.tup ps,.int b,w]/\za8 ps=some p/\r=(match kvs.find? fun kv=>decide (kv.1=(t,p,b)) with|some kv=>wD kv.2|none=>w):=by
 unfold zco at h
 split at h
 · rename_i kvs t ps b w
   cases e:za8 ps with
   |none=>rw[e] at h;cases h
   | some p =>
     rw[e] at h
     exact⟨kvs,t,ps,b,w,p,rfl,rfl,e,(Option.some.inj h).symm⟩
 · cases h
theorem W3s.val {H:Hp}(k:K3):∀{kvs:List (K3 × Option Int)} {ws:List (K3 × Addr × V)},W3s H kvs ws->((kvs.find? fun kv=>decide (kv.1=k))=none/\val3 ws k=none)\/∃kv,(kvs.find? fun kv=>decide (kv.1=k))=some kv/\val3 ws k=some (vW kv.2)
 | [],_,r=>by rw[show _=[] from r];exact .inl ⟨rfl,rfl⟩
 | (j, o) :: kvs, ws, r => by
   obtain⟨c,w,rfl,_,r2⟩:=r
   unfold val3
   rw[List.find?_cons,List.find?_cons]
   by_cases e:j=k
   · rw[decide_eq_true e];exact .inr ⟨_,rfl,rfl⟩
   · rw[decide_eq_false e];exact W3s.val k r2
theorem W3s.triK {H:Hp}:∀{kvs:List (K3 × Option Int)} {ws:List (K3 × Addr × V)},W3s H kvs ws->TriK H ws
 | [],_,r=>by rw[show _=[] from r];intro x hx;cases hx
 | (j, o) :: kvs, ws, r => by
   obtain⟨c,w,rfl,r0,r2⟩:=r
   intro x hx
   rcases List.mem_cons.mp hx with e|e
   · subst e;exact r0
   · exact W3s.triK r2 x e
theorem zcd {v:V}{r:List V}{us:List Value}(h:Vals (v::r) us):∃u us',us=u::us'/\L2.RelV v u/\Vals r us':=by
 cases h with
 |cons a b=>exact⟨_,_,rfl,a,b⟩
theorem rv_w {K:W.Frag}{ι:List Addr}{H:Hp}(o:Option Int):RV K ι H (wD o) (vW o):=by cases o<;>rfl
section
variable {T:Tab} {cf:CF} {k:Nat} {N:List Str} {sc:Scope} {X:Cx} {pos p:Pos}
theorem zgs {K:W.Frag}{ι:List Addr}{H:Hp}:∀{ps:List D} {is:List Int} {xs:List V},za8 ps=some is->RVs K ι H ps xs->xs=is.map V.int
 | [], is, xs, h, r => by
   have h:is=[]:=by simpa[za8] using h.symm
   subst h;exact r
 | d :: ps, is, xs, h, r => by
   obtain⟨i,js,h1,h2,rfl⟩:=zaI h
   obtain⟨v,w,rfl,r1,r2⟩:=r
   cases d with
   | int j =>
     have h1:j=i:=Option.some.inj h1
     subst h1
     rw[zgs h2 r2,show v=V.int j from r1];rfl
   |_=>cases h1
theorem zjd (G:Gd T cf k N sc X){ca:CE}{x:Str}{ces:CEs}{e:Expr}{es:List Expr}(hx:PE X (.Name x p) (tE X.K cf ca))(ha:PA X (e::es) (tAs X.K cf ces))(hst:(e::es).all zav=true) :
  PE X (.Call (.Name x p) (e::es) [] pos) (tE X.K cf (.callV ca ces)):=by
 rw[List.all_cons,Bool.and_eq_true] at hst
 intro pins s σ H Qv I ⟨δ,ι,S,Qd,hs,hh,w,q⟩
 simp only[evE,zac] at w
 refine wpAny_Call_Name_kw (thn (hx pins s σ H (fun v H1=>∃d ι1 S1,Ext ι H ι1 H1/\RS X.K ι1 H1 δ σ/\RH X.K ι1 H1 S1/\RV X.K ι1 H1 d v/\W (evEs cf ces δ S1) fun ds S2=>W (lift S2 (zco d ds)) Qd) I (tE.run hs hh w fun d v ι1 H1 S1 x1 hs1 hh1 r1 w1=>⟨d,ι1,S1,x1,hs1,hh1,r1,w1⟩)) fun u s1 ⟨v,H1,I1,ru,d,ι1,S1,x1,hs1,hh1,r1,w1⟩=>?_)
 obtain⟨ds,S2,ee,w2⟩:=zdC w1
 obtain⟨r,er,w3⟩:=zaW w2
 obtain⟨kvs,t,ps,b,z,pp,rfl,rfl,hp,rfl⟩:=zdQ er
 obtain⟨f,rfl,cl⟩:=r1
 obtain rfl:u=Value.ref f:=ru
 have fnAt:∀{H':Hp} {s':Shared},HOk X.prog X.w H' s'.heap->CloAt H' f kvs->W.FnAt f s'.heap:=fun {H' s'} ok cl=>by
  obtain⟨c,dd,ou,od,ws,⟨st,pm,ct,doc,c',oc,vs,tt,h0,h1,_⟩,_⟩:=cl
  exact⟨_,_,_,_,(ok f _ h1).1⟩
 refine W.callWith_F (fnAt I1.hok cl) (thn (ha pos pins s1 σ H1 (fun vs H2=>∃ι2 S2,Ext ι1 H1 ι2 H2/\RH X.K ι2 H2 S2/\∃ds',RVs X.K ι2 H2 ds' vs/\W (lift S2 (zco (.clo kvs) ds')) Qd) I1 (tAs.run hs1 hh1 w1 fun ds' vs ι2 H2 S2 x2 hs2 hh2 r2 w2=>⟨ι2,S2,x2,hh2,ds',r2,w2⟩)) fun us s2 ⟨vs,H2,I2,rvs,ι2,S2',x2,hh2,ds',r2,w2'⟩=>?_) (zau hst.1 es X.env) (zaK hst.2)
 have cl2:=cl.kp x2.kp
 refine⟨fnAt I2.hok cl2,?_⟩
 clear w2 w3 er hp ee w1
 obtain⟨r,er,w3⟩:=zaW w2'
 obtain⟨kvs',t,ps,b,z,pp,e1,rfl,hp,rfl⟩:=zdQ er
 cases e1
 obtain⟨v0,r0,rfl,q0,v1,r1',rfl,q1,v2,r2',rfl,q2,v3,r3',rfl,q3,q4⟩:=r2
 cases (show r3'=[] from q4)
 obtain⟨pb,xs,rfl,hpb,rxs⟩:=q1
 rw[zgs hp rxs] at hpb
 obtain⟨u0,us,rfl,ru0,ru⟩:=zcd rvs
 obtain⟨u1,us,rfl,ru1,ru⟩:=zcd ru
 obtain⟨u2,us,rfl,ru2,ru⟩:=zcd ru
 obtain⟨u3,us,rfl,ru3,ru⟩:=zcd ru
 cases ru
 obtain⟨c,dd,ou,od,ws,⟨st,pm,ct,doc,c',oc,vs,tt,h0,h1,h2,h3,h4⟩,hc,ho,hd,w3s⟩:=cl2
 refine wpAny_call (codeAny_mono (zmR (k:=k) (Q:=Qv) (E:=fun _ _ _=>False) (kk:=(t,pp,b)) (pb:=pb) h0 G.room' I2.env0 h1 h2 h3 h4 hc ho hd w3s.triK ru0 ru1 ru2 ru3 q0 rfl hpb q2 fun p hpn=>?_) fun r s' hq=>?_)
 · refine q _ _ (Lf.up (x1.trans x2) ⟨_,ι2,S2',Ext.new hpn _,?_,hh2.new hpn _,w3⟩)
   rcases w3s.val (t,pp,b) with ⟨e1,e2⟩|⟨kv,e1,e2⟩
   · rw[e1,e2];exact q3.ext (Ext.new hpn _)
   · rw[e1,e2];exact rv_w _
 · cases r with
   |error e=>exact False.elim hq
   | ok fl =>
     cases fl with
     |ret u=>exact I2.after hq
     |_=>exact False.elim hq
end
end R
end
section
namespace R
open PySem PySem.Spec PyProof.Rows L2
variable [Mks]
section
variable {T:Tab} {cf:CF} {k:Nat} {N:List Str} {sc:Scope} {X:Cx} {pos p:Pos}
theorem zde {S:R.St}{d:D}{c:Nat}{fs:List (Str × D)}(h:zb7 S d=some (c,fs)):∃l,d=.ref l/\S.get l=some (.ins c fs):=by
 cases d with
 | ref l =>
   refine⟨l,rfl,?_⟩
   unfold zb7 at h
   dsimp only at h
   cases e:S.get l with
   |none=>rw[e] at h;cases h
   | some o =>
     rw[e] at h
     cases o with
     |ins c' fs'=>cases h;rfl
     |_=>cases h
 |_=>cases h
theorem ne_of {α:Type}[BEq α]{xs:List α}{a:α}(h:xs.contains a=true):xs≠[]:=fun e=>by rw[e] at h;simp at h
theorem Gd.clsAt (G:Gd T cf k N sc X)(h0:T.flds≠[]\/T.inits≠[]\/T.isas≠[]){c:Nat}{C:Addr}(h:Mks.cl[c]?=some C):∃x,T.cls[c]?=some x/\Cls X.K C/\X.mg x=some (.ref C)/\∀f,T.flds.contains f=true->NoAttr X.K C f:=by
 have hl:c<T.cls.length:=Nat.lt_of_lt_of_le (List.getElem?_eq_some_iff.mp h).1 (G.tab.cln h0)
 obtain⟨C',h1,h2,h3,h4⟩:=G.tab.cls c T.cls[c] (List.getElem?_eq_getElem hl)
 rw[h] at h1;cases h1
 exact⟨_,List.getElem?_eq_getElem hl,h2,h3,h4⟩
theorem znM (G:Gd T cf k N sc X){ca:CE}{a:Expr}{f:Str}(ha:PE X a (tE X.K cf ca))(hsup:zbe a=true)(hf:T.flds.contains f=true):PE X (.Attribute a f pos) (tE X.K cf (.fld ca f)):=by
 refine PE.imp (zop ha (zcV hsup f X.env _)) fun σ H Qv ⟨δ,ι,S,Q,hs,hh,w,q⟩=>?_
 simp only[evE,zac] at w
 refine tE.run hs hh w fun d v ι1 H1 S1 x1 hs1 hh1 r1 w1=>?_
 obtain⟨u,eu,w2⟩:=zaW w1
 cases ei:zb7 S1 d with
 |none=>rw[ei] at eu;cases eu
 | some pr =>
   obtain⟨c,fs⟩:=pr
   rw[ei] at eu
   have eu:fs.lookup f=some u:=eu
   obtain⟨l,rfl,hl⟩:=zde ei
   obtain⟨b,i1,rfl⟩:=r1
   obtain⟨b',i2,C,dx,ws,hC,hb,rf⟩:=hh1.obj l _ hl
   rw[i1] at i2;cases i2
   obtain⟨_,_,cl,_,na⟩:=G.clsAt (.inl (ne_of hf)) hC
   rcases rf.look f with ⟨e1,_⟩|⟨d',v',e1,e2,rv⟩
   · rw[eu] at e1;cases e1
   · rw[eu] at e1;cases e1
     exact⟨b,C,dx,ws,v',rfl,hb,cl,na f hf,e2,q _ _ (Lf.up x1 (Lf.of hh1 rv w2))⟩
theorem zem {prog:Program}{w:World}{A:Around}{E:Value->Shared->Prop}{s:Shared}{env:Env}{o:Expr}{name:Str}{apos pos:Pos}{args:List Expr}{Q:Value->Shared->Prop}
  (hbase:attributeBase o name env (eval o env)=eval o env)
  (hfew:((backTo pos (starEach args env)).all (fun x=>!x.1)&&(backToKw pos (keywordEach [] env)).all (fun x=>x.1.isSome)
   && decide (args.length+([]:List Keyword).length+(if ([]:List Keyword).isEmpty then 0 else 1)<30))=true)
  (hline:(apos.endLine == pos.line)=true)
  (h:wpAny (model prog w) A (eval o env) (fun ov s₁=>∀pl,wpAny (model prog w) A (getMethod ov name pl) (fun fx s₂=>wpAny (model prog w) A (callWith pos fx.1 fx.2 (backTo pos (starEach args env)) (backToKw pos (keywordEach [] env))) Q E s₂) E s₁) E s) :
  wpAny (model prog w) A (eval (.Call (.Attribute o name apos) args [] pos) env) Q E s:=by
 rw[arm_eval_Call,hbase]
 refine wpAny_bind (wpAny_mono h (fun ov s₁ h₁=>?_) fun _ _ e=>e)
 refine wpAny_bind (wpAny_standAt ?_)
 have hform:methodCallForm (args.length+([]:List Keyword).length) (backTo pos (starEach args env)) (backToKw pos (keywordEach [] env))=true:=hfew
 have hpos:methodCallPos true o env apos pos=pure pos:=by unfold methodCallPos;simp[hline]
 unfold methodCall
 rw[hform]
 refine wpAny_bind (wpAny_holding (wpAny_mono (h₁ _) (fun fx s₂ h₂=>?_) fun _ _ e=>e))
 obtain⟨f,first⟩:=fx
 exact wpAny_bind (wpAny_of_eq hpos h₂)
noncomputable def zhk (X:Cx)(k:Nat)(m:Str)(ta:TE)(t:TA):TE:=fun σ H Q=>ta σ H fun x H1=>∃(a C dx:Addr) (fs:List (Str × V)) (fa:Addr) (fd:FuncData) (ps:List Str) (sp:Sp),x=.ref a/\H1 a=some (.ins C dx fs)/\Cls X.K C/\Meth X.K C m fa/\
 FnOk X.prog X.w X.K X.mg X.base CX0 k fa fd ps sp/\Binds X.K fd ps []/\fs.lookup m=none/\t σ H1 fun vs H2=>sp (x::vs) H2 Q E0
theorem zjA {o e:Expr}{es:List Expr}{m:Str}{ta:TE}{t:TA}{apos:Pos}(he:PE X o ta)(hr:Room k X.A)(ha:PA X (e::es) t)
  (hbase:attributeBase o m X.env (eval o X.env)=eval o X.env)
  (hfew:((backTo pos (starEach (e::es) X.env)).all (fun x=>!x.1)&&(backToKw pos (keywordEach [] X.env)).all (fun x=>x.1.isSome)
   && decide ((e::es).length+([]:List Keyword).length+(if ([]:List Keyword).isEmpty then 0 else 1)<30))=true)
  (hline:(apos.endLine == pos.line)=true) (hst:starEach (e::es) X.env=(false,eval e X.env)::starEach es X.env) (hpl:(backTo pos (starEach es X.env)).any (·.1)=false) :
  PE X (.Call (.Attribute o m apos) (e::es) [] pos) (zhk X k m ta t):=by
 intro pins s σ H Q I h
 refine zem hbase hfew hline (thn (he pins s σ H _ I h) fun u s1 ⟨x,H1,I1,rx,a,C,dx,fs,fa,fd,ps,sp,ex,ea,c,hm,F,hb,l,q⟩ pl=>?_)
 subst ex
 obtain rfl:u=Value.ref a:=rx
 refine zdN I1 ea c hm l ?_
 refine W.callWith_K (first:=[.ref a]) (h₀:=X.base) I.ok.mod.kin hm.kp (thn (ha pos pins s1 σ H1 _ I1 q) fun us s2 ⟨vs,H2,I2,r,q2⟩=>⟨I2.kIn,?_⟩) hst hpl
 exact zeD (us:=.ref a::us) (vs:=.ref a::vs) F hr hb .nil zfD I2 (.cons rfl r) (by rw[List.append_nil];exact q2)
theorem zhN {o:Expr}{m:Str}{ta:TE}{apos:Pos}(he:PE X o ta)(hr:Room k X.A)(hbase:attributeBase o m X.env (eval o X.env)=eval o X.env)(hline:(apos.endLine == pos.line)=true) :
  PE X (.Call (.Attribute o m apos) [] [] pos) (zhk X k m ta tNil):=by
 intro pins s σ H Q I h
 refine zem hbase rfl hline (thn (he pins s σ H _ I h) fun u s1 ⟨x,H1,I1,rx,a,C,dx,fs,fa,fd,ps,sp,ex,ea,c,hm,F,hb,l,q⟩ pl=>?_)
 subst ex
 obtain rfl:u=Value.ref a:=rx
 refine zdN I1 ea c hm l ?_
 exact W.callWith_K0 (first:=[.ref a]) I1.kIn hm.kp (zeD (us:=[.ref a]) (vs:=[.ref a]) F hr hb .nil zfD I1 (.cons rfl .nil) (by rw[List.append_nil];exact q))
noncomputable def mtB (T:Tab)(m:Str)(tb:List (Nat × Nat)):Bool:=tb.all fun p=>T.mts.contains (p.1,m,p.2)
theorem zgY {tb:List (Nat × Nat)}{c f:Nat}(h:tb.lookup c=some f):(c,f)∈tb:=by
 induction tb with
 |nil=>cases h
 | cons p r ih =>
   obtain⟨c',f'⟩:=p
   simp only[List.lookup] at h
   split at h
   · rename_i e
     cases h
     have:=eq_of_beq e
     subst this
     simp
   · exact List.mem_cons_of_mem _ (ih h)
theorem zgl (G:Gd T cf k N sc X){m:Str}{tb:List (Nat × Nat)}{co:CE}{ces:CEs}{σ:L2.St}{H:Hp}{Qv:VK}{t:TA}(hm:mtB T m tb=true)(ht:∀{σ:L2.St} {H:Hp} {Qa:List V->Hp->Prop},tAs X.K cf ces σ H Qa->t σ H Qa)(h:tE X.K cf (.meth m tb co ces) σ H Qv):zhk X k m (tE X.K cf co) t σ H Qv:=by
 obtain⟨δ,ι,S,Q,hs,hh,w,q⟩:=h
 simp only[evE,zac] at w
 refine tE.run hs hh w fun d v ι1 H1 S1 x1 hs1 hh1 r1 w1=>?_
 obtain⟨pr,ei,w2⟩:=zaW w1
 obtain⟨c,fs⟩:=pr
 obtain⟨f,ef,w3⟩:=zaW w2
 split at w3
 · rename_i hn
   rw[zac] at w3
   obtain⟨l,rfl,hl⟩:=zde ei
   have r1':=r1
   obtain⟨b,i1,rfl⟩:=r1
   obtain⟨b',i2,C,dx,ws,hC,hb,rf⟩:=hh1.obj l _ hl
   rw[i1] at i2;cases i2
   have hmt:=List.all_eq_true.mp hm (c,f) (zgY ef)
   obtain⟨C',fa,fd,ps,hC',cl,me,F,bi⟩:=(G.tab.mth c m f hmt).ex
   rw[hC] at hC';cases hC'
   have hlk:ws.lookup m=none:=by
    rcases rf.look m with ⟨_,e2⟩|⟨d',v',e1,_,_⟩
    · exact e2
    · dsimp only at hn;rw[e1] at hn;cases hn
   refine⟨b,C,dx,ws,fa,fd,ps,_,rfl,hb,cl,me,F,bi,hlk,ht ?_⟩
   refine tAs.run hs1 hh1 w3 fun ds vs ι2 H2 S2 x2 hs2 hh2 r2 w4=>?_
   unfold appW at w4
   refine⟨ι2,S2,.ref l::ds,⟨.ref b,vs,rfl,r1'.ext x2,r2⟩,hh2,?_⟩
   obtain⟨d,T',e,w5⟩:=zdC w4
   rw[e]
   exact fun v H' ι' x r hT=>q v H' (Lf.up (x1.trans x2) ⟨d,ι',T',x,r,hT,w5⟩)
 · exact w3.elim
theorem zlB (G:Gd T cf k N sc X){m:Str}{tb:List (Nat × Nat)}{co:CE}{ces:CEs}{o e:Expr}{es:List Expr}{apos:Pos}(hm:mtB T m tb=true)(ho:PE X o (tE X.K cf co))(ha:PA X (e::es) (tAs X.K cf ces))(hst:(e::es).all zav=true)(hsup:zbe o=true)(hl:(apos.endLine == pos.line)=true)(hn:(e::es).length<29) :
  PE X (.Call (.Attribute o m apos) (e::es) [] pos) (tE X.K cf (.meth m tb co ces)):=by
 have hs:=hst
 rw[List.all_cons,Bool.and_eq_true] at hst
 refine PE.imp (zjA ho G.room ha (zcV hsup m X.env _) ?_ hl (zau hst.1 es X.env) (zaK hst.2)) fun σ H Qv h=>zgl G hm (fun z=>z) h
 have h0:=zaK (pos:=pos) (env:=X.env) hs
 have h1:(backTo pos (starEach (e::es) X.env)).all (fun x=>!x.1)=true:=by
  rw[List.all_eq_true]
  intro x hx
  have:=List.any_eq_false.mp h0 x hx
  simpa using this
 have h2:decide ((e::es).length+([]:List Keyword).length+(if ([]:List Keyword).isEmpty then 0 else 1)<30)=true:=by
  rw[decide_eq_true_eq]
  show (e::es).length+0+0<30
  omega
 rw[h1,h2]
 rfl
theorem zgj {ces:CEs}{σ:L2.St}{H:Hp}{Qa:List V->Hp->Prop}(hc:ces=.nil)(h:tAs X.K cf ces σ H Qa):tNil σ H Qa:=by
 subst hc
 obtain⟨δ,ι,S,Q,hs,hh,w,q⟩:=h
 exact q [] H ⟨[],ι,S,Ext.refl _ _,rfl,hh,by simpa[evEs] using w⟩
theorem zja (G:Gd T cf k N sc X){m:Str}{tb:List (Nat × Nat)}{co:CE}{o:Expr}{apos:Pos}(hm:mtB T m tb=true)(ho:PE X o (tE X.K cf co))(hsup:zbe o=true)(hl:(apos.endLine == pos.line)=true) :
  PE X (.Call (.Attribute o m apos) [] [] pos) (tE X.K cf (.meth m tb co .nil)):=
 PE.imp (zhN ho G.room (zcV hsup m X.env _) hl) fun σ H Qv h=>zgl G hm (fun z=>zgj rfl z) h
theorem Vals.nons:∀j:Nat,Vals (List.replicate j .non) (List.replicate j Value.none)
 |0=>.nil
 |j+1=>.cons rfl (Vals.nons j)
theorem zgm (G:Gd T cf k N sc X){c f j:Nat}{C:Addr}{x:Str}{ces:CEs}{σ:L2.St}{H:Hp}{Qv:VK}{t:TA}(hC:Mks.cl[c]?=some C)(ht:∀{σ:L2.St} {H:Hp} {Qa:List V->Hp->Prop},tAs X.K cf ces σ H Qa->t σ H Qa)(h:tE X.K cf (.mk c f x j ces) σ H Qv):zll C (spF X.K cf f) (List.replicate j V.non) E0 t σ H Qv:=by
 obtain⟨δ,ι,S,Q,hs,hh,w,q⟩:=h
 simp only[evE,zac] at w
 refine ht (tAs.run hs hh w fun ds vs ι1 H1 S1 x1 hs1 hh1 r1 w1=>?_)
 intro y dy hy hdy hne
 have hh2:=hh1.new hdy (.own y)
 have x2:Ext ι1 H1 ι1 (upd H1 dy (.own y)):=Ext.new hdy _
 have hy2:(upd H1 dy (.own y)) y=none:=by rw[zae (Ne.symm hne)];exact hy
 have hh3:=hh2.obj' hy2 (.ins C dy []) (.ins c []) ⟨C,dy,[],hC,zai,rfl⟩
 have x3:Ext ι1 (upd H1 dy (.own y)) (ι1++[y]) (upd (upd H1 dy (.own y)) y (.ins C dy [])):=Ext.obj hh2 hy2 _
 unfold appW at w1
 obtain⟨d,T',e,w2⟩:=zdC w1
 refine⟨ι1++[y],S1.push (.ins c []),.ref S1.len::(ds++List.replicate j .non),⟨.ref y,_,rfl,⟨y,hh2.last y,rfl⟩,RVs.append ((r1.ext x2).ext x3) (RVs.nons j)⟩,hh3,?_⟩
 rw[e]
 intro v H' ι' x' r hT
 split at w2
 · rename_i hn
   cases d with
   | non =>
     refine⟨r,q _ _ ⟨.ref S1.len,ι',T',((x1.trans x2).trans x3).trans x',⟨y,zbz x'.pre (hh2.last y),rfl⟩,hT,w2⟩⟩
   |_=>cases hn
 · exact w2.elim
theorem zpJ (G:Gd T cf k N sc X){c f j:Nat}{x:Str}{ces:CEs}{e:Expr}{es:List Expr}(hi:T.inits.contains (c,f,j)=true)(hx:T.cls[c]?=some x)(hg:isGl sc x=true)(hd:(x == ("__debug__":Str))=false)(ha:PA X (e::es) (tAs X.K cf ces))(hst:(e::es).all zav=true) :
  PE X (.Call (.Name x p) (e::es) [] pos) (tE X.K cf (.mk c f x j ces)):=by
 obtain⟨C,fa,fd,ps,hC,M,F,hb⟩:=(G.tab.ini c f j hi).ex
 obtain⟨x',e1,_,hm,_⟩:=G.clsAt (.inr (.inl (ne_of hi))) hC
 rw[hx] at e1;cases e1
 rw[List.all_cons,Bool.and_eq_true] at hst
 exact PE.imp (zl7 M F G.room' (G.gl hg) hm hb (Vals.nons j) zfD ha hd (zau hst.1 es X.env) (zaK hst.2)) fun σ H Qv h=>zgm G hC (fun z=>z) h
theorem znI (G:Gd T cf k N sc X){c f j:Nat}{x:Str}(hi:T.inits.contains (c,f,j)=true)(hx:T.cls[c]?=some x)(hg:isGl sc x=true)(hd:(x == ("__debug__":Str))=false) :
  PE X (.Call (.Name x p) [] [] pos) (tE X.K cf (.mk c f x j .nil)):=by
 obtain⟨C,fa,fd,ps,hC,M,F,hb⟩:=(G.tab.ini c f j hi).ex
 obtain⟨x',e1,_,hm,_⟩:=G.clsAt (.inr (.inl (ne_of hi))) hC
 rw[hx] at e1;cases e1
 exact PE.imp (zjB M F G.room' (G.gl hg) hm hb (Vals.nons j) zfD hd) fun σ H Qv h=>zgm G hC (fun z=>zgj rfl z) h
theorem zoW {e:Expr}{es:List Expr}{env:Env}(hs:(e::es).all zav=true)(hn:(e::es).length<29):((backTo pos (starEach (e::es) env)).all (fun x=>!x.1)&&(backToKw pos (keywordEach [] env)).all (fun x=>x.1.isSome)
  && decide ((e::es).length+([]:List Keyword).length+(if ([]:List Keyword).isEmpty then 0 else 1)<30))=true:=by
 have h0:=zaK (pos:=pos) (env:=env) hs
 have h1:(backTo pos (starEach (e::es) env)).all (fun x=>!x.1)=true:=by
  rw[List.all_eq_true]
  intro x hx
  have:=List.any_eq_false.mp h0 x hx
  simpa using this
 have h2:decide ((e::es).length+([]:List Keyword).length+(if ([]:List Keyword).isEmpty then 0 else 1)<30)=true:=by
  rw[decide_eq_true_eq]
  show (e::es).length+0+0<30
  omega
 rw[h1,h2]
 rfl
theorem zjJ {x m:Str}{sp:Sp}{e:Expr}{es:List Expr}{t:TA}{apos:Pos}(Hs:HasC X.prog X.w X.K X.mg X.base k x m sp)(hr:Room k X.A)(ha:PA X (e::es) t)(hg:Gl X x)(hdb:(x == ("__debug__":Str))=false)
  (hbase:attributeBase (.Name x p) m X.env (eval (.Name x p) X.env)=eval (.Name x p) X.env) (hst:(e::es).all zav=true) (hn:(e::es).length<29) (hline:(apos.endLine == pos.line)=true) :
  PE X (.Call (.Attribute (.Name x p) m apos) (e::es) [] pos) (zdu sp [] E0 t):=by
 obtain⟨C,fa,fd,ps,mc,hm,h1,h2,h3,h4,F,hb⟩:=Hs.ex
 have hst2:=hst
 rw[List.all_cons,Bool.and_eq_true] at hst2
 intro pins s σ H Q I h
 refine zem hbase (zoW hst hn) hline (thn (zfB (v:=.ref C) hg hm rfl hdb pins s σ H (fun v H1=>v=.ref C/\zdu sp [] E0 t σ H1 Q) I ⟨rfl,h⟩) fun u s1 ⟨xv,H1,I1,rx,ex,q⟩ pl=>?_)
 subst ex
 obtain rfl:u=Value.ref C:=rx
 refine W.method_cls I1.kIn h1 (W.cls_value I1.kIn h2 h3 rfl ?_)
 refine W.callWith_K (first:=[]) (h₀:=X.base) I.ok.mod.kin h4 (thn (ha pos pins _ σ H1 _ (I1.tok _) q) fun us s2 ⟨vs,H2,I2,r,q2⟩=>⟨I2.kIn,?_⟩) (zau hst2.1 es X.env) (zaK hst2.2)
 exact zeD (us:=us) (vs:=vs) F hr hb .nil zfD I2 r q2
theorem zg9 {f:Nat}{x m:Str}{ces:CEs}{σ:L2.St}{H:Hp}{Qv:VK}(h:tE X.K cf (.callC f x m ces) σ H Qv):zdu (spF X.K cf f) [] E0 (tAs X.K cf ces) σ H Qv:=by
 obtain⟨δ,ι,S,Q,hs,hh,w,q⟩:=h
 simp only[evE,zac] at w
 refine tAs.run hs hh w fun ds vs ι1 H1 S1 x1 hs1 hh1 r1 w1=>?_
 unfold appW at w1
 rw[List.append_nil]
 refine⟨ι1,S1,ds,r1,hh1,?_⟩
 obtain⟨d,T',e,w2⟩:=zdC w1
 rw[e]
 exact fun v H' ι' x r hT=>q v H' (Lf.up x1 ⟨d,ι',T',x,r,hT,w2⟩)
theorem zje (G:Gd T cf k N sc X){f:Nat}{x m:Str}{ces:CEs}{e:Expr}{es:List Expr}{apos:Pos}(hc:T.cms.contains (x,m,f)=true)(hg:isGl sc x=true)(hd:(x == ("__debug__":Str))=false)(hsup:zbe (.Name x p)=true)(ha:PA X (e::es) (tAs X.K cf ces))(hst:(e::es).all zav=true)(hn:(e::es).length<29)(hl:(apos.endLine == pos.line)=true) :
  PE X (.Call (.Attribute (.Name x p) m apos) (e::es) [] pos) (tE X.K cf (.callC f x m ces)):=
 PE.imp (zjJ (G.tab.cmd x m f hc) G.room ha (G.gl hg) hd (zcV hsup m X.env _) hst hn hl) fun σ H Qv h=>zg9 h
end
end R
end
section
namespace R
open PySem PySem.Spec PyProof.Rows L2
variable [Mks]
section
variable {prog:Program} {w:World} {A:Around} {E:Value->Shared->Prop} {s:Shared}
theorem zb9 {t sl:Addr}{items:Array Value}{vl vu:Value}{lo hi:Option Int}{Q:Value->Shared->Prop}(ht:IsTup s.heap t items)(hs:s.heap.IsSliceOf sl vl vu .none)(pl:IsPart vl lo)(pu:IsPart vu hi)
  (hw:HT.sIx items.size 0 lo=0/\HT.sIx items.size items.size hi=items.size)
  (h:Q (.ref t) s):wpAny (model prog w) A (getItem (.ref t) (.ref sl)) Q E s:=by
 obtain⟨os,hos,hcs,hds⟩:=id hs
 have hTs:s.TypeIs (.ref sl) "slice":=⟨os,hos,hcs⟩
 unfold getItem
 try with_reducible refine wpAny_holding ?_
 first|refine wpAny_bind (wpAny_pure ?_)|skip
 refine wpAny_bind (wpAny_sequenceKey ht.typeIs (by decide) ?_)
 refine wpAny_bind (wpAny_callSpecial?_slot (name:=Str.ofString "__getitem__") ht.typeIs PyProof.Rows.slot_tuple_getitem
  (wpAny_call_entry PyProof.Rows.slot_tuple_getitem ht.typeIs entry_tuple_getitem ?_ (args_tuple_getitem _ _)))
 show wpAny _ _ (Builtin.Tuple.tupleItemsOf (.ref t) >>= _) _ _ s
 refine wpAny_bind (tupleItemsOf_ ht ?_)
 refine wpAny_bind (wpAny_typeOf hTs ?_)
 rw[if_pos (by decide)]
 refine wpAny_bind (HT.sliceApplied_gen hs pl pu ?_)
 have hyes:(((HT.sIx items.size 0 lo:Nat):Int) == 0&&(1:Int) == 1&&(HT.sIx items.size items.size hi - HT.sIx items.size 0 lo) == items.size)=true:=by
  rw[hw.1,hw.2]
  simp
 show wpAny _ _ (if (((HT.sIx items.size 0 lo:Nat):Int) == 0&&(1:Int) == 1&&(HT.sIx items.size items.size hi - HT.sIx items.size 0 lo) == items.size)=true then _ else _) _ _ s
 rw[if_pos hyes]
 unfold Builtin.Tuple.tupleIsExact
 refine wpAny_bind (wpAny_bind (wpAny_typeOf ht.typeIs (wpAny_pure ?_)))
 rw[if_pos (by decide)]
 exact wpAny_bind (wpAny_rule (wpAny_pure ⟨_,rfl,wpAny_pure h⟩))
end
section
variable {T:Tab} {cf:CF} {k:Nat} {N:List Str} {sc:Scope} {X:Cx} {pos p:Pos}
noncomputable def rSlW (K:W.Frag):V->Option Int->Option Int->Hp->VK->Prop:=fun x lo hi H Q=>∃a xs,x=.ref a/\SqT K H a xs/\
 (HT.sIx xs.length 0 lo=0/\HT.sIx xs.length xs.length hi=xs.length)/\Q (.ref a) H
theorem zi7:SlR X (rSlW X.K):=by
 intro pins s σ H x v vl vu lo hi sl Q I rx hs pl pu h
 obtain⟨a,xs,rfl,hx,hw,q⟩:=h
 cases rx
 obtain⟨its,r,ht,hz⟩:=I.tuple hx
 have hlen:its.toArray.size=xs.length:=by rw[List.size_toArray];exact r.length.symm
 exact⟨"tuple",_,PyProof.Rows.slot_tuple_getitem.lookup,ht.typeIs,zb9 ht hs pl pu (by rw[hlen];exact hw) ⟨.ref a,H,I,rfl,q⟩⟩
theorem zf7 (n d:Nat)(o:Option Int):R.sIx n d o=HT.sIx n d o:=by
 cases o<;>rfl
theorem ziO {α:Type}{xs:List α}{lo hi:Option Int}(h:HT.sIx xs.length 0 lo=0/\HT.sIx xs.length xs.length hi=xs.length):cut xs lo hi=xs:=by
 unfold cut
 rw[zf7,zf7,h.1,h.2]
 simp
theorem RVs.cut {K:W.Frag}{ι:List Addr}{H:Hp}{ds:List D}{xs:List V}(r:RVs K ι H ds xs)(lo hi:Option Int):RVs K ι H (R.cut ds lo hi) (cutV xs lo hi):=by
 have hl:=r.length
 unfold R.cut cutV
 rw[zf7,zf7,hl]
 exact (r.drop _).take _
inductive PartOk (X:Cx) (cf:CF):Bool->CE->Option Expr->Prop where
 |no {c:CE} (h:∃d,c=.con d):PartOk X cf false c none
 |yes {c:CE} {e:Expr} (h:PE X e (tE X.K cf c)):PartOk X cf true c (some e)
theorem zpG {ca clo chi:CE}{ml mh:Bool}{a:Expr}{lo hi:Option Expr}{p2:Pos}(ha:PE X a (tE X.K cf ca))(hlo:PartOk X cf ml clo lo)(hhi:PartOk X cf mh chi hi):PE X (.Subscript a (.Slice lo hi none p2) pos) (tE X.K cf (.sl ca ml mh clo chi)):=by
 have fin:∀{σ:L2.St} {δ:Ev} {ι ι1:List Addr} {H H1:Hp} {S1:R.St} {Q:D->R.St->Prop} {Qv:VK} {d:D} {v:V} {y z:Option Int},Ext ι H ι1 H1->RH X.K ι1 H1 S1->RV X.K ι1 H1 d v->(∀v H',Lf X.K ι H Q v H'->Qv v H')->
   W (match d with|.tup ds=>.ok (.tup (R.cut ds y z)) S1|.fix ds=>lay S1 (R.cut ds y z)|.ref p=>(match S1.get p with|some (.lst ds)=>lay S1 (R.cut ds y z)|_=>.bad)|_=>.bad) Q->
   (rSlL X.K v y z H1 Qv\/rSlT X.K v y z H1 Qv)\/rSlW X.K v y z H1 Qv:=by
  intro σ δ ι ι1 H H1 S1 Q Qv d v y z x hh r q w
  cases d with
  | tup ds =>
    obtain⟨a,xs,rfl,ha,rr⟩:=r
    by_cases hw:HT.sIx xs.length 0 y=0/\HT.sIx xs.length xs.length z=xs.length
    · refine .inr ⟨a,xs,rfl,SqT.of ha,hw,q _ _ (Lf.up x (Lf.of (d:=.tup ds) hh ⟨a,xs,rfl,ha,rr⟩ ?_))⟩
      have e:R.cut ds y z=ds:=ziO (by rw[<-rr.length];exact hw)
      dsimp only at w
      rw[e] at w
      exact w
    · exact .inl (.inr ⟨a,xs,rfl,SqT.of ha,hw,fun p hp=>q _ _ (Lf.up x (Lf.tup hh hp (rr.cut y z) w))⟩)
  | fix ds =>
    obtain⟨a,xs,rfl,ha,rr⟩:=r
    obtain⟨_,w2⟩:=zcH w
    exact .inl (.inl ⟨a,xs,rfl,ha.sq,fun p hp=>q _ _ (Lf.up x (Lf.lst hh hp (rr.cut y z) w2))⟩)
  | ref l =>
    dsimp only at w
    cases e:S1.get l with
    |none=>rw[e] at w;exact w.elim
    | some o =>
      rw[e] at w
      cases o with
      | lst ds =>
        obtain⟨a,h1,rfl⟩:=r
        obtain⟨b,h2,xs,ha,rr⟩:=hh.obj _ _ e
        rw[h1] at h2;cases h2
        obtain⟨_,w2⟩:=zcH w
        exact .inl (.inl ⟨a,xs,rfl,SqL.of ha,fun p hp=>q _ _ (Lf.up x (Lf.lst hh hp (rr.cut y z) w2))⟩)
      |_=>exact w.elim
  |_=>exact w.elim
 have part:∀{m:Bool} {c:CE} {o:Option Expr},PartOk X cf m c o->∃t,PO X o t/\∀{δ:Ev} {σ:L2.St} {ι:List Addr} {H:Hp} {S:R.St} {Q:D->R.St->Prop} {Qv:Option Int->Hp->Prop},RS X.K ι H δ σ->RH X.K ι H S->W (evE cf c δ S) Q->
   (∀d S',Q d S'->∃z,zbB m d=some z)->
   (∀d ι' H' S' z,Ext ι H ι' H'->RS X.K ι' H' δ σ->RH X.K ι' H' S'->Q d S'->zbB m d=some z->Qv z H')->t σ H Qv:=by
  intro m c o h
  cases h with
  | no h =>
    obtain⟨d,rfl⟩:=h
    refine⟨_,zfz,fun {δ σ ι H S Q Qv} hs hh w hp h=>?_⟩
    simp only[evE] at w
    exact h d ι H S none (Ext.refl _ _) hs hh w rfl
  | yes h =>
    refine⟨_,zhK h,fun {δ σ ι H S Q Qv} hs hh w hp h=>?_⟩
    refine tE.run hs hh w fun d v ι1 H1 S1 x1 hs1 hh1 r1 w1=>?_
    obtain⟨z,hz⟩:=hp d S1 w1
    cases d with
    | int i =>
      obtain rfl:v=.int i:=r1
      exact⟨i,rfl,h _ _ _ _ _ x1 hs1 hh1 w1 rfl⟩
    |_=>cases hz
 obtain⟨tl,pl,rl⟩:=part hlo
 obtain⟨th,ph,rh⟩:=part hhi
 refine PE.imp (zjz (SlR.or (SlR.or zlu znC) zi7) ha pl ph) fun σ H Qv ⟨δ,ι,S,Q,hs,hh,w,q⟩=>?_
 simp only[evE,zac] at w
 refine tE.run hs hh w fun d v ι1 H1 S1 x1 hs1 hh1 r1 w1=>?_
 have hz:∀(b:Bool) (y:D),zbB b y=none\/∃z,zbB b y=some z:=fun b y=>by cases zbB b y<;>simp
 refine rl hs1 hh1 w1 (fun y S2 w2=>?_) fun y ι2 H2 S2 zl x2 hs2 hh2 w2 hzl=>?_
 · rcases hz ml y with e|e
   · rw[W.iff] at w2
     obtain⟨u,S3,_,w3⟩:=w2
     rw[e] at w3;exact w3.elim
   · exact e
 · refine rh hs2 hh2 w2 (fun u S3 w3=>?_) fun u ι3 H3 S3 zh x3 hs3 hh3 w3 hzh=>?_
   · rcases hz mh u with e|e
     · rw[hzl,e] at w3;exact w3.elim
     · exact e
   · rw[hzl,hzh] at w3
     exact fin (σ:=σ) (δ:=δ) ((x1.trans x2).trans x3) hh3 (r1.ext (x2.trans x3)) q w3
end
end R
end
section
namespace R
open PySem PySem.Spec PyProof.Rows L2
variable [Mks]
theorem zfg {α β:Type}{P:α->β->Prop}{Z:List α->List β->Prop}(z0:Z [] [])(z1:∀{a b as bs},P a b->Z as bs->Z (a::as) (b::bs)){xs:List α}{ys:List β}(g:∀i:Nat,(∃x y,xs[i]?=some x/\ys[i]?=some y/\P x y)\/(xs[i]?=none/\ys[i]?=none)) :
  ∀is:List Nat,Z (is.filterMap (xs[·]?)) (is.filterMap (ys[·]?))
 | []=>z0
 | i :: is => by
   have ih:=zfg z0 z1 g is
   rw[List.filterMap_cons,List.filterMap_cons]
   rcases g i with ⟨x,y,e1,e2,p⟩|⟨e1,e2⟩
   · rw[e1,e2];exact z1 p ih
   · rw[e1,e2];exact ih
theorem Vals.stp {xs:List V}{us:List Value}(r:Vals xs us)(k:Int):Vals (R.stp xs k) (R.stp us k):=by
 unfold R.stp
 rw[r.length]
 refine zfg (P:=RelV) (Z:=Vals) .nil (fun p z=>.cons p z) (fun i=>?_) _
 cases e:xs[i]? with
 |none=>exact .inr ⟨rfl,Vals.none_of r e⟩
 | some x =>
   obtain⟨u,h1,h2⟩:=Vals.get r e
   exact .inl ⟨x,u,rfl,h1,h2⟩
theorem RVs.stp {K:W.Frag}{ι:List Addr}{H:Hp}{ds:List D}{xs:List V}(r:RVs K ι H ds xs)(k:Int):RVs K ι H (R.stp ds k) (R.stp xs k):=by
 have hl:=r.length
 unfold R.stp
 rw[hl]
 refine zfg (P:=RV K ι H) (Z:=RVs K ι H) (by unfold RVs;trivial) (fun p z=>RVs.cons_iff.mpr ⟨p,z⟩) (fun i=>?_) _
 cases e:ds[i]? with
 | none =>
   refine .inr ⟨rfl,?_⟩
   rw[List.getElem?_eq_none_iff] at e⊢
   omega
 | some d =>
   obtain⟨v,h1,h2⟩:=r.get e
   exact .inl ⟨d,v,rfl,h1,h2⟩
theorem zju (its:List Value)(k:Int):slicePick its.toArray none none (some k)=(stp its k).toArray:=by
 unfold slicePick stp stpI
 rw[show its.toArray.size=its.length from List.size_toArray]
 congr 1
 rw[show (fun (x:Nat)=>its.toArray[x]?)=fun x=>its[x]? from by funext x;simp]
 rfl
section
variable {X:Cx} {e st:Expr} {te ts:TE} {pos p2:Pos}
noncomputable def tStp (K:W.Frag)(te ts:TE):TE:=fun σ H Q=>te σ H fun x H1=>znr ts σ H1 fun o H2=>∃k a xs,o=some k/\k≠0/\x=.ref a/\SqL K H2 a xs/\(stp xs k).length<=sizeLine/\∀p,H2 p=none->Q (.ref p) (upd H2 p (.lst (stp xs k)))
theorem zoj (he:PE X e te)(hs:PE X st ts):PE X (.Subscript e (.Slice none none (some st) p2) pos) (tStp X.K te ts):=by
 intro pins s σ H Q I h
 refine Subscript_ (thn (he pins s σ H _ I h) fun v s1 ⟨x,H1,I1,r1,q1⟩=>?_)
 refine wpAny_Slice (thn (zfz pins s1 σ H1 (fun o H'=>o=none/\H'=H1) I1 ⟨rfl,rfl⟩) fun vl s2 ⟨l,H2,I2,pl,q2⟩=>?_)
 obtain⟨rfl,rfl⟩:=q2
 refine thn (zfz pins s2 σ H2 (fun o H'=>o=none/\H'=H2) I2 ⟨rfl,rfl⟩) fun vu s3 ⟨u,H3,I3,pu,q3⟩=>?_
 obtain⟨rfl,rfl⟩:=q3
 refine thn (zhK hs pins s3 σ H3 _ I3 q1) fun vs s4 ⟨c,H4,I4,ps,q4⟩=>?_
 obtain⟨k,a,xs,rfl,hk,rfl,ha,hz,q⟩:=q4
 cases r1
 have I5:Inv X pins σ H4 {s4 with heap:=s4.heap.push {cls:=.type "slice",data:=.fields #[vl,vu,vs]}}:=I4.kept (t':=s4.toks) fun b ob q=>Heap.get?_push_of_some _ q
 obtain⟨its,r,ht,hz'⟩:=I5.list ha
 have hlen:=r.length
 show wpAny (model X.prog X.w) X.A (subscriptTail e (.Slice none none (some st) p2) (.ref a) (.ref s4.heap.objs.size)) (EP X pins σ Q) X.xe {s4 with heap:=s4.heap.push {cls:=.type "slice",data:=.fields #[vl,vu,vs]}}
 refine tail_any (ops:=[.ref a,.ref s4.heap.objs.size]) ht.isList.typeIs slot_list_getitem.lookup ?_ (by with_unfolding_all rfl)
 refine wpAny_getItem_list_slice ht.isList (Heap.IsSliceOf.new ..) pl pu ps (by simpa using hk) ?_ (by rw[List.size_toArray]<;>omega)
 rw[zju]
 refine⟨.ref _,_,I5.laid (t':=s4.toks) (o:=.lst (stp xs k)) (fun b ob q=>Heap.get?_push_of_some _ q) (Nat.le_refl _) ?_,rfl,q _ (I5.hok.fresh (Nat.le_refl _))⟩
 exact⟨hz,_,0,Vals.stp r k,Heap.get?_push_size _ rfl⟩
end
section
variable {X:Cx} {cf:CF} {pos p2:Pos}
theorem znE {ca cb:CE}{a b:Expr}(ha:PE X a (tE X.K cf ca))(hb:PE X b (tE X.K cf cb)):PE X (.Subscript a (.Slice none none (some b) p2) pos) (tE X.K cf (.slS ca cb)):=by
 refine PE.imp (zoj ha hb) fun σ H Qv ⟨δ,ι,S,Q,hs,hh,w,q⟩=>?_
 simp only[evE,zac] at w
 refine tE.run hs hh w fun d v ι1 H1 S1 x1 hs1 hh1 r1 w1=>?_
 refine tE.run hs1 hh1 w1 fun y u ι2 H2 S2 x2 hs2 hh2 r2 w2=>?_
 cases d with
 | ref l =>
   cases y with
   | int k =>
     obtain rfl:u=.int k:=r2
     dsimp only at w2
     by_cases hk:k=0
     · rw[if_pos hk] at w2;exact w2.elim
     · rw[if_neg hk] at w2
       cases e:S2.get l with
       |none=>rw[e] at w2;exact w2.elim
       | some o =>
         rw[e] at w2
         cases o with
         | lst ds =>
           have r1':=r1.ext x2
           obtain⟨a',h1,rfl⟩:=r1'
           obtain⟨b',h2,xs,ha',rr⟩:=hh2.obj _ _ e
           rw[h1] at h2;cases h2
           obtain⟨hz,w3⟩:=zcH w2
           refine⟨k,rfl,k,a',xs,rfl,hk,rfl,SqL.of ha',?_,fun p hp=>q _ _ (Lf.up (x1.trans x2) (Lf.lst hh2 hp (rr.stp k) w3))⟩
           rw[(rr.stp k).length];exact hz
         |_=>exact w2.elim
   |_=>exact w2.elim
 |_=>exact w2.elim
end
end R
end
section
namespace R
open PySem PySem.Spec PyProof.Rows L2
variable [Mks]
noncomputable def rB (K:W.Frag)(f:R.St->List D->Out D):List V->Hp->VK->Prop:=fun xs H Qv=>∃ι S ds Qd,RVs K ι H ds xs/\RH K ι H S/\W (f S ds) Qd/\∀v H',Lf K ι H Qd v H'->Qv v H'
section
variable {T:Tab} {cf:CF} {k:Nat} {N:List Str} {sc:Scope} {X:Cx} {pos p:Pos}
theorem RVs.one {K:W.Frag}{ι:List Addr}{H:Hp}{d:D}{xs:List V}(r:RVs K ι H [d] xs):∃v,xs=[v]/\RV K ι H d v:=by
 obtain⟨v,w,rfl,r1,r2⟩:=r
 cases (show w=[] from r2)
 exact⟨v,rfl,r1⟩
theorem RVs.two {K:W.Frag}{ι:List Addr}{H:Hp}{d e:D}{xs:List V}(r:RVs K ι H [d,e] xs):∃v u,xs=[v,u]/\RV K ι H d v/\RV K ι H e u:=by
 obtain⟨v,w,rfl,r1,r2⟩:=r
 obtain⟨u,rfl,r3⟩:=RVs.one r2
 exact⟨v,u,rfl,r1,r3⟩
theorem zoK:zcc X (.builtin "len") (rB X.K fun S ds=>R.bi S .len ds):=by
 intro pins s σ H xs us Qv I rv ⟨ι,S,ds,Qd,r,hh,w,q⟩
 dsimp only at w
 unfold bi at w
 split at w
 case h_1 x=>
  obtain⟨v,rfl,rr⟩:=r.one
  split at w
  · obtain⟨a,xs,rfl,ha,r2⟩:=rr
    refine zbG pins s σ H _ us Qv I rv ⟨a,xs,rfl,.inr (SqT.of ha),?_⟩
    rw[r2.length]
    exact q _ _ (Lf.of (d:=.int _) hh rfl w)
  · obtain⟨a,xs,rfl,ha,r2⟩:=rr
    refine zbG pins s σ H _ us Qv I rv ⟨a,xs,rfl,.inl ha.sq,?_⟩
    rw[r2.length]
    exact q _ _ (Lf.of (d:=.int _) hh rfl w)
  · rename_i l
    obtain⟨a,h1,rfl⟩:=rr
    cases e:S.get l with
    |none=>rw[e] at w;exact w.elim
    | some o =>
      rw[e] at w
      obtain⟨b,h2,h3⟩:=hh.obj _ _ e
      rw[h1] at h2;cases h2
      cases o with
      | lst ds =>
        obtain⟨xs,ha,r2⟩:=h3
        refine zbG pins s σ H _ us Qv I rv ⟨a,xs,rfl,.inl (SqL.of ha),?_⟩
        rw[r2.length]
        exact q _ _ (Lf.of (d:=.int _) hh rfl w)
      |ins _ _=>exact w.elim
      |d3 _=>exact w.elim
  · exact w.elim
 all_goals first|exact w.elim|(rename_i h;cases h)
theorem zoF (hc:X.calm=true):zcc X (.builtin "min") (rB X.K fun S ds=>R.bi S .min2 ds):=by
 intro pins s σ H xs us Qv I rv ⟨ι,S,ds,Qd,r,hh,w,q⟩
 dsimp only at w
 unfold bi at w
 split at w
 case h_2 i j _=>
  obtain⟨v,u,rfl,r1,r2⟩:=r.two
  obtain rfl:v=.int i:=r1
  obtain rfl:u=.int j:=r2
  exact ziS hc pins s σ H _ us Qv I rv ⟨i,j,rfl,q _ _ (Lf.of (d:=.int _) hh rfl w)⟩
 all_goals first|exact w.elim|(rename_i h;cases h)
theorem zbI (G:Gd T cf k N sc X){x:Str}(h:bltB T sc x=true):Gl X x/\X.mg x=none:=by
 unfold bltB at h
 rw[Bool.and_eq_true] at h
 exact⟨G.gl h.1,G.tab.blt x h.2⟩
theorem zpL {b:Bi}{id:String}{x:Str}{ces:CEs}{e:Expr}{es:List Expr}(hc:zcc X (.builtin id) (rB X.K fun S ds=>R.bi S b ds))(hg:Gl X x/\X.mg x=none)(hv:bootBuiltins x=some (.builtin id))(ha:PA X (e::es) (tAs X.K cf ces))(hst:(e::es).all zav=true)(hn:x≠"__name__")(hdb:(x == ("__debug__":Str))=false) :
  PE X (.Call (.Name x p) (e::es) [] pos) (tE X.K cf (.bi b ces)):=by
 rw[List.all_cons,Bool.and_eq_true] at hst
 refine PE.imp (zeg hc hg.1 hg.2 hv ha hn hdb (zau hst.1 es X.env) (zaK hst.2)) fun σ H Qv ⟨δ,ι,S,Q,hs,hh,w,q⟩=>?_
 simp only[evE,zac] at w
 refine tAs.run hs hh w fun ds vs ι1 H1 S1 x1 hs1 hh1 r1 w1=>?_
 exact⟨ι1,S1,ds,Q,r1,hh1,w1,fun v H' l=>q v H' (Lf.up x1 l)⟩
theorem zle {ι:List Addr}{H:Hp}{S:R.St}{d:D}{v:V}{a:String}(hh:RH X.K ι H S)(r:RV X.K ι H d v)(h:tyOf S d=some a):zcF H v=some a:=by
 cases d with
 |non=>obtain rfl:v=.non:=r;exact h
 |bl b=>obtain rfl:v=.bl b:=r;exact h
 |int b=>obtain rfl:v=.int b:=r;exact h
 |str b=>obtain rfl:v=.str b:=r;exact h
 | tup ds =>
   obtain⟨p,xs,rfl,ha,_⟩:=r
   simp only[tyOf] at h
   simp only[zcF,ha]
   exact h
 | ref l =>
   obtain⟨p,h1,rfl⟩:=r
   simp only[tyOf] at h
   simp only[zcF]
   cases e:S.get l with
   |none=>rw[e] at h;cases h
   | some o =>
     rw[e] at h
     obtain⟨b,h2,h3⟩:=hh.obj _ _ e
     rw[h1] at h2;cases h2
     cases o with
     |lst ds=>obtain⟨xs,ha,_⟩:=h3;rw[ha];exact h
     |ins _ _=>cases h
     |d3 _=>cases h
 |fix ds=>cases h
 |clo ds=>cases h
theorem zlC (G:Gd T cf k N sc X){t:String}{y:Str}{p2:Pos}{ce:CE}{e:Expr}(hg:Gl X "isinstance"/\X.mg "isinstance"=none)(hy:Gl X y/\X.mg y=none)(hb:bootBuiltins y=some (.type t))(ht:t∈["bool","int","str","list","tuple","dict"])(hyn:y≠"__name__")(hyd:(y == ("__debug__":Str))=false)
  (he:PE X e (tE X.K cf ce)) (hst:zav e=true):PE X (.Call (.Name "isinstance" p) [e,.Name y p2] [] pos) (tE X.K cf (.bi (.isin t) (.cons ce .nil))):=by
 refine PE.imp (zeg zfU hg.1 hg.2 zcw (za4 he (za4 (zmb (v:=.ty t) hy.1 hy.2 hb rfl hyn hyd) zdH) (zau hst _ X.env)) (by decide) (by decide) (zau hst _ X.env)) fun σ H Qv ⟨δ,ι,S,Q,hs,hh,w,q⟩=>?_
 simp only[evE,evEs,zac,W_ok] at w
 refine tE.run hs hh w fun d v ι1 H1 S1 x1 hs1 hh1 r1 w1=>?_
 simp only[bi] at w1
 cases e:tyOf S1 d with
 |none=>rw[e] at w1;exact w1.elim
 | some a =>
   rw[e] at w1
   exact⟨v,t,a,rfl,zle hh1 r1 e,ht,q _ _ (Lf.up x1 (Lf.of (d:=.bl _) hh1 rfl w1))⟩
theorem zil {ι:List Addr}{H:Hp}{S:R.St}{d:D}{v:V}(hh:RH X.K ι H S)(r:RV X.K ι H d v)(h:isL S d=true):tyV X.K "list" v H:=by
 cases d with
 | ref l =>
   obtain⟨p,h1,rfl⟩:=r
   simp only[isL] at h
   cases e:S.get l with
   |none=>rw[e] at h;cases h
   | some o =>
     rw[e] at h
     obtain⟨b,h2,h3⟩:=hh.obj _ _ e
     rw[h1] at h2;cases h2
     cases o with
     |lst ds=>obtain⟨xs,ha,_⟩:=h3;exact .inl ⟨rfl,xs,SqL.of ha⟩
     |_=>cases h
 |_=>cases h
noncomputable def rM (K:W.Frag)(m:Mt):V->List V->Hp->VK->Prop:=fun x xs H Qv=>∃ι S d ds Qd,RV K ι H d x/\RVs K ι H ds xs/\RH K ι H S/\W (R.mt S m d ds) Qd/\∀v H',Lf K ι H Qd v H'->Qv v H'
theorem ziX:MtR X "list.append" (rM X.K .append):=by
 intro pins s σ H x xs v us Qv I rx rv ⟨ι,S,d,ds,Qd,r,rs,hh,w,q⟩
 unfold R.mt at w
 split at w
 case h_1 l y _=>
  obtain⟨a,h1,rfl⟩:=r
  obtain⟨u,rfl,ru⟩:=rs.one
  cases e:S.get l with
  |none=>rw[e] at w;exact w.elim
  | some o =>
    rw[e] at w
    obtain⟨b,h2,h3⟩:=hh.obj _ _ e
    rw[h1] at h2;cases h2
    cases o with
    | lst ds =>
      obtain⟨zs,ha,r2⟩:=h3
      obtain⟨c,S',hp,w2⟩:=zk6 w
      refine zeU pins s σ H _ _ v us Qv I rx rv ⟨a,zs,u,rfl,rfl,ha,?_,?_⟩
      · rw[r2.length]
        rw[List.length_append,List.length_singleton] at c
        omega
      · exact q _ _ (Lf.wr (d:=.non) hh e h1 hp (r2.append ⟨u,[],rfl,ru,rfl⟩) rfl w2)
    |_=>exact w.elim
 all_goals first|exact w.elim|(rename_i h;cases h)
theorem zhe:∀{ds:List D} {os:List (Option Int)},zcx ds=some os->ds=os.map fun o=>match o with|some i=>D.int i|none=>D.non:=by
 intro ds
 unfold zcx
 induction ds with
 |nil=>intro os h;simp at h;subst h;rfl
 | cons d ds ih =>
   intro os h
   obtain⟨y,r,h1,h2,rfl⟩:=zaI h
   rw[ih h2]
   cases d<;>simp[zbT] at h1<;>subst h1<;>rfl
noncomputable def wV:Option Int->V
 |some i=>.int i
 |none=>.non
theorem zfY {K:W.Frag}{ι:List Addr}{H:Hp}:∀{os:List (Option Int)} {vs:List V},RVs K ι H (os.map fun o=>match o with|some i=>D.int i|none=>D.non) vs->vs=os.map wV
 | [],_,h=>h
 | o :: os, vs, h => by
   obtain⟨v,r,rfl,h1,h2⟩:=h
   rw[zfY h2]
   cases o<;>rw[show v=_ from h1]<;>rfl
theorem zpI {m:Mt}{id:String}{name:Str}{co ce:CE}{o e:Expr}{apos cpos:Pos}(slot:Slot "list" name id)(hty:typeOf (.builtin id)=pure (.type "method_descriptor"))(hm:MtR X id (rM X.K m))(ho:PE X o (tE X.K cf co))(he:PE X e (tE X.K cf ce))(hst:zav e=true)(hsup:zbe o=true)(hl:(apos.endLine == cpos.line)=true) :
  PE X (.Call (.Attribute o name apos) [e] [] cpos) (tE X.K cf (.mt m co (.cons ce .nil))):=by
 refine PE.imp (zor PySem.F.plainAttrs_list slot hty hm ho (zhr he zkG hst) (zcV hsup name X.env _) (by rw[zau hst];rfl) hl (zau hst [] X.env)) fun σ H Qv ⟨δ,ι,S,Q,hs,hh,w,q⟩=>?_
 simp only[evE,zac] at w
 refine tE.run hs hh w fun d v ι1 H1 S1 x1 hs1 hh1 r1 w1=>?_
 split at w1
 · rename_i c
   refine⟨zil hh1 r1 c,?_⟩
   rw[zac] at w1
   refine tAs.run hs1 hh1 w1 fun ds vs ι2 H2 S2 x2 hs2 hh2 r2 w2=>?_
   exact⟨ι2,S2,d,ds,Q,r1.ext x2,r2,hh2,w2,fun z H3 l=>q z H3 (Lf.up (x1.trans x2) l)⟩
 · exact w1.elim
end
end R
end
section
namespace R
open PySem PySem.Spec PyProof.Rows L2
variable [Mks]
section
variable {T:Tab} {cf:CF} {k:Nat} {N:List Str} {sc:Scope} {X:Cx} {pos p:Pos}
theorem SqK.seq {K:W.Frag}{ι:List Addr}{H:Hp}{S:R.St}{a:Addr}{xs:List V}{ds:List D}{lks:List Nat}(h:SqK K ι H S a xs ds lks):SqL K H a xs\/SqT K H a xs:=by
 cases h with
 |tmp h e=>exact .inl (SqL.of e)
 |tup e=>exact .inr (SqT.of e)
 |fix e=>exact .inl e.sq
 |own l hl hi hs e=>exact .inl (SqL.of e)
theorem znB {ce:CE}{e:Expr}(he:PE X e (tE X.K cf ce)):PE X e (tL X.K cf (.val ce)):=by
 refine PE.imp he fun σ H Qv ⟨δ,ι,S,Q,hs,hh,w,q⟩=>?_
 simp only[evL,zac] at w
 refine tE.run hs hh w fun d v ι1 H1 S1 x1 hs1 hh1 r1 w1=>?_
 obtain⟨ds,eq,w2⟩:=zaW w1
 refine q v H1 ⟨ds,lkOf S1 d,ι1,S1,x1,?_,hh1,w2⟩
 cases d with
 | tup es =>
   cases eq
   obtain⟨a,xs,rfl,ha,rr⟩:=r1
   exact⟨a,xs,rfl,rr,.tup ha⟩
 | fix es =>
   cases eq
   obtain⟨a,xs,rfl,ha,rr⟩:=r1
   exact⟨a,xs,rfl,rr,.fix ha⟩
 | ref l =>
   simp only[za6] at eq
   split at eq
   · rename_i ds' e
     cases eq
     obtain⟨a,h1,rfl⟩:=r1
     obtain⟨a2,h2,xs,ha,rr⟩:=hh1.obj _ _ e
     rw[h1] at h2;cases h2
     exact⟨a,xs,rfl,rr,.own l (by simp[lkOf]) h1 e ha⟩
   · cases eq
 |_=>cases eq
theorem zb4 {e:Expr}{te:TE}(he:PE X e te)(hst:zav e=true):PA X [e] (zey te tNil):=za4 he zdH (zau hst [] X.env)
theorem znH (G:Gd T cf k N sc X){cl:CL}{e:Expr}(hg:Gl X "tuple"/\X.mg "tuple"=none)(he:PE X e (tL X.K cf cl))(hst:zav e=true):PE X (.Call (.Name "tuple" p) [e] [] pos) (tE X.K cf (.mkT cl)):=by
 refine PE.imp (zci zet hg.1 hg.2 zgD (zb4 he hst) (by decide) (by decide) (zau hst [] X.env)) fun σ H Qv ⟨δ,ι,S,Q,hs,hh,w,q⟩=>?_
 simp only[evE,zac] at w
 refine tL.run hs hh w fun ds lks v ι1 H1 S1 x1 hs1 hh1 sq w1=>?_
 split at w1
 · rename_i c
   obtain⟨a,xs,rfl,rr,kd⟩:=sq
   have fresh:SqL X.K H1 a xs->∃p ys,[V.ref a]=[V.ref p]/\((SqL X.K H1 p ys/\∀l,H1 l=none->Qv (.ref l) (upd H1 l (.tup ys)))\/(SqT X.K H1 p ys/\Qv (.ref p) H1)):=fun h=>
    ⟨a,xs,rfl,.inl ⟨h,fun l hl=>q _ _ (Lf.up x1 (Lf.tup hh1 hl rr w1))⟩⟩
   cases kd with
   |tmp h e=>exact fresh (SqL.of e)
   |fix e=>exact fresh e.sq
   |own l hl hi hs e=>exact fresh (SqL.of e)
   |tup e=>exact⟨a,xs,rfl,.inr ⟨SqT.of e,q _ _ (Lf.up x1 (Lf.of (d:=.tup ds) hh1 ⟨a,xs,rfl,e,rr⟩ w1))⟩⟩
 · exact w1.elim
theorem zkD (G:Gd T cf k N sc X){cl:CL}{e:Expr}(hg:Gl X "list"/\X.mg "list"=none)(he:PE X e (tL X.K cf cl))(hst:zav e=true):PE X (.Call (.Name "list" p) [e] [] pos) (tE X.K cf (.mkL cl)):=by
 refine PE.imp (zci ze5 hg.1 hg.2 zfW (zb4 he hst) (by decide) (by decide) (zau hst [] X.env)) fun σ H Qv ⟨δ,ι,S,Q,hs,hh,w,q⟩=>?_
 simp only[evE,zac] at w
 refine tL.run hs hh w fun ds lks v ι1 H1 S1 x1 hs1 hh1 sq w1=>?_
 obtain⟨c,w2⟩:=zcH w1
 obtain⟨a,xs,rfl,rr,kd⟩:=sq
 exact⟨a,xs,rfl,kd.seq,fun l hl=>q _ _ (Lf.up x1 (Lf.lst hh1 hl rr w2))⟩
theorem zhV {cl:CL}{σ:L2.St}{H:Hp}{Qv:VK}(h:tE X.K cf (.mkL cl) σ H Qv):tLt X.K cf cl σ H Qv:=by
 obtain⟨δ,ι,S,Q,hs,hh,w,q⟩:=h
 simp only[evE,zac] at w
 refine tLt.run hs hh w fun ds p xs ι1 H1 S1 x1 hs1 hh1 r1 hp e hn w1=>?_
 obtain⟨c,w2⟩:=zcH w1
 refine q _ _ ⟨.ref S1.len,ι1++[p],S1.push (.lst ds),?_,⟨p,hh1.last p,rfl⟩,hh1.one (l:=0) hp ⟨xs,e,r1.up (List.prefix_append _ _) (Kp.refl _)⟩,w2⟩
 refine⟨x1.pre.trans (List.prefix_append _ _),x1.kp,fun b o hb eb=>⟨(x1.rest b o hb eb).1,fun z=>?_⟩⟩
 rcases List.mem_append.mp z with z|z
 · exact (x1.rest b o hb eb).2 z
 · simp at z
   subst z
   rw[hn] at eb;cases eb
theorem znN {ca:CE}{cl:CL}{o e:Expr}{apos cpos:Pos}(ho:PE X o (tE X.K cf ca))(he:PE X e (tLt X.K cf cl))(hst:zav e=true)(hsup:zbe o=true)(hl:(apos.endLine == cpos.line)=true) :
  PE X (.Call (.Attribute o "extend" apos) [e] [] cpos) (tE X.K cf (.ext ca cl)):=by
 refine PE.imp (zor PySem.F.plainAttrs_list PySem.F.slot_list_extend PySem.F.type_list_extend zhU ho (zb4 he hst) (zcV hsup "extend" X.env _) (by rw[zau hst];rfl) hl (zau hst [] X.env)) fun σ H Qv ⟨δ,ι,S,Q,hs,hh,w,q⟩=>?_
 simp only[evE,zac] at w
 refine tE.run hs hh w fun d v ι1 H1 S1 x1 hs1 hh1 r1 w1=>?_
 split at w1
 · rename_i c
   refine⟨zil hh1 r1 c,?_⟩
   rw[zac] at w1
   refine tLt.run hs1 hh1 w1 fun ds b xs ι2 H2 S2 x2 hs2 hh2 rr _ hb _ w2=>?_
   cases d with
   | ref l =>
     obtain⟨a,h1,rfl⟩:=r1.ext x2
     dsimp only at w2
     cases e:S2.get l with
     |none=>rw[e] at w2;exact w2.elim
     | some o =>
       rw[e] at w2
       cases o with
       | lst es =>
         obtain⟨b',h2,zs,ha,rz⟩:=hh2.obj _ _ e
         rw[h1] at h2;cases h2
         obtain⟨c2,S',hp,w3⟩:=zk6 w2
         refine⟨a,b,zs,xs,rfl,rfl,ha,hb,?_,q _ _ (Lf.up (x1.trans x2) (Lf.wr (d:=.non) hh2 e h1 hp (rz.append rr) rfl w3))⟩
         rw[rz.length,rr.length,<-List.length_append];exact c2
       |_=>exact w2.elim
   |_=>exact w2.elim
 · exact w1.elim
end
end R
end
section
set_option maxHeartbeats 4000000
namespace R
open PySem PySem.Spec PyProof.Rows L2
variable [Mks]
section
variable {T:Tab} {cf:CF} {k:Nat} {N:List Str} {sc:Scope} {X:Cx} {pos p:Pos}
theorem zkm:bootBuiltins "range"=some (.type "range"):=by decide +kernel
theorem zhB:zcc X (.type "range") (fun xs H Q=>∃j,xs=[.int j]/\∀p,H p=none->Q (.ref p) (upd H p (.rng 0 j))):=by
 intro pins s σ H xs us Q I r h
 obtain⟨j,rfl,q⟩:=h
 obtain⟨u,rfl,ru⟩:=r.one
 obtain⟨t,rfl⟩:=ru
 refine call_range_1 ⟨.ref s.heap.objs.size,_,I.laid (o:=.rng 0 j) (fun b ob e=>Heap.get?_push_of_some _ e) (Nat.le_refl _) ?_,rfl,q _ (I.hok.fresh (Nat.le_refl _))⟩
 exact⟨_,_,_,Heap.get?_push_size _ rfl⟩
theorem zjT (hc:X.calm=true):zcc X (.type "list") (fun xs H Q=>∃p hi,xs=[.ref p]/\H p=some (.rng 0 hi)/\-(2 ^ 62)<=hi/\hi<2 ^ 62/\hi.toNat<=16777216/\∀l,H l=none->Q (.ref l) (upd H l (.lst ((List.range hi.toNat).map fun (j:Nat)=>.int j)))):=by
 intro pins s σ H xs us Q I r h
 obtain⟨p,hi,rfl,hp,h1,h2,h3,q⟩:=h
 obtain⟨u,rfl,ru⟩:=r.one
 cases (show u=Value.ref p from ru)
 obtain⟨t,t2,t3,e⟩:=(show ObjOk X.prog X.w H s.heap p (.rng 0 hi) from I.hok p _ hp)
 have hn:Builtin.Range.rangeSize 0 hi 1=(hi.toNat:Nat):=by rw[rangeSize_one];split<;>omega
 refine call_list_range (I.ok.hd hc) e (small_one (by decide) (by decide) h1 h2) hn h3 fun h' tk acc c kp hg it=>?_
 refine⟨.ref s.heap.objs.size,_,I.laid (o:=.lst _) kp (Nat.le_refl _) ⟨?_,acc.toList,c,?_,?_⟩,rfl,q _ (I.hok.fresh (Nat.le_refl _))⟩
 · rw[List.length_map,List.length_range,sizeLine_eq];exact h3
 · have key:∀(n:Nat) (us:List Value),us.length=n->(∀(j:Nat) (v:Value),us[j]?=some v->∃t,v=Value.int (0+(j:Int) * 1) t)->Vals ((List.range n).map fun (j:Nat)=>V.int j) us:=by
    intro n
    induction n with
    | zero => intro us hl _; cases us with
      |nil=>exact .nil
      |cons _ _=>simp at hl
    | succ n ih =>
      intro us hl hv
      have hne:us≠[]:=by intro z;subst z;simp at hl
      have hd:us=us.dropLast++[us.getLast hne]:=(List.dropLast_concat_getLast hne).symm
      rw[List.range_succ,List.map_append,hd]
      have hdl:us.dropLast.length=n:=by simp[hl]
      refine Vals.append (ih _ hdl fun j v e=>hv j v ?_) (.cons ?_ .nil)
      · have hj:j<us.dropLast.length:=(List.getElem?_eq_some_iff.mp e).1
        rw[hd,List.getElem?_append_left hj];exact e
      · obtain⟨t,e⟩:=hv n (us.getLast hne) (by
         conv=>lhs;rw[hd]
         rw[List.getElem?_append_right (by omega)]
         simp[hdl])
        exact⟨t,by simpa using e⟩
   exact key _ _ (by simpa using it.1) fun j v e=>it.2 j v (by simpa using e)
 · simpa using hg
theorem zlA (G:Gd T cf k N sc X){ca:CE}{a:Expr}{p2:Pos}(hg:Gl X "list"/\X.mg "list"=none)(hr:Gl X "range"/\X.mg "range"=none)(ha:PE X a (tE X.K cf ca))(hst:zav a=true) :
  PE X (.Call (.Name "list" p) [.Call (.Name "range" p2) [a] [] pos'] [] pos) (tE X.K cf (.mkL (.rng1 ca))):=by
 have hin:=zci (p:=p2) (pos:=pos') zhB hr.1 hr.2 zkm (zb4 ha hst) (by decide) (by decide) (zau hst [] X.env)
 refine PE.imp (zci (zjT G.calm) hg.1 hg.2 zfW (zb4 hin rfl) (by decide) (by decide) rfl) fun σ H Qv ⟨δ,ι,S,Q,hs,hh,w,q⟩=>?_
 simp only[evE,evL,zac] at w
 refine tE.run hs hh w fun d v ι1 H1 S1 x1 hs1 hh1 r1 w1=>?_
 cases d with
 | int j =>
   obtain rfl:v=.int j:=r1
   dsimp only at w1
   split at w1
   · rename_i c
     obtain⟨c2,w2⟩:=zcH w1
     refine⟨j,rfl,fun pr hpr=>⟨pr,j,rfl,zai,c.1,c.2,by simpa[sizeLine_eq] using c2,fun l hl=>?_⟩⟩
     have hh2:=hh1.new hpr (.rng 0 j)
     refine q _ _ (Lf.up (x1.trans (Ext.new hpr _)) (Lf.lst hh2 hl ?_ w2))
     have:=RVs.ints (K:=X.K) (ι:=ι1) (H:=upd H1 pr (.rng 0 j)) ((List.range j.toNat).map fun (m:Nat)=>(m:Int))
     rw[List.map_map,List.map_map] at this
     exact this
   · exact w1.elim
 |_=>exact w1.elim
end
end R
end
section
set_option maxHeartbeats 4000000
namespace R
open PySem PySem.Spec PyProof.Rows L2
variable [Mks]
section
variable {prog:Program} {w:World} {A:Around} {E:Value->Shared->Prop} {s:Shared}
end
section
variable {T:Tab} {cf:CF} {k:Nat} {N:List Str} {sc:Scope} {X:Cx} {pos p p2 pos':Pos}
end
end R
end
section
set_option maxHeartbeats 4000000
namespace R
open PySem PySem.Spec PyProof.Rows L2
section
variable [Mks] {X:Cx} {T:Tab} {cf:CF} {k:Nat} {N:List Str} {sc:Scope} {pos p:Pos}
theorem zjb:PE X (.Dict [] [] pos) (tE X.K cf .dnew3):=by
 refine PE.imp zjG fun σ H Qv ⟨δ,ι,S,Q,hs,hh,w,q⟩=>?_
 simp only[evE] at w
 intro p hp
 exact q _ _ ⟨.ref S.len,ι++[p],S.push (.d3 []),Ext.obj hh hp _,⟨p,hh.last p,rfl⟩,hh.obj' hp _ _ ⟨List.nodup_nil,[],zai,rfl⟩,w⟩
end
end R
end
section
namespace R
open PySem PySem.Spec PyProof.Rows L2
variable [Mks]
structure Ltr (K:W.Frag) (ι:List Addr) (H:Hp) (S:R.St) (lks:List Nat) (ι2:List Addr) (H2:Hp) (S2:R.St):Prop where
 ext:Ext ι H ι2 H2
 rh:RH K ι2 H2 S2
 lck:∀l∈lks,S2.get l=S.get l
structure Wk (K:W.Frag) (J:It) (ds:List D) (lks:List Nat) (ι:List Addr) (H:Hp) (S:R.St):Prop where
 go:∀(i:Nat) (ι2:List Addr) (H2:Hp) (S2:R.St),Ltr K ι H S lks ι2 H2 S2->i<ds.length->J.go i H2
 yld:∀(i:Nat) (ι2:List Addr) (H2:Hp) (S2:R.St) (x:V) (H':Hp),Ltr K ι H S lks ι2 H2 S2->i<ds.length->J.yld i H2 x H'->Ext ι2 H2 ι2 H'/\RH K ι2 H' S2/\∃d,ds[i]?=some d/\RV K ι2 H' d x
 stop:∀(i:Nat) (ι2:List Addr) (H2:Hp) (S2:R.St),Ltr K ι H S lks ι2 H2 S2->ds.length<=i->J.stop i H2
 lks:∀l∈lks,l<S.len
noncomputable def LfI (K:W.Frag)(ι:List Addr)(H:Hp)(Q:List D × List Nat->R.St->Prop)(J:It)(H':Hp):Prop:=∃ds lks ι' S',Ext ι H ι' H'/\RH K ι' H' S'/\Q (ds,lks) S'/\Wk K J ds lks ι' H' S'
noncomputable def tI (K:W.Frag)(cf:CF)(cl:CL):TI:=fun σ H R=>∃δ ι S Q,RS K ι H δ σ/\RH K ι H S/\W (evL cf cl δ S) Q/\∀J H',LfI K ι H Q J H'->R J H'
theorem PI.imp {X:Cx}{tg e:Expr}{t t':TI}(h:PI X tg e t)(i:∀σ H Q,t' σ H Q->t σ H Q):PI X tg e t':=fun pins s σ H Q I q=>h pins s σ H Q I (i σ H Q q)
noncomputable def iSeq (K:W.Frag)(tl:TE):TI:=fun σ H R=>tl σ H fun x H1=>∃a,x=.ref a/\(((∃xs,SqL K H1 a xs)/\R (Itl K a) H1)\/((∃xs,SqT K H1 a xs)/\R (Itt K a) H1))
section
variable {T:Tab} {cf:CF} {k:Nat} {N:List Str} {sc:Scope} {X:Cx} {pos p:Pos} {tg:Expr}
theorem zog {l:Expr}{tl:TE}(hl:PE X l tl):PI X tg l (iSeq X.K tl):=by
 intro pins s σ H R I h
 refine thn (hl pins s σ H _ I h) fun v s1 ⟨x,H1,I1,r1,q1⟩=>?_
 obtain⟨a,rfl,q1⟩:=q1
 cases r1
 rcases q1 with ⟨⟨xs,hq⟩,q⟩|⟨⟨xs,hq⟩,q⟩
 · obtain⟨its,rv,pl,hz⟩:=I1.list hq
   refine wpAny_pyIter_list pl.isList ?_
   refine⟨s1.heap.objs.size,[s1.heap.objs.size],_,_,H1,rfl,I1.kept (t':=s1.toks) fun b o e=>Heap.get?_push_of_some _ e,zex a _,⟨_,Heap.get?_push_size _ rfl,rfl,rfl⟩,fun b hb=>?_,q⟩
   have e:b=s1.heap.objs.size:=by simpa using hb
   subst e
   exact I1.fpOk (Nat.le_refl _) (I1.hok.fresh (Nat.le_refl _))
 · obtain⟨its,rv,pl,hz⟩:=I1.tuple hq
   refine wpAny_pyIter_tuple (show s1.heap.IsTuple a its.toArray from pl) ?_
   refine⟨s1.heap.objs.size,[s1.heap.objs.size],_,_,H1,rfl,I1.kept (t':=s1.toks) fun b o e=>Heap.get?_push_of_some _ e,zgJ a _,⟨_,Heap.get?_push_size _ rfl,rfl,rfl⟩,fun b hb=>?_,q⟩
   have e:b=s1.heap.objs.size:=by simpa using hb
   subst e
   exact I1.fpOk (Nat.le_refl _) (I1.hok.fresh (Nat.le_refl _))
theorem zfd {K:W.Frag}{ι:List Addr}{H:Hp}{S:R.St}{a:Addr}{ds:List D}{lks:List Nat}(hl:∀l∈lks,l<S.len)
  (h:∀ι2 H2 S2,Ltr K ι H S lks ι2 H2 S2->∃xs,SqL K H2 a xs/\RVs K ι2 H2 ds xs/\∀ys,SqL K H2 a ys->True):Wk K (Itl K a) ds lks ι H S where
 go:=fun i ι2 H2 S2 lt hi=>by
  obtain⟨xs,hq,rr,_⟩:=h ι2 H2 S2 lt
  exact⟨xs,xs[i]'(by rw[rr.length];exact hi),hq,List.getElem?_eq_getElem _⟩
 yld:=fun i ι2 H2 S2 x H' lt hi y=>by
  obtain⟨xs,hq,rr,_⟩:=h ι2 H2 S2 lt
  obtain⟨rfl,y⟩:=y
  obtain⟨d,e,r⟩:=rr.get' (y xs hq)
  exact⟨Ext.refl _ _,lt.rh,d,e,r⟩
 stop:=fun i ι2 H2 S2 lt hi=>by
  obtain⟨xs,hq,rr,_⟩:=h ι2 H2 S2 lt
  exact⟨xs,hq,by rw[rr.length];exact hi⟩
 lks:=hl
theorem zm6 {K:W.Frag}{ι:List Addr}{H:Hp}{S:R.St}{a:Addr}{ds:List D}{lks:List Nat}{xs:List V}(hl:∀l∈lks,l<S.len)(e:H a=some (.tup xs))(rr:RVs K ι H ds xs):Wk K (Itt K a) ds lks ι H S where
 go:=fun i ι2 H2 S2 lt hi=>⟨xs,xs[i]'(by rw[rr.length];exact hi),SqT.of (lt.ext.kp.tups _ _ e),List.getElem?_eq_getElem _⟩
 yld:=fun i ι2 H2 S2 x H' lt hi y=>by
  obtain⟨rfl,y⟩:=y
  obtain⟨d,e,r⟩:=(rr.ext lt.ext).get' (y xs (SqT.of (lt.ext.kp.tups _ _ e)))
  exact⟨Ext.refl _ _,lt.rh,d,e,r⟩
 stop:=fun i ι2 H2 S2 lt hi=>⟨xs,SqT.of (lt.ext.kp.tups _ _ e),by rw[rr.length];exact hi⟩
 lks:=hl
theorem zho {cl:CL}{e:Expr}(he:PE X e (tL X.K cf cl))(hlk:∀{δ:Ev} {S:R.St} {Q:List D × List Nat->R.St->Prop},W (evL cf cl δ S) Q->W (evL cf cl δ S) fun r S'=>(∀l∈r.2,l<S'.len)/\Q r S'):PI X tg e (tI X.K cf cl):=by
 refine PI.imp (zog he) fun σ H R ⟨δ,ι,S,Q,hs,hh,w,q⟩=>?_
 refine tL.run hs hh (hlk w) fun ds lks v ι1 H1 S1 x1 hs1 hh1 sq w1=>?_
 obtain⟨hl,w1⟩:=w1
 obtain⟨a,xs,rfl,rr,kd⟩:=sq
 refine⟨a,rfl,?_⟩
 cases kd with
 |tmp h e=>exact .inl ⟨⟨xs,SqL.of e⟩,q _ _ ⟨ds,lks,ι1,S1,x1,hh1,w1,zfd hl fun ι2 H2 S2 lt=>⟨xs,SqL.of (lt.ext.keep h e (by simp)),rr.ext lt.ext,fun _ _=>trivial⟩⟩⟩
 |fix e=>exact .inl ⟨⟨xs,e.sq⟩,q _ _ ⟨ds,lks,ι1,S1,x1,hh1,w1,zfd hl fun ι2 H2 S2 lt=>⟨xs,(e.kp lt.ext.kp).sq,rr.ext lt.ext,fun _ _=>trivial⟩⟩⟩
 |tup e=>exact .inr ⟨⟨xs,SqT.of e⟩,q _ _ ⟨ds,lks,ι1,S1,x1,hh1,w1,zm6 hl e rr⟩⟩
 | own l hm hi hg e =>
   refine .inl ⟨⟨xs,SqL.of e⟩,q _ _ ⟨ds,lks,ι1,S1,x1,hh1,w1,zfd hl fun ι2 H2 S2 lt=>?_⟩⟩
   obtain⟨b,h2,zs,hz,rz⟩:=lt.rh.obj l (.lst ds) ((lt.lck l hm).trans hg)
   rw[zbz lt.ext.pre hi] at h2;cases h2
   exact⟨zs,SqL.of hz,rz,fun _ _=>trivial⟩
theorem zoI {ce:CE}{δ:Ev}{S:R.St}{Q:List D × List Nat->R.St->Prop}(h:W (evL cf (.val ce) δ S) Q):W (evL cf (.val ce) δ S) fun r S'=>(∀l∈r.2,l<S'.len)/\Q r S':=by
 simp only[evL,zac] at h⊢
 refine h.mono fun x S1 h1=>?_
 obtain⟨ds,e,h2⟩:=zaW h1
 rw[e]
 refine⟨fun l hl=>?_,h2⟩
 cases x with
 | ref l' =>
   simp[lkOf] at hl
   subst hl
   simp only[za6] at e
   split at e
   · rename_i e2;exact zar e2
   · cases e
 |_=>simp[lkOf] at hl
theorem zjS {f j:Nat}{ces:CEs}{δ:Ev}{S:R.St}{Q:List D × List Nat->R.St->Prop}(h:W (evL cf (.callL f j ces) δ S) Q):W (evL cf (.callL f j ces) δ S) fun r S'=>(∀l∈r.2,l<S'.len)/\Q r S':=by
 simp only[evL,zac] at h⊢
 exact h.mono fun ds S1 h1=>h1.mono fun r S2 h2=>⟨fun l hl=>by simp at hl,h2⟩
theorem zmm {n:Nat}{js g:List Nat}{it:CL}{c e:CE}{δ:Ev}{S:R.St}{Q:List D × List Nat->R.St->Prop}(h:W (evL cf (.comp n js g it c e) δ S) Q):W (evL cf (.comp n js g it c e) δ S) fun r S'=>(∀l∈r.2,l<S'.len)/\Q r S':=by
 simp only[evL,zac] at h⊢
 refine h.mono fun ds S1 h1=>h1.mono fun r S2 h2=>?_
 split at h2
 · rename_i c;rw[if_pos c];exact⟨fun l hl=>by simp at hl,h2⟩
 · exact h2.elim
theorem zf0 {K:W.Frag}{ι:List Addr}{H:Hp}{S:R.St}(lo:Int)(n:Nat):Wk K (Itr lo n) ((List.range n).map fun (j:Nat)=>D.int (lo+j)) [] ι H S where
 go:=fun i ι2 H2 S2 lt hi=>by show i<n;simpa using hi
 yld:=fun i ι2 H2 S2 x H' lt hi y=>by
  obtain⟨rfl,rfl⟩:=y
  have hi:i<n:=by simpa using hi
  exact⟨Ext.refl _ _,lt.rh,.int (lo+i),by simp[hi],rfl⟩
 stop:=fun i ι2 H2 S2 lt hi=>by show n<=i;simpa using hi
 lks:=fun l hl=>by simp at hl
theorem zlx {ca:CE}{a:Expr}(hg:Gl X "range"/\X.mg "range"=none)(ha:PE X a (tE X.K cf ca))(hst:zav a=true):PI X tg (.Call (.Name "range" p) [a] [] pos) (tI X.K cf (.rng1 ca)):=by
 refine PI.imp (zhM hg.1 hg.2 (zb4 ha hst) (zau hst [] X.env)) fun σ H R ⟨δ,ι,S,Q,hs,hh,w,q⟩=>?_
 simp only[evL,zac] at w
 refine tE.run hs hh w fun d v ι1 H1 S1 x1 hs1 hh1 r1 w1=>?_
 cases d with
 | int j =>
   obtain rfl:v=.int j:=r1
   dsimp only at w1
   split at w1
   · rename_i c
     have e:((List.range j.toNat).map fun (k:Nat)=>D.int k)=(List.range j.toNat).map fun (k:Nat)=>D.int (0+k):=by simp
     rw[e] at w1
     exact⟨j,rfl,c.1,c.2,q _ _ ⟨_,[],ι1,S1,x1,hh1,w1,zf0 0 j.toNat⟩⟩
   · exact w1.elim
 |_=>exact w1.elim
theorem zlw {ca cb:CE}{a b:Expr}(hg:Gl X "range"/\X.mg "range"=none)(ha:PE X a (tE X.K cf ca))(hb:PE X b (tE X.K cf cb))(hst:zav a=true)(hst2:zav b=true):PI X tg (.Call (.Name "range" p) [a,b] [] pos) (tI X.K cf (.rng2 ca cb)):=by
 refine PI.imp (zhL hg.1 hg.2 (za4 ha (zb4 hb hst2) (zau hst [b] X.env)) (by rw[zau hst,zau hst2];rfl) (zau hst2 [] X.env)) fun σ H R ⟨δ,ι,S,Q,hs,hh,w,q⟩=>?_
 simp only[evL,zac] at w
 refine tE.run hs hh w fun d v ι1 H1 S1 x1 hs1 hh1 r1 w1=>tE.run hs1 hh1 w1 fun e u ι2 H2 S2 x2 hs2 hh2 r2 w2=>?_
 split at w2
 · rename_i i j
   obtain rfl:v=.int i:=r1
   obtain rfl:u=.int j:=r2
   split at w2
   · rename_i c
     exact⟨i,j,rfl,c,q _ _ ⟨_,[],ι2,S2,x1.trans x2,hh2,w2,zf0 i (j - i).toNat⟩⟩
   · exact w2.elim
 · exact w2.elim
noncomputable def tG (K:W.Frag)(is:List Nat):TG:=fun v σ H Qv=>∃δ ι d δ',RS K ι H δ σ/\RV K ι H d v/\asgG is d δ=some δ'/\∀σ',RS K ι H δ' σ'->Qv σ' H
noncomputable def tGs (K:W.Frag)(is:List Nat):TGs:=fun vs σ H Qv=>∃δ ι ds,RS K ι H δ σ/\RVs K ι H ds vs/\ds.length=is.length/\∀σ',RS K ι H (zdq is ds δ) σ'->Qv σ' H
theorem PG.imp {t t':TG}(h:PG X tg t)(i:∀v σ H Q,t' v σ H Q->t v σ H Q):PG X tg t':=fun pins s σ H v u Q I r q=>h pins s σ H v u Q I r (i v σ H Q q)
theorem PGs.imp {es:List Expr}{t t':TGs}(h:PGs X es t)(i:∀v σ H Q,t' v σ H Q->t v σ H Q):PGs X es t':=fun pins s σ H v u Q I r q=>h pins s σ H v u Q I r (i v σ H Q q)
theorem zly (G:Gd T cf k N sc X){i:Nat}{x:Str}(hi:N[i]?=some x)(hl:zeZ sc x=true):PG X (.Name x pos) (tG X.K [i]):=by
 refine PG.imp (zfA (i:=i) (by rw[G.nm];exact G.nd) (by rw[G.nm];exact hi) (G.lc hl).1 (G.lc hl).2) fun v σ H Qv ⟨δ,ι,d,δ',hs,r,e,q⟩=>?_
 simp only[asgG] at e
 cases e
 exact q _ (hs.set r i)
noncomputable def zb0 (sc:Scope)(N:List Str):List Nat->List Expr->Bool
 | [],[]=>true
 |i::is,.Name x _::es=>(N[i]? == some x)&&zeZ sc x&&zb0 sc N is es
 |_,_=>false
theorem zeC (G:Gd T cf k N sc X):∀{is:List Nat} {es:List Expr},zb0 sc N is es=true->PGs X es (tGs X.K is)/\(assignEach es X.env).length=is.length/\(assignEach es X.env).findIdx? (·.1)=none
 | [],[],_=>⟨PGs.imp zl6 fun v σ H Qv ⟨δ,ι,ds,hs,r,hl,q⟩=>by
  have:ds=[]:=by simpa using hl
  subst this
  exact⟨r,q σ (by simpa[zdq] using hs)⟩,rfl,rfl⟩
 | [],_::_,h=>by simp[zb0] at h
 |_::_,[],h=>by simp[zb0] at h
 | i :: is, e :: es, h => by
   cases e with
   | Name x pos =>
     simp only[zb0,Bool.and_eq_true,beq_iff_eq] at h
     obtain⟨h1,h2,h3⟩:=zeC G (is:=is) (es:=es) h.2
     refine⟨PGs.imp (zjx (zfA (i:=i) (by rw[G.nm];exact G.nd) (by rw[G.nm];exact h.1.1) (G.lc h.1.2).1 (G.lc h.1.2).2) h1) fun v σ H Qv ⟨δ,ι,ds,hs,r,hl,q⟩=>?_,?_,?_⟩
     · cases ds with
       |nil=>simp at hl
       | cons d ds =>
         obtain⟨v1,vr,rfl,r1,r2⟩:=r
         refine⟨v1,vr,rfl,?_⟩
         exact⟨δ.set i (some d),ι,ds,hs.set r1 i,r2,by simpa using hl,fun σ' hs'=>q σ' (by simpa[zdq] using hs')⟩
     · show ((false,_)::assignEach es X.env).length=_
       simp[h2]
     · show ((false,_)::assignEach es X.env).findIdx? _=_
       simp[List.findIdx?_cons,h3]
   |_=>simp[zb0] at h
theorem zko {is:List Nat}{d:D}{δ δ':Ev}(h2:2<=is.length)(e:asgG is d δ=some δ'):∃ds,d=.tup ds/\ds.length=is.length/\δ'=zdq is ds δ:=by
 match is,h2 with
 | a :: b :: t, _ =>
   cases d with
   | tup ds =>
     simp only[asgG] at e
     split at e
     · rename_i c;cases e;exact⟨ds,rfl,c,rfl⟩
     · cases e
   |_=>cases e
theorem zkB (G:Gd T cf k N sc X){is:List Nat}{es:List Expr}{j:Nat}(h:zb0 sc N is es=true)(h2:2<=is.length):PG X (.Tuple es j pos) (tG X.K is):=by
 obtain⟨h1,hn,hst⟩:=zeC G h
 refine PG.imp (zoh G.calm h1 hn hst) fun v σ H Qv ⟨δ,ι,d,δ',hs,r,e,q⟩=>?_
 obtain⟨ds,rfl,c,rfl⟩:=zko h2 e
 obtain⟨a,xs,rfl,ha,rr⟩:=r
 exact⟨a,xs,rfl,SqT.of ha,by rw[rr.length];exact c,δ,ι,ds,hs,rr,c,q⟩
theorem Ext.tmp {ι ι':List Addr}{H H':Hp}{p:Addr}{vs us:List V}(x:Ext ι H ι' H')(hn:H p=none)(e:H' p=some (.lst vs)):Ext ι H ι' (upd H' p (.lst us)):=by
 refine⟨x.pre,x.kp.trans (.same (Tups.upd_lst e) (fun b o u h=>?_) fun b ps h=>?_),fun b o hb eb=>?_⟩
 · rw[zae];exact h
   rintro rfl
   rw[e] at h;cases h
 · rw[zae];exact h
   rintro rfl
   rw[e] at h;cases h
 · obtain⟨h1,h2⟩:=x.rest b o hb eb
   refine⟨?_,h2⟩
   rw[zae];exact h1
   rintro rfl
   rw[hn] at eb;cases eb
theorem Kp.tmp {H:Hp}{p:Addr}{vs us:List V}(e:H p=some (.lst vs)):Kp H (upd H p (.lst us)):=.same (Tups.upd_lst e) (fun b o u h=>by
 rw[zae];exact h
 rintro rfl
 rw[e] at h;cases h) fun b ps h=>by
 rw[zae];exact h
 rintro rfl
 rw[e] at h;cases h
theorem RH.tmp {K:W.Frag}{ι:List Addr}{H:Hp}{S:R.St}{p:Addr}{vs us:List V}(hh:RH K ι H S)(hp:p∉ι)(e:H p=some (.lst vs)):RH K ι (upd H p (.lst us)) S:=
 ⟨hh.len,hh.nd,fun l o q=>by
  obtain⟨a,h1,h2,hm⟩:=hh.mem q
  exact⟨a,h1,h2.up (List.prefix_refl _) (Kp.tmp e) (zae fun z=>hp (z▸hm))⟩,(Kp.tmp e).tab hh.tab⟩
theorem RS.up {K:W.Frag}{ι ι':List Addr}{H H':Hp}{δ:Ev}{σ:L2.St}(h:RS K ι H δ σ)(hp:ι <+: ι')(hk:Kp H H'):RS K ι' H' δ σ:=
 ⟨h.1,fun i d e=>let ⟨v,e1,r⟩:=h.2 i d e;⟨v,e1,r.up hp hk⟩⟩
theorem RH.lk {K:W.Frag}{ι:List Addr}{H:Hp}{S:R.St}(hh:RH K ι H S)(ks:List Nat):RH K ι H {S with lk:=ks}:=⟨hh.len,hh.nd,fun l o e=>hh.obj l o e,hh.tab⟩
theorem RS.csl {K:W.Frag}{ι:List Addr}{H:Hp}{δ:Ev}{σ:L2.St}(h:RS K ι H δ σ)(nt:Nat)(js:List Nat):RS K ι H (R.csl nt js δ) (L2.csl nt js σ):=by
 refine⟨by simp[R.csl,L2.csl],fun i d e=>?_⟩
 unfold R.csl at e
 unfold L2.csl
 by_cases hi:i<nt
 · rw[List.getElem?_append_left (by simpa using hi),List.getElem?_replicate] at e
   rw[if_pos hi] at e
   cases e
 · rw[List.getElem?_append_right (by simpa using hi)] at e⊢
   simp only[List.length_replicate,List.getElem?_map] at e⊢
   cases ej:js[i - nt]? with
   |none=>rw[ej] at e;cases e
   | some j =>
     rw[ej] at e
     simp only[Option.map_some,Option.some.injEq] at e⊢
     have e2:δ[j]?=some (some d):=by
      cases z:δ[j]? with
      |none=>rw[z] at e;cases e
      |some o=>rw[z] at e;simp at e;rw[e]
     obtain⟨v,ev,r⟩:=h.2 j d e2
     exact⟨v,by rw[ev];rfl,r⟩
theorem ze3 {α:Type}{xs:List α}{i:Nat}{x:α}(h:xs[i]?=some x):xs.drop i=x::xs.drop (i+1):=by
 obtain⟨h1,h2⟩:=List.getElem?_eq_some_iff.mp h
 rw[List.drop_eq_getElem_cons h1,h2]
noncomputable def CInv (K:W.Frag)(cf:CF)(g:List Nat)(c e:CE)(Q:List D × List Nat->R.St->Prop)(ds:List D)(lks:List Nat)(ι1:List Addr)(H1:Hp)(S1:R.St)(p:Addr)(i:Nat)(σ':L2.St)(H':Hp):Prop:=
 i<=ds.length/\∃δ' ι' S' acc vs,RS K ι' H' δ' σ'/\Ltr K ι1 H1 S1 lks ι' H' S'/\S'.lk=lks++S1.lk/\S1.len<=S'.len/\p∉ι'/\H' p=some (.lst vs)/\RVs K ι' H' acc vs/\
  W (zax g (evT cf c) (evE cf e) (ds.drop i) δ' S') fun rest S2=>(acc++rest).length<=16777216/\Q (acc++rest,[]) {S2 with lk:=S1.lk}
theorem zgz {nt:Nat}{js is:List Nat}{it:CL}{c e:CE}{σ:L2.St}{H:Hp}{Qv:VK}(hcf:CFok cf)(h:tLt X.K cf (.comp nt js is it c e) σ H Qv):zlm nt js (tI X.K cf it) (tG X.K is) (tT X.K cf c) (tE X.K cf e) σ H Qv:=by
 obtain⟨δ,ι,S,Q,hs,hh,w,q⟩:=h
 simp only[evL,zac] at w
 refine⟨δ,ι,S,_,hs,hh,w,fun J H1 ⟨ds,lks,ι1,S1,x1,hh1,w1,wk⟩=>?_⟩
 dsimp only at w1
 unfold za1 at w1
 rw[zac] at w1
 intro p hp
 have hpi:=hh1.fresh hp
 refine⟨fun i m σ' H'=>m=ds.length - i/\CInv X.K cf is c e Q ds lks ι1 H1 S1 p i σ' H',⟨_,rfl,Nat.zero_le _,R.csl nt js δ,ι1,{S1 with lk:=lks++S1.lk},[],[],((hs.ext x1).csl _ _).up (List.prefix_refl _) (Kp.new hp _),⟨Ext.new hp _,(hh1.lk _).new hp _,fun l _=>rfl⟩,rfl,Nat.le_refl _,hpi,zai,rfl,?_⟩,?_⟩
 · refine w1.mono fun rest S2 w2=>?_
   simp only[W_ok] at w2
   split at w2
   · rename_i c;exact⟨by simpa using c,by simpa using w2⟩
   · exact w2.elim
 rintro i m σ' H' ⟨rfl,hle,δ',ι',S',acc,vs,hs',lt,hlk,hln,hpn,hpv,ra,wt⟩
 rcases Nat.lt_or_eq_of_le hle with hlt|rfl
 · refine .inr ⟨wk.go i ι' H' S' lt hlt,CInv X.K cf is c e Q ds lks ι1 H1 S1 p (i+1),fun σ2 H2 h=>⟨_,by omega,rfl,h⟩,fun x H2 hy=>?_⟩
   obtain⟨x2,hh2,d,hd,rd⟩:=wk.yld i ι' H' S' x H2 lt hlt hy
   have hs2:=hs'.ext x2
   have hp2:=x2.keep hpn hpv (by simp)
   rw[ze3 hd] at wt
   simp only[zax] at wt
   cases ea:asgG is d δ' with
   |none=>rw[ea] at wt;exact wt.elim
   | some δ2 =>
     rw[ea] at wt
     dsimp only at wt
     rw[zac] at wt
     refine⟨δ',ι',d,δ2,hs2,rd,ea,fun σ2 hs3=>?_⟩
     refine tT.run hs3 hh2 (zes hcf c δ2 S' _ wt) fun b ι3 H3 S3 x3 hs4 hh3 w3=>?_
     obtain⟨w3,f3⟩:=w3
     have hp3:=x3.keep hpn hp2 (by simp)
     have hpn3:=(x3.rest p _ hpn hp2).2
     have keep:∀{S4:R.St},Frm S' S4->S4.lk=lks++S1.lk/\S1.len<=S4.len/\∀l∈lks,S4.get l=S1.get l:=fun f=>⟨f.lk.trans hlk,Nat.le_trans hln f.lens,fun l hl=>
      (f.same l (by rw[hlk];exact List.mem_append_left _ hl) (Nat.lt_of_lt_of_le (wk.lks l hl) hln)).trans (lt.lck l hl)⟩
     cases b with
     | false =>
       simp only[Bool.false_eq_true,if_false] at w3⊢
       obtain⟨k1,k2,k3⟩:=keep f3
       exact⟨hlt,δ2,ι3,S3,acc,vs,hs4,⟨(lt.ext.trans x2).trans x3,hh3,k3⟩,k1,k2,hpn3,hp3,(ra.ext x2).ext x3,w3⟩
     | true =>
       simp only[if_true] at w3⊢
       rw[zac] at w3
       refine tE.run hs4 hh3 (zaC hcf e δ2 S3 _ w3) fun z v ι4 H4 S4 x4 hs5 hh4 rz w4=>?_
       obtain⟨w4,f4⟩:=w4
       obtain⟨k1,k2,k3⟩:=keep (f3.trans f4)
       have hp4:=x4.keep hpn3 hp3 (by simp)
       have hpn4:=(x4.rest p _ hpn3 hp3).2
       rw[zac] at w4
       have ra4:=((ra.ext x2).ext x3).ext x4
       have hlen:acc.length<16777216:=by
        obtain⟨rest,S5,_,w5⟩:=zdC w4
        have:=w5.1
        simp at this
        omega
       refine⟨vs,hp4,by rw[ra4.length,sizeLine_eq];exact hlen,hlt,δ2,ι4,S4,acc++[z],vs++[v],hs5.up (List.prefix_refl _) (Kp.tmp hp4),⟨(((lt.ext.trans x2).trans x3).trans x4).tmp hp hp4,hh4.tmp hpn4 hp4,k3⟩,k1,k2,hpn4,zai,?_,?_⟩
       · exact (RVs.append (es:=[z]) (us:=[v]) ra4 ⟨v,[],rfl,rz,rfl⟩).up (List.prefix_refl _) (Kp.tmp hp4)
       · refine w4.mono fun rest S5 w5=>?_
         simp only[W_ok] at w5
         simpa using w5
 · refine .inl ⟨wk.stop _ ι' H' S' lt (Nat.le_refl _),?_⟩
   rw[List.drop_length] at wt
   simp only[zax,W_ok,List.append_nil] at wt
   exact q _ _ ⟨acc,ι',{S' with lk:=S1.lk},p,vs,x1.trans lt.ext,rfl,ra,hpn,hpv,lt.rh.lk _,zfa hh1 x1 hp,wt.2⟩
end
end R
end
section
namespace R
open PySem PySem.Spec PyProof.Rows L2
variable [Mks]
section
variable {T:Tab} {cf:CF} {k:Nat} {N:List Str} {sc:Scope} {X:Cx} {pos p:Pos} {tg:Expr}
end
end R
end
section
set_option maxHeartbeats 4000000
namespace R
open PySem PySem.Spec PyProof.Rows L2
open AutoSeq1 (wpAny_loadPart')
section
variable {prog:Program} {w:World} {A:Around} {E:Value->Shared->Prop} {s:Shared}
end
variable [Mks]
section
variable {T:Tab} {cf:CF} {k:Nat} {N:List Str} {sc:Scope} {X:Cx} {pos p:Pos} {tg:Expr}
end
end R
end
section
namespace R
open PySem PySem.Spec PyProof.Rows L2
variable [Mks]
section
variable {T:Tab} {cf:CF} {k:Nat} {N:List Str} {sc:Scope} {X:Cx} {pos p:Pos}
theorem zkl (D:Addr):zcc X (.builtin "isinstance") (fun xs H Q=>∃a C dx fs b,xs=[.ref a,.ref D]/\H a=some (.ins C dx fs)/\Cls X.K C/\IsaOk X.K C/\W.kitOne X.K (.ref C) (.ref D)=some b/\Q (.bl b) H):=by
 intro pins s σ H xs us Q I r h
 obtain⟨a,C,dx,fs,b,rfl,ha,hc,ok,hk,q⟩:=h
 obtain⟨u,w',rfl,rx,rc⟩:=zlb r
 cases (show w'=Value.ref D from rc)
 exact zeY I rx (.ins ha hc ok.ha ok.hn ok.ht ok.hm) hk fun tk=>⟨.bl b,H,I.tok tk,rfl,q⟩
theorem znL (G:Gd T cf k N sc X){cs:List Nat}{x:Str}{p2:Pos}{ce:CE}{e:Expr}(hg:Gl X "isinstance"/\X.mg "isinstance"=none)(hx:isGl sc x=true)(hd:(x == ("__debug__":Str))=false)(hi:T.isas.contains (x,cs)=true)
  (he:PE X e (tE X.K cf ce)) (hst:zav e=true):PE X (.Call (.Name "isinstance" p) [e,.Name x p2] [] pos) (tE X.K cf (.isc cs x ce)):=by
 obtain⟨D,hm,hD⟩:=G.tab.isa x cs hi
 refine PE.imp (zeg (zkl D) hg.1 hg.2 zcw (za4 he (za4 (zfB (v:=.ref D) (G.gl hx) hm rfl hd) zdH) (zau hst _ X.env)) (by decide) (by decide) (zau hst _ X.env)) fun σ H Qv ⟨δ,ι,S,Q,hs,hh,w,q⟩=>?_
 simp only[evE,zac] at w
 refine tE.run hs hh w fun d v ι1 H1 S1 x1 hs1 hh1 r1 w1=>?_
 obtain⟨pr,ei,w2⟩:=zaW w1
 obtain⟨c,fs⟩:=pr
 obtain⟨l,rfl,hl⟩:=zde ei
 obtain⟨b,i1,rfl⟩:=r1
 obtain⟨b',i2,C,dx,ws,hC,hb,rf⟩:=hh1.obj l _ hl
 rw[i1] at i2;cases i2
 obtain⟨_,_,cl,_,_⟩:=G.clsAt (.inr (.inr (ne_of hi))) hC
 obtain⟨ok,kit⟩:=hD c C hC
 exact⟨b,C,dx,ws,_,rfl,hb,cl,ok,kit,q _ _ (Lf.up x1 (Lf.of (d:=.bl _) hh1 rfl w2))⟩
theorem znQ {ca:CE}{o:Expr}{apos cpos:Pos}(ho:PE X o (tE X.K cf ca))(hsup:zbe o=true)(hl:(apos.endLine == cpos.line)=true) :
  PE X (.Call (.Attribute o "clear" apos) [] [] cpos) (tE X.K cf (.clr ca)):=by
 refine PE.imp (zoq PySem.F.plainAttrs_list PySem.F.slot_list_clear PySem.F.type_list_clear zjO ho (zcV hsup "clear" X.env _) hl) fun σ H Qv ⟨δ,ι,S,Q,hs,hh,w,q⟩=>?_
 simp only[evE,zac] at w
 refine tE.run hs hh w fun d v ι1 H1 S1 x1 hs1 hh1 r1 w1=>?_
 split at w1
 · rename_i c
   refine⟨zil hh1 r1 c,?_⟩
   cases d with
   | ref l =>
     obtain⟨a,h1,rfl⟩:=r1
     dsimp only at w1
     cases e:S1.get l with
     |none=>simp[isL,e] at c
     | some o =>
       cases o with
       | lst es =>
         obtain⟨b',h2,zs,ha,rz⟩:=hh1.obj _ _ e
         rw[h1] at h2;cases h2
         obtain⟨c2,S',hp,w3⟩:=zk6 w1
         exact⟨a,zs,rfl,rfl,ha,q _ _ (Lf.up x1 (Lf.wr (d:=.non) (xs:=[]) hh1 e h1 hp rfl rfl w3))⟩
       |_=>simp[isL,e] at c
   |_=>exact w1.elim
 · exact w1.elim
end
end R
end
section
namespace R
open PySem PySem.Spec PyProof.Rows L2
variable [Mks]
noncomputable def LfS (K:W.Frag)(ι:List Addr)(H:Hp)(Q:Fl->R.St->Prop)(E:Ends):Prop:=∀f ι' H' S',Ext ι H ι' H'->RH K ι' H' S'->Q f S'->(match f with
 |.nx δ'=>∀σ',RS K ι' H' δ' σ'->E.nx σ' H'
 |.rt d=>∀v,RV K ι' H' d v->E.rt v H')
noncomputable def tS (K:W.Frag)(cf:CF)(cs:CS):TS:=fun E σ H=>∃δ ι S Q,RS K ι H δ σ/\RH K ι H S/\W (exS cf cs δ S) Q/\LfS K ι H Q E
theorem LfS.up {K:W.Frag}{ι ι1:List Addr}{H H1:Hp}{Q:Fl->R.St->Prop}{E:Ends}(h:LfS K ι H Q E)(x:Ext ι H ι1 H1):LfS K ι1 H1 Q E:=fun f ι' H' S' x' hh q=>h f ι' H' S' (x.trans x') hh q
theorem PSs.imp {X:Cx}{st:List Stmt}{t t':TS}(h:PSs X st t)(i:∀E σ H,t' E σ H->t E σ H):PSs X st t':=fun pins s σ H E I q=>h pins s σ H E I (i E σ H q)
section
variable {T:Tab} {cf:CF} {k:Nat} {N:List Str} {sc:Scope} {X:Cx} {pos p:Pos} {rest:List Stmt}
theorem zny:PSs X [] (tS X.K cf .nil):=PSs.imp zhG fun E σ H ⟨δ,ι,S,Q,hs,hh,w,l⟩=>by
 simp only[exS,W_ok] at w
 exact l _ ι H S (Ext.refl _ _) hh w σ hs
theorem znA (G:Gd T cf k N sc X){i:Nat}{x:Str}{ce:CE}{e:Expr}{r:CS}(hi:N[i]?=some x)(hl:zeZ sc x=true)(he:PE X e (tE X.K cf ce))(hc:zba e=true)(hr:PSs X rest (tS X.K cf r)) :
  PSs X (.Assign [.Name x p] e pos::rest) (tS X.K cf (.asg i ce r)):=by
 refine PSs.imp (zaM (zhH (i:=i) (by rw[G.nm];exact G.nd) (by rw[G.nm];exact hi) (G.lc hl).1 he (zd4 hc _ _ _) (G.lc hl).2) hr) fun E σ H ⟨δ,ι,S,Q,hs,hh,w,l⟩=>?_
 simp only[exS,zac] at w
 refine tE.run hs hh w fun d v ι1 H1 S1 x1 hs1 hh1 r1 w1=>?_
 exact⟨δ.set i (some d),ι1,S1,Q,hs1.set r1 i,hh1,w1,l.up x1⟩
theorem zls (G:Gd T cf k N sc X){i:Nat}{x:Str}{ce:CE}{e:Expr}{r:CS}(hi:N[i]?=some x)(hps:∃t,PS X (.Assign [.Name x p] e pos) (tAsg t (zer i))/\∀σ H Qv,tE X.K cf ce σ H Qv->t σ H Qv)(hr:PSs X rest (tS X.K cf r)) :
  PSs X (.Assign [.Name x p] e pos::rest) (tS X.K cf (.asg i ce r)):=by
 obtain⟨t,hp,ht⟩:=hps
 refine PSs.imp (zaM hp hr) fun E σ H ⟨δ,ι,S,Q,hs,hh,w,l⟩=>?_
 simp only[exS,zac] at w
 refine ht _ _ _ (tE.run hs hh w fun d v ι1 H1 S1 x1 hs1 hh1 r1 w1=>?_)
 exact⟨δ.set i (some d),ι1,S1,Q,hs1.set r1 i,hh1,w1,l.up x1⟩
theorem zlp {ce:CE}{e:Expr}{r:CS}(he:PE X e (tE X.K cf ce))(hc:zba e=true)(hr:PSs X rest (tS X.K cf r)):PSs X (.Expr e pos::rest) (tS X.K cf (.expr ce r)):=by
 refine PSs.imp (zaM (zl0 he (zd4 hc _ _ _)) hr) fun E σ H ⟨δ,ι,S,Q,hs,hh,w,l⟩=>?_
 simp only[exS,zac] at w
 refine tE.run hs hh w fun d v ι1 H1 S1 x1 hs1 hh1 r1 w1=>?_
 exact⟨δ,ι1,S1,Q,hs1,hh1,w1,l.up x1⟩
theorem zlo {r:CS}(hr:PSs X rest (tS X.K cf r)):PSs X (.Pass pos::rest) (tS X.K cf (.pass r)):=by
 refine PSs.imp (zaM zlZ hr) fun E σ H ⟨δ,ι,S,Q,hs,hh,w,l⟩=>?_
 simp only[exS] at w
 exact⟨δ,ι,S,Q,hs,hh,w,l⟩
theorem znx {ce:CE}{e:Expr}{r:CS}(he:PE X e (tE X.K cf ce))(hr:PSs X rest (tS X.K cf r)):PSs X (.Return (some e) pos::rest) (tS X.K cf (.ret ce r)):=by
 refine PSs.imp (zaM (zhI he) hr) fun E σ H ⟨δ,ι,S,Q,hs,hh,w,l⟩=>?_
 simp only[exS,zac,W_ok] at w
 refine tE.run hs hh w fun d v ι1 H1 S1 x1 hs1 hh1 r1 w1=>?_
 exact l _ _ _ _ x1 hh1 w1 v r1
theorem zpF {cc:CE}{c:Expr}{a b:List Stmt}{ca cb r:CS}(hc:PT X c (tT X.K cf cc))(ha:PSs X a (tS X.K cf ca))(hb:PSs X b (tS X.K cf cb))(hr:PSs X rest (tS X.K cf r)):PSs X (.If c a b pos::rest) (tS X.K cf (.ifS cc ca cb r)):=by
 refine PSs.imp (zaM (zoc hc ha hb) hr) fun E σ H ⟨δ,ι,S,Q,hs,hh,w,l⟩=>?_
 simp only[exS,zac] at w
 refine tT.run hs hh w fun z ι1 H1 S1 x1 hs1 hh1 w1=>?_
 have fin:LfS X.K ι1 H1 (fun f S2=>W (match f with|.nx δ'=>exS cf r δ' S2|.rt d=>.ok (.rt d) S2) Q) {E with nx:=tS X.K cf r E}:=by
  intro f ι2 H2 S2 x2 hh2 q
  cases f with
  |nx δ'=>exact fun σ' hs'=>⟨δ',ι2,S2,Q,hs',hh2,q,(l.up x1).up x2⟩
  |rt d=>exact fun v rv=>(l.up x1) _ _ _ _ x2 hh2 q v rv
 cases z with
 |true=>exact⟨δ,ι1,S1,_,hs1,hh1,w1,fin⟩
 |false=>exact⟨δ,ι1,S1,_,hs1,hh1,w1,fin⟩
noncomputable def FInv (K:W.Frag)(cf:CF)(g:List Nat)(b:CS)(Qf:Fl->R.St->Prop)(ds:List D)(lks:List Nat)(ι1:List Addr)(H1:Hp)(S1:R.St)(i:Nat)(σ':L2.St)(H':Hp):Prop:=
 i<=ds.length/\∃δ' ι' S',RS K ι' H' δ' σ'/\Ltr K ι1 H1 S1 lks ι' H' S'/\S'.lk=lks++S1.lk/\S1.len<=S'.len/\W (zbd g (exS cf b) (ds.drop i) δ' S') fun f S2=>Qf f {S2 with lk:=S1.lk}
theorem znz (G:Gd T cf k N sc X){is:List Nat}{it:CL}{cb r:CS}{tg iter:Expr}{body:List Stmt}(hi:PI X tg iter (tI X.K cf it))(hg:PG X tg (tG X.K is))(hb:PSs X body (tS X.K cf cb))(hset:zbZ iter=true)(hr:PSs X rest (tS X.K cf r)) :
  PSs X (.For tg iter body [] pos::rest) (tS X.K cf (.forS is it cb r)):=by
 have hp:PassesOwn (model X.prog X.w) X.A X.env X.xe:=by rw[G.xe];exact PassesOwn.never
 refine PSs.imp (zaM (zkJ hp G.calm hi hg hb (zfO hset X.env)) hr) fun E σ H ⟨δ,ι,S,Q,hs,hh,w,l⟩=>?_
 simp only[exS,zac] at w
 refine⟨δ,ι,S,_,hs,hh,w,fun J H1 ⟨ds,lks,ι1,S1,x1,hh1,w1,wk⟩=>?_⟩
 dsimp only at w1
 unfold za1 at w1
 rw[zac] at w1
 simp only[W_ok] at w1
 refine⟨fun i m σ' H'=>m=ds.length - i/\FInv X.K cf is cb (fun f S2=>W (match f with|.nx δ'=>exS cf r δ' S2|.rt d=>.ok (.rt d) S2) Q) ds lks ι1 H1 S1 i σ' H',⟨_,rfl,Nat.zero_le _,δ,ι1,{S1 with lk:=lks++S1.lk},hs.ext x1,⟨Ext.refl _ _,hh1.lk _,fun l _=>rfl⟩,rfl,Nat.le_refl _,w1⟩,?_⟩
 rintro i m σ' H' ⟨rfl,hle,δ',ι',S',hs',lt,hlk,hln,wt⟩
 have l1:=l.up (x1.trans lt.ext)
 rcases Nat.lt_or_eq_of_le hle with hlt|rfl
 · refine .inr ⟨wk.go i ι' H' S' lt hlt,FInv X.K cf is cb _ ds lks ι1 H1 S1 (i+1),fun σ2 H2 h=>⟨_,by omega,rfl,h⟩,fun x H2 hy=>?_⟩
   obtain⟨x2,hh2,d,hd,rd⟩:=wk.yld i ι' H' S' x H2 lt hlt hy
   rw[ze3 hd] at wt
   simp only[zbd] at wt
   cases ea:asgG is d δ' with
   |none=>rw[ea] at wt;exact wt.elim
   | some δ2 =>
     rw[ea] at wt
     dsimp only at wt
     rw[zac] at wt
     refine⟨δ',ι',d,δ2,hs'.ext x2,rd,ea,fun σ2 hs3=>⟨δ2,ι',S',_,hs3,hh2,zcD G.tab.frm cb δ2 S' _ wt,?_⟩⟩
     rintro f ι3 H3 S3 x3 hh3 ⟨w3,f3⟩
     have k1:S3.lk=lks++S1.lk:=f3.lk.trans hlk
     have k3:∀l∈lks,S3.get l=S1.get l:=fun l hl=>(f3.same l (by rw[hlk];exact List.mem_append_left _ hl) (Nat.lt_of_lt_of_le (wk.lks l hl) hln)).trans (lt.lck l hl)
     cases f with
     |nx δ3=>exact fun σ3 hs4=>⟨hlt,δ3,ι3,S3,hs4,⟨(lt.ext.trans x2).trans x3,hh3,k3⟩,k1,Nat.le_trans hln f3.lens,w3⟩
     |rt z=>exact fun v rv=>l1 _ _ _ _ (x2.trans x3) (hh3.lk _) w3 v rv
 · refine .inl ⟨wk.stop _ ι' H' S' lt (Nat.le_refl _),?_⟩
   rw[List.drop_length] at wt
   simp only[zbd,W_ok] at wt
   exact⟨δ',ι',{S' with lk:=S1.lk},Q,hs',lt.rh.lk _,wt,l1⟩
noncomputable def zqf (H:Hp)(a:Addr)(y v:V)(H':Hp):Prop:=(∃kxs k c,H a=some (.ext (TriO a kxs))/\TriK H kxs/\y=.ref c/\Key3 H k c/\kxs.length<sizeLine/\H'=upd H a (.ext (TriO a (put3 kxs k c v))))\/∃xs k j,H a=some (.lst xs)/\y=.int k/\L2.ixN xs.length k=some j/\H'=upd H a (.lst (xs.set j v))
noncomputable def znZ (td ty tv:TE):TS:=fun D σ H=>tv σ H fun v H1=>td σ H1 fun x H2=>ty σ H2 fun y H3=>∃a H4,x=.ref a/\zqf H3 a y v H4/\D.nx σ H4
theorem zjt {o i value:Expr}{td ty tv:TE}{pos':Pos}(hu:X.A.units+5<cLine)(ho:PE X o td)(hi:PE X i ty)(hv:PE X value tv)(hs:swapsWith value (some (.Subscript o i pos')) pos.line X.env=pure false) :
  PS X (.Assign [.Subscript o i pos'] value pos) (znZ td ty tv):=by
 intro pins s σ H D I h
 refine wpAny_Assign_Subscript (thn (hv pins s σ H _ I h) fun r s1 ⟨v,H1,I1,rv,q1⟩=>thn (ho pins s1 σ H1 _ I1 q1) fun u s2 ⟨x,H2,I2,rx,q2⟩=>thn (hi pins s2 σ H2 _ I2 q2) fun iv s3 ⟨y,H3,I3,ry,a,H4,ex,g,q3⟩=>?_) hs
 subst ex
 obtain rfl:u=Value.ref a:=rx
 rcases g with ⟨kxs,k,c,e,tk,rfl,ek,hl,rfl⟩|⟨xs,k,j,e,ey,ej,rfl⟩
 · obtain rfl:iv=Value.ref c:=ry
   exact zg4 hu I3 e tk ek hl rv fun s4 I4=>⟨σ,_,I4,q3⟩
 · exact wpAny_mono (zi8 pins s3 σ H3 (.ref a) y v (.ref a) iv r (fun H'=>D.nx σ H') I3 rfl ry rv ⟨a,xs,k,j,rfl,ey,e,ej,q3⟩) (fun _ s4 ⟨H',I4,q⟩=>⟨σ,H',I4,q⟩) fun _ _ z=>z
theorem zi5 (G:Gd T cf k N sc X){ca cb ce:CE}{a b e:Expr}{r:CS}(ha:PE X a (tE X.K cf ca))(hb:PE X b (tE X.K cf cb))(he:PE X e (tE X.K cf ce))(hc:zba e=true)(hr:PSs X rest (tS X.K cf r)) :
  PSs X (.Assign [.Subscript a b p] e pos::rest) (tS X.K cf (.setIx ca cb ce r)):=by
 refine PSs.imp (zaM (zjt (by have:=G.hu;omega) ha hb he (zd4 hc _ _ _)) hr) fun E σ H ⟨δ,ι,S,Q,hs,hh,w,l⟩=>?_
 simp only[exS,zac] at w
 refine tE.run hs hh w fun d v ι1 H1 S1 x1 hs1 hh1 r1 w1=>?_
 refine tE.run hs1 hh1 w1 fun x vx ι2 H2 S2 x2 hs2 hh2 r2 w2=>?_
 refine tE.run hs2 hh2 w2 fun y vy ι3 H3 S3 x3 hs3 hh3 r3 w3=>?_
 cases ed:dPut S3 x y d with
 |none=>rw[ed] at w3;exact w3.elim
 | some S4 =>
   rw[ed] at w3
   unfold dPut at ed
   cases x with
   | ref i =>
     obtain⟨p,h1,rfl⟩:=r2.ext x3
     dsimp only at ed
     cases e:S3.get i with
     |none=>rw[e] at ed;cases ed
     | some ob =>
       rw[e] at ed
       obtain⟨b,h2,h3⟩:=hh3.obj _ _ e
       rw[h1] at h2;cases h2
       cases ob with
       | d3 kvs =>
         obtain⟨nd,ws,ha,rk⟩:=h3
         dsimp only at ed
         cases ek:key3 y with
         |none=>rw[ek] at ed;cases ed
         | some k =>
           rw[ek] at ed
           dsimp only[Option.bind_some] at ed
           split at ed
           · rename_i c
             obtain⟨b,rfl,hb⟩:=zmr r3 ek
             have rv:=r1.ext (x2.trans x3)
             have xw:=Ext.wr hh3 e h1 (.ext (TriO p (put3 ws k b v)))
             refine⟨p,_,rfl,.inl ⟨ws,k,b,ha,rk.triK,rfl,hb,by rw[rk.length,sizeLine_eq];exact c,rfl⟩,δ,ι3,S4,Q,hs3.ext xw,hh3.wr e h1 ed ⟨zfw nd,_,zai,?_⟩,w3,l.up (((x1.trans x2).trans x3).trans xw)⟩
             exact (rk.put rv hb).up xw.pre xw.kp
           · cases ed
       | lst ds =>
         obtain⟨xs,ha,rx⟩:=h3
         dsimp only at ed
         cases y with
         | int k =>
           obtain rfl:vy=.int k:=r3
           dsimp only[zdB,Option.bind_some] at ed
           cases ej:R.ixN ds.length k with
           |none=>rw[ej] at ed;cases ed
           | some j =>
             rw[ej,Option.bind_some] at ed
             have rv:=r1.ext (x2.trans x3)
             have xw:=Ext.wr hh3 e h1 (.lst (xs.set j v))
             refine⟨p,_,rfl,.inr ⟨xs,k,j,ha,rfl,by rw[rx.length];exact ej,rfl⟩,δ,ι3,S4,Q,hs3.ext xw,hh3.wr e h1 ed ⟨_,zai,?_⟩,w3,l.up (((x1.trans x2).trans x3).trans xw)⟩
             exact (RVs.set rv j rx).up xw.pre xw.kp
         |_=>cases ed
       |_=>cases ed
   |_=>cases ed
theorem zln (G:Gd T cf k N sc X){ca ce:CE}{a e:Expr}{f:Str}{r:CS}(hf:T.flds.contains f=true)(ha:PE X a (tE X.K cf ca))(he:PE X e (tE X.K cf ce))(hc:zba e=true)(hr:PSs X rest (tS X.K cf r)) :
  PSs X (.Assign [.Attribute a f p] e pos::rest) (tS X.K cf (.setF ca f ce r)):=by
 refine PSs.imp (zaM (zod ha he (zd4 hc _ _ _)) hr) fun E σ H ⟨δ,ι,S,Q,hs,hh,w,l⟩=>?_
 simp only[exS,zac] at w
 refine tE.run hs hh w fun d v ι1 H1 S1 x1 hs1 hh1 r1 w1=>?_
 refine tE.run hs1 hh1 w1 fun x vx ι2 H2 S2 x2 hs2 hh2 r2 w2=>?_
 cases ed:zbW S2 x f d with
 |none=>rw[ed] at w2;exact w2.elim
 | some S3 =>
   rw[ed] at w2
   unfold zbW at ed
   cases x with
   | ref i =>
     obtain⟨b,h1,rfl⟩:=r2
     dsimp only at ed
     cases eo:S2.get i with
     |none=>rw[eo] at ed;cases ed
     | some ob =>
       rw[eo] at ed
       cases ob with
       | ins c fs =>
         obtain⟨b',h2,C,dx,ws,hC,hb,rf⟩:=hh2.obj _ _ eo
         rw[h1] at h2;cases h2
         dsimp only at ed
         split at ed
         · rename_i c2
           obtain⟨_,_,cl,_,na⟩:=G.clsAt (.inl (ne_of hf)) hC
           have rv:=r1.ext x2
           have xw:=Ext.wr hh2 eo h1 (.ins C dx (putF f v ws))
           refine⟨b,C,dx,ws,rfl,hb,cl,na f hf,by rw[rf.length];exact c2,δ,ι2,S3,Q,hs2.ext xw,hh2.wr eo h1 ed ⟨C,dx,_,hC,zai,(rf.put f rv).up xw.pre xw.kp⟩,w2,l.up ((x1.trans x2).trans xw)⟩
         · cases ed
       |_=>cases ed
   |_=>cases ed
theorem zlr (G:Gd T cf k N sc X){is:List Nat}{ce:CE}{e:Expr}{es:List Expr}{j:Nat}{r:CS}(hn:zb0 sc N is es=true)(h2:2<=is.length)(he:PE X e (tE X.K cf ce))(hx:(∃x q,e=.Name x q)\/∃f as ks q,e=.Call f as ks q)(hr:PSs X rest (tS X.K cf r)) :
  PSs X (.Assign [.Tuple es j p] e pos::rest) (tS X.K cf (.asgT is ce r)):=by
 have hs:swapsWithSole [.Tuple es j p] e pos.line X.env=pure false:=by rcases hx with ⟨x,q,rfl⟩|⟨f,as,ks,q,rfl⟩<;>rfl
 have hw:swappedStores [.Tuple es j p] e X.env=pure none:=by rcases hx with ⟨x,q,rfl⟩|⟨f,as,ks,q,rfl⟩<;>rfl
 refine PSs.imp (zaM (zoe he (zkB G hn h2) hs hw) hr) fun E σ H ⟨δ,ι,S,Q,hs,hh,w,l⟩=>?_
 simp only[exS,zac] at w
 refine tE.run hs hh w fun d v ι1 H1 S1 x1 hs1 hh1 r1 w1=>?_
 obtain⟨δ2,ea,w2⟩:=zaW w1
 exact⟨δ,ι1,d,δ2,hs1,r1,ea,fun σ' hs'=>⟨δ2,ι1,S1,Q,hs',hh1,w2,l.up x1⟩⟩
end
end R
end
section
namespace R
open PySem PySem.Spec PyProof.Rows L2
variable [Mks]
noncomputable def zmt:CL->Bool|.comp ..=>true|.callL ..=>true|_=>false
noncomputable def isR1:CL->Bool|.rng1 _=>true|_=>false
noncomputable def zj1:CL->Bool|.rng1 _=>true|.rng2 _ _=>true|_=>false
noncomputable def zig:CL->Bool|_=>false
noncomputable def zii:Expr->Bool|.Tuple _ _ _=>true|_=>false
noncomputable def zbR:Expr->List Str
 |.Name x _=>[x]
 |.Tuple es _ _=>es.filterMap fun|.Name x _=>some x|_=>none
 |_=>[]
noncomputable def zmP (sc scope:Scope)(N:List Str)(js:List Nat):Bool:=
 decide (scope.kind=.function)&&scope.names.all (fun y=>decide (y.2≠.cell))&&scope.names.all (fun y=>decide (y.2≠.local) || decide (scope.names.lookup y.1=some .local))
  && scope.names.all (fun y=>decide (y.2≠.free) || decide (sc.names.lookup y.1=some .cell) || decide (sc.names.lookup y.1=some .free))&&js.all (fun j=>decide (scope.names.lookup (N.getD j "")=some .free)&&decide (j<N.length))
noncomputable def nmB (x:Str):Bool:=!(x == ("__debug__":Str))&&!(x == ("__classdict__":Str))&&!(x == ("__name__":Str))
noncomputable def tyB (t:String)(y:Str):Bool:=(t == "bool"&&y == ("bool":Str)) || (t == "int"&&y == ("int":Str)) || (t == "str"&&y == ("str":Str)) || (t == "list"&&y == ("list":Str)) || (t == "tuple"&&y == ("tuple":Str)) || (t == "dict"&&y == ("dict":Str))
noncomputable def biB:Bi->Str->Nat->Bool
 |.len,x,n=>x == ("len":Str)&&n == 1
 |.min2,x,n=>x == ("min":Str)&&n == 2
 |.isin _,_,_=>false
noncomputable def za7:Expr->Option Str|.Name x _=>some x|_=>none
noncomputable def zc2:Expr->Option Const|.Constant c _ _=>some c|_=>none
noncomputable def zhA:Expr->Option (Expr × Operator × Expr)|.BinOp l o r _=>some (l,o,r)|_=>none
noncomputable def rdUn:Expr->Option (UnaryOp × Expr)|.UnaryOp o x _=>some (o,x)|_=>none
noncomputable def zgQ:Expr->Option (Expr × List CmpOp × List Expr)|.Compare l os rs _=>some (l,os,rs)|_=>none
noncomputable def zcG:Expr->Option (BoolOp × List Expr × Pos)|.BoolOp o vs p=>some (o,vs,p)|_=>none
noncomputable def rdIf:Expr->Option (Expr × Expr × Expr)|.IfExp t x y _=>some (t,x,y)|_=>none
noncomputable def zfi:Expr->Option (List Expr)|.Tuple xs _ _=>some xs|_=>none
noncomputable def zeI:Expr->Option (List Expr)|.List xs _=>some xs|_=>none
noncomputable def zfj:Expr->Option (Expr × Expr)|.Dict [some k] [v] _=>some (k,v)|_=>none
noncomputable def zc1:Expr->Bool|.Dict ks vs _=>ks.isEmpty&&vs.isEmpty|_=>false
noncomputable def zeH:Expr->Option (Expr × Expr)|.Subscript x i _=>some (x,i)|_=>none
noncomputable def zlN:Expr->Option Expr|.Slice none none (some s) _=>some s|_=>none
noncomputable def rdSl:Expr->Option (Option Expr × Option Expr)|.Slice l u st _=>(match st with|none=>some (l,u)|some _=>none)|_=>none
noncomputable def zbX:Expr->Option (Expr × List Expr × List Keyword × Pos)|.Call f as ks p=>some (f,as,ks,p)|_=>none
noncomputable def zbY:Expr->Option (Expr × Str × Pos)|.Attribute o x p=>some (o,x,p)|_=>none
noncomputable def rdLC:Expr->Option (Expr × List Comprehension × Scope × Pos)|.ListComp e gs sc p=>some (e,gs,sc,p)|_=>none
section
variable {e l r x y i f:Expr} {xs rs as:List Expr} {ks:List Keyword} {p:Pos}
theorem zaL {n:Str}(h:za7 e=some n):∃p,e=.Name n p:=by cases e<;>first|(cases h;exact⟨_,rfl⟩)|cases h
theorem zfl {c:Const}(h:zc2 e=some c):∃j p,e=.Constant c j p:=by cases e<;>first|(cases h;exact⟨_,_,rfl⟩)|cases h
theorem zhz {o:Operator}(h:zhA e=some (l,o,r)):∃p,e=.BinOp l o r p:=by cases e<;>first|(cases h;exact⟨_,rfl⟩)|cases h
theorem zd8 {o:UnaryOp}(h:rdUn e=some (o,x)):∃p,e=.UnaryOp o x p:=by cases e<;>first|(cases h;exact⟨_,rfl⟩)|cases h
theorem zeJ {os:List CmpOp}(h:zgQ e=some (l,os,rs)):∃p,e=.Compare l os rs p:=by cases e<;>first|(cases h;exact⟨_,rfl⟩)|cases h
theorem zbL {o:BoolOp}(h:zcG e=some (o,xs,p)):e=.BoolOp o xs p:=by cases e<;>first|(cases h;rfl)|cases h
theorem zjn (h:rdIf e=some (l,x,y)):∃p,e=.IfExp l x y p:=by cases e<;>first|(cases h;exact⟨_,rfl⟩)|cases h
theorem zcZ (h:zfi e=some xs):∃j p,e=.Tuple xs j p:=by cases e<;>first|(cases h;exact⟨_,_,rfl⟩)|cases h
theorem zgP (h:zeI e=some xs):∃p,e=.List xs p:=by cases e<;>first|(cases h;exact⟨_,rfl⟩)|cases h
theorem zfk (h:zc1 e=true):∃p,e=.Dict [] [] p:=by
 cases e with
 | Dict ks vs p =>
   cases ks with
   |cons _ _=>cases h
   | nil =>
     cases vs with
     |cons _ _=>cases h
     |nil=>exact⟨_,rfl⟩
 |_=>cases h
theorem zcf (h:zeH e=some (x,i)):∃p,e=.Subscript x i p:=by cases e<;>first|(cases h;exact⟨_,rfl⟩)|cases h
theorem zhu {b:Expr}(h:zlN e=some b):∃p,e=.Slice none none (some b) p:=by
 unfold zlN at h
 split at h<;>first|(cases h;exact⟨_,rfl⟩)|cases h
theorem zjm {a b:Option Expr}(h:rdSl e=some (a,b)):∃p,e=.Slice a b none p:=by
 cases e with
 | Slice l u st p =>
   cases st with
   |none=>cases h;exact⟨_,rfl⟩
   |some _=>cases h
 |_=>cases h
theorem zcz (h:zbX e=some (f,as,ks,p)):e=.Call f as ks p:=by cases e<;>first|(cases h;rfl)|cases h
theorem zbM {n:Str}(h:zbY e=some (x,n,p)):e=.Attribute x n p:=by cases e<;>first|(cases h;rfl)|cases h
theorem zgb {gs:List Comprehension}{sc:Scope}(h:rdLC e=some (x,gs,sc,p)):e=.ListComp x gs sc p:=by cases e<;>first|(cases h;rfl)|cases h
end
theorem zaf {α:Type}{o:Option α}{f:α->Bool}(h:o.any f=true):∃x,o=some x/\f x=true:=by
 cases o with
 |none=>cases h
 |some x=>exact⟨x,rfl,h⟩
noncomputable def one {α:Type}:List α->Option α | [x]=>some x|_=>none
theorem za9 {α:Type}{xs:List α}{x:α}(h:one xs=some x):xs=[x]:=by
 match xs,h with
 | [y],h=>cases h;rfl
noncomputable def two {α:Type}:List α->Option (α × α) | [x,y]=>some (x,y)|_=>none
theorem two_inv {α:Type}{xs:List α}{x y:α}(h:two xs=some (x,y)):xs=[x,y]:=by
 match xs,h with
 | [a,b],h=>cases h;rfl
noncomputable def zaP (e:Expr):Option (Str × List Expr):=(zbX e).bind fun q=>if q.2.2.1.isEmpty then (za7 q.1).map fun x=>(x,q.2.1) else none
theorem zaD {e:Expr}{x:Str}{as:List Expr}(h:zaP e=some (x,as)):∃p2 p,e=.Call (.Name x p2) as [] p:=by
 unfold zaP at h
 cases q:zbX e with
 |none=>rw[q] at h;cases h
 | some z =>
   obtain⟨f,bs,ks,p⟩:=z
   rw[q] at h
   dsimp only[Option.bind_some] at h
   split at h
   · rename_i c
     cases q2:za7 f with
     |none=>rw[q2] at h;cases h
     | some y =>
       rw[q2] at h
       obtain⟨p2,rfl⟩:=zaL q2
       cases ks with
       |cons _ _=>cases c
       |nil=>cases h;exact⟨p2,p,zcz q⟩
   · cases h
noncomputable def zbl (e:Expr):Option (Str × Expr):=(zaP e).bind fun q=>(one q.2).map fun a=>(q.1,a)
theorem zbk {e a:Expr}{x:Str}(h:zbl e=some (x,a)):∃p2 p,e=.Call (.Name x p2) [a] [] p:=by
 unfold zbl at h
 cases q:zaP e with
 |none=>rw[q] at h;cases h
 | some z =>
   obtain⟨y,bs⟩:=z
   rw[q] at h
   dsimp only[Option.bind_some] at h
   cases q2:one bs with
   |none=>rw[q2] at h;cases h
   | some b =>
     rw[q2] at h
     cases h
     rw[za9 q2] at q
     exact zaD q
noncomputable def zc0 (e:Expr):Option (Expr × Str × Pos × Expr × Pos):=(zbX e).bind fun q=>if q.2.2.1.isEmpty then (zbY q.1).bind fun a=>(one q.2.1).map fun y=>(a.1,a.2.1,a.2.2,y,q.2.2.2) else none
theorem zdG {e o a:Expr}{x:Str}{ap cp:Pos}(h:zc0 e=some (o,x,ap,a,cp)):e=.Call (.Attribute o x ap) [a] [] cp:=by
 unfold zc0 at h
 cases q:zbX e with
 |none=>rw[q] at h;cases h
 | some z =>
   obtain⟨f,bs,ks,p⟩:=z
   rw[q] at h
   dsimp only[Option.bind_some] at h
   split at h
   · rename_i c
     cases q2:zbY f with
     |none=>rw[q2] at h;cases h
     | some y =>
       obtain⟨o',x',ap'⟩:=y
       rw[q2] at h
       dsimp only[Option.bind_some] at h
       cases q3:one bs with
       |none=>rw[q3] at h;cases h
       | some b =>
         rw[q3] at h
         cases h
         cases ks with
         |cons _ _=>cases c
         |nil=>rw[zcz q,zbM q2,za9 q3]
   · cases h
noncomputable def zby (e:Expr):Option (Expr × Str × Pos × List Expr × Pos):=(zbX e).bind fun q=>if q.2.2.1.isEmpty then (zbY q.1).map fun a=>(a.1,a.2.1,a.2.2,q.2.1,q.2.2.2) else none
theorem zb3 {e o:Expr}{as:List Expr}{x:Str}{ap cp:Pos}(h:zby e=some (o,x,ap,as,cp)):e=.Call (.Attribute o x ap) as [] cp:=by
 unfold zby at h
 cases q:zbX e with
 |none=>rw[q] at h;cases h
 | some z =>
   obtain⟨f,bs,ks,p⟩:=z
   rw[q] at h
   dsimp only[Option.bind_some] at h
   split at h
   · rename_i c
     cases q2:zbY f with
     |none=>rw[q2] at h;cases h
     | some y =>
       obtain⟨o',x',ap'⟩:=y
       rw[q2] at h
       cases h
       cases ks with
       |cons _ _=>cases c
       |nil=>rw[zcz q,zbM q2]
   · cases h
noncomputable def fnB (T:Tab)(f j:Nat)(x:Str):Bool:=match T.fns[f]? with|some (y,_,nd)=>(y == x)&&decide (j<=nd)|none=>false
noncomputable def conG (T:Tab)(d:D)(x:Str):Bool:=match T.cons.lookup x with|some d'=>eqC d' d|none=>false
noncomputable def zim:CE->Bool|.con _=>true|_=>false
noncomputable def zmv:CL->Bool|.comp ..=>true|_=>false
noncomputable def zij:CE->Bool|.tst (.con (.bl true))=>true|_=>false
noncomputable def zmg:CEs->Bool|.cons _ .nil=>true|_=>false
noncomputable def zoH:CE->Option Nat|.loc i=>some i|_=>none
theorem zh5 {a:CE}{i:Nat}(h:zoH a=some i):a=.loc i:=by cases a<;>first|(cases h;rfl)|cases h
noncomputable def zmi:CEs->Bool|.nil=>true|_=>false
noncomputable def mtN:Mt->Str->Bool
 |.append,x=>x == ("append":Str)
noncomputable def zp3:Bi->Option String|.isin t=>some t|_=>none
noncomputable def tgB (sc:Scope)(N:List Str)(g:List Nat)(tg:Expr):Bool:=match za7 tg with
 |some x=>(match one g with|some i=>(N[i]? == some x)&&zeZ sc x|none=>false)
 |none=>(zfi tg).any fun es=>decide (2<=g.length)&&zb0 sc N g es
mutual
noncomputable def chkE (T:Tab):CE->List Str->Scope->Expr->Bool
 |.loc i,N,sc,e=>(za7 e).any fun x=>(N[i]? == some x)&&zih sc x&&nmB x
 |.con d,_,sc,e=>(zc2 e).any (fun c=>conB d c) || (za7 e).any fun x=>isGl sc x&&conG T d x&&nmB x
 |.tst _,_,_,_=>false
 |.bin op a b,N,sc,e=>(zhA e).any fun q=>decide (q.2.1=op)&&chkE T a N sc q.1&&chkE T b N sc q.2.2
 |.neg a,N,sc,e=>(rdUn e).any fun q=>decide (q.1=.USub)&&chkE T a N sc q.2
 |.nt a,N,sc,e=>(rdUn e).any fun q=>decide (q.1=.Not)&&chkE T a N sc q.2
 |.cmp op a b,N,sc,e=>(zgQ e).any fun q=>decide (q.2.1=[op])&&(one q.2.2).any fun r=>zbZ r&&chkE T a N sc q.1&&chkE T b N sc r
 |.and a b,N,sc,e=>(zcG e).any fun q=>decide (q.1=.And)&&(match q.2.1 with
  |x::y::rest=>chkE T a N sc x&&(if rest.isEmpty then chkE T b N sc y else chkE T b N sc (.BoolOp .And (y::rest) q.2.2))
  |_=>false)
 |.or a b,N,sc,e=>(zcG e).any fun q=>decide (q.1=.Or)&&(match q.2.1 with
  |x::y::rest=>chkE T a N sc x&&(if rest.isEmpty then chkE T b N sc y else chkE T b N sc (.BoolOp .Or (y::rest) q.2.2))
  |_=>false)
 |.ite c a b,N,sc,e=>(rdIf e).any fun q=>chkT T c N sc q.1&&chkE T a N sc q.2.1&&chkE T b N sc q.2.2
 |.tup es,N,sc,e=>(zfi e).any fun xs=>zbc T es N sc xs
 |.lst es,N,sc,e=>(zeI e).any fun xs=>zbc T es N sc xs
 |.dnew3,_,_,e=>zc1 e
 |.ix a b,N,sc,e=>(zeH e).any fun q=>zei q.2&&chkE T a N sc q.1&&chkE T b N sc q.2
 |.fld a f,N,sc,e=>(zbY e).any fun q=>decide (q.2.1=f)&&zbe q.1&&T.flds.contains f&&chkE T a N sc q.1
 |.mk c f x j es,N,sc,e=>(zaP e).any fun q=>decide (q.1=x)&&isGl sc x&&nmB x&&decide (T.cls[c]?=some x)&&T.inits.contains (c,f,j)&&(!q.2.isEmpty || zmi es)&&zbc T es N sc q.2
 |.meth m tb o es,N,sc,e=>(zby e).any fun q=>decide (q.2.1=m)&&mtB T m tb&&zbe q.1&&(q.2.2.1.endLine == q.2.2.2.2.line)&&decide (q.2.2.2.1.length<29)&&(!q.2.2.2.1.isEmpty || zmi es)&&chkE T o N sc q.1&&zbc T es N sc q.2.2.2.1
 |.isc cs x a,N,sc,e=>(zaP e).any fun q=>(two q.2).any fun z=>(za7 z.2).any fun y=>(q.1 == ("isinstance":Str))&&bltB T sc q.1&&decide (y=x)&&isGl sc x&&nmB x&&T.isas.contains (x,cs)&&zav z.1&&chkE T a N sc z.1
 |.callC f x m es,N,sc,e=>(zby e).any fun q=>(za7 q.1).any fun y=>decide (y=x)&&decide (q.2.1=m)&&isGl sc x&&nmB x&&T.cms.contains (x,m,f)&&(q.2.2.1.endLine == q.2.2.2.2.line)&&decide (q.2.2.2.1.length<29)&&!q.2.2.2.1.isEmpty&&zbc T es N sc q.2.2.2.1
 |.callV a es,N,sc,e=>(zaP e).any fun q=>(zoH a).any fun i=>(N[i]? == some q.1)&&zih sc q.1&&nmB q.1&&!q.2.isEmpty&&zbc T es N sc q.2
 |.clr a,N,sc,e=>(zby e).any fun q=>(q.2.1 == ("clear":Str))&&zbe q.1&&(q.2.2.1.endLine == q.2.2.2.2.line)&&q.2.2.2.1.isEmpty&&chkE T a N sc q.1
 |.slS a b,N,sc,e=>(zeH e).any fun q=>(zlN q.2).any fun s=>chkE T a N sc q.1&&chkE T b N sc s
 |.sl a ml mh lo hi,N,sc,e=>(zeH e).any fun q=>(rdSl q.2).any fun s=>chkE T a N sc q.1
  && (match s.1 with|none=>!ml&&zim lo|some e=>ml&&chkE T lo N sc e)
  && (match s.2 with|none=>!mh&&zim hi|some e=>mh&&chkE T hi N sc e)
 |.call f j es,N,sc,e=>(zaP e).any fun q=>isGl sc q.1&&nmB q.1&&fnB T f j q.1&&(!q.2.isEmpty || zmi es)&&zbc T es N sc q.2
 |.callW f j es,N,sc,e=>(zaP e).any fun q=>isGl sc q.1&&nmB q.1&&fnB T f j q.1&&!q.2.isEmpty&&zbc T es N sc q.2
 |.bi b es,N,sc,e=>(zaP e).any fun q=>bltB T sc q.1&&nmB q.1&&(match zp3 b with
  |some t=>(two q.2).any fun z=>(za7 z.2).any fun y=>(q.1 == ("isinstance":Str))&&tyB t y&&bltB T sc y&&nmB y&&zmg es&&zbc T es N sc [z.1]
  |none=>biB b q.1 q.2.length&&!q.2.isEmpty&&zbc T es N sc q.2)
 |.mt m o es,N,sc,e=>(zc0 e).any fun q=>mtN m q.2.1&&zbe q.1&&(q.2.2.1.endLine == q.2.2.2.2.line)&&zmg es&&chkE T o N sc q.1&&zbc T es N sc [q.2.2.2.1]
 |.mkL l,N,sc,e=>if zmv l then (if (rdLC e).isSome then chkL T l N sc e else (zbl e).any fun q=>(q.1 == ("list":Str))&&bltB T sc q.1&&zav q.2&&chkL T l N sc q.2)
  else (zbl e).any fun q=>(q.1 == ("list":Str))&&bltB T sc q.1&&zav q.2&&(!(zj1 l) || isR1 l)&&chkL T l N sc q.2
 |.mkT l,N,sc,e=>(zbl e).any fun q=>(q.1 == ("tuple":Str))&&bltB T sc q.1&&zav q.2&&(!(zj1 l))&&chkL T l N sc q.2
 |.ext a l,N,sc,e=>(zc0 e).any fun q=>(q.2.1 == ("extend":Str))&&zav q.2.2.2.1&&zbe q.1&&(q.2.2.1.endLine == q.2.2.2.2.line)&&zmt l&&chkE T a N sc q.1&&chkL T l N sc q.2.2.2.1
noncomputable def zbc (T:Tab):CEs->List Str->Scope->List Expr->Bool
 |.nil,_,_,es=>es.isEmpty
 |.cons a r,N,sc,es=>(match es with | []=>false|e::es=>zav e&&chkE T a N sc e&&zbc T r N sc es)
noncomputable def chkT (T:Tab):CE->List Str->Scope->Expr->Bool
 |.cmp op a b,N,sc,e=>(zgQ e).any fun q=>decide (q.2.1=[op])&&(one q.2.2).any fun r=>zbZ r&&chkE T a N sc q.1&&chkE T b N sc r
 |.nt a,N,sc,e=>(rdUn e).any fun q=>decide (q.1=.Not)&&chkT T a N sc q.2
 |.and a b,N,sc,e=>(zcG e).any fun q=>decide (q.1=.And)&&(match q.2.1 with
  |x::y::rest=>chkT T a N sc x&&(if rest.isEmpty then chkT T b N sc y else chkT T b N sc (.BoolOp .And (y::rest) q.2.2))
  |_=>false)
 |.or a b,N,sc,e=>(zcG e).any fun q=>decide (q.1=.Or)&&(match q.2.1 with
  |x::y::rest=>chkT T a N sc x&&(if rest.isEmpty then chkT T b N sc y else chkT T b N sc (.BoolOp .Or (y::rest) q.2.2))
  |_=>false)
 |.tst a,N,sc,e=>zge e&&chkE T a N sc e
 |_,_,_,_=>false
noncomputable def chkL (T:Tab):CL->List Str->Scope->Expr->Bool
 |.val a,N,sc,e=>zbZ e&&chkE T a N sc e
 |.callL f j es,N,sc,e=>(zaP e).any fun q=>isGl sc q.1&&nmB q.1&&fnB T f j q.1&&!q.2.isEmpty&&zbc T es N sc q.2
 |.rng1 a,N,sc,e=>(zbl e).any fun q=>(q.1 == ("range":Str))&&bltB T sc q.1&&zav q.2&&chkE T a N sc q.2
 |.rng2 a b,N,sc,e=>(zaP e).any fun q=>(two q.2).any fun z=>(q.1 == ("range":Str))&&bltB T sc q.1&&zav z.1&&zav z.2&&chkE T a N sc z.1&&chkE T b N sc z.2
 |.comp nt js g it c e,N,sc,ex=>(rdLC ex).any fun q=>(one q.2.1).any fun z=>decide (z.is_async=0)&&zmP sc q.2.2.1 N js&&(zbZ z.iter&&(zii z.target || !(zig it)))&&chkL T it N sc z.iter&&decide ((zbR z.target).length=nt)&&decide ((capN N (zbR z.target) js).Nodup)
  && tgB q.2.2.1 (capN N (zbR z.target) js) g z.target
  && (if z.ifs.isEmpty then zij c else (one z.ifs).any fun t=>chkT T c (capN N (zbR z.target) js) q.2.2.1 t)
  && chkE T e (capN N (zbR z.target) js) q.2.2.1 q.1
end
noncomputable def zgR:Stmt->Option (Expr × Expr × Pos)|.Assign tgs v p=>(one tgs).map fun t=>(t,v,p)|_=>none
noncomputable def zn4:Stmt->Option (Expr × List Stmt × List Stmt)|.If e a b _=>some (e,a,b)|_=>none
noncomputable def zlP:Stmt->Option (Expr × Expr × List Stmt)|.For tg it b els _=>if els.isEmpty then some (tg,it,b) else none|_=>none
noncomputable def zlO:Stmt->Option Expr|.Return v _=>v|_=>none
noncomputable def zn5:Stmt->Option Expr|.Expr v _=>some v|_=>none
noncomputable def zkI:Stmt->Bool|.Pass _=>true|_=>false
section
variable {s:Stmt} {e v tg it:Expr} {a b:List Stmt} {p:Pos}
theorem zcg (h:zgR s=some (tg,v,p)):s=.Assign [tg] v p:=by
 cases s with
 | Assign tgs v p =>
   simp only[zgR] at h
   cases q:one tgs with
   |none=>rw[q] at h;cases h
   |some t=>rw[q] at h;cases h;rw[za9 q]
 |_=>cases h
theorem zhw (h:zn4 s=some (e,a,b)):∃p,s=.If e a b p:=by cases s<;>first|(cases h;exact⟨_,rfl⟩)|cases h
theorem zhx (h:zlP s=some (tg,it,b)):∃p,s=.For tg it b [] p:=by
 cases s with
 | For tg it b els p =>
   simp only[zlP] at h
   cases els with
   |nil=>cases h;exact⟨_,rfl⟩
   |cons _ _=>cases h
 |_=>cases h
theorem zhv (h:zlO s=some e):∃p,s=.Return (some e) p:=by
 cases s with
 |Return v p=>simp only[zlO] at h;subst h;exact⟨_,rfl⟩
 |_=>cases h
theorem zhy (h:zn5 s=some e):∃p,s=.Expr e p:=by cases s<;>first|(cases h;exact⟨_,rfl⟩)|cases h
theorem zgO (h:zkI s=true):∃p,s=.Pass p:=by cases s<;>first|exact⟨_,rfl⟩|cases h
end
noncomputable def chkS (T:Tab):CS->List Str->Scope->List Stmt->Bool
 |.nil,_,_,st=>st.isEmpty
 |.stop,_,_,_=>true
 |.asg i e r,N,sc,st=>(match st with | []=>false|s::rest=>(zgR s).any fun q=>(za7 q.1).any fun x=>(N[i]? == some x)&&zeZ sc x&&chkE T e N sc q.2.1&&chkS T r N sc rest)
 |.asgT g e r,N,sc,st=>(match st with | []=>false|s::rest=>(zgR s).any fun q=>(zfi q.1).any fun es=>((za7 q.2.1).isSome || (zaP q.2.1).isSome)&&decide (2<=g.length)&&zb0 sc N g es&&chkE T e N sc q.2.1&&chkS T r N sc rest)
 |.setF a f e r,N,sc,st=>(match st with | []=>false|s::rest=>(zgR s).any fun q=>(zbY q.1).any fun z=>decide (z.2.1=f)&&T.flds.contains f&&zba q.2.1&&chkE T a N sc z.1&&chkE T e N sc q.2.1&&chkS T r N sc rest)
 |.setIx a b e r,N,sc,st=>(match st with | []=>false|s::rest=>(zgR s).any fun q=>(zeH q.1).any fun z=>zba q.2.1&&chkE T a N sc z.1&&chkE T b N sc z.2&&chkE T e N sc q.2.1&&chkS T r N sc rest)
 |.ifS c t u r,N,sc,st=>(match st with | []=>false|s::rest=>(zn4 s).any fun q=>chkT T c N sc q.1&&chkS T t N sc q.2.1&&chkS T u N sc q.2.2&&chkS T r N sc rest)
 |.forS g l b r,N,sc,st=>(match st with | []=>false|s::rest=>(zlP s).any fun q=>zbZ q.2.1&&chkL T l N sc q.2.1&&chkS T b N sc q.2.2&&chkS T r N sc rest&&(tgB sc N g q.1&&(zii q.1 || !(zig l))))
 |.ret e r,N,sc,st=>(match st with | []=>false|s::rest=>(zlO s).any fun v=>chkE T e N sc v&&chkS T r N sc rest)
 |.expr e r,N,sc,st=>(match st with | []=>false|s::rest=>(zn5 s).any fun v=>zba v&&chkE T e N sc v&&chkS T r N sc rest)
 |.pass r,N,sc,st=>(match st with | []=>false|s::rest=>zkI s&&chkS T r N sc rest)
end R
end
section
set_option maxHeartbeats 8000000
namespace R
open PySem PySem.Spec PyProof.Rows L2
variable [Mks]
section
variable {T:Tab} {cf:CF} {k:Nat} {N:List Str} {sc:Scope} {X:Cx}
theorem zbD (env:Env)(x:Str):∀{names:List (Str × NameKind)} {k0:NameKind},names.lookup x=some k0->k0≠.free->(names.map (zbS env)).lookup x=some k0
 | [],_,h,_=>by simp at h
 | y :: r, k0, h, hk => by
   rw[List.map_cons]
   have f1:=zcY env y
   have f2:=zcX env y
   obtain⟨n,k1⟩:=y
   generalize hz:zbS env (n,k1)=z at *
   obtain⟨zn,zk⟩:=z
   simp only at f1 f2
   subst f1
   rw[List.lookup_cons] at h⊢
   cases hx:x == zn with
   | true =>
     rw[hx] at h
     have e:k1=k0:=Option.some.inj h
     subst e
     rcases f2 with f2|⟨q,_⟩
     · show some zk=_;rw[f2]
     · exact absurd q hk
   | false =>
     rw[hx] at h
     exact zbD env x h hk
theorem zgA (G:Gd T cf k N sc X){scope:Scope}{js:List Nat}(h:zmP sc scope N js=true):CompOk X.env.scope scope X.N js:=by
 unfold zmP at h
 simp only[Bool.and_eq_true,List.all_eq_true,decide_eq_true_eq,Bool.or_eq_true] at h
 obtain⟨⟨⟨⟨h1,h2⟩,h3⟩,h4⟩,h5⟩:=h
 refine⟨h1,h2,fun y hy e=>?_,fun y hy e=>?_,fun j hj=>?_⟩
 · rcases h3 y hy with z|z
   · exact absurd e z
   · exact z
 · rcases h4 y hy with (z|z)|z
   · exact absurd e z
   · exact .inl (G.cell _ z)
   · exact (G.free _ z).symm
 · rw[G.nm];exact h5 j hj
theorem ziw (G:Gd T cf k N sc X){scope:Scope}{tgs:List Str}{js:List Nat}(ok:CompOk X.env.scope scope X.N js)(hn:(capN N tgs js).Nodup)(cl:List (Str × Addr))(C:Addr)(fp:List Addr)(s:Shared)(H:Hp)(pn:List (Addr × Obj)) :
  Gd T cf k (capN N tgs js) scope (zaH X (capN X.N tgs js) scope cl C fp s H pn):=by
 have names:(zaH X (capN X.N tgs js) scope cl C fp s H pn).env.scope.names=scope.names.map (zbS X.env):=zbi scope X.env
 have noc:∀x,scope.names.lookup x≠some .cell:=fun x e=>ok.nocell _ (PySem.mem_of_lookup e) rfl
 refine⟨by rw[<-G.nm],hn,fun x e=>?_,fun x e=>absurd e (noc x),fun x e=>?_,fun x e=>?_,.inr noc,G.calm,rfl,G.room',G.tab⟩
 · rw[names];exact zbD _ _ e (by decide)
 · rw[names];exact zbj _ _ _ e
 · rw[names];exact zbD _ _ e (by decide)
theorem zbC {x:Str}(h:nmB x=true):(x == ("__debug__":Str))=false/\(x == ("__classdict__":Str))=false/\x≠("__name__":Str):=by
 unfold nmB at h
 simp only[Bool.and_eq_true,Bool.not_eq_true'] at h
 exact⟨h.1.1,h.1.2,fun e=>by rw[e] at h;simp at h⟩
theorem zni {t:String}{y:Str}(h:tyB t y=true):t∈["bool","int","str","list","tuple","dict"]/\bootBuiltins y=some (.type t):=by
 unfold tyB at h
 simp only[Bool.or_eq_true,Bool.and_eq_true,beq_iff_eq] at h
 rcases h with ((((⟨rfl,rfl⟩|⟨rfl,rfl⟩)|⟨rfl,rfl⟩)|⟨rfl,rfl⟩)|⟨rfl,rfl⟩)|⟨rfl,rfl⟩
 · exact⟨by simp,zmW⟩
 · exact⟨by simp,zpk⟩
 · exact⟨by simp,zph⟩
 · exact⟨by simp,zfW⟩
 · exact⟨by simp,zgD⟩
 · exact⟨by simp,zmV⟩
theorem zix {f j:Nat}{x:Str}(h:fnB T f j x=true):∃ps nd,T.fns[f]?=some (x,ps,nd)/\j<=nd:=by
 unfold fnB at h
 cases e:T.fns[f]? with
 |none=>rw[e] at h;cases h
 | some q =>
   obtain⟨y,ps,nd⟩:=q
   rw[e] at h
   simp only[Bool.and_eq_true,beq_iff_eq,decide_eq_true_eq] at h
   obtain⟨rfl,h2⟩:=h
   exact⟨ps,nd,rfl,h2⟩
theorem zaF:∀{ces:CEs} {N:List Str} {sc:Scope} {es:List Expr},zbc T ces N sc es=true->es.all zav=true
 | .nil, N, sc, es, h => by
   simp only[zbc,List.isEmpty_iff] at h
   subst h;rfl
 | .cons a r, N, sc, es, h => by
   cases es with
   |nil=>simp[zbc] at h
   | cons e es =>
     simp only[zbc,Bool.and_eq_true] at h
     simp[h.1.1,zaF h.2]
theorem zgB {es:CEs}(h:zmg es=true):∃a,es=.cons a .nil:=by
 cases es with
 |nil=>cases h
 | cons a r =>
   cases r with
   |nil=>exact⟨a,rfl⟩
   |cons _ _=>cases h
theorem zg6 (G:Gd T cf k N sc X){b:Bi}{x:Str}{n:Nat}(h:biB b x n=true):∃id,zcc X (.builtin id) (rB X.K fun S ds=>R.bi S b ds)/\bootBuiltins x=some (.builtin id):=by
 cases b with
 |len=>simp only[biB,Bool.and_eq_true,beq_iff_eq] at h;rw[h.1];exact⟨_,zoK,zpj⟩
 |min2=>simp only[biB,Bool.and_eq_true,beq_iff_eq] at h;rw[h.1];exact⟨_,zoF G.calm,zpi⟩
 |isin t=>simp[biB] at h
noncomputable def LOk (T:Tab)(cf:CF)(k:Nat)(cl:CL)(X:Cx)(e:Expr):Prop:=(zj1 cl=false->PE X e (tL X.K cf cl))/\(zmt cl=true->PE X e (tLt X.K cf cl))/\(∀tg,(zii tg || !(zig cl))=true->PI X tg e (tI X.K cf cl))/\
 ∀a,cl=.rng1 a->∃a' p2 p,e=.Call (.Name "range" p2) [a'] [] p/\(Gl X "range"/\X.mg "range"=none)/\PE X a' (tE X.K cf a)/\zav a'=true
noncomputable def EsOk (cf:CF)(ces:CEs)(X:Cx)(es:List Expr):Prop:=PA X es (tAs X.K cf ces)/\∀a r e es',ces=.cons a r->es=e::es'->PE X e (tE X.K cf a)
theorem zlh {sc:Scope}{N:List Str}{X:Cx}{g:List Nat}{tg:Expr}(G:Gd T cf k N sc X)(h:tgB sc N g tg=true):PG X tg (tG X.K g):=by
 unfold tgB at h
 split at h
 · rename_i x q
   obtain⟨p,rfl⟩:=zaL q
   split at h
   · rename_i i q2
     rw[za9 q2]
     simp only[Bool.and_eq_true,beq_iff_eq] at h
     exact zly G h.1 h.2
   · cases h
 · replace h:=zaf h
   obtain⟨es,q,h⟩:=h
   obtain⟨j,p,rfl⟩:=zcZ q
   simp only[Bool.and_eq_true,decide_eq_true_eq] at h
   exact zkB G h.2 h.1
theorem zf4 {c:CE}{X:Cx}(h:zij c=true):PTs X [] (tT X.K cf c):=by
 have hc:c=.tst (.con (.bl true)):=by
  cases c with
  | tst a =>
    cases a with
    | con d =>
      cases d with
      | bl b =>
        cases b with
        |true=>rfl
        |false=>cases h
      |_=>cases h
    |_=>cases h
  |_=>cases h
 subst hc
 intro pins s' σ H' Qv I q
 refine zlX pins s' σ H' Qv I ?_
 obtain⟨δ,ι,S,Q,hs,hh,w,q⟩:=q
 simp only[evT,evE,zas,tru,zc6,W_ok] at w
 exact q _ _ ⟨ι,S,Ext.refl _ _,hh,w⟩
theorem zhQ {m:Bool}{ce:CE}{o:Option Expr}{X:Cx}(h1:o=none->m=false/\zim ce=true)(h2:∀e,o=some e->m=true/\PE X e (tE X.K cf ce)):PartOk X cf m ce o:=by
 cases o with
 | none =>
   obtain⟨rfl,h⟩:=h1 rfl
   cases ce with
   |con d=>exact .no ⟨d,rfl⟩
   |_=>cases h
 | some e =>
   obtain⟨rfl,h⟩:=h2 e rfl
   exact .yes h
theorem zbU {x y:Str}(h:(x == y)=true):x=y:=by simpa using h
mutual
theorem zak:∀(ce:CE) {N:List Str} {sc:Scope} {e:Expr} {X:Cx},Gd T cf k N sc X->chkE T ce N sc e=true->PE X e (tE X.K cf ce)
 | .loc i, N, sc, e, X, G, h => by
   simp only[chkE] at h
   replace h:=zaf h
   obtain⟨x,q,h⟩:=h
   obtain⟨p,rfl⟩:=zaL q
   simp only[Bool.and_eq_true,beq_iff_eq] at h
   obtain⟨h1,h2,_⟩:=zbC h.2
   exact zkE G h.1.1 h.1.2 h1 h2
 | .con d, N, sc, e, X, G, h => by
   simp only[chkE] at h
   rw[Bool.or_eq_true] at h
   rcases h with h|h
   · replace h:=zaf h
     obtain⟨c,q,h⟩:=h
     obtain⟨j,p,rfl⟩:=zfl q
     exact znO h
   · replace h:=zaf h
     obtain⟨x,q,h⟩:=h
     obtain⟨p,rfl⟩:=zaL q
     simp only[Bool.and_eq_true] at h
     obtain⟨h1,h2,_⟩:=zbC h.2
     have h3:=h.1.2
     unfold conG at h3
     split at h3
     · rename_i d' e'
       exact zlD G h.1.1 e' h3 h1
     · cases h3
 |.tst a,N,sc,e,X,G,h=>by simp only[chkE] at h;cases h
 | .bin op a b, N, sc, e, X, G, h => by
   simp only[chkE] at h
   replace h:=zaf h
   obtain⟨⟨l,o,r⟩,q,h⟩:=h
   obtain⟨p,rfl⟩:=zhz q
   simp only[Bool.and_eq_true,decide_eq_true_eq] at h
   obtain⟨⟨rfl,h1⟩,h2⟩:=h
   exact znR (zak a G h1) (zak b G h2)
 | .neg a, N, sc, e, X, G, h => by
   simp only[chkE] at h
   replace h:=zaf h
   obtain⟨⟨o,x⟩,q,h⟩:=h
   obtain⟨p,rfl⟩:=zd8 q
   simp only[Bool.and_eq_true,decide_eq_true_eq] at h
   obtain⟨rfl,h1⟩:=h
   exact znG (zak a G h1)
 | .nt a, N, sc, e, X, G, h => by
   simp only[chkE] at h
   replace h:=zaf h
   obtain⟨⟨o,x⟩,q,h⟩:=h
   obtain⟨p,rfl⟩:=zd8 q
   simp only[Bool.and_eq_true,decide_eq_true_eq] at h
   obtain⟨rfl,h1⟩:=h
   exact zpH (zak a G h1)
 | .cmp op a b, N, sc, e, X, G, h => by
   simp only[chkE] at h
   replace h:=zaf h
   obtain⟨⟨l,os,rs⟩,q,h⟩:=h
   obtain⟨p,rfl⟩:=zeJ q
   rw[Bool.and_eq_true,decide_eq_true_eq] at h
   obtain⟨e1,h⟩:=h
   replace h:=zaf h
   obtain⟨r,q2,h⟩:=h
   cases za9 q2
   cases e1
   simp only[Bool.and_eq_true] at h
   exact znP G (zak a G h.1.2) (zak b G h.2) h.1.1
 | .and a b, N, sc, e, X, G, h => by
   simp only[chkE] at h
   replace h:=zaf h
   obtain⟨⟨o,vs,p⟩,q,h⟩:=h
   cases zbL q
   rw[Bool.and_eq_true,decide_eq_true_eq] at h
   obtain⟨e1,h⟩:=h
   cases e1
   dsimp only at h
   split at h
   · rename_i x y rest
     rw[Bool.and_eq_true] at h
     obtain⟨h1,h2⟩:=h
     split at h2
     · rename_i c
       cases List.isEmpty_iff.mp c
       exact zkF (zak a G h1) (zkL (zak b G h2))
     · exact zkF (zak a G h1) (zak b G h2)
   · cases h
 | .or a b, N, sc, e, X, G, h => by
   simp only[chkE] at h
   replace h:=zaf h
   obtain⟨⟨o,vs,p⟩,q,h⟩:=h
   cases zbL q
   rw[Bool.and_eq_true,decide_eq_true_eq] at h
   obtain⟨e1,h⟩:=h
   cases e1
   dsimp only at h
   split at h
   · rename_i x y rest
     rw[Bool.and_eq_true] at h
     obtain⟨h1,h2⟩:=h
     split at h2
     · rename_i c
       cases List.isEmpty_iff.mp c
       exact znF (zak a G h1) (zkL (zak b G h2))
     · exact znF (zak a G h1) (zak b G h2)
   · cases h
 | .ite c a b, N, sc, e, X, G, h => by
   simp only[chkE] at h
   replace h:=zaf h
   obtain⟨⟨t,x,y⟩,q,h⟩:=h
   obtain⟨p,rfl⟩:=zjn q
   simp only[Bool.and_eq_true] at h
   exact znK (zaX c G h.1.1).1 (zak a G h.1.2) (zak b G h.2)
 | .tup es, N, sc, e, X, G, h => by
   simp only[chkE] at h
   replace h:=zaf h
   obtain⟨xs,q,h⟩:=h
   obtain⟨j,p,rfl⟩:=zcZ q
   exact znD (zaN es G h).1
 | .lst es, N, sc, e, X, G, h => by
   simp only[chkE] at h
   replace h:=zaf h
   obtain⟨xs,q,h⟩:=h
   obtain⟨p,rfl⟩:=zgP q
   exact znJ (zaN es G h).1
 | .ix a b, N, sc, e, X, G, h => by
   simp only[chkE] at h
   replace h:=zaf h
   obtain⟨⟨x,i⟩,q,h⟩:=h
   obtain⟨p,rfl⟩:=zcf q
   simp only[Bool.and_eq_true] at h
   exact zpK (zak a G h.1.2) (zak b G h.2) h.1.1
 | .fld a f, N, sc, e, X, G, h => by
   simp only[chkE] at h
   replace h:=zaf h
   obtain⟨⟨o,f',p⟩,q,h⟩:=h
   cases zbM q
   simp only[Bool.and_eq_true,decide_eq_true_eq] at h
   obtain⟨⟨⟨rfl,h2⟩,h3⟩,h4⟩:=h
   exact znM G (zak a G h4) h2 h3
 | .mk c f x j es, N, sc, e, X, G, h => by
   simp only[chkE] at h
   replace h:=zaf h
   obtain⟨⟨x',args⟩,q,h⟩:=h
   obtain⟨p2,p,rfl⟩:=zaD q
   simp only[Bool.and_eq_true,Bool.or_eq_true,decide_eq_true_eq] at h
   obtain⟨⟨⟨⟨⟨⟨rfl,h1⟩,h2⟩,h3⟩,h4⟩,h5⟩,h6⟩:=h
   obtain⟨n1,n2,n3⟩:=zbC h2
   have ha:=(zaN es G h6).1
   cases args with
   | nil =>
     have:es=.nil:=by
      cases es with
      |nil=>rfl
      |cons _ _=>rcases h5 with z|z<;>cases z
     rw[this]
     exact znI G h4 h3 h1 n1
   |cons a as=>exact zpJ G h4 h3 h1 n1 ha (zaF h6)
 | .meth m tb o es, N, sc, e, X, G, h => by
   simp only[chkE] at h
   replace h:=zaf h
   obtain⟨⟨oe,m',ap,args,cp⟩,q,h⟩:=h
   cases zb3 q
   simp only[Bool.and_eq_true,Bool.or_eq_true,decide_eq_true_eq] at h
   obtain⟨⟨⟨⟨⟨⟨⟨rfl,h1⟩,h2⟩,h3⟩,h4⟩,h5⟩,h6⟩,h7⟩:=h
   have ho:=zak o G h6
   have ha:=(zaN es G h7).1
   cases args with
   | nil =>
     have:es=.nil:=by
      cases es with
      |nil=>rfl
      |cons _ _=>rcases h5 with z|z<;>cases z
     rw[this]
     exact zja G h1 ho h2 h3
   |cons a as=>exact zlB G h1 ho ha (zaF h7) h2 h3 h4
 | .isc cs x a, N, sc, e, X, G, h => by
   simp only[chkE] at h
   replace h:=zaf h
   obtain⟨⟨x',args⟩,q,h⟩:=h
   obtain⟨p2,p,rfl⟩:=zaD q
   replace h:=zaf h
   obtain⟨⟨e1,e2⟩,q2,h⟩:=h
   cases two_inv q2
   replace h:=zaf h
   obtain⟨y,q3,h⟩:=h
   obtain⟨p3,rfl⟩:=zaL q3
   simp only[Bool.and_eq_true,decide_eq_true_eq] at h
   obtain⟨⟨⟨⟨⟨⟨⟨h0,h1⟩,rfl⟩,h2⟩,h3⟩,h4⟩,h5⟩,h6⟩:=h
   cases zbU h0
   exact znL G (zbI G h1) h2 (zbC h3).1 h4 (zak a G h6) h5
 | .callC f x m es, N, sc, e, X, G, h => by
   simp only[chkE] at h
   replace h:=zaf h
   obtain⟨⟨oe,m',ap,args,cp⟩,q,h⟩:=h
   cases zb3 q
   replace h:=zaf h
   obtain⟨y,q3,h⟩:=h
   obtain⟨p3,rfl⟩:=zaL q3
   simp only[Bool.and_eq_true,decide_eq_true_eq] at h
   obtain⟨⟨⟨⟨⟨⟨⟨⟨rfl,rfl⟩,h1⟩,h2⟩,h3⟩,h4⟩,h5⟩,h6⟩,h7⟩:=h
   cases args with
   |nil=>cases h6
   |cons a as=>exact zje G h3 h1 (zbC h2).1 rfl (zaN es G h7).1 (zaF h7) h5 h4
 | .callV a es, N, sc, e, X, G, h => by
   simp only[chkE] at h
   replace h:=zaf h
   obtain⟨⟨x,args⟩,q,h⟩:=h
   obtain⟨p2,p,rfl⟩:=zaD q
   replace h:=zaf h
   obtain⟨i,q2,h⟩:=h
   obtain rfl:=zh5 q2
   simp only[Bool.and_eq_true,beq_iff_eq] at h
   obtain⟨⟨⟨⟨h1,h2⟩,h3⟩,h4⟩,h5⟩:=h
   obtain⟨n1,n2,_⟩:=zbC h3
   have ha:=(zaN es G h5).1
   cases args with
   |nil=>cases h4
   |cons a as=>exact zjd G (zkE G h1 h2 n1 n2) ha (zaF h5)
 | .clr a, N, sc, e, X, G, h => by
   simp only[chkE] at h
   replace h:=zaf h
   obtain⟨⟨oe,m',ap,args,cp⟩,q,h⟩:=h
   cases zb3 q
   simp only[Bool.and_eq_true,List.isEmpty_iff] at h
   obtain⟨⟨⟨⟨h0,h1⟩,h2⟩,rfl⟩,h4⟩:=h
   cases zbU h0
   exact znQ (zak a G h4) h1 h2
 | .slS a b, N, sc, e, X, G, h => by
   simp only[chkE] at h
   replace h:=zaf h
   obtain⟨⟨x,i⟩,q,h⟩:=h
   obtain⟨p,rfl⟩:=zcf q
   replace h:=zaf h
   obtain⟨s,q2,h⟩:=h
   obtain⟨p2,rfl⟩:=zhu q2
   simp only[Bool.and_eq_true] at h
   exact znE (zak a G h.1) (zak b G h.2)
 | .sl a ml mh lo hi, N, sc, e, X, G, h => by
   simp only[chkE] at h
   replace h:=zaf h
   obtain⟨⟨x,i⟩,q,h⟩:=h
   obtain⟨p,rfl⟩:=zcf q
   replace h:=zaf h
   obtain⟨⟨l,u⟩,q2,h⟩:=h
   obtain⟨p2,rfl⟩:=zjm q2
   simp only[Bool.and_eq_true] at h
   obtain⟨⟨h1,h2⟩,h3⟩:=h
   refine zpG (zak a G h1) (zhQ (fun z=>?_) fun e z=>?_) (zhQ (fun z=>?_) fun e z=>?_)
   · subst z;simpa using h2
   · subst z
     simp only[Bool.and_eq_true] at h2
     exact⟨h2.1,zak lo G h2.2⟩
   · subst z;simpa using h3
   · subst z
     simp only[Bool.and_eq_true] at h3
     exact⟨h3.1,zak hi G h3.2⟩
 | .call f j es, N, sc, e, X, G, h => by
   simp only[chkE] at h
   replace h:=zaf h
   obtain⟨⟨x,args⟩,q,h⟩:=h
   obtain⟨p2,p,rfl⟩:=zaD q
   simp only[Bool.and_eq_true,Bool.or_eq_true] at h
   obtain⟨⟨⟨⟨h1,h2⟩,h3⟩,h4⟩,h5⟩:=h
   obtain⟨n1,n2,n3⟩:=zbC h2
   obtain⟨ps,nd,hf,hj⟩:=zix h3
   have ha:=(zaN es G h5).1
   cases args with
   | nil =>
     have:es=.nil:=by
      cases es with
      |nil=>rfl
      |cons _ _=>rcases h4 with z|z<;>cases z
     rw[this]
     exact zjf G hf hj h1 n1
   |cons a as=>exact zlE G hf hj h1 n1 ha (zaF h5)
 | .callW f j es, N, sc, e, X, G, h => by
   simp only[chkE] at h
   replace h:=zaf h
   obtain⟨⟨x,args⟩,q,h⟩:=h
   obtain⟨p2,p,rfl⟩:=zaD q
   simp only[Bool.and_eq_true] at h
   obtain⟨⟨⟨⟨h1,h2⟩,h3⟩,h4⟩,h5⟩:=h
   obtain⟨n1,n2,n3⟩:=zbC h2
   obtain⟨ps,nd,hf,hj⟩:=zix h3
   have ha:=(zaN es G h5).1
   cases args with
   |nil=>cases h4
   |cons a as=>exact zjc G hf hj h1 n1 ha (zaF h5)
 | .bi b es, N, sc, e, X, G, h => by
   simp only[chkE] at h
   replace h:=zaf h
   obtain⟨⟨x,args⟩,q,h⟩:=h
   obtain⟨p2,p,rfl⟩:=zaD q
   rw[Bool.and_eq_true,Bool.and_eq_true] at h
   obtain⟨⟨h1,h2⟩,h3⟩:=h
   obtain⟨n1,n2,n3⟩:=zbC h2
   split at h3
   · rename_i t qt
     replace h3:=zaf h3
     obtain⟨⟨e1,e2⟩,q2,h3⟩:=h3
     cases two_inv q2
     replace h3:=zaf h3
     obtain⟨y,q3,h3⟩:=h3
     obtain⟨p3,rfl⟩:=zaL q3
     simp only[Bool.and_eq_true] at h3
     obtain⟨⟨⟨⟨⟨hx,h4⟩,h5⟩,h6⟩,h7⟩,h8⟩:=h3
     cases zbU hx
     obtain⟨m1,m2,m3⟩:=zbC h6
     obtain⟨t1,t2⟩:=zni h4
     obtain⟨a,ea⟩:=zgB h7
     have he:=(zaN es G h8).2 a .nil e1 [] ea rfl
     have hst:=zaF h8
     have eb:b=.isin t:=by
      cases b with
      |isin _=>cases qt;rfl
      |_=>cases qt
     rw[ea,eb]
     exact zlC G (zbI G h1) (zbI G h5) t2 t1 m3 m1 he (by simpa using hst)
   · rw[Bool.and_eq_true,Bool.and_eq_true] at h3
     cases args with
     |nil=>cases h3.1.2
     | cons a as =>
       obtain⟨id,hc,hv⟩:=zg6 G h3.1.1
       exact zpL hc (zbI G h1) hv (zaN es G h3.2).1 (zaF h3.2) n3 n1
 | .mt m o es, N, sc, e, X, G, h => by
   simp only[chkE] at h
   replace h:=zaf h
   obtain⟨⟨oe,x,ap,e1,cp⟩,q,h⟩:=h
   cases zdG q
   simp only[Bool.and_eq_true] at h
   obtain⟨⟨⟨⟨⟨h1,h2⟩,h3⟩,h4⟩,h5⟩,h6⟩:=h
   obtain⟨a,ea⟩:=zgB h4
   have he:=(zaN es G h6).2 a .nil e1 [] ea rfl
   have hst:zav e1=true:=by simpa using zaF h6
   rw[ea]
   cases m with
   | append =>
     cases zbU h1
     exact zpI PySem.F.slot_list_append PySem.F.type_list_append ziX (zak o G h5) he hst h2 h3
 | .mkL l, N, sc, e, X, G, h => by
   simp only[chkE] at h
   split at h
   · rename_i c
     split at h
     · have ht:zmt l=true:=by
        cases l with
        |comp=>rfl
        |_=>cases c
       exact PE.imp ((zbF l G h).2.1 ht) fun σ H Qv q=>zhV q
     · replace h:=zaf h
       obtain⟨⟨x,e1⟩,q,h⟩:=h
       obtain⟨p2,p,rfl⟩:=zbk q
       simp only[Bool.and_eq_true] at h
       obtain⟨⟨⟨hx,h1⟩,h2⟩,h4⟩:=h
       cases zbU hx
       have hr:zj1 l=false:=by
        cases l with
        |comp=>rfl
        |_=>cases c
       exact zkD G (zbI G h1) ((zbF l G h4).1 hr) h2
   · replace h:=zaf h
     obtain⟨⟨x,e1⟩,q,h⟩:=h
     obtain⟨p2,p,rfl⟩:=zbk q
     simp only[Bool.and_eq_true,Bool.or_eq_true,Bool.not_eq_true'] at h
     obtain⟨⟨⟨⟨hx,h1⟩,h2⟩,h3⟩,h4⟩:=h
     cases zbU hx
     have hl:=zbF l G h4
     rcases h3 with h3|h3
     · exact zkD G (zbI G h1) (hl.1 h3) h2
     · have:∃a,l=.rng1 a:=by
        cases l with
        |rng1 a=>exact⟨a,rfl⟩
        |_=>cases h3
       obtain⟨a,ea⟩:=this
       obtain⟨a',p3,p4,rfl,hr,ha,hs⟩:=hl.2.2.2 a ea
       rw[ea]
       exact zlA G (zbI G h1) hr ha hs
 | .mkT l, N, sc, e, X, G, h => by
   simp only[chkE] at h
   replace h:=zaf h
   obtain⟨⟨x,e1⟩,q,h⟩:=h
   obtain⟨p2,p,rfl⟩:=zbk q
   simp only[Bool.and_eq_true,Bool.not_eq_true'] at h
   obtain⟨⟨⟨⟨hx,h1⟩,h2⟩,h3⟩,h4⟩:=h
   cases zbU hx
   have hl:=zbF l G h4
   exact znH G (zbI G h1) (hl.1 h3) h2
 | .ext a l, N, sc, e, X, G, h => by
   simp only[chkE] at h
   replace h:=zaf h
   obtain⟨⟨oe,x,ap,e1,cp⟩,q,h⟩:=h
   cases zdG q
   simp only[Bool.and_eq_true] at h
   obtain⟨⟨⟨⟨⟨⟨hx,h1⟩,h2⟩,h3⟩,h4⟩,h5⟩,h6⟩:=h
   cases zbU hx
   exact znN (zak a G h5) ((zbF l G h6).2.1 h4) h1 h2 h3
 | .dnew3, N, sc, e, X, G, h => by
   simp only[chkE] at h
   obtain⟨p,rfl⟩:=zfk h
   exact zjb
theorem zaN:∀(ces:CEs) {N:List Str} {sc:Scope} {es:List Expr} {X:Cx},Gd T cf k N sc X->zbc T ces N sc es=true->EsOk cf ces X es
 | .nil, N, sc, es, X, G, h => by
   simp only[zbc,List.isEmpty_iff] at h
   subst h
   exact⟨zkG,fun a r e es' z=>nomatch z⟩
 | .cons a r, N, sc, es, X, G, h => by
   cases es with
   |nil=>simp[zbc] at h
   | cons e es =>
     simp only[zbc,Bool.and_eq_true] at h
     have he:=zak a G h.1.2
     exact⟨zhr he (zaN r G h.2).1 h.1.1,fun a' r' e' es' z1 z2=>by cases z1;cases z2;exact he⟩
theorem zaX:∀(ce:CE) {N:List Str} {sc:Scope} {e:Expr} {X:Cx},Gd T cf k N sc X->chkT T ce N sc e=true->PT X e (tT X.K cf ce)/\((∃op v r p,e=.BoolOp op (v::r) p)->PW X e (tT X.K cf ce))
 | .cmp op a b, N, sc, e, X, G, h => by
   simp only[chkT] at h
   replace h:=zaf h
   obtain⟨⟨l,os,rs⟩,q,h⟩:=h
   obtain⟨p,rfl⟩:=zeJ q
   rw[Bool.and_eq_true,decide_eq_true_eq] at h
   obtain⟨e1,h⟩:=h
   replace h:=zaf h
   obtain⟨r,q2,h⟩:=h
   cases za9 q2
   cases e1
   simp only[Bool.and_eq_true] at h
   exact⟨znw G (zak a G h.1.2) (zak b G h.2) h.1.1,fun⟨_,_,_,_,z⟩=>nomatch z⟩
 | .nt a, N, sc, e, X, G, h => by
   simp only[chkT] at h
   replace h:=zaf h
   obtain⟨⟨o,x⟩,q,h⟩:=h
   obtain⟨p,rfl⟩:=zd8 q
   simp only[Bool.and_eq_true,decide_eq_true_eq] at h
   obtain⟨rfl,h1⟩:=h
   exact⟨zpE (zaX a G h1).1,fun⟨_,_,_,_,z⟩=>nomatch z⟩
 | .and a b, N, sc, e, X, G, h => by
   simp only[chkT] at h
   replace h:=zaf h
   obtain⟨⟨o,vs,p⟩,q,h⟩:=h
   cases zbL q
   rw[Bool.and_eq_true,decide_eq_true_eq] at h
   obtain⟨e1,h⟩:=h
   cases e1
   dsimp only at h
   split at h
   · rename_i x y rest
     rw[Bool.and_eq_true] at h
     obtain⟨h1,h2⟩:=h
     split at h2
     · rename_i c
       cases List.isEmpty_iff.mp c
       have w:=zkA (pos:=p) (zaX a G h1).1 (zlU (zaX b G h2).1)
       exact⟨w.pt,fun _=>w⟩
     · have w:=zkA (zaX a G h1).1 ((zaX b G h2).2 ⟨_,_,_,_,rfl⟩)
       exact⟨w.pt,fun _=>w⟩
   · cases h
 | .or a b, N, sc, e, X, G, h => by
   simp only[chkT] at h
   replace h:=zaf h
   obtain⟨⟨o,vs,p⟩,q,h⟩:=h
   cases zbL q
   rw[Bool.and_eq_true,decide_eq_true_eq] at h
   obtain⟨e1,h⟩:=h
   cases e1
   dsimp only at h
   split at h
   · rename_i x y rest
     rw[Bool.and_eq_true] at h
     obtain⟨h1,h2⟩:=h
     split at h2
     · rename_i c
       cases List.isEmpty_iff.mp c
       have w:=znv (pos:=p) (zaX a G h1).1 (zn9 (zaX b G h2).1)
       exact⟨w.pt,fun _=>w⟩
     · have w:=znv (zaX a G h1).1 ((zaX b G h2).2 ⟨_,_,_,_,rfl⟩)
       exact⟨w.pt,fun _=>w⟩
   · cases h
 | .tst a, N, sc, e, X, G, h => by
   simp only[chkT,Bool.and_eq_true] at h
   exact⟨znu (zak a G h.2) h.1,fun⟨_,_,_,_,z⟩=>by rw[z] at h;simp[zge] at h⟩
 |.loc i,N,sc,e,X,G,h=>absurd h Bool.false_ne_true
 |.con d,N,sc,e,X,G,h=>absurd h Bool.false_ne_true
 |.bin op a b,N,sc,e,X,G,h=>absurd h Bool.false_ne_true
 |.neg a,N,sc,e,X,G,h=>absurd h Bool.false_ne_true
 |.ite c a b,N,sc,e,X,G,h=>absurd h Bool.false_ne_true
 |.tup es,N,sc,e,X,G,h=>absurd h Bool.false_ne_true
 |.lst es,N,sc,e,X,G,h=>absurd h Bool.false_ne_true
 |.ix a b,N,sc,e,X,G,h=>absurd h Bool.false_ne_true
 |.fld a f,N,sc,e,X,G,h=>absurd h Bool.false_ne_true
 |.mk c f x j es,N,sc,e,X,G,h=>absurd h Bool.false_ne_true
 |.meth m tb o es,N,sc,e,X,G,h=>absurd h Bool.false_ne_true
 |.isc cs x a,N,sc,e,X,G,h=>absurd h Bool.false_ne_true
 |.callC f x m es,N,sc,e,X,G,h=>absurd h Bool.false_ne_true
 |.clr a,N,sc,e,X,G,h=>absurd h Bool.false_ne_true
 |.callV a es,N,sc,e,X,G,h=>absurd h Bool.false_ne_true
 |.slS a b,N,sc,e,X,G,h=>absurd h Bool.false_ne_true
 |.sl a ml mh lo hi,N,sc,e,X,G,h=>absurd h Bool.false_ne_true
 |.call f j es,N,sc,e,X,G,h=>absurd h Bool.false_ne_true
 |.callW f j es,N,sc,e,X,G,h=>absurd h Bool.false_ne_true
 |.bi b es,N,sc,e,X,G,h=>absurd h Bool.false_ne_true
 |.mt m o es,N,sc,e,X,G,h=>absurd h Bool.false_ne_true
 |.mkL l,N,sc,e,X,G,h=>absurd h Bool.false_ne_true
 |.mkT l,N,sc,e,X,G,h=>absurd h Bool.false_ne_true
 |.ext a l,N,sc,e,X,G,h=>absurd h Bool.false_ne_true
 |.dnew3,N,sc,e,X,G,h=>absurd h Bool.false_ne_true
theorem zbF:∀(cl:CL) {N:List Str} {sc:Scope} {e:Expr} {X:Cx},Gd T cf k N sc X->chkL T cl N sc e=true->LOk T cf k cl X e
 | .val a, N, sc, e, X, G, h => by
   simp only[chkL,Bool.and_eq_true] at h
   have hp:=znB (zak a G h.2)
   exact⟨fun _=>hp,fun z=>(by cases z),fun tg _=>zho hp zoI,fun a z=>nomatch z⟩
 | .callL f j es, N, sc, e, X, G, h => by
   simp only[chkL] at h
   replace h:=zaf h
   obtain⟨⟨x,args⟩,q,h⟩:=h
   obtain⟨p2,p,rfl⟩:=zaD q
   simp only[Bool.and_eq_true] at h
   obtain⟨⟨⟨⟨h1,h2⟩,h3⟩,h4⟩,h5⟩:=h
   obtain⟨n1,n2,n3⟩:=zbC h2
   obtain⟨ps,nd,hf,hj⟩:=zix h3
   have ha:=(zaN es G h5).1
   cases args with
   |nil=>cases h4
   | cons a as =>
     have hp:=zlv G (p:=p2) (pos:=p) hf hj h1 n1 ha (zaF h5)
     exact⟨fun _=>(PE.ofT hp),fun _=>hp,fun tg _=>zho (PE.ofT hp) zjS,fun a z=>nomatch z⟩
 | .rng1 a, N, sc, e, X, G, h => by
   simp only[chkL] at h
   replace h:=zaf h
   obtain⟨⟨x,e1⟩,q,h⟩:=h
   obtain⟨p2,p,rfl⟩:=zbk q
   simp only[Bool.and_eq_true] at h
   obtain⟨⟨⟨hx,h1⟩,h2⟩,h3⟩:=h
   cases zbU hx
   have he:=zak a G h3
   exact⟨fun z=>(by cases z),fun z=>(by cases z),fun tg _=>zlx (zbI G h1) he h2,fun a z=>by cases z;exact⟨e1,p2,p,rfl,zbI G h1,he,h2⟩⟩
 | .rng2 a b, N, sc, e, X, G, h => by
   simp only[chkL] at h
   replace h:=zaf h
   obtain⟨⟨x,args⟩,q,h⟩:=h
   obtain⟨p2,p,rfl⟩:=zaD q
   replace h:=zaf h
   obtain⟨⟨e1,e2⟩,q2,h⟩:=h
   cases two_inv q2
   simp only[Bool.and_eq_true] at h
   obtain⟨⟨⟨⟨⟨hx,h1⟩,h2⟩,h3⟩,h4⟩,h5⟩:=h
   cases zbU hx
   exact⟨fun z=>(by cases z),fun z=>(by cases z),fun tg _=>zlw (zbI G h1) (zak a G h4) (zak b G h5) h2 h3,fun a z=>nomatch z⟩
 | .comp nt js g it c e, N, sc, ex, X, G, h => by
   simp only[chkL] at h
   replace h:=zaf h
   obtain⟨⟨elt,gs,scope,p⟩,q,h⟩:=h
   cases zgb q
   replace h:=zaf h
   obtain⟨⟨tg,iter,ifs,asy⟩,q2,h⟩:=h
   cases za9 q2
   rw[Bool.and_eq_true,Bool.and_eq_true,Bool.and_eq_true,Bool.and_eq_true,Bool.and_eq_true,Bool.and_eq_true,Bool.and_eq_true,Bool.and_eq_true,decide_eq_true_eq,decide_eq_true_eq,decide_eq_true_eq] at h
   obtain⟨⟨⟨⟨⟨⟨⟨⟨h1,h2⟩,h3⟩,h4⟩,h5⟩,h6⟩,h7⟩,h8⟩,h9⟩:=h
   dsimp only at h1 h2 h3 h4 h5 h6 h7 h8 h9
   rw[Bool.and_eq_true] at h3
   subst h1 h5
   have ok:=zgA G h2
   have G':=ziw G (tgs:=zbR tg) ok h6
   have ht:∀cl C fp s H pn,PTs (zaH X (capN X.N (zbR tg) js) scope cl C fp s H pn) ifs (tT X.K cf c):=fun cl C fp s H pn=>by
    split at h8
    · rename_i ce
      cases List.isEmpty_iff.mp ce
      exact zf4 (X:=zaH X (capN X.N (zbR tg) js) scope cl C fp s H pn) h8
    · replace h8:=zaf h8
      obtain⟨t,q3,h8⟩:=h8
      cases za9 q3
      exact zhE (zaX c (G' cl C fp s H pn) h8).1
   have hp:PE X (.ListComp elt [⟨tg,iter,ifs,0⟩] scope p) (tLt X.K cf (.comp (zbR tg).length js g it c e)):=
    PE.imp (zjC X.env.scope (zbR tg) js G.calm rfl ok ((zbF it G h4).2.2.1 tg h3.2) (fun cl C fp s H pn=>zlh (G' cl C fp s H pn) h7) ht (fun cl C fp s H pn=>zak e (G' cl C fp s H pn) h9) (zfO h3.1 X.env)) fun σ H Qv q=>zgz G.tab.frm q
   exact⟨fun _=>(PE.ofT hp),fun _=>hp,fun tg _=>zho (PE.ofT hp) zmm,fun a z=>nomatch z⟩
end
end
end R
end
section
set_option maxHeartbeats 4000000
namespace R
open PySem PySem.Spec PyProof.Rows L2
variable [Mks]
section
variable {T:Tab} {cf:CF} {k:Nat}
theorem zlq {N:List Str}{sc:Scope}{X:Cx}{rest:List Stmt}{p pos p2:Pos}(G:Gd T cf k N sc X){i:Nat}{x:Str}{l:CL}{elt:Expr}{gs:List Comprehension}{scope:Scope}{r:CS}(hi:N[i]?=some x)(hl:zeZ sc x=true)(h:chkE T (.mkL l) N sc (.ListComp elt gs scope p2)=true)(hr:PSs X rest (tS X.K cf r)) :
  PSs X (.Assign [.Name x p] (.ListComp elt gs scope p2) pos::rest) (tS X.K cf (.asg i (.mkL l) r)):=by
 have hw:∃b,swapsWith (.ListComp elt gs scope p2) (some (.Name x p)) pos.line X.env=pure b:=⟨_,rfl⟩
 obtain⟨b,hw⟩:=hw
 cases b with
 | false =>
   refine PSs.imp (zaM (zhH (i:=i) (by rw[G.nm];exact G.nd) (by rw[G.nm];exact hi) (G.lc hl).1 (zak (.mkL l) G h) hw (G.lc hl).2) hr) fun E σ H ⟨δ,ι,S,Q,hs,hh,w,lf⟩=>?_
   simp only[exS,zac] at w
   refine tE.run hs hh w fun d v ι1 H1 S1 x1 hs1 hh1 r1 w1=>?_
   exact⟨δ.set i (some d),ι1,S1,Q,hs1.set r1 i,hh1,w1,lf.up x1⟩
 | true =>
   simp only[chkE] at h
   split at h
   · rename_i c0
     split at h
     · cases l with
       | comp nt js g it c e =>
         simp only[chkL] at h
         replace h:=zaf h
         obtain⟨⟨elt',gs',scope',p'⟩,q,h⟩:=h
         cases zgb q
         replace h:=zaf h
         obtain⟨⟨tg,iter,ifs,asy⟩,q2,h⟩:=h
         cases za9 q2
         rw[Bool.and_eq_true,Bool.and_eq_true,Bool.and_eq_true,Bool.and_eq_true,Bool.and_eq_true,Bool.and_eq_true,Bool.and_eq_true,Bool.and_eq_true,decide_eq_true_eq,decide_eq_true_eq,decide_eq_true_eq] at h
         obtain⟨⟨⟨⟨⟨⟨⟨⟨h1,h2⟩,h3⟩,h4⟩,h5⟩,h6⟩,h7⟩,h8⟩,h9⟩:=h
         dsimp only at h1 h2 h3 h4 h5 h6 h7 h8 h9
         rw[Bool.and_eq_true] at h3
         subst h1 h5
         have ok:=zgA G h2
         have G':=ziw G (tgs:=zbR tg) ok h6
         have ht:∀cl C fp s H pn,PTs (zaH X (capN X.N (zbR tg) js) scope cl C fp s H pn) ifs (tT X.K cf c):=fun cl C fp s H pn=>by
          split at h8
          · rename_i ce
            cases List.isEmpty_iff.mp ce
            exact zf4 (X:=zaH X (capN X.N (zbR tg) js) scope cl C fp s H pn) h8
          · replace h8:=zaf h8
            obtain⟨t,q3,h8⟩:=h8
            cases za9 q3
            exact zhE (zaX c (G' cl C fp s H pn) h8).1
         have he:∀cl C fp s H pn,PE (zaH X (capN X.N (zbR tg) js) scope cl C fp s H pn) elt (tE X.K cf e):=fun cl C fp s H pn=>zak e (G' cl C fp s H pn) h9
         have hg:∀cl C fp s H pn,PG (zaH X (capN X.N (zbR tg) js) scope cl C fp s H pn) tg (tG X.K g):=fun cl C fp s H pn=>zlh (G' cl C fp s H pn) h7
         have hps:=zlY (spos:=pos) (py:=p) (pos:=p2) X.env.scope (zbR tg) js (i:=i) (y:=x) (by rw[G.nm];exact G.nd) (by rw[G.nm];exact hi) (G.lc hl).1 G.calm rfl ok ((zbF it G h4).2.2.1 tg h3.2) hg ht he hw (zfO h3.1 X.env) (G.lc hl).2
         exact zls G hi ⟨_,hps,fun σ H Qv q=>zgz G.tab.frm (zhV q)⟩ hr
       |_=>cases c0
     · cases h
   · cases h
theorem zmO {v:Expr}(h:zba v=false){e:CE}{N:List Str}{sc:Scope}(hc:chkE T e N sc v=true):∃l elt gs scope p,v=.ListComp elt gs scope p/\e=.mkL l:=by
 cases v with
 | ListComp elt gs scope p =>
   cases e with
   |mkL l=>exact⟨l,elt,gs,scope,p,rfl,rfl⟩
   |_=>simp[chkE,za7,zc2,zhA,rdUn,zgQ,zcG,rdIf,zfi,zeI,zc1,zfj,zeH,zaP,zbl,zbX,zc0,zby,zbY] at hc
 |SetComp=>cases e<;>simp[chkE,za7,zc2,zhA,rdUn,zgQ,zcG,rdIf,zfi,zeI,zc1,zfj,zeH,zaP,zbl,zbX,zc0,zby,zbY,rdLC,chkL] at hc
 |DictComp=>cases e<;>simp[chkE,za7,zc2,zhA,rdUn,zgQ,zcG,rdIf,zfi,zeI,zc1,zfj,zeH,zaP,zbl,zbX,zc0,zby,zbY,rdLC,chkL] at hc
 |_=>cases h
theorem zaV:∀(cs:CS) {N:List Str} {sc:Scope} {st:List Stmt} {X:Cx},Gd T cf k N sc X->chkS T cs N sc st=true->PSs X st (tS X.K cf cs)
 | .nil, N, sc, st, X, G, h => by
   simp only[chkS,List.isEmpty_iff] at h
   subst h
   exact zny
 |.stop,N,sc,st,X,G,h=>fun pins s σ H E I ⟨δ,ι,S,Q,hs,hh,w,l⟩=>(by simp only[exS] at w;exact w.elim)
 | .asg i e r, N, sc, st, X, G, h => by
   cases st with
   |nil=>simp[chkS] at h
   | cons s rest =>
     simp only[chkS] at h
     replace h:=zaf h
     obtain⟨⟨tg,v,pos⟩,q,h⟩:=h
     cases zcg q
     replace h:=zaf h
     obtain⟨x,q2,h⟩:=h
     obtain⟨p,hx⟩:=zaL q2
     dsimp only at hx
     subst hx
     simp only[Bool.and_eq_true,beq_iff_eq] at h
     obtain⟨⟨⟨h1,h2⟩,h3⟩,h4⟩:=h
     have hr:=zaV r G h4
     cases hn:zba v with
     |true=>exact znA G h1 h2 (zak e G h3) hn hr
     | false =>
       obtain⟨l,elt,gs,scope,p2,rfl,rfl⟩:=zmO hn h3
       exact zlq G h1 h2 h3 hr
 | .asgT g e r, N, sc, st, X, G, h => by
   cases st with
   |nil=>simp[chkS] at h
   | cons s rest =>
     simp only[chkS] at h
     replace h:=zaf h
     obtain⟨⟨tg,v,pos⟩,q,h⟩:=h
     cases zcg q
     replace h:=zaf h
     obtain⟨es,q2,h⟩:=h
     obtain⟨j,p,hx⟩:=zcZ q2
     dsimp only at hx
     subst hx
     simp only[Bool.and_eq_true,decide_eq_true_eq] at h
     obtain⟨⟨⟨⟨h1,h2⟩,h3⟩,h4⟩,h5⟩:=h
     refine zlr G h3 h2 (zak e G h4) ?_ (zaV r G h5)
     rw[Bool.or_eq_true] at h1
     rcases h1 with h1|h1
     · obtain⟨x,hx⟩:=Option.isSome_iff_exists.mp h1
       obtain⟨p2,hv⟩:=zaL hx
       exact .inl ⟨x,p2,hv⟩
     · obtain⟨⟨x,as⟩,hx⟩:=Option.isSome_iff_exists.mp h1
       obtain⟨p2,p3,hv⟩:=zaD hx
       exact .inr ⟨_,_,_,_,hv⟩
 | .setF a f e r, N, sc, st, X, G, h => by
   cases st with
   |nil=>simp[chkS] at h
   | cons s rest =>
     simp only[chkS] at h
     replace h:=zaf h
     obtain⟨⟨tg,v,pos⟩,q,h⟩:=h
     cases zcg q
     replace h:=zaf h
     obtain⟨⟨o,f',p⟩,q2,h⟩:=h
     have hx:=zbM q2
     dsimp only at hx
     subst hx
     simp only[Bool.and_eq_true,decide_eq_true_eq] at h
     obtain⟨⟨⟨⟨⟨h1,h2⟩,h3⟩,h4⟩,h5⟩,h6⟩:=h
     subst h1
     exact zln G h2 (zak a G h4) (zak e G h5) h3 (zaV r G h6)
 | .setIx a b e r, N, sc, st, X, G, h => by
   cases st with
   |nil=>simp[chkS] at h
   | cons s rest =>
     simp only[chkS] at h
     replace h:=zaf h
     obtain⟨⟨tg,v,pos⟩,q,h⟩:=h
     cases zcg q
     replace h:=zaf h
     obtain⟨⟨o,i⟩,q2,h⟩:=h
     obtain⟨p,hx⟩:=zcf q2
     dsimp only at hx
     subst hx
     simp only[Bool.and_eq_true] at h
     obtain⟨⟨⟨⟨h1,h2⟩,h3⟩,h4⟩,h5⟩:=h
     exact zi5 G (zak a G h2) (zak b G h3) (zak e G h4) h1 (zaV r G h5)
 | .ifS c t u r, N, sc, st, X, G, h => by
   cases st with
   |nil=>simp[chkS] at h
   | cons s rest =>
     simp only[chkS] at h
     replace h:=zaf h
     obtain⟨⟨e,a,b⟩,q,h⟩:=h
     obtain⟨p,rfl⟩:=zhw q
     simp only[Bool.and_eq_true] at h
     exact zpF (zaX c G h.1.1.1).1 (zaV t G h.1.1.2) (zaV u G h.1.2) (zaV r G h.2)
 | .forS g l b r, N, sc, st, X, G, h => by
   cases st with
   |nil=>simp[chkS] at h
   | cons s rest =>
     simp only[chkS] at h
     replace h:=zaf h
     obtain⟨⟨tg,it,body⟩,q,h⟩:=h
     obtain⟨p,rfl⟩:=zhx q
     simp only[Bool.and_eq_true] at h
     obtain⟨⟨⟨⟨h1,h2⟩,h3⟩,h4⟩,h5⟩:=h
     exact znz G ((zbF l G h2).2.2.1 tg h5.2) (zlh G h5.1) (zaV b G h3) h1 (zaV r G h4)
 | .ret e r, N, sc, st, X, G, h => by
   cases st with
   |nil=>simp[chkS] at h
   | cons s rest =>
     simp only[chkS] at h
     replace h:=zaf h
     obtain⟨v,q,h⟩:=h
     obtain⟨p,rfl⟩:=zhv q
     simp only[Bool.and_eq_true] at h
     exact znx (zak e G h.1) (zaV r G h.2)
 | .expr e r, N, sc, st, X, G, h => by
   cases st with
   |nil=>simp[chkS] at h
   | cons s rest =>
     simp only[chkS] at h
     replace h:=zaf h
     obtain⟨v,q,h⟩:=h
     obtain⟨p,rfl⟩:=zhy q
     simp only[Bool.and_eq_true] at h
     exact zlp (zak e G h.1.2) h.1.1 (zaV r G h.2)
 | .pass r, N, sc, st, X, G, h => by
   cases st with
   |nil=>simp[chkS] at h
   | cons s rest =>
     simp only[chkS,Bool.and_eq_true] at h
     obtain⟨p,rfl⟩:=zgO h.1
     exact zlo (zaV r G h.2)
theorem RS.start {K:W.Frag}{ι:List Addr}{H:Hp}{F:Fn}{N:List Str}{ds:List D}{vs:List V}(r:RVs K ι H ds vs)(hl:ds.length=F.np)(hn:F.nn=N.length):RS K ι H (zaJ F ds) (L2.start N vs):=by
 have hlen:=r.length
 refine⟨by simp[zaJ,L2.start,hlen,hl,hn],fun i d e=>?_⟩
 unfold zaJ at e
 unfold L2.start
 by_cases hi:i<ds.length
 · rw[List.getElem?_append_left (by simpa using hi),List.getElem?_map] at e
   rw[List.getElem?_append_left (by simpa[hlen] using hi),List.getElem?_map]
   cases z:ds[i]? with
   |none=>rw[z] at e;cases e
   | some d' =>
     rw[z] at e
     simp only[Option.map_some,Option.some.injEq] at e
     subst e
     obtain⟨v,ev,rv⟩:=r.get z
     exact⟨v,by rw[ev];rfl,rv⟩
 · rw[List.getElem?_append_right (by simpa using hi),List.getElem?_replicate] at e
   split at e<;>cases e
structure DefOk (K:W.Frag) (mg:Str->Option Value) (T:Tab) (Pg:List Fn) (fi:Nat) (x:Str) (ps:List Str) (nd:Nat):Prop where
 ex:∃(F:Fn) (qual:Str) (st:Stmt) (dV:Value) (f:Addr) (fd:FuncData) (N:List Str),Pg[fi]?=some F/\F.prim=none/\FunV K x qual st dV f fd/\FnScope N ps (zad st)/\chkS T F.body N (zad st) (zan st)=true/\F.np=ps.length/\F.nn=N.length/\
  mg x=some (.ref f)/\∀j,j<=nd->Binds K fd ps (List.replicate j Value.none)
theorem zl2 {S:R.St}{p:Prim}{ds:List D}{d:D}{T':R.St}(h:prm S p ds=.ok d T'):Frm S T':=by
 unfold prm at h
 split at h
 · split at h
   · split at h
     · split at h
       · injection h with _ h2;rw[<-h2];exact Frm.push _ _
       · cases h
     · cases h
   · cases h
 · split at h
   · split at h
     · injection h with _ h2;rw[<-h2];exact Frm.refl _
     · cases h
   · cases h
 · cases h
theorem zdg (Pg:List Fn):∀n:Nat,CFok (callF Pg n)
 |0,f,ds,S,d,T',h=>by cases h
 | n + 1, f, ds, S, d, T', h => by
   simp only[callF] at h
   cases e:Pg[f]? with
   |none=>rw[e] at h;cases h
   | some F =>
     rw[e] at h
     dsimp only at h
     split at h
     · cases ep:F.prim with
       | some p =>
         rw[ep] at h
         dsimp only at h
         split at h
         · exact zl2 h
         · cases h
       |none=>
       rw[ep] at h
       dsimp only at h
       cases ex:exS (callF Pg n) F.body (zaJ F ds) S with
       | ok r T2 =>
         rw[ex] at h
         have hf:=zcD (cf:=callF Pg n) (zdg Pg n) F.body (zaJ F ds) S (fun r' T3=>r'=r/\T3=T2) (by rw[ex];exact⟨rfl,rfl⟩)
         rw[ex] at hf
         cases r with
         |nx δ=>injection h with _ h2;rw[<-h2];exact hf.2
         |rt z=>injection h with _ h2;rw[<-h2];exact hf.2
       |err z T2=>rw[ex] at h;cases h
       |bad=>rw[ex] at h;cases h
     · cases h
variable {P:Program} {w:World} {K:W.Frag} {mg:Str->Option Value} {base:Heap} {Pg:List Fn}
theorem zbw {n fi:Nat}{F:Fn}{ps:List Str}(hP:Pg[fi]?=some F)(hp:F.np=ps.length){vs:List V}{H:Hp}{Q:VK}{E:XK}(h:spF K (callF Pg n) fi vs H Q E):vs.length=ps.length:=by
 obtain⟨ι,S,ds,r,hh,w⟩:=h
 rw[r.length]
 cases n with
 |zero=>exact w.elim
 | succ n =>
   simp only[callF,hP] at w
   split at w
   · rename_i c;rw[c,hp]
   · exact w.elim
theorem ziI {n m fi:Nat}{x qual:Str}{st:Stmt}{dV:Value}{f:Addr}{fd:FuncData}{N ps:List Str}{F:Fn}(tab:TabOk T (callF Pg n) m P w K mg base)(FV:FunV K x qual st dV f fd)(hP:Pg[fi]?=some F)(S:FnScope N ps (zad st))(ck:chkS T F.body N (zad st) (zan st)=true)(hp:F.np=ps.length)(hn:F.nn=N.length)(hq:F.prim=none:=by rfl) :
  FnOk P w K mg base CX0 (m+2) f fd ps (spF K (callF Pg (n+1)) fi):=by
 refine FV.ok S (fun vs H Q E h=>zbw hP hp h) fun cdv A outer s H vs Q E hr h=>?_
 obtain⟨ι,S0,ds,r,hh,hw⟩:=h
 have G:Gd T (callF Pg n) m N (zad st) (cxOf CX0 P w K mg base N qual (zad st) f cdv A outer s H E).nox:=
  ⟨rfl,S.nd,fun x e=>e,fun x e=>e,fun x e=>.inl e,fun x e=>e,.inl fun _=>rfl,rfl,rfl,hr,tab⟩
 refine⟨_,zaV F.body G ck,?_⟩
 simp only[callF,hP,hq] at hw
 split at hw
 · rename_i c
   rw[zac] at hw
   refine⟨zaJ F ds,ι,S0,_,RS.start r c hn,hh,hw,?_⟩
   intro fl ι' H' S' x' hh' q
   cases fl with
   |nx δ'=>exact fun σ' hs'=>q .non H' ι' x' rfl hh'
   |rt d=>exact fun v rv=>q v H' ι' x' rv hh'
 · exact hw.elim
structure MOk (K:W.Frag) (T:Tab) (Pg:List Fn) (fi j:Nat) (Ex:Addr->Prop):Prop where
 ex:∃(F:Fn) (x qual:Str) (st:Stmt) (dV:Value) (f:Addr) (fd:FuncData) (N ps:List Str),Pg[fi]?=some F/\F.prim=none/\FunV K x qual st dV f fd/\FnScope N ps (zad st)/\chkS T F.body N (zad st) (zan st)=true/\F.np=ps.length/\F.nn=N.length/\
  Binds K fd ps (List.replicate j Value.none)/\Ex f
theorem zek {fi j:Nat}{Ex:Addr->Prop}(z:MOk K T Pg fi j Ex):∃f fd ps,Ex f/\W.keepIn K (.ref f)=true/\Binds K fd ps (List.replicate j Value.none)/\FnOk P w K mg base CX0 0 f fd ps (spF K (callF Pg 0) fi):=by
 obtain⟨F,x,qual,st,dV,f,fd,N,ps,hP,hq,FV,S,ck,hp,hn,hb,e⟩:=z.ex
 refine⟨f,fd,ps,e,FV.kp,hb,⟨fun vs H Q E h=>zbw hP hp h,fun A outer s H args us vs Q E hr e0 b v h=>?_⟩⟩
 obtain⟨ι,S,ds,r,hh,w⟩:=h
 exact w.elim
theorem zel {n m fi j:Nat}{Ex:Addr->Prop}(tab:TabOk T (callF Pg n) m P w K mg base)(z:MOk K T Pg fi j Ex):∃f fd ps,Ex f/\W.keepIn K (.ref f)=true/\Binds K fd ps (List.replicate j Value.none)/\FnOk P w K mg base CX0 (m+2) f fd ps (spF K (callF Pg (n+1)) fi):=by
 obtain⟨F,x,qual,st,dV,f,fd,N,ps,hP,hq,FV,S,ck,hp,hn,hb,e⟩:=z.ex
 exact⟨f,fd,ps,e,FV.kp,hb,ziI tab FV hP S ck hp hn hq⟩
noncomputable def ExM (K:W.Frag)(c:Nat)(m:Str)(f:Addr):Prop:=∃C,Mks.cl[c]?=some C/\Cls K C/\Meth K C m f
noncomputable def ExI (K:W.Frag)(c:Nat)(f:Addr):Prop:=∃C,Mks.cl[c]?=some C/\Mk K C f
noncomputable def ExC (K:W.Frag)(mg:Str->Option Value)(x m:Str)(f:Addr):Prop:=∃(C:Addr) (mc:Value),mg x=some (.ref C)/\W.specialIn K (.ref C) "__getattribute__"=some (some (.builtin "type.__getattribute__"))/\W.readsIn K C mc=true/\W.findCls K (.ref C) mc m=some (.val (.ref f))
structure ClsOk (T:Tab) (K:W.Frag) (mg:Str->Option Value) (Pg:List Fn):Prop where
 cls:∀(c:Nat) (x:Str),T.cls[c]?=some x->∃C,Mks.cl[c]?=some C/\Cls K C/\mg x=some (.ref C)/\∀f,T.flds.contains f=true->NoAttr K C f
 mth:∀(c:Nat) (m:Str) (fi:Nat),T.mts.contains (c,m,fi)=true->MOk K T Pg fi 0 (ExM K c m)
 ini:∀(c fi j:Nat),T.inits.contains (c,fi,j)=true->MOk K T Pg fi j (ExI K c)
 cmd:∀(x m:Str) (fi:Nat),T.cms.contains (x,m,fi)=true->MOk K T Pg fi 0 (ExC K mg x m)
 cln:Mks.cl.length<=T.cls.length
 isa:∀(x:Str) (cs:List Nat),T.isas.contains (x,cs)=true->∃D,mg x=some (.ref D)/\∀c C,Mks.cl[c]?=some C->IsaOk K C/\W.kitOne K (.ref C) (.ref D)=some (cs.contains c)
theorem zir {k c fi:Nat}{m:Str}(h:∃f fd ps,ExM K c m f/\W.keepIn K (.ref f)=true/\Binds K fd ps []/\FnOk P w K mg base CX0 k f fd ps (spF K cf fi)):HasM P w K mg base k c m (spF K cf fi):=by
 obtain⟨f,fd,ps,⟨C,h1,h2,h3⟩,_,h4,h5⟩:=h
 exact⟨C,f,fd,ps,h1,h2,h3,h5,h4⟩
theorem zis {k c fi j:Nat}(h:∃f fd ps,ExI K c f/\W.keepIn K (.ref f)=true/\Binds K fd ps (List.replicate j Value.none)/\FnOk P w K mg base CX0 k f fd ps (spF K cf fi)):HasI P w K mg base k c j (spF K cf fi):=by
 obtain⟨f,fd,ps,⟨C,h1,h2⟩,_,h4,h5⟩:=h
 exact⟨C,f,fd,ps,h1,h2,h5,h4⟩
theorem zit {k fi:Nat}{x m:Str}(h:∃f fd ps,ExC K mg x m f/\W.keepIn K (.ref f)=true/\Binds K fd ps []/\FnOk P w K mg base CX0 k f fd ps (spF K cf fi)):HasC P w K mg base k x m (spF K cf fi):=by
 obtain⟨f,fd,ps,⟨C,mc,h1,h2,h3,h6⟩,h7,h4,h5⟩:=h
 exact⟨C,f,fd,ps,mc,h1,h2,h3,h6,h7,h5,h4⟩
structure PrimOk (P:Program) (w:World) (K:W.Frag) (mg:Str->Option Value) (base:Heap) (Pg:List Fn) (fi:Nat) (x:Str) (ps:List Str) (nd:Nat):Prop where
 ex:∃(F:Fn) (p:Prim) (f:Addr) (fd:FuncData),Pg[fi]?=some F/\F.prim=some p/\F.np=ps.length/\mg x=some (.ref f)/\W.keepIn K (.ref f)=true/\(∀j,j<=nd->Binds K fd ps (List.replicate j Value.none))/\
  ∀n,3<=n->FnOk P w K mg base CX0 (n+2) f fd ps (spF K (callF Pg (n+1)) fi)
theorem znn (hb:∀x,T.blt.contains x=true->mg x=none)(hc:∀x d,T.cons.lookup x=some d->zlF d=true/\∃u,mg x=some u/\RelV (sV d) u)(hd:∀fi x ps nd,T.fns[fi]?=some (x,ps,nd)->DefOk K mg T Pg fi x ps nd\/PrimOk P w K mg base Pg fi x ps nd)(hk:ClsOk T K mg Pg) :
  ∀n,TabOk T (callF Pg n) (2 * n) P w K mg base:=by
 intro n
 induction n with
 | zero =>
   refine⟨hb,hc,fun fi x ps nd hf j hj=>?_,zdg Pg 0,hk.cls,fun c m fi h=>zir (zek (hk.mth c m fi h)),fun c fi j h=>zis (zek (hk.ini c fi j h)),fun x m fi h=>zit (zek (hk.cmd x m fi h)),fun _=>hk.cln,hk.isa⟩
   rcases hd fi x ps nd hf with z|z
   · obtain⟨F,qual,st,dV,f,fd,N,hP,hq,FV,S,ck,hp,hn,hm,hbd⟩:=z.ex
     refine⟨f,fd,_,⟨fun vs H Q E h=>zbw hP hp h,fun A outer s H args us vs Q E hr e0 b v h=>?_⟩,hm,FV.kp,hbd j hj,Vals.nons j⟩
     obtain⟨ι,S,ds,r,hh,w⟩:=h
     exact w.elim
   · obtain⟨F,p,f,fd,hP,hq,hp,hm,kp,hbd,ok⟩:=z.ex
     refine⟨f,fd,_,⟨fun vs H Q E h=>zbw hP hp h,fun A outer s H args us vs Q E hr e0 b v h=>?_⟩,hm,kp,hbd j hj,Vals.nons j⟩
     obtain⟨ι,S,ds,r,hh,w⟩:=h
     exact w.elim
 | succ n ih =>
   refine⟨hb,hc,fun fi x ps nd hf j hj=>?_,zdg Pg (n+1),hk.cls,fun c m fi h=>zir (zel ih (hk.mth c m fi h)),fun c fi j h=>zis (zel ih (hk.ini c fi j h)),fun x m fi h=>zit (zel ih (hk.cmd x m fi h)),fun _=>hk.cln,hk.isa⟩
   rcases hd fi x ps nd hf with z|z
   · obtain⟨F,qual,st,dV,f,fd,N,hP,hq,FV,S,ck,hp,hn,hm,hbd⟩:=z.ex
     refine⟨f,fd,_,?_,hm,FV.kp,hbd j hj,Vals.nons j⟩
     exact ziI ih FV hP S ck hp hn hq
   · obtain⟨F,p,f,fd,hP,hq,hp,hm,kp,hbd,ok⟩:=z.ex
     refine⟨f,fd,_,?_,hm,kp,hbd j hj,Vals.nons j⟩
     by_cases c:3<=n
     · exact (ok n c).mono (by omega)
     · refine⟨fun vs H Q E h=>zbw hP hp h,fun A outer s H args us vs Q E hr e0 b v h=>?_⟩
       obtain⟨ι,S,ds,r,hh,w⟩:=h
       simp only[callF,hP,hq,c,if_false] at w
       split at w<;>exact w.elim
noncomputable def AllAtG {α:Type}(P:Nat->α->Prop):Nat->List α->Prop
 |_,[]=>True
 |k,a::r=>P k a/\AllAtG P (k+1) r
theorem zk4 {α:Type}{P:Nat->α->Prop}:∀{l:List α} {k:Nat},AllAtG P k l->∀(i:Nat) (a:α),l[i]?=some a->P (k+i) a
 | [],_,_,i,a,h=>by simp at h
 |b::r,k,q,0,a,h=>by cases h;exact q.1
 | b :: r, k, q, i + 1, a, h => by
   have:=zk4 q.2 i a (by simpa using h)
   rwa [Nat.add_right_comm] at this
theorem AllAt.get {α:Type}{P:Nat->α->Prop}{l:List α}(q:AllAtG P 0 l)(i:Nat)(a:α)(h:l[i]?=some a):P i a:=Nat.zero_add i▸zk4 q i a h
noncomputable def AllInG {α:Type}(P:α->Prop):List α->Prop
 | []=>True
 |a::r=>P a/\AllInG P r
theorem AllIn.get {α:Type}[BEq α][LawfulBEq α]{P:α->Prop}:∀{l:List α},AllInG P l->∀a,l.contains a=true->P a
 | [],_,a,h=>by simp at h
 | b :: r, q, a, h => by
   rw[List.contains_cons,Bool.or_eq_true] at h
   rcases h with h|h
   · rw[eq_of_beq h];exact q.1
   · exact AllIn.get q.2 a h
theorem law_spT {k fi:Nat}{K:W.Frag}{H:Hp}{a:Addr}{ns:List Int}(hx:FixL K H a (ns.map V.int))(tb:TB H)
  (law:W (callF Pg k fi [.fix (ns.map .int)] ⟨[],[],[]⟩) fun d _=>d=.bl true):spF K (callF Pg k) fi [.ref a] H (fun v _=>v=.bl true) fun _ _ _=>False:=by
 refine⟨[],⟨[],[],[]⟩,[.fix (ns.map .int)],⟨.ref a,[],rfl,⟨a,_,rfl,hx,RVs.ints ns⟩,rfl⟩,⟨rfl,List.nodup_nil,fun l o e=>(by simp[St.get] at e),tb⟩,?_⟩
 obtain⟨d,T',e,q⟩:=zdC law
 rw[e]
 intro v H' ι' x r hT
 subst q
 exact r
end
end R
end
section
namespace R
open PySem PySem.Spec PyProof.Rows L2
variable [Mks]
noncomputable def okD (T:Tab)(F:Fn)(N ps:List Str)(st:Stmt):Bool:=
 decide ((zad st).kind=.function)&&(!(zad st).isCoroutine&&(!(zad st).isGenerator&&(decide N.Nodup&&(decide (N.take ps.length=ps)&&(ps.all (fun x=>decide ((zad st).names.lookup x=some .local) || decide ((zad st).names.lookup x=some .cell)) &&
  ((zad st).names.all (fun y=>decide (y.2≠.free))&&(chkS T F.body N (zad st) (zan st)&&(decide (F.np=ps.length)&&(decide (F.nn=N.length)&&F.prim.isNone)))))))))
structure OkD (T:Tab) (Pg:List Fn) (fi:Nat) (x q:Str) (ps:List Str) (st:Stmt):Prop where
 ex:∃(F:Fn) (N:List Str),Pg[fi]?=some F/\F.prim=none/\FnScope N ps (zad st)/\chkS T F.body N (zad st) (zan st)=true/\F.np=ps.length/\F.nn=N.length
 bd:∀(kV doc pm:Value) (an:Option Addr) (cdv ct:Value) (us:List Value),us.length=ps.length->bindArgs (W.fnOf x q (zat st) (zan st) (zad st) .none kV doc pm an cdv ct) ⟨us,[]⟩=pure (ps.zip us)
theorem zaB {T:Tab}{Pg:List Fn}{fi:Nat}{x q:Str}{ps:List Str}{st:Stmt}{F:Fn}(N:List Str)(e:Pg[fi]?=some F)(h:okD T F N ps st=true)
  (b:∀(kV doc pm:Value) (an:Option Addr) (cdv ct:Value) (us:List Value),us.length=ps.length->bindArgs (W.fnOf x q (zat st) (zan st) (zad st) .none kV doc pm an cdv ct) ⟨us,[]⟩=pure (ps.zip us)):OkD T Pg fi x q ps st:=by
 simp only[okD,Bool.and_eq_true,Bool.not_eq_true',decide_eq_true_eq,List.all_eq_true,Bool.or_eq_true,Option.isNone_iff_eq_none] at h
 obtain⟨h1,h2,h3,h4,h5,h6,h7,h8,h9,h10,h11⟩:=h
 exact⟨⟨F,N,e,h11,⟨h1,h2,h3,h4,h5,h6,h7⟩,h8,h9,h10⟩,b⟩
theorem AllInG.cons {α:Type}{P:α->Prop}{a:α}{r:List α}(h:P a)(t:AllInG P r):AllInG P (a::r):=⟨h,t⟩
theorem AllAtG.cons {α:Type}{P:Nat->α->Prop}{k:Nat}{a:α}{r:List α}(h:P k a)(t:AllAtG P (k+1) r):AllAtG P k (a::r):=⟨h,t⟩
theorem AllInG.mem {α:Type}{P:α->Prop}:∀{l:List α},AllInG P l->∀a∈l,P a
 | b :: r, q, a, h => by
   rcases List.mem_cons.mp h with rfl|h
   · exact q.1
   · exact AllInG.mem q.2 a h
section
variable {P:Program} {w:World} {K:W.Frag} {h base:Heap} {mg:Str->Option Value} {T:Tab} {Pg:List Fn} {fi c:Nat} {x q m:Str} {ps:List Str} {st:Stmt} {f C:Addr} {oc kV dc pm cd ct:Value} {od an:Option Addr} {sl:Array (Option Value)}
theorem dOk (X:K.In h)(G:h.Ns mainGlobals mg)(o:OkD T Pg fi x x ps st)(a:W.nsIn K mainGlobals x=some (some (.ref f)))(l:K.lookup f=some ⟨oc,od,.func (W.fnOf x x (zat st) (zan st) (zad st) .none kV dc pm an cd ct),sl⟩)(c:W.codeIn K cd x=true)
  (k:W.keepIn K (.ref f)=true):DefOk K mg T Pg fi x ps 0\/PrimOk P w K mg base Pg fi x ps 0:=by
 obtain⟨F,N,h1,h2,h3,h4,h5,h6⟩:=o.ex
 have FV:=zdf (st:=st) l c k
 exact .inl ⟨⟨F,x,st,_,f,_,N,h1,h2,FV,h3,h4,h5,h6,W.mg_of X G a,fun j hj=>(Nat.le_zero.mp hj).symm▸FV.binds o.bd⟩⟩
noncomputable def ClAt (K:W.Frag)(mg:Str->Option Value)(T:Tab)(c:Nat)(x:Str):Prop:=∃C,Mks.cl[c]?=some C/\Cls K C/\mg x=some (.ref C)/\∀f,T.flds.contains f=true->NoAttr K C f
theorem clOk (X:K.In h)(G:h.Ns mainGlobals mg)(e:Mks.cl[c]?=some C)(a:W.nsIn K mainGlobals x=some (some (.ref C)))(pg:W.plainGet K C Str.empty=true)(hd:W.hasDictIn K C=true)(po:W.plainOver K C=true)
  (sa:W.findIn K (.ref C) "__setattr__"=some (some (.builtin "object.__setattr__"))) (n:AllInG (fun f=>W.findIn K (.ref C) f=some none) T.flds):ClAt K mg T c x:=
 ⟨C,e,⟨pg,hd,po,sa⟩,W.mg_of X G a,AllIn.get n⟩
theorem mOk0 {Ex:Addr->Prop}(o:OkD T Pg fi m q ps st)(l:K.lookup f=some ⟨oc,od,.func (W.fnOf m q (zat st) (zan st) (zad st) .none kV dc pm an cd ct),sl⟩)(cc:W.codeIn K cd q=true)(k:W.keepIn K (.ref f)=true)(e:Ex f):MOk K T Pg fi 0 Ex:=by
 obtain⟨F,N,h1,h2,h3,h4,h5,h6⟩:=o.ex
 have FV:=zdf (st:=st) l cc k
 exact⟨⟨F,m,q,st,_,f,_,N,ps,h1,h2,FV,h3,h4,h5,h6,FV.binds o.bd,e⟩⟩
theorem mOk (hc:AllAtG (ClAt K mg T) 0 T.cls)(o:OkD T Pg fi m q ps st)(e:Mks.cl[c]?=some C)(ex:T.cls[c]?=some x)(t:W.findIn K (.ref C) m=some (some (.ref f)))(l:K.lookup f=some ⟨oc,od,.func (W.fnOf m q (zat st) (zan st) (zad st) .none kV dc pm an cd ct),sl⟩)
  (cc:W.codeIn K cd q=true) (k:W.keepIn K (.ref f)=true) (i:W.isFn K (.ref f)=true):MOk K T Pg fi 0 (ExM K c m):=by
 obtain⟨C',e',h1,_⟩:=AllAt.get hc c x ex
 exact mOk0 o l cc k ⟨C',e',h1,by rw[e] at e';cases e';exact⟨t,i,k⟩⟩
theorem iOk (o:OkD T Pg fi "__init__" q ps st)(e:Mks.cl[c]?=some C)(mk:W.makesIn K C=true)(t:W.findIn K (.ref C) "__init__"=some (some (.ref f)))(kc:W.keepIn K (.ref C)=true)(l:K.lookup f=some ⟨oc,od,.func (W.fnOf "__init__" q (zat st) (zan st) (zad st) .none kV dc pm an cd ct),sl⟩)
 (cc:W.codeIn K cd q=true) (k:W.keepIn K (.ref f)=true) (i:W.isFn K (.ref f)=true):MOk K T Pg fi 0 (ExI K c):=mOk0 o l cc k ⟨C,e,mk,t,i,kc⟩
theorem cOk (X:K.In h)(G:h.Ns mainGlobals mg)(o:OkD T Pg fi m q ps st)(a:W.nsIn K mainGlobals x=some (some (.ref C)))(g:W.specialIn K (.ref C) "__getattribute__"=some (some (.builtin "type.__getattribute__")))(r:W.readsIn K C (.type "type")=true)
  (t:W.findCls K (.ref C) (.type "type") m=some (.val (.ref f))) (l:K.lookup f=some ⟨oc,od,.func (W.fnOf m q (zat st) (zan st) (zad st) .none kV dc pm an cd ct),sl⟩) (cc:W.codeIn K cd q=true) (k:W.keepIn K (.ref f)=true):MOk K T Pg fi 0 (ExC K mg x m):=
 mOk0 o l cc k ⟨C,_,W.mg_of X G a,g,r,t⟩
noncomputable def IsAt (K:W.Frag)(mg:Str->Option Value)(z:Str × List Nat):Prop:=∃D,mg z.1=some (.ref D)/\∀c C,Mks.cl[c]?=some C->IsaOk K C/\W.kitOne K (.ref C) (.ref D)=some (z.2.contains c)
theorem isOk {D:Addr}{cs:List Nat}(X:K.In h)(G:h.Ns mainGlobals mg)(a:W.nsIn K mainGlobals x=some (some (.ref D)))(jn:W.specialIn K (.builtin "object.__class__") "__get__"=some (some (.builtin "getset_descriptor.__get__")))(jt:W.takesIn K (.builtin "object.__class__")=some true)
  (ja:AllInG (fun C=>W.findIn K (.ref C) "__class__"=some (some (.builtin "object.__class__"))) Mks.cl) (jm:AllInG (fun C=>W.mroIn K C (.type "object")=some true) Mks.cl) (kt:AllAtG (fun c C=>W.kitOne K (.ref C) (.ref D)=some (cs.contains c)) 0 Mks.cl):IsAt K mg (x,cs):=
 ⟨D,W.mg_of X G a,fun c C e=>⟨⟨ja.mem C (List.mem_of_getElem? e),jn,jt,jm.mem C (List.mem_of_getElem? e)⟩,AllAt.get kt c C e⟩⟩
noncomputable def CoAt (K:W.Frag)(z:Str × D):Prop:=∃i t,z.2=.int i/\W.nsIn K mainGlobals z.1=some (some (.int i t))
theorem coOk {i:Int}{t:Tok}(a:W.nsIn K mainGlobals x=some (some (.int i t))):CoAt K (x,.int i):=⟨i,t,rfl,a⟩
end
theorem all_of {l:W.OpenLaw}{w:World}{K:W.Frag}{h:Heap}{mg:Str->Option Value}{T:Tab}{Pg:List Fn}{n fi:Nat}{st:Stmt}{f fa:Addr}{oc kV dc pm cd ct:Value}{od an:Option Addr}{sl:Array (Option Value)}{sn:Str}(X:K.In h)(G:h.Ns mainGlobals mg)(hfa:mg "law"=some (.ref fa))
  (o:OkD T Pg fi "law" "law" [sn] st) (ln:Mks.cl.length<=T.cls.length) (hcl:AllAtG (ClAt K mg T) 0 T.cls) (hb:AllInG (fun x=>W.nsIn K mainGlobals x=some none) T.blt) (hc:AllInG (CoAt K) T.cons)
  (hd:∀base:Heap,BM mg base->AllAtG (fun fi q=>DefOk K mg T Pg fi q.1 q.2.1 q.2.2\/PrimOk l.prog w K mg base Pg fi q.1 q.2.1 q.2.2) 0 T.fns)
  (hm:AllAtG (ClAt K mg T) 0 T.cls->AllInG (fun q=>MOk K T Pg q.2.2 0 (ExM K q.1 q.2.1)) T.mts) (hi:AllInG (fun q=>MOk K T Pg q.2.1 q.2.2 (ExI K q.1)) T.inits) (hx:AllInG (fun q=>MOk K T Pg q.2.2 0 (ExC K mg q.1 q.2.1)) T.cms) (hs:AllInG (IsAt K mg) T.isas)
  (a:W.nsIn K mainGlobals "law"=some (some (.ref f))) (l0:K.lookup f=some ⟨oc,od,.func (W.fnOf "law" "law" (zat st) (zan st) (zad st) .none kV dc pm an cd ct),sl⟩) (c:W.codeIn K cd "law"=true) (k:W.keepIn K (.ref f)=true) :
  ∃fd:FuncData,(∀(s:Shared) (v:Value),BindsTo s fd ⟨[v],[]⟩ [(sn,v)])/\∀base:Heap,K.In base->base.Ns mainGlobals mg->BM mg base->FnOk l.prog w K mg base CX0 (2 * n+2) fa fd [sn] (spF K (callF Pg (n+1)) fi):=by
 have e:=hfa.symm.trans (W.mg_of X G a)
 cases e
 obtain⟨F,N,h1,h2,h3,h4,h5,h6⟩:=o.ex
 refine⟨W.fnOf "law" "law" (zat st) (zan st) (zad st) .none kV dc pm an cd ct,fun s v=>.of_eq (o.bd _ _ _ _ _ _ [v] rfl),fun base _ _ bm=>?_⟩
 refine ziI (znn (fun x hx=>W.mg_none_of X G (AllIn.get hb x hx)) (fun x d hx=>?_) (fun fi x ps nd hf=>AllAt.get (hd base bm) fi _ hf)
  ⟨AllAt.get hcl,fun c m fi hx=>AllIn.get (hm hcl) (c,m,fi) hx,fun c fi j hx=>AllIn.get hi (c,fi,j) hx,fun x m fi h=>AllIn.get hx (x,m,fi) h,ln,fun x cs hx=>AllIn.get hs (x,cs) hx⟩ n) (zdf (st:=st) l0 c k) h1 h3 h4 h5 h6 h2
 obtain⟨i,t,e,q⟩:=hc.mem (x,d) (PySem.mem_of_lookup hx)
 cases (show d=.int i from e)
 exact⟨rfl,_,W.mg_of X G q,⟨_,rfl⟩⟩
end R
end
section
set_option maxHeartbeats 4000000
namespace R
open PySem PySem.Spec PyProof.Rows L2
variable [Mks]
noncomputable def zjj:CS:=.setIx (.loc 1) (.sl (.loc 2) false true (.con .non) (.con (.int 3))) (.ix (.loc 2) (.con (.int 3))) .nil
noncomputable def zeF:CS:=.asg 1 .dnew3 (.forS [2] (.val (.loc 0)) zjj .nil)
noncomputable def dW (kvs:List (K3 × Option Int)):List (K3 × D):=kvs.map fun kv=>(kv.1,wD kv.2)
theorem zo4 (kvs:List (K3 × Option Int))(k:K3)(o:Option Int):zfx (dW kvs) k (wD o)=dW (putW kvs k o):=by
 unfold zfx putW dW
 have e:(kvs.map fun kv=>(kv.1,wD kv.2)).map (·.1)=kvs.map (·.1):=by rw[List.map_map];rfl
 rw[e]
 split
 · rw[List.map_map,List.map_map]
   refine List.map_congr_left fun x _=>?_
   show (if x.1=k then (x.1,wD o) else (x.1,wD x.2))=((if x.1=k then (x.1,o) else x).1,wD (if x.1=k then (x.1,o) else x).2)
   split<;>rfl
 · simp
theorem zjp (kvs:List (K3 × Option Int))(k:K3)(o:Option Int):(putW kvs k o).length<=kvs.length+1:=by
 unfold putW
 split<;>simp
theorem zeE (l:K3 × Option Int):∀(ls kvs:List (K3 × Option Int)),zaA kvs (ls++[l])=putW (zaA kvs ls) l.1 l.2
 | [],kvs=>rfl
 |m::ls,kvs=>by rw[List.cons_append,zaA,zaA,zeE l ls]
theorem zf9:∀(ls kvs:List (K3 × Option Int)),(zaA kvs ls).length<=kvs.length+ls.length
 | [],kvs=>Nat.le_refl _
 | m :: ls, kvs => by
   rw[zaA]
   have:=zf9 ls (putW kvs m.1 m.2)
   have:=zjp kvs m.1 m.2
   simp;omega
theorem zjV {d:D}{l:K3 × Option Int}(h:lie4 d=some l):∃ds w,d=.tup [.int l.1.1,.tup ds,.int l.1.2.2,w]/\za8 ds=some l.1.2.1/\w=wD l.2:=by
 unfold lie4 at h
 split at h
 · rename_i a ds b w
   cases e:za8 ds with
   |none=>rw[e] at h;cases h
   | some p =>
     rw[e,Option.bind_some] at h
     cases e2:zbT w with
     |none=>rw[e2] at h;cases h
     | some o =>
       rw[e2] at h
       cases h
       refine⟨ds,w,rfl,e,?_⟩
       cases w<;>first|(cases e2;rfl)|cases e2
 · cases h
theorem zeV {α β:Type}{f:α->Option β}:∀{xs:List α} {ys:List β},xs.mapM f=some ys->ys.length=xs.length/\∀(i:Nat) (x:α),xs[i]?=some x->∃y,ys[i]?=some y/\f x=some y
 | [], ys, h => by
   have h:ys=[]:=by simpa using h.symm
   subst h;exact⟨rfl,fun i x e=>by simp at e⟩
 | a :: xs, ys, h => by
   obtain⟨y,r,h1,h2,rfl⟩:=zaI h
   obtain⟨e1,e2⟩:=zeV h2
   refine⟨by simp[e1],fun i x e=>?_⟩
   cases i with
   |zero=>cases e;exact⟨y,rfl,h1⟩
   |succ i=>exact e2 i x (by simpa using e)
theorem zjo (S:R.St)(lk:List Nat)(o u:MO)(h:lk.contains S.len=false):(St.mk S.frz (S.new++[o]) lk).put S.len u=some ⟨S.frz,S.new++[u],lk⟩:=by
 unfold St.put
 have h1:¬S.len<S.frz.length:=by unfold St.len;omega
 have h2:S.len - S.frz.length=S.new.length:=by unfold St.len;omega
 simp only[h1,if_false,h,Bool.false_eq_true,h2]
 congr 2
 simp
theorem zgt (S:R.St)(lk:List Nat)(o:MO):(St.mk S.frz (S.new++[o]) lk).get S.len=some o:=by
 unfold St.get
 have h1:¬S.len<S.frz.length:=by unfold St.len;omega
 have h2:S.len - S.frz.length=S.new.length:=by unfold St.len;omega
 simp only[h1,if_false,h2]
 simp
theorem zc4 {S:R.St}{l:Nat}{o u:MO}(e:S.get l=some u):(S.push o).get l=some u:=by
 have h:=zar e
 unfold St.get St.push at *
 by_cases c:l<S.frz.length
 · simp only[c,if_true] at e⊢;exact e
 · simp only[c,if_false] at e⊢
   rw[List.getElem?_append_left (List.getElem?_eq_some_iff.mp e).1];exact e
theorem zkf {cf:CF}{S:R.St}{x:D}{lk:List Nat}{kvs:List (K3 × Option Int)}{d:D}{l:K3 × Option Int}(hl:lie4 d=some l)(hk:lk.contains S.len=false)(hn:kvs.length<16777216) :
  exS cf zjj [some x,some (.ref S.len),some d,none] ⟨S.frz,S.new++[.d3 (dW kvs)],lk⟩=.ok (.nx [some x,some (.ref S.len),some d,none]) ⟨S.frz,S.new++[.d3 (dW (putW kvs l.1 l.2))],lk⟩:=by
 obtain⟨ds,w,rfl,hp,rfl⟩:=zjV hl
 unfold zjj
 refine W.eq (wS_W _ ?_)
 conv=>whnf
 refine zaa (show R.atI [D.int l.1.1,.tup ds,.int l.1.2.2,wD l.2] 3=some (wD l.2) from rfl) ?_
 conv=>whnf
 have hc:R.cut [D.int l.1.1,.tup ds,.int l.1.2.2,wD l.2] none (some 3)=[.int l.1.1,.tup ds,.int l.1.2.2]:=rfl
 rw[hc]
 have hd:dPut ⟨S.frz,S.new++[.d3 (dW kvs)],lk⟩ (.ref S.len) (.tup [.int l.1.1,.tup ds,.int l.1.2.2]) (wD l.2)=some ⟨S.frz,S.new++[.d3 (dW (putW kvs l.1 l.2))],lk⟩:=by
  unfold dPut
  dsimp only
  rw[zgt]
  dsimp only
  have:key3 (.tup [.int l.1.1,.tup ds,.int l.1.2.2])=some l.1:=by unfold key3;dsimp only;rw[hp];rfl
  rw[this,Option.bind_some,if_pos (by unfold dW;simpa using hn),zo4]
  exact zjo S lk _ _ hk
 refine zaa hd ?_
 exact⟨rfl,rfl⟩
theorem zmI {cf:CF}{S:R.St}{x:D}{ds:List D}{ls:List (K3 × Option Int)}(h1:za6 S x=some ds)(h2:ds.mapM lie4=some ls)(hl:ls.length<=1000)(hk:S.lk=[])(hx:∀n,x=.ref n->n<S.len) :
  W (exS cf zeF [some x,none,none,none] S) fun f T=>∃z,f=.nx [some x,some (.ref S.len),z,none]/\T=S.push (.d3 (dW (zaA [] ls))):=by
 obtain⟨e1,e2⟩:=zeV h2
 have hseq:za6 (S.push (.d3 [])) x=some ds:=by
  unfold za6 at h1⊢
  cases x with
  | ref n =>
    have hn:=hx n rfl
    dsimp only at h1⊢
    cases eg:S.get n with
    |none=>rw[eg] at h1;cases h1
    |some o=>rw[eg] at h1;rw[zc4 eg];exact h1
  |_=>exact h1
 have hlk:(lkOf (S.push (.d3 [])) x).contains S.len=false:=by
  cases x with
  |ref n=>have:=hx n rfl;simp[lkOf];omega
  |_=>rfl
 unfold zeF
 rw[exS]
 simp only[evE,zas]
 rw[exS]
 have eL:evL cf (.val (.loc 0)) ([some x,some (.ref S.len),none,none]:Ev) (S.push (.d3 []))=.ok (ds,lkOf (S.push (.d3 [])) x) (S.push (.d3 [])):=by
  simp only[evL,evE]
  show Out.bind (lift (S.push (.d3 [])) (za6 (S.push (.d3 [])) x)) _=_
  rw[hseq];rfl
 rw[show (([some x,none,none,none]:Ev).set 1 (some (.ref S.len)))=[some x,some (.ref S.len),none,none] from rfl,eL,zas]
 unfold za1
 rw[zac,zac]
 have key:=zaS (g:=[2]) (b:=exS cf zjj) (fun i δ T=>(∃z,δ=[some x,some (.ref S.len),z,none])/\T=⟨S.frz,S.new++[.d3 (dW (zaA [] (ls.take i)))],lkOf (S.push (.d3 [])) x++S.lk⟩) (fun _ _=>False) ds 0 [some x,some (.ref S.len),none,none] ⟨S.frz,S.new++[.d3 []],lkOf (S.push (.d3 [])) x++S.lk⟩ ⟨⟨none,rfl⟩,rfl⟩ ?_
 · refine key.mono ?_
   rintro f T hf
   cases f with
   |rt d=>exact hf.elim
   | nx δ =>
     obtain⟨⟨z,rfl⟩,rfl⟩:=hf
     rw[W_ok]
     simp only[exS,W_ok]
     refine⟨z,rfl,?_⟩
     rw[Nat.zero_add,<-e1,List.take_length];rfl
 · rintro i d δ T hd ⟨⟨z,rfl⟩,rfl⟩
   rw[Nat.zero_add] at *
   obtain⟨l,hl',hd'⟩:=e2 i d hd
   refine⟨[some x,some (.ref S.len),some d,none],rfl,?_⟩
   have hlen:=zf9 (ls.take i) []
   have htl:(ls.take i).length<=1000:=by rw[List.length_take];omega
   rw[zkf hd' (by rw[hk,List.append_nil];exact hlk) (by simp at hlen;omega)]
   refine⟨⟨_,rfl⟩,?_⟩
   have:ls.take (i+1)=ls.take i++[l]:=by rw[List.take_succ,hl'];rfl
   rw[this,zeE]
end R
end
section
set_option maxHeartbeats 4000000
namespace R
open PySem PySem.Spec PyProof.Rows L2
variable [Mks]
theorem ze2 (l2:List Stmt)(env:Env):∀l1:List Stmt,execs (l1++l2) env=(execs l1 env >>= fun f=>match f with|.next=>execs l2 env|f=>pure f)
 | []=>by show execs l2 env=((pure Flow.next:Sem Flow) >>= _);rw[pure_bind]
 | s :: l => by
   rw[List.cons_append,execs_cons,execs_cons,bind_assoc]
   congr 1
   funext f
   cases f with
   |next=>exact ze2 l2 env l
   |_=>rw[pure_bind]
theorem zcS {M:Model}{A:Around}{E:Value->Shared->Prop}{s:Shared}{env:Env}{l1 l2:List Stmt}{Q:Flow->Shared->Prop}
  (h:wpAny M A (execs l1 env) (fun f s'=>match f with|.next=>wpAny M A (execs l2 env) Q E s'|f=>Q f s') E s):wpAny M A (execs (l1++l2) env) Q E s:=by
 rw[ze2]
 refine wpAny_bind (wpAny_mono h (fun f s' h'=>?_) fun _ _ x=>x)
 cases f<;>first|exact h'|exact wpAny_pure h'
section
variable {K:W.Frag} {ι ι':List Addr} {H H':Hp} {S T:R.St}
theorem RH.cutG (hh:RH K ι H S)(x:Ext ι H ι' H')(hT:RH K ι' H' T)(hg:∀l o,S.get l=some o->T.get l=some o):RH K ι H' S:=by
 refine⟨hh.len,hh.nd,fun l o e=>?_,hT.tab⟩
 obtain⟨a,h1,h2⟩:=hh.obj l o e
 obtain⟨b,h3,h4⟩:=hT.obj l o (hg l o e)
 rw[zbz x.pre h1] at h3;cases h3
 refine⟨a,h1,?_⟩
 cases o with
 | lst ds =>
   obtain⟨xs,_,r1⟩:=h2
   obtain⟨ys,e2,r2⟩:=h4
   exact⟨ys,e2,r2.restrict x.pre r1.flats⟩
 | ins c fs =>
   obtain⟨_,_,ws,_,_,r1⟩:=h2
   obtain⟨C,dx,ys,e0,e2,r2⟩:=h4
   exact⟨C,dx,ys,e0,e2,r2.restrict x.pre r1.flats⟩
 | d3 kvs =>
   obtain⟨_,ws,_,r1⟩:=h2
   obtain⟨nd,ys,e2,r2⟩:=h4
   exact⟨nd,ys,e2,r2.restrict x.pre r1.flats⟩
theorem RH.offK (h:RH K ι H S)(k:Kp H H')(e:∀a∈ι,H' a=H a):RH K ι H' S:=
 ⟨h.len,h.nd,fun l o g=>let ⟨a,h1,h2⟩:=h.obj l o g;⟨a,h1,h2.up (List.prefix_refl _) k (e a (List.mem_of_getElem? h1))⟩,k.tab h.tab⟩
theorem znd:∀{kvs:List (K3 × Option Int)} {ws:List (K3 × Addr × V)},R3s K ι H (dW kvs) ws->W3s H kvs ws
 | [],_,r=>r
 | (k, o) :: kvs, ws, r => by
   obtain⟨c,v,w,rfl,r0,r1,r2⟩:=r
   refine⟨c,w,?_,r0,znd r2⟩
   have:v=vW o:=by cases o<;>exact r1
   rw[this]
end
theorem zji {P:Program}{w:World}{fs:List Addr}{H H3:Hp}{h h5:Heap}{cc d:Addr}{ou od:Obj}{φ:Heap->Prop}(un:Un fs [] H H3 h h5)(hok:HOk P w H3 h5)(hcn:H3 cc=none)(hcs:h.objs.size<=cc)(hou:h5.get? cc=some ou)
  (hd:H3 d=some (.ext φ)) (hod:h5.get? d=some od) :
  Un fs [] H (upd (upd H3 cc (.frz ou (.own 0))) d (.frz od (.ext φ))) h h5/\HOk P w (upd (upd H3 cc (.frz ou (.own 0))) d (.frz od (.ext φ))) h5/\
  ∀b o,H3 b=some o->b≠d->upd (upd H3 cc (.frz ou (.own 0))) d (.frz od (.ext φ)) b=some o:=by
 have old:∀b o,H3 b=some o->b≠d->upd (upd H3 cc (.frz ou (.own 0))) d (.frz od (.ext φ)) b=some o:=fun b o e n=>by
  rw[zae n,zae (zaj e hcn)];exact e
 refine⟨⟨un.keep,un.slot,fun b o q n h=>?_,un.there,fun b xs q=>?_,fun b o u q=>?_,fun b ps q=>?_⟩,fun b o q=>?_,old⟩
 · have e:=un.free b o q n h
   rw[zae (fun z=>by rw[z,hd] at e;cases e),zae (Nat.ne_of_lt (Nat.lt_of_lt_of_le (Heap.lt_size q) hcs))];exact e
 · have e:=un.tups b xs q
   exact old b _ e fun z=>by rw[z,hd] at e;cases e
 · have e:=un.frzs b o u q
   exact old b _ e fun z=>by rw[z,hd] at e;cases e
 · obtain⟨more,e⟩:=un.tbls b ps q
   exact⟨more,old b _ e fun z=>by rw[z,hd] at e;cases e⟩
 · by_cases z:b=d
   · subst z;rw[zai] at q;cases q
     obtain⟨p1,p2,p3⟩:=(show ObjOk P w H3 h5 b (.ext φ) from hok b _ hd)
     exact⟨hod,p1,p2,p3⟩
   · rw[zae z] at q
     by_cases y:b=cc
     · subst y;rw[zai] at q;cases q;exact⟨hou,_,hou⟩
     · rw[zae y] at q
       exact (hok b o q).stay (fun _ _ _ q=>q) (fun x q=>old x _ q fun z=>by rw[z,hd] at q;cases q) fun x xs q=>old x _ q fun z=>by rw[z,hd] at q;cases q
theorem zeR {S:R.St}{ds:List D}{Q:D->R.St->Prop}(h:W (prm S .road ds) Q):∃x dd ls,ds=[x]/\za6 S x=some dd/\dd.mapM lie4=some ls/\ls.length<=1000/\S.lk=[]/\Q (.clo (zaA [] ls)) S:=by
 unfold prm at h
 split at h
 · rename_i e;cases e
 · rename_i x _
   cases e:za6 S x with
   |none=>rw[e] at h;exact h.elim
   | some dd =>
     rw[e,Option.bind_some] at h
     cases e2:dd.mapM lie4 with
     |none=>rw[e2] at h;exact h.elim
     | some ls =>
       rw[e2] at h
       dsimp only at h
       split at h
       · rename_i c;exact⟨x,dd,ls,rfl,e,e2,c.1,c.2,h⟩
       · exact h.elim
 · exact h.elim
noncomputable abbrev roadN:List Str:=["lies","last","lie","word_on_arrival"]
structure RoadSt (st:Stmt):Prop where
 ex:∃(s1 s2 ist:Stmt) (p8 p9:Pos),zan st=[s1,s2,ist,.Return (some (.Name arrN p8)) p9]/\Mks.rs=some ist/\chkS zbm zeF roadN (zad st) [s1,s2]=true
 sc:FnScope roadN ["lies"] (zad st)
 hl:(zad st).names.lookup ("last":Str)=some .cell
 hw:(zad st).names.lookup arrN=some .local
theorem zlL {P:Program}{w:World}{K:W.Frag}{mg:Str->Option Value}{base:Heap}{Pg:List Fn}{n fi:Nat}{x:Str}{st:Stmt}{f c Tb:Addr}{oc:Value}{od an:Option Addr}{osl:Array (Option Value)}{dV kV doc pm ct:Value}{F:Fn}
  (lk:K.lookup f=some ⟨oc,od,.func (W.fnOf x "road" (zat st) (zan st) (zad st) dV kV doc pm an (.ref c) ct),osl⟩) (hcd:W.codeIn K (.ref c) "road"=true) (hC:W.codeHdIn K c Tb=true) (T:RoadSt st) (bm:BM mg base)
  (mem:(Tb,arrQ)∈Mks.ts) (one:∀p∈Mks.ts,p.1=Tb->p.2=arrQ) (hP:Pg[fi]?=some F) (hq:F.prim=some .road) (hp:F.np=1) (hn:3<=n) :
  FnOk P w K mg base CX0 (n+2) f (W.fnOf x "road" (zat st) (zan st) (zad st) dV kV doc pm an (.ref c) ct) ["lies"] (spF K (callF Pg (n+1)) fi):=by
 refine⟨fun vs H Q E h=>zbw (ps:=["lies"]) hP hp h,fun A outer s H args us vs Q E hr e0 hb r hsp=>?_⟩
 have hlen:vs.length=(["lies"]:List Str).length:=zbw (ps:=["lies"]) hP hp hsp
 have KX:K.In s.heap:=e0.mod.kin.keeps fun b o e=>(e0.bs b o e).1
 have lim:s.heap.NoLimit:=e0.mod.nolimit.keeps fun b o e=>(e0.bs b o e).1
 have hkind:∀y∈(["lies"]:List Str).zip us,(zad st).names.lookup y.1=some .local\/((zad st).names.lookup y.1=some .cell/\((cellsFrom (s.heap.objs.size+1) (zad st).names []).lookup y.1).isSome=true):=fun⟨n,v⟩ hy=>by
  rcases T.sc.par n (List.of_mem_zip hy).1 with q|q
  · exact .inl q
  · exact .inr ⟨q,W.cellsFrom_some _ _ _ (.inl q)⟩
 refine codeAny_call_function hr.depth (KX _ _ lk) rfl T.sc.co T.sc.gen rfl (W.codeRec_of KX hcd) (hb _ _ _ _ ?_)
 refine wpAny_newFunctionEnv_cells T.sc.kind hkind fun env he s1 xx=>?_
 subst he
 refine⟨lim.keeps xx.toInCall.keep,codeAny_func ?_⟩
 have I:Inv (cxOf CX0 P w K mg base roadN "road" (zad st) f (.ref c) A outer s H E) [] (start roadN vs) H s1:=zdc T.sc hr.hd e0 hlen r xx
 have hr':=hr.deeper (envOfC "road" (zad st) s.heap.objs.size f (.ref c))
 generalize hX:cxOf CX0 P w K mg base roadN "road" (zad st) f (.ref c) A outer s H E=X at I
 have eA:X.A=A.deeper (envOfC "road" (zad st) s.heap.objs.size f (.ref c)):=by rw[<-hX];rfl
 have eE:X.env=envOfC "road" (zad st) s.heap.objs.size f (.ref c):=by rw[<-hX];rfl
 obtain⟨ι,S0,ds,rr,hh,hw⟩:=hsp
 simp only[callF,hP,hq,hn,if_true] at hw
 split at hw
 · obtain⟨x0,dd,ls,rfl,h1,h2,h3,h4,q⟩:=zeR hw
   obtain⟨v,r0,rfl,rv,rn⟩:=rr
   cases (show r0=[] from rn)
   obtain⟨st1,st2,ist,p8,p9,eb,hrs,ck⟩:=T.ex
   have T3:CloSt ist:=by have:=Mks.ro;rw[hrs] at this;exact this
   have G:Gd zbm noCF n roadN (zad st) X.nox:=by
    rw[<-hX]
    exact⟨rfl,T.sc.nd,fun x e=>e,fun x e=>e,fun x e=>.inl e,fun x e=>e,.inl fun _=>rfl,rfl,rfl,hr',zgi⟩
   have eK:X.K=K:=by rw[<-hX];rfl
   have hx:∀m,x0=.ref m->m<S0.len:=fun m e=>by
    subst e
    obtain⟨a,ha,_⟩:=rv
    rw[<-hh.len];exact (List.getElem?_eq_some_iff.mp ha).1
   have w1:=zaV zeF G ck [] s1 (start roadN [v]) H {nx:=fun σ' H'=>∃z ι',RS K ι' H' [some x0,some (.ref S0.len),z,none] σ'/\RH K ι' H' (S0.push (.d3 (dW (zaA [] ls))))/\Ext ι H ι' H',rt:=fun _ _=>False} (I.wish _) ?_
   · show wpAny (model P w) (A.deeper (envOfC "road" (zad st) s.heap.objs.size f (.ref c))) (execs (zan st) (envOfC "road" (zad st) s.heap.objs.size f (.ref c))) _ _ s1
     rw[eb,<-eA,<-eE]
     have eP:X.prog=P:=by rw[<-hX];rfl
     have ew:X.w=w:=by rw[<-hX];rfl
     refine zcS (l1:=[st1,st2]) (l2:=[ist,.Return (some (.Name arrN p8)) p9]) (wpAny_mono (by rw[<-eP,<-ew];exact w1) (fun fl s2 hs=>?_) fun _ _ z=>False.elim z)
     cases fl with
     |ret u=>obtain⟨_,_,_,_,_,z⟩:=hs;exact False.elim z
     |brk=>obtain⟨_,_,_,z⟩:=hs;exact False.elim z
     |cont=>obtain⟨_,_,_,z⟩:=hs;exact False.elim z
     |next=>
     obtain⟨σ',H',J',z,ι',rs,rh,x'⟩:=hs
     have J:Inv X [] σ' H' s2:=J'.unwish
     obtain⟨v1,e1,d,hd,rfl⟩:=rs.2 1 (.ref S0.len) rfl
     obtain⟨d',hd',nd,ws,hdH,r3⟩:=rh.obj S0.len _ (zgt S0 S0.lk _)
     rw[hd] at hd';cases hd'
     have w3:=znd r3
     have hlast:X.env.kindOf ("last":Str)=some .cell:=by rw[eE];exact T.hl
     have cellAt:∀{σ2:L2.St} {H2:Hp} {s':Shared},Inv X [] σ2 H2 s'->σ2[1]?=some (some (.ref d))->∃cc ou,X.env.cells.lookup ("last":Str)=some cc/\s'.heap.get? cc=some ou/\ou.data=.cell (some (.ref d)):=fun {σ2 H2 s'} I2 e=>by
      obtain⟨m,_,hl⟩:=I2.loc
      obtain⟨u,ru,lk⟩:=hl 1 "last" (.ref d) (by rw[<-hX];rfl) e (by rw[<-hX];exact .inr (.inl T.hl))
      cases (show u=Value.ref d from ru)
      rcases lk with ⟨a,_⟩|⟨_,cc,h1,ou,h2,h3⟩
      · rw[hlast] at a;cases a
      · exact⟨cc,ou,h1,h2,h3⟩
     obtain⟨cc,_,hcc,_,_⟩:=cellAt J e1
     have hqn:qualnameIn X.env arrN arrN=arrQ:=by
      unfold qualnameIn
      rw[eE,show (envOfC "road" (zad st) s.heap.objs.size f (.ref c)).kindOf arrN=some .local from T.hw]
      rfl
     obtain⟨pos,et⟩:=T3.text
     have eG:X.mg=mg:=by rw[<-hX];rfl
     have eB:X.base=base:=by rw[<-hX];rfl
     have tb:=rh.tab _ mem
     refine wpAny_execs_cons ?_
     rw[et]
     refine W.nestDef_K T3.d0 T3.k0 (T3.an _) ?_
     rw[hqn,<-eP,<-ew]
     refine zkh J (by rw[eG,eB];exact bm) (by rw[eE];rfl) (by rw[eK];exact hC) tb (T3.clo _ cc hcc) fun f' H3 s3 J3 D3 tb3 S3=>?_
     refine zd5 (i:=3) (x:=arrN) (v:=.ref f') J3 (by rw[<-hX];exact T.sc.nd) (by rw[<-hX];rfl) (by rw[eE];exact .inl T.hw) rfl (fun s4 J4=>?_) (.inr (by rw[eE];exact T.hw))
     have l3:3<σ'.length:=by rw[J.len,<-hX];show 3<roadN.length;decide
     have pv:=(zbA (X:=X.nox) (pos:=p8) (i:=3) (x:=arrN) (by rw[<-hX];rfl) (show Vis X.env.scope arrN by rw[eE];exact .inl T.hw):PE X.nox (.Name arrN p8) (tVar 3)) [] s4 (σ'.set 3 (some (.ref f'))) H3 (fun v H2=>v=.ref f'/\H2=H3) (J4.wish _) ⟨.ref f',List.getElem?_set_self l3,rfl,rfl⟩
     refine wpAny_execs_cons (wpAny_Return_some (wpAny_mono pv (fun u s5 hs=>?_) fun e s' z=>?_))
     · obtain⟨v',H5,J5',ru,rfl,rfl⟩:=hs
       have J5:Inv X [] (σ'.set 3 (some (.ref f'))) H5 s5:=J5'.unwish
       cases (show u=Value.ref f' from ru)
       show L2.CE outer X.prog X.w H s Q (.ref f') s5
       rw[eP,ew]
       obtain⟨cc2,ou,hcc2,hou,hoc⟩:=cellAt J5 (by rw[List.getElem?_set_ne (by decide)];exact e1)
       rw[hcc] at hcc2;cases hcc2
       obtain⟨ps,hTb,_⟩:=id tb
       obtain⟨ps3,hTb3,_⟩:=id tb3
       have dTb:d≠Tb:=fun z=>by rw[z,hTb] at hdH;cases hdH
       have hd3:H5 d=some (.ext (TriO d ws)):=S3.rest d _ dTb hdH
       obtain⟨_,⟨od',hod⟩,_⟩:=(show ObjOk X.prog X.w H5 s5.heap d (.ext _) from J5.hok d _ hd3)
       have hcn:H5 cc=none:=J5.freeC _ _ hcc
       have hcs:s.heap.objs.size<=cc:=by
        have:=J5.ok.cab "last" cc (by rw[<-hX];rfl) hcc
        rw[<-hX] at this;exact this
       have un:Un (frs outer) [] H H5 s.heap s5.heap:=by have:=J5.base;rw[<-hX] at this;exact this
       have hok:HOk P w H5 s5.heap:=by have:=J5.hok;rw[eP,ew] at this;exact this
       have ccd:cc≠d:=fun z=>by rw[z,hd3] at hcn;cases hcn
       obtain⟨un6,hok6,old6⟩:=zji un hok hcn hcs hou hd3 hod
       have at_d:upd (upd H5 cc (.frz ou (.own 0))) d (.frz od' (.ext (TriO d ws))) d=some (.frz od' (.ext (TriO d ws))):=zai
       have at_c:upd (upd H5 cc (.frz ou (.own 0))) d (.frz od' (.ext (TriO d ws))) cc=some (.frz ou (.own 0)):=by rw[zae ccd];exact zai
       generalize upd (upd H5 cc (.frz ou (.own 0))) d (.frz od' (.ext (TriO d ws)))=H6 at un6 hok6 old6 at_d at_c
       have up6:∀b o,H' b=some o->b≠Tb->b≠d->H6 b=some o:=fun b o e n1 n2=>old6 b o (S3.rest b o n1 e) n2
       have frz6:∀b o u,H' b=some (.frz o u)->H6 b=some (.frz o u):=fun b o u e=>up6 b _ e (fun z=>by rw[z,hTb] at e;cases e) fun z=>by rw[z,hdH] at e;cases e
       have tup6:∀b xs,H' b=some (.tup xs)->H6 b=some (.tup xs):=fun b xs e=>up6 b _ e (fun z=>by rw[z,hTb] at e;cases e) fun z=>by rw[z,hdH] at e;cases e
       have frz56:∀b o u,H5 b=some (.frz o u)->H6 b=some (.frz o u):=fun b o u e=>old6 b _ e fun z=>by rw[z,hd3] at e;cases e
       have hTb6:H6 Tb=some (.tbl ps3):=old6 Tb _ hTb3 (Ne.symm dTb)
       have tb6:TB H6:=fun p hp=>by
        by_cases z:p.1=Tb
        · rw[one p hp z,z];exact tb3.up (hTb6.trans hTb3.symm) frz56
        · obtain⟨qs,hq,_⟩:=id (rh.tab p hp)
          exact (rh.tab p hp).up ((up6 p.1 _ hq z fun y=>by rw[y,hdH] at hq;cases hq).trans hq.symm) frz6
       have dm:d∈ι':=List.mem_of_getElem? hd
       have x6:Ext ι H ι H6:=by
        refine⟨List.prefix_refl _,⟨un6.tups,un6.frzs,fun _=>tb6⟩,fun a o ha e=>⟨?_,ha⟩⟩
        obtain⟨e2,hm⟩:=x'.rest a o ha e
        have nd:a≠d:=fun z=>hm (z▸dm)
        by_cases z:a=Tb
        · refine .inr ⟨?_,ps3,z▸hTb6⟩
          rcases e2 with e2|⟨t,_⟩
          · rw[z,hTb] at e2;cases e2;exact⟨ps,rfl⟩
          · exact t
        · rcases e2 with e2|⟨t,qs,e2⟩
          · exact .inl (up6 a o e2 z nd)
          · exact .inr ⟨t,qs,up6 a _ e2 z nd⟩
       have dn:d∉ι:=zfy x'.pre rh.nd hd (Nat.le_of_eq hh.len)
       have rh6:RH K ι H6 S0:=(hh.cutG x' rh fun l o e=>zc4 e).offK ⟨tup6,frz6,fun _=>tb6⟩ fun a ha=>by
        obtain⟨o,ho,_,_,nt⟩:=(hh.cutG x' rh fun l o e=>zc4 e).live ha
        rw[ho]
        exact up6 a o ho (fun z=>by rw[z,hTb] at ho;cases ho;exact nt _ rfl) fun z=>dn (z▸ha)
       refine⟨.ref f',H6,J5.os.trans (by rw[<-hX];rfl),J5.bare,un6,hok6,rfl,q _ H6 ι x6 ?_ rh6⟩
       obtain⟨pm',ct',doc',c2,oc2,vs2,t2,g1,g2,g3,g4⟩:=D3
       exact⟨f',rfl,cc,d,ou,od',ws,⟨ist,pm',ct',doc',c2,oc2,vs2,t2,hrs,frz56 _ _ _ g1,frz56 _ _ _ g2,g3,g4⟩,at_c,hoc,at_d,w3.up tup6⟩
     · exact False.elim z
   · show tS X.nox.K noCF zeF _ _ _
     rw[show X.nox.K=K from eK]
     refine⟨[some x0,none,none,none],ι,S0,_,⟨rfl,fun i d e=>?_⟩,hh,zmI h1 h2 h3 h4 hx,?_⟩
     · match i,e with
       |0,e=>cases e;exact⟨v,rfl,rv⟩
       |1,e=>cases e
       |2,e=>cases e
       |3,e=>cases e
       |i+4,e=>simp at e
     · rintro fl ι' H' S' x' hh' ⟨z,rfl,rfl⟩
       exact fun σ' hs=>⟨z,ι',hs,hh',x'⟩
 · exact hw.elim
omit [Mks] in
theorem zmS {scope:Scope}{env:Env}{c:Addr}(hn:scope.names=[(("turn":Str),.local),("path",.local),("to",.local),("word",.local),("last",.free)])(h:env.cells.lookup ("last":Str)=some c):closureFor scope env=pure [(("last":Str),c)]:=by
 unfold closureFor
 rw[hn]
 simp[cellOf,h]
end R
end
section
namespace R
open PySem PySem.W PyProof.Rows
section
variable {n:Nat} {r:Nat->Int} {cmp:Nat->Nat->(Bool->Shared->Prop)->Shared->Prop} {s:Shared}
noncomputable abbrev GP (n:Nat)(p:Array Nat):Prop:=p.Perm (List.range n).toArray
noncomputable def kAt (r:Nat->Int)(p:Array Nat)(i:Nat):Int:=r (p.getD i 0)
noncomputable def AscTo (r:Nat->Int)(p:Array Nat)(k:Nat):Prop:=∀i j,i<j->j<k->kAt r p i<kAt r p j
noncomputable def DescTo (r:Nat->Int)(p:Array Nat)(k:Nat):Prop:=∀i j,i<j->j<k->kAt r p j<kAt r p i
theorem GP.size {p:Array Nat}(h:GP n p):p.size=n:=by
 have:=h.size_eq
 simpa using this
theorem GP.list {p:Array Nat}(h:GP n p):p.toList.Perm (List.range n):=by
 have:=Array.perm_iff_toList_perm.mp h
 simpa using this
theorem za5 (p:Array Nat){i:Nat}(hi:i<p.size):p.getD i 0=p.toList[i]'(by simpa using hi):=by
 simp[Array.getD,hi]
theorem GP.lt {p:Array Nat}(h:GP n p){i:Nat}(hi:i<n):p.getD i 0<n:=by
 have hs:=h.size
 rw[za5 p (by omega)]
 exact List.mem_range.mp (h.list.mem_iff.mp (List.getElem_mem _))
theorem GP.inj {p:Array Nat}(h:GP n p)(hr:∀i j,i<n->j<n->r i=r j->i=j){i j:Nat}(hi:i<n)(hj:j<n)(e:kAt r p i=kAt r p j):i=j:=by
 have e':=hr _ _ (h.lt hi) (h.lt hj) e
 have hs:=h.size
 rw[za5 p (by omega),za5 p (by omega)] at e'
 have nd:p.toList.Nodup:=h.list.nodup_iff.mpr List.nodup_range
 have pw:=List.pairwise_iff_getElem.mp nd
 rcases Nat.lt_trichotomy i j with z|z|z
 · exact absurd e' (pw i j _ _ z)
 · exact z
 · exact absurd e'.symm (pw j i _ _ z)
theorem GP.tri {p:Array Nat}(h:GP n p)(hr:∀i j,i<n->j<n->r i=r j->i=j){i j:Nat}(hi:i<n)(hj:j<n)(ne:i≠j)(c:¬kAt r p i<kAt r p j):kAt r p j<kAt r p i:=by
 have:kAt r p i≠kAt r p j:=fun e=>ne (h.inj hr hi hj e)
 omega
theorem AscTo.snoc {p:Array Nat}{k:Nat}(h:AscTo r p k)(h1:1<=k)(c:kAt r p (k - 1)<kAt r p k):AscTo r p (k+1):=by
 intro i j hij hj
 by_cases e:j<k
 · exact h i j hij e
 · have:j=k:=by omega
   subst this
   by_cases e':i=j - 1
   · subst e';exact c
   · have:=h i (j - 1) (by omega) (by omega)
     omega
theorem DescTo.snoc {p:Array Nat}{k:Nat}(h:DescTo r p k)(h1:1<=k)(c:kAt r p k<kAt r p (k - 1)):DescTo r p (k+1):=by
 intro i j hij hj
 by_cases e:j<k
 · exact h i j hij e
 · have:j=k:=by omega
   subst this
   by_cases e':i=j - 1
   · subst e';exact c
   · have:=h i (j - 1) (by omega) (by omega)
     omega
variable (hr:∀i j,i<n->j<n->r i=r j->i=j) (hc:∀i j (C:Bool->Shared->Prop),i<n->j<n->C (decide (r i<r j)) s->cmp i j C s)
include hr hc
theorem ziW {p:Array Nat}(g:GP n p){Q:Nat->Shared->Prop}:∀(f a:Nat),1<=a->a+f<=n->AscTo r p a->
  (∀m,a<=m->m<=a+f->AscTo r p m->(m=a+f\/kAt r p m<kAt r p (m - 1))->Q m s)->(kas_asc p f a).kasWp cmp Q s
 |0,a,_,_,h,q=>q a (Nat.le_refl _) (Nat.le_refl _) h (.inl rfl)
 | f + 1, a, h1, h2, h, q => by
   refine hc _ _ _ (g.lt (by omega)) (g.lt (by omega)) ?_
   by_cases c:kAt r p a<kAt r p (a - 1)
   · have e:decide (r (p.getD a 0)<r (p.getD (a - 1) 0))=true:=decide_eq_true c
     show (if decide (r (p.getD a 0)<r (p.getD (a - 1) 0))=true then KasT.ret a else kas_asc p f (a+1)).kasWp cmp Q s
     rw[if_pos e]
     exact q a (Nat.le_refl _) (by omega) h (.inr c)
   · have e:¬decide (r (p.getD a 0)<r (p.getD (a - 1) 0))=true:=fun z=>c (of_decide_eq_true z)
     show (if decide (r (p.getD a 0)<r (p.getD (a - 1) 0))=true then KasT.ret a else kas_asc p f (a+1)).kasWp cmp Q s
     rw[if_neg e]
     refine ziW g f (a+1) (by omega) (by omega) (h.snoc h1 (g.tri hr (by omega) (by omega) (by omega) c)) fun m m1 m2 m3 m4=>q m (by omega) (by omega) m3 ?_
     rcases m4 with z|z
     · exact .inl (by omega)
     · exact .inr z
theorem ziH {p:Array Nat}(g:GP n p){Q:Array Nat × Nat × Nat->Shared->Prop}:∀(f a:Nat),1<=a->a+f<=n->DescTo r p a->
  (∀m,a<=m->m<=a+f->DescTo r p m->Q (p,m,0) s)->(kas_desc f p a 0).kasWp cmp Q s
 |0,a,_,_,h,q=>q a (Nat.le_refl _) (Nat.le_refl _) h
 | f + 1, a, h1, h2, h, q => by
   refine hc _ _ _ (g.lt (by omega)) (g.lt (by omega)) ?_
   by_cases c:kAt r p a<kAt r p (a - 1)
   · have e:decide (r (p.getD a 0)<r (p.getD (a - 1) 0))=true:=decide_eq_true c
     rw[e]
     show (kas_desc f p (a+1) 0).kasWp cmp Q s
     exact ziH g f (a+1) (by omega) (by omega) (h.snoc h1 c) fun m m1 m2 m3=>q m (by omega) (by omega) m3
   · have e:decide (r (p.getD a 0)<r (p.getD (a - 1) 0))=false:=decide_eq_false c
     rw[e]
     refine hc _ _ _ (g.lt (by omega)) (g.lt (by omega)) ?_
     have c':=g.tri hr (by omega) (by omega) (by omega) c
     have e':decide (r (p.getD (a - 1) 0)<r (p.getD a 0))=true:=decide_eq_true c'
     rw[e']
     exact q a (Nat.le_refl _) (by omega) h
omit hr hc in
theorem GP.rev {p:Array Nat}(g:GP n p)(i j:Nat):GP n (kas_rev p i j):=(mirror_perm _ _ _ _).trans g
omit hr hc in
theorem zie {p:Array Nat}(g:GP n p){m i:Nat}(hm:m<=n)(hi:i<m):kAt r (kas_rev p 0 m) i=kAt r p (m - 1 - i):=by
 have hs:=g.size
 have e:=getElem?_mirror_all (xs:=p) (i:=0) (j:=m) (by omega) i
 unfold kAt kas_rev
 congr 1
 have a1:(mirror p 0 m ((m - 0) / 2)).getD i 0=((mirror p 0 m ((m - 0) / 2))[i]?).getD 0:=by simp[Array.getD_eq_getD_getElem?]
 have a2:p.getD (m - 1 - i) 0=(p[m - 1 - i]?).getD 0:=by simp[Array.getD_eq_getD_getElem?]
 rw[a1,a2]
 congr 1
 rw[e]
 have h1:0<=i/\i<m:=⟨Nat.zero_le _,hi⟩
 simp[h1,hi]
 try (congr 1;omega)
omit hr hc in
theorem DescTo.rev {p:Array Nat}{m:Nat}(g:GP n p)(hm:m<=n)(h:DescTo r p m):AscTo r (kas_rev p 0 m) m:=by
 intro i j hij hj
 rw[zie g hm (by omega),zie g hm hj]
 exact h _ _ (by omega) (by omega)
theorem zki {p:Array Nat}(g:GP n p)(h1:1<=n){Q:Nat × Array Nat->Shared->Prop}(q:∀m p',1<=m->m<=n->GP n p'->AscTo r p' m->Q (m,p') s):(kas_count n p).kasWp cmp Q s:=by
 unfold kas_count
 rw[KasT.kasWp_bind]
 refine ziW hr hc g (n - 1) 1 (Nat.le_refl _) (by omega) (fun i j _ _=>by omega) fun m m1 m2 m3 m4=>?_
 by_cases e:m=n
 · subst e
   simp only[beq_self_eq_true,if_true]
   exact q m p m1 (Nat.le_refl _) g m3
 · rw[if_neg (by simpa using e)]
   have c:=m4.resolve_left (by omega)
   by_cases e1:m > 1
   · have:=m3 (m - 1 - 1) (m - 1) (by omega) (by omega)
     rw[if_pos e1]
     refine hc _ _ _ (g.lt (by omega)) (g.lt (by omega)) ?_
     have c1:kAt r p 0<kAt r p (m - 1):=m3 0 (m - 1) (by omega) (by omega)
     have e2:decide (r (p.getD 0 0)<r (p.getD (m - 1) 0))=true:=decide_eq_true c1
     rw[e2]
     exact q m p m1 (by omega) g m3
   · rw[if_neg e1]
     have e2:m=1:=by omega
     subst e2
     unfold kas_descPart
     rw[KasT.kasWp_bind]
     have d2:DescTo r p (1+1):=by
      intro i j hij hj
      have:i=0/\j=1:=by omega
      obtain⟨rfl,rfl⟩:=this
      exact c
     refine ziH hr hc g (n - (1+1)) (1+1) (by omega) (by omega) d2 fun k k1 k2 k3=>?_
     show (kas_tail3 k n p).kasWp cmp Q s
     unfold kas_tail3
     rw[KasT.kasWp_bind]
     refine ziW hr hc (g.rev 0 k) (n - k) k (by omega) (by omega) (k3.rev g (by omega)) fun j j1 j2 j3 _=>?_
     exact q j _ (by omega) (by omega) (g.rev 0 k) j3
theorem zef {p:Array Nat}(g:GP n p){k:Nat}(hk:k<n)(ha:AscTo r p k){Q:Nat->Shared->Prop}:∀(f l t:Nat),l<=t->t<=k->t - l<=f->(∀i,i<l->kAt r p i<kAt r p k)->(∀i,t<=i->i<k->kAt r p k<kAt r p i)->
  (∀l,l<=k->(∀i,i<l->kAt r p i<kAt r p k)->(∀i,l<=i->i<k->kAt r p k<kAt r p i)->Q l s)->(kas_place p k f l t).kasWp cmp Q s
 |0,l,t,h1,h2,h3,a,b,q=>q l (by omega) a fun i hi hik=>b i (by omega) hik
 | f + 1, l, t, h1, h2, h3, a, b, q => by
   unfold kas_place
   by_cases e:l≥t
   · rw[if_pos e]
     exact q l (by omega) a fun i hi hik=>b i (by omega) hik
   · rw[if_neg e]
     refine hc _ _ _ (g.lt hk) (g.lt (by omega)) ?_
     by_cases c:kAt r p k<kAt r p ((l+t) / 2)
     · have e':decide (r (p.getD k 0)<r (p.getD ((l+t) / 2) 0))=true:=decide_eq_true c
       rw[e']
       refine zef g hk ha f l ((l+t) / 2) (by omega) (by omega) (by omega) a (fun i hi hik=>?_) q
       by_cases z:i=(l+t) / 2
       · rw[z];exact c
       · have:=ha ((l+t) / 2) i (by omega) hik
         omega
     · have e':decide (r (p.getD k 0)<r (p.getD ((l+t) / 2) 0))=false:=decide_eq_false c
       rw[e']
       have c':=g.tri hr hk (by omega) (by omega) c
       refine zef g hk ha f ((l+t) / 2+1) t (by omega) h2 (by omega) (fun i hi=>?_) b q
       by_cases z:i=(l+t) / 2
       · rw[z];exact c'
       · have:=ha i ((l+t) / 2) (by omega) (by omega)
         omega
omit hr hc in
theorem zdL {p:Array Nat}(g:GP n p){k l:Nat}(hk:k<n)(hl:l<=k)(i:Nat):kAt r (bubble p k (k - l)) i=if i=l then kAt r p k else if l<i/\i<=k then kAt r p (i - 1) else kAt r p i:=by
 have hs:=g.size
 have e:=getElem?_bubble (xs:=p) (src:=k) (by omega) (k - l) (by omega) i
 have a0:∀(q:Array Nat) (j:Nat),q.getD j 0=(q[j]?).getD 0:=fun q j=>by simp[Array.getD_eq_getD_getElem?]
 unfold kAt
 rw[a0,e]
 have hl':k - (k - l)=l:=by omega
 rw[hl']
 split
 · rw[a0]
 · split
   · rw[a0]
   · rw[a0]
omit hr hc in
theorem zhb {p:Array Nat}(g:GP n p){k l:Nat}(hk:k<n)(hl:l<=k)(ha:AscTo r p k)(a:∀i,i<l->kAt r p i<kAt r p k)(b:∀i,l<=i->i<k->kAt r p k<kAt r p i):AscTo r (bubble p k (k - l)) (k+1):=by
 intro i j hij hj
 rw[zdL g hk hl,zdL g hk hl]
 by_cases i1:i=l
 · rw[if_pos i1,if_neg (by omega),if_pos (by omega)]
   exact b _ (by omega) (by omega)
 · rw[if_neg i1]
   by_cases i2:l<i/\i<=k
   · rw[if_pos i2,if_neg (by omega),if_pos (by omega)]
     exact ha _ _ (by omega) (by omega)
   · rw[if_neg i2]
     by_cases j1:j=l
     · rw[if_pos j1];exact a _ (by omega)
     · rw[if_neg j1]
       by_cases j2:l<j/\j<=k
       · rw[if_pos j2]
         by_cases z:i=j - 1
         · omega
         · exact ha _ _ (by omega) (by omega)
       · rw[if_neg j2];exact ha _ _ hij (by omega)
theorem zk3 {Q:Array Nat->Shared->Prop}:∀(f k:Nat) (p:Array Nat),k+f=n->1<=k->GP n p->AscTo r p k->(∀p',GP n p'->AscTo r p' n->Q p' s)->(kas_bin f p k).kasWp cmp Q s
 |0,k,p,e,_,g,a,q=>q p g (by rw[show n=k by omega];exact a)
 | f + 1, k, p, e, h1, g, a, q => by
   unfold kas_bin
   rw[KasT.kasWp_bind]
   refine zef hr hc g (by omega) a k 0 k (by omega) (Nat.le_refl _) (by omega) (fun i hi=>by omega) (fun i hi hik=>by omega) fun l l1 l2 l3=>?_
   exact zk3 f (k+1) _ (by omega) (by omega) ((bubble_perm _ _ _).trans g) (zhb g (by omega) l1 a l2 l3) q
theorem zlt (h1:1<=n){Q:Array Nat->Shared->Prop}(q:∀p,GP n p->AscTo r p n->Q p s):(kas_sort n).kasWp cmp Q s:=by
 unfold kas_sort
 rw[KasT.kasWp_bind]
 refine zki hr hc (Array.Perm.refl _) h1 fun m p' m1 m2 g a=>?_
 show (if m<n then kas_bin (n - max m 1) p' (max m 1) else KasT.ret p').kasWp cmp Q s
 have em:max m 1=m:=by omega
 rw[em]
 by_cases e:m<n
 · rw[if_pos e]
   exact zk3 hr hc (n - m) m p' (by omega) m1 g a q
 · rw[if_neg e]
   exact q p' g (by rw[show n=m by omega];exact a)
end
end R
end
section
namespace R
open PySem PySem.Spec PyProof.Rows L2
variable [Mks]
theorem zmo {CX:CXT}{P:Program}{w:World}{K:W.Frag}{mg:Str->Option Value}{base:Heap}{k:Nat}{f c':Addr}{name qual:Str}{params:Arguments}{body:Expr}{scope:Scope}{pm ct:Value}{N ps:List Str}
  {A:Around} {outer:List Env} {s:Shared} {H:Hp} {args:Args} {us:List Value} {vs:List V} {Q:VK} {E:XK} {t:TE} (S:FnScope N ps scope) (hr:Room (k+1) A) (e0:Env0 P w K mg base A outer s H)
  (ho:s.heap.get? f=some (W.kla_obj name qual params body scope [] pm c' ct)) (hcd:s.heap.CodeRec (.ref c') qual)
  (hb:BindsTo s (W.kla_fn name qual params body scope [] pm (.ref c') ct) args (ps.zip us)) (r:Vals vs us) (hl:vs.length=ps.length)
  (ht:Room k (A.deeper (envOfC qual scope s.heap.objs.size f (.ref c')))->PE (cxOf CX P w K mg base N qual scope f (.ref c') A outer s H E) body t) (hq:t (start N vs) H Q) :
  codeAny (model P w) A (.call (.ref f) args) (CR CX outer P w H s Q E) s:=by
 have lim:s.heap.NoLimit:=e0.mod.nolimit.keeps fun b o e=>(e0.bs b o e).1
 have kinds:∀y∈ps.zip us,scope.names.lookup y.1=some .local\/(scope.names.lookup y.1=some .cell/\((cellsFrom (s.heap.objs.size+1) scope.names []).lookup y.1).isSome=true):=fun⟨x,v⟩ hy=>
  (S.par x (List.of_mem_zip hy).1).elim .inl fun q=>.inr ⟨q,W.cellsFrom_some _ _ _ (.inl q)⟩
 refine W.kla_callFunE hr.depth ho rfl S.co S.gen rfl hcd (hb _ _ _ _ ?_)
 refine wpAny_newFunctionEnv_cells S.kind kinds fun env he s1 x=>?_
 subst he
 refine⟨lim.keeps x.toInCall.keep,W.kla_codeExpr ?_⟩
 have I:Inv (cxOf CX P w K mg base N qual scope f (.ref c') A outer s H E) [] (start N vs) H s1:=zdc S hr.hd e0 hl r x
 exact wpAny_mono (ht (hr.deeper _) [] s1 (start N vs) H _ I hq) (fun u s' ⟨v,H',J,rv,q⟩=>⟨v,H',J.os,J.bare,J.base,J.hok,rv,q⟩) fun e s' hs=>hs
end R
end
section
namespace R
open PySem PySem.Spec PyProof.Rows L2
variable [Mks]
noncomputable def zcQ:CE:=.tup (.cons (.neg (.ix (.loc 0) (.con (.int 1)))) (.cons (.ix (.loc 0) (.con (.int 0))) .nil))
theorem zoX (S:R.St)(k v:Int):evE noCF zcQ [some (.tup [.int k,.int v])] S=.ok (.tup [.int (-v),.int k]) S:=by
 simp[zcQ,evE,evEs,lift,Out.bind,za6,atI,ixN]
structure LamAt (H:Hp) (f:Addr) (name qual:Str) (params:Arguments) (body:Expr) (scope:Scope):Prop where
 ex:∃(pm ct:Value) (c':Addr) (oc:Obj) (vs:Array Value) (t:Tok),H f=some (.frz (W.kla_obj name qual params body scope [] pm c' ct) (.own 0))/\H c'=some (.frz oc (.own 0))/\oc.data=.fields vs/\vs[1]?=some (.str qual t)
theorem LamAt.up {H H':Hp}{f:Addr}{name qual:Str}{params:Arguments}{body:Expr}{scope:Scope}(L:LamAt H f name qual params body scope)(k:Kp H H'):LamAt H' f name qual params body scope:=by
 obtain⟨pm,ct,c',oc,vs,t,h1,h2,h3⟩:=L.ex
 exact⟨pm,ct,c',oc,vs,t,k.frzs _ _ _ h1,k.frzs _ _ _ h2,h3⟩
theorem zj0 {X:Cx}{pins:List (Addr × Obj)}{σ:L2.St}{H:Hp}{s:Shared}{A':Around}{f a:Addr}{name qual:Str}{params:Arguments}{body:Expr}{scope:Scope}{k v:Int}{u:Value}(I:Inv X pins σ H s)(hr:Room 2 A')
  (e0:Env0 X.prog X.w X.K X.mg X.base A' X.stack s H) (L:LamAt H f name qual params body scope) (hs:FnScope ["row"] ["row"] scope)
  (hb:∀(pm cd ct:Value),bindArgs (W.kla_fn name qual params body scope [] pm cd ct) ⟨[u],[]⟩=pure [(("row":Str),u)]) (ck:chkE zbm zcQ ["row"] scope body=true)
  (tb:TB H) (ha:H a=some (.tup [.int k,.int v])) (hu:L2.RelV (.ref a) u) :
  wpAny (model X.prog X.w) A' (call (.ref f) [u]) (fun y s'=>∃b H',y=.ref b/\Inv X pins σ H' s'/\H' b=some (.tup [.int (-v),.int k])/\Ext [] H [] H'/\Un (frs X.stack) [] H H' s.heap s'.heap) (fun _ _=>False) s:=by
 obtain⟨pm,ct,c',oc,vs,t,h1,h2,h3,h4⟩:=L.ex
 have of:=(I.hok f _ h1).1
 have oo:=(I.hok c' _ h2).1
 refine wpAny_call (codeAny_mono (zmo (CX:=CX0) (E:=fun _ _ _=>False) (Q:=fun w H'=>∃b,w=V.ref b/\H' b=some (.tup [.int (-v),.int k])/\Ext [] H [] H') (vs:=[V.ref a]) (us:=[u]) (t:=tE X.K noCF zcQ) hs hr e0 of ⟨c',oc,vs,t,rfl,oo,h3,h4⟩
  (.of_eq (hb pm _ ct)) (.cons hu .nil) rfl (fun hr'=>PE.nox (zak zcQ (T:=zbm) (k:=0) ⟨rfl,hs.nd,fun x e=>e,fun x e=>e,fun x e=>.inl e,fun x e=>e,.inl fun _=>rfl,rfl,rfl,hr',zgi⟩ ck)) ?_) fun r s' q=>?_)
 · refine⟨[some (.tup [.int k,.int v])],[],⟨[],[],[]⟩,fun d S=>d=.tup [.int (-v),.int k],⟨rfl,fun i d hi=>?_⟩,zn2 tb,by rw[zoX];exact rfl,?_⟩
   · match i,hi with
     |0,hi=>cases hi;exact⟨.ref a,rfl,a,_,rfl,ha,_,_,rfl,rfl,_,_,rfl,rfl,rfl⟩
     |j+1,hi=>simp at hi
   · rintro w H' ⟨d,ι',S',x,rv,hh,rfl⟩
     obtain⟨b,xs,rfl,hx,p1,p2,rfl,q1,p3,p4,rfl,q3,q4⟩:=rv
     cases q1;cases q3;cases q4
     exact⟨b,rfl,hx,x.cut⟩
 · cases r with
   |error e=>exact q.elim
   | ok fl =>
     cases fl with
     | ret y =>
       obtain⟨w,H',os,bare,un,hok,rv,b,rfl,hb',x⟩:=q
       cases y with
       | ref z =>
         have:z=b:=by simpa[L2.RelV] using rv
         exact⟨b,H',by rw[this],I.call' os un hok bare (fun b z=>absurd z (by simp)),hb',x,un⟩
       |_=>simp[L2.RelV] at rv
     |_=>exact q.elim
end R
end
section
namespace R
open PySem PySem.Spec PyProof.Rows L2
variable [Mks]
noncomputable abbrev zfc (s:Shared)(a:Addr)(vs:List Value)(e:Nat):Prop:=s.heap.get? a=some (seqObj "list" vs.toArray e)
theorem zec {s:Shared}{a:Addr}{vs us:List Value}{e:Nat}(h:zfc s a vs e)(g:Array Value->Array Value)(hg:g vs.toArray=us.toArray):∃e',zfc {s with heap:=s.heap.update a (Obj.mapSeq g)} a us e':=
 ⟨_,by have:=get?_update_seq h g;rw[hg] at this;exact this⟩
theorem zbN {s:Shared}{a b:Addr}{o:Obj}{g:Obj->Obj}(n:b≠a)(h:s.heap.get? b=some o):(s.heap.update a g).get? b=some o:=by
 rw[Heap.get?_update_ne _ _ _ _ n];exact h
structure KeyL (rows:List (Int × Int)) (H:Hp) (ks:List Value) (i:Nat):Prop where
 len:ks.length=i
 at_:∀(j:Nat) (k:Value),ks[j]?=some k->∃(b:Addr) (r:Int × Int),rows[j]?=some r/\k=Value.ref b/\H b=some (.tup [.int (-r.2),.int r.1])
theorem KeyL.snoc {rows:List (Int × Int)}{H H':Hp}{ks:List Value}{i:Nat}{b:Addr}{r:Int × Int}(K:KeyL rows H ks i)(x:Ext [] H [] H')(hr:rows[i]?=some r)(hb:H' b=some (.tup [.int (-r.2),.int r.1])):KeyL rows H' (ks++[.ref b]) (i+1):=by
 refine⟨by simp[K.len],fun j k hj=>?_⟩
 by_cases h:j<ks.length
 · rw[List.getElem?_append_left h] at hj
   obtain⟨c,q,h1,h2,h3⟩:=K.at_ j k hj
   exact⟨c,q,h1,h2,x.kp.tups _ _ h3⟩
 · rw[List.getElem?_append_right (by omega)] at hj
   have:j=ks.length:=by
    have:=(List.getElem?_eq_some_iff.mp hj).1
    simp at this;omega
   subst this
   simp at hj
   exact⟨b,r,by rw[K.len];exact hr,hj.symm,hb⟩
section
variable {X:Cx} {pins:List (Addr × Obj)} {σ:L2.St} {H:Hp} {s:Shared} {A':Around} {f D kS:Addr} {name qual:Str} {params:Arguments} {body:Expr} {scope:Scope} {rows:List (Int × Int)}
structure KJ (X:Cx) (pins:List (Addr × Obj)) (σ:L2.St) (H:Hp) (D kS:Addr) (e1:Nat) (rows:List (Int × Int)) (i:Nat) (s':Shared):Prop where
 ex:∃H' ks e,Inv X pins σ H' s'/\Ext [] H [] H'/\H' D=none/\H' kS=none/\zfc s' D [] e1/\zfc s' kS ks e/\KeyL rows H' ks i
theorem zmp {e1 i:Nat}{a:Addr}{r:Int × Int}(hr:Room 2 A')(e0:∀H s,Inv X pins σ H s->Env0 X.prog X.w X.K X.mg X.base A' X.stack s H)(L:LamAt H f name qual params body scope)(hs:FnScope ["row"] ["row"] scope)
  (hb:∀(pm cd ct u:Value),bindArgs (W.kla_fn name qual params body scope [] pm cd ct) ⟨[u],[]⟩=pure [(("row":Str),u)]) (ck:chkE zbm zcQ ["row"] scope body=true) (tb:TB H)
  (oD:Own X pins D) (oK:Own X pins kS) (ne:D≠kS) (ha:H a=some (.tup [.int r.1,.int r.2])) (hri:rows[i]?=some r) (hi:i<64) {s':Shared} (J:KJ X pins σ H D kS e1 rows i s') {items:Array Value} :
  wpAny (model X.prog X.w) A' (do
   match <-(call (.ref f) [.ref a]).attempt with
   |.ok k=>Builtin.List.listUpdate (.ref kS) (·.push k);pure (ForInStep.yield PUnit.unit)
   | .error e =>
     rule "list.sort.key-raised"
     let made <-Builtin.List.listItems (.ref kS)
     Builtin.List.listUpdate (.ref kS) fun _=>#[]
     letGo made.toList.reverse [e]
     Builtin.List.listUpdate (.ref D) fun _=>items;throw e) (fun q s''=>q=.yield ⟨⟩/\KJ X pins σ H D kS e1 rows (i+1) s'') (fun _ _=>False) s':=by
 obtain⟨H1,ks,e,I,x,d1,k1,lD,lK,kl⟩:=J.ex
 refine wpAny_bind (wpAny_attempt (wpAny_mono (zj0 I hr (e0 _ _ I) (L.up x.kp) hs (fun pm cd ct=>hb pm cd ct _) ck (x.kp.tab tb) (x.kp.tups _ _ ha) (show L2.RelV (.ref a) (.ref a) from rfl)) ?_ fun _ _ z=>z.elim))
 rintro y s2 ⟨b,H2,rfl,I2,hb2,x2,un⟩
 have D2:=un.keep D _ lD d1 (oD.stk I) (by simp)
 have K2:=un.keep kS _ lK k1 (oK.stk I) (by simp)
 have hz:ks.length=i:=kl.len
 show wpAny _ _ (Builtin.List.listUpdate (.ref kS) (·.push (.ref b)) >>= fun _=>pure (ForInStep.yield PUnit.unit)) _ _ s2
 refine wpAny_bind (listUpdate_at K2 rfl (wpAny_pure ⟨rfl,?_⟩) (by rw[List.size_toArray,sizeLine_eq];omega) (by rw[Array.size_push,List.size_toArray,sizeLine_eq];omega))
 obtain⟨e',l'⟩:=zec (us:=ks++[.ref b]) K2 (·.push (.ref b)) (by simp)
 refine⟨H2,ks++[.ref b],e',?_,x.trans x2,un.free D _ lD d1 (by simp),un.free kS _ lK k1 (by simp),zbN ne D2,l',kl.snoc x2 hri hb2⟩
 exact zaQ I2 (ch:=[kS]) (fun b hb=>by rw[List.mem_singleton.mp hb];exact oK) (fun b hb=>by rw[List.mem_singleton.mp hb];exact un.free kS _ lK k1 (by simp)) (fun b o hb q=>zbN (by simpa using hb) q) I2.bare
end
end R
end
section
namespace R
open PySem PySem.Spec PyProof.Rows L2
variable [Mks]
noncomputable def rkOf (M:Int)(a:Int × Int):Int:=-a.2 * (2 * M+1)+a.1
theorem zjl {M:Int}{a b:Int × Int}(ha:-M<=a.1/\a.1<=M)(hb:-M<=b.1/\b.1<=M):rkOf M a<rkOf M b↔(-a.2 < -b.2\/(a.2=b.2/\a.1<b.1)):=by
 unfold rkOf
 constructor
 · intro h
   by_cases e:a.2=b.2
   · rw[e] at h;exact .inr ⟨e,by omega⟩
   · by_cases c:-a.2 < -b.2
     · exact .inl c
     · have c':-b.2+1<=-a.2:=by omega
       have:=Int.mul_le_mul_of_nonneg_right c' (show (0:Int)<=2 * M+1 by omega)
       rw[Int.add_mul] at this
       omega
 · rintro (c|⟨e,c⟩)
   · have c':-a.2+1<=-b.2:=by omega
     have:=Int.mul_le_mul_of_nonneg_right c' (show (0:Int)<=2 * M+1 by omega)
     rw[Int.add_mul] at this
     omega
   · rw[e];omega
theorem zga:∀rows:List (Int × Int),∃M:Int,∀r∈rows,-M<=r.1/\r.1<=M
 | []=>⟨0,fun r h=>by cases h⟩
 | a :: rows => by
   obtain⟨M,h⟩:=zga rows
   refine⟨max M (max a.1 (-a.1)),fun r hr=>?_⟩
   rcases List.mem_cons.mp hr with rfl|hr
   · omega
   · have:=h r hr
     omega
theorem zf5 {rows out:List (Int × Int)}(hp:out.Perm rows)(ho:out.Pairwise fun a b=>zcy a b=true):out=za0 rows:=by
 refine List.Perm.eq_of_pairwise (le:=fun a b=>zcy a b=true) (fun a b _ _ h1 h2=>?_) ho (List.pairwise_mergeSort (fun a b c h1 h2=>?_) (fun a b=>?_) rows) (hp.trans (List.mergeSort_perm rows zcy).symm)
 · obtain⟨a1,a2⟩:=a;obtain⟨b1,b2⟩:=b
   simp only[zcy,decide_eq_true_eq] at h1 h2
   have e1:a1=b1:=by omega
   have e2:a2=b2:=by omega
   rw[e1,e2]
 · simp only[zcy,decide_eq_true_eq] at h1 h2⊢;omega
 · simp only[zcy,Bool.or_eq_true,decide_eq_true_eq];omega
theorem zgf {α:Type}{xs:List α}{p:List Nat}(d:α)(hp:p.Perm (List.range xs.length)):(p.map fun i=>xs.getD i d).Perm xs:=by
 have h:=hp.map fun i=>xs.getD i d
 refine h.trans (List.Perm.of_eq ?_)
 apply List.ext_getElem
 · simp
 · intro i h1 h2
   simp[h2]
theorem zkp {rows:List (Int × Int)}{M:Int}(hM:∀r∈rows,-M<=r.1/\r.1<=M){p:Array Nat}(g:GP rows.length p)(a:AscTo (fun i=>rkOf M (rows.getD i (0,0))) p rows.length) :
  (p.toList.map fun i=>rows.getD i (0,0))=za0 rows:=by
 refine zf5 (zgf _ g.list) ?_
 rw[List.pairwise_map,List.pairwise_iff_getElem]
 intro i j hi hj hij
 have hs:=g.size
 have hi':i<p.size:=by simpa using hi
 have hj':j<p.size:=by simpa using hj
 have h:=a i j hij (by omega)
 unfold kAt at h
 rw[za5 p hi',za5 p hj'] at h
 have mem:∀k,k<rows.length->rows.getD k (0,0)∈rows:=fun k hk=>by
  rw[List.getD_eq_getElem?_getD,List.getElem?_eq_getElem hk];exact List.getElem_mem hk
 have li:p.toList[i]<rows.length:=by rw[<-za5 p hi'];exact g.lt (by omega)
 have lj:p.toList[j]<rows.length:=by rw[<-za5 p hj'];exact g.lt (by omega)
 have:=(zjl (hM _ (mem _ li)) (hM _ (mem _ lj))).mp h
 simp only[zcy,decide_eq_true_eq]
 omega
end R
end
section
namespace R
open PySem PySem.Spec PyProof.Rows L2
variable [Mks]
section
variable {X:Cx} {pins:List (Addr × Obj)} {σ:L2.St} {H:Hp} {s:Shared} {A':Around} {D kS:Addr} {rows:List (Int × Int)}
theorem zfL {h:Heap}{b:Addr}{x y:Int}{P:Program}{w:World}(ok:HOk P w H h)(e:H b=some (.tup [.int x,.int y])):∃(o:Obj) (t u:Tok) (n:Nat),h.get? b=some o/\o.cls=.type "tuple"/\o.data=.seq #[.int x t,.int y u] n:=by
 obtain⟨_,its,r,o,h1,h2,n,h3⟩:=ok b _ e
 cases r with
 | cons r1 r =>
   cases r with
   | cons r2 r =>
     cases r with
     | nil =>
       obtain⟨t,rfl⟩:=r1
       obtain⟨u,rfl⟩:=r2
       exact⟨o,t,u,n,h1,h2,h3⟩
theorem zoN {b c:Addr}{x y x' y':Int}(ok:HOk X.prog X.w H s.heap)(e:H b=some (.tup [.int x,.int y]))(e':H c=some (.tup [.int x',.int y'])){Q:Bool->Shared->Prop}{E:Value->Shared->Prop}
  (q:Q (decide (x<x'\/(x=x'/\y<y'))) s):wpAny (model X.prog X.w) A' (keyLt' (tuples' true) (.ref b) (.ref c)) Q E s:=by
 obtain⟨o,t,u,n,h1,_,h3⟩:=zfL ok e
 obtain⟨o',t',u',n',h1',_,h3'⟩:=zfL ok e'
 refine W.kat_lt h1 h3 h1' h3' (W.kat_cons (wpAny_eqBool_int ?_))
 by_cases d:x=x'
 · have ed:(x == x')=true:=by simpa using d
   rw[ed]
   refine W.kat_yes (W.kat_cons (wpAny_eqBool_int ?_))
   by_cases d2:y=y'
   · have ed2:(y == y')=true:=by simpa using d2
     rw[ed2]
     refine W.kat_yes (W.kat_nil ?_)
     have:decide (x<x'\/(x=x'/\y<y'))=decide ((#[Value.int x t,Value.int y u]:Array Value).size<(#[Value.int x' t',Value.int y' u']:Array Value).size):=by
      rw[decide_eq_false (by omega)];rfl
     rw[this] at q
     exact q
   · have ed2:(y == y')=false:=by simpa using d2
     rw[ed2]
     refine W.kat_no (W.kat_one _ _ (wpAny_lt_int ?_))
     have:decide (x<x'\/(x=x'/\y<y'))=decide (y<y'):=by
      by_cases z:y<y'
      · rw[decide_eq_true z,decide_eq_true (.inr ⟨d,z⟩)]
      · rw[decide_eq_false z,decide_eq_false (by omega)]
     rw[this] at q
     exact q
 · have ed:(x == x')=false:=by simpa using d
   rw[ed]
   refine W.kat_no (oneLt_int ?_)
   have:decide (x<x'\/(x=x'/\y<y'))=decide (x<x'):=by
    by_cases z:x<x'
    · rw[decide_eq_true z,decide_eq_true (.inl z)]
    · rw[decide_eq_false z,decide_eq_false (by omega)]
   rw[this] at q
   exact q
theorem zgq {h:Heap}{P:Program}{w:World}(ok:HOk P w H h):∀(ks:List Value),(∀k∈ks,∃b x y,k=Value.ref b/\H b=some (.tup [.int x,.int y]))->∃fs:List Value,W.KatTups h ks fs/\fs.length=ks.length/\∀v∈fs,∃n t,v=Value.int n t
 | [],_=>⟨[],W.KatTups.nil,rfl,fun v h=>by cases h⟩
 | k :: ks, hk => by
   obtain⟨fs,h1,h2,h3⟩:=zgq ok ks fun k h=>hk k (List.mem_cons_of_mem _ h)
   obtain⟨b,x,y,rfl,e⟩:=hk k List.mem_cons_self
   obtain⟨o,t,u,n,g1,g2,g3⟩:=zfL ok e
   refine⟨.int x t::fs,W.KatTups.cons g1 g2 g3 rfl h1,by simp[h2],fun v hv=>?_⟩
   rcases List.mem_cons.mp hv with rfl|hv
   · exact⟨x,t,rfl⟩
   · exact h3 v hv
theorem zjZ {ks:List Value}(ok:HOk X.prog X.w H s.heap)(hk:∀k∈ks,∃b x y,k=Value.ref b/\H b=some (.tup [.int x,.int y]))(h1:1<=ks.length){Q:SortKind->Shared->Prop}{E:Value->Shared->Prop}(q:Q (tuples' true) s) :
  wpAny (model X.prog X.w) A' (keyKind' ks.toArray) Q E s:=by
 obtain⟨fs,t1,t2,t3⟩:=zgq ok ks hk
 refine W.kat_kind (T:=.type "int") t1 (by omega) (fun v hv=>?_) rfl q
 obtain⟨n,t,rfl⟩:=t3 v hv
 exact .now
structure KEnd (X:Cx) (pins:List (Addr × Obj)) (σ:L2.St) (H:Hp) (D:Addr) (out:List Value) (s':Shared):Prop where
 ex:∃H' e,Inv X pins σ H' s'/\Ext [] H [] H'/\H' D=none/\zfc s' D out e
theorem zhj {st:SortSt}{out:List Value}{e1 i:Nat}{P:PySem.Fin->Shared->Prop}{E:Value->Shared->Prop}(hout:(arrOf st).map (·.2)=out.toArray)(hz:out.length<64)(hi:i<64)(hf:failedOf st=none)(oD:Own X pins D)(oK:Own X pins kS)(ne:D≠kS)
  (J:KJ X pins σ H D kS e1 rows i s) (h:∀s',KEnd X pins σ H D out s'->P (.done (.ret .none)) s'):wpAny (model X.prog X.w) A' (ksk_tail D false e1 (.ref kS) st) P E s:=by
 obtain⟨H1,ks,e,I,x,d1,k1,lD,lK,kl⟩:=J.ex
 have hk:ks.length<64:=by rw[kl.len];exact hi
 have I1:=zaQ (h':=s.heap.update kS (Obj.mapSeq fun _=>#[])) (g':=s.gens) (t':=s.toks) (d':=s.drawn) (ch:=[kS]) I (fun b hb=>by rw[List.mem_singleton.mp hb];exact oK) (fun b hb=>by rw[List.mem_singleton.mp hb];exact k1) (fun b o hb q=>zbN (by simpa using hb) q) I.bare
 have lD1:zfc {s with heap:=s.heap.update kS (Obj.mapSeq fun _=>#[])} D [] e1:=zbN ne lD
 obtain⟨e',lD2⟩:=zec (us:=out) lD1 (fun _=>out.toArray) rfl
 have I2:=zaQ (h':=(s.heap.update kS (Obj.mapSeq fun _=>#[])).update D (Obj.mapSeq fun _=>out.toArray)) (g':=s.gens) (t':=s.toks) (d':=s.drawn) (ch:=[D]) I1 (fun b hb=>by rw[List.mem_singleton.mp hb];exact oD) (fun b hb=>by rw[List.mem_singleton.mp hb];exact d1) (fun b o hb q=>zbN (by simpa using hb) q) I.bare
 unfold ksk_tail
 rw[hout,hf]
 refine wpAny_bind (listUpdate_at lK rfl (wpAny_bind (wpAny_letGo (wpAny_bind (seqEpoch_at lD1 rfl (wpAny_bind (listUpdate_at lD1 rfl ?_ (by simp) (by simp only[Bool.false_eq_true,if_false,List.size_toArray,sizeLine_eq];omega))))))) (by rw[List.size_toArray,sizeLine_eq];omega) (by simp))
 simp only[bne_self_eq_false,Bool.false_eq_true,if_false]
 exact wpAny_pure (h _ ⟨H1,e',I2,x,d1,lD2⟩)
end
end R
end
section
namespace R
open PySem PySem.Spec PyProof.Rows L2
variable [Mks]
theorem zcl {α:Type}{xs:List α}{i:Nat}(d:α)(h:i<xs.length):xs[i]?=some (xs.getD i d):=by
 rw[List.getD_eq_getElem?_getD,List.getElem?_eq_getElem h];rfl
theorem zn1 {rows:List (Int × Int)}{M:Int}(hM:∀r∈rows,-M<=r.1/\r.1<=M)(nd:(rows.map (·.1)).Nodup){i j:Nat}(hi:i<rows.length)(hj:j<rows.length)(e:rkOf M (rows.getD i (0,0))=rkOf M (rows.getD j (0,0))):i=j:=by
 have mi:=List.mem_of_getElem? (zcl (0,0) hi)
 have mj:=List.mem_of_getElem? (zcl (0,0) hj)
 have n1:¬rkOf M (rows.getD i (0,0))<rkOf M (rows.getD j (0,0)):=by omega
 have n2:¬rkOf M (rows.getD j (0,0))<rkOf M (rows.getD i (0,0)):=by omega
 rw[zjl (hM _ mi) (hM _ mj)] at n1
 rw[zjl (hM _ mj) (hM _ mi)] at n2
 have e1:(rows.getD i (0,0)).1=(rows.getD j (0,0)).1:=by omega
 have hi':i<(rows.map (·.1)).length:=by simpa using hi
 have hj':j<(rows.map (·.1)).length:=by simpa using hj
 have a1:(rows.map (·.1))[i]=(rows.map (·.1))[j]:=by
  have q1:rows.getD i (0,0)=rows[i]:=by simp[hi]
  have q2:rows.getD j (0,0)=rows[j]:=by simp[hj]
  rw[q1,q2] at e1
  simpa using e1
 have pw:=List.pairwise_iff_getElem.mp nd
 rcases Nat.lt_trichotomy i j with z|z|z
 · exact absurd a1 (pw i j _ _ z)
 · exact z
 · exact absurd a1.symm (pw j i _ _ z)
section
variable {X:Cx} {pins:List (Addr × Obj)} {σ:L2.St} {H:Hp} {s:Shared} {A':Around} {D kS f:Addr} {rows:List (Int × Int)} {name qual:Str} {params:Arguments} {body:Expr} {scope:Scope}
structure Plc (rows:List (Int × Int)) (p:List Nat):Prop where
 lt:∀i∈p,i<rows.length
 eq:(p.map fun i=>rows.getD i (0,0))=za0 rows
 perm:p.Perm (List.range rows.length)
theorem zo1 {vs:List Value}{e1:Nat}{P:PySem.Fin->Shared->Prop}{E:Value->Shared->Prop}(hl:vs.length=rows.length)(h64:rows.length<64)(nd:(rows.map (·.1)).Nodup)(oD:Own X pins D)(oK:Own X pins kS)(ne:D≠kS)
  (J:KJ X pins σ H D kS e1 rows rows.length s) (h:∀p s',Plc rows p->KEnd X pins σ H D (p.map fun i=>vs.getD i Value.none) s'->P (.done (.ret .none)) s') :
  wpAny (model X.prog X.w) A' (Builtin.List.listItems (.ref kS) >>= fun keys=>ksk_end D false vs.toArray e1 (.ref kS) keys) P E s:=by
 obtain⟨H1,ks,e,I,x,d1,k1,lD,lK,kl⟩:=id J.ex
 refine wpAny_bind (listItems_at lK rfl ?_)
 unfold ksk_end
 simp only[Bool.false_eq_true,if_false]
 have klen:ks.length=vs.length:=by rw[kl.len,hl]
 by_cases h2:vs.toArray.size<2
 · rw[if_pos h2,if_pos h2]
   have h2':rows.length<2:=by rw[<-hl];simpa using h2
   refine wpAny_bind (wpAny_pure (wpAny_bind ?_))
   rw[StateT.run_pure]
   have eo:(arrOf (SortSt.mk' general' (ks.toArray.zip vs.toArray) #[] 7 none)).map (·.2)=vs.toArray:=by
    show ((ks.toArray.zip vs.toArray).map (·.2))=vs.toArray
    apply Array.toList_inj.mp
    rw[Array.toList_map,ksk_zip]
    show (ks.zip vs).map Prod.snd=vs
    exact List.map_snd_zip (by omega)
   have er:((List.range rows.length).map fun i=>vs.getD i Value.none)=vs:=by
    apply List.ext_getElem
    · simp[hl]
    · intro i g1 g2;simp[g2]
   refine wpAny_pure (zhj (i:=rows.length) eo (by omega) h64 rfl oD oK ne J fun s' K=>h (List.range rows.length) s' ⟨fun i hi=>List.mem_range.mp hi,?_,List.Perm.refl _⟩ (by rw[er];exact K))
   refine zf5 (zgf _ (List.Perm.refl _)) ?_
   rw[List.pairwise_map,List.pairwise_iff_getElem]
   intro i j hi hj hij
   simp at hi hj
   omega
 · have h2':2<=vs.length:=by simpa using h2
   rw[if_neg h2,if_neg h2]
   have hk:∀k∈ks,∃b x y,k=Value.ref b/\H1 b=some (.tup [.int x,.int y]):=fun k hm=>by
    obtain⟨j,hj⟩:=List.mem_iff_getElem?.mp hm
    obtain⟨b,r,_,q1,q2⟩:=kl.at_ j k hj
    exact⟨b,_,_,q1,q2⟩
   refine wpAny_bind (zjZ I.hok hk (by omega) ?_)
   obtain⟨M,hM⟩:=zga rows
   refine wpAny_bind (wpAny_mono (W.kat_run (Q:=fun st' s'=>∃p:Array Nat,GP rows.length p/\AscTo (fun i=>rkOf M (rows.getD i (0,0))) p rows.length/\s'=s/\arrOf st'=p.map (W.kas_item (ks.toArray.zip vs.toArray))/\failedOf st'=none)
    (G:=fun p s'=>GP rows.length p/\AscTo (fun i=>rkOf M (rows.getD i (0,0))) p rows.length/\s'=s) klen h2' (by omega) (fun p st' s' _ a2 a3 a4=>⟨p,a4.1,a4.2.1,a4.2.2,a2,a3⟩) ?_) ?_ fun _ _ z=>z)
   · rw[hl]
     refine zlt (r:=fun i=>rkOf M (rows.getD i (0,0))) (fun i j hi hj e=>zn1 hM nd hi hj e) (fun i j C hi hj hC=>?_) (by omega) fun p g a=>⟨g,a,rfl⟩
     obtain⟨b,r,b1,b2,b3⟩:=kl.at_ i _ (zcl Value.none (by omega))
     obtain⟨c,r',c1,c2,c3⟩:=kl.at_ j _ (zcl Value.none (by omega))
     have er:rows.getD i (0,0)=r:=by rw[List.getD_eq_getElem?_getD,b1];rfl
     have er':rows.getD j (0,0)=r':=by rw[List.getD_eq_getElem?_getD,c1];rfl
     show wpAny (model X.prog X.w) A' (keyLt' (tuples' true) (ks.getD i Value.none) (ks.getD j Value.none)) C (fun _ _=>False) s
     rw[b2,c2]
     refine zoN I.hok b3 c3 ?_
     have:decide (-r.2 < -r'.2\/(-r.2 = -r'.2/\r.1<r'.1))=decide (rkOf M r<rkOf M r'):=by
      have q:=zjl (hM r (List.mem_of_getElem? b1)) (hM r' (List.mem_of_getElem? c1))
      by_cases z:rkOf M r<rkOf M r'
      · rw[decide_eq_true z];exact decide_eq_true (by have:=q.mp z;omega)
      · rw[decide_eq_false z];exact decide_eq_false fun w=>z (q.mpr (by omega))
     rw[this]
     (try dsimp only at hC)
     rw[er,er'] at hC
     exact hC
   · rintro⟨⟨⟩,st'⟩ s' ⟨p,g,a,rfl,ar,fl⟩
     refine zhj (i:=rows.length) (W.kat_snds klen ar) ?_ h64 fl oD oK ne J fun s' K=>h p.toList s' ⟨fun i hi=>List.mem_range.mp (g.list.mem_iff.mp hi),zkp hM g a,g.list⟩ K
     rw[List.length_map,Array.length_toList,g.size];exact h64
theorem zlM {as:List Addr}{e1:Nat}{P:PySem.Fin->Shared->Prop}{E:Value->Shared->Prop}(hr:Room 2 A')(e0:∀H s,Inv X pins σ H s->Env0 X.prog X.w X.K X.mg X.base A' X.stack s H)(L:LamAt H f name qual params body scope)(hs:FnScope ["row"] ["row"] scope)
  (hb:∀(pm cd ct u:Value),bindArgs (W.kla_fn name qual params body scope [] pm cd ct) ⟨[u],[]⟩=pure [(("row":Str),u)]) (ck:chkE zbm zcQ ["row"] scope body=true) (tb:TB H)
  (hl:as.length=rows.length) (h64:rows.length<64) (nd:(rows.map (·.1)).Nodup) (oD:Own X pins D) (oK:Own X pins kS) (ne:D≠kS) (ha:∀(j:Nat) (a:Addr),as[j]?=some a->∃r:Int × Int,rows[j]?=some r/\H a=some (.tup [.int r.1,.int r.2]))
  (J:KJ X pins σ H D kS e1 rows 0 s) (h:∀p s',Plc rows p->KEnd X pins σ H D (p.map fun i=>(as.map Value.ref).getD i Value.none) s'->P (.done (.ret .none)) s') :
  wpAny (model X.prog X.w) A' (ksk_rest D (.ref f) false (as.map Value.ref).toArray e1 (.ref kS)) P E s:=by
 unfold ksk_rest
 refine wpAny_bind (wpAny_rule ?_)
 rw[List.forIn_toArray]
 refine wpAny_bind (ksk_fold (fun i s'=>KJ X pins σ H D kS e1 rows i s') (as.map Value.ref) 0 s J (fun j v s' hj J'=>?_) fun s' J'=>?_)
 · rw[List.getElem?_map] at hj
   cases ej:as[j]? with
   |none=>rw[ej] at hj;cases hj
   | some a =>
     rw[ej] at hj;cases hj
     obtain⟨r,hr1,hr2⟩:=ha j a ej
     have hlt:=(List.getElem?_eq_some_iff.mp hr1).1
     rw[Nat.zero_add] at J'⊢
     exact wpAny_mono (zmp hr e0 L hs hb ck tb oD oK ne hr2 hr1 (by omega) J' (items:=(as.map Value.ref).toArray)) (fun _ _ z=>z) fun _ _ z=>z.elim
 · rw[Nat.zero_add,List.length_map,hl] at J'
   exact zo1 (vs:=as.map Value.ref) (by simpa using hl) h64 nd oD oK ne J' h
theorem zlf {as:List Addr}{n0:Nat}{P:PySem.Fin->Shared->Prop}{E:Value->Shared->Prop}(I:Inv X pins σ H s)(hr:Room 2 A')(e0:∀H s,Inv X pins σ H s->Env0 X.prog X.w X.K X.mg X.base A' X.stack s H)(L:LamAt H f name qual params body scope)(hs:FnScope ["row"] ["row"] scope)
  (hb:∀(pm cd ct u:Value),bindArgs (W.kla_fn name qual params body scope [] pm cd ct) ⟨[u],[]⟩=pure [(("row":Str),u)]) (ck:chkE zbm zcQ ["row"] scope body=true) (tb:TB H)
  (hl:as.length=rows.length) (h64:rows.length<64) (nd:(rows.map (·.1)).Nodup) (oD:Own X pins D) (d0:H D=none) (lD:zfc s D (as.map Value.ref) n0) (ha:∀(j:Nat) (a:Addr),as[j]?=some a->∃r:Int × Int,rows[j]?=some r/\H a=some (.tup [.int r.1,.int r.2]))
  (h:∀p s',Plc rows p->KEnd X pins σ H D (p.map fun i=>(as.map Value.ref).getD i Value.none) s'->P (.done (.ret .none)) s'):wpAny (model X.prog X.w) A' (ksk_tree D (.ref f) false) P E s:=by
 obtain⟨e1,l1⟩:=zec (us:=[]) lD (fun _=>#[]) rfl
 have hD:D<s.heap.objs.size:=Heap.lt_size lD
 have I1:=zaQ (h':=s.heap.update D (Obj.mapSeq fun _=>#[])) (g':=s.gens) (t':=s.toks) (d':=s.drawn) (ch:=[D]) I (fun b hb=>by rw[List.mem_singleton.mp hb];exact oD) (fun b hb=>by rw[List.mem_singleton.mp hb];exact d0) (fun b o hb q=>zbN (by simpa using hb) q) I.bare
 have kp:∀(o1 o2:Obj) b o,(s.heap.update D (Obj.mapSeq fun _=>#[])).get? b=some o->(((s.heap.update D (Obj.mapSeq fun _=>#[])).push o1).push o2).get? b=some o:=fun o1 o2 b o q=>Heap.get?_push_of_some _ (Heap.get?_push_of_some _ q)
 have sz:∀o1:Obj,((s.heap.update D (Obj.mapSeq fun _=>#[])).push o1).objs.size=s.heap.objs.size+1:=fun o1=>by rw[size_push',Heap.size_update]
 have hlen:(as.map Value.ref).length<64:=by rw[List.length_map,hl];exact h64
 unfold ksk_tree
 refine wpAny_bind (listItems_at lD rfl (wpAny_bind (listUpdate_at lD rfl (wpAny_bind (seqEpoch_at l1 rfl (wpAny_bind (wpAny_newTuple (wpAny_bind (wpAny_newList (wpAny_holding ?_) (Nat.zero_le _))) (by rw[sizeLine_eq];show (as.map Value.ref).length<=_;omega))))) (by rw[List.size_toArray,sizeLine_eq];omega) (Nat.zero_le _))))
 have I2:=zaQ (h':=((s.heap.update D (Obj.mapSeq fun _=>#[])).push (seqObj "tuple" (as.map Value.ref).toArray 0)).push (seqObj "list" #[] 0)) (g':=s.gens) (t':=s.toks) (d':=s.drawn) (ch:=[]) I1 (fun b hb=>by cases hb) (fun b hb=>by cases hb) (fun b o _ q=>kp _ _ b o q) I.bare
 have oK:Own X pins ((s.heap.update D (Obj.mapSeq fun _=>#[])).push (seqObj "tuple" (as.map Value.ref).toArray 0)).objs.size:=by
  rw[sz]
  exact Own.fresh I (Nat.le_succ _)
 refine zlM (kS:=((s.heap.update D (Obj.mapSeq fun _=>#[])).push (seqObj "tuple" (as.map Value.ref).toArray 0)).objs.size) hr e0 L hs hb ck tb hl h64 nd oD oK (by rw[sz];exact Nat.ne_of_lt (Nat.lt_succ_of_lt hD)) ha ?_ h
 exact⟨H,[],0,I2,Ext.refl _ _,d0,I.hok.fresh (by rw[sz];exact Nat.le_succ _),kp _ _ _ _ l1,Heap.get?_push_size _ rfl,rfl,fun j k hj=>by simp at hj⟩
end
end R
end
section
namespace R
open PySem PySem.Spec PyProof.Rows L2
variable [Mks]
section
variable {X:Cx} {pins:List (Addr × Obj)} {σ:L2.St} {H H':Hp} {s:Shared} {b:Addr} {o:HO}
theorem ziC (hn:H b=none):Ext [] H [] (upd H b o):=
 ⟨List.prefix_refl _,Kp.new hn o,fun a u _ e=>⟨.inl (by rw[zae (zaj e hn)];exact e),by simp⟩⟩
theorem zdE:∀(as:List Addr) (rows:List (Int × Int)) {H:Hp},Inv X pins σ H s->as.length=rows.length->as.Pairwise (· < ·)->(∀a∈as,Own X pins a/\H a=none)->
  (∀(j:Nat) (a:Addr),as[j]?=some a->∃(r:Int × Int) (t u:Tok),rows[j]?=some r/\s.heap.get? a=some {cls:=.type "tuple",data:=.seq #[.int r.1 t,.int r.2 u]})->
  ∃H',Inv X pins σ H' s/\Ext [] H [] H'/\(∀c,c∉as->H' c=H c)/\∀(j:Nat) (a:Addr),as[j]?=some a->∃r:Int × Int,rows[j]?=some r/\H' a=some (.tup [.int r.1,.int r.2])
 | [],rows,H,I,hl,_,_,_=>⟨H,I,Ext.refl _ _,fun c _=>rfl,fun j a e=>by simp at e⟩
 |a::as,[],H,I,hl,_,_,_=>by simp at hl
 | a :: as, r :: rows, H, I, hl, hp, ho, hq => by
   obtain⟨oa,na⟩:=ho a List.mem_cons_self
   obtain⟨r',t,u,e1,e2⟩:=hq 0 a rfl
   cases e1
   have hp':=List.pairwise_cons.mp hp
   have I1:Inv X pins σ (upd H a (.tup [.int r.1,.int r.2])) s:=zbE I oa na ⟨by simp[sizeLine_eq],[.int r.1 t,.int r.2 u],.cons ⟨t,rfl⟩ (.cons ⟨u,rfl⟩ .nil),_,e2,rfl,_,rfl⟩
   obtain⟨H',J,x,k,q⟩:=zdE as rows I1 (by simpa using hl) hp'.2 (fun c hc=>⟨(ho c (List.mem_cons_of_mem _ hc)).1,by
    rw[zae (Nat.ne_of_gt (hp'.1 c hc))];exact (ho c (List.mem_cons_of_mem _ hc)).2⟩) fun j c e=>hq (j+1) c (by simpa using e)
   refine⟨H',J,(ziC na).trans x,fun c hc=>?_,fun j c e=>?_⟩
   · rw[k c (fun z=>hc (List.mem_cons_of_mem _ z)),zae (fun z=>hc (by rw[z];exact List.mem_cons_self))]
   · cases j with
     |zero=>cases e;exact⟨r,rfl,x.kp.tups _ _ zai⟩
     |succ j=>exact q j c (by simpa using e)
end
noncomputable def zbb (rows:List (Int × Int)):List (Key × V):=rows.map fun r=>(.inl r.1,.int r.2)
theorem zib:∀{rows:List (Int × Int)} {vs:List (Key × Value)},KV (zbb rows) vs->vs.length=rows.length/\∀(j:Nat) k v,vs[j]?=some (k,v)->∃(r:Int × Int) (t:Tok),rows[j]?=some r/\k=.inl r.1/\v=.int r.2 t
 | [], vs, h => by
   cases h
   exact⟨rfl,fun j k v e=>by simp at e⟩
 | r :: rows, vs, h => by
   cases h with
   | cons h1 h2 =>
     rename_i q vs
     obtain⟨a,c⟩:=zib h2
     refine⟨by simp[a],fun j k v e=>?_⟩
     cases j with
     | zero =>
       cases e
       obtain⟨e1,t,e2⟩:=h1
       exact⟨r,t,rfl,e1.symm,e2⟩
     |succ j=>exact c j k v (by simpa using e)
section
variable {X:Cx} {pins:List (Addr × Obj)} {σ:L2.St} {H:Hp} {s:Shared} {d r f:Addr} {rows:List (Int × Int)} {name qual:Str} {params:Arguments} {body:Expr} {scope:Scope}
structure Tld (X:Cx) (pins:List (Addr × Obj)) (σ:L2.St) (H:Hp) (rows:List (Int × Int)) (D:Addr) (s':Shared):Prop where
 ex:∃(H':Hp) (ts:List Addr),Inv X pins σ H' s'/\Ext [] H [] H'/\H D=none/\H' D=some (.lst (ts.map V.ref))/\ts.length=rows.length/\∀(j:Nat) (t:Addr),ts[j]?=some t->∃q:Int × Int,(za0 rows)[j]?=some q/\H' t=some (.tup [.int q.1,.int q.2])
theorem zhn {Q:Value->Shared->Prop}{E:Value->Shared->Prop}(I:Inv X pins σ H s)(hh:X.A.handled=none)(hr:Room 2 X.A.in1.in1)(L:LamAt H f name qual params body scope)(hs:FnScope ["row"] ["row"] scope)
  (hb:∀(pm cd ct u:Value),bindArgs (W.kla_fn name qual params body scope [] pm cd ct) ⟨[u],[]⟩=pure [(("row":Str),u)]) (ck:chkE zbm zcQ ["row"] scope body=true) (tb:TB H)
  (hd:H d=some (.dK (zbb rows))) (hv:s.heap.IsItemsView r d) (h64:rows.length<64) (q:∀D s',Tld X pins σ H rows D s'->Q (.ref D) s') :
  wpAny (model X.prog X.w) X.A (call (.builtin "sorted") [.ref r] [(Str.ofString "key",.ref f)]) Q E s:=by
 obtain⟨_,hsys,vs,kv,od,es,ep,ho,hex,hda,hko,hpr,hnd⟩:=I.hok d _ hd
 obtain⟨vlen,vat⟩:=zib kv
 have hm:s.heap.DictAt (zap X.prog X.w) d vs ep:=⟨od,es,ho,hex,hda,hko,hpr,hnd⟩
 refine call_function_entry_kw kind_sorted plain_sorted entry_sorted (ksk_s1 _ _) ?_
 unfold Builtin.«sorted»
 refine wpAny_bind (m:=checkCount "sorted" 1 1 _) (wpAny_pure (wpAny_bind ?_))
 refine W.kdx_collect (A:=X.A.in1) (knd:=zap X.prog X.w) (kvs:=vs) (ep:=ep) hh hv hm (by rw[vlen,sizeLine_eq];omega) fun h1 tk as keep alen kg=>?_
 have I1:Inv X pins σ H {s with heap:=h1,toks:=tk}:=zaQ (g':=s.gens) (t':=tk) (d':=s.drawn) (ch:=[]) I (fun b hb=>by cases hb) (fun b hb=>by cases hb) (fun b o _ e=>keep b o e) I.bare
 have pairs:∀(j:Nat) (a:Addr),as[j]?=some a->∃(p:Int × Int) (t u:Tok),rows[j]?=some p/\h1.get? a=some {cls:=.type "tuple",data:=.seq #[.int p.1 t,.int p.2 u]}:=fun j a ha=>by
  obtain⟨key,k,x,e1,e2,e3⟩:=kg.pairs j a ha
  obtain⟨p,t,p1,p2,p3⟩:=vat j k x e1
  subst p2 p3
  rw[zgU] at e2
  rcases zaE e2 with ⟨i,u,z1,z2⟩|⟨x',u,z1,z2⟩
  · cases z1
    subst z2
    exact⟨p,u,t,p1,e3⟩
  · cases z1
 obtain⟨H1,I2,x1,out1,rowsAt⟩:=zdE (s:={s with heap:=h1,toks:=tk}) as rows I1 (by rw[alen,vlen]) kg.rise (fun a ha=>⟨Own.fresh I (Nat.le_of_lt (kg.above a ha)),I.hok.fresh (Nat.le_of_lt (kg.above a ha))⟩) pairs
 have alen':as.length=rows.length:=by rw[alen,vlen]
 refine wpAny_bind (wpAny_newList ?_ (by rw[List.length_map,alen',sizeLine_eq];omega))
 have I3:Inv X pins σ H1 {s with heap:=h1.push (seqObj "list" (as.map Value.ref).toArray 0),toks:=tk}:=zaQ (s:={s with heap:=h1,toks:=tk}) (g':=s.gens) (t':=tk) (d':=s.drawn) (ch:=[]) I2 (fun b hb=>by cases hb) (fun b hb=>by cases hb) (fun b o _ e=>Heap.get?_push_of_some _ e) I.bare
 have lD:zfc {s with heap:=h1.push (seqObj "list" (as.map Value.ref).toArray 0),toks:=tk} h1.objs.size (as.map Value.ref) 0:=Heap.get?_push_size _ rfl
 have oD:Own X pins h1.objs.size:=Own.fresh I2 (Nat.le_refl _)
 have dN:H1 h1.objs.size=none:=I2.hok.fresh (Nat.le_refl _)
 have dN0:H h1.objs.size=none:=I1.hok.fresh (Nat.le_refl _)
 refine wpAny_bind (wpAny_holding (wpAny_call_entry_kw slot_list_sort ⟨_,lD,rfl⟩ entry_list_sort ?_ (ksk_l1 _ _)))
 refine zlf (D:=h1.objs.size) (as:=as) (rows:=rows) I3 hr (fun H s J=>J.env0.in1.in1) (L.up x1.kp) hs hb ck (x1.kp.tab tb) alen' h64 ?_ oD dN lD rowsAt fun p s' pl ke=>⟨_,rfl,?_⟩
 · have hn:(vs.map (·.1)).Nodup:=hnd
   have e:(vs.map (·.1))=(rows.map (·.1)).map Sum.inl:=by
    apply List.ext_getElem
    · simp[vlen]
    · intro i g1 g2
      have gi:i<vs.length:=by simpa using g1
      obtain⟨p,t,p1,p2,p3⟩:=vat i vs[i].1 vs[i].2 (by rw[List.getElem?_eq_getElem gi])
      have gr:i<rows.length:=by omega
      rw[List.getElem?_eq_getElem gr] at p1
      cases p1
      simpa using p2
   rw[e] at hn
   rw[List.nodup_iff_pairwise_ne,List.pairwise_map] at hn
   exact hn.imp fun h z=>h (by rw[z])
 · refine wpAny_pure ⟨_,rfl,q _ s' ?_⟩
   obtain⟨H2,e,J,x2,dN2,lst⟩:=ke.ex
   have eo:(p.map fun i=>(as.map Value.ref).getD i Value.none)=(p.map fun i=>as.getD i 0).map Value.ref:=by
    rw[List.map_map]
    refine List.map_congr_left fun i hi=>?_
    have:=pl.lt i hi
    have gi:i<as.length:=by omega
    simp[gi]
   rw[eo] at lst
   have plen:p.length=rows.length:=by rw[pl.perm.length_eq];simp
   have tup2:∀(j:Nat) (t:Addr),(p.map fun i=>as.getD i 0)[j]?=some t->∃q:Int × Int,(za0 rows)[j]?=some q/\H2 t=some (.tup [.int q.1,.int q.2]):=fun j t hj=>by
    rw[List.getElem?_map] at hj
    cases ej:p[j]? with
    |none=>rw[ej] at hj;cases hj
    | some i =>
      rw[ej] at hj
      cases hj
      have hi:=pl.lt i (List.mem_of_getElem? ej)
      obtain⟨w,w1,w2⟩:=rowsAt i (as.getD i 0) (zcl 0 (by omega))
      refine⟨w,?_,x2.kp.tups _ _ w2⟩
      rw[<-pl.eq,List.getElem?_map,ej]
      show some (rows.getD i (0,0))=some w
      rw[List.getD_eq_getElem?_getD,w1]
      rfl
   have dne:∀t o,H2 t=some o->t≠h1.objs.size:=fun t o h=>zaj h dN2
   refine⟨upd H2 h1.objs.size (.lst ((p.map fun i=>as.getD i 0).map V.ref)),p.map fun i=>as.getD i 0,zbE J oD dN2 ⟨by simp[plen,sizeLine_eq];omega,_,e,?_,lst⟩,(x1.trans x2).trans (ziC dN2),dN0,zai,by simp[plen],fun j t hj=>?_⟩
   · generalize (p.map fun i=>as.getD i 0)=ts
     induction ts with
     |nil=>exact .nil
     |cons t ts ih=>exact .cons rfl ih
   · obtain⟨w,w1,w2⟩:=tup2 j t hj
     exact⟨w,w1,by rw[zae (dne t _ w2)];exact w2⟩
end
end R
end
section
namespace R
open PySem PySem.Spec PyProof.Rows L2
variable [Mks]
section
variable {X:Cx} {pins:List (Addr × Obj)} {σ:L2.St} {H:Hp} {s:Shared} {c P:Addr} {params:Arguments} {body:Expr} {scope:Scope} {lpos:Pos}
theorem zjX {Q:Value->Shared->Prop}{E:Value->Shared->Prop}(I:Inv X pins σ H s)(bm:BM X.mg X.base)(hcode:X.env.code=.ref c)(hC:W.codeHdIn X.K c P=true)(tb:TabIn H P (X.env.qual ++ "<lambda>"))
  (hdef:defaultsOf params X.env=([],[])) (hcl:closureFor scope X.env=pure [])
  (q:∀f H' s',Inv X pins σ H' s'->LamAt H' f "<lambda>" (X.env.qual ++ "<lambda>") params body scope->TabIn H' P (X.env.qual ++ "<lambda>")->StepT P H H'->Q (.ref f) s') :
  wpAny (model X.prog X.w) X.A (eval (.Lambda params body scope lpos) X.env) Q E s:=by
 obtain⟨ps,h1,h2,h3⟩:=tb
 have C:=W.codeHd_of_K I.kIn hC
 have hP:s.heap.get? P=some (W.tabObj ps):=I.hok P _ h1
 have hb:=bm.at_ I h1
 have hg:s.heap.Ns mainGlobals X.mg:=I.mod.glob.keeps I.bk
 have hPl:P<s.heap.objs.size:=Heap.lt_size hP
 refine W.kla_eval hdef ?_
 cases hf:codeAmong lpos ps.toList with
 | some cv =>
   obtain⟨c',oc,vs,t,rfl,a2,a3,a4⟩:=h3 lpos cv hf
   refine W.kla_makeFunctionHit hcl I.ok.glob hg hcode C hP h2 hf hb fun ctv h' tk hk hsz=>?_
   have hn:H h'.objs.size=none:=I.hok.fresh hsz
   have ow:Own X pins h'.objs.size:=Own.fresh I hsz
   have I1:Inv X pins σ H {s with heap:=h'.push (W.kla_obj "<lambda>" (X.env.qual ++ "<lambda>") params body scope [] ((X.mg "__name__").getD .none) c' ctv),toks:=tk}:=
    zaQ (g':=s.gens) (t':=tk) (d':=s.drawn) (ch:=[]) I (fun b hb=>by cases hb) (fun b hb=>by cases hb) (fun b o _ e=>Heap.get?_push_of_some _ (hk b o e)) I.bare
   have I2:=zbE (o:=.frz (W.kla_obj "<lambda>" (X.env.qual ++ "<lambda>") params body scope [] ((X.mg "__name__").getD .none) c' ctv) (.own 0)) I1 ow hn ⟨Heap.get?_push_size _ rfl,_,Heap.get?_push_size _ rfl⟩
   have st:∀a o,H a=some o->upd H h'.objs.size (.frz (W.kla_obj "<lambda>" (X.env.qual ++ "<lambda>") params body scope [] ((X.mg "__name__").getD .none) c' ctv) (.own 0)) a=some o:=fun a o e=>by rw[zae (zaj e hn)];exact e
   refine q _ _ _ I2 ⟨_,ctv,c',oc,vs,t,zai,st _ _ a2,a3,a4⟩ ?_ ⟨fun a o _ e=>st a o e,fun ps' e=>⟨#[],by rw[st _ _ e];simp⟩⟩
   exact TabIn.up ⟨ps,h1,h2,h3⟩ (by rw[st _ _ h1,h1]) fun b o u e=>st _ _ e
 | none =>
   have hgP:mainGlobals≠P:=fun z=>by
    obtain⟨o,es,ep,e,hd,_⟩:=hg
    rw[z,hP] at e;cases e;cases hd
   refine W.kla_makeFunction hcl I.ok.glob hg hcode C hP h2 hf hgP hb fun c' ctv h' tk hx hge hlt hrec htb=>?_
   obtain⟨c2,oc,vs,t,e2,hoc,hd,hv⟩:=hrec
   cases e2
   generalize hfo:W.kla_obj "<lambda>" (X.env.qual ++ "<lambda>") params body scope [] ((X.mg "__name__").getD .none) c' ctv=fo
   have hfr:(h'.push fo).get? h'.objs.size=some fo:=by rw[<-hfo];exact Heap.get?_push_size _ rfl
   have hfn:H h'.objs.size=none:=I.hok.fresh (Nat.le_trans hge (Nat.le_of_lt hlt))
   have hcn:H c'=none:=I.hok.fresh hge
   have nPc:P≠c':=Nat.ne_of_lt (Nat.lt_of_lt_of_le hPl hge)
   have nPf:P≠h'.objs.size:=Nat.ne_of_lt (Nat.lt_trans (Nat.lt_of_lt_of_le hPl hge) hlt)
   have ncf:c'≠h'.objs.size:=Nat.ne_of_lt hlt
   have st:∀a o,a≠P->H a=some o->upd (upd (upd H P (.tbl (ps ++ #[rawInt lpos.line,rawInt lpos.col,.ref c']))) c' (.frz oc (.own 0))) h'.objs.size (.frz fo (.own 0)) a=some o:=fun a o n e=>by
    rw[zae (zaj e hfn),zae (zaj e hcn),zae n];exact e
   have atP:upd (upd (upd H P (.tbl (ps ++ #[rawInt lpos.line,rawInt lpos.col,.ref c']))) c' (.frz oc (.own 0))) h'.objs.size (.frz fo (.own 0)) P=some (.tbl (ps ++ #[rawInt lpos.line,rawInt lpos.col,.ref c'])):=by
    rw[zae nPf,zae nPc,zai]
   have atC:upd (upd (upd H P (.tbl (ps ++ #[rawInt lpos.line,rawInt lpos.col,.ref c']))) c' (.frz oc (.own 0))) h'.objs.size (.frz fo (.own 0)) c'=some (.frz oc (.own 0)):=by
    rw[zae ncf,zai]
   have hno:∀a,H a=none->a≠P:=fun a e z=>by rw[z,h1] at e;cases e
   have keep:∀b o,b≠P->s.heap.get? b=some o->(h'.push fo).get? b=some o:=fun b o n e=>Heap.get?_push_of_some _ (hx b o n e)
   have inv:Inv X pins σ (upd (upd (upd H P (.tbl (ps ++ #[rawInt lpos.line,rawInt lpos.col,.ref c']))) c' (.frz oc (.own 0))) h'.objs.size (.frz fo (.own 0))) {s with heap:=h'.push fo,toks:=tk}:=by
    refine I.call (g':=s.gens) (t':=tk) (d':=s.drawn) (ch:=[]) ⟨fun b o e n _ _=>keep b o (hno b n) e,fun b o e n _ _=>⟨o.slots,keep b o (hno b n) e⟩,fun b o e n _=>?_,fun b o e _=>?_,fun b xs e=>?_,fun b o u e=>?_,fun b ps' e=>?_⟩ ?_ I.bare (fun b hb=>by cases hb)
    · have hb:=Heap.lt_size e
      rw[zae (Nat.ne_of_lt (Nat.lt_trans (Nat.lt_of_lt_of_le hb hge) hlt)),zae (Nat.ne_of_lt (Nat.lt_of_lt_of_le hb hge)),zae (hno b n)];exact n
    · by_cases z:b=P
      · subst z;exact⟨_,Heap.get?_push_of_some _ htb⟩
      · exact⟨o,keep b o z e⟩
    · exact st b _ (fun z=>by rw[z,h1] at e;cases e) e
    · exact st b _ (fun z=>by rw[z,h1] at e;cases e) e
    · by_cases z:b=P
      · subst z;rw[h1] at e;cases e;exact⟨_,atP⟩
      · exact⟨#[],by rw[st b _ z e];simp⟩
    · intro a u e
      by_cases zf:a=h'.objs.size
      · subst zf;rw[zai] at e;cases e;exact⟨hfr,_,hfr⟩
      · rw[zae zf] at e
        by_cases zc:a=c'
        · subst zc;rw[zai] at e;cases e;exact⟨Heap.get?_push_of_some _ hoc,_,Heap.get?_push_of_some _ hoc⟩
        · rw[zae zc] at e
          by_cases zp:a=P
          · subst zp;rw[zai] at e;cases e;exact Heap.get?_push_of_some _ htb
          · rw[zae zp] at e
            refine (I.hok a u e).stay (fun b o hb e'=>keep b o ?_ e') (fun b e'=>st b _ (fun z=>by rw[z,h1] at e';cases e') e') fun b xs e'=>st b _ (fun z=>by rw[z,h1] at e';cases e') e'
            rcases hb with rfl|hb
            · exact zp
            · intro z;rw[z,h1] at hb;cases hb
   refine q _ _ _ inv ⟨_,ctv,c',oc,vs,t,by rw[zai,<-hfo],atC,hd,hv⟩ ?_ ⟨fun a o n e=>st a o n e,fun ps' e=>by rw[h1] at e;cases e;exact⟨_,atP⟩⟩
   refine⟨_,atP,?_,fun pos v e=>?_⟩
   · have:=TriplesOk_snoc lpos.line lpos.col (.ref c') ps.toList h2
     simpa using this
   · have e':codeAmong pos (ps.toList++[rawInt lpos.line,rawInt lpos.col,.ref c'])=some v:=by simpa using e
     rcases zcn h2 e' with z|z
     · obtain⟨d,od,ws,u,a1,a2,a3⟩:=h3 pos v z
       exact⟨d,od,ws,u,a1,st _ _ (fun y=>by rw[y,h1] at a2;cases a2) a2,a3⟩
     · exact⟨c',oc,vs,t,z,atC,hd,hv⟩
end
end R
end
section
namespace R
open PySem PySem.Spec PyProof.Rows L2
variable [Mks]
structure M0 (X:Cx) (o:Expr) (m:Str) (apos cpos:Pos):Prop where
 base:attributeBase o m X.env (eval o X.env)=eval o X.env
 few:((backTo cpos (starEach [] X.env)).all (fun x=>!x.1)&&(backToKw cpos (keywordEach [] X.env)).all (fun x=>x.1.isSome)&&decide (([]:List Expr).length+([]:List Keyword).length+(if ([]:List Keyword).isEmpty then 0 else 1)<30))=true
 line:(apos.endLine == cpos.line)=true
noncomputable abbrev zcT (d:Addr):Obj:={cls:=.type "dict_items",data:=.fields #[.ref d]}
noncomputable def zhl (td:TE):TE:=fun σ H Q=>td σ H fun x H1=>∃d rows,x=.ref d/\H1 d=some (.dK (zbb rows))/\∀v,H1 v=none->Q (.ref v) (upd H1 v (.frz (zcT d) (.own 0)))
theorem zjD {X:Cx}{o:Expr}{apos cpos:Pos}{td:TE}(ho:PE X o td)(m:M0 X o "items" apos cpos):PE X (.Call (.Attribute o "items" apos) [] [] cpos) (zhl td):=by
 intro pins s σ H Q I h
 refine wpAny_Call_method m.base m.few m.line PySem.F.plainAttrs_dict PySem.F.slot_dict_items PySem.F.type_dict_items (thn (ho pins s σ H _ I h) fun u s1 ⟨x,H1,I1,rx,d,rows,ex,hd,q1⟩=>?_)
 subst ex
 obtain rfl:u=Value.ref d:=rx
 obtain⟨t1,t2,t3⟩:=zkS I1 (.inl ⟨_,.inl hd⟩)
 obtain⟨_,_,vs,_,hD⟩:=I1.hok d _ hd
 refine⟨t1,t2,?_⟩
 refine Calls.callWith_builtin rfl (PyProof.Rows.evalArgs_none ?_)
 refine PySem.call_meetsIn PySem.F.slot_dict_items hD.typeIs PySem.F.entry_dict_items (PySem.F.args_dict_items_1 _) (meets_dict_items (zap X.prog X.w) d t3) ⟨⟨vs,hD⟩,?_⟩
 have hn:H1 s1.heap.objs.size=none:=I1.hok.fresh (Nat.le_refl _)
 have I2:Inv X pins σ H1 {s1 with heap:=s1.heap.push (zcT d)}:=zaQ (g':=s1.gens) (t':=s1.toks) (d':=s1.drawn) (ch:=[]) I1 (fun b hb=>by cases hb) (fun b hb=>by cases hb) (fun b o _ e=>Heap.get?_push_of_some _ e) I1.bare
 have I3:=zbE (o:=.frz (zcT d) (.own 0)) I2 (Own.fresh I1 (Nat.le_refl _)) hn ⟨Heap.get?_push_size _ rfl,_,Heap.get?_push_size _ rfl⟩
 exact⟨.ref s1.heap.objs.size,_,I3,rfl,q1 _ hn⟩
noncomputable def zk5 (Q:VK)(w:V)(H1:Hp):Prop:=∃v d rows,w=.ref v/\H1 v=some (.frz (zcT d) (.own 0))/\H1 d=some (.dK (zbb rows))/\rows.length<64/\TB H1/\
 ∀(D:Addr) (H2:Hp) (ts:List Addr),Ext [] H1 [] H2->H1 D=none->H2 D=some (.lst (ts.map V.ref))->ts.length=rows.length->
  (∀(j:Nat) (t:Addr),ts[j]?=some t->∃r:Int × Int,(za0 rows)[j]?=some r/\H2 t=some (.tup [.int r.1,.int r.2]))->Q (.ref D) H2
noncomputable def znq (td:TE):TE:=fun σ H Q=>zhl td σ H (zk5 Q)
noncomputable def oneK (k:VK)(vs:List V)(H:Hp):Prop:=match vs with | [w]=>k w H|_=>False
theorem zgg {k:VK}{vs:List V}{H:Hp}(h:oneK k vs H):∃w,vs=[w]/\k w H:=by
 unfold oneK at h
 split at h
 · exact⟨_,rfl,h⟩
 · exact h.elim
theorem zhi {X:Cx}{pins:List (Addr × Obj)}{σ:L2.St}{H1 H2:Hp}{s2:Shared}{f v d:Addr}{q:Str}{params:Arguments}{body:Expr}{scope:Scope}{rows:List (Int × Int)}{Q:VK}(I2:Inv X pins σ H2 s2)(hu:Room 2 X.A.in1.in1)(hs:FnScope ["row"] ["row"] scope)
  (hb:∀(pm cd ct u:Value),bindArgs (W.kla_fn "<lambda>" q params body scope [] pm cd ct) ⟨[u],[]⟩=pure [(("row":Str),u)]) (ck:chkE zbm zcQ ["row"] scope body=true) (L:LamAt H2 f "<lambda>" q params body scope) (tb:TB H1) (x2:Ext [] H1 [] H2)
  (hv:H1 v=some (.frz (zcT d) (.own 0))) (hd:H1 d=some (.dK (zbb rows))) (h64:rows.length<64)
  (q1:∀(D:Addr) (H2:Hp) (ts:List Addr),Ext [] H1 [] H2->H1 D=none->H2 D=some (.lst (ts.map V.ref))->ts.length=rows.length->(∀(j:Nat) (t:Addr),ts[j]?=some t->∃r:Int × Int,(za0 rows)[j]?=some r/\H2 t=some (.tup [.int r.1,.int r.2]))->Q (.ref D) H2) :
  wpAny (model X.prog X.w) X.A (call (.builtin "sorted") [.ref v] [(Str.ofString "key",.ref f)]) (EP X pins σ Q) X.xe s2:=by
 have hv2:=x2.keep (by simp) hv (by simp)
 have hd2:=x2.keep (by simp) hd (by simp)
 have vw:s2.heap.IsItemsView v d:=⟨_,(I2.hok v _ hv2).1,rfl,rfl⟩
 refine zhn I2 hu.hd hu L hs hb ck (x2.kp.tab tb) hd2 vw h64 fun D s3 tl=>?_
 obtain⟨H3,ts,I3,x3,dn,dl,tl,tt⟩:=tl.ex
 refine⟨.ref D,H3,I3,rfl,q1 D H3 ts (x2.trans x3) ?_ dl tl tt⟩
 cases e:H1 D with
 |none=>rfl
 | some o =>
   exfalso
   have:=(x2.rest D o (by simp) e).1
   rw[dn] at this
   rcases this with z|⟨_,_,z⟩<;>cases z
noncomputable def tLam (q:Str)(params:Arguments)(body:Expr)(scope:Scope):TE:=fun σ H Q=>TB H/\∀f H',LamAt H' f "<lambda>" q params body scope->Ext [] H [] H'->Q (.ref f) H'
section
variable {X:Cx} {o:Expr} {p apos cpos kpos lpos pos:Pos} {td:TE} {c P:Addr} {params:Arguments} {body:Expr} {scope:Scope}
structure Maker (X:Cx) (c P:Addr):Prop where
 bm:BM X.mg X.base
 code:X.env.code=.ref c
 hd:W.codeHdIn X.K c P=true
 mem:(P,X.env.qual ++ "<lambda>")∈Mks.ts
 one:∀p∈Mks.ts,p.1=P->p.2=X.env.qual ++ "<lambda>"
theorem zon (mk:Maker X c P)(hdef:defaultsOf params X.env=([],[]))(hcl:closureFor scope X.env=pure []):PE X (.Lambda params body scope lpos) (tLam (X.env.qual ++ "<lambda>") params body scope):=by
 intro pins s σ H Q I h
 obtain⟨ps,hP,_⟩:=id (h.1 _ mk.mem)
 refine zjX I mk.bm mk.code mk.hd (h.1 _ mk.mem) hdef hcl fun f H' s' J L T S=>⟨.ref f,H',J,rfl,h.2 f H' L (S.ext hP fun p hp=>?_)⟩
 by_cases z:p.1=P
 · rw[mk.one p hp z,z];exact T
 · obtain⟨qs,hq,_⟩:=id (h.1 p hp)
   exact (h.1 p hp).up ((S.rest _ _ z hq).trans hq.symm) fun b o u e=>S.rest b _ (fun y=>by rw[y] at e;rw[hP] at e;cases e) e
theorem zjy (ho:PE X o td)(m:M0 X o "items" apos cpos)(hg:Gl X "sorted")(hm:X.mg "sorted"=none)(hu:Room 2 X.A.in1.in1)(mk:Maker X c P)(hdef:defaultsOf params X.env=([],[]))(hcl:closureFor scope X.env=pure [])(hs:FnScope ["row"] ["row"] scope)
  (hb:∀(pm cd ct u:Value),bindArgs (W.kla_fn "<lambda>" (X.env.qual ++ "<lambda>") params body scope [] pm cd ct) ⟨[u],[]⟩=pure [(("row":Str),u)]) (ck:chkE zbm zcQ ["row"] scope body=true) :
  PE X (.Call (.Name "sorted" p) [.Call (.Attribute o "items" apos) [] [] cpos] [⟨some "key",.Lambda params body scope lpos,kpos⟩] pos) (znq td):=by
 intro pins s σ H Q I h
 refine wpAny_Call_Name_kw (zdJ I hg hm (by rfl:bootBuiltins "sorted"=some (.builtin "sorted")) ?_ (by decide) (by decide))
 have ha:PA X [.Call (.Attribute o "items" apos) [] [] cpos] (zey (zhl td) tNil):=za4 (zjD ho m) zdH
 have hk:PK X [⟨some "key",.Lambda params body scope lpos,kpos⟩] (zey (tLam (X.env.qual ++ "<lambda>") params body scope) tNil):=zl4 (zon mk hdef hcl) zof
 refine PyProof.Rows.callWith_builtin_kwB rfl rfl (PyProof.Rows.evalArgs_kw2 rfl (thn (ha pos pins s σ H (oneK (zk5 Q)) I h) fun us s1 ⟨vs,H1,I1,r1,k1⟩=>?_))
 obtain⟨w,rfl,v,d,rows,ew,hv,hd,h64,tb,q1⟩:=zgg k1
 subst ew
 obtain⟨u,rfl,ru⟩:=Vals.one r1
 obtain rfl:u=Value.ref v:=ru
 refine thn (hk pos pins s1 σ H1 (oneK fun w2 H2=>∃f,w2=.ref f/\LamAt H2 f "<lambda>" (X.env.qual ++ "<lambda>") params body scope/\Ext [] H1 [] H2) I1 ⟨tb,fun f H2 L S=>⟨f,rfl,L,S⟩⟩) fun ws s2 ⟨zs,H2,I2,r2,k2⟩=>?_
 obtain⟨w2,rfl,f,ef,L,st⟩:=zgg k2
 subst ef
 obtain⟨u2,rfl,ru2⟩:=Vals.one r2
 obtain rfl:u2=Value.ref f:=ru2
 exact zhi I2 hu hs hb ck L tb st hv hd h64 q1
end
end R
end
section
namespace R
open PySem PySem.Spec PyProof.Rows L2
variable [Mks]
noncomputable def H0 (K:W.Frag)(a:Addr)(o:Obj)(xs:List V):Hp:=fun b=>if b∈Mks.ts.map (·.1) then some (.tbl #[]) else if b=a then (match K.lookup a with|some _=>none|none=>some (.frz o (.lst xs))) else none
theorem zia {P:Program}{w:World}{K:W.Frag}{mg mb:Str->Option Value}{k:Nat}{fa a:Addr}{fd:FuncData}{x:Str}{sp:Sp}{s₁:Shared}{vs:List Value}{ns:List Int}
  (KX:K.In s₁.heap) (hns:s₁.heap.Ns mainGlobals mg) (hb:s₁.heap.Ns builtinsNs mb) (hbb:∀x:Str,x≠"__name__"->mb x=bootBuiltins x) (hlim:s₁.heap.NoLimit) (hg:s₁.gens = #[]) (bm:BM mg s₁.heap)
  (ha:s₁.heap.get? a=some {cls:=.type "list",data:=.seq vs.toArray}) (hi:IntsAre vs ns) (hl:ns.length<=sizeLine) (hr:Room k callerA)
  (tabs:∀p∈Mks.ts,s₁.heap.get? p.1=some (W.tabObj #[])/\K.lookup p.1=none/\isCodeTable s₁.heap p.1)
  (F:∀base:Heap,K.In base->base.Ns mainGlobals mg->BM mg base->FnOk P w K mg base CX0 k fa fd [x] sp) (hbind:∀(s:Shared) (u:Value),BindsTo s fd ⟨[u],[]⟩ [(x,u)])
  (hsp:∀H:Hp,FixL K H a (ns.map V.int)->TB H->sp [.ref a] H (fun v _=>v=.bl true) fun _ _ _=>False) :
  codeAny (model P w) callerA (.call (.ref fa) ⟨[.ref a],[]⟩) (fun r s'=>r=.ok (.ret (.bool true))/\OldK s₁.heap s'.heap/\s'.os=s₁.os/\AllBare s'.gens) s₁:=by
 have rv:=zew hi
 have lenV:=hi.length
 generalize hH:H0 K a {cls:=.type "list",data:=.seq vs.toArray} (ns.map V.int)=H
 have cs:∀b,H b=none\/((∃p∈Mks.ts,p.1=b)/\H b=some (.tbl #[]))\/(b=a/\K.lookup a=none/\H b=some (.frz {cls:=.type "list",data:=.seq vs.toArray} (.lst (ns.map V.int)))):=fun b=>by
  rw[<-hH]
  unfold H0
  by_cases h1:b∈Mks.ts.map (·.1)
  · obtain⟨p,hp,e⟩:=List.mem_map.mp h1
    exact .inr (.inl ⟨⟨p,hp,e⟩,if_pos h1⟩)
  · rw[if_neg h1]
    by_cases h2:b=a
    · rw[if_pos h2]
      cases e:K.lookup a with
      |some o=>exact .inl rfl
      |none=>exact .inr (.inr ⟨h2,rfl,rfl⟩)
    · rw[if_neg h2];exact .inl rfl
 have tb:TB H:=fun p hp=>⟨#[],by rw[<-hH];unfold H0;exact if_pos (List.mem_map.mpr ⟨p,hp,rfl⟩),trivial,fun pos v e=>by simp[codeAmong] at e⟩
 have na:a∉Mks.ts.map (·.1):=fun z=>by
  obtain⟨p,hp,e⟩:=List.mem_map.mp z
  have:=(tabs p hp).1
  rw[e,ha] at this;cases this
 have hx:FixL K H a (ns.map V.int):=by
  cases e:K.lookup a with
  | some o =>
    have e':=KX a o e
    rw[ha] at e';cases e'
    exact .inr ⟨_,vs.toArray,_,e,rfl,rfl,rfl,by rw[List.size_toArray,lenV];exact hl,by simpa using rv⟩
  | none =>
    refine .inl ⟨{cls:=.type "list",data:=.seq vs.toArray},?_⟩
    rw[<-hH];unfold H0
    rw[if_neg na,if_pos rfl,e]
 have hok:HOk P w H s₁.heap:=fun b u e=>by
  rcases cs b with z|⟨⟨p,hp,rfl⟩,z⟩|⟨rfl,_,z⟩
  · rw[z] at e;cases e
  · rw[z] at e;cases e;exact (tabs p hp).1
  · rw[z] at e;cases e;exact⟨ha,by rw[List.length_map];exact hl,vs,_,rv,ha⟩
 have noD:∀{b:Addr} {o:Obj},s₁.heap.get? b=some o->(∀xs n,o.data≠.seq xs n)->(∀fs,o.data≠.fields fs)->H b=none:=fun {b o} e n1 n2=>by
  rcases cs b with z|⟨⟨p,hp,rfl⟩,_⟩|⟨rfl,_,_⟩
  · exact z
  · rw[(tabs p hp).1] at e;cases e;exact absurd rfl (n2 _)
  · rw[ha] at e;cases e;exact absurd rfl (n1 _ _)
 have base_of:∀{b:Addr} {o:Obj},s₁.heap.get? b=some o->H b=none->(hidT s₁.heap H).get? b=some o:=fun e n=>zj6 e n
 have nsK:∀{b:Addr} {m:Str->Option Value},s₁.heap.Ns b m->(hidT s₁.heap H).Ns b m:=fun {b m} ⟨o,es,ep,e,d,r⟩=>⟨o,es,ep,base_of e (noD e (fun _ _ z=>by rw[d] at z;cases z) fun _ z=>by rw[d] at z;cases z),d,r⟩
 have hKb:K.In (hidT s₁.heap H):=fun b o e=>base_of (KX b o e) (by
  rcases cs b with z|⟨⟨p,hp,rfl⟩,_⟩|⟨rfl,z,_⟩
  · exact z
  · rw[(tabs p hp).2.1] at e;cases e
  · rw[z] at e;cases e)
 have hbm:BM mg (hidT s₁.heap H):=by
  obtain⟨m,o,h1,h2,h3,h4,h5,h6,h7⟩:=bm
  exact⟨m,o,h1,h2,h3,base_of h4 (noD h4 (fun _ _ z=>by rw[h7] at z;cases z) fun _ z=>by rw[h7] at z;cases z),h5,h6,h7⟩
 have hM:Mod K mg (hidT s₁.heap H):=⟨hKb,nsK hns,⟨mb,nsK hb,hbb⟩,let ⟨mc,h1,h2⟩:=hlim;⟨mc,nsK h1,h2⟩⟩
 have e0:Env0 P w K mg (hidT s₁.heap H) callerA [] s₁ H:=⟨rfl,hM,fun b o e=>zmh e,Nat.le_of_eq (ziq _ _),trivial,fun b hb=>absurd (show b∈([]:List Addr) from hb) (by simp),hok,.of_eq hg⟩
 refine codeAny_mono ((F _ hKb (nsK hns) hbm).run callerA [] s₁ H ⟨[.ref a],[]⟩ [.ref a] [.ref a] _ _ hr e0 (hbind s₁ (.ref a)) (.cons rfl .nil) (hsp H hx tb)) fun r s' h=>?_
 cases r with
 |error e=>exact False.elim h
 | ok fl =>
   cases fl with
   | ret u =>
     obtain⟨v,H',os,bare,un,hok',r',q⟩:=h
     have q':v=.bl true:=q
     subst q'
     obtain rfl:u=Value.bool true:=r'
     have old:∀b o,s₁.heap.get? b=some o->asItWas s₁.heap s'.heap b o/\∃o',s'.heap.get? b=some o':=fun b o e=>by
      rcases cs b with z|⟨⟨p,hp,rfl⟩,z⟩|⟨rfl,_,z⟩
      · have k:=un.keep b o e z (by intro y;exact absurd (show b∈([]:List Addr) from y) (by simp)) (by simp)
        exact⟨.inl k,_,k⟩
      · obtain⟨more,z2⟩:=un.tbls _ _ z
        have k:s'.heap.get? p.1=some (W.tabObj (#[]++more)):=hok' _ _ z2
        have e':=(tabs p hp).1
        rw[e'] at e;cases e
        exact⟨.inr (.inl ⟨(tabs p hp).2.2,rfl,#[],more,rfl,k⟩),_,k⟩
      · have z2:=un.frzs _ _ _ z
        have k:=(hok' _ _ z2).1
        rw[ha] at e;cases e
        exact⟨.inl k,_,k⟩
     exact⟨rfl,⟨fun b o e=>(old b o e).1,fun b o e=>(old b o e).2⟩,os,bare⟩
   |_=>exact False.elim h
end R
end
section
namespace R
open PySem PySem.Spec PyProof.Rows L2
variable [Mks]
theorem walk_ofT {l:W.OpenLaw}{n k:Nat}{q:Program}{loose:List Str}{XP:(Str->Option Value)->Heap->Prop}{YP:World->Heap->Prop}{d:DefRec}{K:Params->W.Frag}{sp:World->Sp}{x:Str}
  (hn:l.most=some n) (hn2:n<=sizeLine) (hdf:d.params.defaults=[]) (hr:Room k callerA)
  (hY:∀(w:World) (h:Heap),YP w h->(K w.params).In h) (hT:∀(w:World) (h:Heap),YP w h->∀p∈Mks.ts,h.get? p.1=some (W.tabObj #[]))
  (hK:∀(w:World),∀p∈Mks.ts,(K w.params).lookup p.1=none/\∃c,W.codeHdIn (K w.params) c p.1=true)
  (F:∀(w:World) (mg:Str->Option Value) (fa:Addr) (h:Heap),(K w.params).In h->h.Ns mainGlobals mg->mg d.name=some (.ref fa)->
   ∃fd:FuncData,(∀(s:Shared) (u:Value),BindsTo s fd ⟨[u],[]⟩ [(x,u)])/\
    ∀base:Heap,(K w.params).In base->base.Ns mainGlobals mg->BM mg base->FnOk l.prog w (K w.params) mg base CX0 k fa fd [x] (sp w))
  (hsp:∀(w:World) (H:Hp) (a:Addr) (ns:List Int),ns.length<=n->FixL (K w.params) H a (ns.map V.int)->TB H->sp w [.ref a] H (fun v _=>v=.bl true) fun _ _ _=>False) :
  W.WalkO q loose XP YP l.row.toRowW d [] (fun f vs=>PySem.call f vs):=by
 refine Att.attach_call hn hdf fun w s₀ s₁ mg mb fa o pm cd doc a vs ns G Y ho hd hcd hmg hobj hints hlen hg=>?_
 have KX:=hY w _ Y
 obtain⟨fd,hb,hF⟩:=F w mg fa _ KX G.T.g hmg
 obtain⟨bm,ob,b1,b2,b3,b4,b5,b6⟩:=G.T.bmain
 have hbG:bm≠mainGlobals:=fun z=>by
  obtain⟨o,es,ep,e,hd,_⟩:=G.T.g
  rw[z,e] at b3;cases b3;rw[hd] at b6;cases b6
 refine zia KX G.T.g G.T.b G.T.builtins G.T.nolimit hg ⟨bm,ob,b1,b2,hbG,b3,b4,b5,b6⟩ hobj hints (Nat.le_trans hlen hn2) hr (fun p hp=>?_) hF hb fun H hx tb=>hsp w H a ns hlen hx tb
 obtain⟨k1,c,k2⟩:=hK w p hp
 have e:=hT w _ Y p hp
 exact⟨e,k1,((W.codeHd_of_K KX k2).tab e).isCodeTable⟩
end R
end
section
namespace R
open PySem PySem.Spec PyProof.Rows L2
variable [Mks]
theorem zlW {κ:Type}[DecidableEq κ]{x:κ × V}{r:List (κ × V)}{k:κ}{v:V}(h:x.1≠k):putK (x::r) k v=x::putK r k v:=by
 unfold putK
 have:decide (x.1=k)=false:=decide_eq_false h
 simp only[List.any_cons,this,Bool.false_or]
 split
 · rw[List.map_cons,if_neg h]
 · rfl
theorem zgd:∀(rows:List (Int × Int)) (w:Int),(rows.map (·.1)).Nodup->∃c:Int,(valV (zbb rows) (.inl w)).getD (.int 0)=.int c/\putK (zbb rows) (.inl w) (.int (c+1))=zbb (bump rows w)
 | [],w,_=>⟨0,rfl,rfl⟩
 | (k, c) :: r, w, nd => by
   simp only[List.map_cons,List.nodup_cons] at nd
   by_cases e:k=w
   · subst e
     refine⟨c,by simp[zbb,valV],?_⟩
     have hm:(zbb r).map (fun kv=>if kv.1=(Sum.inl k:Key) then (kv.1,V.int (c+1)) else kv)=zbb r:=by
      rw[List.map_congr_left (g:=id),List.map_id]
      intro kv hkv
      unfold zbb at hkv
      obtain⟨q,hq,rfl⟩:=List.mem_map.mp hkv
      have:q.1≠k:=fun z=>nd.1 (z▸List.mem_map.mpr ⟨q,hq,rfl⟩)
      simp[this]
     have hd:zbb ((k,c)::r)=(.inl k,.int c)::zbb r:=rfl
     unfold bump
     rw[if_pos rfl,hd]
     unfold putK
     have:(((Sum.inl k:Key),V.int c)::zbb r).any (fun kv=>decide (kv.1=Sum.inl k))=true:=by simp
     rw[if_pos this,List.map_cons,hm,if_pos rfl]
     rfl
   · obtain⟨d,h1,h2⟩:=zgd r w nd.2
     have hne:(Sum.inl k:Key)≠Sum.inl w:=fun z=>e (Sum.inl.inj z)
     have hd:zbb ((k,c)::r)=(.inl k,.int c)::zbb r:=rfl
     refine⟨d,?_,?_⟩
     · rw[hd,<-h1]
       unfold valV
       rw[List.find?_cons_of_neg (by simpa using e)]
     · rw[hd,zlW hne,h2]
       have hb:bump ((k,c)::r) w=(k,c)::bump r w:=by rw[bump,if_neg e]
       rw[hb];rfl
theorem RVs.ofGet {K:W.Frag}{ι:List Addr}{H:Hp}:∀{ds:List D} {vs:List V},ds.length=vs.length->(∀(i:Nat) d v,ds[i]?=some d->vs[i]?=some v->RV K ι H d v)->RVs K ι H ds vs
 | [],[],_,_=>rfl
 | [],_::_,h,_=>by simp at h
 |_::_,[],h,_=>by simp at h
 |d::ds,v::vs,h,f=>⟨v,vs,rfl,f 0 d v rfl rfl,RVs.ofGet (by simpa using h) fun i a b h1 h2=>f (i+1) a b (by simpa using h1) (by simpa using h2)⟩
theorem RH.add {K:W.Frag}{ι:List Addr}{H H':Hp}{S:R.St}{p:Addr}{o:MO}(h:RH K ι H S)(x:Ext ι H (ι++[p]) H')(e:∀a∈ι,H' a=H a)(hp:p∉ι)(ho:RO K (ι++[p]) H' p o):RH K (ι++[p]) H' (S.push o):=by
 refine⟨by rw[List.length_append,h.len,zbO];rfl,?_,fun l o' q=>?_,x.kp.tab h.tab⟩
 · rw[List.nodup_append]
   refine⟨h.nd,by simp,fun a ha b hb=>?_⟩
   simp at hb;subst hb
   exact fun z=>hp (z▸ha)
 · by_cases hl:l<S.len
   · rw[zb8 hl] at q
     obtain⟨a,h1,h2,hm⟩:=h.mem q
     exact⟨a,zbz (List.prefix_append _ _) h1,h2.stay x (e a hm)⟩
   · have hl2:=zar q
     rw[zbO] at hl2
     have:l=S.len:=by omega
     subst this
     rw[zeq] at q;cases q
     exact⟨p,by rw[<-h.len];simp,ho⟩
section
variable {X:Cx} {p1 p2 p3 p4 p5 p6 p7 p8 p9 p10 p11 p12 p13 p14 p15 p16 p17 p18 p19 p20 p21 p22 p23 p24 p25 p26 p27 p28 p29:Pos} {k7 k15 k17:Nat} {params:Arguments} {body:Expr} {scope:Scope}
noncomputable def zky (p1 p2 p3 p4 p5 p6 p7 p8 p9 p10 p11 p12 p13 p14 p15 p16 p17 p18 p19 p20 p21 p22 p23 p24 p25 p26 p27 p28 p29:Pos)(params:Arguments)(body:Expr)(scope:Scope):List Stmt:=
 [.Assign [.Name "counts" p1] (.Dict [] [] p2) p3,
  .For (.Name "word" p4) (.Name "words" p5) [.If (.Compare (.Name "word" p6) [.IsNot] [.Constant .none 0 p7] p8)
   [.Assign [.Subscript (.Name "counts" p9) (.Name "word" p10) p11] (.BinOp (.Call (.Attribute (.Name "counts" p12) "get" p13) [.Name "word" p14,.Constant (.int 0) 0 p15] [] p16) .Add (.Constant (.int 1) 0 p17) p18) p19] [] p20] [] p21,
  .Return (some (.Call (.Name "sorted" p22) [.Call (.Attribute (.Name "counts" p23) "items" p24) [] [] p25] [⟨some "key",.Lambda params body scope p26,p27⟩] p28)) p29]
noncomputable def zli (K:W.Frag):TS:=tIfS (znp (tOp (fun x y H Q=>y=.non/\Q (.bl (!decide (x=.non))) H) (tVar 2) (tC .non))) (zn0 (tVar 1) (tVar 2) (tOp (rI0 fun i j=>.int (i+j)) (zkz (tVar 1) (tVar 2) (tC (.int 0))) (tC (.int 1)))) zlk
theorem zjs (hN:X.N=[("words":Str),"counts","word"])(h0:X.env.scope.names.lookup ("words":Str)=some .local)(h1:X.env.scope.names.lookup ("counts":Str)=some .local)(h2:X.env.scope.names.lookup ("word":Str)=some .local)(hc:X.calm=true)(hx:X.xe=fun _ _=>False)(hu:X.A.units+1<cLine)
  (m2:M2 X (.Name "counts" p12) "get" p13 (.Name "word" p14) (.Constant (.int 0) 0 p15) p16) (hs:swapsWith (.BinOp (.Call (.Attribute (.Name "counts" p12) "get" p13) [.Name "word" p14,.Constant (.int 0) 0 p15] [] p16) .Add (.Constant (.int 1) 0 p17) p18) (some (.Subscript (.Name "counts" p9) (.Name "word" p10) p11)) p19.line X.env=pure false)
  (hw:swapsWith (.Dict [] [] p2) (some (.Name "counts" p1)) p3.line X.env=pure false) {tr:TE} (hr:PE X (.Call (.Name "sorted" p22) [.Call (.Attribute (.Name "counts" p23) "items" p24) [] [] p25] [⟨some "key",.Lambda params body scope p26,p27⟩] p28) tr) :
  PSs X (zky p1 p2 p3 p4 p5 p6 p7 p8 p9 p10 p11 p12 p13 p14 p15 p16 p17 p18 p19 p20 p21 p22 p23 p24 p25 p26 p27 p28 p29 params body scope)
   (tSeq (tAsg zhm (zer 1)) (tSeq (tFor (zmy X.K (tVar 0)) (zer 2) (zli X.K)) (tRet tr))):=by
 have n0:X.N[0]?=some ("words":Str):=by rw[hN];rfl
 have n1:X.N[1]?=some ("counts":Str):=by rw[hN];rfl
 have n2:X.N[2]?=some ("word":Str):=by rw[hN];rfl
 have nd:X.N.Nodup:=by rw[hN];decide
 have v0:∀{p:Pos},PE X (.Name "words" p) (tVar 0):=zbA n0 (.inl h0)
 have v1:∀{p:Pos},PE X (.Name "counts" p) (tVar 1):=zbA n1 (.inl h1)
 have v2:∀{p:Pos},PE X (.Name "word" p) (tVar 2):=zbA n2 (.inl h2)
 have hp:PassesOwn (model X.prog X.w) X.A X.env X.xe:=by rw[hx];exact PassesOwn.never
 refine zaM (zhH nd n1 (.inl h1) zjF hw (.inr h1)) (zaM (zkJ hp hc (zl5 v0) (zfA nd n2 (.inl h2) (.inr h2)) (zed (zoc (zhF zmd v2 zkM (zkP _)) (zed (zl1 hu v1 v2 (zok zkO (zjI hu v1 v2 zhO m2) zhO) hs)) zhG))) (zed (zhI hr)))
theorem zd3 {os:List (Option Int)}{i:Nat}{o:Option Int}(h:os[i]?=some o):os.take (i+1)=os.take i++[o]:=by
 rw[List.take_add_one,h];rfl
theorem zfR (kvs:List (Int × Int))(os:List (Option Int))(o:Option Int):zah kvs (os++[o])=match o with|some x=>bump (zah kvs os) x|none=>zah kvs os:=by
 unfold zah
 rw[List.foldl_append]
 cases o<;>rfl
theorem zht {K:W.Frag}{H:Hp}{a:Addr}{os:List (Option Int)}{Q:VK}{D0:Ends}{tr:TE}(hD:D0.rt=Q)(ha:H a=some (.lst (os.map wV)))(hl:os.length<=sizeLine)
  (fin:∀(p:Addr) (σ:L2.St),H p=none->σ[1]?=some (some (.ref p))->tr σ (upd H p (.dK (zbb (zah [] os)))) Q) :
  (tSeq (tAsg zhm (zer 1)) (tSeq (tFor (zmy K (tVar 0)) (zer 2) (zli K)) (tRet tr))) D0 (start ["words","counts","word"] [.ref a]) H:=by
 intro p hp
 have nap:a≠p:=zaj ha hp
 refine⟨.ref a,rfl,a,rfl,⟨_,SqL.of ((zae nap).trans ha)⟩,?_⟩
 refine zkd (xs:=os.map wV) (fun i σ H'=>(∃z,σ=[some (.ref a),some (.ref p),z])/\H'=upd H p (.dK (zbb (zah [] (os.take i))))) ⟨⟨none,rfl⟩,rfl⟩ (fun i σ H' _ h=>?_) (fun i x σ H' hx h=>?_) fun σ H' h=>?_
 · rw[h.2];exact SqL.of ((zae nap).trans ha)
 · obtain⟨⟨z,rfl⟩,rfl⟩:=h
   rw[List.getElem?_map] at hx
   cases e:os[i]? with
   |none=>rw[e] at hx;cases hx
   | some o =>
     rw[e] at hx
     cases hx
     have hi:i<os.length:=(List.getElem?_eq_some_iff.mp e).1
     show zli K _ [some (.ref a),some (.ref p),some (wV o)] _
     refine⟨wV o,rfl,rfl,_,rfl,?_⟩
     rw[zd3 e,zfR]
     cases o with
     |none=>exact⟨⟨_,rfl⟩,rfl⟩
     | some w =>
       obtain⟨c,c1,c2⟩:=zgd (zah [] (os.take i)) w (zaR _ List.nodup_nil)
       have hlen:(zbb (zah [] (os.take i))).length<sizeLine:=by
        have:=zdP (os.take i)
        rw[List.length_take] at this
        unfold zbb
        rw[List.length_map]
        omega
       refine⟨.ref p,rfl,p,rfl,.inl ⟨_,.inl zai⟩,.int w,rfl,_,DGet.k (k:=.inl w) zai,c,1,c1,rfl,.ref p,rfl,.int w,rfl,p,_,rfl,DPut.k (k:=.inl w) zai hlen,⟨⟨_,rfl⟩,?_⟩⟩
       rw[zld,c2]
 · obtain⟨⟨z,rfl⟩,rfl⟩:=h
   rw[List.length_map,List.take_length]
   show tr _ _ D0.rt
   rw[hD]
   exact fin p _ hp rfl
theorem zgL {K:W.Frag}{ι:List Addr}{H H2:Hp}{S:R.St}{p v D0:Addr}{o1 o2:HO}{os:List (Option Int)}{ts:List Addr}(hh:RH K ι H S)(hp:H p=none)(hv:upd H p o1 v=none)(x:Ext [] (upd (upd H p o1) v o2) [] H2)(hD:upd (upd H p o1) v o2 D0=none)
  (h2:H2 D0=some (.lst (ts.map V.ref))) (hl:ts.length=(zah [] os).length) (ht:∀(j:Nat) (t:Addr),ts[j]?=some t->∃r:Int × Int,(za0 (zah [] os))[j]?=some r/\H2 t=some (.tup [.int r.1,.int r.2])) :
  Ext ι H (ι++[D0]) H2/\RH K (ι++[D0]) H2 (S.push (.lst (talD os))):=by
 have k1:Kp H (upd (upd H p o1) v o2):=(Kp.new hp o1).trans (Kp.new hv o2)
 have up:∀a o,H a=some o->upd (upd H p o1) v o2 a=some o:=fun a o e=>by
  have e1:upd H p o1 a=some o:=(zae (zaj e hp)).trans e
  exact (zae (zaj e1 hv)).trans e1
 have hDn:H D0=none:=by
  cases e:H D0 with
  |none=>rfl
  |some o=>rw[up _ _ e] at hD;cases hD
 have hDi:D0∉ι:=hh.fresh hDn
 have ex:Ext ι H (ι++[D0]) H2:=⟨List.prefix_append _ _,k1.trans x.kp,fun a o h e=>⟨(x.rest a o (by simp) (up a o e)).1,fun z=>by
  rcases List.mem_append.mp z with z|z
  · exact h z
  · simp at z;exact zaj e hDn z⟩⟩
 refine⟨ex,hh.add ex (fun a hm=>?_) hDi ⟨_,h2,RVs.ofGet ?_ fun i d w e1 e2=>?_⟩⟩
 · obtain⟨o,e,_,_,nt⟩:=hh.live hm
   rw[e]
   exact x.keep (by simp) (up a o e) nt
 · unfold talD
   rw[List.length_map,List.length_map,hl]
   unfold za0
   rw[List.length_mergeSort]
 · rw[List.getElem?_map] at e2
   unfold talD at e1
   rw[List.getElem?_map] at e1
   cases z:ts[i]? with
   |none=>rw[z] at e2;cases e2
   | some t =>
     rw[z] at e2;cases e2
     obtain⟨r,r1,r2⟩:=ht i t z
     rw[r1] at e1;cases e1
     exact⟨t,_,rfl,r2,_,_,rfl,rfl,_,_,rfl,rfl,rfl⟩
end
end R
end
section
namespace R
open PySem PySem.Spec PyProof.Rows L2
variable [Mks]
theorem zee {S:R.St}{ds:List D}{Q:D->R.St->Prop}(h:W (prm S .tally ds) Q):∃l ws os,ds=[.ref l]/\S.get l=some (.lst ws)/\zcx ws=some os/\(zah [] os).length<64/\os.length<=16777216/\Q (.ref S.len) (S.push (.lst (talD os))):=by
 unfold prm at h
 split at h
 · rename_i l _
   split at h
   · rename_i ws e
     split at h
     · rename_i os e2
       split at h
       · rename_i c
         exact⟨l,ws,os,rfl,e,e2,c.1,c.2,h⟩
       · exact h.elim
     · exact h.elim
   · exact h.elim
 · rename_i e;cases e
 · exact h.elim
structure TallySt (st:Stmt):Prop where
 ex:∃(p1 p2 p3 p4 p5 p6 p7 p8 p9 p10 p11 p12 p13 p14 p15 p16 p17 p18 p19 p20 p21 p22 p23 p24 p25 p26 p27 p28 p29:Pos) (params:Arguments) (body:Expr) (scope:Scope),zan st=zky p1 p2 p3 p4 p5 p6 p7 p8 p9 p10 p11 p12 p13 p14 p15 p16 p17 p18 p19 p20 p21 p22 p23 p24 p25 p26 p27 p28 p29 params body scope/\
  (p13.endLine == p16.line)=true/\(p24.endLine == p25.line)=true/\(∀env,defaultsOf params env=([],[]))/\(∀env,closureFor scope env=pure [])/\FnScope ["row"] ["row"] scope/\chkE zbm zcQ ["row"] scope body=true/\
  ∀(q:Str) (pm cd ct u:Value),bindArgs (W.kla_fn "<lambda>" q params body scope [] pm cd ct) ⟨[u],[]⟩=pure [(("row":Str),u)]
 sc:FnScope ["words","counts","word"] ["words"] (zad st)
 h0:(zad st).names.lookup ("words":Str)=some .local
 h1:(zad st).names.lookup ("counts":Str)=some .local
 h2:(zad st).names.lookup ("word":Str)=some .local
 hg:(zad st).names.lookup ("sorted":Str)=some .globalImplicit
theorem zi3 {P:Program}{w:World}{K:W.Frag}{mg:Str->Option Value}{base:Heap}{Pg:List Fn}{n fi:Nat}{x qual:Str}{st:Stmt}{f c Tb:Addr}{oc:Value}{od an:Option Addr}{osl:Array (Option Value)}{dV kV doc pm ct:Value}{F:Fn}
  (lk:K.lookup f=some ⟨oc,od,.func (W.fnOf x qual (zat st) (zan st) (zad st) dV kV doc pm an (.ref c) ct),osl⟩) (hcd:W.codeIn K (.ref c) qual=true) (hC:W.codeHdIn K c Tb=true) (T:TallySt st) (bm:BM mg base)
  (mem:(Tb,qual ++ ".<locals>." ++ "<lambda>")∈Mks.ts) (one:∀p∈Mks.ts,p.1=Tb->p.2=qual ++ ".<locals>." ++ "<lambda>") (hm:mg "sorted"=none) (hP:Pg[fi]?=some F) (hq:F.prim=some .tally) (hp:F.np=1) (hn:3<=n) :
  FnOk P w K mg base CX0 (n+2) f (W.fnOf x qual (zat st) (zan st) (zad st) dV kV doc pm an (.ref c) ct) ["words"] (spF K (callF Pg (n+1)) fi):=by
 obtain⟨p1,p2,p3,p4,p5,p6,p7,p8,p9,p10,p11,p12,p13,p14,p15,p16,p17,p18,p19,p20,p21,p22,p23,p24,p25,p26,p27,p28,p29,params,body,scope,eb,l1,l2,hdef,hcl,hs,ck,hb⟩:=T.ex
 refine zoU lk hcd T.sc (fun vs H Q E h=>zbw (ps:=["words"]) hP hp h) fun A outer s H vs Q E hr h=>?_
 obtain⟨ι,S0,ds,r,hh,hw⟩:=h
 simp only[callF,hP,hq,hn,if_true] at hw
 split at hw
 · obtain⟨l,ws,os,rfl,hg,ho,c64,cl,q⟩:=zee hw
   have room:Room 2 ((cxOf CX0 P w K mg base ["words","counts","word"] qual (zad st) f (.ref c) A outer s H E).nox).A.in1.in1:=((hr.mono (Nat.succ_le_succ hn)).in1).in1
   have hu:((cxOf CX0 P w K mg base ["words","counts","word"] qual (zad st) f (.ref c) A outer s H E).nox).A.units+1<cLine:=by have:=hr.un;show (A.deeper _).units+1<_;omega
   have mk:Maker ((cxOf CX0 P w K mg base ["words","counts","word"] qual (zad st) f (.ref c) A outer s H E).nox) c Tb:=⟨bm,rfl,hC,mem,one⟩
   have hpe:=zjy (X:=(cxOf CX0 P w K mg base ["words","counts","word"] qual (zad st) f (.ref c) A outer s H E).nox) (p:=p22) (lpos:=p26) (kpos:=p27) (pos:=p28) (zbA (pos:=p23) (i:=1) (x:="counts") rfl (.inl T.h1)) (apos:=p24) (cpos:=p25) ⟨rfl,rfl,l2⟩ T.hg hm room mk (hdef _) (hcl _) hs (hb _) ck
   have ht:=zjs (X:=(cxOf CX0 P w K mg base ["words","counts","word"] qual (zad st) f (.ref c) A outer s H E).nox) (p1:=p1) (p2:=p2) (p3:=p3) (p4:=p4) (p5:=p5) (p6:=p6) (p7:=p7) (p8:=p8) (p9:=p9) (p10:=p10) (p11:=p11) (p12:=p12) (p13:=p13) (p14:=p14) (p15:=p15) (p16:=p16) (p17:=p17) (p18:=p18) (p19:=p19) (p20:=p20) (p21:=p21) (p29:=p29)
    rfl T.h0 T.h1 T.h2 rfl rfl hu ⟨rfl,rfl,l1,rfl⟩ rfl rfl hpe
   refine⟨_,by rw[eb];exact ht.nox,?_⟩
   obtain⟨v,r0,rfl,rv,rn⟩:=r
   cases (show r0=[] from rn)
   obtain⟨a,ia,rfl⟩:=rv
   obtain⟨b,ib,xs,hb2,rr⟩:=hh.obj l _ hg
   rw[ia] at ib;cases ib
   rw[zhe ho] at rr
   cases zfY rr
   refine zht rfl hb2 (by rw[sizeLine_eq];exact cl) fun p σ hp1 hσ=>?_
   refine⟨.ref p,hσ,p,_,rfl,zai,fun v hv=>⟨v,p,_,rfl,zai,?_,c64,?_,fun D0 H2 ts x hD h2 hl ht=>?_⟩⟩
   · rw[zae (zaj zai hv)];exact zai
   · exact (Kp.new hv _).tab ((Kp.new hp1 _).tab hh.tab)
   · obtain⟨ex,rh⟩:=zgL hh hp1 hv x hD h2 hl ht
     exact q _ _ (ι++[D0]) ex ⟨D0,hh.last D0,rfl⟩ rh
 · exact hw.elim
end R
end
section
namespace R
noncomputable def oD:Option Int->D|some i=>.int i|none=>.non
theorem zfZ:∀os:List (Option Int),zcx (os.map oD)=some os
 | []=>rfl
 | o :: os => by
   unfold zcx
   rw[List.map_cons,List.mapM_cons,show (os.map oD).mapM zbT=some os from zfZ os]
   cases o<;>rfl
theorem ziy (n:Nat)(os:List (Option Int)):flats n (talD os)=true:=by
 rw[zbf]
 intro d hd
 obtain⟨r,_,rfl⟩:=List.mem_map.mp hd
 simp[rowD]
theorem ziY {P:List Fn}{F:Fn}{f n l:Nat}{S:R.St}{os:List (Option Int)}(hP:P[f]?=some F)(hq:F.prim=some .tally)(hn:F.np=1)(h:S.get l=some (.lst (os.map oD)))(hc:(zah [] os).length<64)(hl:os.length<=16777216):app (callF P (n+4)) f [.ref l] S=.ok (.ref S.len) (S.push (.lst (talD os))):=by
 have e:callF P (n+4) f [.ref l] S.enter=.ok (.ref S.len) (S.enter.push (.lst (talD os))):=by
  have h3:3<=n+3:=by omega
  simp only[callF,hP,hq,hn,List.length_cons,List.length_nil,Nat.zero_add,if_true,h3]
  unfold prm
  dsimp only
  rw[zaG,h]
  dsimp only
  rw[zfZ]
  dsimp only
  rw[if_pos ⟨hc,hl⟩,enter_len]
 unfold app
 rw[e,zas]
 unfold zcj
 have hg:(S.enter.push (.lst (talD os))).get S.len=some (.lst (talD os)):=by
  have:=zka (S.frz++S.new) [.lst (talD os)] []
  rw[zfK] at this
  exact this
 rw[if_neg (by simp[flat])]
 dsimp only
 rw[hg]
 dsimp only
 rw[if_pos (ziy _ _)]
theorem zi4 (rows:List (Int × Int)):(za0 rows).Perm rows:=List.mergeSort_perm rows zcy
theorem tal_mem {rows:List (Int × Int)}{r:Int × Int}:r∈za0 rows↔r∈rows:=(zi4 rows).mem_iff
theorem zgM (rows:List (Int × Int)):(za0 rows).Pairwise fun a b=>zcy a b=true:=by
 refine List.pairwise_mergeSort (fun a b c h1 h2=>?_) (fun a b=>?_) rows
 · simp only[zcy,decide_eq_true_eq] at h1 h2⊢;omega
 · simp only[zcy,Bool.or_eq_true,decide_eq_true_eq];omega
open PySem (PyData)
theorem zen {α β:Type}{f:α->Option β}:∀{xs:List α} {ys:List β},xs.mapM f=some ys->∀y∈ys,∃x∈xs,f x=some y
 | [],ys,h,y,hy=>by simp at h;subst h;cases hy
 | x :: xs, ys, h, y, hy => by
   rw[List.mapM_cons] at h
   cases e:f x with
   |none=>rw[e] at h;cases h
   | some z =>
     rw[e] at h
     cases e2:xs.mapM f with
     |none=>rw[e2] at h;cases h
     | some zs =>
       rw[e2] at h
       injection h with h
       subst h
       rcases List.mem_cons.mp hy with rfl|hy
       · exact⟨x,by simp,e⟩
       · obtain⟨u,hu,eu⟩:=zen e2 y hy
         exact⟨u,by simp[hu],eu⟩
theorem zca:∀{xs:List PyData},(∀x∈xs,PyData.eqv x x=true)->PyData.eqvAll xs xs=true
 | [],_=>by simp[PyData.eqvAll]
 |x::xs,h=>by simp[PyData.eqvAll,h x (by simp),zca (xs:=xs) fun y hy=>h y (by simp[hy])]
theorem zmc {S:St}:∀{n:Nat} {d:D} {a:PyData},pd S n d=some a->PyData.eqv a a=true:=by
 intro n
 induction n with
 | zero =>
   intro d a h
   cases d<;>simp only[pd] at h
   · cases h;simp[PyData.eqv]
   · cases h;simp[PyData.eqv]
   · cases h;simp[PyData.eqv]
   · split at h
     · cases h;simp[PyData.eqv]
     · cases h
   · cases h
   · cases h
   · cases h
   · cases h
 | succ n ih =>
   intro d a h
   cases d<;>simp only[pd] at h
   · cases h;simp[PyData.eqv]
   · cases h;simp[PyData.eqv]
   · cases h;simp[PyData.eqv]
   · split at h
     · cases h;simp[PyData.eqv]
     · cases h
   · rename_i ds
     cases e:ds.mapM (pd S n) with
     |none=>rw[e] at h;cases h
     | some xs =>
       rw[e] at h
       cases h
       rw[PyData.eqv]
       exact zca fun x hx=>let ⟨d,_,hd⟩:=zen e x hx;ih hd
   · split at h
     · rename_i ds _
       cases e:ds.mapM (pd S n) with
       |none=>rw[e] at h;cases h
       | some xs =>
         rw[e] at h
         cases h
         rw[PyData.eqv]
         exact zca fun x hx=>let ⟨d,_,hd⟩:=zen e x hx;ih hd
     · cases h
   · cases h
   · cases h
theorem ziE {S:St}{x y:D}{a:PyData}(h1:pd S 60 x=some a)(h2:pd S 60 y=some a):eqD S x y=some true:=by
 unfold eqD
 rw[h1,h2]
 exact congrArg some (zmc h1)
theorem zeh {S:St}{l n:Nat}{ds:List D}{xs:List PyData}(h:S.get l=some (.lst ds))(e:ds.mapM (pd S n)=some xs):pd S (n+1) (.ref l)=some (.list xs):=by
 simp only[pd,h,e];rfl
theorem zfS {S:St}{a b:Nat}{ds:List D}{xs:List PyData}(h1:S.get a=some (.lst ds))(h2:S.get b=some (.lst ds))(e:ds.mapM (pd S 59)=some xs):cmpO S .Eq (.ref a) (.ref b)=some true:=ziE (zeh h1 e) (zeh h2 e)
theorem zbp {S:St}{a b:Nat}{ds:List D}{xs:List PyData}(h1:S.get a=some (.lst ds))(h2:S.get b=some (.lst ds))(e:ds.mapM (pd S 59)=some xs):cmpO S .NotEq (.ref a) (.ref b)=some false:=by
 show (eqD S (.ref a) (.ref b)).map (!·)=_
 rw[ziE (zeh h1 e) (zeh h2 e)];rfl
noncomputable def oP:Option Int->PyData|some i=>.int i|none=>.none
theorem zag (S:St)(o:MO):(S.push o).get S.len=some o:=by
 have h:¬S.len<S.frz.length:=by unfold St.len;omega
 unfold St.get St.push
 simp only[h,if_false]
 unfold St.len
 simp
theorem zam {S:St}{l:Nat}{o u:MO}(e:S.get l=some u):(S.push o).get l=some u:=by
 have h:=zar e
 unfold St.len at h
 unfold St.get at e⊢
 unfold St.push
 simp only
 split
 · rename_i c;rw[if_pos c] at e;exact e
 · rename_i c;rw[if_neg c] at e;rw[List.getElem?_append_left (by omega)];exact e
theorem ziP {α β:Type}(f:α->β)(xs:List α)(lo hi:Option Int):cut (xs.map f) lo hi=(cut xs lo hi).map f:=by
 unfold cut
 rw[List.length_map,List.map_take,List.map_drop]
theorem zkW {α:Type}(xs:List α)(lo hi:Option Int):(cut xs lo hi).length<=xs.length:=by
 unfold cut
 rw[List.length_take,List.length_drop]
 omega
theorem zcR {S:St}{l:Nat}(o:MO)(h1:S.frz.length<=l)(h2:S.lk.contains l=false):∃S',S.put l o=some S'/\S'.frz=S.frz/\S'.lk=S.lk/\S'.len=S.len/\(∀m,m≠l->S'.get m=S.get m)/\(l<S.len->S'.get l=some o):=by
 refine⟨{S with new:=S.new.set (l - S.frz.length) o},?_,rfl,rfl,by simp[St.len],fun m hm=>?_,fun hl=>?_⟩
 · unfold St.put
   rw[if_neg (by omega),h2];rfl
 · unfold St.get
   simp only
   split
   · rfl
   · rw[List.getElem?_set_ne (by omega)]
 · unfold St.len at hl
   unfold St.get
   simp only[show ¬l<S.frz.length by omega,if_false]
   rw[List.getElem?_set_self (by omega)]
theorem zmK (S:St)(i j:Int):eqD S (.int i) (.int j)=some (i == j):=by
 unfold eqD
 have e:∀k,pd S 60 (.int k)=some (.int k):=fun k=>rfl
 rw[e,e]
 show some (PyData.eqv (.int i) (.int j))=_
 rw[L2.eqv_int]
theorem zj4 (S:St)(x:Int):∀ks:List Int,inD S (.int x) (ks.map .int)=some (decide (x∈ks)):=by
 intro ks
 have e:(ks.map D.int).mapM (fun z=>eqD S z (.int x))=some (ks.map fun k=>k == x):=by
  induction ks with
  |nil=>rfl
  |cons k ks ih=>rw[List.map_cons,List.mapM_cons,zmK,ih];rfl
 have f:∀ks:List Int,((ks.map fun k=>k == x).any id)=decide (x∈ks):=by
  intro ks
  induction ks with
  |nil=>rfl
  | cons k ks ih =>
    rw[List.map_cons,List.any_cons,ih]
    by_cases c:k=x
    · subst c;simp
    · have c':¬x=k:=fun z=>c z.symm
      have b:(k == x)=false:=beq_eq_false_iff_ne.mpr c
      simp only[b,id,Bool.false_or,List.mem_cons,c',false_or]
 unfold inD
 rw[e]
 exact congrArg some (f ks)
theorem zhT {S:St}{l:Nat}{ks:List Int}(h:S.get l=some (.lst (ks.map .int)))(x:Int):cmpO S .NotIn (.int x) (.ref l)=some (!decide (x∈ks)):=by
 show (((match S.get l with|some (.lst ds)=>some ds|_=>none).bind fun ys=>inD S (.int x) ys)).map (!·)=_
 rw[h,Option.bind_some,zj4];rfl
noncomputable def cntZ (os:List (Option Int)):Option Int->Int
 |some w=>(os.count (some w):Nat)
 |none=>0
theorem zce {α:Type}{os:List α}{i:Nat}{o:α}(h:os[i]?=some o):os.take (i+1)=os.take i++[o]:=by
 rw[List.take_add_one,h];rfl
theorem ziQ {os:List (Option Int)}{w:Int}(h:some w∈os):0<cntZ os (some w):=by
 have:=List.count_pos_iff.mpr h
 show (0:Int)<((os.count (some w):Nat):Int)
 omega
theorem zcE {α:Type}{xs:List α}{k:Nat}{x:α}(h:xs[k]?=some x):R.atI xs (k:Int)=some x:=by
 have hl:=(List.getElem?_eq_some_iff.mp h).1
 have e:R.ixN xs.length (k:Int)=some k:=by simp[R.ixN,hl]
 unfold R.atI
 rw[e];exact h
theorem zkn {α:Type}{x:α}{xs:List α}:R.atI (x::xs) 0=some x:=by
 have:R.ixN (x::xs).length 0=some 0:=by simp[R.ixN]
 unfold R.atI;rw[this];rfl
theorem zmZ {α:Type}{x y:α}{xs:List α}:R.atI (x::y::xs) 1=some y:=by
 have:R.ixN (x::y::xs).length 1=some 1:=by simp[R.ixN];omega
 unfold R.atI;rw[this];rfl
noncomputable def cellZ (ns:List Int)(k:Nat):Int:=match ns[k]? with|some v=>v % 10 ^ 64|none=>0
theorem zb6:∀ks:List Int,za8 (ks.map D.int)=some ks
 | []=>rfl
 | k :: ks => by
   unfold za8
   rw[List.map_cons,List.mapM_cons,show (ks.map D.int).mapM zdB=some ks from zb6 ks];rfl
end R
end
section
namespace R
noncomputable def topR (os:List (Option Int)):Int × Int:=match za0 (zah [] os) with|r::_=>r | []=>(0,0)
noncomputable def hnds (n:Nat):List Int:=(List.range n).map fun (k:Nat)=>(k:Int)
theorem zg2 (n:Nat):(hnds n).Nodup:=by
 unfold hnds List.Nodup
 rw[List.pairwise_map]
 exact List.Pairwise.imp (fun {a b} h e=>h (by exact_mod_cast e)) List.nodup_range
theorem hnds_mem {n:Nat}{x:Int}:x∈hnds n↔0<=x/\x<n:=by
 unfold hnds
 constructor
 · intro h
   obtain⟨k,hk,rfl⟩:=List.mem_map.mp h
   rw[List.mem_range] at hk
   omega
 · intro h
   exact List.mem_map.mpr ⟨x.toNat,List.mem_range.mpr (by omega),by omega⟩
end R
end
section
namespace R
noncomputable def zks (os:List (Option Int))(b:Int × Int):Prop:=((∀x,some x∉os)/\b=(0,0))\/(some b.1∈os/\b.2=cntZ os (some b.1)/\∀x,some x∈os->cntZ os (some x)<b.2\/(cntZ os (some x)=b.2/\b.1<=x))
theorem zik {os:List (Option Int)}{b d:Int × Int}(h:zks os b)(k:zks os d):b=d:=by
 obtain⟨b1,b2⟩:=b
 obtain⟨d1,d2⟩:=d
 rcases h with ⟨h1,h2⟩|⟨h1,h2,h3⟩
 · rcases k with ⟨k1,k2⟩|⟨k1,_⟩
   · rw[h2,k2]
   · exact absurd k1 (h1 _)
 · rcases k with ⟨k1,k2⟩|⟨k1,k2,k3⟩
   · exact absurd h1 (k1 _)
   · have p:=h3 _ k1
     have q:=k3 _ h1
     dsimp only at *
     have e:b1=d1:=by omega
     subst e
     rw[h2,k2]
theorem zlg (os:List (Option Int)):zks os (topR os):=by
 unfold topR
 cases e:za0 (zah [] os) with
 | nil =>
   refine .inl ⟨fun x hx=>?_,rfl⟩
   have:=(tal_mem (r:=(x,((os.count (some x):Nat):Int)))).mpr (counts_row.mpr ⟨hx,rfl⟩)
   rw[e] at this
   cases this
 | cons r rows =>
   have hr:r∈zah [] os:=tal_mem.mp (by rw[e];simp)
   obtain⟨r1,r2⟩:=r
   obtain⟨h1,h2⟩:=counts_row.mp hr
   refine .inr ⟨h1,h2,fun x hx=>?_⟩
   have:=(tal_mem (r:=(x,((os.count (some x):Nat):Int)))).mpr (counts_row.mpr ⟨hx,rfl⟩)
   have so:=zgM (zah [] os)
   rw[e] at this so
   rcases List.mem_cons.mp this with z|z
   · cases z;exact .inr ⟨rfl,Int.le_refl _⟩
   · have:=(List.pairwise_cons.mp so).1 _ z
     simp only[zcy,decide_eq_true_eq] at this
     show ((os.count (some x):Nat):Int)<r2\/_
     dsimp only at *
     show ((os.count (some x):Nat):Int)<r2\/(((os.count (some x):Nat):Int)=r2/\r1<=x)
     omega
structure Vp (n:Nat) (s:Int) (p:List Int):Prop where
 hd:p.head?=some s
 nd:p.Nodup
 rg:∀x∈p,0<=x/\x<n
section
variable {n t:Nat} {s word:Int} {liars:List Int} {L:Int->List Int->Option Int}
end
end R
end
section
namespace K24
section
open PySem R L2
noncomputable def zkY:Fn:=⟨1,4,.nil,some .road⟩
noncomputable def zfV:Fn:=⟨1,3,.nil,some .tally⟩
noncomputable def zkZ:Fn:=⟨1,2,(.asg 1 (.call 1 0 (.cons (.loc 0) .nil)) (.ret (.ite (.tst (.loc 1)) (.ix (.ix (.loc 1) (.con (D.int 0))) (.con (D.int 0))) (.con (D.int 0))) .nil)),none⟩
noncomputable def zcp:Fn:=⟨2,2,(.ifS (.cmp .Lt (.loc 1) (.bi .len (.cons (.loc 0) .nil))) (.ret (.bin .Mod (.ix (.loc 0) (.loc 1)) (.bin .Pow (.con (D.int 10)) (.con (D.int 64)))) .nil) .nil (.ret (.con (D.int 0)) .nil)),none⟩
noncomputable def zdR:Fn:=⟨1,1,(.ifS (.cmp .Eq (.bin .Mod (.loc 0) (.con (D.int 6))) (.con (D.int 0))) (.ret (.con D.non) .nil) .nil (.ifS (.cmp .Eq (.bin .Mod (.loc 0) (.con (D.int 6))) (.con (D.int 1))) (.ret (.bin .Sub (.bin .Mod (.bin .FloorDiv (.loc 0) (.con (D.int 6))) (.bin .Mult (.con (D.int 2)) (.bin .Pow (.con (D.int 10)) (.con (D.int 50))))) (.bin .Pow (.con (D.int 10)) (.con (D.int 50)))) .nil) .nil (.ifS (.cmp .Eq (.bin .Mod (.loc 0) (.con (D.int 6))) (.con (D.int 2))) (.ret (.bin .Mult (.bin .Sub (.bin .Sub (.bin .Pow (.con (D.int 10)) (.con (D.int 60))) (.con (D.int 1))) (.bin .Mod (.bin .FloorDiv (.loc 0) (.con (D.int 12))) (.con (D.int 9)))) (.ix (.lst (.cons (.con (D.int 1)) (.cons (.neg (.con (D.int 1))) .nil))) (.bin .Mod (.bin .FloorDiv (.loc 0) (.con (D.int 6))) (.con (D.int 2))))) .nil) .nil (.ret (.bin .Sub (.bin .Mod (.bin .FloorDiv (.loc 0) (.con (D.int 6))) (.con (D.int 7))) (.con (D.int 3))) .nil)))),none⟩
noncomputable def zcI:Fn:=⟨2,3,(.asg 0 (.bin .Mod (.loc 0) (.bin .Pow (.con (D.int 10)) (.con (D.int 64)))) (.ifS (.tst (.loc 1)) (.ret (.loc 0) .nil) .nil (.asg 2 (.bin .Mod (.bin .Mult (.loc 0) (.con (D.int 48271))) (.con (D.int 2147483647))) (.ret (.bin .Add (.bin .Mult (.bin .Mult (.loc 2) (.loc 2)) (.loc 2)) (.bin .Mult (.con (D.int 69621)) (.loc 2))) .nil)))),none⟩
noncomputable def zdT:Fn:=⟨2,6,(.asg 2 (.mkL (.rng1 (.loc 1))) (.asg 3 (.lst .nil) (.forS [4] (.rng1 (.loc 1)) (.expr (.mt .append (.loc 3) (.cons (.ix (.loc 2) (.bin .Mod (.loc 0) (.bi .len (.cons (.loc 2) .nil)))) .nil)) (.asg 0 (.bin .FloorDiv (.loc 0) (.bi .len (.cons (.loc 2) .nil))) (.asg 2 (.mkL (.comp 1 [3] [0] (.val (.loc 2)) (.cmp .NotIn (.loc 0) (.loc 1)) (.loc 0))) .nil))) (.asg 5 (.bin .Add (.con (D.int 1)) (.bin .Mod (.loc 0) (.bin .Sub (.loc 1) (.con (D.int 1))))) (.asg 0 (.bin .FloorDiv (.loc 0) (.bin .Sub (.loc 1) (.con (D.int 1)))) (.ret (.tup (.cons (.bin .Add (.con (D.int 1)) (.bin .Mod (.loc 0) (.con (D.int 6)))) (.cons (.mkT (.val (.sl (.loc 3) false true (.con .non) (.loc 5)))) (.cons (.ix (.loc 3) (.loc 5)) (.cons (.call 4 0 (.cons (.bin .FloorDiv (.loc 0) (.con (D.int 6))) .nil)) .nil))))) .nil)))))),none⟩
noncomputable def c_law_drawn:Fn:=⟨4,5,(.asg 4 (.cmp .Eq (.bin .Mod (.bin .FloorDiv (.call 3 0 (.cons (.loc 0) (.cons (.con (D.int 1)) .nil))) (.con (D.int 8))) (.con (D.int 2))) (.con (D.int 1))) (.ret (.mkL (.comp 1 [3,4] [0] (.val (.sl (.loc 0) true true (.loc 1) (.loc 2))) (.tst (.con (D.bl true))) (.call 6 0 (.cons (.call 5 0 (.cons (.loc 0) (.cons (.loc 2) .nil))) (.cons (.loc 1) .nil))))) .nil)),none⟩
noncomputable def zdU:Fn:=⟨4,6,(.asg 4 (.call 7 0 (.cons (.loc 0) (.cons (.con (D.int 30)) (.cons (.loc 2) (.cons (.loc 3) .nil))))) (.forS [5] (.rng1 (.bi .min2 (.cons (.bi .len (.cons (.loc 4) .nil)) (.cons (.bi .len (.cons (.loc 1) .nil)) .nil)))) (.ifS (.cmp .Eq (.bin .Mod (.bin .FloorDiv (.call 3 0 (.cons (.loc 0) (.cons (.bin .Add (.con (D.int 30)) (.loc 5)) .nil))) (.con (D.int 5))) (.con (D.int 2))) (.con (D.int 1))) (.setIx (.loc 4) (.loc 5) (.bin .Add (.sl (.ix (.loc 1) (.loc 5)) false true (.con .non) (.con (D.int 3))) (.tup (.cons (.ix (.ix (.loc 4) (.loc 5)) (.con (D.int 3))) .nil))) .nil) .nil .nil) (.ret (.loc 4) .nil))),none⟩
noncomputable def zdV:Fn:=⟨2,4,(.asg 2 (.ix (.loc 1) (.con (D.int 3))) (.forS [3] (.val (.loc 0)) (.ifS (.cmp .Eq (.sl (.loc 3) false true (.con .non) (.con (D.int 3))) (.sl (.loc 1) false true (.con .non) (.con (D.int 3)))) (.asg 2 (.ix (.loc 3) (.con (D.int 3))) .nil) .nil .nil) (.ret (.loc 2) .nil))),none⟩
noncomputable def zdS:Fn:=⟨2,2,(.ifS (.cmp .Is (.loc 1) (.con D.non)) (.ret (.cmp .Is (.loc 0) (.con D.non)) .nil) .nil (.ret (.and (.bi (.isin "int") (.cons (.loc 0) .nil)) (.and (.nt (.bi (.isin "bool") (.cons (.loc 0) .nil))) (.cmp .Eq (.loc 0) (.loc 1)))) .nil)),none⟩
noncomputable def zdm:Fn:=⟨2,3,(.ifS (.or (.nt (.tst (.bi (.isin "list") (.cons (.loc 0) .nil)))) (.cmp .NotEq (.bi .len (.cons (.loc 0) .nil)) (.bi .len (.cons (.loc 1) .nil)))) (.ret (.con (D.bl false)) .nil) .nil (.forS [2] (.rng1 (.bi .len (.cons (.loc 1) .nil))) (.ifS (.or (.nt (.tst (.bi (.isin "tuple") (.cons (.ix (.loc 0) (.loc 2)) .nil)))) (.or (.cmp .NotEq (.bi .len (.cons (.ix (.loc 0) (.loc 2)) .nil)) (.con (D.int 3))) (.cmp .NotEq (.sl (.ix (.loc 0) (.loc 2)) false true (.con .non) (.con (D.int 2))) (.sl (.ix (.loc 1) (.loc 2)) false true (.con .non) (.con (D.int 2)))))) (.ret (.con (D.bl false)) .nil) .nil (.ifS (.nt (.tst (.call 10 0 (.cons (.ix (.ix (.loc 0) (.loc 2)) (.con (D.int 2))) (.cons (.ix (.ix (.loc 1) (.loc 2)) (.con (D.int 2))) .nil))))) (.ret (.con (D.bl false)) .nil) .nil .nil)) (.ret (.con (D.bl true)) .nil))),none⟩
noncomputable def c_law_made:Fn:=⟨4,7,(.asg 4 (.mkL (.val (.loc 2))) (.ifS (.nt (.tst (.loc 3))) (.asg 5 (.mk 0 19 "Liar" 0 (.cons (.loc 0) (.cons (.loc 4) .nil))) (.asg 6 (.loc 1) .nil)) (.asg 4 (.slS (.loc 2) (.con (D.int 2))) (.asg 5 (.mk 0 19 "Liar" 0 (.cons (.mk 0 19 "Liar" 0 (.cons (.loc 0) (.cons (.slS (.loc 2) (.neg (.con (D.int 1)))) .nil))) (.cons (.loc 4) .nil))) (.asg 6 (.mkL (.comp 1 [2] [0] (.val (.loc 1)) (.tst (.con (D.bl true))) (.bin .Add (.sl (.loc 0) false true (.con .non) (.con (D.int 3))) (.tup (.cons (.call 9 0 (.cons (.slS (.loc 1) (.neg (.con (D.int 1)))) (.cons (.loc 0) .nil))) .nil))))) (.asg 2 (.slS (.loc 2) (.con (D.int 2))) .nil)))) (.ifS (.cmp .NotEq (.loc 4) (.loc 2)) (.ret (.tup (.cons (.con D.non) (.cons (.loc 6) (.cons (.loc 2) .nil)))) .nil) .nil (.expr (.clr (.loc 4)) (.ret (.tup (.cons (.loc 5) (.cons (.loc 6) (.cons (.loc 2) .nil)))) .nil))))),none⟩
noncomputable def zbt:Fn:=⟨2,4,(.asg 2 (.fld (.loc 0) "inner") (.ifS (.tst (.isc [0] "Liar" (.loc 2))) (.asg 2 (.fld (.loc 2) "inner") .nil) .nil (.asg 3 (.meth "came" [(2,28)] (.loc 2) .nil) (.ifS (.nt (.tst (.call 11 0 (.cons (.loc 3) (.cons (.loc 1) .nil))))) (.ret (.con (D.bl false)) .nil) .nil (.expr (.mt .append (.loc 3) (.cons (.tup (.cons (.con (D.int 1)) (.cons (.tup (.cons (.con (D.int 0)) .nil)) (.cons (.con (D.int 0)) .nil)))) .nil)) (.ret (.con (D.bl true)) .nil)))))),none⟩
noncomputable def c_law_says:Fn:=⟨6,10,(.asg 6 (.mkL (.comp 1 [5] [0] (.val (.loc 2)) (.cmp .Eq (.ix (.loc 0) (.con (D.int 0))) (.loc 1)) (.tup (.cons (.ix (.loc 0) (.con (D.int 1))) (.cons (.ix (.loc 0) (.con (D.int 2))) (.cons (.ix (.loc 0) (.con (D.int 3))) .nil)))))) (.asg 7 (.mkL (.comp 1 [4,5] [0] (.val (.loc 3)) (.cmp .Eq (.ix (.loc 0) (.con (D.int 0))) (.loc 2)) (.tup (.cons (.ix (.loc 0) (.con (D.int 1))) (.cons (.ix (.loc 0) (.con (D.int 2))) (.cons (.call 9 0 (.cons (.loc 1) (.cons (.loc 0) .nil))) .nil)))))) (.asg 8 (.meth "say" [(0,22),(1,26),(2,31)] (.loc 1) (.cons (.loc 5) .nil)) (.asg 9 (.meth "say" [(0,22),(1,26),(2,31)] (.loc 0) (.cons (.loc 5) .nil)) (.ifS (.or (.nt (.tst (.call 11 0 (.cons (.loc 8) (.cons (.loc 7) .nil))))) (.nt (.tst (.call 11 0 (.cons (.loc 9) (.cons (.loc 6) .nil)))))) (.ret (.con (D.bl false)) .nil) .nil (.expr (.mt .append (.loc 8) (.cons (.tup (.cons (.tup (.cons (.con (D.int 0)) .nil)) (.cons (.con (D.int 0)) (.cons (.con (D.int 0)) .nil)))) .nil)) (.expr (.mt .append (.loc 9) (.cons (.tup (.cons (.tup (.cons (.con (D.int 0)) .nil)) (.cons (.con (D.int 0)) (.cons (.con (D.int 0)) .nil)))) .nil)) (.ret (.and (.call 11 0 (.cons (.meth "say" [(0,22),(1,26),(2,31)] (.loc 1) (.cons (.loc 5) .nil)) (.cons (.loc 7) .nil))) (.call 11 0 (.cons (.meth "say" [(0,22),(1,26),(2,31)] (.loc 0) (.cons (.loc 5) .nil)) (.cons (.loc 6) .nil)))) .nil)))))))),none⟩
noncomputable def zdW:Fn:=⟨1,5,(.asg 1 (.con (D.int 0)) (.asg 2 (.con (D.int 0)) (.forS [3] (.val (.loc 0)) (.asg 4 (.bi .len (.cons (.mkL (.comp 1 [3] [0] (.val (.loc 0)) (.and (.cmp .IsNot (.loc 0) (.con D.non)) (.cmp .Eq (.loc 0) (.loc 1))) (.loc 0))) .nil)) (.ifS (.or (.cmp .Gt (.loc 4) (.loc 2)) (.and (.cmp .Eq (.loc 4) (.loc 2)) (.and (.cmp .Gt (.loc 4) (.con (D.int 0))) (.cmp .Lt (.loc 3) (.loc 1))))) (.asg 1 (.loc 3) (.asg 2 (.loc 4) .nil)) .nil .nil)) (.ret (.loc 1) .nil)))),none⟩
noncomputable def zcJ:Fn:=⟨4,4,(.ret (.cmp .Eq (.lst (.cons (.fld (.loc 0) "number") (.cons (.fld (.loc 0) "many") (.cons (.fld (.loc 0) "rounds") .nil)))) (.lst (.cons (.loc 1) (.cons (.loc 2) (.cons (.loc 3) .nil))))) .nil),none⟩
noncomputable def zdl:Fn:=⟨3,4,(.asg 3 (.mk 1 23 "Hand" 0 (.cons (.loc 0) (.cons (.loc 1) (.cons (.loc 2) .nil)))) (.ifS (.or (.cmp .IsNot (.meth "hear" [(0,21),(1,25),(2,30)] (.loc 3) (.cons (.con (D.int 1)) (.cons (.lst (.cons (.tup (.cons (.tup (.cons (.con (D.int 0)) .nil)) (.cons (.con (D.int 5)) .nil))) .nil)) .nil))) (.con D.non)) (.or (.cmp .NotEq (.meth "say" [(0,22),(1,26),(2,31)] (.loc 3) (.cons (.con (D.int 1)) .nil)) (.lst .nil)) (.cmp .NotEq (.meth "say" [(0,22),(1,26),(2,31)] (.loc 3) (.cons (.loc 2) .nil)) (.lst .nil)))) (.ret (.con (D.bl false)) .nil) .nil (.ret (.and (.call 16 0 (.cons (.loc 3) (.cons (.loc 0) (.cons (.loc 1) (.cons (.loc 2) .nil))))) (.call 10 0 (.cons (.meth "ending" [(0,20),(1,24),(2,29)] (.loc 3) .nil) (.cons (.con (D.int 0)) .nil)))) .nil))),none⟩
noncomputable def c_law:Fn:=⟨1,16,(.asg 1 (.bin .Add (.con (D.int 2)) (.bin .Mod (.call 3 0 (.cons (.loc 0) (.cons (.con (D.int 0)) .nil))) (.con (D.int 6)))) (.asg 2 (.bin .Mod (.call 3 0 (.cons (.loc 0) (.cons (.con (D.int 1)) .nil))) (.loc 1)) (.asg 3 (.bin .Add (.con (D.int 1)) (.bin .Mod (.call 3 0 (.cons (.loc 0) (.cons (.con (D.int 2)) .nil))) (.con (D.int 6)))) (.asg 4 (.call 7 0 (.cons (.loc 0) (.cons (.con (D.int 5)) (.cons (.con (D.int 30)) (.cons (.loc 1) .nil))))) (.asg 5 (.bin .Add (.con (D.int 30)) (.bin .Mod (.call 3 0 (.cons (.loc 0) (.cons (.con (D.int 3)) .nil))) (.con (D.int 20)))) (.asg 6 (.call 8 0 (.cons (.loc 0) (.cons (.loc 4) (.cons (.loc 5) (.cons (.loc 1) .nil))))) (.asg 7 (.mkL (.val (.loc 4))) (.asg 8 (.mk 2 27 "Scribe" 0 (.cons (.loc 2) (.cons (.loc 1) (.cons (.loc 3) (.cons (.loc 7) .nil))))) (.asgT [9,10,6] (.callW 12 0 (.cons (.loc 8) (.cons (.loc 4) (.cons (.loc 6) (.cons (.cmp .Eq (.bin .Mod (.bin .FloorDiv (.call 3 0 (.cons (.loc 0) (.cons (.con (D.int 3)) .nil))) (.con (D.int 20))) (.con (D.int 2))) (.con (D.int 1))) .nil))))) (.ifS (.or (.cmp .NotEq (.loc 7) (.loc 4)) (.cmp .Is (.loc 9) (.con D.non))) (.ret (.con (D.bl false)) .nil) .nil (.expr (.clr (.loc 7)) (.asg 11 (.lst .nil) (.forS [12] (.rng2 (.con (D.int 1)) (.bin .Add (.loc 3) (.con (D.int 1)))) (.ifS (.nt (.tst (.call 14 0 (.cons (.loc 8) (.cons (.loc 9) (.cons (.loc 4) (.cons (.loc 10) (.cons (.loc 6) (.cons (.loc 12) .nil))))))))) (.ret (.con (D.bl false)) .nil) .nil (.asg 13 (.mkL (.comp 1 [12] [0] (.callL 7 0 (.cons (.loc 0) (.cons (.loc 5) (.cons (.con (D.int 62)) (.cons (.loc 1) .nil))))) (.cmp .Eq (.ix (.loc 0) (.con (D.int 0))) (.loc 1)) (.tup (.cons (.ix (.loc 0) (.con (D.int 1))) (.cons (.ix (.loc 0) (.con (D.int 3))) .nil))))) (.asg 11 (.bin .Add (.loc 11) (.mkL (.comp 2 [12] [0,1] (.val (.loc 13)) (.tst (.con (D.bl true))) (.tup (.cons (.loc 2) (.cons (.loc 0) (.cons (.loc 1) .nil))))))) (.ifS (.or (.cmp .IsNot (.meth "hear" [(0,21),(1,25),(2,30)] (.loc 9) (.cons (.loc 12) (.cons (.loc 13) .nil))) (.con D.non)) (.cmp .NotEq (.bi .len (.cons (.loc 13) .nil)) (.bi .len (.cons (.mkL (.comp 1 [12] [0] (.val (.loc 11)) (.cmp .Eq (.ix (.loc 0) (.con (D.int 0))) (.loc 1)) (.loc 0))) .nil)))) (.ret (.con (D.bl false)) .nil) .nil (.expr (.mt .append (.loc 13) (.cons (.tup (.cons (.tup (.cons (.con (D.int 0)) .nil)) (.cons (.con (D.int 0)) .nil))) .nil)) .nil))))) (.ifS (.nt (.tst (.call 13 0 (.cons (.loc 9) (.cons (.loc 11) .nil))))) (.ret (.con (D.bl false)) .nil) .nil (.asg 14 (.call 15 0 (.cons (.mkL (.comp 1 [] [0] (.val (.loc 11)) (.tst (.con (D.bl true))) (.ix (.loc 0) (.con (D.int 2))))) .nil)) (.ifS (.or (.nt (.tst (.call 11 0 (.cons (.meth "came" [(2,28)] (.loc 8) .nil) (.cons (.loc 11) .nil))))) (.nt (.tst (.call 10 0 (.cons (.meth "ending" [(0,20),(1,24),(2,29)] (.loc 9) .nil) (.cons (.loc 14) .nil)))))) (.ret (.con (D.bl false)) .nil) .nil (.ifS (.or (.nt (.tst (.isc [0,1,2] "Hand" (.loc 8)))) (.or (.nt (.tst (.isc [0,1,2] "Hand" (.loc 9)))) (.tst (.isc [0] "Liar" (.loc 8))))) (.ret (.con (D.bl false)) .nil) .nil (.asg 15 (.and (.call 16 0 (.cons (.loc 8) (.cons (.loc 2) (.cons (.loc 1) (.cons (.loc 3) .nil))))) (.call 16 0 (.cons (.loc 9) (.cons (.loc 2) (.cons (.loc 1) (.cons (.loc 3) .nil)))))) (.ret (.and (.loc 15) (.and (.call 10 0 (.cons (.meth "ending" [(0,20),(1,24),(2,29)] (.loc 8) .nil) (.cons (.loc 14) .nil))) (.call 17 0 (.cons (.loc 2) (.cons (.loc 1) (.cons (.loc 3) .nil)))))) .nil))))))))))))))))))),none⟩
noncomputable def zdn:Fn:=⟨3,3,(.expr (.callC 23 "Hand" "__init__" (.cons (.loc 0) (.cons (.fld (.loc 1) "number") (.cons (.fld (.loc 1) "many") (.cons (.fld (.loc 1) "rounds") .nil))))) (.setF (.loc 0) "inner" (.loc 1) (.setF (.loc 0) "lies" (.mkT (.val (.loc 2))) .nil))),none⟩
noncomputable def zct:Fn:=⟨1,1,(.ret (.meth "ending" [(0,20),(1,24),(2,29)] (.fld (.loc 0) "inner") .nil) .nil),none⟩
noncomputable def zdo:Fn:=⟨3,3,(.expr (.meth "hear" [(0,21),(1,25),(2,30)] (.fld (.loc 0) "inner") (.cons (.loc 1) (.cons (.loc 2) .nil))) .nil),none⟩
noncomputable def zdX:Fn:=⟨2,3,(.asg 2 (.call 0 0 (.cons (.fld (.loc 0) "lies") .nil)) (.ret (.mkL (.comp 3 [2,1] [0,1,2] (.val (.meth "say" [(0,22),(1,26),(2,31)] (.fld (.loc 0) "inner") (.cons (.loc 1) .nil))) (.tst (.con (D.bl true))) (.tup (.cons (.loc 0) (.cons (.loc 1) (.cons (.callV (.loc 3) (.cons (.loc 4) (.cons (.loc 0) (.cons (.loc 1) (.cons (.loc 2) .nil))))) .nil)))))) .nil)),none⟩
noncomputable def zcb:Fn:=⟨4,4,(.setF (.loc 0) "number" (.loc 1) (.setF (.loc 0) "many" (.loc 2) (.setF (.loc 0) "rounds" (.loc 3) .nil))),none⟩
noncomputable def zcu:Fn:=⟨1,1,(.ret (.con (D.int 0)) .nil),none⟩
noncomputable def zdp:Fn:=⟨3,3,(.pass .nil),none⟩
noncomputable def zdY:Fn:=⟨2,2,(.ret (.lst .nil) .nil),none⟩
noncomputable def zcq:Fn:=⟨5,5,(.expr (.callC 23 "Hand" "__init__" (.cons (.loc 0) (.cons (.loc 1) (.cons (.loc 2) (.cons (.loc 3) .nil))))) (.setF (.loc 0) "lines" (.mkT (.val (.loc 4))) (.setF (.loc 0) "arrived" (.lst .nil) .nil))),none⟩
noncomputable def zcs:Fn:=⟨1,1,(.ret (.mkL (.val (.fld (.loc 0) "arrived"))) .nil),none⟩
noncomputable def zbH:Fn:=⟨1,1,(.ret (.call 2 0 (.cons (.mkL (.comp 3 [] [0,1,2] (.val (.fld (.loc 0) "arrived")) (.tst (.con (D.bl true))) (.loc 2))) .nil)) .nil),none⟩
noncomputable def zcr:Fn:=⟨3,3,(.expr (.ext (.fld (.loc 0) "arrived") (.comp 2 [1] [0,1] (.val (.loc 2)) (.tst (.con (D.bl true))) (.tup (.cons (.loc 2) (.cons (.loc 0) (.cons (.loc 1) .nil)))))) .nil),none⟩
noncomputable def zcK:Fn:=⟨2,2,(.ret (.mkL (.comp 1 [1] [0] (.val (.fld (.loc 0) "lines")) (.cmp .Eq (.ix (.loc 0) (.con (D.int 0))) (.loc 1)) (.sl (.loc 0) true false (.con (D.int 1)) (.con .non)))) .nil),none⟩
noncomputable def prog:List Fn:=[zkY,zfV,zkZ,zcp,zdR,zcI,zdT,c_law_drawn,zdU,zdV,zdS,zdm,c_law_made,zbt,c_law_says,zdW,zcJ,zdl,c_law,zdn,zct,zdo,zdX,zcb,zcu,zdp,zdY,zcq,zcs,zbH,zcr,zcK]
noncomputable def top (i:Nat):Stmt:=PySem.Challenge.pw_traitorround_k24_scribes_and_liars.main.body.getD i (.Pass ⟨0,0,0,0⟩)
noncomputable abbrev zcA:Stmt:=top 1
noncomputable abbrev zch:Stmt:=top 4
noncomputable abbrev zlT:Stmt:=top 5
noncomputable abbrev zdv:Stmt:=top 11
noncomputable abbrev zfm:Stmt:=top 12
noncomputable abbrev zd9:Stmt:=top 13
noncomputable abbrev zfq:Stmt:=top 14
noncomputable abbrev zeL:Stmt:=top 15
noncomputable abbrev zfr:Stmt:=top 16
noncomputable abbrev zfs:Stmt:=top 17
noncomputable abbrev zfo:Stmt:=top 18
noncomputable abbrev zeM:Stmt:=top 19
noncomputable abbrev zfp:Stmt:=top 20
noncomputable abbrev zcB:Stmt:=top 21
noncomputable abbrev zfn:Stmt:=top 22
noncomputable abbrev zft:Stmt:=top 23
noncomputable abbrev zea:Stmt:=top 24
noncomputable abbrev zeK:Stmt:=top 25
noncomputable abbrev zn8:Stmt:=top 26
noncomputable def zcC (s:Stmt)(j:Nat):Stmt:=match s with|.ClassDef _ _ _ b _ _ _ _ _ _ _=>b.getD j (.Pass ⟨0,0,0,0⟩)|s=>s
noncomputable abbrev zeN:Stmt:=zcC (top 9) 0
noncomputable abbrev zdz:Stmt:=zcC (top 9) 3
noncomputable abbrev zeO:Stmt:=zcC (top 9) 2
noncomputable abbrev zfu:Stmt:=zcC (top 9) 1
noncomputable abbrev zeP:Stmt:=zcC (top 7) 0
noncomputable abbrev zdA:Stmt:=zcC (top 7) 3
noncomputable abbrev zeQ:Stmt:=zcC (top 7) 2
noncomputable abbrev zfv:Stmt:=zcC (top 7) 1
noncomputable abbrev zdw:Stmt:=zcC (top 8) 0
noncomputable abbrev zdy:Stmt:=zcC (top 8) 3
noncomputable abbrev zcO:Stmt:=zcC (top 8) 4
noncomputable abbrev zdx:Stmt:=zcC (top 8) 2
noncomputable abbrev zeb:Stmt:=zcC (top 8) 1
noncomputable abbrev zhC:Stmt:=(zan zcA).getD 2 (.Pass ⟨0,0,0,0⟩)
theorem zo6:CloSt zhC:=⟨⟨_,_,_,_,_,_,_,_,_,_,rfl,rfl⟩,rfl,rfl,rfl,by decide +kernel,by decide +kernel,rfl,rfl,rfl,rfl,rfl,fun _ _ _ _ _ _ _ _ _=>rfl,⟨_,rfl⟩,rfl,rfl,fun _=>rfl,fun _ _ h=>zmS rfl h⟩
noncomputable instance mks:R.Mks:={ts:=[(16,"road.<locals>.word_on_arrival"),(23,"tally.<locals>.<lambda>")],cl:=[154,73,116],rs:=some zhC,ro:=zo6}
noncomputable def tab:Tab:=⟨["bool","int","isinstance","len","list","min","range","sorted","tuple"],[("STILL",(D.int 0))],[("road",["lies"],0),("tally",["words"],0),("most",["words"],0),("_law_cell_at",["_law_script","_law_k"],0),("_law_word",["_law_cell"],0),("_law_spread",["_law_cell","_law_digits"],0),("_law_line",["_law_cell","_law_many"],0),("_law_drawn",["_law_script","_law_start","_law_cut","_law_many"],0),("_law_lies",["_law_script","_law_lines","_law_cut","_law_many"],0),("_law_last",["_law_lies_here","_law_line_here"],0),("_law_same",["_law_found","_law_due"],0),("_law_alike",["_law_found","_law_due"],0),("_law_made",["_law_scribe","_law_lines","_law_lies_here","_law_twice"],0),("_law_inner_came",["_law_liar","_law_due"],0),("_law_says",["_law_scribe","_law_liar","_law_lines","_law_told","_law_lies_here","_law_turn"],0),("_law_best",["_law_words"],0),("_law_fields",["_law_one","_law_number","_law_many","_law_rounds"],0),("_law_plain",["_law_number","_law_many","_law_rounds"],0),("law",["_law_script"],0)],["Liar","Hand","Scribe"],["number","many","rounds","lines","arrived","inner","lies"],[(2,"came",28),(0,"ending",20),(1,"ending",24),(2,"ending",29),(0,"hear",21),(1,"hear",25),(2,"hear",30),(0,"say",22),(1,"say",26),(2,"say",31)],[(0,19,0),(1,23,0),(2,27,0)],[("Hand","__init__",23)],[("Liar",[0]),("Hand",[0,1,2])]⟩
theorem zlK:RoadSt zcA:=⟨⟨_,_,zhC,_,_,rfl,rfl,by decide +kernel⟩,⟨rfl,rfl,rfl,by decide +kernel,rfl,by decide +kernel,by decide +kernel⟩,rfl,rfl⟩
theorem zi2:TallySt zch:=⟨⟨_,_,_,_,_,_,_,_,_,_,_,_,_,_,_,_,_,_,_,_,_,_,_,_,_,_,_,_,_,_,_,_,rfl,rfl,rfl,fun _=>rfl,fun _=>rfl,⟨rfl,rfl,rfl,by decide +kernel,rfl,by decide +kernel,by decide +kernel⟩,by decide +kernel,fun _ _ _ _ _=>rfl⟩,⟨rfl,rfl,rfl,by decide +kernel,rfl,by decide +kernel,by decide +kernel⟩,rfl,rfl,rfl,rfl⟩
theorem ok_most:OkD tab prog 2 "most" "most" ["words"] zlT:=zaB ["words","rows"] rfl (by decide +kernel) fun _ _ _ _ _ _ us hl=>match us,hl with | [_],_=>rfl
theorem ok_law_cell_at:OkD tab prog 3 "_law_cell_at" "_law_cell_at" ["_law_script","_law_k"] zdv:=zaB ["_law_script","_law_k"] rfl (by decide +kernel) fun _ _ _ _ _ _ us hl=>match us,hl with | [_,_],_=>rfl
theorem ok_law_word:OkD tab prog 4 "_law_word" "_law_word" ["_law_cell"] zfm:=zaB ["_law_cell"] rfl (by decide +kernel) fun _ _ _ _ _ _ us hl=>match us,hl with | [_],_=>rfl
theorem ok_law_spread:OkD tab prog 5 "_law_spread" "_law_spread" ["_law_cell","_law_digits"] zd9:=zaB ["_law_cell","_law_digits","_law_number"] rfl (by decide +kernel) fun _ _ _ _ _ _ us hl=>match us,hl with | [_,_],_=>rfl
theorem ok_law_line:OkD tab prog 6 "_law_line" "_law_line" ["_law_cell","_law_many"] zfq:=zaB ["_law_cell","_law_many","_law_left","_law_order","_law_k","_law_size"] rfl (by decide +kernel) fun _ _ _ _ _ _ us hl=>match us,hl with | [_,_],_=>rfl
theorem ok_law_drawn:OkD tab prog 7 "_law_drawn" "_law_drawn" ["_law_script","_law_start","_law_cut","_law_many"] zeL:=zaB ["_law_script","_law_start","_law_cut","_law_many","_law_digits"] rfl (by decide +kernel) fun _ _ _ _ _ _ us hl=>match us,hl with | [_,_,_,_],_=>rfl
theorem ok_law_lies:OkD tab prog 8 "_law_lies" "_law_lies" ["_law_script","_law_lines","_law_cut","_law_many"] zfr:=zaB ["_law_script","_law_lines","_law_cut","_law_many","_law_lies_here","_law_k"] rfl (by decide +kernel) fun _ _ _ _ _ _ us hl=>match us,hl with | [_,_,_,_],_=>rfl
theorem ok_law_last:OkD tab prog 9 "_law_last" "_law_last" ["_law_lies_here","_law_line_here"] zfs:=zaB ["_law_lies_here","_law_line_here","_law_found","_law_lie"] rfl (by decide +kernel) fun _ _ _ _ _ _ us hl=>match us,hl with | [_,_],_=>rfl
theorem ok_law_same:OkD tab prog 10 "_law_same" "_law_same" ["_law_found","_law_due"] zfo:=zaB ["_law_found","_law_due"] rfl (by decide +kernel) fun _ _ _ _ _ _ us hl=>match us,hl with | [_,_],_=>rfl
theorem ok_law_alike:OkD tab prog 11 "_law_alike" "_law_alike" ["_law_found","_law_due"] zeM:=zaB ["_law_found","_law_due","_law_k"] rfl (by decide +kernel) fun _ _ _ _ _ _ us hl=>match us,hl with | [_,_],_=>rfl
theorem ok_law_made:OkD tab prog 12 "_law_made" "_law_made" ["_law_scribe","_law_lines","_law_lies_here","_law_twice"] zfp:=zaB ["_law_scribe","_law_lines","_law_lies_here","_law_twice","_law_handed","_law_liar","_law_told"] rfl (by decide +kernel) fun _ _ _ _ _ _ us hl=>match us,hl with | [_,_,_,_],_=>rfl
theorem ok_law_inner_came:OkD tab prog 13 "_law_inner_came" "_law_inner_came" ["_law_liar","_law_due"] zcB:=zaB ["_law_liar","_law_due","_law_inner","_law_found"] rfl (by decide +kernel) fun _ _ _ _ _ _ us hl=>match us,hl with | [_,_],_=>rfl
theorem ok_law_says:OkD tab prog 14 "_law_says" "_law_says" ["_law_scribe","_law_liar","_law_lines","_law_told","_law_lies_here","_law_turn"] zfn:=zaB ["_law_scribe","_law_liar","_law_lines","_law_told","_law_lies_here","_law_turn","_law_mine","_law_turned","_law_kept","_law_own"] rfl (by decide +kernel) fun _ _ _ _ _ _ us hl=>match us,hl with | [_,_,_,_,_,_],_=>rfl
theorem ok_law_best:OkD tab prog 15 "_law_best" "_law_best" ["_law_words"] zft:=zaB ["_law_words","_law_best_here","_law_often","_law_one","_law_many"] rfl (by decide +kernel) fun _ _ _ _ _ _ us hl=>match us,hl with | [_],_=>rfl
theorem ok_law_fields:OkD tab prog 16 "_law_fields" "_law_fields" ["_law_one","_law_number","_law_many","_law_rounds"] zea:=zaB ["_law_one","_law_number","_law_many","_law_rounds"] rfl (by decide +kernel) fun _ _ _ _ _ _ us hl=>match us,hl with | [_,_,_,_],_=>rfl
theorem ok_law_plain:OkD tab prog 17 "_law_plain" "_law_plain" ["_law_number","_law_many","_law_rounds"] zeK:=zaB ["_law_number","_law_many","_law_rounds","_law_one"] rfl (by decide +kernel) fun _ _ _ _ _ _ us hl=>match us,hl with | [_,_,_],_=>rfl
theorem ok_law:OkD tab prog 18 "law" "law" ["_law_script"] zn8:=zaB ["_law_script","_law_many","_law_number","_law_rounds","_law_lines","_law_cut","_law_lies_here","_law_handed","_law_scribe","_law_liar","_law_told","_law_due","_law_turn","_law_came","_law_best_here","_law_fields_here"] rfl (by decide +kernel) fun _ _ _ _ _ _ us hl=>match us,hl with | [_],_=>rfl
theorem ok_Liar_init:OkD tab prog 19 "__init__" "Liar.__init__" ["self","inner","lies"] zeN:=zaB ["self","inner","lies"] rfl (by decide +kernel) fun _ _ _ _ _ _ us hl=>match us,hl with | [_,_,_],_=>rfl
theorem ok_Liar_ending:OkD tab prog 20 "ending" "Liar.ending" ["self"] zdz:=zaB ["self"] rfl (by decide +kernel) fun _ _ _ _ _ _ us hl=>match us,hl with | [_],_=>rfl
theorem ok_Liar_hear:OkD tab prog 21 "hear" "Liar.hear" ["self","turn","letters"] zeO:=zaB ["self","turn","letters"] rfl (by decide +kernel) fun _ _ _ _ _ _ us hl=>match us,hl with | [_,_,_],_=>rfl
theorem ok_Liar_say:OkD tab prog 22 "say" "Liar.say" ["self","turn"] zfu:=zaB ["self","turn","bent"] rfl (by decide +kernel) fun _ _ _ _ _ _ us hl=>match us,hl with | [_,_],_=>rfl
theorem ok_Hand_init:OkD tab prog 23 "__init__" "Hand.__init__" ["self","number","many","rounds"] zeP:=zaB ["self","number","many","rounds"] rfl (by decide +kernel) fun _ _ _ _ _ _ us hl=>match us,hl with | [_,_,_,_],_=>rfl
theorem ok_Hand_ending:OkD tab prog 24 "ending" "Hand.ending" ["self"] zdA:=zaB ["self"] rfl (by decide +kernel) fun _ _ _ _ _ _ us hl=>match us,hl with | [_],_=>rfl
theorem ok_Hand_hear:OkD tab prog 25 "hear" "Hand.hear" ["self","turn","letters"] zeQ:=zaB ["self","turn","letters"] rfl (by decide +kernel) fun _ _ _ _ _ _ us hl=>match us,hl with | [_,_,_],_=>rfl
theorem ok_Hand_say:OkD tab prog 26 "say" "Hand.say" ["self","turn"] zfv:=zaB ["self","turn"] rfl (by decide +kernel) fun _ _ _ _ _ _ us hl=>match us,hl with | [_,_],_=>rfl
theorem ok_Scribe_init:OkD tab prog 27 "__init__" "Scribe.__init__" ["self","number","many","rounds","lines"] zdw:=zaB ["self","number","many","rounds","lines"] rfl (by decide +kernel) fun _ _ _ _ _ _ us hl=>match us,hl with | [_,_,_,_,_],_=>rfl
theorem ok_Scribe_came:OkD tab prog 28 "came" "Scribe.came" ["self"] zdy:=zaB ["self"] rfl (by decide +kernel) fun _ _ _ _ _ _ us hl=>match us,hl with | [_],_=>rfl
theorem ok_Scribe_ending:OkD tab prog 29 "ending" "Scribe.ending" ["self"] zcO:=zaB ["self"] rfl (by decide +kernel) fun _ _ _ _ _ _ us hl=>match us,hl with | [_],_=>rfl
theorem ok_Scribe_hear:OkD tab prog 30 "hear" "Scribe.hear" ["self","turn","letters"] zdx:=zaB ["self","turn","letters"] rfl (by decide +kernel) fun _ _ _ _ _ _ us hl=>match us,hl with | [_,_,_],_=>rfl
theorem ok_Scribe_say:OkD tab prog 31 "say" "Scribe.say" ["self","turn"] zeb:=zaB ["self","turn"] rfl (by decide +kernel) fun _ _ _ _ _ _ us hl=>match us,hl with | [_,_],_=>rfl
end
section
open R
theorem plen (S:R.St)(o:MO):(S.push o).len=S.len+1:=by simp[St.push,St.len];omega
theorem W_ex {α:Type}{o:Out α}{Q:α->R.St->Prop}(h:W o Q):∃a T,o=.ok a T/\Q a T:=W.iff.mp h
noncomputable abbrev pD (p:List Int):D:=.tup (p.map .int)
theorem enter_len (S:R.St):S.enter.len=S.len:=by simp[St.enter,St.len]
theorem zm0 {P:List Fn}{F:Fn}{f n:Nat}{ds rs:List D}{S:R.St}(h:P[f]?=some F)(hl:ds.length=F.np)(w:W (exS (callF P n) F.body (zaJ F ds) S.enter) fun r T=>∃l,r=.rt (.ref l)/\S.len<=l/\T.get l=some (.lst rs)/\flats S.len rs=true)(hp:F.prim=none:=by rfl) :
  app (callF P (n+1)) f ds S=.ok (.ref S.len) (S.push (.lst rs)):=by
 refine W.eq ?_
 rw[ziZ h hl hp,zac]
 refine w.mono fun r T q=>?_
 obtain⟨l,rfl,h1,h2,h3⟩:=q
 have:=zev (Q:=fun a T'=>a=.ref S.len/\T'=S.push (.lst rs)) h1 h2 h3 ⟨rfl,rfl⟩
 unfold wFin at this
 exact this
theorem zkq {P:List Fn}{F:Fn}{f n:Nat}{ds:List D}{S S':R.St}{d:D}(h:P[f]?=some F)(hl:ds.length=F.np)(w:W (exS (callF P n) F.body (zaJ F ds) S.enter) fun r T=>wFin S r T fun a T'=>a=d/\T'=S')(hp:F.prim=none:=by rfl) :
  app (callF P (n+1)) f ds S=.ok d S':=by
 refine W.eq ?_
 rw[ziZ h hl hp,zac]
 refine w.mono fun r T q=>?_
 unfold wFin at q;exact q
theorem zaz {cf:CF}{i:Nat}{e:CE}{r:CS}{δ:Ev}{S S':R.St}{d:D}{Q:Fl->R.St->Prop}(h:evE cf e δ S=.ok d S')(w:W (exS cf r (δ.set i (some d)) S') Q):W (exS cf (.asg i e r) δ S) Q:=by rw[exS,h,zas];exact w
theorem zej {cf:CF}{δ:Ev}{S:R.St}{Q:Fl->R.St->Prop}(h:Q (.nx δ) S):W (exS cf .nil δ S) Q:=by rw[exS];exact h
theorem zkc {cf:CF}{g:List Nat}{l:CL}{b r:CS}{δ:Ev}{S S1:R.St}{xs:List D}{ls:List Nat}{Q:Fl->R.St->Prop}(h:evL cf l δ S=.ok (xs,ls) S1)
  (w:W (zbd g (exS cf b) xs δ {S1 with lk:=ls++S1.lk}) fun f T=>match f with|.nx δ'=>W (exS cf r δ' {T with lk:=S1.lk}) Q|.rt d=>Q (.rt d) {T with lk:=S1.lk}):W (exS cf (.forS g l b r) δ S) Q:=by
 rw[exS,h,zas]
 unfold za1
 dsimp only
 rw[zac,zac]
 refine w.mono fun f T hf=>?_
 rw[W_ok]
 cases f with
 |nx δ'=>exact hf
 |rt d=>exact hf
theorem zcW {n:Nat}{S:R.St}{ns:List Int}{k:Nat}:app (callF prog (n+1)) 3 [.fix (ns.map .int),.int k] S=.ok (.int (cellZ ns k)) S:=by
 refine zdZ (F:=zcp) rfl rfl ?_
 conv=>whnf
 refine zdt (fun c=>?_) (fun c=>?_)
 · have c:k<ns.length:=by simpa using c
   conv=>whnf
   refine zaa (zcE (x:=D.int ns[k]) (by simp[c])) ?_
   conv=>whnf
   refine zab (by decide) ?_
   conv=>whnf
   refine zab (by decide) ?_
   conv=>whnf
   refine zao rfl ⟨?_,rfl⟩
   unfold cellZ
   rw[List.getElem?_eq_getElem c]
   rfl
 · have c:¬k<ns.length:=by simpa using c
   conv=>whnf
   refine zao rfl ⟨?_,rfl⟩
   unfold cellZ
   rw[List.getElem?_eq_none (by omega)]
noncomputable abbrev Ly:=K3 × Option Int
noncomputable def lD (l:Ly):D:=.tup [.int l.1.1,pD l.1.2.1,.int l.1.2.2,oD l.2]
theorem zmD (N:Nat)(p:List Int):flat N (pD p)=true:=by simp[zbf]
theorem ziz (N:Nat)(o:Option Int):flat N (oD o)=true:=by cases o<;>rfl
theorem ziA (N:Nat)(l:Ly):flat N (lD l)=true:=by
 unfold lD
 rw[zke,zbf]
 intro d hd
 simp only[List.mem_cons,List.not_mem_nil,or_false] at hd
 rcases hd with rfl|rfl|rfl|rfl
 · rfl
 · exact zmD _ _
 · rfl
 · exact ziz _ _
theorem zgu (N:Nat)(ls:List Ly):flats N (ls.map lD)=true:=by
 rw[zbf]
 intro d hd
 obtain⟨l,_,rfl⟩:=List.mem_map.mp hd
 exact ziA _ _
theorem zh8 (l:Ly):lie4 (lD l)=some l:=by
 obtain⟨⟨a,p,b⟩,w⟩:=l
 unfold lD lie4
 dsimp only
 rw[zb6]
 cases w<;>rfl
theorem zh7:∀ls:List Ly,(ls.map lD).mapM lie4=some ls
 | []=>rfl
 |l::ls=>by rw[List.map_cons,List.mapM_cons,zh8,zh7 ls];rfl
noncomputable def atK (kvs:List Ly)(k:K3):Option (Option Int):=(kvs.find? fun kv=>decide (kv.1=k)).map (·.2)
theorem zmY (kvs:List Ly)(k j:K3)(o:Option Int):atK (putW kvs k o) j=if j=k then some o else atK kvs j:=by
 unfold putW
 by_cases hk:k∈kvs.map (·.1)
 · rw[if_pos hk]
   induction kvs with
   |nil=>simp at hk
   | cons x kvs ih =>
     obtain⟨y,v⟩:=x
     unfold atK at ih⊢
     rw[List.map_cons]
     by_cases hy:y=k
     · subst hy
       by_cases hj:j=y
       · subst hj;simp
       · have hj':¬y=j:=fun e=>hj e.symm
         rw[if_neg hj]
         simp only[if_true,List.find?_cons,hj',decide_false]
         by_cases hm:y∈kvs.map (·.1)
         · have:=ih hm
           rw[if_neg hj] at this
           exact this
         · have e:(kvs.map fun x=>if x.1=y then (x.1,o) else x)=kvs:=by
            refine (List.map_congr_left fun x hx=>?_).trans (List.map_id kvs)
            rw[if_neg fun e=>hm (List.mem_map.mpr ⟨x,hx,e⟩)];rfl
           rw[e]
     · have hm:k∈kvs.map (·.1):=by
        rw[List.map_cons] at hk
        rcases List.mem_cons.mp hk with e|e
        · exact absurd e.symm hy
        · exact e
       have:=ih hm
       rw[if_neg hy]
       by_cases hj:y=j
       · subst hj
         rw[if_neg hy];simp
       · simp only[List.find?_cons,hj,decide_false]
         exact this
 · rw[if_neg hk]
   unfold atK
   rw[List.find?_append]
   by_cases hj:j=k
   · subst hj
     have:(kvs.find? fun kv=>decide (kv.1=j))=none:=by
      rw[List.find?_eq_none]
      intro x hx e
      exact hk (List.mem_map.mpr ⟨x,hx,by simpa using e⟩)
     rw[this];simp
   · have hj':¬k=j:=fun e=>hj e.symm
     rw[if_neg hj]
     simp[hj']
noncomputable def zcP (k:K3):Option Int->List Ly->Option Int
 |w,[]=>w
 |w,l::ls=>zcP k (if l.1=k then l.2 else w) ls
theorem zgE (k:K3)(w:Option Int):∀(ls kvs:List Ly),(atK (zaA kvs ls) k).getD w=zcP k ((atK kvs k).getD w) ls
 | [],kvs=>rfl
 | l :: ls, kvs => by
   rw[zaA,zcP,zgE k w ls,zmY]
   by_cases h:k=l.1
   · rw[if_pos h,if_pos h.symm];rfl
   · rw[if_neg h,if_neg fun e=>h e.symm]
theorem zmT (ls:List Ly)(t:Int)(p:List Int)(b:Int)(w:Option Int):zco (.clo (zaA [] ls)) [.int t,pD p,.int b,oD w]=some (oD (zcP (t,p,b) w ls)):=by
 have:=zgE (t,p,b) w ls []
 unfold zco
 dsimp only
 rw[zb6,Option.map_some]
 congr 1
 rw[show (atK [] (t,p,b)).getD w=w from rfl] at this
 rw[<-this]
 unfold atK
 cases (zaA [] ls).find? fun kv=>decide (kv.1=(t,p,b)) with
 |none=>rfl
 |some kv=>cases h:kv.2<;>simp[h,wD,oD]
theorem zf6 {n:Nat}{S:R.St}{o:Option Int}:app (callF prog (n+1)) 10 [oD o,oD o] S=.ok (.bl true) S:=by
 refine zdZ (F:=zdS) rfl rfl ?_
 cases o with
 | none =>
   conv=>whnf
   exact zao rfl ⟨rfl,rfl⟩
 | some i =>
   conv=>whnf
   refine zaa ((show tyOf S.enter (.int i)=some "int" from rfl)) ?_
   conv=>whnf
   refine zaa ((show tyOf S.enter (.int i)=some "int" from rfl)) ?_
   conv=>whnf
   exact zao rfl ⟨by simp,rfl⟩
theorem zgy {α:Type}(xs:List α)(k:Nat):cut xs none (some (k:Int))=xs.take k:=by
 unfold cut
 have h1:sIx xs.length xs.length (some (k:Int))=min k xs.length:=by
  unfold sIx
  dsimp only
  rw[if_neg (by omega)]
  simp
 have h0:sIx xs.length 0 none=0:=rfl
 rw[h1,h0,List.drop_zero,Nat.sub_zero]
 by_cases c:k<=xs.length
 · rw[Nat.min_eq_left c]
 · rw[Nat.min_eq_right (by omega),List.take_of_length_le (Nat.le_refl _),List.take_of_length_le (by omega)]
theorem zfC (S:R.St)(n:Nat):∀p:List Int,(p.map D.int).mapM (pd S n)=some (p.map PySem.PyData.int)
 | []=>rfl
 | a :: p => by
   rw[List.map_cons,List.mapM_cons,zfC S n p]
   cases n<;>rfl
theorem zjL (S:R.St)(n:Nat)(p:List Int):pd S (n+1) (pD p)=some (.tuple (p.map .int)):=by
 unfold pd
 rw[zfC];rfl
noncomputable def lP (l:Ly):PySem.PyData:=.tuple [.int l.1.1,.tuple (l.1.2.1.map .int),.int l.1.2.2,oP l.2]
theorem pd_o (S:R.St)(n:Nat)(o:Option Int):pd S n (oD o)=some (oP o):=by cases o<;>cases n<;>rfl
theorem zpU (S:R.St)(n:Nat)(l:Ly):pd S (n+2) (lD l)=some (lP l):=by
 unfold lD pd
 rw[List.mapM_cons,List.mapM_cons,List.mapM_cons,List.mapM_cons,zjL,pd_o]
 rfl
theorem zhP (S:R.St)(n:Nat):∀ls:List Ly,(ls.map lD).mapM (pd S (n+2))=some (ls.map lP)
 | []=>rfl
 |l::ls=>by rw[List.map_cons,List.mapM_cons,zpU,zhP S n ls];rfl
theorem zgw:∀p q:List Int,PySem.PyData.eqvAll (p.map PySem.PyData.int) (q.map PySem.PyData.int)=decide (p=q)
 | [],[]=>by simp[PySem.PyData.eqvAll]
 | [],_::_=>by simp[PySem.PyData.eqvAll]
 |_::_,[]=>by simp[PySem.PyData.eqvAll]
 | a :: p, b :: q => by
   rw[List.map_cons,List.map_cons,PySem.PyData.eqvAll,L2.eqv_int,zgw p q]
   by_cases h:a=b<;>by_cases k:p=q<;>simp[h,k]
theorem zeW (k:K3)(l:Ly):∀(ls:List Ly) (w:Option Int),zcP k w (ls++[l])=if l.1=k then l.2 else zcP k w ls
 | [],w=>rfl
 |x::ls,w=>by rw[List.cons_append,zcP,zcP,zeW k l ls]
theorem znh {S:R.St}{l:Nat}{ds:List D}(h:S.get l=some (.lst ds)):tyOf S (.ref l)=some "list":=by unfold tyOf;dsimp only;rw[h]
theorem zot (S:R.St)(n:Nat)(t:Int)(p:List Int):pd S (n+2) (.tup [.int t,pD p])=some (.tuple [.int t,.tuple (p.map .int)]):=by
 unfold pd
 rw[List.mapM_cons,List.mapM_cons,zjL]
 rfl
theorem zoE {S:R.St}{xs:List D}{a:PySem.PyData}(h:pd S 60 (.tup xs)=some a):cmpO S .NotEq (.tup xs) (.tup xs)=some false:=by
 show (eqD S _ _).map _=_
 rw[ziE h h];rfl
theorem zjk (n:Nat):((List.range (n:Int).toNat).map fun (k:Nat)=>D.int k)=(hnds n).map D.int:=by
 rw[Int.toNat_natCast]
 unfold hnds
 rw[List.map_map];rfl
noncomputable def zgG (c:Int):Option Int:=if c % 6=0 then none else if c % 6=1 then some (c / 6 % (2 * 10 ^ 50) - 10 ^ 50) else if c % 6=2 then some ((10 ^ 60 - 1 - c / 12 % 9) * (if c / 6 % 2=0 then 1 else -1)) else some (c / 6 % 7 - 3)
theorem zlI {n:Nat}{S:R.St}{c:Int}:app (callF prog (n+1)) 4 [.int c] S=.ok (oD (zgG c)) S:=by
 have key:W (app (callF prog (n+1)) 4 [.int c] S) fun d T=>T=S/\d=oD (zgG c):=by
  refine zi0 (F:=zdR) rfl rfl ?_
  unfold zgG
  conv=>whnf
  repeat (first|(refine zab (by first|decide|omega|(simp;done)|(simp;omega)) ?_;conv=>whnf)|(refine za2 rfl ?_;conv=>whnf)|(refine wPut_new rfl ?_;conv=>whnf)|(refine wGet_old (by assumption) ?_;conv=>whnf))
  refine zdt (fun c1=>?_) (fun c1=>?_)
  · rw[if_pos c1]
    conv=>whnf
    exact zao rfl ⟨rfl,rfl⟩
  · rw[if_neg c1]
    conv=>whnf
    repeat (first|(refine zab (by first|decide|omega|(simp;done)|(simp;omega)) ?_;conv=>whnf)|(refine za2 rfl ?_;conv=>whnf)|(refine wPut_new rfl ?_;conv=>whnf)|(refine wGet_old (by assumption) ?_;conv=>whnf))
    refine zdt (fun c2=>?_) (fun c2=>?_)
    · rw[if_pos c2]
      conv=>whnf
      repeat (first|(refine zab (by first|decide|omega|(simp;done)|(simp;omega)) ?_;conv=>whnf)|(refine za2 rfl ?_;conv=>whnf)|(refine wPut_new rfl ?_;conv=>whnf)|(refine wGet_old (by assumption) ?_;conv=>whnf))
      refine zao rfl ⟨rfl,?_⟩
      rw[show Int.toNat 50=50 from rfl]
      rfl
    · rw[if_neg c2]
      conv=>whnf
      repeat (first|(refine zab (by first|decide|omega|(simp;done)|(simp;omega)) ?_;conv=>whnf)|(refine za2 rfl ?_;conv=>whnf)|(refine wPut_new rfl ?_;conv=>whnf)|(refine wGet_old (by assumption) ?_;conv=>whnf))
      refine zdt (fun c3=>?_) (fun c3=>?_)
      · rw[if_pos c3]
        conv=>whnf
        repeat (first|(refine zab (by first|decide|omega|(simp;done)|(simp;omega)) ?_;conv=>whnf)|(refine za2 rfl ?_;conv=>whnf)|(refine wPut_new rfl ?_;conv=>whnf)|(refine wGet_old (by assumption) ?_;conv=>whnf))
        have hx:c / 6 % 2=0\/c / 6 % 2=1:=by omega
        rcases hx with e|e
        · rw[e]
          refine zaa ((show atI [D.int 1,D.int (-1)] 0=some (D.int 1) from rfl)) ?_
          conv=>whnf
          refine zab (by simp[zeT]) ?_
          conv=>whnf
          refine zao rfl ⟨rfl,?_⟩
          rw[show Int.toNat 60=60 from rfl,if_pos rfl]
          rfl
        · rw[e]
          refine zaa ((show atI [D.int 1,D.int (-1)] 1=some (D.int (-1)) from rfl)) ?_
          conv=>whnf
          refine zab (by simp[zeT]) ?_
          conv=>whnf
          refine zao rfl ⟨rfl,?_⟩
          rw[show Int.toNat 60=60 from rfl,if_neg (by decide)]
          rfl
      · rw[if_neg c3]
        conv=>whnf
        repeat (first|(refine zab (by first|decide|omega|(simp;done)|(simp;omega)) ?_;conv=>whnf)|(refine za2 rfl ?_;conv=>whnf)|(refine wPut_new rfl ?_;conv=>whnf)|(refine wGet_old (by assumption) ?_;conv=>whnf))
        exact zao rfl ⟨rfl,rfl⟩
 obtain⟨d,T,e,rfl,rfl⟩:=W.iff.mp key
 exact e
noncomputable def vZ (c:Int):Int:=c % 10 ^ Int.toNat 64 * 48271 % 2147483647
noncomputable def zbv (c:Int)(d:Bool):Int:=if d then c % 10 ^ Int.toNat 64 else vZ c * vZ c * vZ c+69621 * vZ c
theorem zi6 (c:Int)(d:Bool):0<=zbv c d:=by
 unfold zbv
 split
 · exact Int.emod_nonneg _ (by decide)
 · have v0:0<=vZ c:=Int.emod_nonneg (c % 10 ^ Int.toNat 64 * 48271) (b:=2147483647) (by decide)
   have h1:=Int.mul_nonneg v0 v0
   have h2:=Int.mul_nonneg h1 v0
   omega
theorem zjg {n:Nat}{S:R.St}{c:Int}{d:Bool}:app (callF prog (n+1)) 5 [.int c,.bl d] S=.ok (.int (zbv c d)) S:=by
 have key:W (app (callF prog (n+1)) 5 [.int c,.bl d] S) fun z T=>T=S/\z=.int (zbv c d):=by
  refine zi0 (F:=zcI) rfl rfl ?_
  conv=>whnf
  repeat (first|(refine zab (by first|decide|omega|(simp;done)|(simp;omega)) ?_;conv=>whnf)|(refine za2 rfl ?_;conv=>whnf)|(refine wPut_new rfl ?_;conv=>whnf)|(refine wGet_old (by assumption) ?_;conv=>whnf))
  cases d with
  | true =>
    conv=>whnf
    exact zao rfl ⟨rfl,rfl⟩
  | false =>
    conv=>whnf
    refine zab (by simp[zeT]) ?_
    conv=>whnf
    refine zab (by first|decide|omega|(simp;done)|(simp;omega)) ?_
    conv=>whnf
    have v0:=Int.emod_nonneg (c % 10 ^ Int.toNat 64 * 48271) (b:=2147483647) (by decide)
    have v1:=Int.emod_lt_of_pos (c % 10 ^ Int.toNat 64 * 48271) (b:=2147483647) (by decide)
    have ev:vZ c=c % 10 ^ Int.toNat 64 * 48271 % 2147483647:=rfl
    unfold zbv
    rw[if_neg (by decide),ev]
    generalize c % 10 ^ Int.toNat 64 * 48271 % 2147483647=v at *
    have mk:∀u:Int,zeT u v=true:=fun u=>by
     unfold zeT
     rw[Bool.or_eq_true]
     right
     rw[decide_eq_true_eq]
     omega
    refine zab (mk _) ?_
    conv=>whnf
    refine zab (mk _) ?_
    conv=>whnf
    refine zab (mk _) ?_
    conv=>whnf
    exact zao rfl ⟨rfl,rfl⟩
 obtain⟨d,T,e,rfl,rfl⟩:=W.iff.mp key
 exact e
structure Pk (m:Nat) (os ls:List Int):Prop where
 on:os.Nodup
 ln:ls.Nodup
 oi:∀y∈os,0<=y/\y<m
 li:∀y∈ls,(0<=y/\y<m)/\y∉os
 sz:os.length+ls.length=m
theorem pk_0 (m:Nat):Pk m [] (hnds m):=⟨List.nodup_nil,zg2 m,fun y h=>(by cases h),fun y h=>⟨hnds_mem.mp h,by simp⟩,by simp[hnds]⟩
theorem zl3 {m:Nat}{os ls:List Int}{x:Int}(h:Pk m os ls)(hx:x∈ls):Pk m (os++[x]) (ls.filter fun y=>!decide (y∈os++[x])):=by
 have e:ls.filter (fun y=>!decide (y∈os++[x]))=ls.erase x:=by
  rw[h.ln.erase_eq_filter]
  refine List.filter_congr fun y hy=>?_
  have:=(h.li y hy).2
  by_cases c:y=x
  · subst c;simp
  · simp[this,c]
 refine⟨?_,?_,fun y hy=>?_,fun y hy=>?_,?_⟩
 · refine List.nodup_append.mpr ⟨h.on,by simp,fun a ha b hb e'=>?_⟩
   simp only[List.mem_singleton] at hb
   subst hb;subst e'
   exact (h.li _ hx).2 ha
 · exact h.ln.filter _
 · rcases List.mem_append.mp hy with z|z
   · exact h.oi y z
   · simp only[List.mem_singleton] at z
     subst z
     exact (h.li _ hx).1
 · have:=List.mem_filter.mp hy
   exact⟨(h.li y this.1).1,by simpa using this.2⟩
 · have hp:0<ls.length:=List.length_pos_of_mem hx
   have:=h.sz
   rw[e,List.length_erase_of_mem hx,List.length_append]
   simp
   omega
theorem zmF (ls os:List Int):((ls.map D.int).filter (fun d=>match d with|.int y=>!decide (y∈os)|_=>false)).map (fun d=>d)=(ls.filter fun y=>!decide (y∈os)).map D.int:=by
 rw[List.map_id',List.filter_map]
 rfl
noncomputable def zjw (x:Int × List Int × List Int):Int:=x.2.2.getD (x.1 % (x.2.2.length:Int)).toNat 0
noncomputable def znt (x:Int × List Int × List Int):Int × List Int × List Int:=(x.1 / (x.2.2.length:Int),x.2.1++[zjw x],x.2.2.filter fun y=>!decide (y∈x.2.1++[zjw x]))
noncomputable def itZ (c:Int)(m:Nat):Nat->Int × List Int × List Int
 |0=>(c,[],hnds m)
 |j+1=>znt (itZ c m j)
noncomputable def endZ (m:Nat)(x:Int × List Int × List Int):Ly:=((1+x.1 / ((m:Int) - 1) % 6,x.2.1.take (1+x.1 % ((m:Int) - 1)).toNat,x.2.1.getD (1+x.1 % ((m:Int) - 1)).toNat 0),zgG (x.1 / ((m:Int) - 1) / 6))
noncomputable def zfI (c:Int)(m:Nat):Ly:=endZ m (itZ c m m)
theorem znV {n:Nat}{S:R.St}{c:Int}{m:Nat}(m2:2<=m)(m7:m<=7)(c0:0<=c):app (callF prog (n+2)) 6 [.int c,.int m] S=.ok (lD (zfI c m)) S:=by
 have key:W (app (callF prog (n+2)) 6 [.int c,.int m] S) fun d T=>T=S/\d=lD (zfI c m):=by
  refine zi0 (F:=zdT) rfl rfl ?_
  conv=>whnf
  refine zab (by omega) ?_
  conv=>whnf
  refine zab (by simp;omega) ?_
  conv=>whnf
  refine zab (by first|decide|omega|(simp;done)|(simp;omega)) ?_
  conv=>whnf
  refine zab (by omega) ?_
  conv=>whnf
  refine zay ?_
  have e0:((List.range (m:Int).toNat).map fun (k:Nat)=>D.int k)=(hnds m).map D.int:=zjk m
  refine W.mono (zaS (fun i δ T=>∃(c':Int) (lf od:Nat) (u:Option D) (os ls:List Int),δ=[some (.int c'),some (.int m),some (.ref lf),some (.ref od),u,none]/\0<=c'/\lf≠od/\T.lk=[]/\T.frz.length<=od/\T.get lf=some (.lst (ls.map .int))/\T.get od=some (.lst (os.map .int))/\Pk m os ls/\os.length=i/\itZ c m i=(c',os,ls)) (fun _ _=>False) _ 0 _ _ ⟨c,_,_,none,[],hnds m,rfl,c0,?_,rfl,?_,?_,?_,pk_0 m,rfl,rfl⟩ ?_) ?_
  · rw[plen];omega
  · show S.enter.frz.length<=_
    rw[plen]
    unfold St.len
    omega
  · rw[<-e0]
    exact zam (zag _ _)
  · exact zag _ _
  · rintro i z δ T hz ⟨c',lf,od,u,os,ls,rfl,hc,hne,hlk,hfr,g1,g2,pk,ho,hit⟩
    have hi:os.length<m:=by
     have:=(List.getElem?_eq_some_iff.mp hz).1
     simp at this
     omega
    have hls:0<ls.length:=by have:=pk.sz;omega
    have hls7:ls.length<=7:=by have:=pk.sz;omega
    refine⟨[some (.int c'),some (.int m),some (.ref lf),some (.ref od),some z,none],rfl,?_⟩
    refine wS_W _ ?_
    have q0:=Int.emod_nonneg c' (b:=((ls.map D.int).length:Int)) (by rw[List.length_map];omega)
    have q1:=Int.emod_lt_of_pos c' (b:=((ls.map D.int).length:Int)) (by rw[List.length_map];omega)
    obtain⟨k,hk⟩:∃k:Nat,c' % ((ls.map D.int).length:Int)=k:=⟨_,(Int.toNat_of_nonneg q0).symm⟩
    have hk':k<ls.length:=by rw[hk] at q1;simpa using q1
    obtain⟨U,u1,u2,u3,u4,u5,u6⟩:=zcR (S:=T) (l:=od) (.lst ((os++[ls[k]]).map .int)) hfr (by rw[hlk];rfl)
    have ua:os.map D.int++[D.int ls[k]]=(os++[ls[k]]).map .int:=by simp
    have k1:U.get lf=some (.lst (ls.map .int)):=by rw[u5 lf hne];exact g1
    have k2:U.get od=some (.lst ((os++[ls[k]]).map .int)):=u6 (zar g2)
    have k2':∀lk,({U with lk:=lk}:R.St).get od=some (.lst ((os++[ls[k]]).map .int)):=fun _=>k2
    have pk':=zl3 pk (List.getElem_mem hk')
    conv=>whnf
    refine zaa (g2) ?_
    conv=>whnf
    refine zaa (g1) ?_
    conv=>whnf
    refine zab (by simp;omega) ?_
    conv=>whnf
    rw[hk]
    refine zaa (g1) ?_
    conv=>whnf
    refine zaa (zcE (x:=D.int ls[k]) (by simp[hk'])) ?_
    conv=>whnf
    refine zaa (g2) ?_
    conv=>whnf
    refine zab (by simp;omega) ?_
    conv=>whnf
    refine zaa (by rw[ua];exact u1) ?_
    conv=>whnf
    refine zaa (k1) ?_
    conv=>whnf
    refine zab (by simp;omega) ?_
    conv=>whnf
    refine zaa (k1) ?_
    conv=>whnf
    refine zay ?_
    refine W.of (zbh (fun d=>match d with|.int y=>!decide (y∈os++[ls[k]])|_=>false) (fun d=>d) _ none (fun z hz=>?_) (fun z hz _=>rfl)) ?_
    · obtain⟨y,_,rfl⟩:=List.mem_map.mp hz
      refine W.eq (wT_W _ ?_)
      conv=>whnf
      refine zaa (zhT (k2' _) y) ?_
      conv=>whnf
      exact⟨rfl,rfl⟩
    · rw[zmF]
      have hl2:=List.length_filter_le (fun y=>!decide (y∈os++[ls[k]])) ls
      refine zab (by rw[List.length_map];omega) ?_
      conv=>whnf
      refine zab (by rw[List.length_map];omega) ?_
      conv=>whnf
      have hd:0<=c' / ((ls.map D.int).length:Int):=Int.ediv_nonneg hc (Int.natCast_nonneg _)
      refine⟨_,_,od,_,_,_,rfl,hd,?_,?_,?_,zag _ _,zam (show St.get _ od=_ from k2),pk',?_,?_⟩
      · have:=zar k2
        intro e
        rw[<-e] at this
        exact Nat.lt_irrefl _ this
      · show U.lk=[]
        rw[u3,hlk]
      · show U.frz.length<=od
        rw[u2];exact hfr
      · rw[List.length_append,ho];rfl
      · show itZ c m (0+i+1)=_
        have hpk:zjw (c',os,ls)=ls[k]:=by
         unfold zjw
         dsimp only
         rw[show c' % (ls.length:Int)=k from by rw[<-hk,List.length_map],Int.toNat_natCast,List.getD_eq_getElem?_getD,List.getElem?_eq_getElem hk']
         rfl
        rw[itZ,hit]
        unfold znt
        rw[hpk]
        dsimp only
        rw[List.length_map]
  · rintro f T h
    cases f with
    |rt d=>exact h.elim
    | nx δ =>
      obtain⟨c',lf,od,u,os,ls,rfl,hc,hne,hlk,hfr,g1,g2,pk,hi,hit⟩:=h
      have hi:os.length=m:=by simpa using hi
      have hit:itZ c m m=(c',os,ls):=by simpa using hit
      have r0:=Int.emod_nonneg c' (b:=(m:Int) - 1) (by omega)
      have r1:=Int.emod_lt_of_pos c' (b:=(m:Int) - 1) (by omega)
      conv=>whnf
      refine zab (by omega) ?_
      conv=>whnf
      refine zab (by omega) ?_
      conv=>whnf
      obtain⟨k,hk⟩:∃k:Nat,1+c' % ((m:Int) - 1)=k:=⟨(1+c' % ((m:Int) - 1)).toNat,by omega⟩
      have k1:1<=k:=by omega
      have km:k<os.length:=by omega
      have hend:zfI c m=((1+c' / ((m:Int) - 1) % 6,os.take k,os[k]),zgG (c' / ((m:Int) - 1) / 6)):=by
       unfold zfI
       rw[hit]
       unfold endZ
       dsimp only
       rw[hk,Int.toNat_natCast,List.getD_eq_getElem?_getD,List.getElem?_eq_getElem km]
       rfl
      rw[hend]
      rw[hk]
      have d0:0<=c' / ((m:Int) - 1):=Int.ediv_nonneg hc (by omega)
      generalize c' / ((m:Int) - 1)=e at d0⊢
      refine zab (by first|decide|omega|(simp;done)|(simp;omega)) ?_
      conv=>whnf
      have g2':∀lk,({T with lk:=lk}:R.St).get od=some (.lst (os.map .int)):=fun _=>g2
      refine zaa (g2' _) ?_
      conv=>whnf
      rw[ziP,zgy]
      have tl:(os.take k).length=k:=by rw[List.length_take];omega
      refine zab (by rw[List.length_map];omega) ?_
      conv=>whnf
      refine zaa (zag _ _) ?_
      conv=>whnf
      refine zab (by rw[List.length_map];omega) ?_
      conv=>whnf
      refine zaa (zam (g2' _)) ?_
      conv=>whnf
      refine zaa (zcE (x:=D.int os[k]) (by simp[km])) ?_
      conv=>whnf
      refine zab (by first|decide|omega|(simp;done)|(simp;omega)) ?_
      conv=>whnf
      have em:=Int.emod_nonneg e (b:=6) (by decide)
      have em1:=Int.emod_lt_of_pos e (b:=6) (by decide)
      generalize hS:St.push _ _=S1
      refine zal (zlI (n:=n) (S:=S1) (c:=e / 6)) ?_
      conv=>whnf
      refine zab (by first|decide|omega|(simp;done)|(simp;omega)) ?_
      conv=>whnf
      exact zao (ziA _ ((1+e % 6,os.take k,os[k]),zgG (e / 6))) ⟨rfl,rfl⟩
 obtain⟨d,T,e,rfl,rfl⟩:=W.iff.mp key
 exact e
theorem zf3 {cf:CF}{e:CE}{rest:Ev}{S:R.St}(f:Int->D):∀(xs:List Int) (o:Option D),(∀y∈xs,evE cf e (some (.int y)::rest) S=.ok (f y) S)->
  zax [0] (evT cf (.tst (.con (.bl true)))) (evE cf e) (xs.map D.int) (o::rest) S=.ok (xs.map f) S
 | [],o,_=>rfl
 | y :: xs, o, h => by
   have e1:=h y List.mem_cons_self
   have e2:=zf3 (cf:=cf) (e:=e) (rest:=rest) (S:=S) f xs (some (.int y)) fun z hz=>h z (List.mem_cons_of_mem _ hz)
   simp only[List.map_cons,zax,asgG,zdq,List.set_cons_zero]
   show Out.bind (.ok true S) _=_
   rw[zas,if_pos rfl,e1,zas,e2,zas]
noncomputable def zaO (ns:List Int)(a b:Int)(m:Nat):List Ly:=(cut ns (some a) (some b)).map fun y=>zfI (zbv y (decide (cellZ ns 1 / 8 % 2=1))) m
theorem zdi (ns:List Int)(a b:Int)(m:Nat)(hl:ns.length<=63):(zaO ns a b m).length<=63:=by
 have hc:=zkW ns (some a) (some b)
 unfold zaO
 rw[List.length_map];omega
theorem ziG {n:Nat}{S:R.St}{ns:List Int}{a b:Int}{m:Nat}(m2:2<=m)(m7:m<=7)(hl:ns.length<=63) :
  W (exS (callF prog (n+2)) c_law_drawn.body (zaJ c_law_drawn [.fix (ns.map .int),.int a,.int b,.int m]) S.enter) fun r T=>∃l,r=.rt (.ref l)/\S.len<=l/\T.get l=some (.lst ((zaO ns a b m).map lD))/\flats S.len ((zaO ns a b m).map lD)=true:=by
 have hc:=zkW ns (some a) (some b)
 unfold zaO
 refine wS_W _ ?_
 conv=>whnf
 refine zal (zcW (n:=n+1) (k:=1)) ?_
 conv=>whnf
 refine zab (by first|decide|omega|(simp;done)|(simp;omega)) ?_
 conv=>whnf
 refine zab (by first|decide|omega|(simp;done)|(simp;omega)) ?_
 conv=>whnf
 rw[ziP]
 generalize cut ns (some a) (some b)=cs at *
 refine zab (by simp;omega) ?_
 conv=>whnf
 refine zaa (zag _ _) ?_
 conv=>whnf
 refine zay ?_
 refine W.of (zf3 (cf:=callF prog (n+2)) (e:=.call 6 0 (.cons (.call 5 0 (.cons (.loc 0) (.cons (.loc 2) .nil))) (.cons (.loc 1) .nil))) (fun y=>lD (zfI (zbv y (decide (cellZ ns 1 / 8 % 2=1))) m)) cs none (fun y hy=>?_)) ?_
 · refine W.eq (wE_W _ ?_)
   conv=>whnf
   refine zal (zjg (n:=n+1)) ?_
   conv=>whnf
   refine zal (znV (n:=n) m2 m7 (zi6 _ _)) ?_
   conv=>whnf
   exact⟨rfl,rfl⟩
 rw[List.map_map]
 refine zab (by simp;omega) ?_
 conv=>whnf
 refine zab (by simp;omega) ?_
 conv=>whnf
 refine⟨_,rfl,?_,zag _ _,?_⟩
 · show S.len<=(S.enter.push (.lst (cs.map D.int))).len
   rw[plen,enter_len];omega
 · have:=zgu S.len (cs.map fun y=>zfI (zbv y (decide (cellZ ns 1 / 8 % 2=1))) m)
   rw[List.map_map] at this
   exact this
theorem zhs {n:Nat}{S:R.St}{ns:List Int}{a b:Int}{m:Nat}(m2:2<=m)(m7:m<=7)(hl:ns.length<=63):∃ls:List Ly,ls.length<=63/\app (callF prog (n+3)) 7 [.fix (ns.map .int),.int a,.int b,.int m] S=.ok (.ref S.len) (S.push (.lst (ls.map lD))):=by
 exact⟨_,zdi ns a b m hl,zm0 (F:=c_law_drawn) rfl rfl (ziG m2 m7 hl)⟩
theorem zm1 {P:List Fn}{F:Fn}{f n:Nat}{ds rs:List D}{S:R.St}(h:P[f]?=some F)(hl:ds.length=F.np)(w:W (exS (callF P n) F.body (zaJ F ds) S.enter) fun r T=>∃l,r=.rt (.ref l)/\S.len<=l/\T.get l=some (.lst rs)/\flats S.len rs=true)(hp:F.prim=none:=by rfl) :
  appL (callF P (n+1)) f ds S=.ok rs S:=by
 refine W.eq ?_
 rw[zm2 h hl hp,zac]
 refine w.mono fun r T q=>?_
 obtain⟨l,rfl,h1,h2,h3⟩:=q
 rw[zmE]
 unfold zc9
 dsimp only
 rw[if_neg (by omega),h2]
 dsimp only
 rw[if_pos h3]
 exact⟨rfl,rfl⟩
theorem zjh {n:Nat}{S:R.St}{ns:List Int}{a b:Int}{m:Nat}(m2:2<=m)(m7:m<=7)(hl:ns.length<=63):appL (callF prog (n+3)) 7 [.fix (ns.map .int),.int a,.int b,.int m] S=.ok ((zaO ns a b m).map lD) S:=
 zm1 (F:=c_law_drawn) rfl rfl (ziG m2 m7 hl)
noncomputable def topW (os:List (Option Int)):Int:=(topR os).1
theorem znT {n l:Nat}{S:R.St}{os:List (Option Int)}(h:S.get l=some (.lst (os.map oD)))(hl:(zah [] os).length<64)(h2:os.length<=10000):app (callF prog (n+5)) 2 [.ref l] S=.ok (.int (topW os)) S:=by
 refine zdZ (F:=zkZ) rfl rfl ?_
 conv=>whnf
 refine zal (ziY (n:=n) (f:=1) (F:=zfV) (S:=S.enter) rfl rfl rfl (by rw[zaG];exact h) hl (by omega)) ?_
 conv=>whnf
 unfold talD topW topR
 generalize za0 (zah [] os)=rows
 cases rows with
 | nil =>
   conv=>whnf
   repeat (first|(refine zab (by first|decide|omega|(simp;done)|(simp;omega)) ?_;conv=>whnf)|(refine za2 rfl ?_;conv=>whnf)|(refine wPut_new rfl ?_;conv=>whnf)|(refine wGet_old (by assumption) ?_;conv=>whnf))
   exact zao rfl ⟨rfl,rfl⟩
 | cons r rows =>
   conv=>whnf
   repeat (first|(refine zab (by first|decide|omega|(simp;done)|(simp;omega)) ?_;conv=>whnf)|(refine za2 rfl ?_;conv=>whnf)|(refine wPut_new rfl ?_;conv=>whnf)|(refine wGet_old (by assumption) ?_;conv=>whnf))
   refine zaa (zkn (x:=rowD r)) ?_
   conv=>whnf
   refine zaa (zkn) ?_
   conv=>whnf
   exact zao rfl ⟨rfl,rfl⟩
noncomputable def BestTo (os:List (Option Int))(i:Nat)(b o:Int):Prop:=((∀x,some x∉os.take i)/\b=0/\o=0)\/(some b∈os.take i/\o=cntZ os (some b)/\∀x,some x∈os.take i->cntZ os (some x)<o\/(cntZ os (some x)=o/\b<=x))
theorem BestTo.end {os:List (Option Int)}{b o:Int}(h:BestTo os os.length b o):b=topW os:=by
 have t:zks os (b,o):=by
  rcases h with ⟨h1,rfl,rfl⟩|⟨h1,h2,h3⟩
  · rw[List.take_length] at h1;exact .inl ⟨h1,rfl⟩
  · rw[List.take_length] at h1 h3;exact .inr ⟨h1,h2,h3⟩
 have:=zik t (zlg os)
 unfold topW
 rw[<-this]
theorem zqc (os:List (Option Int))(w:Option Int):0<=cntZ os w:=by unfold cntZ;cases w<;>simp
theorem ziU {os:List (Option Int)}{i:Nat}{b o:Int}(h:BestTo os i b o)(e:os[i]?=some none):BestTo os (i+1) b o:=by
 rw[BestTo,zce e]
 rcases h with ⟨h1,h2⟩|⟨h1,h2,h3⟩
 · refine .inl ⟨fun x hx=>?_,h2⟩
   rcases List.mem_append.mp hx with z|z
   · exact h1 x z
   · simp at z
 · refine .inr ⟨List.mem_append_left _ h1,h2,fun x hx=>?_⟩
   rcases List.mem_append.mp hx with z|z
   · exact h3 x z
   · simp at z
theorem zpe {os:List (Option Int)}{i:Nat}{b o:Int}(h:BestTo os i b o):0<=o:=by
 rcases h with ⟨_,_,rfl⟩|⟨_,h2,_⟩
 · omega
 · rw[h2];exact zqc _ _
theorem zk2 {os:List (Option Int)}{i:Nat}{b o w:Int}(h:BestTo os i b o)(e:os[i]?=some (some w))(c:o<cntZ os (some w)\/(cntZ os (some w)=o/\w<b)):BestTo os (i+1) w (cntZ os (some w)):=by
 rw[BestTo,zce e]
 refine .inr ⟨by simp,rfl,fun x hx=>?_⟩
 rcases List.mem_append.mp hx with z|z
 · rcases h with ⟨h1,_⟩|⟨h1,h2,h3⟩
   · exact absurd z (h1 x)
   · have:=h3 x z
     omega
 · simp at z;subst z;exact .inr ⟨rfl,Int.le_refl _⟩
theorem zk1 {os:List (Option Int)}{i:Nat}{b o w:Int}(h:BestTo os i b o)(e:os[i]?=some (some w))(c1:¬o<cntZ os (some w))(c2:¬(cntZ os (some w)=o/\w<b)):BestTo os (i+1) b o:=by
 have hp:=ziQ (List.mem_of_getElem? e)
 rw[BestTo,zce e]
 rcases h with ⟨h1,h2,h3⟩|⟨h1,h2,h3⟩
 · omega
 · refine .inr ⟨List.mem_append_left _ h1,h2,fun x hx=>?_⟩
   rcases List.mem_append.mp hx with z|z
   · exact h3 x z
   · simp at z;subst z;omega
noncomputable def zb5 (w o:Option Int):Bool:=match o,w with|some x,some y=>decide (x=y)|_,_=>false
theorem zp8 (S:R.St)(x:Int)(w:Option Int):cmpD S .Eq (.int x) (oD w)=some (zb5 w (some x)):=by
 cases w with
 | none =>
   show cmpO S .Eq (.int x) .non=_
   show eqD S (.int x) .non=_
   unfold eqD
   simp[pd,PySem.PyData.eqv,zb5]
 |some y=>rfl
theorem zk9 {S:R.St}{op:PySem.CmpOp}{x y:D}{k:Bool}(h:cmpD S op x y=some k):W (lift S (cmpD S op x y)) fun b T=>b=k/\T=S:=by rw[h];exact⟨rfl,rfl⟩
theorem zo9 {cf:CF}{T:R.St}{w:Option Int}(os:List (Option Int))(v:Option D):zax [0] (evT cf (.and (.cmp .IsNot (.loc 0) (.con D.non)) (.cmp .Eq (.loc 0) (.loc 1)))) (evE cf (.loc 0)) (os.map oD) [v,some (oD w)] T=.ok ((os.filter (zb5 w)).map oD) T:=by
 have hB:∀o:Option Int,(zbT (oD o)).getD none=o:=fun o=>by cases o<;>rfl
 have h:=zbh (c:=evT cf (.and (.cmp .IsNot (.loc 0) (.con D.non)) (.cmp .Eq (.loc 0) (.loc 1)))) (e:=evE cf (.loc 0)) (S:=T) (rest:=[some (oD w)]) (fun d=>zb5 w ((zbT d).getD none)) (fun d=>oD ((zbT d).getD none)) (os.map oD) v (fun x hx=>?_) (fun x hx _=>?_)
 · rw[h,List.filter_map,List.map_map]
   have e1:((fun d=>zb5 w ((zbT d).getD none))∘oD)=zb5 w:=by funext o;simp[hB]
   have e2:((fun d=>oD ((zbT d).getD none))∘oD)=oD:=by funext o;simp[hB]
   rw[e1,e2]
 · obtain⟨o,_,rfl⟩:=List.mem_map.mp hx
   rw[hB]
   cases o with
   |none=>rfl
   | some x =>
     refine W.eq ?_
     show W (Out.bind (.ok true T) _) _
     rw[zas]
     show W (lift T (cmpD T .Eq (.int x) (oD w))) _
     exact zk9 (zp8 T x w)
 · obtain⟨o,_,rfl⟩:=List.mem_map.mp hx
   rw[hB];rfl
theorem zjU (os:List (Option Int))(w:Int):(((os.filter (zb5 (some w))).map oD).length:Int)=cntZ os (some w):=by
 show _=((os.count (some w):Nat):Int)
 rw[List.length_map,List.count_eq_length_filter]
 congr 2
 refine List.filter_congr fun o _=>?_
 cases o with
 |none=>rfl
 |some x=>simp[zb5];rfl
theorem zh6 (os:List (Option Int)):(os.filter (zb5 none))=[]:=by
 rw[List.filter_eq_nil_iff]
 intro o _
 cases o<;>simp[zb5]
@[irreducible] noncomputable def EB (q:Nat)(b o:Int)(v3 v4:Option D):Ev:=[some (.ref q),some (.int b),some (.int o),v3,v4]
theorem znX {n q:Nat}{S:R.St}{os:List (Option Int)}(h:S.get q=some (.lst (os.map oD)))(hl:os.length<=10000):app (callF prog (n+1)) 15 [.ref q] S=.ok (.int (topW os)) S:=by
 refine zdZ (F:=zdW) rfl rfl ?_
 have g:S.enter.get q=some (.lst (os.map oD)):=by rw[zaG];exact h
 conv=>whnf
 refine zaa (g) ?_
 conv=>whnf
 refine zay ?_
 refine W.mono (zaS (fun i δ T=>T.get q=some (.lst (os.map oD))/\∃(b o:Int) (v3 v4:Option D),δ=EB q b o v3 v4/\BestTo os i b o) (fun _ _=>False) _ 0 _ _ ?_ ?_) ?_
 · exact⟨g,0,0,none,none,by unfold EB;rfl,.inl ⟨fun x hx=>by simp at hx,rfl,rfl⟩⟩
 · rintro i x δ T hx ⟨gT,b,o,v3,v4,rfl,hB⟩
   rw[Nat.zero_add] at *
   rw[List.getElem?_map] at hx
   cases hr:os[i]? with
   |none=>rw[hr] at hx;cases hx
   |some w=>
   rw[hr] at hx
   cases hx
   have hl2:(os.filter (zb5 w)).length<=10000:=Nat.le_trans (List.length_filter_le _ _) hl
   refine⟨EB q b o (some (oD w)) v4,by unfold EB;rfl,?_⟩
   refine zaz (d:=.int ((os.filter (zb5 w)).map oD).length) (S':=T.push (.lst ((os.filter (zb5 w)).map oD))) (W.eq (wE_W _ ?_)) ?_
   · unfold EB
     conv=>whnf
     refine zaa (gT) ?_
     conv=>whnf
     refine zay ?_
     refine W.of (zo9 os none) ?_
     refine zab (by simp;omega) ?_
     conv=>whnf
     refine zab (by simp;omega) ?_
     conv=>whnf
     refine zaa (zag _ _) ?_
     conv=>whnf
     exact⟨rfl,rfl⟩
   have ob:=zpe hB
   have gT':=zam (o:=.lst ((os.filter (zb5 w)).map oD)) gT
   generalize T.push (.lst ((os.filter (zb5 w)).map oD))=U at *
   cases w with
   | none =>
     rw[zh6]
     refine wS_W _ ?_
     unfold EB
     conv=>whnf
     refine zk8 (by simp;omega) ?_
     conv=>whnf
     refine zdt (fun c=>?_) (fun c=>?_)
     · conv=>whnf
       exact⟨gT',b,o,_,_,rfl,ziU hB hr⟩
     · conv=>whnf
       exact⟨gT',b,o,_,_,rfl,ziU hB hr⟩
   | some w =>
     rw[zjU]
     refine wS_W _ ?_
     unfold EB
     conv=>whnf
     refine zdt (fun c1=>?_) (fun c1=>?_)
     · conv=>whnf
       exact⟨gT',w,_,_,_,rfl,zk2 hB hr (.inl c1)⟩
     · conv=>whnf
       refine zdt (fun c2=>?_) (fun c2=>?_)
       · conv=>whnf
         refine zdt (fun c3=>?_) (fun c3=>?_)
         · conv=>whnf
           refine zdt (fun c4=>?_) (fun c4=>?_)
           · conv=>whnf
             exact⟨gT',w,_,_,_,rfl,zk2 hB hr (.inr ⟨c2,c4⟩)⟩
           · conv=>whnf
             exact⟨gT',b,o,_,_,rfl,zk1 hB hr c1 (fun z=>c4 z.2)⟩
         · have:=ziQ (List.mem_of_getElem? hr)
           omega
       · conv=>whnf
         exact⟨gT',b,o,_,_,rfl,zk1 hB hr c1 (fun z=>c2 z.1)⟩
 · intro r T hh
   cases r with
   |rt d=>exact hh.elim
   | nx δ =>
     obtain⟨gT,b,o,v3,v4,rfl,hB⟩:=hh
     rw[Nat.zero_add,List.length_map] at hB
     unfold EB
     conv=>whnf
     exact zao rfl ⟨by rw[hB.end],rfl⟩
theorem zoY (k j:K3):PySem.PyData.eqv (.tuple [.int k.1,.tuple (k.2.1.map .int),.int k.2.2]) (.tuple [.int j.1,.tuple (j.2.1.map .int),.int j.2.2])=decide (k=j):=by
 obtain⟨a,p,b⟩:=k
 obtain⟨a',p',b'⟩:=j
 simp only[PySem.PyData.eqv,PySem.PyData.eqvAll,zgw]
 by_cases h1:a=a'<;>by_cases h2:p=p'<;>by_cases h3:b=b'<;>simp[h1,h2,h3]
theorem zou (S:R.St)(n:Nat)(k:K3):pd S (n+2) (.tup [.int k.1,pD k.2.1,.int k.2.2])=some (.tuple [.int k.1,.tuple (k.2.1.map .int),.int k.2.2]):=by
 unfold pd
 rw[List.mapM_cons,List.mapM_cons,List.mapM_cons,zjL]
 rfl
theorem zp9 (S:R.St)(k j:K3):cmpO S .Eq (.tup [.int k.1,pD k.2.1,.int k.2.2]) (.tup [.int j.1,pD j.2.1,.int j.2.2])=some (decide (k=j)):=by
 show eqD S _ _=_
 unfold eqD
 rw[zou S 58,zou S 58,Option.bind_some,Option.map_some,zoY]
theorem cut3 (l:Ly):cut [D.int l.1.1,pD l.1.2.1,.int l.1.2.2,oD l.2] none (some 3)=[.int l.1.1,pD l.1.2.1,.int l.1.2.2]:=zgy [D.int l.1.1,pD l.1.2.1,.int l.1.2.2,oD l.2] 3
@[irreducible] noncomputable def EA (q:Nat)(l:Ly)(o:Option Int)(v:Option D):Ev:=[some (.ref q),some (lD l),some (oD o),v]
theorem zkH {f q:Nat}{S:R.St}{zs:List Ly}{l:Ly}(hg:S.get q=some (.lst (zs.map lD))):app (callF prog (f+1)) 9 [.ref q,lD l] S=.ok (oD (zcP l.1 l.2 zs)) S:=by
 refine zdZ (F:=zdV) rfl rfl ?_
 have hg':S.enter.get q=some (.lst (zs.map lD)):=by rw[zaG];exact hg
 have e3:∀l:Ly,atI [D.int l.1.1,pD l.1.2.1,.int l.1.2.2,oD l.2] 3=some (oD l.2):=fun _=>rfl
 conv=>whnf
 refine zaa (e3 l) ?_
 conv=>whnf
 refine zaa (hg') ?_
 conv=>whnf
 refine zay ?_
 refine W.mono (zaS (fun i δ T=>∃v:Option D,δ=EA q l (zcP l.1 l.2 (zs.take i)) v) (fun _ _=>False) _ 0 _ _ ?_ ?_) ?_
 · exact⟨none,by unfold EA;rfl⟩
 · rintro i x δ T hx ⟨v,rfl⟩
   rw[Nat.zero_add] at *
   rw[List.getElem?_map] at hx
   cases hr:zs[i]? with
   |none=>rw[hr] at hx;cases hx
   |some z=>
   rw[hr] at hx
   cases hx
   refine⟨EA q l (zcP l.1 l.2 (zs.take i)) (some (lD z)),by unfold EA;rfl,?_⟩
   rw[zce hr,zeW]
   refine wS_W _ ?_
   unfold EA lD
   conv=>whnf
   rw[cut3 z,cut3 l]
   refine zaa (zp9 _ z.1 l.1) ?_
   conv=>whnf
   refine zna (fun c1=>?_) (fun c1=>?_)
   · have c1:z.1=l.1:=by simpa using c1
     conv=>whnf
     refine zaa (e3 z) ?_
     conv=>whnf
     exact⟨some (lD z),by rw[if_pos c1];rfl⟩
   · have c1:¬z.1=l.1:=by simpa using c1
     conv=>whnf
     exact⟨some (lD z),by rw[if_neg c1];rfl⟩
 · intro r T h
   cases r with
   |rt d=>exact h.elim
   | nx δ =>
     obtain⟨v,rfl⟩:=h
     unfold EA
     rw[Nat.zero_add,List.length_map,List.take_length]
     conv=>whnf
     exact zao (ziz _ _) ⟨rfl,rfl⟩
noncomputable def tD (l:Ly):D:=.tup [pD l.1.2.1,.int l.1.2.2,oD l.2]
noncomputable def bend (zs:List Ly)(l:Ly):Ly:=(l.1,zcP l.1 l.2 zs)
@[irreducible] noncomputable def EZ (ns:List Int)(q:Nat)(b m:Int)(z:Nat)(v:Option D):Ev:=[some (.fix (ns.map .int)),some (.ref q),some (.int b),some (.int m),some (.ref z),v]
theorem znW {n q:Nat}{S:R.St}{ns:List Int}{b:Int}{m:Nat}{ls:List Ly}(m2:2<=m)(m7:m<=7)(hl:ns.length<=63)(hg:S.get q=some (.lst (ls.map lD)))(hll:ls.length<=63):∃zs:List Ly,zs.length<=63/\app (callF prog (n+4)) 8 [.fix (ns.map .int),.ref q,.int b,.int m] S=.ok (.ref S.len) (S.push (.lst (zs.map lD))):=by
 have key:W (app (callF prog (n+4)) 8 [.fix (ns.map .int),.ref q,.int b,.int m] S) fun d T=>d=.ref S.len/\∃zs:List Ly,zs.length<=63/\T=S.push (.lst (zs.map lD)):=by
  refine zi0 (F:=zdU) rfl rfl ?_
  have hg':S.enter.get q=some (.lst (ls.map lD)):=by rw[zaG];exact hg
  have hq:=zar hg
  obtain⟨zs,hz,e⟩:=zhs (n:=n) (S:=S.enter) (a:=30) (b:=b) m2 m7 hl
  have e3:∀l:Ly,atI [D.int l.1.1,pD l.1.2.1,.int l.1.2.2,oD l.2] 3=some (oD l.2):=fun _=>rfl
  conv=>whnf
  refine zal (e) ?_
  conv=>whnf
  refine zaa (zag _ _) ?_
  conv=>whnf
  refine zaa (zam hg') ?_
  conv=>whnf
  refine zab (by simp;split<;>omega) ?_
  conv=>whnf
  refine zay ?_
  refine W.mono (zaS (fun i δ T=>∃(zs':List Ly) (v:Option D),zs'.length=zs.length/\δ=EZ ns q b m S.len v/\T.get S.len=some (.lst (zs'.map lD))/\T.get q=some (.lst (ls.map lD))/\T.frz=S.frz++S.new/\T.lk=[]) (fun _ _=>False) _ 0 _ _ ?_ ?_) ?_
  · refine⟨zs,none,rfl,?_,?_,zam hg',rfl,rfl⟩
    · unfold EZ;rw[enter_len];rfl
    · rw[<-enter_len];exact zag _ _
  · rintro i x δ T hx ⟨zs',v,hlen,rfl,gz,gq,tf,tl⟩
    rw[List.getElem?_map] at hx
    cases hr:(List.range (Int.toNat (if ((ls.map lD).length:Int)<((zs.map lD).length:Int) then ((ls.map lD).length:Int) else ((zs.map lD).length:Int))))[i]? with
    |none=>rw[hr] at hx;cases hx
    |some k=>
    rw[hr] at hx
    cases hx
    have hk:k<ls.length/\k<zs'.length:=by
     have:=List.mem_of_getElem? hr
     simp at this
     split at this<;>omega
    have az:atI (zs'.map lD) (k:Int)=some (lD (zs'[k]'hk.2)):=zcE (by simp[hk.2])
    have al:atI (ls.map lD) (k:Int)=some (lD (ls[k]'hk.1)):=zcE (by simp[hk.1])
    generalize zs'[k]'hk.2=z at az
    generalize ls[k]'hk.1=l at al
    refine⟨EZ ns q b m S.len (some (.int k)),by unfold EZ;rfl,?_⟩
    obtain⟨U,u1,u2,u3,u4,u5,u6⟩:=zcR (S:=T) (l:=S.len) (.lst ((zs'.set k (l.1,z.2)).map lD)) (by rw[tf,zfK];omega) (by rw[tl];rfl)
    have hd:dPut T (.ref S.len) (.int k) (.tup ([.int l.1.1,pD l.1.2.1,.int l.1.2.2]++[oD z.2]))=some U:=by
     unfold dPut
     dsimp only
     rw[gz]
     dsimp only[zdB,Option.bind_some]
     have:R.ixN (zs'.map lD).length (k:Int)=some k:=by unfold R.ixN;simp[hk.2]
     rw[this,Option.bind_some,<-u1]
     congr 2
     rw[List.map_set];rfl
    refine wS_W _ ?_
    unfold EZ
    conv=>whnf
    rw[show (30:Int)+(k:Int)=((30+k:Nat):Int) from by omega]
    refine zal (zcW (n:=n+2) (k:=30+k)) ?_
    conv=>whnf
    refine zab (by first|decide|omega|(simp;done)|(simp;omega)) ?_
    conv=>whnf
    refine zab (by first|decide|omega|(simp;done)|(simp;omega)) ?_
    conv=>whnf
    refine zdt (fun c1=>?_) (fun c1=>?_)
    · conv=>whnf
      refine zaa (gq) ?_
      conv=>whnf
      refine zaa (al) ?_
      conv=>whnf
      rw[cut3 l]
      refine zaa (gz) ?_
      conv=>whnf
      refine zaa (az) ?_
      conv=>whnf
      refine zaa (e3 z) ?_
      conv=>whnf
      refine zab (by simp) ?_
      conv=>whnf
      refine zab (by simp) ?_
      conv=>whnf
      refine zaa (hd) ?_
      conv=>whnf
      exact⟨zs'.set k (l.1,z.2),_,by simp[hlen],rfl,u6 (zar gz),(u5 q (by omega)).trans gq,u2.trans tf,u3.trans tl⟩
    · conv=>whnf
      exact⟨zs',_,hlen,rfl,gz,gq,tf,tl⟩
  · intro r T h
    cases r with
    |rt d=>exact h.elim
    | nx δ =>
      obtain⟨zs',v,hlen,rfl,gz,gq,tf,tl⟩:=h
      unfold EZ
      conv=>whnf
      exact zev (Nat.le_refl _) gz (zgu _ _) ⟨rfl,zs',by omega,rfl⟩
 obtain⟨d,T,e,rfl,zs,hz,rfl⟩:=W_ex key
 exact⟨zs,hz,e⟩
noncomputable def Al (d:D):Prop:=∃x y w,d=.tup [x,y,oD w]/\∀S:R.St,∃a,pd S 60 (.tup [x,y])=some a
theorem al_t (l:Ly):Al (tD l):=⟨pD l.1.2.1,.int l.1.2.2,l.2,rfl,fun S=>⟨_,by unfold pd;rw[List.mapM_cons,List.mapM_cons,zjL];rfl⟩⟩
theorem al_h (l:Ly):Al (.tup [.int l.1.1,pD l.1.2.1,oD l.2]):=⟨.int l.1.1,pD l.1.2.1,l.2,rfl,fun S=>⟨_,zot S 58 _ _⟩⟩
@[irreducible] noncomputable def EK (x y:Nat)(v2:Option D):Ev:=[some (.ref x),some (.ref y),v2]
noncomputable def zpo:CS:=(.ifS (.or (.nt (.tst (.bi (.isin "tuple") (.cons (.ix (.loc 0) (.loc 2)) .nil)))) (.or (.cmp .NotEq (.bi .len (.cons (.ix (.loc 0) (.loc 2)) .nil)) (.con (D.int 3))) (.cmp .NotEq (.sl (.ix (.loc 0) (.loc 2)) false true (.con .non) (.con (D.int 2))) (.sl (.ix (.loc 1) (.loc 2)) false true (.con .non) (.con (D.int 2)))))) (.ret (.con (D.bl false)) .nil) .nil (.ifS (.nt (.tst (.call 10 0 (.cons (.ix (.ix (.loc 0) (.loc 2)) (.con (D.int 2))) (.cons (.ix (.ix (.loc 1) (.loc 2)) (.con (D.int 2))) .nil))))) (.ret (.con (D.bl false)) .nil) .nil .nil))
theorem zpn {f x y i:Nat}{T:R.St}{ds:List D}{d:D}(gx:T.get x=some (.lst ds))(gy:T.get y=some (.lst ds))(hl:ds[i]?=some d)(hA:Al d) :
  W (exS (callF prog (f+1)) zpo (EK x y (some (.int i))) T) fun r U=>U=T/\r=.nx (EK x y (some (.int i))):=by
 have at':atI ds (i:Int)=some d:=zcE hl
 obtain⟨a,b,w,rfl,hp⟩:=hA
 obtain⟨pp,hp⟩:=hp T
 have e2:atI [a,b,oD w] 2=some (oD w):=rfl
 have ec:cut [a,b,oD w] none (some 2)=[a,b]:=rfl
 unfold zpo
 refine wS_W _ ?_
 unfold EK
 conv=>whnf
 refine zaa (gx) ?_
 conv=>whnf
 refine zaa (at') ?_
 conv=>whnf
 refine zaa ((show tyOf T (.tup [a,b,oD w])=some "tuple" from rfl)) ?_
 conv=>whnf
 refine zaa (gx) ?_
 conv=>whnf
 refine zaa (at') ?_
 conv=>whnf
 refine zaa (gx) ?_
 conv=>whnf
 refine zaa (at') ?_
 conv=>whnf
 refine zaa (gy) ?_
 conv=>whnf
 refine zaa (at') ?_
 conv=>whnf
 rw[ec]
 refine zaa (zoE hp) ?_
 conv=>whnf
 refine zaa (gx) ?_
 conv=>whnf
 refine zaa (at') ?_
 conv=>whnf
 refine zaa (e2) ?_
 conv=>whnf
 refine zaa (gy) ?_
 conv=>whnf
 refine zaa (at') ?_
 conv=>whnf
 refine zaa (e2) ?_
 conv=>whnf
 refine zal (zf6 (n:=f)) ?_
 conv=>whnf
 exact⟨rfl,rfl⟩
theorem zb2 {f x y:Nat}{S:R.St}{ds:List D}(h1:S.get x=some (.lst ds))(h2:S.get y=some (.lst ds))(hA:∀d∈ds,Al d)(hl:ds.length<=100000):app (callF prog (f+2)) 11 [.ref x,.ref y] S=.ok (.bl true) S:=by
 refine zdZ (F:=zdm) rfl rfl ?_
 have g1:S.enter.get x=some (.lst ds):=by rw[zaG];exact h1
 have g2:S.enter.get y=some (.lst ds):=by rw[zaG];exact h2
 conv=>whnf
 refine zaa (znh g1) ?_
 conv=>whnf
 refine zaa (g1) ?_
 conv=>whnf
 refine zaa (g2) ?_
 conv=>whnf
 refine zk8 (by simp) ?_
 conv=>whnf
 refine zaa (g2) ?_
 conv=>whnf
 refine zab (by omega) ?_
 conv=>whnf
 refine zay ?_
 rw[show ((ds.length:Int)).toNat=ds.length by simp]
 refine W.mono (zaS (fun i δ V=>V.get x=some (.lst ds)/\V.get y=some (.lst ds)/\∃w2:Option D,δ=EK x y w2) (fun _ _=>False) _ 0 _ _ ⟨g1,g2,none,by unfold EK;rfl⟩ ?_) ?_
 · rintro j d δ V hx ⟨v1,v2,w2,rfl⟩
   rw[List.getElem?_map] at hx
   cases hj:(List.range ds.length)[j]? with
   |none=>rw[hj] at hx;cases hx
   |some k=>
   rw[hj] at hx
   cases hx
   have hk:k<ds.length:=by
    have:=List.mem_of_getElem? hj
    simpa using this
   refine⟨EK x y (some (.int k)),by unfold EK;rfl,?_⟩
   refine (zpn (f:=f) v1 v2 (List.getElem?_eq_getElem hk) (hA _ (List.getElem_mem hk))).mono ?_
   rintro r Y ⟨rfl,rfl⟩
   exact⟨v1,v2,_,rfl⟩
 · intro r V h
   cases r with
   |rt d=>exact h.elim
   | nx δ =>
     obtain⟨v1,v2,w2,rfl⟩:=h
     unfold EK
     conv=>whnf
     exact zao rfl ⟨rfl,rfl⟩
theorem zbK {P:List Fn}{F:Fn}{f n:Nat}{ds:List D}{S:R.St}{Q:D->R.St->Prop}(h:P[f]?=some F)(hl:ds.length=F.np)(w:W (exS (callF P n) F.body (zaJ F ds) S) fun r T=>match r with|.nx _=>Q .non T|.rt d=>Q d T)(hp:F.prim=none:=by rfl):W (appW (callF P (n+1)) f ds S) Q:=by
 unfold appW
 simp only[callF,h,hl,hp,if_true,zac]
 refine w.mono fun r T q=>?_
 cases r<;>exact q
theorem zdr {P:List Fn}{F:Fn}{f n:Nat}{ds:List D}{S S':R.St}{d:D}(h:P[f]?=some F)(hl:ds.length=F.np)(w:wS (callF P n) F.body (zaJ F ds) S fun r T=>match r with|.nx _=>D.non=d/\T=S'|.rt z=>z=d/\T=S')(hp:F.prim=none:=by rfl):appW (callF P (n+1)) f ds S=.ok d S':=by
 refine W.eq (zbK h hl ((wS_W _ w).mono fun r T q=>?_) hp)
 cases r<;>exact q
theorem zaq {S:R.St}{a c:Nat}{fs:List (PySem.Str × D)}(e:S.get a=some (.ins c fs)):zb7 S (.ref a)=some (c,fs):=by
 unfold zb7;dsimp only;rw[e]
theorem zaY {S:R.St}{a c:Nat}{fs:List (PySem.Str × D)}{f:PySem.Str}{v:D}(e:S.get a=some (.ins c fs))(g:fs.lookup f=some v):((zb7 S (.ref a)).bind fun p=>p.2.lookup f)=some v:=by
 rw[zaq e];exact g
structure Mv (A:List Nat) (S T:R.St):Prop where
 frz:T.frz=S.frz
 lk:T.lk=S.lk
 len:S.len<=T.len
 old:∀m o,m∉A->S.get m=some o->T.get m=some o
theorem Mv.refl (A:List Nat)(S:R.St):Mv A S S:=⟨rfl,rfl,Nat.le_refl _,fun _ _ _ h=>h⟩
theorem Mv.trans {A:List Nat}{S T U:R.St}(a:Mv A S T)(b:Mv A T U):Mv A S U:=⟨b.frz.trans a.frz,b.lk.trans a.lk,Nat.le_trans a.len b.len,fun m o h e=>b.old m o h (a.old m o h e)⟩
theorem Mv.push (A:List Nat)(S:R.St)(o:MO):Mv A S (S.push o):=⟨rfl,rfl,by rw[plen];omega,fun _ _ _ e=>zam e⟩
structure Fr (S:R.St) (a:Nat):Prop where
 f:S.frz.length<=a
 k:S.lk.contains a=false
theorem Fr.mv {A:List Nat}{S T:R.St}{a:Nat}(h:Fr S a)(v:Mv A S T):Fr T a:=⟨by rw[v.frz];exact h.f,by rw[v.lk];exact h.k⟩
theorem zbV {S:R.St}{a c:Nat}{fs gs:List (PySem.Str × D)}{f:PySem.Str}{v:D}(e:S.get a=some (.ins c fs))(hf:Fr S a)(hl:fs.length<1000)(hg:zhD f v fs=gs):∃T,zbW S (.ref a) f v=some T/\Mv [a] S T/\T.get a=some (.ins c gs):=by
 obtain⟨T,h1,h2,h3,h4,h5,h6⟩:=zcR (S:=S) (l:=a) (.ins c gs) hf.f hf.k
 refine⟨T,?_,⟨h2,h3,by omega,fun m o hm e=>by rw[h5 m (by simpa using hm)];exact e⟩,h6 (zar e)⟩
 unfold zbW
 dsimp only
 rw[e]
 dsimp only
 rw[if_pos hl,hg,h1]
theorem zgk {A:List Nat}{T U:R.St}{o:MO}(u:Mv (T.len::A) (T.push o) U):Mv A T U:=
 ⟨u.frz,u.lk,by have:=u.len;rw[plen] at this;omega,fun m x hm e=>u.old m x (by
  intro z
  rcases List.mem_cons.mp z with z|z
  · have:=zar e;omega
  · exact hm z) (zam e)⟩
theorem zc3 {T:R.St}{l:Nat}{o u:MO}(hf:Fr T l)(e:T.get l=some o):∃U,T.put l u=some U/\Mv [l] T U/\U.get l=some u:=by
 obtain⟨U,h1,h2,h3,h4,h5,h6⟩:=zcR (S:=T) (l:=l) u hf.f hf.k
 exact⟨U,h1,⟨h2,h3,by omega,fun m x hm e=>by rw[h5 m (by simpa using hm)];exact e⟩,h6 (zar e)⟩
noncomputable def scD (i n r:Int)(ls:List Ly)(a:Nat):MO:=.ins 2 [("number",.int i),("many",.int n),("rounds",.int r),("lines",.tup (ls.map lD)),("arrived",.ref a)]
noncomputable def lrD (i n r:Int)(s:Nat)(zs:List Ly):MO:=.ins 0 [("number",.int i),("many",.int n),("rounds",.int r),("inner",.ref s),("lies",.tup (zs.map lD))]
noncomputable def aD (t:Int)(l:Ly):D:=.tup [.int t,pD l.1.2.1,oD l.2]
noncomputable def pwD (l:Ly):D:=.tup [pD l.1.2.1,oD l.2]
noncomputable def atT (t:Int)(ls:List Ly):List Ly:=ls.filter fun l=>decide (l.1.1=t)
noncomputable def lB (d:D):Ly:=(lie4 d).getD ((0,[],0),none)
theorem zjY (l:Ly):lB (lD l)=l:=by unfold lB;rw[zh8];rfl
theorem zmG (p:Ly->Bool)(g:Ly->D)(ls:List Ly):(((ls.map lD).filter fun d=>p (lB d)).map fun d=>g (lB d))=(ls.filter p).map g:=by
 rw[List.filter_map,List.map_map]
 have e1:((fun d=>p (lB d))∘lD)=p:=by funext l;simp[zjY]
 have e2:((fun d=>g (lB d))∘lD)=g:=by funext l;simp[zjY]
 rw[e1,e2]
theorem zbJ (t:Int)(ls:List Ly):(atT t ls).length<=ls.length:=List.length_filter_le _ _
theorem zeu {cf:CF}{c e:CE}{T:R.St}{rest:Ev}(p:Ly->Bool)(g:Ly->D)(ls:List Ly)(v:Option D)(hc:∀l∈ls,evT cf c (some (lD l)::rest) T=.ok (p l) T)(he:∀l∈ls,p l=true->evE cf e (some (lD l)::rest) T=.ok (g l) T) :
  zax [0] (evT cf c) (evE cf e) (ls.map lD) (v::rest) T=.ok ((ls.filter p).map g) T:=by
 have h:=zbh (c:=evT cf c) (e:=evE cf e) (S:=T) (rest:=rest) (fun d=>p (lB d)) (fun d=>g (lB d)) (ls.map lD) v (fun x hx=>?_) (fun x hx hp=>?_)
 · rw[h];exact congrArg (fun z=>Out.ok z T) (zmG p g ls)
 · obtain⟨l,hl,rfl⟩:=List.mem_map.mp hx
   rw[zjY];exact hc l hl
 · obtain⟨l,hl,rfl⟩:=List.mem_map.mp hx
   rw[zjY] at hp⊢;exact he l hl hp
theorem t_is {cf:CF}{T:R.St}{l:Ly}{t:Int}{rest:Ev}{j:Nat}(h:rest[j]?=some (some (.int t))):evT cf (.cmp .Eq (.ix (.loc 0) (.con (D.int 0))) (.loc (j+1))) (some (lD l)::rest) T=.ok (decide (l.1.1=t)) T:=by
 refine W.eq (wT_W _ ?_)
 have e:((some (lD l)::rest)[j+1]?).join=some (.int t):=by rw[List.getElem?_cons_succ,h];rfl
 unfold lD
 show wE cf (.ix (.loc 0) (.con (D.int 0))) _ T _
 conv=>whnf
 refine zaa zkn ?_
 show wE cf (.loc (j+1)) _ T _
 simp only[wE]
 unfold lD at e
 rw[e]
 conv=>whnf
 exact⟨rfl,trivial⟩
section
variable {S:R.St} {f s a x c:Nat} {i n r t k:Int} {ls zs:List Ly} {rs:List Int}
theorem zgn (e:S.get s=some (scD i n r ls a))(hl:ls.length<=63):appW (callF prog (f+1)) 31 [.ref s,.int t] S=.ok (.ref S.len) (S.push (.lst ((atT t ls).map tD))):=by
 have h2:=zbJ t ls
 refine zdr (F:=zcK) rfl rfl ?_
 conv=>whnf
 refine zaa (zaY e rfl) ?_
 conv=>whnf
 refine zay ?_
 refine W.of (zeu (fun l=>decide (l.1.1=t)) tD ls none (fun l hl=>t_is (j:=0) rfl) (fun l hl _=>?_)) ?_
 · refine W.eq (wE_W _ ?_)
   unfold lD
   conv=>whnf
   exact⟨rfl,rfl⟩
 · refine zab (by rw[List.length_map];exact Nat.le_trans h2 (by omega)) ?_
   conv=>whnf
   refine zab (by rw[List.length_map];exact Nat.le_trans h2 (by omega)) ?_
   conv=>whnf
   exact⟨rfl,rfl⟩
theorem zlG {n:Nat}{S:R.St}{ls:List Ly}(hl:ls.length<=1000):app (callF prog (n+4)) 0 [.tup (ls.map lD)] S=.ok (.clo (zaA [] ls)) S:=by
 have e:callF prog (n+4) 0 [.tup (ls.map lD)] S.enter=.ok (.clo (zaA [] ls)) S.enter:=by
  show (if 3<=n+3 then prm S.enter .road [.tup (ls.map lD)] else .bad)=_
  rw[if_pos (by omega)]
  unfold prm
  dsimp only
  have:(za6 S.enter (.tup (ls.map lD))).bind (fun ds=>ds.mapM lie4)=some ls:=zh7 ls
  rw[this]
  dsimp only
  rw[if_pos ⟨hl,rfl⟩]
 unfold app
 rw[e,zas]
 unfold zcj
 rw[if_pos (by simp[flat])]
theorem zo8 {cf:CF}{e:CE}{T:R.St}{rest:Ev}(g:Ly->D):∀(ms:List Ly) (u0 u1 u2:Option D),(∀l∈ms,evE cf e (some (pD l.1.2.1)::some (.int l.1.2.2)::some (oD l.2)::rest) T=.ok (g l) T)->
  zax [0,1,2] (evT cf (.tst (.con (.bl true)))) (evE cf e) (ms.map tD) (u0::u1::u2::rest) T=.ok (ms.map g) T
 | [],_,_,_,_=>rfl
 | l :: ms, u0, u1, u2, h => by
   have ih:=zo8 (cf:=cf) (e:=e) (T:=T) (rest:=rest) g ms (some (pD l.1.2.1)) (some (.int l.1.2.2)) (some (oD l.2)) fun z hz=>h z (List.mem_cons_of_mem _ hz)
   rw[List.map_cons,List.map_cons]
   unfold zax
   show Out.bind (.ok true T) _=_
   rw[zas,if_pos rfl]
   show Out.bind (evE cf e (some (pD l.1.2.1)::some (.int l.1.2.2)::some (oD l.2)::rest) T) _=_
   rw[h l List.mem_cons_self,zas]
   show Out.bind (zax [0,1,2] _ _ (ms.map tD) (some (pD l.1.2.1)::some (.int l.1.2.2)::some (oD l.2)::rest) T) _=_
   rw[ih];rfl
noncomputable def Said (S:R.St)(ms:List Ly)(d:D)(T:R.St):Prop:=∃l,d=.ref l/\T.get l=some (.lst (ms.map tD))/\Mv [] S T/\S.len<=l
theorem zpl {l:Ly}(h:l∈atT t ls):l.1.1=t:=by
 have:=(List.mem_filter.mp h).2
 simpa using this
theorem zh0 {y cl g:Nat}{fs:List (PySem.Str × D)}{ms:List Ly}(e:S.get x=some (lrD i n r y zs))(ey:S.get y=some (.ins cl fs))(hg:[(0,22),(1,26),(2,31)].lookup cl=some g)(hn:(fs.lookup (PySem.Str.ofString "say")).isNone=true)(hs:W (appW (callF prog (f+4)) g [.ref y,.int t] S) (Said S ms))(hz:zs.length<=63)(hm:ms.length<=63)(ht:∀l∈ms,l.1.1=t):W (appW (callF prog (f+5)) 22 [.ref x,.int t] S) (Said S (ms.map (bend zs))):=by
 refine zbK (F:=zdX) rfl rfl (wS_W _ ?_)
 conv=>whnf
 refine zaa (zaY e rfl) ?_
 conv=>whnf
 refine zal (zlG (n:=f) (S:=S) (ls:=zs) (by omega)) ?_
 conv=>whnf
 refine zaa (zaY e rfl) ?_
 conv=>whnf
 refine zaa (zaq ey) ?_
 conv=>whnf
 refine zaa (hg) ?_
 conv=>whnf
 refine zab hn ?_
 conv=>whnf
 refine zaZ (hs.mono fun d T hT=>?_)
 obtain⟨l0,rfl,gl,mv,hl⟩:=hT
 conv=>whnf
 refine zaa (gl) ?_
 conv=>whnf
 refine zay ?_
 refine W.of (zo8 (fun l=>tD (bend zs l)) ms none none none (fun l hl=>?_)) ?_
 · have ht:=ht l hl
   subst ht
   refine W.eq (wE_W _ ?_)
   conv=>whnf
   refine zaa (zmT zs l.1.1 l.1.2.1 l.1.2.2 l.2) ?_
   conv=>whnf
   refine zab (by simp) ?_
   conv=>whnf
   exact⟨rfl,rfl⟩
 · refine zab (by rw[List.length_map];omega) ?_
   conv=>whnf
   refine zab (by rw[List.length_map];omega) ?_
   conv=>whnf
   refine⟨_,rfl,?_,?_,?_⟩
   · rw[show (ms.map (bend zs)).map tD=ms.map fun l=>tD (bend zs l) from by rw[List.map_map];rfl]
     exact zag _ _
   · exact mv.trans (Mv.push [] _ _)
   · exact mv.len
end
section
variable {S:R.St} {f s a x c y q:Nat} {i n r t k b:Int} {ls zs ms As Hs:List Ly} {rs:List Int}
noncomputable def arD (x:Int × Ly):D:=aD x.1 x.2
theorem zmU {cf:CF}{e:CE}{T:R.St}{rest:Ev}(g:Ly->D):∀(ms:List Ly) (u0 u1:Option D),(∀l∈ms,evE cf e (some (pD l.1.2.1)::some (oD l.2)::rest) T=.ok (g l) T)->
  zax [0,1] (evT cf (.tst (.con (.bl true)))) (evE cf e) (ms.map pwD) (u0::u1::rest) T=.ok (ms.map g) T
 | [],_,_,_=>rfl
 | l :: ms, u0, u1, h => by
   have ih:=zmU (cf:=cf) (e:=e) (T:=T) (rest:=rest) g ms (some (pD l.1.2.1)) (some (oD l.2)) fun z hz=>h z (List.mem_cons_of_mem _ hz)
   rw[List.map_cons,List.map_cons]
   unfold zax
   show Out.bind (.ok true T) _=_
   rw[zas,if_pos rfl]
   show Out.bind (evE cf e (some (pD l.1.2.1)::some (oD l.2)::rest) T) _=_
   rw[h l List.mem_cons_self,zas]
   show Out.bind (zax [0,1] _ _ (ms.map pwD) (some (pD l.1.2.1)::some (oD l.2)::rest) T) _=_
   rw[ih];rfl
theorem zpb {cf:CF}{e:CE}{T:R.St}{rest:Ev}(g:(Int × Ly)->D):∀(ms:List (Int × Ly)) (u0 u1 u2:Option D),(∀l∈ms,evE cf e (some (.int l.1)::some (pD l.2.1.2.1)::some (oD l.2.2)::rest) T=.ok (g l) T)->
  zax [0,1,2] (evT cf (.tst (.con (.bl true)))) (evE cf e) (ms.map arD) (u0::u1::u2::rest) T=.ok (ms.map g) T
 | [],_,_,_,_=>rfl
 | l :: ms, u0, u1, u2, h => by
   have ih:=zpb (cf:=cf) (e:=e) (T:=T) (rest:=rest) g ms (some (.int l.1)) (some (pD l.2.1.2.1)) (some (oD l.2.2)) fun z hz=>h z (List.mem_cons_of_mem _ hz)
   rw[List.map_cons,List.map_cons]
   unfold zax
   show Out.bind (.ok true T) _=_
   rw[zas,if_pos rfl]
   show Out.bind (evE cf e (some (.int l.1)::some (pD l.2.1.2.1)::some (oD l.2.2)::rest) T) _=_
   rw[h l List.mem_cons_self,zas]
   show Out.bind (zax [0,1,2] _ _ (ms.map arD) (some (.int l.1)::some (pD l.2.1.2.1)::some (oD l.2.2)::rest) T) _=_
   rw[ih];rfl
theorem zhY {A:List (Int × Ly)}(e:S.get s=some (scD i n r ls a))(ga:S.get a=some (.lst (A.map arD)))(fa:Fr S a)(gq:S.get q=some (.lst (ms.map pwD)))(hA:A.length<=4000)(hm:ms.length<=63) :
  W (appW (callF prog (f+1)) 30 [.ref s,.int t,.ref q] S) fun d T=>d=.non/\Mv [a] S T/\T.get a=some (.lst ((A++ms.map fun l=>(t,l)).map arD)):=by
 refine zbK (F:=zcr) rfl rfl (wS_W _ ?_)
 obtain⟨U,h1,v1,g1⟩:=zc3 (u:=.lst (A.map arD++ms.map fun l=>aD t l)) fa ga
 conv=>whnf
 refine zaa (zaY e rfl) ?_
 conv=>whnf
 refine zaa (ga) ?_
 conv=>whnf
 refine zaa (gq) ?_
 conv=>whnf
 refine zay ?_
 refine W.of (zmU (fun l=>aD t l) ms none none (fun l hl=>?_)) ?_
 · refine W.eq (wE_W _ ?_)
   conv=>whnf
   refine zab (by simp) ?_
   conv=>whnf
   exact⟨rfl,rfl⟩
 · conv=>whnf
   refine zab (by rw[List.length_map];omega) ?_
   conv=>whnf
   refine zaa (ga) ?_
   conv=>whnf
   refine zab (by rw[List.length_append,List.length_map,List.length_map];omega) ?_
   conv=>whnf
   refine zaa (h1) ?_
   conv=>whnf
   refine⟨rfl,v1,?_⟩
   rw[List.map_append,List.map_map]
   exact g1
theorem zfH {cl g:Nat}{fs:List (PySem.Str × D)}{Q:R.St->Prop}(e:S.get x=some (lrD i n r y zs))(ey:S.get y=some (.ins cl fs))(hg:[(0,21),(1,25),(2,30)].lookup cl=some g)(hn:(fs.lookup (PySem.Str.ofString "hear")).isNone=true)(hs:W (appW (callF prog f) g [.ref y,.int t,.ref q] S) fun _ T=>Q T) :
  W (appW (callF prog (f+1)) 21 [.ref x,.int t,.ref q] S) fun d T=>d=.non/\Q T:=by
 refine zbK (F:=zdo) rfl rfl (wS_W _ ?_)
 conv=>whnf
 refine zaa (zaY e rfl) ?_
 conv=>whnf
 refine zaa (zaq ey) ?_
 conv=>whnf
 refine zaa (hg) ?_
 conv=>whnf
 refine zab hn ?_
 conv=>whnf
 refine zaZ (hs.mono fun d T hT=>?_)
 exact⟨rfl,hT⟩
theorem zh3 {A:List (Int × Ly)}(e:S.get s=some (scD i n r ls a))(ga:S.get a=some (.lst (A.map arD)))(hA:A.length<=4000):appW (callF prog (f+1)) 28 [.ref s] S=.ok (.ref S.len) (S.push (.lst (A.map arD))):=by
 refine zdr (F:=zcs) rfl rfl ?_
 conv=>whnf
 refine zaa (zaY e rfl) ?_
 conv=>whnf
 refine zaa (ga) ?_
 conv=>whnf
 refine zab (by rw[List.length_map];omega) ?_
 conv=>whnf
 exact⟨rfl,rfl⟩
theorem zhZ {A:List (Int × Ly)}(e:S.get s=some (scD i n r ls a))(ga:S.get a=some (.lst (A.map arD)))(hA2:A.length<=63):W (appW (callF prog (f+6)) 29 [.ref s] S) fun d T=>d=.int (topW (A.map fun x=>x.2.2))/\Mv [] S T:=by
 have hA:=zdP (A.map fun x=>x.2.2)
 rw[List.length_map] at hA
 refine zbK (F:=zbH) rfl rfl (wS_W _ ?_)
 conv=>whnf
 refine zaa (zaY e rfl) ?_
 conv=>whnf
 refine zaa (ga) ?_
 conv=>whnf
 refine zay ?_
 refine W.of (zpb (fun l=>oD l.2.2) A none none none (fun l hl=>?_)) ?_
 · refine W.eq (wE_W _ ?_)
   conv=>whnf
   exact⟨rfl,rfl⟩
 · refine zab (by rw[List.length_map];omega) ?_
   conv=>whnf
   refine zab (by rw[List.length_map];omega) ?_
   conv=>whnf
   refine zal (znT (n:=f) (os:=A.map fun x=>x.2.2) (by rw[List.map_map];exact zag _ _) (by omega) (by rw[List.length_map];omega)) ?_
   conv=>whnf
   exact⟨rfl,Mv.push _ _ _⟩
theorem zh1 {cl g:Nat}{fs:List (PySem.Str × D)}{Q:D->R.St->Prop}(e:S.get x=some (lrD i n r y zs))(ey:S.get y=some (.ins cl fs))(hg:[(0,20),(1,24),(2,29)].lookup cl=some g)(hn:(fs.lookup (PySem.Str.ofString "ending")).isNone=true)(hs:W (appW (callF prog f) g [.ref y] S) Q) :
  W (appW (callF prog (f+1)) 20 [.ref x] S) Q:=by
 refine zbK (F:=zct) rfl rfl (wS_W _ ?_)
 conv=>whnf
 refine zaa (zaY e rfl) ?_
 conv=>whnf
 refine zaa (zaq ey) ?_
 conv=>whnf
 refine zaa (hg) ?_
 conv=>whnf
 refine zab hn ?_
 conv=>whnf
 exact zaZ (hs.mono fun d T hT=>hT)
theorem zh2 {cl:Nat}(e:S.get a=some (.ins cl []))(hf:Fr S a):W (appW (callF prog (f+1)) 23 [.ref a,.int i,.int n,.int r] S) fun d T=>Mv [a] S T/\T.get a=some (.ins cl [("number",.int i),("many",.int n),("rounds",.int r)]):=by
 refine zbK (F:=zcb) rfl rfl (wS_W _ ?_)
 obtain⟨T1,h1,v1,g1⟩:=zbV (f:="number") (v:=.int i) (gs:=[("number",.int i)]) e hf (by simp) rfl
 obtain⟨T2,h2,v2,g2⟩:=zbV (f:="many") (v:=.int n) (gs:=[("number",.int i),("many",.int n)]) g1 (hf.mv v1) (by simp) rfl
 obtain⟨T3,h3,v3,g3⟩:=zbV (f:="rounds") (v:=.int r) (gs:=[("number",.int i),("many",.int n),("rounds",.int r)]) g2 ((hf.mv v1).mv v2) (by simp) rfl
 conv=>whnf
 refine zaa (h1) ?_
 conv=>whnf
 refine zaa (h2) ?_
 conv=>whnf
 refine zaa (h3) ?_
 conv=>whnf
 exact⟨(v1.trans v2).trans v3,g3⟩
theorem zmj (e:S.get a=some (.ins 2 []))(hf:Fr S a)(gq:S.get q=some (.lst (ls.map lD)))(hl:ls.length<=63):W (appW (callF prog (f+2)) 27 [.ref a,.int i,.int n,.int r,.ref q] S) fun d T=>d=.non/\Mv [a] S T/\∃ar,S.len<=ar/\T.get a=some (scD i n r ls ar)/\T.get ar=some (.lst []):=by
 have na:q≠a:=fun z=>by rw[z,e] at gq;cases gq
 have la:=zar e
 refine zbK (F:=zcq) rfl rfl (wS_W _ ?_)
 conv=>whnf
 refine zaZ ((zh2 (f:=f) e hf).mono fun d T hT=>?_)
 obtain⟨v1,g1⟩:=hT
 conv=>whnf
 refine zaa (v1.old _ _ (by simpa using na) gq) ?_
 conv=>whnf
 refine zab (by rw[List.length_map];omega) ?_
 conv=>whnf
 obtain⟨T2,h2,v2,g2⟩:=zbV (f:="lines") (v:=.tup (ls.map lD)) (gs:=[("number",.int i),("many",.int n),("rounds",.int r),("lines",.tup (ls.map lD))]) g1 (hf.mv v1) (by simp) rfl
 refine zaa (h2) ?_
 conv=>whnf
 refine zab (by first|decide|omega|(simp;done)|(simp;omega)) ?_
 conv=>whnf
 have m2:=(v1.trans v2).trans (Mv.push [a] T2 (.lst []))
 have l2:=(v1.trans v2).len
 have ga:=zag T2 (.lst [])
 have g2':=zam (o:=.lst []) g2
 obtain⟨T3,h3,v3,g3⟩:=zbV (f:="arrived") (v:=.ref T2.len) (gs:=[("number",.int i),("many",.int n),("rounds",.int r),("lines",.tup (ls.map lD)),("arrived",.ref T2.len)]) g2' (hf.mv m2) (by simp) rfl
 refine zaa (h3) ?_
 conv=>whnf
 exact⟨rfl,m2.trans v3,T2.len,l2,g3,v3.old _ _ (by simp;omega) ga⟩
theorem zfG {cl:Nat}{fs:List (PySem.Str × D)}(e:S.get x=some (.ins 0 []))(hf:Fr S x)(es:S.get s=some (.ins cl fs))(f1:fs.lookup (PySem.Str.ofString "number")=some (.int i))(f2:fs.lookup (PySem.Str.ofString "many")=some (.int n))(f3:fs.lookup (PySem.Str.ofString "rounds")=some (.int r))(gq:S.get q=some (.lst (zs.map lD)))(hz:zs.length<=63):W (appW (callF prog (f+2)) 19 [.ref x,.ref s,.ref q] S) fun d T=>d=.non/\Mv [x] S T/\T.get x=some (lrD i n r s zs):=by
 have na:q≠x:=fun z=>by rw[z,e] at gq;cases gq
 refine zbK (F:=zdn) rfl rfl (wS_W _ ?_)
 conv=>whnf
 refine zaa (zaY es f1) ?_
 conv=>whnf
 refine zaa (zaY es f2) ?_
 conv=>whnf
 refine zaa (zaY es f3) ?_
 conv=>whnf
 refine zaZ ((zh2 (f:=f) e hf).mono fun d T hT=>?_)
 obtain⟨v1,g1⟩:=hT
 obtain⟨T2,h2,v2,g2⟩:=zbV (f:="inner") (v:=.ref s) (gs:=[("number",.int i),("many",.int n),("rounds",.int r),("inner",.ref s)]) g1 (hf.mv v1) (by simp) rfl
 conv=>whnf
 refine zaa (h2) ?_
 conv=>whnf
 have m2:=v1.trans v2
 refine zaa (m2.old _ _ (by simpa using na) gq) ?_
 conv=>whnf
 refine zab (by rw[List.length_map];omega) ?_
 conv=>whnf
 obtain⟨T3,h3,v3,g3⟩:=zbV (f:="lies") (v:=.tup (zs.map lD)) (gs:=[("number",.int i),("many",.int n),("rounds",.int r),("inner",.ref s),("lies",.tup (zs.map lD))]) g2 (hf.mv m2) (by simp) rfl
 refine zaa (h3) ?_
 conv=>whnf
 exact⟨rfl,m2.trans v3,g3⟩
end
structure HW (T:R.St) (x y s a:Nat) (i n r:Int) (ls zs us:List Ly) (A:List (Int × Ly)):Prop where
 gx:T.get x=some (lrD i n r y zs)
 gs:T.get s=some (scD i n r ls a)
 ga:T.get a=some (.lst (A.map arD))
 gy:(y=s/\us=[])\/T.get y=some (lrD i n r s us)
 hl:ls.length<=63
 hz:zs.length<=63
 hu:us.length<=63
 hA:A.length<=63
noncomputable def letZ (ls zs us:List Ly)(t:Int):List Ly:=((atT t ls).map (bend us)).map (bend zs)
section
variable {T U S:R.St} {f x y s a q ql qt qz:Nat} {i n r t:Int} {ls zs us ms:List Ly} {A B:List (Int × Ly)}
theorem HW.of (h:HW T x y s a i n r ls zs us A)(v:∀m o,T.get m=some o->U.get m=some o):HW U x y s a i n r ls zs us A:=
 ⟨v _ _ h.gx,v _ _ h.gs,v _ _ h.ga,h.gy.imp id fun z=>v _ _ z,h.hl,h.hz,h.hu,h.hA⟩
theorem HW.mv (h:HW T x y s a i n r ls zs us A)(v:Mv [] T U):HW U x y s a i n r ls zs us A:=h.of fun m o e=>v.old m o (by simp) e
theorem HW.upd (h:HW T x y s a i n r ls zs us A)(v:Mv [a] T U)(g:U.get a=some (.lst (B.map arD)))(hB:B.length<=63):HW U x y s a i n r ls zs us B:=by
 have nx:x≠a:=fun z=>by have:=h.gx;rw[z,h.ga] at this;cases this
 have ns:s≠a:=fun z=>by have:=h.gs;rw[z,h.ga] at this;cases this
 refine⟨v.old _ _ (by simpa using nx) h.gx,v.old _ _ (by simpa using ns) h.gs,g,h.gy.imp id fun z=>v.old _ _ ?_ z,h.hl,h.hz,h.hu,hB⟩
 have ny:y≠a:=fun w=>by rw[w,h.ga] at z;cases z
 simpa using ny
theorem zoJ {l:Ly}(h:l∈(atT t ls).map (bend us)):l.1.1=t:=by
 obtain⟨z,hz,rfl⟩:=List.mem_map.mp h
 show z.1.1=t
 exact zpl hz
theorem zfJ:(letZ ls zs us t).length<=ls.length:=by
 unfold letZ
 rw[List.length_map,List.length_map];exact zbJ t ls
theorem zm7 (h:HW T x y s a i n r ls zs us A):W (appW (callF prog (f+6)) 22 [.ref x,.int t] T) (Said T (letZ ls zs us t)):=by
 have h2:=zbJ t ls
 have h3:=h.hl
 unfold letZ
 rcases h.gy with ⟨rfl,rfl⟩|gy
 · refine zh0 (f:=f+1) h.gx h.gs rfl rfl (W.of (zgn (f:=f+4) h.gs h.hl) ?_) h.hz (by rw[List.length_map];omega) fun l=>zoJ
   refine⟨_,rfl,?_,Mv.push _ _ _,Nat.le_refl _⟩
   rw[show (atT t ls).map (bend [])=atT t ls from by rw[show bend []=id from rfl,List.map_id]]
   exact zag _ _
 · refine zh0 (f:=f+1) h.gx gy rfl rfl (zh0 (f:=f) gy h.gs rfl rfl (W.of (zgn (f:=f+3) h.gs h.hl) ⟨_,rfl,zag _ _,Mv.push _ _ _,Nat.le_refl _⟩) h.hu (by omega) fun l hl=>zpl hl) h.hz (by rw[List.length_map];omega) fun l=>zoJ
theorem zm8 (h:HW T x y s a i n r ls zs us A)(fa:Fr T a)(gq:T.get q=some (.lst (ms.map pwD)))(hm:ms.length<=63)(hB:B=A++ms.map (fun l=>(t,l)))(hl:B.length<=63):W (appW (callF prog (f+6)) 21 [.ref x,.int t,.ref q] T) fun d U=>d=.non/\Mv [a] T U/\HW U x y s a i n r ls zs us B:=by
 have hA:=h.hA
 have fin:∀U,Mv [a] T U->U.get a=some (.lst ((A++ms.map fun l=>(t,l)).map arD))->Mv [a] T U/\HW U x y s a i n r ls zs us B:=fun U v g=>⟨v,h.upd v (by rw[hB];exact g) hl⟩
 rcases h.gy with ⟨rfl,rfl⟩|gy
 · exact zfH (f:=f+5) h.gx h.gs rfl rfl ((zhY (f:=f+4) h.gs h.ga fa gq (by omega) hm).mono fun d U hU=>fin U hU.2.1 hU.2.2)
 · exact zfH (f:=f+5) h.gx gy rfl rfl ((zfH (f:=f+4) gy h.gs rfl rfl ((zhY (f:=f+3) h.gs h.ga fa gq (by omega) hm).mono fun d U hU=>fin U hU.2.1 hU.2.2)).mono fun d U hU=>hU.2)
theorem zpw (h:HW T x y s a i n r ls zs us A):W (appW (callF prog (f+8)) 20 [.ref x] T) fun d U=>d=.int (topW (A.map fun x=>x.2.2))/\Mv [] T U:=by
 rcases h.gy with ⟨rfl,rfl⟩|gy
 · exact zh1 (f:=f+7) h.gx h.gs rfl rfl (zhZ (f:=f+1) h.gs h.ga h.hA)
 · exact zh1 (f:=f+7) h.gx gy rfl rfl (zh1 (f:=f+6) gy h.gs rfl rfl (zhZ (f:=f) h.gs h.ga h.hA))
end
theorem zbg {cf:CF}{i:Nat}{e:CE}{r:CS}{δ:Ev}{S:R.St}{Q:Fl->R.St->Prop}(h:W (evE cf e δ S) fun d S'=>W (exS cf r (δ.set i (some d)) S') Q):W (exS cf (.asg i e r) δ S) Q:=by rw[exS,zac];exact h
theorem zcm {cf:CF}{e:CE}{r:CS}{δ:Ev}{S:R.St}{Q:Fl->R.St->Prop}(h:W (evE cf e δ S) fun d S'=>W (exS cf r δ S') Q):W (exS cf (.expr e r) δ S) Q:=by rw[exS,zac];exact h
theorem zbn {cf:CF}{c:CE}{u r:CS}{δ:Ev}{S:R.St}{Q:Fl->R.St->Prop}(w:W (evT cf c δ S) fun k S1=>k=false/\W (exS cf r δ S1) Q):W (exS cf (.ifS c u .nil r) δ S) Q:=by
 rw[exS,zac]
 refine w.mono fun k S1 hk=>?_
 obtain⟨rfl,w1⟩:=hk
 simp only[exS,Bool.false_eq_true,if_false,zas]
 exact w1
theorem zmx {cf:CF}{c:CE}{u v r:CS}{δ:Ev}{S S1:R.St}{Q:Fl->R.St->Prop}(e:evT cf c δ S=.ok true S1)(w:W (exS cf u δ S1) fun f T=>match f with|.nx δ'=>W (exS cf r δ' T) Q|.rt d=>Q (.rt d) T):W (exS cf (.ifS c u v r) δ S) Q:=by
 rw[exS,e,zas,if_pos rfl,zac]
 refine w.mono fun f T hf=>?_
 cases f<;>exact hf
theorem zeG {cf:CF}{e:CE}{r:CS}{δ:Ev}{S:R.St}{Q:Fl->R.St->Prop}(h:W (evE cf e δ S) fun d S'=>Q (.rt d) S'):W (exS cf (.ret e r) δ S) Q:=by rw[exS,zac];exact h.mono fun d S' q=>q
theorem zo7 {P:List Fn}{F:Fn}{f n:Nat}{ds:List D}{S:R.St}{Q:D->R.St->Prop}(h:P[f]?=some F)(hl:ds.length=F.np)(hp:F.prim=none)(w:W (exS (callF P n) F.body (zaJ F ds) S) fun r T=>match r with|.nx _=>Q .non T|.rt d=>Q d T):W (callF P (n+1) f ds S) Q:=by
 simp only[callF,h,hl,hp,if_true,zac]
 refine w.mono fun r T q=>?_
 cases r<;>exact q
theorem zml {T:R.St}{l:List Nat}(h:T.lk=l):({T with lk:=l}:R.St)=T:=by subst h;rfl
noncomputable def TQ (r:Fl)(_:R.St):Prop:=match r with|.nx _=>False|.rt d=>d=.bl true
@[irreducible] noncomputable def EY (s x ql qt qz:Nat)(t:Int)(v6 v7 v8 v9:Option D):Ev:=[some (.ref s),some (.ref x),some (.ref ql),some (.ref qt),some (.ref qz),some (.int t),v6,v7,v8,v9]
theorem EY_6 {s x ql qt qz:Nat}{t:Int}{v6 v7 v8 v9:Option D}{d:D}:(EY s x ql qt qz t v6 v7 v8 v9).set 6 (some d)=EY s x ql qt qz t (some d) v7 v8 v9:=by unfold EY;rfl
theorem EY_7 {s x ql qt qz:Nat}{t:Int}{v6 v7 v8 v9:Option D}{d:D}:(EY s x ql qt qz t v6 v7 v8 v9).set 7 (some d)=EY s x ql qt qz t v6 (some d) v8 v9:=by unfold EY;rfl
theorem EY_8 {s x ql qt qz:Nat}{t:Int}{v6 v7 v8 v9:Option D}{d:D}:(EY s x ql qt qz t v6 v7 v8 v9).set 8 (some d)=EY s x ql qt qz t v6 v7 (some d) v9:=by unfold EY;rfl
theorem EY_9 {s x ql qt qz:Nat}{t:Int}{v6 v7 v8 v9:Option D}{d:D}:(EY s x ql qt qz t v6 v7 v8 v9).set 9 (some d)=EY s x ql qt qz t v6 v7 v8 (some d):=by unfold EY;rfl
noncomputable def y_6:CE:=(.mkL (.comp 1 [5] [0] (.val (.loc 2)) (.cmp .Eq (.ix (.loc 0) (.con (D.int 0))) (.loc 1)) (.tup (.cons (.ix (.loc 0) (.con (D.int 1))) (.cons (.ix (.loc 0) (.con (D.int 2))) (.cons (.ix (.loc 0) (.con (D.int 3))) .nil))))))
noncomputable def y_7:CE:=(.mkL (.comp 1 [4,5] [0] (.val (.loc 3)) (.cmp .Eq (.ix (.loc 0) (.con (D.int 0))) (.loc 2)) (.tup (.cons (.ix (.loc 0) (.con (D.int 1))) (.cons (.ix (.loc 0) (.con (D.int 2))) (.cons (.call 9 0 (.cons (.loc 1) (.cons (.loc 0) .nil))) .nil))))))
noncomputable def y_8:CE:=(.meth "say" [(0,22),(1,26),(2,31)] (.loc 1) (.cons (.loc 5) .nil))
noncomputable def y_9:CE:=(.meth "say" [(0,22),(1,26),(2,31)] (.loc 0) (.cons (.loc 5) .nil))
noncomputable def y_q:CE:=(.or (.nt (.tst (.call 11 0 (.cons (.loc 8) (.cons (.loc 7) .nil))))) (.nt (.tst (.call 11 0 (.cons (.loc 9) (.cons (.loc 6) .nil))))))
noncomputable def y_a:CE:=(.mt .append (.loc 8) (.cons (.tup (.cons (.tup (.cons (.con (D.int 0)) .nil)) (.cons (.con (D.int 0)) (.cons (.con (D.int 0)) .nil)))) .nil))
noncomputable def y_b:CE:=(.mt .append (.loc 9) (.cons (.tup (.cons (.tup (.cons (.con (D.int 0)) .nil)) (.cons (.con (D.int 0)) (.cons (.con (D.int 0)) .nil)))) .nil))
noncomputable def y_r:CE:=(.and (.call 11 0 (.cons (.meth "say" [(0,22),(1,26),(2,31)] (.loc 1) (.cons (.loc 5) .nil)) (.cons (.loc 7) .nil))) (.call 11 0 (.cons (.meth "say" [(0,22),(1,26),(2,31)] (.loc 0) (.cons (.loc 5) .nil)) (.cons (.loc 6) .nil))))
theorem zhq:c_law_says.body=(.asg 6 y_6 (.asg 7 y_7 (.asg 8 y_8 (.asg 9 y_9 (.ifS y_q (.ret (.con (D.bl false)) .nil) .nil (.expr y_a (.expr y_b (.ret y_r .nil)))))))):=rfl
theorem zfN (T:R.St):T.frz.length<=T.len:=by unfold St.len;omega
section
variable {T U S:R.St} {f x y s a q ql qt qz:Nat} {i n r t:Int} {ls zs us ms:List Ly} {A B:List (Int × Ly)} {v6 v7 v8 v9:Option D}
theorem zkr {d:D}(h:d∈ms.map tD):Al d:=by
 obtain⟨l,_,rfl⟩:=List.mem_map.mp h
 exact al_t l
theorem zm3 {d:D}(h:d∈A.map arD):Al d:=by
 obtain⟨l,_,rfl⟩:=List.mem_map.mp h
 exact al_h ((l.1,l.2.1.2.1,0),l.2.2)
theorem vy_6 (gl:T.get ql=some (.lst (ls.map lD)))(hl:ls.length<=63):evE (callF prog (f+7)) y_6 (EY s x ql qt qz t v6 v7 v8 v9) T=.ok (.ref T.len) (T.push (.lst ((atT t ls).map tD))):=by
 have h2:=zbJ t ls
 refine W.eq (wE_W _ ?_)
 unfold EY
 conv=>whnf
 refine zaa (gl) ?_
 conv=>whnf
 refine zay ?_
 refine W.of (zeu (fun l=>decide (l.1.1=t)) tD ls none (fun l hl=>t_is (j:=0) rfl) (fun l hl _=>?_)) ?_
 · refine W.eq (wE_W _ ?_)
   unfold lD
   conv=>whnf
   refine zaa (zmZ) ?_
   conv=>whnf
   refine zaa ((show atI [D.int l.1.1,pD l.1.2.1,D.int l.1.2.2,oD l.2] 2=some (.int l.1.2.2) from rfl)) ?_
   conv=>whnf
   refine zaa ((show atI [D.int l.1.1,pD l.1.2.1,D.int l.1.2.2,oD l.2] 3=some (oD l.2) from rfl)) ?_
   conv=>whnf
   refine zab (by simp) ?_
   conv=>whnf
   exact⟨rfl,rfl⟩
 · refine zab (by rw[List.length_map];exact Nat.le_trans h2 (by omega)) ?_
   conv=>whnf
   refine zab (by rw[List.length_map];exact Nat.le_trans h2 (by omega)) ?_
   conv=>whnf
   exact⟨rfl,rfl⟩
theorem ziB:((ls.map (bend us)).filter fun l=>decide (l.1.1=t)).map (fun l=>tD (bend zs l))=(letZ ls zs us t).map tD:=by
 unfold letZ atT
 rw[List.filter_map,List.map_map,List.map_map,List.map_map]
 rfl
theorem vy_7 (gt:T.get qt=some (.lst ((ls.map (bend us)).map lD)))(gz:T.get qz=some (.lst (zs.map lD)))(hl:ls.length<=63):evE (callF prog (f+7)) y_7 (EY s x ql qt qz t v6 v7 v8 v9) T=.ok (.ref T.len) (T.push (.lst ((letZ ls zs us t).map tD))):=by
 have h2:=zfJ (ls:=ls) (zs:=zs) (us:=us) (t:=t)
 refine W.eq (wE_W _ ?_)
 unfold EY
 conv=>whnf
 refine zaa (gt) ?_
 conv=>whnf
 refine zay ?_
 refine W.of (zeu (fun l=>decide (l.1.1=t)) (fun l=>tD (bend zs l)) (ls.map (bend us)) none (fun l hl=>t_is (j:=1) rfl) (fun l hl _=>?_)) ?_
 · refine W.eq (wE_W _ ?_)
   have e1:atI [D.int l.1.1,pD l.1.2.1,D.int l.1.2.2,oD l.2] 2=some (.int l.1.2.2):=rfl
   conv=>whnf
   refine zaa (zmZ) ?_
   conv=>whnf
   refine zaa (e1) ?_
   conv=>whnf
   refine zal (zkH (f:=f+6) (l:=l) (zs:=zs) (show St.get _ qz=_ from gz)) ?_
   conv=>whnf
   refine zab (by simp) ?_
   conv=>whnf
   exact⟨rfl,rfl⟩
 · rw[ziB]
   refine zab (by rw[List.length_map];omega) ?_
   conv=>whnf
   refine zab (by rw[List.length_map];omega) ?_
   conv=>whnf
   exact⟨rfl,rfl⟩
theorem vy_8 (h:HW T x y s a i n r ls zs us A):W (evE (callF prog (f+7)) y_8 (EY s x ql qt qz t v6 v7 v8 v9) T) (Said T (letZ ls zs us t)):=by
 refine wE_W _ ?_
 unfold EY
 conv=>whnf
 refine zaa (zaq h.gx) ?_
 conv=>whnf
 refine zaa (rfl) ?_
 conv=>whnf
 refine zab rfl ?_
 conv=>whnf
 exact zaZ ((zm7 (f:=f+1) h).mono fun d T hT=>hT)
theorem vy_9 (h:HW T x y s a i n r ls zs us A):evE (callF prog (f+7)) y_9 (EY s x ql qt qz t v6 v7 v8 v9) T=.ok (.ref T.len) (T.push (.lst ((atT t ls).map tD))):=by
 refine W.eq (wE_W _ ?_)
 unfold EY
 conv=>whnf
 refine zaa (zaq h.gs) ?_
 conv=>whnf
 refine zaa (rfl) ?_
 conv=>whnf
 refine zab rfl ?_
 conv=>whnf
 refine zal (zgn (f:=f+6) (t:=t) h.gs h.hl) ?_
 conv=>whnf
 exact⟨rfl,rfl⟩
end
section
variable {T U S:R.St} {f x y s a q ql qt qz:Nat} {i n r t:Int} {ls zs us ms:List Ly} {A B:List (Int × Ly)} {v6 v7 v8 v9:Option D}
theorem vy_q {l6 l7 l8 l9:Nat}{ks:List Ly}(hm:ms.length<=63)(hk:ks.length<=63)(g6:T.get l6=some (.lst (ks.map tD)))(g7:T.get l7=some (.lst (ms.map tD)))(g8:T.get l8=some (.lst (ms.map tD)))(g9:T.get l9=some (.lst (ks.map tD))):evT (callF prog (f+7)) y_q (EY s x ql qt qz t (some (.ref l6)) (some (.ref l7)) (some (.ref l8)) (some (.ref l9))) T=.ok false T:=by
 refine W.eq (wT_W _ ?_)
 unfold EY
 conv=>whnf
 refine zal (zb2 (f:=f+5) g8 g7 (fun d=>zkr) (by rw[List.length_map];omega)) ?_
 conv=>whnf
 refine zal (zb2 (f:=f+5) g9 g6 (fun d=>zkr) (by rw[List.length_map];omega)) ?_
 conv=>whnf
 exact⟨rfl,rfl⟩
theorem vy_a {l:Nat}{ds:List D}(g:T.get l=some (.lst ds))(hf:Fr T l)(hl:ds.length<=1000):∃U,evE (callF prog (f+7)) y_a (EY s x ql qt qz t v6 v7 (some (.ref l)) v9) T=.ok .non U/\Mv [l] T U:=by
 obtain⟨U,h1,v1,g1⟩:=zc3 (u:=.lst (ds++[.tup [.tup [.int 0],.int 0,.int 0]])) hf g
 refine⟨U,W.eq (wE_W _ ?_),v1⟩
 unfold EY
 conv=>whnf
 refine zaa (g) ?_
 conv=>whnf
 refine zab (by first|decide|omega|(simp;done)|(simp;omega)) ?_
 conv=>whnf
 refine zab (by first|decide|omega|(simp;done)|(simp;omega)) ?_
 conv=>whnf
 refine zaa (g) ?_
 conv=>whnf
 refine zab (by simp only[List.length_append,List.length_cons,List.length_nil];omega) ?_
 conv=>whnf
 refine zaa (h1) ?_
 conv=>whnf
 exact⟨rfl,rfl⟩
theorem vy_b {l:Nat}{ds:List D}(g:T.get l=some (.lst ds))(hf:Fr T l)(hl:ds.length<=1000):∃U,evE (callF prog (f+7)) y_b (EY s x ql qt qz t v6 v7 v8 (some (.ref l))) T=.ok .non U/\Mv [l] T U:=by
 obtain⟨U,h1,v1,g1⟩:=zc3 (u:=.lst (ds++[.tup [.tup [.int 0],.int 0,.int 0]])) hf g
 refine⟨U,W.eq (wE_W _ ?_),v1⟩
 unfold EY
 conv=>whnf
 refine zaa (g) ?_
 conv=>whnf
 refine zab (by first|decide|omega|(simp;done)|(simp;omega)) ?_
 conv=>whnf
 refine zab (by first|decide|omega|(simp;done)|(simp;omega)) ?_
 conv=>whnf
 refine zaa (g) ?_
 conv=>whnf
 refine zab (by simp only[List.length_append,List.length_cons,List.length_nil];omega) ?_
 conv=>whnf
 refine zaa (h1) ?_
 conv=>whnf
 exact⟨rfl,rfl⟩
theorem vy_r {l6 l7:Nat}(h:HW T x y s a i n r ls zs us A)(g6:T.get l6=some (.lst ((atT t ls).map tD)))(g7:T.get l7=some (.lst ((letZ ls zs us t).map tD))):W (evE (callF prog (f+7)) y_r (EY s x ql qt qz t (some (.ref l6)) (some (.ref l7)) v8 v9) T) fun d _=>d=.bl true:=by
 have h2:=zbJ t ls
 have h3:=h.hl
 have h4:=zfJ (ls:=ls) (zs:=zs) (us:=us) (t:=t)
 refine wE_W _ ?_
 unfold EY
 conv=>whnf
 refine zaa (zaq h.gx) ?_
 conv=>whnf
 refine zaa (rfl) ?_
 conv=>whnf
 refine zab rfl ?_
 conv=>whnf
 refine zaZ ((zm7 (f:=f+1) h).mono fun d U hU=>?_)
 obtain⟨l,rfl,g1,mv,hl⟩:=hU
 have h':=h.mv mv
 have g6':=mv.old _ _ (by simp) g6
 conv=>whnf
 refine zal (zb2 (f:=f+5) g1 (mv.old _ _ (by simp) g7) (fun d=>zkr) (by rw[List.length_map];omega)) ?_
 conv=>whnf
 refine zaa (zaq h'.gs) ?_
 conv=>whnf
 refine zaa (rfl) ?_
 conv=>whnf
 refine zab rfl ?_
 conv=>whnf
 refine zal (zgn (f:=f+6) (t:=t) h'.gs h'.hl) ?_
 conv=>whnf
 refine zal (zb2 (f:=f+5) (zag _ _) (zam g6') (fun d=>zkr) (by rw[List.length_map];omega)) ?_
 conv=>whnf
theorem znS (h:HW S x y s a i n r ls zs us A)(gl:S.get ql=some (.lst (ls.map lD)))(gt:S.get qt=some (.lst ((ls.map (bend us)).map lD)))(gz:S.get qz=some (.lst (zs.map lD))):app (callF prog (f+8)) 14 [.ref s,.ref x,.ref ql,.ref qt,.ref qz,.int t] S=.ok (.bl true) S:=by
 have h2:=zbJ t ls
 have h3:=h.hl
 have h4:=zfJ (ls:=ls) (zs:=zs) (us:=us) (t:=t)
 refine zkq (F:=c_law_says) rfl rfl ?_
 have en:∀m o,S.get m=some o->S.enter.get m=some o:=fun m o e=>by rw[zaG];exact e
 have H0:=h.of en
 have gl:=en _ _ gl
 have gt:=en _ _ gt
 have gz:=en _ _ gz
 have k0:S.enter.lk=[]:=rfl
 generalize S.enter=T at *
 rw[zhq,show zaJ c_law_says [.ref s,.ref x,.ref ql,.ref qt,.ref qz,.int t]=EY s x ql qt qz t none none none none by unfold EY;rfl]
 refine zaz (vy_6 gl h3) ?_
 rw[EY_6]
 have m1:=Mv.push [] T (.lst ((atT t ls).map tD))
 have g6:=zag T (.lst ((atT t ls).map tD))
 generalize T.push (.lst ((atT t ls).map tD))=T1 at *
 refine zaz (vy_7 (m1.old _ _ (by simp) gt) (m1.old _ _ (by simp) gz) h3) ?_
 rw[EY_7]
 have m2:=Mv.push [] T1 (.lst ((letZ ls zs us t).map tD))
 have g7:=zag T1 (.lst ((letZ ls zs us t).map tD))
 have s2:=plen T1 (.lst ((letZ ls zs us t).map tD))
 generalize T1.push (.lst ((letZ ls zs us t).map tD))=T2 at *
 have H2:=(H0.mv m1).mv m2
 refine zbg ((vy_8 H2).mono fun d T3 h3'=>?_)
 obtain⟨l8,rfl,g8,m3,hl8⟩:=h3'
 rw[EY_8]
 have H3:=H2.mv m3
 refine zaz (vy_9 H3) ?_
 rw[EY_9]
 have m4:=Mv.push [] T3 (.lst ((atT t ls).map tD))
 have g9:=zag T3 (.lst ((atT t ls).map tD))
 have m34:=m3.trans m4
 have ln3:=m3.len
 have lT1:=zar g6
 generalize T3.push (.lst ((atT t ls).map tD))=T4 at *
 have H4:=H3.mv m4
 have g8':=m4.old _ _ (by simp) g8
 have g6':=m34.old _ _ (by simp) (m2.old _ _ (by simp) g6)
 have g7':=m34.old _ _ (by simp) g7
 refine zbn (W.of (vy_q (by omega) (by omega) g6' g7' g8' g9) ⟨rfl,?_⟩)
 have fz:T4.frz=T.frz:=((m34.frz.trans m2.frz).trans m1.frz)
 have lk:T4.lk=[]:=((m34.lk.trans m2.lk).trans m1.lk).trans k0
 have f0:=zfN T
 have l1:=m1.len
 have l2:=m2.len
 have l83:=zar g8
 obtain⟨T5,e5,m5⟩:=vy_a (f:=f) (s:=s) (x:=x) (ql:=ql) (qt:=qt) (qz:=qz) (t:=t) (v6:=some (.ref T.len)) (v7:=some (.ref T1.len)) (v9:=some (.ref T3.len)) g8' ⟨by rw[fz];omega,by rw[lk];rfl⟩ (by rw[List.length_map];omega)
 refine zcm (W.of e5 ?_)
 have g9':=m5.old _ _ (by simp;omega) g9
 obtain⟨T6,e6,m6⟩:=vy_b (f:=f) (s:=s) (x:=x) (ql:=ql) (qt:=qt) (qz:=qz) (t:=t) (v6:=some (.ref T.len)) (v7:=some (.ref T1.len)) (v8:=some (.ref l8)) g9' ⟨by rw[m5.frz,fz];omega,by rw[m5.lk,lk];rfl⟩ (by rw[List.length_map];omega)
 refine zcm (W.of e6 ?_)
 have H6:HW T6 x y s a i n r ls zs us A:=H2.of fun m o e=>m6.old _ _ (by have:=zar e;simp;omega) (m5.old _ _ (by have:=zar e;simp;omega) (m34.old _ _ (by simp) e))
 have g66:=m6.old _ _ (by simp;omega) (m5.old _ _ (by simp;omega) g6')
 have g76:=m6.old _ _ (by simp;omega) (m5.old _ _ (by simp;omega) g7')
 refine zeG ((vy_r H6 g66 g76).mono fun d T7 hd=>?_)
 subst hd
 exact zao rfl ⟨rfl,rfl⟩
end
section
variable {T U S:R.St} {f x y s a q qd:Nat} {i n r t:Int} {ls zs us ms:List Ly} {A B:List (Int × Ly)}
theorem zlJ (h:HW S x y s a i n r ls zs us A)(gd:S.get qd=some (.lst (A.map arD))):app (callF prog (f+4)) 13 [.ref x,.ref qd] S=.ok (.bl true) S:=by
 have hA:=h.hA
 refine zkq (F:=zbt) rfl rfl ?_
 have en:∀m o,S.get m=some o->S.enter.get m=some o:=fun m o e=>by rw[zaG];exact e
 have H:=h.of en
 have gd:=en _ _ gd
 have k0:S.enter.lk=[]:=rfl
 generalize S.enter=T at *
 have f0:=zfN T
 obtain⟨U,h1,v1,g1⟩:=zc3 (T:=T.push (.lst (A.map arD))) (l:=T.len) (u:=.lst (A.map arD++[.tup [.int 1,.tup [.int 0],.int 0]])) ⟨f0,by show T.lk.contains _=false;rw[k0];rfl⟩ (zag _ _)
 refine wS_W _ ?_
 rcases H.gy with ⟨rfl,rfl⟩|gy
 · conv=>whnf
   refine zaa (zaY H.gx rfl) ?_
   conv=>whnf
   refine zaa (zaq H.gs) ?_
   conv=>whnf
   refine zaa (zaq H.gs) ?_
   conv=>whnf
   refine zaa (rfl) ?_
   conv=>whnf
   refine zab rfl ?_
   conv=>whnf
   refine zal (zh3 (f:=f+2) H.gs H.ga (by omega)) ?_
   conv=>whnf
   refine zal (zb2 (f:=f+1) (zag _ _) (zam gd) (fun d=>zm3) (by rw[List.length_map];omega)) ?_
   conv=>whnf
   refine zaa (zag _ _) ?_
   conv=>whnf
   refine zab (by first|decide|omega|(simp;done)|(simp;omega)) ?_
   conv=>whnf
   refine zab (by first|decide|omega|(simp;done)|(simp;omega)) ?_
   conv=>whnf
   refine zaa (zag _ _) ?_
   conv=>whnf
   refine zab (by simp only[List.length_append,List.length_cons,List.length_nil,List.length_map];omega) ?_
   conv=>whnf
   refine zaa (h1) ?_
   conv=>whnf
   exact zao rfl ⟨rfl,rfl⟩
 · conv=>whnf
   refine zaa (zaY H.gx rfl) ?_
   conv=>whnf
   refine zaa (zaq gy) ?_
   conv=>whnf
   refine zaa (zaY gy rfl) ?_
   conv=>whnf
   refine zaa (zaq H.gs) ?_
   conv=>whnf
   refine zaa (rfl) ?_
   conv=>whnf
   refine zab rfl ?_
   conv=>whnf
   refine zal (zh3 (f:=f+2) H.gs H.ga (by omega)) ?_
   conv=>whnf
   refine zal (zb2 (f:=f+1) (zag _ _) (zam gd) (fun d=>zm3) (by rw[List.length_map];omega)) ?_
   conv=>whnf
   refine zaa (zag _ _) ?_
   conv=>whnf
   refine zab (by first|decide|omega|(simp;done)|(simp;omega)) ?_
   conv=>whnf
   refine zab (by first|decide|omega|(simp;done)|(simp;omega)) ?_
   conv=>whnf
   refine zaa (zag _ _) ?_
   conv=>whnf
   refine zab (by simp only[List.length_append,List.length_cons,List.length_nil,List.length_map];omega) ?_
   conv=>whnf
   refine zaa (h1) ?_
   conv=>whnf
   exact zao rfl ⟨rfl,rfl⟩
theorem zd7 {cl:Nat}{fs:List (PySem.Str × D)}(e:S.get x=some (.ins cl fs))(f1:fs.lookup (PySem.Str.ofString "number")=some (.int i))(f2:fs.lookup (PySem.Str.ofString "many")=some (.int n))(f3:fs.lookup (PySem.Str.ofString "rounds")=some (.int r)):app (callF prog (f+1)) 16 [.ref x,.int i,.int n,.int r] S=.ok (.bl true) S:=by
 refine zkq (F:=zcJ) rfl rfl (wS_W _ ?_)
 have e:S.enter.get x=some (.ins cl fs):=by rw[zaG];exact e
 generalize S.enter=T at *
 conv=>whnf
 refine zaa (zaY e f1) ?_
 conv=>whnf
 refine zaa (zaY e f2) ?_
 conv=>whnf
 refine zaa (zaY e f3) ?_
 conv=>whnf
 refine zab (by first|decide|omega|(simp;done)|(simp;omega)) ?_
 conv=>whnf
 refine zab (by first|decide|omega|(simp;done)|(simp;omega)) ?_
 conv=>whnf
 refine zaa (zfS (zam (zag _ _)) (zag _ _) (zfC _ _ [i,n,r])) ?_
 conv=>whnf
 exact zao rfl ⟨rfl,rfl⟩
theorem zjQ {cl:Nat}(e:S.get a=some (.ins cl []))(hf:Fr S a):W (appW (callF prog (f+1)) 23 [.ref a,.int i,.int n,.int r] S) fun d T=>d=.non/\Mv [a] S T/\T.get a=some (.ins cl [("number",.int i),("many",.int n),("rounds",.int r)]):=by
 refine zbK (F:=zcb) rfl rfl (wS_W _ ?_)
 obtain⟨T1,h1,v1,g1⟩:=zbV (f:="number") (v:=.int i) (gs:=[("number",.int i)]) e hf (by simp) rfl
 obtain⟨T2,h2,v2,g2⟩:=zbV (f:="many") (v:=.int n) (gs:=[("number",.int i),("many",.int n)]) g1 (hf.mv v1) (by simp) rfl
 obtain⟨T3,h3,v3,g3⟩:=zbV (f:="rounds") (v:=.int r) (gs:=[("number",.int i),("many",.int n),("rounds",.int r)]) g2 ((hf.mv v1).mv v2) (by simp) rfl
 conv=>whnf
 refine zaa (h1) ?_
 conv=>whnf
 refine zaa (h2) ?_
 conv=>whnf
 refine zaa (h3) ?_
 conv=>whnf
 exact⟨rfl,(v1.trans v2).trans v3,g3⟩
theorem zmk {d:D}:appW (callF prog (f+1)) 25 [.ref a,.int t,d] S=.ok .non S:=by
 refine zdr (F:=zdp) rfl rfl ?_
 conv=>whnf
 exact⟨rfl,rfl⟩
theorem zkQ:appW (callF prog (f+1)) 26 [.ref a,.int t] S=.ok (.ref S.len) (S.push (.lst [])):=by
 refine zdr (F:=zdY) rfl rfl ?_
 conv=>whnf
 refine zab (by first|decide|omega|(simp;done)|(simp;omega)) ?_
 conv=>whnf
 exact⟨rfl,rfl⟩
theorem zoG:appW (callF prog (f+1)) 24 [.ref a] S=.ok (.int 0) S:=by
 refine zdr (F:=zcu) rfl rfl ?_
 conv=>whnf
 exact⟨rfl,rfl⟩
theorem zlH:app (callF prog (f+3)) 17 [.int i,.int n,.int r] S=.ok (.bl true) S:=by
 refine zkq (F:=zdl) rfl rfl (wS_W _ ?_)
 have f0:=zfN S.enter
 have k0:S.enter.lk=[]:=rfl
 generalize S.enter=T at *
 conv=>whnf
 refine zaZ ((zjQ (f:=f+1) (a:=T.len) (i:=i) (n:=n) (r:=r) (zag T (.ins 1 [])) ⟨f0,by show T.lk.contains _=false;rw[k0];rfl⟩).mono fun d U hU=>?_)
 obtain⟨rfl,mv,g⟩:=hU
 conv=>whnf
 refine zab rfl ?_
 conv=>whnf
 refine zaa (zaq g) ?_
 conv=>whnf
 refine zaa (rfl) ?_
 conv=>whnf
 refine zab rfl ?_
 conv=>whnf
 refine zab (by first|decide|omega|(simp;done)|(simp;omega)) ?_
 conv=>whnf
 refine zab (by first|decide|omega|(simp;done)|(simp;omega)) ?_
 conv=>whnf
 refine zab (by first|decide|omega|(simp;done)|(simp;omega)) ?_
 conv=>whnf
 refine zal (zmk (f:=f+1)) ?_
 conv=>whnf
 have g:=zam (o:=.lst [.tup [.tup [.int 0],.int 5]]) g
 generalize U.push (.lst [.tup [.tup [.int 0],.int 5]])=U1 at *
 refine zaa (zaq g) ?_
 conv=>whnf
 refine zaa (rfl) ?_
 conv=>whnf
 refine zab rfl ?_
 conv=>whnf
 refine zal (zkQ (f:=f+1)) ?_
 conv=>whnf
 refine zab (by first|decide|omega|(simp;done)|(simp;omega)) ?_
 conv=>whnf
 refine zaa (zbp (zam (zag _ _)) (zag _ _) rfl) ?_
 conv=>whnf
 have g:=zam (o:=.lst []) (zam (o:=.lst []) g)
 generalize (U1.push (.lst [])).push (.lst [])=U2 at *
 refine zaa (zaq g) ?_
 conv=>whnf
 refine zaa (rfl) ?_
 conv=>whnf
 refine zab rfl ?_
 conv=>whnf
 refine zal (zkQ (f:=f+1)) ?_
 conv=>whnf
 refine zab (by first|decide|omega|(simp;done)|(simp;omega)) ?_
 conv=>whnf
 refine zaa (zbp (zam (zag _ _)) (zag _ _) rfl) ?_
 conv=>whnf
 have g:=zam (o:=.lst []) (zam (o:=.lst []) g)
 generalize (U2.push (.lst [])).push (.lst [])=U3 at *
 refine zal (zd7 (f:=f+1) g rfl rfl rfl) ?_
 conv=>whnf
 refine zaa (zaq g) ?_
 conv=>whnf
 refine zaa (rfl) ?_
 conv=>whnf
 refine zab rfl ?_
 conv=>whnf
 refine zal (zoG (f:=f+1)) ?_
 conv=>whnf
 refine zal (zf6 (n:=f+1) (o:=some 0)) ?_
 conv=>whnf
 exact zao rfl ⟨rfl,rfl⟩
end
theorem zfh (zs:List Ly)(k:Int):stp (zs.map lD) k=(stp zs k).map lD:=by
 unfold stp
 rw[List.length_map,List.map_filterMap]
 congr 1
 funext j
 rw[List.getElem?_map]
theorem zez (zs:List Ly){k:Int}(hk:k≠0)(h:zs.length<=63):(stp zs k).length<=63:=by
 have h1:(stp zs k).length<=(stpI zs.length k).length:=List.length_filterMap_le _ _
 have h2:(stpI zs.length k).length<=zs.length:=by
  unfold stpI
  refine PySem.sliceRange_length_le _ _ _ _ (fun c=>?_) (fun c=>?_)
  · rw[if_pos c,if_pos c];omega
  · rw[if_neg c,if_neg c];omega
 omega
theorem zk0 {cf:CF}{e:CE}{rest:Ev}(g:Ly->D):∀(ls:List Ly) (v:Option D) (T:R.St),(∀l∈ls,∀U,Mv [] T U->∃U',evE cf e (some (lD l)::rest) U=.ok (g l) U'/\Mv [] U U')->
  ∃T',zax [0] (evT cf (.tst (.con (.bl true)))) (evE cf e) (ls.map lD) (v::rest) T=.ok (ls.map g) T'/\Mv [] T T'
 | [],v,T,_=>⟨T,rfl,Mv.refl _ _⟩
 | l :: ls, v, T, h => by
   obtain⟨U,e1,m1⟩:=h l List.mem_cons_self T (Mv.refl _ _)
   obtain⟨T',e2,m2⟩:=zk0 (cf:=cf) (e:=e) (rest:=rest) g ls (some (lD l)) U fun z hz V mV=>h z (List.mem_cons_of_mem _ hz) V (m1.trans mV)
   refine⟨T',?_,m1.trans m2⟩
   rw[List.map_cons,List.map_cons]
   unfold zax
   show Out.bind (.ok true T) _=_
   rw[zas,if_pos rfl]
   show Out.bind (evE cf e (some (lD l)::rest) T) _=_
   rw[e1,zas]
   show Out.bind (zax [0] _ _ (ls.map lD) (some (lD l)::rest) U) _=_
   rw[e2];rfl
@[irreducible] noncomputable def EM (s ql q0:Nat)(b:Bool)(v4 v5 v6:Option D):Ev:=[some (.ref s),some (.ref ql),some (.ref q0),some (.bl b),v4,v5,v6]
theorem EM_2 {s ql q0 q1:Nat}{b:Bool}{v4 v5 v6:Option D}:(EM s ql q0 b v4 v5 v6).set 2 (some (.ref q1))=EM s ql q1 b v4 v5 v6:=by unfold EM;rfl
theorem EM_4 {s ql q0:Nat}{b:Bool}{v4 v5 v6:Option D}{d:D}:(EM s ql q0 b v4 v5 v6).set 4 (some d)=EM s ql q0 b (some d) v5 v6:=by unfold EM;rfl
theorem EM_5 {s ql q0:Nat}{b:Bool}{v4 v5 v6:Option D}{d:D}:(EM s ql q0 b v4 v5 v6).set 5 (some d)=EM s ql q0 b v4 (some d) v6:=by unfold EM;rfl
theorem EM_6 {s ql q0:Nat}{b:Bool}{v4 v5 v6:Option D}{d:D}:(EM s ql q0 b v4 v5 v6).set 6 (some d)=EM s ql q0 b v4 v5 (some d):=by unfold EM;rfl
noncomputable def zkU:CE:=(.mkL (.comp 1 [2] [0] (.val (.loc 1)) (.tst (.con (D.bl true))) (.bin .Add (.sl (.loc 0) false true (.con .non) (.con (D.int 3))) (.tup (.cons (.call 9 0 (.cons (.slS (.loc 1) (.neg (.con (D.int 1)))) (.cons (.loc 0) .nil))) .nil)))))
noncomputable def e_2s:CE:=(.slS (.loc 2) (.con (D.int 2)))
noncomputable def e_l1:CE:=(.mk 0 19 "Liar" 0 (.cons (.loc 0) (.cons (.loc 4) .nil)))
noncomputable def e_l2:CE:=(.mk 0 19 "Liar" 0 (.cons (.mk 0 19 "Liar" 0 (.cons (.loc 0) (.cons (.slS (.loc 2) (.neg (.con (D.int 1)))) .nil))) (.cons (.loc 4) .nil)))
noncomputable def zpa:CS:=(.ifS (.cmp .NotEq (.loc 4) (.loc 2)) (.ret (.tup (.cons (.con D.non) (.cons (.loc 6) (.cons (.loc 2) .nil)))) .nil) .nil (.expr (.clr (.loc 4)) (.ret (.tup (.cons (.loc 5) (.cons (.loc 6) (.cons (.loc 2) .nil)))) .nil)))
theorem zhX:c_law_made.body=(.asg 4 (.mkL (.val (.loc 2))) (.ifS (.nt (.tst (.loc 3))) (.asg 5 e_l1 (.asg 6 (.loc 1) .nil)) (.asg 4 e_2s (.asg 5 e_l2 (.asg 6 zkU (.asg 2 e_2s .nil)))) zpa)):=rfl
section
variable {T U S:R.St} {f x y s a q ql q0 l4:Nat} {i n r t:Int} {ls zs us ms:List Ly} {A B:List (Int × Ly)} {b:Bool} {v4 v5 v6:Option D}
theorem v_2s (gz:T.get q0=some (.lst (zs.map lD)))(hz:zs.length<=63):evE (callF prog (f+5)) e_2s (EM s ql q0 b v4 v5 v6) T=.ok (.ref T.len) (T.push (.lst ((stp zs 2).map lD))):=by
 have h1:=zez zs (k:=2) (by decide) hz
 refine W.eq (wE_W _ ?_)
 unfold EM
 conv=>whnf
 refine zab (by first|decide|omega|(simp;done)|(simp;omega)) ?_
 conv=>whnf
 refine zaa (gz) ?_
 conv=>whnf
 rw[zfh]
 refine zab (by rw[List.length_map];omega) ?_
 conv=>whnf
 exact⟨rfl,rfl⟩
theorem zne (gl:T.get ql=some (.lst (ls.map lD)))(gz:T.get q0=some (.lst (zs.map lD)))(hl:ls.length<=63)(hz:zs.length<=63):W (evE (callF prog (f+5)) zkU (EM s ql q0 b v4 v5 v6) T) fun d U=>∃l,d=.ref l/\U.get l=some (.lst ((ls.map (bend (stp zs (-1)))).map lD))/\Mv [] T U/\T.len<=l:=by
 have h1:=zez zs (k:=-1) (by decide) hz
 refine wE_W _ ?_
 unfold EM
 conv=>whnf
 refine zaa (gl) ?_
 conv=>whnf
 refine zay ?_
 obtain⟨T',e,mv⟩:=zk0 (cf:=callF prog (f+5)) (e:=(.bin .Add (.sl (.loc 0) false true (.con .non) (.con (D.int 3))) (.tup (.cons (.call 9 0 (.cons (.slS (.loc 1) (.neg (.con (D.int 1)))) (.cons (.loc 0) .nil))) .nil)))) (rest:=[some (.ref q0)]) (fun l=>lD (bend (stp zs (-1)) l)) ls none {T with lk:=[ql]++T.lk} (fun l hl U mU=>by
  have gq:U.get q0=some (.lst (zs.map lD)):=mU.old _ _ (by simp) gz
  refine⟨U.push (.lst ((stp zs (-1)).map lD)),W.eq (wE_W _ ?_),Mv.push _ _ _⟩
  conv=>whnf
  rw[cut3 l]
  refine zab (by decide) ?_
  conv=>whnf
  refine zaa (gq) ?_
  conv=>whnf
  rw[zfh]
  refine zab (by rw[List.length_map];omega) ?_
  conv=>whnf
  refine zal (zkH (f:=f+4) (l:=l) (zs:=stp zs (-1)) (zag _ _)) ?_
  conv=>whnf
  refine zab (by simp) ?_
  conv=>whnf
  refine zab (by simp) ?_
  conv=>whnf
  exact⟨rfl,rfl⟩)
 refine W.of e ?_
 refine zab (by rw[List.length_map];omega) ?_
 conv=>whnf
 refine zab (by rw[List.length_map];omega) ?_
 conv=>whnf
 refine⟨_,rfl,?_,?_,?_⟩
 · rw[List.map_map];exact zag _ _
 · exact (Mv.mk mv.frz rfl mv.len (fun m o hm e=>mv.old m o hm e):Mv [] T {T' with lk:=T.lk}).trans (Mv.push [] _ _)
 · exact mv.len
end
section
variable {T U S:R.St} {f x y s a q ql q0 l4:Nat} {i n r t:Int} {ls zs us ms:List Ly} {A B:List (Int × Ly)} {b:Bool} {v4 v5 v6:Option D}
theorem v_l1 (gs:T.get s=some (scD i n r ls a))(g4:T.get l4=some (.lst (zs.map lD)))(hz:zs.length<=63)(fz:T.frz=[])(lk:T.lk=[]):W (evE (callF prog (f+5)) e_l1 (EM s ql q0 b (some (.ref l4)) v5 v6) T) fun d U=>d=.ref T.len/\Mv [] T U/\U.get T.len=some (lrD i n r s zs):=by
 refine wE_W _ ?_
 unfold EM
 conv=>whnf
 refine zaZ ((zfG (f:=f+3) (x:=T.len) (i:=i) (n:=n) (r:=r) (zag T (.ins 0 [])) ⟨by show T.frz.length<=_;rw[fz];exact Nat.zero_le _,by show T.lk.contains _=false;rw[lk];rfl⟩ (zam gs) rfl rfl rfl (zam g4) hz).mono fun d U hU=>?_)
 obtain⟨rfl,mv,h2⟩:=hU
 conv=>whnf
 refine zab rfl ?_
 conv=>whnf
 exact⟨rfl,zgk mv,h2⟩
theorem v_l2 (gs:T.get s=some (scD i n r ls a))(g0:T.get q0=some (.lst (us.map lD)))(g4:T.get l4=some (.lst (zs.map lD)))(hz:zs.length<=63)(hu:us.length<=63)(fz:T.frz=[])(lk:T.lk=[]):W (evE (callF prog (f+5)) e_l2 (EM s ql q0 b (some (.ref l4)) v5 v6) T) fun d U=>∃x y,d=.ref x/\Mv [] T U/\U.get x=some (lrD i n r y zs)/\U.get y=some (lrD i n r s (stp us (-1)))/\T.len<=x/\T.len<=y:=by
 have h1:=zez us (k:=-1) (by decide) hu
 refine wE_W _ ?_
 unfold EM
 conv=>whnf
 refine zab (by decide) ?_
 conv=>whnf
 refine zaa (g0) ?_
 conv=>whnf
 rw[zfh]
 refine zab (by rw[List.length_map];omega) ?_
 conv=>whnf
 have g1:=zag T (.lst ((stp us (-1)).map lD))
 have m1:=Mv.push [] T (.lst ((stp us (-1)).map lD))
 have f1:(T.push (.lst ((stp us (-1)).map lD))).frz=[]:=fz
 have k1:(T.push (.lst ((stp us (-1)).map lD))).lk=[]:=lk
 have gs1:=zam (o:=.lst ((stp us (-1)).map lD)) gs
 have g41:=zam (o:=.lst ((stp us (-1)).map lD)) g4
 have p1:=plen T (.lst ((stp us (-1)).map lD))
 generalize T.push (.lst ((stp us (-1)).map lD))=T1 at *
 refine zaZ ((zfG (f:=f+3) (x:=T1.len) (i:=i) (n:=n) (r:=r) (zag T1 (.ins 0 [])) ⟨by show T1.frz.length<=_;rw[f1];exact Nat.zero_le _,by show T1.lk.contains _=false;rw[k1];rfl⟩ (zam gs1) rfl rfl rfl (zam g1) h1).mono fun d U hU=>?_)
 obtain⟨rfl,mv,h2⟩:=hU
 have mv:=zgk mv
 have f2:U.frz=[]:=mv.frz.trans f1
 have k2:U.lk=[]:=mv.lk.trans k1
 have lu:=mv.len
 conv=>whnf
 refine zab rfl ?_
 conv=>whnf
 refine zaZ ((zfG (f:=f+3) (x:=U.len) (s:=T1.len) (i:=i) (n:=n) (r:=r) (zag U (.ins 0 [])) ⟨by show U.frz.length<=_;rw[f2];exact Nat.zero_le _,by show U.lk.contains _=false;rw[k2];rfl⟩ (zam h2) rfl rfl rfl (zam (mv.old _ _ (by simp) g41)) hz).mono fun d V hV=>?_)
 obtain⟨rfl,mv2,h3⟩:=hV
 have mv2:=zgk mv2
 conv=>whnf
 refine zab rfl ?_
 conv=>whnf
 exact⟨U.len,T1.len,rfl,(m1.trans mv).trans mv2,h3,mv2.old _ _ (by simp) h2,by omega,by omega⟩
theorem zno {l5 l6:Nat}{Q:Fl->R.St->Prop}(g4:T.get l4=some (.lst (zs.map lD)))(g2:T.get q0=some (.lst (zs.map lD)))(fr:Fr T l4)(h:∀U,Mv [l4] T U->Q (.rt (.tup [.ref l5,.ref l6,.ref q0])) U):W (exS (callF prog (f+5)) zpa (EM s ql q0 b (some (.ref l4)) (some (.ref l5)) (some (.ref l6))) T) Q:=by
 obtain⟨U,h1,v1,g1⟩:=zc3 (u:=.lst []) fr g4
 refine wS_W _ ?_
 unfold EM
 conv=>whnf
 refine zaa (zbp g4 g2 (zhP T 57 zs)) ?_
 conv=>whnf
 refine zaa (g4) ?_
 conv=>whnf
 refine zab (by first|decide|omega|(simp;done)|(simp;omega)) ?_
 conv=>whnf
 refine zaa (h1) ?_
 conv=>whnf
 refine zab (by simp) ?_
 conv=>whnf
 exact h U v1
end
theorem zoT {cf:CF}{c:CE}{u v r:CS}{δ:Ev}{S S1:R.St}{Q:Fl->R.St->Prop}(e:evT cf c δ S=.ok false S1)(w:W (exS cf v δ S1) fun f T=>match f with|.nx δ'=>W (exS cf r δ' T) Q|.rt d=>Q (.rt d) T):W (exS cf (.ifS c u v r) δ S) Q:=by
 rw[exS,e,zas,if_neg (by decide),zac]
 refine w.mono fun f T hf=>?_
 cases f<;>exact hf
section
variable {T U S:R.St} {f x y s a q ql q0 l4:Nat} {i n r t:Int} {ls zs us ms:List Ly} {A B:List (Int × Ly)} {b:Bool} {v4 v5 v6:Option D}
noncomputable def Made (T:R.St)(ql q0 s a:Nat)(i n r:Int)(ls:List Ly)(A:List (Int × Ly))(d:D)(U:R.St):Prop:=
 ∃x y qt qz zs us,d=.tup [.ref x,.ref qt,.ref qz]/\Mv [] T U/\HW U x y s a i n r ls zs us A/\U.get qt=some (.lst ((ls.map (bend us)).map lD))/\U.get qz=some (.lst (zs.map lD))/\qt≠a/\qz≠a/\(qt=ql\/T.len<=qt)/\(qz=q0\/T.len<=qz)
theorem zjR (ls:List Ly):ls.map (bend [])=ls:=by rw[show bend []=id from rfl,List.map_id]
theorem znU (gs:T.get s=some (scD i n r ls a))(ga:T.get a=some (.lst (A.map arD)))(gl:T.get ql=some (.lst (ls.map lD)))(gz:T.get q0=some (.lst (zs.map lD)))(hl:ls.length<=63)(hz:zs.length<=63)(hA:A.length<=63)(fz:T.frz=[])(lk:T.lk=[])(na:ql≠a)(nz:q0≠a):W (appW (callF prog (f+6)) 12 [.ref s,.ref ql,.ref q0,.bl b] T) (Made T ql q0 s a i n r ls A):=by
 have ls':=zar gs
 have la:=zar ga
 have ll:=zar gl
 have lz:=zar gz
 refine zbK (F:=c_law_made) rfl rfl ?_
 rw[zhX,show zaJ c_law_made [.ref s,.ref ql,.ref q0,.bl b]=EM s ql q0 b none none none by unfold EM;rfl]
 have fr:∀(V:R.St) (m:Nat),V.frz=[]->V.lk=[]->Fr V m:=fun V m h1 h2=>⟨by rw[h1];exact Nat.zero_le _,by rw[h2];rfl⟩
 refine zaz (d:=.ref T.len) (S':=T.push (.lst (zs.map lD))) (W.eq (wE_W _ ?_)) ?_
 · unfold EM
   conv=>whnf
   refine zaa (gz) ?_
   conv=>whnf
   refine zab (by rw[List.length_map];omega) ?_
   conv=>whnf
   exact⟨rfl,rfl⟩
 rw[EM_4]
 have m1:=Mv.push [] T (.lst (zs.map lD))
 have g4:=zag T (.lst (zs.map lD))
 have p1:=plen T (.lst (zs.map lD))
 generalize T.push (.lst (zs.map lD))=T1 at *
 have f1:=m1.frz.trans fz
 have k1:=m1.lk.trans lk
 have gs1:=m1.old _ _ (by simp) gs
 have ga1:=m1.old _ _ (by simp) ga
 have gl1:=m1.old _ _ (by simp) gl
 have gz1:=m1.old _ _ (by simp) gz
 have et:evT (callF prog (f+5)) (.nt (.tst (.loc 3))) (EM s ql q0 b (some (.ref T.len)) none none) T1=.ok (!b) T1:=by
  refine W.eq (wT_W _ ?_)
  unfold EM
  conv=>whnf
  exact⟨rfl,rfl⟩
 cases b with
 | false =>
   refine zmx et ?_
   refine zbg ((v_l1 gs1 g4 hz f1 k1).mono fun d U hU=>?_)
   obtain⟨rfl,m2,gx⟩:=hU
   rw[EM_5]
   refine zaz (d:=.ref ql) (S':=U) (W.eq (wE_W _ ?_)) ?_
   · unfold EM
     conv=>whnf
     exact⟨rfl,rfl⟩
   rw[EM_6]
   refine zej ?_
   have m12:=m1.trans m2
   refine zno (m2.old _ _ (by simp) g4) (m2.old _ _ (by simp) gz1) (fr _ _ (m2.frz.trans f1) (m2.lk.trans k1)) fun V mV=>?_
   have mT:Mv [] T V:=⟨mV.frz.trans m12.frz,mV.lk.trans m12.lk,Nat.le_trans m12.len mV.len,fun z o _ e=>mV.old _ _ (by have:=zar e;simp;omega) (m12.old _ _ (by simp) e)⟩
   refine⟨T1.len,s,ql,q0,zs,[],rfl,mT,⟨mV.old _ _ (by simp;omega) gx,mT.old _ _ (by simp) gs,mT.old _ _ (by simp) ga,.inl ⟨rfl,rfl⟩,hl,hz,Nat.zero_le _,hA⟩,?_,mT.old _ _ (by simp) gz,na,nz,.inl rfl,.inl rfl⟩
   rw[zjR];exact mT.old _ _ (by simp) gl
 | true =>
   have h2:=zez zs (k:=2) (by decide) hz
   have h1:=zez zs (k:=-1) (by decide) hz
   refine zoT et ?_
   refine zaz (v_2s gz1 hz) ?_
   rw[EM_4]
   have m2:=Mv.push [] T1 (.lst ((stp zs 2).map lD))
   have g4:=zag T1 (.lst ((stp zs 2).map lD))
   have p2:=plen T1 (.lst ((stp zs 2).map lD))
   generalize T1.push (.lst ((stp zs 2).map lD))=T2 at *
   have f2:=m2.frz.trans f1
   have k2:=m2.lk.trans k1
   refine zbg ((v_l2 (m2.old _ _ (by simp) gs1) (m2.old _ _ (by simp) gz1) g4 h2 hz f2 k2).mono fun d T3 h3=>?_)
   obtain⟨x,y,rfl,m3,gx,gy,lx,ly⟩:=h3
   rw[EM_5]
   refine zbg ((zne (m3.old _ _ (by simp) (m2.old _ _ (by simp) gl1)) (m3.old _ _ (by simp) (m2.old _ _ (by simp) gz1)) hl hz).mono fun d T4 h4=>?_)
   obtain⟨l6,rfl,g6,m4,l6l⟩:=h4
   rw[EM_6]
   have m24:=(m2.trans m3).trans m4
   refine zaz (v_2s (m24.old _ _ (by simp) gz1) hz) ?_
   rw[EM_2]
   have m5:=Mv.push [] T4 (.lst ((stp zs 2).map lD))
   have g2:=zag T4 (.lst ((stp zs 2).map lD))
   have l3:=m3.len
   have l4:=m4.len
   generalize T4.push (.lst ((stp zs 2).map lD))=T5 at *
   refine zej ?_
   have m25:=m24.trans m5
   have m15:=m1.trans m25
   have m45:=m4.trans m5
   refine zno (((m3.trans m45).old _ _ (by simp) g4)) g2 (fr _ _ (m25.frz.trans f1) (m25.lk.trans k1)) fun V mV=>?_
   have mT:Mv [] T V:=⟨mV.frz.trans m15.frz,mV.lk.trans m15.lk,Nat.le_trans m15.len mV.len,fun z o _ e=>mV.old _ _ (by have:=zar e;simp;omega) (m15.old _ _ (by simp) e)⟩
   refine⟨x,y,l6,T4.len,stp zs 2,stp zs (-1),rfl,mT,⟨mV.old _ _ (by simp;omega) (m45.old _ _ (by simp) gx),mT.old _ _ (by simp) gs,mT.old _ _ (by simp) ga,.inr (mV.old _ _ (by simp;omega) (m45.old _ _ (by simp) gy)),hl,h2,h1,hA⟩,mV.old _ _ (by simp;omega) (m5.old _ _ (by simp) g6),mV.old _ _ (by simp;omega) g2,by omega,by omega,.inr (by omega),.inr (by omega)⟩
end
@[irreducible] noncomputable def E (ns:List Int)(m i r:Int)(ql:Nat)(ct:Int)(qz h s x qt:Nat)(v11 v12 v13 v14 v15:Option D):Ev:=[some (.fix (ns.map .int)),some (.int m),some (.int i),some (.int r),some (.ref ql),some (.int ct),some (.ref qz),some (.ref h),some (.ref s),some (.ref x),some (.ref qt),v11,v12,v13,v14,v15]
section
variable {ns:List Int} {m i r ct:Int} {ql qz h s x qt:Nat} {v11 v12 v13 v14 v15:Option D} {d:D}
theorem E_11:(E ns m i r ql ct qz h s x qt v11 v12 v13 v14 v15).set 11 (some d)=E ns m i r ql ct qz h s x qt (some d) v12 v13 v14 v15:=by unfold E;rfl
theorem E_13:(E ns m i r ql ct qz h s x qt v11 v12 v13 v14 v15).set 13 (some d)=E ns m i r ql ct qz h s x qt v11 v12 (some d) v14 v15:=by unfold E;rfl
theorem E_14:(E ns m i r ql ct qz h s x qt v11 v12 v13 v14 v15).set 14 (some d)=E ns m i r ql ct qz h s x qt v11 v12 v13 (some d) v15:=by unfold E;rfl
theorem E_15:(E ns m i r ql ct qz h s x qt v11 v12 v13 v14 v15).set 15 (some d)=E ns m i r ql ct qz h s x qt v11 v12 v13 v14 (some d):=by unfold E;rfl
end
noncomputable def upZ (hs:List Ly):Nat->List (Int × Ly)
 |0=>[]
 |j+1=>upZ hs j++(atT ((j+1:Nat):Int) hs).map (fun l=>(((j+1:Nat):Int),l))
theorem zgv (t:Int):∀hs:List Ly,(hs.filter fun l=>decide (l.1.1<=t)).length+(hs.filter fun l=>decide (l.1.1=t+1)).length<=(hs.filter fun l=>decide (l.1.1<=t+1)).length
 | []=>Nat.le_refl _
 | l :: hs => by
   have ih:=zgv t hs
   simp only[List.filter_cons]
   by_cases h1:l.1.1<=t
   · have h2:¬l.1.1=t+1:=by omega
     have h3:l.1.1<=t+1:=by omega
     simp[h1,h2,h3];omega
   · by_cases h2:l.1.1=t+1
     · have h3:l.1.1<=t+1:=by omega
       rw[if_neg (by simpa using h1),if_pos (by simpa using h2),if_pos (by simpa using h3),List.length_cons,List.length_cons];omega
     · have h3:¬l.1.1<=t+1:=by omega
       simp[h1,h2,h3];omega
theorem zkv (hs:List Ly):∀j,(upZ hs j).length<=(hs.filter fun l=>decide (l.1.1<=(j:Int))).length
 |0=>Nat.zero_le _
 | j + 1 => by
   have ih:=zkv hs j
   have fa:=zgv (j:Int) hs
   rw[upZ]
   rw[show ((j+1:Nat):Int)=(j:Int)+1 from by omega]
   rw[List.length_append,List.length_map]
   unfold atT
   omega
theorem zpA (hs:List Ly)(j:Nat)(h:hs.length<=63):(upZ hs j).length<=63:=
 Nat.le_trans (zkv hs j) (Nat.le_trans (List.length_filter_le _ _) h)
theorem zku (hs:List Ly):∀j,∀z∈upZ hs j,z.1<=(j:Int)
 |0,z,h=>by cases h
 | j + 1, z, h => by
   rw[upZ] at h
   rcases List.mem_append.mp h with h|h
   · have:=zku hs j z h;omega
   · obtain⟨l,_,rfl⟩:=List.mem_map.mp h
     exact Int.le_refl _
theorem znf (hs:List Ly)(j:Nat):((upZ hs (j+1)).filter fun z=>decide (z.1=((j+1:Nat):Int)))=(atT ((j+1:Nat):Int) hs).map (fun l=>(((j+1:Nat):Int),l)):=by
 rw[upZ,List.filter_append]
 have e1:((upZ hs j).filter fun z=>decide (z.1=((j+1:Nat):Int)))=[]:=by
  rw[List.filter_eq_nil_iff]
  intro z hz
  have:=zku hs j z hz
  simp only[decide_eq_true_eq]
  omega
 rw[e1,List.nil_append,List.filter_eq_self]
 intro z hz
 obtain⟨l,_,rfl⟩:=List.mem_map.mp hz
 simp
structure IH (T:R.St) (ql qz qt qd x y s a:Nat) (i n r:Int) (ls zs us:List Ly) (A:List (Int × Ly)):Prop where
 hw:HW T x y s a i n r ls zs us A
 lk:T.lk=[]
 fz:T.frz=[]
 gl:T.get ql=some (.lst (ls.map lD))
 gt:T.get qt=some (.lst ((ls.map (bend us)).map lD))
 gz:T.get qz=some (.lst (zs.map lD))
 gd:T.get qd=some (.lst (A.map arD))
 nl:ql≠a
 nt:qt≠a
 nz:qz≠a
 nd:qd≠a
theorem IH.mv {T U:R.St}{ql qz qt qd x y s a:Nat}{i n r:Int}{ls zs us:List Ly}{A:List (Int × Ly)}(h:IH T ql qz qt qd x y s a i n r ls zs us A)(v:Mv [] T U):IH U ql qz qt qd x y s a i n r ls zs us A:=
 ⟨h.hw.mv v,v.lk.trans h.lk,v.frz.trans h.fz,v.old _ _ (by simp) h.gl,v.old _ _ (by simp) h.gt,v.old _ _ (by simp) h.gz,v.old _ _ (by simp) h.gd,h.nl,h.nt,h.nz,h.nd⟩
noncomputable def q_s:CE:=(.nt (.tst (.call 14 0 (.cons (.loc 8) (.cons (.loc 9) (.cons (.loc 4) (.cons (.loc 10) (.cons (.loc 6) (.cons (.loc 12) .nil)))))))))
noncomputable def e_13:CE:=(.mkL (.comp 1 [12] [0] (.callL 7 0 (.cons (.loc 0) (.cons (.loc 5) (.cons (.con (D.int 62)) (.cons (.loc 1) .nil))))) (.cmp .Eq (.ix (.loc 0) (.con (D.int 0))) (.loc 1)) (.tup (.cons (.ix (.loc 0) (.con (D.int 1))) (.cons (.ix (.loc 0) (.con (D.int 3))) .nil)))))
noncomputable def e_11:CE:=(.bin .Add (.loc 11) (.mkL (.comp 2 [12] [0,1] (.val (.loc 13)) (.tst (.con (D.bl true))) (.tup (.cons (.loc 2) (.cons (.loc 0) (.cons (.loc 1) .nil)))))))
noncomputable def q_h:CE:=(.or (.cmp .IsNot (.meth "hear" [(0,21),(1,25),(2,30)] (.loc 9) (.cons (.loc 12) (.cons (.loc 13) .nil))) (.con D.non)) (.cmp .NotEq (.bi .len (.cons (.loc 13) .nil)) (.bi .len (.cons (.mkL (.comp 1 [12] [0] (.val (.loc 11)) (.cmp .Eq (.ix (.loc 0) (.con (D.int 0))) (.loc 1)) (.loc 0))) .nil))))
noncomputable def e_ap:CE:=(.mt .append (.loc 13) (.cons (.tup (.cons (.tup (.cons (.con (D.int 0)) .nil)) (.cons (.con (D.int 0)) .nil))) .nil))
noncomputable def c_T:CS:=(.ifS q_s (.ret (.con (D.bl false)) .nil) .nil (.asg 13 e_13 (.asg 11 e_11 (.ifS q_h (.ret (.con (D.bl false)) .nil) .nil (.expr e_ap .nil)))))
theorem zpc {cf:CF}{c:CE}{T:R.St}{rest:Ev}(p:(Int × Ly)->Bool):∀(ms:List (Int × Ly)) (u0:Option D),(∀l∈ms,evT cf c (some (arD l)::rest) T=.ok (p l) T)->
  zax [0] (evT cf c) (evE cf (.loc 0)) (ms.map arD) (u0::rest) T=.ok ((ms.filter p).map arD) T
 | [],_,_=>rfl
 | l :: ms, u0, h => by
   have ih:=zpc (cf:=cf) (c:=c) (T:=T) (rest:=rest) p ms (some (arD l)) fun z hz=>h z (List.mem_cons_of_mem _ hz)
   rw[List.map_cons,List.filter_cons]
   unfold zax
   show Out.bind (evT cf c (some (arD l)::rest) T) _=_
   rw[h l List.mem_cons_self,zas]
   cases hp:p l with
   | false =>
     rw[if_neg (by decide),if_neg (by decide)]
     exact ih
   | true =>
     rw[if_pos rfl,if_pos rfl,List.map_cons]
     show Out.bind (.ok (arD l) T) _=_
     rw[zas]
     show Out.bind (zax [0] _ _ (ms.map arD) (some (arD l)::rest) T) _=_
     rw[ih];rfl
section
variable {ns:List Int} {i r t ct:Int} {m:Nat} {ls zs us ms:List Ly} {ql s qz qt x y a qd h j:Nat} {A:List (Int × Ly)} {v11 v12 v13 v14 v15:Option D} {T:R.St}
theorem v_s (H:IH T ql qz qt qd x y s a i m r ls zs us A):evT (callF prog 8) q_s (E ns m i r ql ct qz h s x qt v11 (some (.int t)) v13 v14 v15) T=.ok false T:=by
 refine W.eq (wT_W _ ?_)
 unfold E
 conv=>whnf
 refine zal (znS (f:=0) (t:=t) H.hw H.gl H.gt H.gz) ?_
 conv=>whnf
 exact⟨rfl,rfl⟩
theorem v_13 (m2:2<=m)(m7:m<=7)(hn:ns.length<=63):evE (callF prog 8) e_13 (E ns m i r ql ct qz h s x qt v11 (some (.int t)) v13 v14 v15) T=.ok (.ref T.len) (T.push (.lst ((atT t (zaO ns ct 62 m)).map pwD))):=by
 have h2:=zbJ t (zaO ns ct 62 m)
 have h3:=zdi ns ct 62 m hn
 refine W.eq (wE_W _ ?_)
 unfold E
 conv=>whnf
 refine zal (zjh (n:=5) m2 m7 hn) ?_
 conv=>whnf
 refine zay ?_
 refine W.of (zeu (fun l=>decide (l.1.1=t)) pwD (zaO ns ct 62 m) none (fun l hl=>t_is (j:=0) rfl) (fun l hl _=>?_)) ?_
 · refine W.eq (wE_W _ ?_)
   unfold lD
   conv=>whnf
   refine zaa (zmZ) ?_
   conv=>whnf
   refine zaa ((show atI [D.int l.1.1,pD l.1.2.1,D.int l.1.2.2,oD l.2] 3=some (oD l.2) from rfl)) ?_
   conv=>whnf
   refine zab (by simp) ?_
   conv=>whnf
   exact⟨rfl,rfl⟩
 · refine zab (by rw[List.length_map];exact Nat.le_trans h2 (by omega)) ?_
   conv=>whnf
   refine zab (by rw[List.length_map];exact Nat.le_trans h2 (by omega)) ?_
   conv=>whnf
   exact⟨rfl,rfl⟩
theorem v_11 {q:Nat}(gq:T.get qd=some (.lst (A.map arD)))(hA:A.length<=63)(g:T.get q=some (.lst (ms.map pwD)))(hm:ms.length<=63):∃U,evE (callF prog 8) e_11 (E ns m i r ql ct qz h s x qt (some (.ref qd)) (some (.int t)) (some (.ref q)) v14 v15) T=.ok (.ref (T.len+1)) U/\Mv [] T U/\U.get (T.len+1)=some (.lst ((A++ms.map fun l=>(t,l)).map arD)):=by
 have ee:(A++ms.map fun l=>(t,l)).map arD=A.map arD++ms.map fun l=>aD t l:=by rw[List.map_append,List.map_map];rfl
 refine⟨(T.push (.lst (ms.map fun l=>aD t l))).push (.lst ((A++ms.map fun l=>(t,l)).map arD)),W.eq (wE_W _ ?_),?_,?_⟩
 · rw[ee]
   unfold E
   conv=>whnf
   refine zaa (g) ?_
   conv=>whnf
   refine zay ?_
   refine W.of (zmU (fun l=>aD t l) ms none none (fun l hl=>?_)) ?_
   · refine W.eq (wE_W _ ?_)
     conv=>whnf
     refine zab (by simp) ?_
     conv=>whnf
     exact⟨rfl,rfl⟩
   · refine zab (by rw[List.length_map];omega) ?_
     conv=>whnf
     refine zab (by rw[List.length_map];omega) ?_
     conv=>whnf
     refine zaa (zam (show St.get _ qd=_ from gq)) ?_
     conv=>whnf
     refine zaa (zag _ _) ?_
     conv=>whnf
     refine zab (by rw[List.length_append,List.length_map,List.length_map];omega) ?_
     conv=>whnf
     exact⟨congrArg D.ref (plen T _),rfl⟩
 · exact (Mv.push [] _ _).trans (Mv.push [] _ _)
 · have:=zag (T.push (.lst (ms.map fun l=>aD t l))) (.lst ((A++ms.map fun l=>(t,l)).map arD))
   rw[plen] at this
   exact this
end
section
variable {ns:List Int} {i r t ct:Int} {m:Nat} {ls zs us ms:List Ly} {ql s qz qt x y a qd h j:Nat} {A B:List (Int × Ly)} {v11 v12 v13 v14 v15:Option D} {T:R.St}
noncomputable def LW (ns:List Int)(m:Nat)(i r:Int)(ql:Nat)(ct:Int)(qz h s x qt y a:Nat)(ls zs us hs:List Ly)(j:Nat)(δ:Ev)(U:R.St):Prop:=
 ∃qd v12 v13 v14 v15,δ=E ns m i r ql ct qz h s x qt (some (.ref qd)) v12 v13 v14 v15/\IH U ql qz qt qd x y s a i m r ls zs us (upZ hs j)
theorem v_h {q qb:Nat}(H:IH T ql qz qt qd x y s a i m r ls zs us A)(gq:T.get q=some (.lst (ms.map pwD)))(gb:T.get qb=some (.lst (B.map arD)))(nb:qb≠a)(nq:q≠a)(hm:ms.length<=63)(hB:B=A++ms.map (fun l=>(t,l)))(hl:B.length<=63)(hf:(B.filter fun z=>decide (z.1=t))=ms.map (fun l=>(t,l))) :
  W (evT (callF prog 8) q_h (E ns m i r ql ct qz h s x qt (some (.ref qb)) (some (.int t)) (some (.ref q)) v14 v15) T) fun b U=>b=false/\Mv [a] T U/\HW U x y s a i m r ls zs us B:=by
 refine wT_W _ ?_
 unfold E
 conv=>whnf
 refine zaa (zaq H.hw.gx) ?_
 conv=>whnf
 refine zaa (rfl) ?_
 conv=>whnf
 refine zab rfl ?_
 conv=>whnf
 refine zaZ ((zm8 (f:=2) H.hw ⟨by rw[H.fz];exact Nat.zero_le _,by rw[H.lk];rfl⟩ gq hm hB hl).mono fun d U hU=>?_)
 obtain⟨rfl,v,hU⟩:=hU
 have gq':=v.old _ _ (by simpa using nq) gq
 have gb':=v.old _ _ (by simpa using nb) gb
 conv=>whnf
 refine zaa (gq') ?_
 conv=>whnf
 refine zaa (gb') ?_
 conv=>whnf
 refine zay ?_
 refine W.of (zpc (fun z=>decide (z.1=t)) B none (fun l hl=>?_)) ?_
 · refine W.eq (wT_W _ ?_)
   unfold arD aD
   conv=>whnf
   refine zaa (zkn) ?_
   conv=>whnf
   exact⟨rfl,rfl⟩
 · rw[hf]
   refine zab (by rw[List.length_map,List.length_map];omega) ?_
   conv=>whnf
   refine zab (by rw[List.length_map,List.length_map];omega) ?_
   conv=>whnf
   refine zaa (zag _ _) ?_
   conv=>whnf
   refine⟨?_,?_,?_⟩
   · show (!decide (((ms.map pwD).length:Int)=((((ms.map fun l=>(t,l)).map arD).length:Nat):Int)))=false
     rw[List.length_map,List.length_map,List.length_map];simp
   · exact v.trans (Mv.push [a] U _)
   · exact hU.mv (Mv.push [] U _)
theorem v_ap {l:Nat}{ds:List D}(g:T.get l=some (.lst ds))(hf:Fr T l)(hl:ds.length<=1000):∃U,evE (callF prog 8) e_ap (E ns m i r ql ct qz h s x qt v11 v12 (some (.ref l)) v14 v15) T=.ok .non U/\Mv [l] T U:=by
 obtain⟨U,h1,v1,g1⟩:=zc3 (u:=.lst (ds++[.tup [.tup [.int 0],.int 0]])) hf g
 refine⟨U,W.eq (wE_W _ ?_),v1⟩
 unfold E
 conv=>whnf
 refine zaa (g) ?_
 conv=>whnf
 refine zab (by first|decide|omega|(simp;done)|(simp;omega)) ?_
 conv=>whnf
 refine zab (by first|decide|omega|(simp;done)|(simp;omega)) ?_
 conv=>whnf
 refine zaa (g) ?_
 conv=>whnf
 refine zab (by simp only[List.length_append,List.length_cons,List.length_nil];omega) ?_
 conv=>whnf
 refine zaa (h1) ?_
 conv=>whnf
 exact⟨rfl,rfl⟩
theorem t_T (m2:2<=m)(m7:m<=7)(hn:ns.length<=63)(ht:t=((j+1:Nat):Int))(H:IH T ql qz qt qd x y s a i m r ls zs us (upZ (zaO ns ct 62 m) j)) :
  W (exS (callF prog 8) c_T (E ns m i r ql ct qz h s x qt (some (.ref qd)) (some (.int t)) v13 v14 v15) T) fun f U=>match f with
  |.nx δ=>LW ns m i r ql ct qz h s x qt y a ls zs us (zaO ns ct 62 m) (j+1) δ U
  |.rt _=>False:=by
 have hd:=zdi ns ct 62 m hn
 have h63:=zpA (zaO ns ct 62 m) (j+1) hd
 have hat:=zbJ t (zaO ns ct 62 m)
 have la:=zar H.hw.ga
 refine zbn (W.of (v_s H) ⟨rfl,?_⟩)
 refine zaz (v_13 m2 m7 hn) ?_
 rw[E_13]
 have H1:=H.mv (Mv.push [] T (.lst ((atT t (zaO ns ct 62 m)).map pwD)))
 have g13:=zag T (.lst ((atT t (zaO ns ct 62 m)).map pwD))
 generalize T.push (.lst ((atT t (zaO ns ct 62 m)).map pwD))=T1 at *
 obtain⟨T2,e2,m2',g2⟩:=v_11 (ns:=ns) (m:=m) (i:=i) (r:=r) (ql:=ql) (ct:=ct) (qz:=qz) (h:=h) (s:=s) (x:=x) (qt:=qt) (t:=t) (v14:=v14) (v15:=v15) H1.gd H1.hw.hA g13 (by omega)
 refine zaz e2 ?_
 rw[E_11]
 have H2:=H1.mv m2'
 have g13':=m2'.old _ _ (by simp) g13
 have hB:upZ (zaO ns ct 62 m) (j+1)=upZ (zaO ns ct 62 m) j++(atT t (zaO ns ct 62 m)).map (fun l=>(t,l)):=by rw[ht];rfl
 have hf:((upZ (zaO ns ct 62 m) (j+1)).filter fun z=>decide (z.1=t))=(atT t (zaO ns ct 62 m)).map (fun l=>(t,l)):=by rw[ht];exact znf _ _
 rw[<-hB] at g2
 have l13:=zar g13
 have la1:=zar H1.hw.ga
 refine zbn ((v_h H2 g13' g2 (by omega) (by omega) (by omega) hB h63 hf).mono fun b U hU=>?_)
 obtain⟨rfl,v,hU⟩:=hU
 refine⟨rfl,?_⟩
 have fz:U.frz=[]:=v.frz.trans H2.fz
 have lk:U.lk=[]:=v.lk.trans H2.lk
 obtain⟨V,e3,mv3⟩:=v_ap (ns:=ns) (m:=m) (i:=i) (r:=r) (ql:=ql) (ct:=ct) (qz:=qz) (h:=h) (s:=s) (x:=x) (qt:=qt) (v11:=some (.ref (T1.len+1))) (v12:=some (.int t)) (v14:=v14) (v15:=v15) (v.old _ _ (by simp;omega) g13') ⟨by rw[fz];exact Nat.zero_le _,by rw[lk];rfl⟩ (by rw[List.length_map];omega)
 refine zcm (W.of e3 (zej ?_))
 refine⟨T1.len+1,_,_,_,_,rfl,?_⟩
 have lx:=zar H.hw.gx
 have ls':=zar H.hw.gs
 have ly:y<T.len:=by
  rcases H.hw.gy with ⟨z,_⟩|z
  · rw[z];exact ls'
  · exact zar z
 have l1:=zar H.gl
 have l2:=zar H.gt
 have l3:=zar H.gz
 have nl:=H.nl
 have nt:=H.nt
 have nz:=H.nz
 exact⟨⟨mv3.old _ _ (by simp;omega) hU.gx,mv3.old _ _ (by simp;omega) hU.gs,mv3.old _ _ (by simp;omega) hU.ga,hU.gy.imp id fun z=>mv3.old _ _ (by simp;omega) z,hU.hl,hU.hz,hU.hu,hU.hA⟩,mv3.lk.trans lk,mv3.frz.trans fz,mv3.old _ _ (by simp;omega) (v.old _ _ (by simpa using nl) H2.gl),mv3.old _ _ (by simp;omega) (v.old _ _ (by simpa using nt) H2.gt),mv3.old _ _ (by simp;omega) (v.old _ _ (by simpa using nz) H2.gz),mv3.old _ _ (by simp;omega) (v.old _ _ (by simp;omega) g2),nl,nt,nz,by omega⟩
end
noncomputable def q_i:CE:=(.nt (.tst (.call 13 0 (.cons (.loc 9) (.cons (.loc 11) .nil)))))
noncomputable def e_14:CE:=(.call 15 0 (.cons (.mkL (.comp 1 [] [0] (.val (.loc 11)) (.tst (.con (D.bl true))) (.ix (.loc 0) (.con (D.int 2))))) .nil))
noncomputable def q_e:CE:=(.or (.nt (.tst (.call 11 0 (.cons (.meth "came" [(2,28)] (.loc 8) .nil) (.cons (.loc 11) .nil))))) (.nt (.tst (.call 10 0 (.cons (.meth "ending" [(0,20),(1,24),(2,29)] (.loc 9) .nil) (.cons (.loc 14) .nil))))))
noncomputable def q_c:CE:=(.or (.nt (.tst (.isc [0,1,2] "Hand" (.loc 8)))) (.or (.nt (.tst (.isc [0,1,2] "Hand" (.loc 9)))) (.tst (.isc [0] "Liar" (.loc 8)))))
noncomputable def e_15:CE:=(.and (.call 16 0 (.cons (.loc 8) (.cons (.loc 2) (.cons (.loc 1) (.cons (.loc 3) .nil))))) (.call 16 0 (.cons (.loc 9) (.cons (.loc 2) (.cons (.loc 1) (.cons (.loc 3) .nil))))))
noncomputable def e_r:CE:=(.and (.loc 15) (.and (.call 10 0 (.cons (.meth "ending" [(0,20),(1,24),(2,29)] (.loc 8) .nil) (.cons (.loc 14) .nil))) (.call 17 0 (.cons (.loc 2) (.cons (.loc 1) (.cons (.loc 3) .nil))))))
noncomputable def c_Z:CS:=(.ifS q_i (.ret (.con (D.bl false)) .nil) .nil (.asg 14 e_14 (.ifS q_e (.ret (.con (D.bl false)) .nil) .nil (.ifS q_c (.ret (.con (D.bl false)) .nil) .nil (.asg 15 e_15 (.ret e_r .nil))))))
noncomputable def c_R:CS:=(.forS [12] (.rng2 (.con (D.int 1)) (.bin .Add (.loc 3) (.con (D.int 1)))) c_T c_Z)
theorem zpd {cf:CF}{e:CE}{T:R.St}{rest:Ev}(g:(Int × Ly)->D):∀(ms:List (Int × Ly)) (u0:Option D),(∀l∈ms,evE cf e (some (arD l)::rest) T=.ok (g l) T)->
  zax [0] (evT cf (.tst (.con (.bl true)))) (evE cf e) (ms.map arD) (u0::rest) T=.ok (ms.map g) T
 | [],_,_=>rfl
 | l :: ms, u0, h => by
   have ih:=zpd (cf:=cf) (e:=e) (T:=T) (rest:=rest) g ms (some (arD l)) fun z hz=>h z (List.mem_cons_of_mem _ hz)
   rw[List.map_cons,List.map_cons]
   unfold zax
   show Out.bind (.ok true T) _=_
   rw[zas,if_pos rfl]
   show Out.bind (evE cf e (some (arD l)::rest) T) _=_
   rw[h l List.mem_cons_self,zas]
   show Out.bind (zax [0] _ _ (ms.map arD) (some (arD l)::rest) T) _=_
   rw[ih];rfl
section
variable {ns:List Int} {i r t ct w:Int} {m:Nat} {ls zs us ms:List Ly} {ql s qz qt x y a qd h j:Nat} {A B:List (Int × Ly)} {v11 v12 v13 v14 v15:Option D} {T:R.St}
theorem v_i (H:IH T ql qz qt qd x y s a i m r ls zs us A):evT (callF prog 8) q_i (E ns m i r ql ct qz h s x qt (some (.ref qd)) v12 v13 v14 v15) T=.ok false T:=by
 refine W.eq (wT_W _ ?_)
 unfold E
 conv=>whnf
 refine zal (zlJ (f:=4) H.hw H.gd) ?_
 conv=>whnf
 exact⟨rfl,rfl⟩
theorem v_14 (gq:T.get qd=some (.lst (A.map arD)))(hA:A.length<=63):W (evE (callF prog 8) e_14 (E ns m i r ql ct qz h s x qt (some (.ref qd)) v12 v13 v14 v15) T) fun d U=>d=.int (topW (A.map fun x=>x.2.2))/\Mv [] T U:=by
 refine wE_W _ ?_
 unfold E
 conv=>whnf
 refine zaa (gq) ?_
 conv=>whnf
 refine zay ?_
 refine W.of (zpd (fun l=>oD l.2.2) A none (fun l hl=>?_)) ?_
 · refine W.eq (wE_W _ ?_)
   unfold arD aD
   conv=>whnf
   refine zaa ((show atI [D.int l.1,pD l.2.1.2.1,oD l.2.2] 2=some (oD l.2.2) from rfl)) ?_
   conv=>whnf
   exact⟨rfl,rfl⟩
 · refine zab (by rw[List.length_map];omega) ?_
   conv=>whnf
   refine zab (by rw[List.length_map];omega) ?_
   conv=>whnf
   refine zal (znX (n:=7) (os:=A.map fun x=>x.2.2) (by rw[List.map_map];exact zag _ _) (by rw[List.length_map];omega)) ?_
   conv=>whnf
   exact⟨rfl,Mv.push _ _ _⟩
theorem v_e (H:IH T ql qz qt qd x y s a i m r ls zs us A)(hw:w=topW (A.map fun x=>x.2.2)):W (evT (callF prog 8) q_e (E ns m i r ql ct qz h s x qt (some (.ref qd)) v12 v13 (some (.int w)) v15) T) fun b U=>b=false/\Mv [] T U:=by
 have hA:=H.hw.hA
 refine wT_W _ ?_
 unfold E
 conv=>whnf
 refine zaa (zaq H.hw.gs) ?_
 conv=>whnf
 refine zaa (rfl) ?_
 conv=>whnf
 refine zab rfl ?_
 conv=>whnf
 refine zal (zh3 (f:=7) H.hw.gs H.hw.ga (by omega)) ?_
 conv=>whnf
 refine zal (zb2 (f:=6) (zag _ _) (zam H.gd) (fun d=>zm3) (by rw[List.length_map];omega)) ?_
 conv=>whnf
 have mv:=Mv.push [] T (.lst (A.map arD))
 have H2:=H.hw.mv mv
 generalize T.push (.lst (A.map arD))=T1 at *
 refine zaa (zaq H2.gx) ?_
 conv=>whnf
 refine zaa (rfl) ?_
 conv=>whnf
 refine zab rfl ?_
 conv=>whnf
 refine zaZ ((zpw (f:=0) H2).mono fun d U hU=>?_)
 obtain⟨rfl,mv2⟩:=hU
 rw[<-hw]
 conv=>whnf
 refine zal (zf6 (n:=7) (o:=some w)) ?_
 conv=>whnf
 exact⟨rfl,mv.trans mv2⟩
theorem v_c (H:HW T x y s a i m r ls zs us A):evT (callF prog 8) q_c (E ns m i r ql ct qz h s x qt v11 v12 v13 v14 v15) T=.ok false T:=by
 refine W.eq (wT_W _ ?_)
 unfold E
 conv=>whnf
 refine zaa (zaq H.gs) ?_
 conv=>whnf
 refine zaa (zaq H.gx) ?_
 conv=>whnf
 refine zaa (zaq H.gs) ?_
 conv=>whnf
 exact⟨rfl,rfl⟩
theorem v_15 (H:HW T x y s a i m r ls zs us A):evE (callF prog 8) e_15 (E ns m i r ql ct qz h s x qt v11 v12 v13 v14 v15) T=.ok (.bl true) T:=by
 refine W.eq (wE_W _ ?_)
 unfold E
 conv=>whnf
 refine zal (zd7 (f:=7) H.gs rfl rfl rfl) ?_
 conv=>whnf
 refine zal (zd7 (f:=7) H.gx rfl rfl rfl) ?_
 conv=>whnf
 exact⟨rfl,rfl⟩
theorem v_r (H:HW T x y s a i m r ls zs us A)(hw:w=topW (A.map fun x=>x.2.2)):W (evE (callF prog 8) e_r (E ns m i r ql ct qz h s x qt v11 v12 v13 (some (.int w)) (some (.bl true))) T) fun d _=>d=.bl true:=by
 refine wE_W _ ?_
 unfold E
 conv=>whnf
 refine zaa (zaq H.gs) ?_
 conv=>whnf
 refine zaa (rfl) ?_
 conv=>whnf
 refine zab rfl ?_
 conv=>whnf
 refine zaZ ((zhZ (f:=2) H.gs H.ga H.hA).mono fun d U hU=>?_)
 obtain⟨rfl,mv⟩:=hU
 rw[<-hw]
 conv=>whnf
 refine zal (zf6 (n:=7) (o:=some w)) ?_
 conv=>whnf
 refine zal (zlH (f:=5)) ?_
 conv=>whnf
theorem t_Z (H:IH T ql qz qt qd x y s a i m r ls zs us A):W (exS (callF prog 8) c_Z (E ns m i r ql ct qz h s x qt (some (.ref qd)) v12 v13 v14 v15) T) TQ:=by
 refine zbn (W.of (v_i H) ⟨rfl,?_⟩)
 refine zbg ((v_14 H.gd H.hw.hA).mono fun d U hU=>?_)
 obtain⟨rfl,mv⟩:=hU
 rw[E_14]
 have H1:=H.mv mv
 refine zbn ((v_e H1 rfl).mono fun b V hV=>?_)
 obtain⟨rfl,mv2⟩:=hV
 refine⟨rfl,?_⟩
 have H2:=H1.mv mv2
 refine zbn (W.of (v_c H2.hw) ⟨rfl,?_⟩)
 refine zaz (v_15 H2.hw) ?_
 rw[E_15]
 refine zeG ((v_r H2.hw rfl).mono fun d X hX=>?_)
 exact hX
theorem t_R (m2:2<=m)(m7:m<=7)(hn:ns.length<=63)(r1:1<=r)(r6:r<=6)(H:IH T ql qz qt qd x y s a i m r ls zs us []):W (exS (callF prog 8) c_R (E ns m i r ql ct qz h s x qt (some (.ref qd)) v12 v13 v14 v15) T) TQ:=by
 refine zkc (xs:=(List.range (r+1 - 1).toNat).map fun (k:Nat)=>.int (1+k)) (ls:=[]) (S1:=T) (W.eq (wL_W _ ?_)) ?_
 · unfold E
   conv=>whnf
   refine zab (by omega) ?_
   conv=>whnf
   exact⟨rfl,rfl⟩
 refine W.mono (zaS (fun j δ U=>LW ns m i r ql ct qz h s x qt y a ls zs us (zaO ns ct 62 m) j δ U) (fun _ _=>False) _ 0 _ _ ⟨qd,_,_,_,_,rfl,H⟩ ?_) ?_
 · rintro jj z δ U hz hI
   rw[Nat.zero_add] at hI⊢
   have hjl:jj<(r+1 - 1).toNat:=by
    have:=(List.getElem?_eq_some_iff.mp hz).1
    simpa using this
   have hz':z=.int (1+(jj:Int)):=by
    have:=(List.getElem?_eq_some_iff.mp hz).2
    rw[<-this];simp
   subst hz'
   obtain⟨qd,v12,v13,v14,v15,rfl,H⟩:=hI
   refine⟨E ns m i r ql ct qz h s x qt (some (.ref qd)) (some (.int (1+(jj:Int)))) v13 v14 v15,by unfold E;rfl,?_⟩
   exact (t_T m2 m7 hn (by omega) H).mono fun f V hV=>by cases f<;>exact hV
 · rintro f U hU
   cases f with
   |rt d=>exact hU.elim
   | nx δ =>
     obtain⟨qd,v12,v13,v14,v15,rfl,H'⟩:=hU
     have hk:U.lk=T.lk:=by rw[H'.lk,H.lk]
     dsimp only
     rw[zml hk]
     exact t_Z H'
end
@[irreducible] noncomputable def E0 (ns:List Int)(v1 v2 v3 v4 v5 v6 v7 v8:Option D):Ev:=[some (.fix (ns.map .int)),v1,v2,v3,v4,v5,v6,v7,v8,none,none,none,none,none,none,none]
section
variable {ns:List Int} {v1 v2 v3 v4 v5 v6 v7 v8:Option D} {d:D}
theorem E0_1:(E0 ns v1 v2 v3 v4 v5 v6 v7 v8).set 1 (some d)=E0 ns (some d) v2 v3 v4 v5 v6 v7 v8:=by unfold E0;rfl
theorem E0_2:(E0 ns v1 v2 v3 v4 v5 v6 v7 v8).set 2 (some d)=E0 ns v1 (some d) v3 v4 v5 v6 v7 v8:=by unfold E0;rfl
theorem E0_3:(E0 ns v1 v2 v3 v4 v5 v6 v7 v8).set 3 (some d)=E0 ns v1 v2 (some d) v4 v5 v6 v7 v8:=by unfold E0;rfl
theorem E0_4:(E0 ns v1 v2 v3 v4 v5 v6 v7 v8).set 4 (some d)=E0 ns v1 v2 v3 (some d) v5 v6 v7 v8:=by unfold E0;rfl
theorem E0_5:(E0 ns v1 v2 v3 v4 v5 v6 v7 v8).set 5 (some d)=E0 ns v1 v2 v3 v4 (some d) v6 v7 v8:=by unfold E0;rfl
theorem E0_6:(E0 ns v1 v2 v3 v4 v5 v6 v7 v8).set 6 (some d)=E0 ns v1 v2 v3 v4 v5 (some d) v7 v8:=by unfold E0;rfl
theorem E0_7:(E0 ns v1 v2 v3 v4 v5 v6 v7 v8).set 7 (some d)=E0 ns v1 v2 v3 v4 v5 v6 (some d) v8:=by unfold E0;rfl
theorem E0_8:(E0 ns v1 v2 v3 v4 v5 v6 v7 v8).set 8 (some d)=E0 ns v1 v2 v3 v4 v5 v6 v7 (some d):=by unfold E0;rfl
end
theorem zhc {cf:CF}{g:List Nat}{e:CE}{r:CS}{δ:Ev}{S:R.St}{Q:Fl->R.St->Prop}(h:W (evE cf e δ S) fun d S'=>∃δ',asgG g d δ=some δ'/\W (exS cf r δ' S') Q):W (exS cf (.asgT g e r) δ S) Q:=by
 rw[exS,zac]
 refine h.mono fun d S' hd=>?_
 obtain⟨δ',e1,w⟩:=hd
 rw[e1]
 exact w
noncomputable def e_8:CE:=(.mk 2 27 "Scribe" 0 (.cons (.loc 2) (.cons (.loc 1) (.cons (.loc 3) (.cons (.loc 7) .nil)))))
noncomputable def e_9:CE:=(.callW 12 0 (.cons (.loc 8) (.cons (.loc 4) (.cons (.loc 6) (.cons (.cmp .Eq (.bin .Mod (.bin .FloorDiv (.call 3 0 (.cons (.loc 0) (.cons (.con (D.int 3)) .nil))) (.con (D.int 20))) (.con (D.int 2))) (.con (D.int 1))) .nil)))))
noncomputable def q_9:CE:=(.or (.cmp .NotEq (.loc 7) (.loc 4)) (.cmp .Is (.loc 9) (.con D.non)))
noncomputable def c_9:CS:=(.ifS q_9 (.ret (.con (D.bl false)) .nil) .nil (.expr (.clr (.loc 7)) (.asg 11 (.lst .nil) c_R)))
noncomputable def c_7:CS:=(.asg 7 (.mkL (.val (.loc 4))) (.asg 8 e_8 (.asgT [9,10,6] e_9 c_9)))
noncomputable def c_1:CS:=(.asg 1 (.bin .Add (.con (D.int 2)) (.bin .Mod (.call 3 0 (.cons (.loc 0) (.cons (.con (D.int 0)) .nil))) (.con (D.int 6)))) (.asg 2 (.bin .Mod (.call 3 0 (.cons (.loc 0) (.cons (.con (D.int 1)) .nil))) (.loc 1)) (.asg 3 (.bin .Add (.con (D.int 1)) (.bin .Mod (.call 3 0 (.cons (.loc 0) (.cons (.con (D.int 2)) .nil))) (.con (D.int 6)))) (.asg 4 (.call 7 0 (.cons (.loc 0) (.cons (.con (D.int 5)) (.cons (.con (D.int 30)) (.cons (.loc 1) .nil))))) (.asg 5 (.bin .Add (.con (D.int 30)) (.bin .Mod (.call 3 0 (.cons (.loc 0) (.cons (.con (D.int 3)) .nil))) (.con (D.int 20)))) (.asg 6 (.call 8 0 (.cons (.loc 0) (.cons (.loc 4) (.cons (.loc 5) (.cons (.loc 1) .nil))))) c_7))))))
theorem zjW:c_law.body=c_1:=rfl
section
variable {ns:List Int} {i r t ct w:Int} {m:Nat} {ls zs us ms:List Ly} {ql s qz qt x y a qd h q0:Nat} {A B:List (Int × Ly)} {v7 v8:Option D} {T:R.St}
theorem v_8 (gq:T.get h=some (.lst (ls.map lD)))(hl:ls.length<=63)(fz:T.frz=[])(lk:T.lk=[]):W (evE (callF prog 8) e_8 (E0 ns (some (.int m)) (some (.int i)) (some (.int r)) (some (.ref ql)) (some (.int ct)) (some (.ref q0)) (some (.ref h)) v8) T) fun d U=>∃s a,d=.ref s/\Mv [] T U/\T.len<=a/\U.get s=some (scD i m r ls a)/\U.get a=some (.lst []):=by
 refine wE_W _ ?_
 unfold E0
 conv=>whnf
 refine zaZ ((zmj (f:=6) (a:=T.len) (i:=i) (n:=(m:Int)) (r:=r) (zag T (.ins 2 [])) ⟨by show T.frz.length<=_;rw[fz];exact Nat.zero_le _,by show T.lk.contains _=false;rw[lk];rfl⟩ (zam gq) hl).mono fun d U hU=>?_)
 obtain⟨rfl,mv,ar,h1,h2,h3⟩:=hU
 rw[plen] at h1
 conv=>whnf
 refine zab rfl ?_
 conv=>whnf
 exact⟨T.len,ar,rfl,zgk mv,by omega,h2,h3⟩
theorem v_9 (gs:T.get s=some (scD i m r ls a))(ga:T.get a=some (.lst []))(gl:T.get ql=some (.lst (ls.map lD)))(gz:T.get q0=some (.lst (zs.map lD)))(hl:ls.length<=63)(hz:zs.length<=63)(fz:T.frz=[])(lk:T.lk=[])(na:ql≠a)(nz:q0≠a):W (evE (callF prog 8) e_9 (E0 ns (some (.int m)) (some (.int i)) (some (.int r)) (some (.ref ql)) (some (.int ct)) (some (.ref q0)) (some (.ref h)) (some (.ref s))) T) (Made T ql q0 s a i m r ls []):=by
 refine wE_W _ ?_
 unfold E0
 conv=>whnf
 refine zal (zcW (n:=7) (k:=3)) ?_
 conv=>whnf
 refine zab (by first|decide|omega|(simp;done)|(simp;omega)) ?_
 conv=>whnf
 refine zab (by first|decide|omega|(simp;done)|(simp;omega)) ?_
 conv=>whnf
 exact zaZ ((znU (f:=2) (b:=decide (cellZ ns 3 / 20 % 2=1)) (A:=[]) gs ga gl gz hl hz (Nat.zero_le _) fz lk na nz).mono fun d U hU=>hU)
theorem t_9 (m2:2<=m)(m7:m<=7)(hn:ns.length<=63)(r1:1<=r)(r6:r<=6)(gh:T.get h=some (.lst (ls.map lD)))(gl:T.get ql=some (.lst (ls.map lD)))(hw:HW T x y s a i m r ls zs us [])(gt:T.get qt=some (.lst ((ls.map (bend us)).map lD)))(gz:T.get qz=some (.lst (zs.map lD)))(fz:T.frz=[])(lk:T.lk=[])(nl:ql≠a)(nt:qt≠a)(nz:qz≠a)(nh:h≠a)(h1:h≠ql)(h2:h≠qt)(h3:h≠qz) :
  W (exS (callF prog 8) c_9 (E ns m i r ql ct qz h s x qt none none none none none) T) TQ:=by
 refine zbn (W.of (d:=false) (S:=T) (W.eq (wT_W _ ?_)) ⟨rfl,?_⟩)
 · unfold E
   conv=>whnf
   refine zaa (zbp gh gl (zhP T 57 ls)) ?_
   conv=>whnf
   exact⟨rfl,rfl⟩
 obtain⟨U,e1,v1,g1⟩:=zc3 (T:=T) (u:=.lst []) ⟨by rw[fz];exact Nat.zero_le _,by rw[lk];rfl⟩ gh
 refine zcm (W.of (d:=.non) (S:=U) (W.eq (wE_W _ ?_)) ?_)
 · unfold E
   conv=>whnf
   refine zaa (gh) ?_
   conv=>whnf
   refine zab (by first|decide|omega|(simp;done)|(simp;omega)) ?_
   conv=>whnf
   refine zaa (e1) ?_
   conv=>whnf
   exact⟨rfl,rfl⟩
 refine zaz (d:=.ref U.len) (S':=U.push (.lst [])) (W.eq (wE_W _ ?_)) ?_
 · unfold E
   conv=>whnf
   refine zab (by first|decide|omega|(simp;done)|(simp;omega)) ?_
   conv=>whnf
   exact⟨rfl,rfl⟩
 rw[E_11]
 have ne:∀{z c:Nat} {fs:List (PySem.Str × D)},T.get z=some (.ins c fs)->z≠h:=fun {z c fs} e w=>by rw[w,gh] at e;cases e
 have hwU:HW U x y s a i m r ls zs us []:=⟨v1.old _ _ (by simpa using ne hw.gx) hw.gx,v1.old _ _ (by simpa using ne hw.gs) hw.gs,v1.old _ _ (by simpa using nh.symm) hw.ga,hw.gy.imp id fun z=>v1.old _ _ (by simpa using ne z) z,hw.hl,hw.hz,hw.hu,hw.hA⟩
 have mv:=Mv.push [] U (.lst [])
 have la:=zar hwU.ga
 exact t_R (qd:=U.len) m2 m7 hn r1 r6 ⟨hwU.mv mv,mv.lk.trans (v1.lk.trans lk),mv.frz.trans (v1.frz.trans fz),zam (v1.old _ _ (by simpa using h1.symm) gl),zam (v1.old _ _ (by simpa using h2.symm) gt),zam (v1.old _ _ (by simpa using h3.symm) gz),zag _ _,nl,nt,nz,by omega⟩
theorem t_7 (m2:2<=m)(m7:m<=7)(hn:ns.length<=63)(r1:1<=r)(r6:r<=6)(gl:T.get ql=some (.lst (ls.map lD)))(gz:T.get q0=some (.lst (zs.map lD)))(hl:ls.length<=63)(hz:zs.length<=63)(fz:T.frz=[])(lk:T.lk=[]) :
  W (exS (callF prog 8) c_7 (E0 ns (some (.int m)) (some (.int i)) (some (.int r)) (some (.ref ql)) (some (.int ct)) (some (.ref q0)) v7 v8) T) TQ:=by
 have ll:=zar gl
 have lz:=zar gz
 refine zaz (d:=.ref T.len) (S':=T.push (.lst (ls.map lD))) (W.eq (wE_W _ ?_)) ?_
 · unfold E0
   conv=>whnf
   refine zaa (gl) ?_
   conv=>whnf
   refine zab (by rw[List.length_map];omega) ?_
   conv=>whnf
   exact⟨rfl,rfl⟩
 rw[E0_7]
 have m1:=Mv.push [] T (.lst (ls.map lD))
 have gh:=zag T (.lst (ls.map lD))
 have p1:=plen T (.lst (ls.map lD))
 generalize T.push (.lst (ls.map lD))=T1 at *
 refine zbg ((v_8 gh hl (m1.frz.trans fz) (m1.lk.trans lk)).mono fun d U hU=>?_)
 obtain⟨s,a,rfl,m2',hla,gs,ga⟩:=hU
 rw[E0_8]
 have mU:=m1.trans m2'
 have lU:=m2'.len
 refine zhc ((v_9 gs ga (mU.old _ _ (by simp) gl) (mU.old _ _ (by simp) gz) hl hz (mU.frz.trans fz) (mU.lk.trans lk) (by omega) (by omega)).mono fun d V hV=>?_)
 obtain⟨x,y,qt,qz,zs',us,rfl,m3,hw,gt,gz',nt,nz,ht,hz'⟩:=hV
 refine⟨E ns m i r ql ct qz T.len s x qt none none none none none,by unfold E0 E;rfl,?_⟩
 have mV:=mU.trans m3
 have la:=zar ga
 exact t_9 m2 m7 hn r1 r6 ((m2'.trans m3).old _ _ (by simp) gh) (mV.old _ _ (by simp) gl) hw gt gz' (mV.frz.trans fz) (mV.lk.trans lk) (by omega) nt nz (by omega) (by omega) (by omega) (by omega)
end
theorem law_true (ns:List Int)(h:ns.length<=63):W (callF prog 9 18 [.fix (ns.map .int)] ⟨[],[],[]⟩) fun d _=>d=.bl true:=by
 refine zo7 (F:=c_law) rfl rfl rfl ?_
 rw[zjW,show zaJ c_law [.fix (ns.map .int)]=E0 ns none none none none none none none none by unfold E0;rfl]
 have w0:∀{S:R.St} {δ:Ev} {r:CS},W (exS (callF prog 8) r δ S) TQ->W (exS (callF prog 8) r δ S) (fun r T=>match r with|.nx _=>D.non=.bl true|.rt d=>d=.bl true):=fun w=>w.mono fun r T q=>by cases r with|nx _=>exact q.elim|rt d=>exact q
 refine w0 ?_
 have hm0:=Int.emod_nonneg (cellZ ns 0) (by decide:(6:Int)≠0)
 have hm6:=Int.emod_lt_of_pos (cellZ ns 0) (by decide:(0:Int)<6)
 obtain⟨m,hm⟩:∃m:Nat,2+cellZ ns 0 % 6=m:=⟨(2+cellZ ns 0 % 6).toNat,by omega⟩
 refine zaz (d:=.int m) (S':=⟨[],[],[]⟩) (W.eq (wE_W _ ?_)) ?_
 · unfold E0
   conv=>whnf
   refine zal (zcW (n:=7) (k:=0)) ?_
   conv=>whnf
   refine zab (by first|decide|omega|(simp;done)|(simp;omega)) ?_
   conv=>whnf
   rw[hm]
   exact⟨rfl,rfl⟩
 rw[E0_1]
 refine zaz (d:=.int (cellZ ns 1 % m)) (S':=⟨[],[],[]⟩) (W.eq (wE_W _ ?_)) ?_
 · unfold E0
   conv=>whnf
   refine zal (zcW (n:=7) (k:=1)) ?_
   conv=>whnf
   refine zab (by omega) ?_
   conv=>whnf
   exact⟨rfl,rfl⟩
 rw[E0_2]
 refine zaz (d:=.int (1+cellZ ns 2 % 6)) (S':=⟨[],[],[]⟩) (W.eq (wE_W _ ?_)) ?_
 · unfold E0
   conv=>whnf
   refine zal (zcW (n:=7) (k:=2)) ?_
   conv=>whnf
   refine zab (by first|decide|omega|(simp;done)|(simp;omega)) ?_
   conv=>whnf
   exact⟨rfl,rfl⟩
 rw[E0_3]
 obtain⟨ls,hl,el⟩:=zhs (n:=5) (S:=⟨[],[],[]⟩) (ns:=ns) (a:=5) (b:=30) (m:=m) (by omega) (by omega) h
 have g0:(St.push ⟨[],[],[]⟩ (.lst (ls.map lD))).get 0=some (.lst (ls.map lD)):=zag (⟨[],[],[]⟩:R.St) _
 refine zaz (d:=.ref 0) (S':=St.push ⟨[],[],[]⟩ (.lst (ls.map lD))) (W.eq (wE_W _ ?_)) ?_
 · unfold E0
   conv=>whnf
   refine zal (el) ?_
   conv=>whnf
   exact⟨rfl,rfl⟩
 rw[E0_4]
 have fz:(St.push ⟨[],[],[]⟩ (.lst (ls.map lD))).frz=[]:=rfl
 have lk:(St.push ⟨[],[],[]⟩ (.lst (ls.map lD))).lk=[]:=rfl
 generalize St.push ⟨[],[],[]⟩ (.lst (ls.map lD))=T at *
 refine zaz (d:=.int (30+cellZ ns 3 % 20)) (S':=T) (W.eq (wE_W _ ?_)) ?_
 · unfold E0
   conv=>whnf
   refine zal (zcW (n:=7) (k:=3)) ?_
   conv=>whnf
   refine zab (by first|decide|omega|(simp;done)|(simp;omega)) ?_
   conv=>whnf
   exact⟨rfl,rfl⟩
 rw[E0_5]
 obtain⟨zs,hz,ez⟩:=znW (n:=4) (S:=T) (ns:=ns) (b:=30+cellZ ns 3 % 20) (m:=m) (by omega) (by omega) h g0 hl
 refine zaz (d:=.ref T.len) (S':=T.push (.lst (zs.map lD))) (W.eq (wE_W _ ?_)) ?_
 · unfold E0
   conv=>whnf
   refine zal (ez) ?_
   conv=>whnf
   exact⟨rfl,rfl⟩
 rw[E0_6]
 exact t_7 (by omega) (by omega) h (by omega) (by omega) (zam g0) (zag T _) hl hz fz lk
end
section
open PySem R L2
theorem p_road {P:Program}{w:World}{K:W.Frag}{h base:Heap}{mg:Str->Option Value}{f cc:Addr}{oc kV dc pm ct:Value}{od an:Option Addr}{sl:Array (Option Value)}(X:K.In h)(G:h.Ns mainGlobals mg)(bm:BM mg base)(a:W.nsIn K mainGlobals "road"=some (some (.ref f)))(l:K.lookup f=some ⟨oc,od,.func (W.fnOf "road" "road" (zat zcA) (zan zcA) (zad zcA) .none kV dc pm an (.ref cc) ct),sl⟩)(c:W.codeIn K (.ref cc) "road"=true)(k:W.keepIn K (.ref f)=true)(e:W.codeHdIn K cc 16=true):DefOk K mg tab prog 0 "road" ["lies"] 0\/PrimOk P w K mg base prog 0 "road" ["lies"] 0:=
 .inr ⟨⟨zkY,.road,_,_,rfl,rfl,rfl,W.mg_of X G a,k,(fun j hj=>(Nat.le_zero.mp hj).symm▸(zdf (st:=zcA) l c k).binds fun _ _ _ _ _ _ us hl=>match us,hl with | [_],_=>rfl),fun n hn=>zlL l c e zlK bm (by simp only[Mks.ts,mks,List.mem_cons,true_or,or_true]) (fun p hp z=>by simp only[Mks.ts,mks,List.mem_cons,List.not_mem_nil,or_false] at hp;rcases hp with rfl|rfl<;>first|rfl|exact absurd z (by decide)) rfl rfl rfl hn⟩⟩
theorem p_tally {P:Program}{w:World}{K:W.Frag}{h base:Heap}{mg:Str->Option Value}{f cc:Addr}{oc kV dc pm ct:Value}{od an:Option Addr}{sl:Array (Option Value)}(X:K.In h)(G:h.Ns mainGlobals mg)(bm:BM mg base)(a:W.nsIn K mainGlobals "tally"=some (some (.ref f)))(l:K.lookup f=some ⟨oc,od,.func (W.fnOf "tally" "tally" (zat zch) (zan zch) (zad zch) .none kV dc pm an (.ref cc) ct),sl⟩)(c:W.codeIn K (.ref cc) "tally"=true)(k:W.keepIn K (.ref f)=true)(e:W.codeHdIn K cc 23=true)(z:W.nsIn K mainGlobals "sorted"=some none):DefOk K mg tab prog 1 "tally" ["words"] 0\/PrimOk P w K mg base prog 1 "tally" ["words"] 0:=
 .inr ⟨⟨zfV,.tally,_,_,rfl,rfl,rfl,W.mg_of X G a,k,(fun j hj=>(Nat.le_zero.mp hj).symm▸(zdf (st:=zch) l c k).binds fun _ _ _ _ _ _ us hl=>match us,hl with | [_],_=>rfl),fun n hn=>zi3 l c e zi2 bm (by decide +kernel) (fun p hp z=>by simp only[Mks.ts,mks,List.mem_cons,List.not_mem_nil,or_false] at hp;rcases hp with rfl|rfl<;>first|decide +kernel|exact absurd z (by decide)) (W.mg_none_of X G z) rfl rfl rfl hn⟩⟩
end
end K24
open PySem PySem.W PyProof.Rows
set_option maxRecDepth 100000 in
set_option maxHeartbeats 0 in
theorem PySem.Challenge.cw_traitorround_k24_scribes_and_liars_holds : PySem.Challenge.rw_traitorround_k24_scribes_and_liars.Holds := by
 w_on;o_law;k_head;(case hw=>w_witness2)
 k_fill
 refine R.walk_ofT (l:=PySem.Challenge.rw_traitorround_k24_scribes_and_liars) (n:=63) (k:=18) (x:="_law_script") (sp:=fun w=>R.spF _ (R.callF K24.prog 9) 18) rfl (by decide) rfl ⟨rfl,by decide,by decide⟩ (fun w h Y=>W.km_in_of Y) ?hT ?hK ?F (fun _ _ a ns hl hx tb=>R.law_spT hx tb (K24.law_true ns hl))
 case hT=>
  intro w h Y p hp
  simp only[R.Mks.ts,K24.mks,List.mem_cons,List.not_mem_nil,or_false] at hp
  rcases hp with rfl|rfl
  · exact W.km_tabs_of Y 16 (by simp)
  · exact W.km_tabs_of Y 23 (by simp)
 case hK=>
  intro w p hp
  simp only[R.Mks.ts,K24.mks,List.mem_cons,List.not_mem_nil,or_false] at hp
  rcases hp with rfl|rfl
  · exact⟨by with_unfolding_all rfl,20,by with_unfolding_all rfl⟩
  · exact⟨by with_unfolding_all rfl,27,by with_unfolding_all rfl⟩
 case F=>
  intro w mg fa h KX G hmg
  apply R.all_of (n:=8) KX G hmg K24.ok_law (Nat.le_refl _)
  · (repeat' (first|exact trivial|apply R.AllAtG.cons|apply R.AllInG.cons))
    · apply R.clOk (c:=0) KX G rfl<;>first|k_is|((repeat' (first|exact trivial|apply R.AllAtG.cons|apply R.AllInG.cons))<;>k_is)
    · apply R.clOk (c:=1) KX G rfl<;>first|k_is|((repeat' (first|exact trivial|apply R.AllAtG.cons|apply R.AllInG.cons))<;>k_is)
    · apply R.clOk (c:=2) KX G rfl<;>first|k_is|((repeat' (first|exact trivial|apply R.AllAtG.cons|apply R.AllInG.cons))<;>k_is)
  · (repeat' (first|exact trivial|apply R.AllAtG.cons|apply R.AllInG.cons))<;>k_is
  · (repeat' (first|exact trivial|apply R.AllAtG.cons|apply R.AllInG.cons))<;>(apply R.coOk;k_is)
  · intro base bm
    (repeat' (first|exact trivial|apply R.AllAtG.cons|apply R.AllInG.cons))
    · apply K24.p_road KX G bm<;>first|k_is|with_unfolding_all rfl
    · apply K24.p_tally KX G bm<;>first|k_is|with_unfolding_all rfl
    · apply R.dOk KX G K24.ok_most<;>k_is
    · apply R.dOk KX G K24.ok_law_cell_at<;>k_is
    · apply R.dOk KX G K24.ok_law_word<;>k_is
    · apply R.dOk KX G K24.ok_law_spread<;>k_is
    · apply R.dOk KX G K24.ok_law_line<;>k_is
    · apply R.dOk KX G K24.ok_law_drawn<;>k_is
    · apply R.dOk KX G K24.ok_law_lies<;>k_is
    · apply R.dOk KX G K24.ok_law_last<;>k_is
    · apply R.dOk KX G K24.ok_law_same<;>k_is
    · apply R.dOk KX G K24.ok_law_alike<;>k_is
    · apply R.dOk KX G K24.ok_law_made<;>k_is
    · apply R.dOk KX G K24.ok_law_inner_came<;>k_is
    · apply R.dOk KX G K24.ok_law_says<;>k_is
    · apply R.dOk KX G K24.ok_law_best<;>k_is
    · apply R.dOk KX G K24.ok_law_fields<;>k_is
    · apply R.dOk KX G K24.ok_law_plain<;>k_is
    · apply R.dOk KX G K24.ok_law<;>k_is
  · intro hc
    (repeat' (first|exact trivial|apply R.AllAtG.cons|apply R.AllInG.cons))
    · apply R.mOk (c:=2) hc K24.ok_Scribe_came rfl rfl<;>k_is
    · apply R.mOk (c:=0) hc K24.ok_Liar_ending rfl rfl<;>k_is
    · apply R.mOk (c:=1) hc K24.ok_Hand_ending rfl rfl<;>k_is
    · apply R.mOk (c:=2) hc K24.ok_Scribe_ending rfl rfl<;>k_is
    · apply R.mOk (c:=0) hc K24.ok_Liar_hear rfl rfl<;>k_is
    · apply R.mOk (c:=1) hc K24.ok_Hand_hear rfl rfl<;>k_is
    · apply R.mOk (c:=2) hc K24.ok_Scribe_hear rfl rfl<;>k_is
    · apply R.mOk (c:=0) hc K24.ok_Liar_say rfl rfl<;>k_is
    · apply R.mOk (c:=1) hc K24.ok_Hand_say rfl rfl<;>k_is
    · apply R.mOk (c:=2) hc K24.ok_Scribe_say rfl rfl<;>k_is
  · (repeat' (first|exact trivial|apply R.AllAtG.cons|apply R.AllInG.cons))
    · apply R.iOk (c:=0) K24.ok_Liar_init rfl<;>k_is
    · apply R.iOk (c:=1) K24.ok_Hand_init rfl<;>k_is
    · apply R.iOk (c:=2) K24.ok_Scribe_init rfl<;>k_is
  · (repeat' (first|exact trivial|apply R.AllAtG.cons|apply R.AllInG.cons))
    · apply R.cOk KX G K24.ok_Hand_init<;>k_is
  · (repeat' (first|exact trivial|apply R.AllAtG.cons|apply R.AllInG.cons))
    · apply R.isOk KX G<;>first|k_is|((repeat' (first|exact trivial|apply R.AllAtG.cons|apply R.AllInG.cons))<;>first|k_is|with_unfolding_all rfl)
    · apply R.isOk KX G<;>first|k_is|((repeat' (first|exact trivial|apply R.AllAtG.cons|apply R.AllInG.cons))<;>first|k_is|with_unfolding_all rfl)
  all_goals k_is
end

import PyProof.Rows.All
import Wide.All
import OpenK.AllK
import Wide.FinOn
import Lean
import PyProof.EqAt
import PyProof.EqKinds
import PyProof.TupleCall
import PyProof.P3Statements
import PyProof.Dict
import PySem.Syntax
import PyProof.StationsW
import PyProof.ExcClass3
import PyProof.ExcInit
import PyProof.ExcAttrAll.ValueError
import OpenK.KMake
import OpenK.KWalk
import KE.KIsAll
import OpenK.KOwn
import KE.KTryMore
import PyProof.RulesAs
import PyProof.NsDelKeeps
import PySem.Challenge.RW_traitorround_k61_crashes_told
set_option Elab.async false
set_option linter.all false
set_option maxRecDepth 100000
set_option bootstrap.genMatcherCode false
namespace PySem.W.Fast
end PySem.W.Fast
namespace PySem.W.Fast
def tw5934100525219239232:=0
def tw1702801092193265144:=0
def tw10326743058733300165:=0
def tw2393348930390120466:=0
def tw3923163171612277352:=0
def tw6427494177277621435:=0
def tw13163612448918066028:=0
def tw4841008269047697080:=0
def tw5234714558286782468:=0
def tw5481827683188844038:=0
def tw13664508138903777567:=0
def tw7188809940310482196:=0
def tw9476692713720890023:=0
def tw6221147330833558717:=0
def tw13148084549764936914:=0
def tw7391402621008617534:=0
def tw16117348666285201379:=0
def tw11425088011505136226:=0
def tw13064311767226618699:=0
def tw17537374267953532001:=0
def tw4961820868894503069:=0
def tw14374997156962856925:=0
def tw6024540905926315155:=0
def tw15686764232183520256:=0
def tw9179692174222184422:=0
def tw9027025279422606841:=0
def tw3722002011424594892:=0
def tw13799204644602957692:=0
def tw6410353468097529103:=0
def tw123048186689129361:=0
def tw18310302864191059372:=0
def tw18065315497262624290:=0
def tw10106473167262748691:=0
def tw3504484088567331984:=0
def tw7166580658953263533:=0
def tw4194202088915932413:=0
def tw7776168307029678149:=0
def tw301593879627547821:=0
def tw2322154399018308996:=0
def tw14804139422194918713:=0
def tw18342297730550516580:=0
def tw17363102169435460339:=0
def tw4838827928135563808:=0
def tw3184473692234826104:=0
def tw16563348056992842351:=0
def tw6006743615157719133:=0
def tw11607039671132425159:=0
def tw15173772706949537159:=0
def tw5154049601042232324:=0
def tw9575087601353424147:=0
def tw6176870966828867223:=0
def tw8991022155851040927:=0
def tw6862775587501479049:=0
def tw13157259465724522856:=0
def tw8211016738144923269:=0
def tw4937697222928705685:=0
def tw12758515729527844784:=0
def tw9481850377153535003:=0
def tw2527241174863723281:=0
def tw1277873222372403410:=0
def tw56467512777086599:=0
def tw7160622003021576975:=0
def tw1506555071575962526:=0
def tw8059290006987681382:=0
def tw14337324035821501092:=0
def tw4941897377042480626:=0
def tw5546713857753794062:=0
def tw13056769428938685566:=0
def tw5969518296552262965:=0
def tw11947731034591266131:=0
def tw17435258623237086601:=0
def tw9275607203432234711:=0
def tw10659226760446786366:=0
def tw7710644770606304072:=0
def tw1558966013755567633:=0
def tw10747829719401005419:=0
def tw13403078152008374094:=0
def tw15347338912385428447:=0
def tw3511693993590243:=0
def tw16158387850367910468:=0
def tw15503630974317402160:=0
def tw3979802910962380911:=0
def tw13655207165729438589:=0
def tw10229809688382994731:=0
def tw15524790227765855490:=0
def tw10896909472546752399:=0
def tw8871912444661955020:=0
def tw11245939557075166294:=0
def tw3239935658206430831:=0
def tw8610202394431061259:=0
def tw135715596520318951:=0
def tw13316868499633343006:=0
def tw1675396835049505317:=0
def tw9336172389062555280:=0
def tw3486840542151651462:=0
def tw12629860789415398011:=0
def tw16413163140788047055:=0
def tw1501880466554521851:=0
def tw5073070646663407265:=0
def tw2474639681751958843:=0
def tw12896519125490493763:=0
def tw16570787694657216354:=0
def tw8074206339915965638:=0
def tw7556698961823642246:=0
def tw13919685499126742904:=0
def tw5733011878985430686:=0
def tw5843192154347661772:=0
def tw17157600208677421525:=0
def tw11856378979736563633:=0
def tw14855398815833852856:=0
def tw816289483380909030:=0
def tw17957865348153560637:=0
def tw4777944951353811033:=0
def tw13592834684894480511:=0
def tw14832976944754977444:=0
def tw6831802676472425784:=0
def tw12230974517035585561:=0
def tw13507387040574974038:=0
def tw6915975731047753141:=0
def tw13147758622508081042:=0
def tw5598249794568357751:=0
def tw4169590700019693577:=0
def tw1953829768027963322:=0
def tw2800632386110636342:=0
def tw238129421532002879:=0
def tw6494865744023611770:=0
def tw7358537170944726799:=0
def tw11261325868857806143:=0
def tw7127554302103717695:=0
def tw18211520132002182806:=0
def tw12868539143249982195:=0
def tw9183007822716406002:=0
def tw17070814196992084125:=0
def tw4204101009010333939:=0
def tw17658529362572202535:=0
def tw17378172814316708166:=0
def tw17147617838312334446:=0
def tw666618599051644296:=0
def tw1413205388543650960:=0
def tw8977312785791153144:=0
def tw16976512698356753597:=0
def tw16124095330413678745:=0
def tw8998220389406662086:=0
def tw14746385577474036462:=0
def tw15661448429997784320:=0
def tw14875111209836099267:=0
def tw10000866511215350731:=0
def tw8954100670391133252:=0
def tw18217512185625272554:=0
def tw11641298722622119135:=0
def tw14814984443908161408:=0
def tw6212441626778873317:=0
def tw3552959895600601298:=0
def tw13258886050948613183:=0
def tw13696612589620285811:=0
def tw4226842803720089160:=0
def tw15444254745830219016:=0
def tw6945829715410315218:=0
def tw7183133611146350452:=0
def tw16783798888988952732:=0
def tw13394040204347459011:=0
def tw18432864486657355251:=0
def tw9825589206576450546:=0
def tw4269063233852906042:=0
def tw1616875743525647534:=0
def tw13060565449338268040:=0
def tw3816270245617349913:=0
def tw10903340426760643762:=0
def tw1355425153033945935:=0
def tw7056499901676379302:=0
def tw6722735950818351787:=0
def tw3931476904770431112:=0
def tw15255780324028594155:=0
def tw9138587899803983111:=0
def tw9773611143191248797:=0
def tw6713997936087055422:=0
def tw3227890258401057947:=0
def tw1114862592577212953:=0
def tw12142040791536387524:=0
def tw11948335764911753817:=0
def tw11086265851058616116:=0
def tw17051052122433150376:=0
def tw9821274193937535402:=0
def tw2630805117805761318:=0
def tw9479947792034039658:=0
def tw6131035940783168887:=0
def tw18322499531769295118:=0
def tw16060731255042929212:=0
def tw7133875275733001979:=0
def tw16932785320506079933:=0
def tw12127202820702784119:=0
def tw11844798720951493013:=0
def tw14846548134139840469:=0
def tw5813565789204961147:=0
def tw5054012685451917629:=0
def tw1254896590673059445:=0
def tw13115402475621120690:=0
def tw9461840868406815197:=0
def tw11323629934353047219:=0
def tw13325204133912678881:=0
def tw16970777273169013606:=0
def tw14032063305849857718:=0
def tw1815728009456297580:=0
def tw7268204384317728021:=0
def tw3816441953437256452:=0
def tw15292081743951619925:=0
def tw6308022661454023934:=0
def tw4809229683212642625:=0
def tw5913136168019867720:=0
def tw1526660292391087849:=0
def tw13245778018490369542:=0
def tw15854276546944979654:=0
def tw4161209366355785159:=0
def tw4323756070303953345:=0
def tw9365293542972926827:=0
def tw6607705122279755875:=0
def tw15803619439011746025:=0
def tw18424065723968869513:=0
def tw5388277369991691341:=0
end PySem.W.Fast
section
namespace L2
open PySem PySem.Spec PyProof.Rows
noncomputable abbrev Key:=Sum Int Str
noncomputable def zfS:Key->Value->Bool
 |.inl k,v=>Value.isInt k v
 |.inr x,v=>Value.isStrOf x v
noncomputable def keyH (w:World):Key->Int
 |.inl k=>hashInt k
 |.inr x=>hashStr w x
theorem zau:∀{k:Key} {v:Value},zfS k v=true->(∃i t,k=Sum.inl i/\v=Value.int i t)\/(∃x t,k=Sum.inr x/\v=Value.str x t)
 | .inl i, v, h => by
   obtain⟨t,e⟩:=Value.isInt_shape (k:=i) (v:=v) h
   exact .inl ⟨i,t,rfl,e⟩
 | .inr x, v, h => by
   obtain⟨t,e⟩:=Value.isStrOf_shape (x:=x) (v:=v) h
   exact .inr ⟨x,t,rfl,e⟩
theorem zgL (i:Int)(t:Tok):zfS (.inl i) (.int i t)=true:=by simp[zfS,Value.isInt]
theorem zgK (x:Str)(t:Tok):zfS (.inr x) (.str x t)=true:=by simp[zfS,Value.isStrOf]
theorem zmn (a b:Int):decide ((Sum.inl a:Key)=Sum.inl b)=(a == b):=by
 by_cases e:a=b
 · subst e;simp
 · have h:¬(Sum.inl a:Key)=Sum.inl b:=fun q=>e (Sum.inl.inj q)
   rw[decide_eq_false h]
   exact (beq_eq_false_iff_ne.mpr e).symm
theorem zmj (a b:Str):decide ((Sum.inr a:Key)=Sum.inr b)=decide (a=b):=by
 by_cases e:a=b
 · subst e;simp
 · have h:¬(Sum.inr a:Key)=Sum.inr b:=fun q=>e (Sum.inr.inj q)
   rw[decide_eq_false h,decide_eq_false e]
theorem zmm (a:Int)(b:Str):decide ((Sum.inl a:Key)=Sum.inr b)=false:=decide_eq_false (fun q=>nomatch q)
theorem zmk (a:Str)(b:Int):decide ((Sum.inr a:Key)=Sum.inl b)=false:=decide_eq_false (fun q=>nomatch q)
noncomputable def zaq (prog:Program)(w:World):PySem.KeyKind prog w Key where
 is:=zfS
 hash:=keyH w
 inj:=fun v a b ha hb=>by
  rcases zau ha with ⟨i,t,rfl,rfl⟩|⟨x,t,rfl,rfl⟩
  · rcases zau hb with ⟨j,u,rfl,e⟩|⟨y,u,rfl,e⟩
    · injection e with e1 _;rw[e1]
    · exact nomatch e
  · rcases zau hb with ⟨j,u,rfl,e⟩|⟨y,u,rfl,e⟩
    · exact nomatch e
    · injection e with e1 _;rw[e1]
 byValue:=fun k v h=>by
  rcases zau h with ⟨i,t,rfl,rfl⟩|⟨x,t,rfl,rfl⟩<;>rfl
 pyHash:=fun hv h=>by
  rcases zau hv with ⟨i,t,rfl,rfl⟩|⟨x,t,rfl,rfl⟩
  · exact wpAny_pyHash_int h
  · exact wpAny_pyHash_str h
 eqBool:=fun hu hv h=>by
  rcases zau hu with ⟨i,t,rfl,rfl⟩|⟨x,t,rfl,rfl⟩
  · rcases zau hv with ⟨j,u,rfl,rfl⟩|⟨y,u,rfl,rfl⟩
    · rw[zmn] at h;exact wpAny_eqBool_int h
    · rw[zmm] at h;exact SeqAt.EqAt.int_str i t y u _ _ _ _ h
  · rcases zau hv with ⟨j,u,rfl,rfl⟩|⟨y,u,rfl,rfl⟩
    · rw[zmk] at h;exact SeqAt.EqAt.str_int x t j u _ _ _ _ h
    · rw[zmj] at h;exact wpAny_eqBool_str h
 «strs»:=fun k x t v h=>by
  rcases zau h with ⟨i,u,rfl,e⟩|⟨y,u,rfl,e⟩
  · exact nomatch e
  · injection e with e1 _
    subst e1
    cases v<;>rfl
theorem zeA (prog:Program)(w:World)(i:Int)(t:Tok):(zaq prog w).is (.inl i) (.int i t)=true:=zgL i t
theorem zez (prog:Program)(w:World)(x:Str)(t:Tok):(zaq prog w).is (.inr x) (.str x t)=true:=zgK x t
end L2
namespace L2
open PySem PySem.Spec PyProof.Rows
inductive V where
 |non|bl (b:Bool)|int (i:Int)|str (x:Str)|byt (b:Array UInt8)|flt (b:UInt64)|ref (a:Addr)|ty (n:String)
 deriving DecidableEq
noncomputable def RelV:V->Value->Prop
 |.non,u=>u=Value.none
 |.bl b,u=>u=Value.bool b
 |.int i,u=>∃t,u=Value.int i t
 |.str x,u=>∃t,u=Value.str x t
 |.byt b,u=>∃t,u=Value.bytes b t
 |.flt b,u=>∃t,u=Value.float b t
 |.ref a,u=>u=Value.ref a
 |.ty n,u=>u=Value.type n
noncomputable abbrev Vals:List V->List Value->Prop:=Paired RelV
theorem Vals.length {xs:List V}{us:List Value}(r:Vals xs us):xs.length=us.length:=Paired.length r
theorem Vals.get:∀{xs:List V} {us:List Value} {i:Nat} {x:V},Vals xs us->xs[i]?=some x->∃u,us[i]?=some u/\RelV x u
 |_,_,_,_,.nil,e=>by simp at e
 |_,_,0,_,.cons r _,e=>by simp at e;subst e;exact⟨_,rfl,r⟩
 | _, _, i + 1, x, .cons _ t, e => by
   obtain⟨u,h1,h2⟩:=Vals.get (i:=i) (x:=x) t (by simpa using e)
   exact⟨u,by simpa using h1,h2⟩
theorem Vals.set {x:V}{u:Value}(r:RelV x u):∀{xs:List V} {us:List Value} (i:Nat),Vals xs us->Vals (xs.set i x) (us.set i u)
 |_,_,_,.nil=>.nil
 |_,_,0,.cons _ t=>.cons r t
 |_,_,i+1,.cons q t=>.cons q (Vals.set r i t)
theorem Vals.append:∀{xs ys:List V} {us ws:List Value},Vals xs us->Vals ys ws->Vals (xs++ys) (us++ws)
 |_,_,_,_,.nil,s=>s
 |_,_,_,_,.cons r t,s=>.cons r (Vals.append t s)
theorem Vals.take:∀{xs:List V} {us:List Value} (n:Nat),Vals xs us->Vals (xs.take n) (us.take n)
 |_,_,0,_=>.nil
 |_,_,_+1,.nil=>.nil
 |_,_,n+1,.cons r t=>.cons r (Vals.take n t)
theorem Vals.drop:∀{xs:List V} {us:List Value} (n:Nat),Vals xs us->Vals (xs.drop n) (us.drop n)
 |_,_,0,r=>r
 |_,_,_+1,.nil=>.nil
 |_,_,n+1,.cons _ t=>Vals.drop n t
noncomputable def RelO:Option V->Option Value->Prop
 |some v,some u=>RelV v u
 |none,none=>True
 |_,_=>False
noncomputable def KV {κ:Type}:List (κ × V)->List (κ × Value)->Prop:=Paired fun (p:κ × V) (q:κ × Value)=>p.1=q.1/\RelV p.2 q.2
noncomputable def kV:Key->V
 |.inl i=>.int i
 |.inr x=>.str x
inductive HO where
 |lst (xs:List V)
 |tup (xs:List V)
 |dK (kvs:List (Key × V))|dT (kvs:List (List Key × V))
 |set (S:Int->Bool) (n:Nat)
 |ins (C dx:Addr) (fs:List (Str × V))
 |own (x:Addr)
 |xd (fs:List (Str × V))
 |met (f x:Addr)
 |rng (lo hi:Int)
 |frz (o:Obj) (u:HO)
 |tbl (ps:Array Value)
 |ext (φ:Heap->Prop)
noncomputable abbrev Hp:=Addr->Option HO
noncomputable def upd (H:Hp)(a:Addr)(o:HO):Hp:=fun b=>if b=a then some o else H b
theorem zak {H:Hp}{a:Addr}{o:HO}:upd H a o a=some o:=by unfold upd;rw[if_pos rfl]
theorem zah {H:Hp}{a b:Addr}{o:HO}(h:b≠a):upd H a o b=H b:=by unfold upd;rw[if_neg h]
theorem zjh {H:Hp}{a:Addr}{o u:HO}:upd (upd H a o) a u=upd H a u:=by
 funext b;unfold upd;split<;>rfl
theorem znF {H:Hp}{a b:Addr}{o u:HO}(h:H a=some o)(h':H b=some u)(d:o≠u):a≠b:=by
 intro e;subst e;rw[h] at h';exact d (Option.some.inj h')
theorem zay {H:Hp}{a b:Addr}{o:HO}(h:H a=some o)(h':H b=none):a≠b:=by
 intro e;subst e;rw[h] at h';cases h'
section
variable (P:Program) (w:World)
noncomputable def ObjOk (H:Hp)(h:Heap)(a:Addr):HO->Prop
 |.lst xs=>xs.length<=sizeLine/\∃(its:List Value) (n:Nat),Vals xs its/\h.get? a=some {cls:=.type "list",data:=.seq its.toArray n}
 |.tup xs=>xs.length<=sizeLine/\∃its:List Value,Vals xs its/\IsTup h a its.toArray
 |.dK kvs=>kvs.length<=sizeLine/\(a == sysModules)=false/\∃vs,KV kvs vs/\h.DictOf (zaq P w) a vs
 |.dT kvs=>kvs.length<=sizeLine/\(a == sysModules)=false/\∃xs:List (List Key × Addr × Value),
  Paired (fun (p:List Key × V) (q:List Key × Addr × Value)=>p.1=q.1/\H q.2.1=some (.tup (p.1.map kV))/\RelV p.2 q.2.2) kvs xs/\
  ∃o es ep,h.get? a=some o/\o.ExactDict/\o.data=.dict es ep/\es.toList=xs.map (entryOfKey (tupleKind (zaq P w)))/\(xs.map (·.1)).Nodup
 |.set S n=>h.SetOf (intKind P w) a S n
 |.ins C dx fs=>H dx=some (.own a)/\fs.length<=1000/\dx≠a/\h.get? a=some (PySem.W.instObj C dx)/\
  ∃mA,h.Ns1 dx mA/\(∀f,RelO (fs.lookup f) (mA f))/\PySem.Within mA (fs.map (·.1))
 |.own _=>∃o,h.get? a=some o
 |.xd fs=>∃mA,h.Ns1 a mA/\∀f,RelO (fs.lookup f) (mA f)
 |.rng lo hi=>∃t u v,h.get? a=some {cls:=.type "range",data:=.fields #[.int lo t,.int hi u,.int 1 v]}
 |.frz o u=>h.get? a=some o/\ObjOk H h a u
 |.tbl ps=>h.get? a=some {cls:=.none,data:=.fields ps}
 |.met f x=>h.get? a=some (PySem.W.methodObj (.ref f) (.ref x))
 |.ext φ=>φ h/\(∃o,h.get? a=some o)/\∀h1 h2:Heap,φ h1->(∀o,h1.get? a=some o->h2.get? a=some o)->φ h2
noncomputable def HOk (H:Hp)(h:Heap):Prop:=∀a o,H a=some o->ObjOk P w H h a o
end
section
variable {P:Program} {w:World} {H H':Hp} {h h':Heap} {a:Addr} {o:HO}
theorem ObjOk.lt (x:ObjOk P w H h a o):a<h.objs.size:=by
 cases o with
 |lst xs=>obtain⟨_,_,_,_,e⟩:=x;exact Heap.lt_size e
 |tup xs=>obtain⟨_,_,_,p⟩:=x;exact p.lt
 |dK kvs=>obtain⟨_,_,_,_,o,_,_,e,_⟩:=x;exact Heap.lt_size e
 |dT kvs=>obtain⟨_,_,_,_,o,_,_,e,_⟩:=x;exact Heap.lt_size e
 |set S n=>obtain⟨o,_,_,_,e,_⟩:=x;exact Heap.lt_size e
 |ins C dx fs=>obtain⟨_,_,_,e,_⟩:=x;exact Heap.lt_size e
 |own y=>obtain⟨_,e⟩:=x;exact Heap.lt_size e
 |xd fs=>obtain⟨_,⟨_,_,_,e,_⟩,_⟩:=x;exact Heap.lt_size e
 |rng lo hi=>obtain⟨_,_,_,e⟩:=x;exact Heap.lt_size e
 |frz ob u=>obtain⟨e,_⟩:=x;exact Heap.lt_size e
 |tbl ps=>exact Heap.lt_size (show h.get? a=some _ from x)
 |met f y=>exact Heap.lt_size (show h.get? a=some _ from x)
 |ext φ=>obtain⟨_,⟨_,e⟩,_⟩:=x;exact Heap.lt_size e
theorem Paired.mapP {α β:Type}{F G:α->β->Prop}:∀{l₁:List α} {l₂:List β},Paired F l₁ l₂->(∀a b,F a b->G a b)->Paired G l₁ l₂
 |_,_,.nil,_=>.nil
 |_,_,.cons r t,f=>.cons (f _ _ r) (Paired.mapP t f)
theorem ObjOk.stay (x:ObjOk P w H h a o)(k:∀b u,(b=a\/H b=some (.own a))->h.get? b=some u->h'.get? b=some u)
  (ho:∀b,H b=some (.own a)->H' b=some (.own a)) (ht:∀b xs,H b=some (.tup xs)->H' b=some (.tup xs)):ObjOk P w H' h' a o:=by
 induction o with
 |lst xs=>obtain⟨z,its,n,r,e⟩:=x;exact⟨z,its,n,r,k _ _ (.inl rfl) e⟩
 |tup xs=>obtain⟨z,its,r,ob,e,c⟩:=x;exact⟨z,its,r,ob,k _ _ (.inl rfl) e,c⟩
 |dK kvs=>obtain⟨z,y,vs,r,ob,es,ep,e,c⟩:=x;exact⟨z,y,vs,r,ob,es,ep,k _ _ (.inl rfl) e,c⟩
 | dT kvs =>
   obtain⟨z,y,xs,r,ob,es,ep,e,c⟩:=x
   exact⟨z,y,xs,Paired.mapP r fun p q z=>⟨z.1,ht _ _ z.2.1,z.2.2⟩,ob,es,ep,k _ _ (.inl rfl) e,c⟩
 |set S n=>obtain⟨ob,es,ep,t,e,c⟩:=x;exact⟨ob,es,ep,t,k _ _ (.inl rfl) e,c⟩
 | ins C dx fs =>
   obtain⟨d,z,ne,e,mA,⟨od,es,ep,e2,c⟩,r⟩:=x
   exact⟨ho _ d,z,ne,k _ _ (.inl rfl) e,mA,⟨od,es,ep,k _ _ (.inr d) e2,c⟩,r⟩
 |own y=>obtain⟨ob,e⟩:=x;exact⟨ob,k _ _ (.inl rfl) e⟩
 |xd fs=>obtain⟨mA,⟨od,es,ep,e,c⟩,r⟩:=x;exact⟨mA,⟨od,es,ep,k _ _ (.inl rfl) e,c⟩,r⟩
 |rng lo hi=>obtain⟨t,u,v,e⟩:=x;exact⟨t,u,v,k _ _ (.inl rfl) e⟩
 |frz ob u ih=>obtain⟨e,q⟩:=x;exact⟨k _ _ (.inl rfl) e,ih q⟩
 | tbl ps =>
   have e:h.get? a=some {cls:=.none,data:=.fields ps}:=x
   show h'.get? a=some {cls:=.none,data:=.fields ps}
   exact k a _ (.inl rfl) e
 | met f y =>
   have e:h.get? a=some (PySem.W.methodObj (.ref f) (.ref y)):=x
   show h'.get? a=some (PySem.W.methodObj (.ref f) (.ref y))
   exact k a _ (.inl rfl) e
 |ext φ=>obtain⟨p,⟨o,e⟩,st⟩:=x;exact⟨st _ _ p fun o q=>k _ _ (.inl rfl) q,⟨o,k _ _ (.inl rfl) e⟩,st⟩
theorem HOk.lt (x:HOk P w H h)(e:H a=some o):a<h.objs.size:=(x a o e).lt
theorem HOk.fresh (x:HOk P w H h)(e:h.objs.size<=a):H a=none:=by
 cases q:H a with
 |none=>rfl
 |some u=>exact absurd (Nat.lt_of_lt_of_le (x.lt q) e) (Nat.lt_irrefl _)
theorem HOk.kept (x:HOk P w H h)(k:∀b u,h.get? b=some u->h'.get? b=some u):HOk P w H h':=fun a o e=>
 (x a o e).stay (fun b u _ q=>k b u q) (fun _ q=>q) fun _ _ q=>q
theorem HOk.laid (x:HOk P w H h)(k:∀b u,h.get? b=some u->h'.get? b=some u)(hp:h.objs.size<=a)(new:ObjOk P w (upd H a o) h' a o):HOk P w (upd H a o) h':=fun b u e=>by
 have hn:=x.fresh hp
 by_cases hb:b=a
 · subst hb;rw[zak] at e;cases e;exact new
 · rw[zah hb] at e
   exact (x b u e).stay (fun c v _ q=>k c v q) (fun c q=>by rw[zah (zay q hn)];exact q) fun c xs q=>by rw[zah (zay q hn)];exact q
end
noncomputable def Rd (H:Hp)(a:Addr)(u:HO):Prop:=H a=some u\/∃o,H a=some (.frz o u)
theorem Rd.ok {P:Program}{w:World}{H:Hp}{h:Heap}{a:Addr}{u:HO}(r:Rd H a u)(x:HOk P w H h):ObjOk P w H h a u:=by
 rcases r with r|⟨o,r⟩
 · exact x a u r
 · obtain⟨_,q⟩:=x a _ r
   exact q
noncomputable def Mut:Option HO->Prop
 |some (.lst _)=>True
 |some (.dK _)=>True
 |some (.dT _)=>True
 |some (.set _ _)=>True
 |some (.ins _ _ _)=>True
 |some (.ext _)=>True
 |_=>False
section
variable {P:Program} {w:World} {H:Hp} {h h':Heap} {x e:Addr} {o':HO}
theorem HOk.write (ok:HOk P w H h)(mu:Mut (H x))(he:e=x\/H e=some (.own x))(k:∀b u,b≠e->h.get? b=some u->h'.get? b=some u)(heo:∃u,h'.get? e=some u)
  (new:ObjOk P w (upd H x o') h' x o'):HOk P w (upd H x o') h':=fun b u q=>by
 have nown:∀c y,H c=some (.own y)->c≠x:=fun c y r z=>by subst z;rw[r] at mu;exact mu
 have ntup:∀c xs,H c=some (.tup xs)->c≠x:=fun c xs r z=>by subst z;rw[r] at mu;exact mu
 by_cases hb:b=x
 · subst hb;rw[zak] at q;cases q;exact new
 · rw[zah hb] at q
   by_cases hbe:b=e
   · have q':H b=some (.own x):=by
      rcases he with z|z
      · exact absurd (hbe.trans z) hb
      · rw[hbe];exact z
     rw[q] at q';cases q'
     obtain⟨v,hv⟩:=heo
     exact⟨v,by rw[hbe];exact hv⟩
   · refine (ok b u q).stay (fun c v hc r=>k c v ?_ r) (fun c r=>by rw[zah (nown c b r)];exact r) fun c xs r=>by rw[zah (ntup c xs r)];exact r
     rcases hc with rfl|hc
     · exact hbe
     · rintro rfl
       rcases he with z|z
       · exact nown c b hc z
       · rw[hc] at z;cases z;exact hb rfl
end
structure Un (fs ex:List Addr) (H H':Hp) (h h':Heap):Prop where
 keep:∀b o,h.get? b=some o->H b=none->b∉fs->b∉ex->h'.get? b=some o
 slot:∀b o,h.get? b=some o->H b=none->b∈fs->b∉ex->∃sl,h'.get? b=some {o with slots:=sl}
 free:∀b o,h.get? b=some o->H b=none->b∉ex->H' b=none
 there:∀b o,h.get? b=some o->b∉ex->∃o',h'.get? b=some o'
 tups:∀b xs,H b=some (.tup xs)->H' b=some (.tup xs)
 frzs:∀b o u,H b=some (.frz o u)->H' b=some (.frz o u)
 tbls:∀b ps,H b=some (.tbl ps)->∃more,H' b=some (.tbl (ps++more))
section
variable {fs fs' ex ex':List Addr} {H H1 H2:Hp} {h h1 h2 h':Heap} {a x e:Addr} {o:HO}
theorem Un.any (u:Un fs ex H H1 h h1){b:Addr}{ob:Obj}(q:h.get? b=some ob)(n:H b=none)(hx:b∉ex):∃sl,h1.get? b=some {ob with slots:=sl}:=by
 by_cases hb:b∈fs
 · exact u.slot b ob q n hb hx
 · exact⟨ob.slots,u.keep b ob q n hb hx⟩
theorem Un.kept (k:∀b u,h.get? b=some u->h'.get? b=some u):Un fs ex H H h h':=
 ⟨fun b ob q _ _ _=>k b ob q,fun b ob q _ _ _=>⟨ob.slots,k b ob q⟩,fun _ _ _ n _=>n,fun b ob q _=>⟨ob,k b ob q⟩,fun _ _ q=>q,fun _ _ _ q=>q,fun _ ps q=>⟨#[],by rw[q];simp⟩⟩
theorem Un.refl:Un fs ex H H h h:=Un.kept fun _ _ q=>q
theorem Un.laid (k:∀b u,h.get? b=some u->h'.get? b=some u)(hp:h.objs.size<=a)(hn:H a=none):Un fs ex H (upd H a o) h h' where
 keep:=fun b u q _ _ _=>k b u q
 slot:=fun b u q _ _ _=>⟨u.slots,k b u q⟩
 free:=fun b u q n _=>by rw[zah (Nat.ne_of_lt (Nat.lt_of_lt_of_le (Heap.lt_size q) hp))];exact n
 there:=fun b u q _=>⟨u,k b u q⟩
 tups:=fun b xs q=>by rw[zah (zay q hn)];exact q
 frzs:=fun b u xs q=>by rw[zah (zay q hn)];exact q
 tbls:=fun b ps q=>⟨#[],by rw[zah (zay q hn),q];simp⟩
theorem Un.write (mu:Mut (H x))(he:e=x\/H e=some (.own x))(k:∀b u,b≠e->h.get? b=some u->h'.get? b=some u)(heo:∃u,h'.get? e=some u):Un fs ex H (upd H x o) h h':=by
 have hx:∀b,H b=none->b≠x:=fun b n z=>by subst z;rw[n] at mu;exact mu
 have hb:∀b,H b=none->b≠e:=fun b n z=>by
  subst z
  rcases he with r|r
  · exact hx b n r
  · rw[n] at r;cases r
 have hm:∀b u,H b=some u->¬Mut (some u)->b≠x:=fun b u q nm z=>by subst z;rw[q] at mu;exact nm mu
 refine⟨fun b u q n _ _=>k b u (hb b n) q,fun b u q n _ _=>⟨u.slots,k b u (hb b n) q⟩,fun b u q n _=>by rw[zah (hx b n)];exact n,fun b u q _=>?_,
  fun b xs q=>by rw[zah (hm b _ q fun z=>z)];exact q,fun b u xs q=>by rw[zah (hm b _ q fun z=>z)];exact q,fun b ps q=>⟨#[],by rw[zah (hm b _ q fun z=>z),q];simp⟩⟩
 by_cases hbe:b=e
 · subst hbe;exact heo
 · exact⟨u,k b u hbe q⟩
end
noncomputable def trk (h:Heap)(H:Hp):List Addr:=(List.range h.objs.size).filter fun a=>(H a).isSome
noncomputable def hidT (h:Heap)(H:Hp):Heap:=PySem.W.hideAll h (trk h H)
theorem zgY (h:Heap)(H:Hp):(hidT h H).objs.size=h.objs.size:=PySem.W.hideAll_size _ _
theorem zik {h:Heap}{H:Hp}{b:Addr}{o:Obj}(e:h.get? b=some o)(n:H b=none):(hidT h H).get? b=some o:=
 PySem.W.hideAll_get _ e fun hm=>by
  have q:(H b).isSome=true:=(List.mem_filter.mp hm).2
  rw[n] at q;simp at q
theorem zj7 {h:Heap}{H:Hp}{b:Addr}{o:Obj}(e:(hidT h H).get? b=some o):h.get? b=some o/\H b=none:=by
 have e':h.get? b=some o:=PySem.W.of_hideAll (trk h H) e
 refine⟨e',?_⟩
 cases q:H b with
 |none=>rfl
 | some x =>
   have hm:b∈trk h H:=List.mem_filter.mpr ⟨List.mem_range.mpr (Heap.lt_size e'),by simp[q]⟩
   have z:(hidT h H).get? b=none:=PySem.W.hideAll_none (trk h H) hm
   rw[z] at e;cases e
noncomputable def zkP (g h:Heap)(L:Addr):List (Addr × Obj):=(List.range h.objs.size).filterMap fun a=>if a=L\/(g.get? a).isSome=true then none else (h.get? a).map fun o=>(a,o)
noncomputable def rest (g h:Heap)(L d:Addr):List (Addr × Obj):=(zkP g h L).filter fun p=>decide (p.1≠d)
end L2
namespace L2
open PySem PySem.Spec PyProof.Rows
structure Mod (K:PySem.W.Frag) (mg:Str->Option Value) (base:Heap):Prop where
 kin:K.In base
 glob:base.Ns mainGlobals mg
 blt:∃mb,base.Ns builtinsNs mb/\∀x:Str,x≠"__name__"->mb x=bootBuiltins x
 nolimit:base.NoLimit
structure Cx where
 prog:Program
 w:World
 K:PySem.W.Frag
 mg:Str->Option Value
 base:Heap
 A:Around
 N:List Str
 s₀:Shared
 H₀:Hp
 env:Env
 outer:List Env
 stack:List Env
 ex:List Addr
 fn:Str->Bool
 calm:Bool
 pn:List (Addr × Obj)
 xe:Value->Shared->Prop
noncomputable def frs (l:List Env):List Addr:=l.filterMap (·.frame)
noncomputable abbrev Cx.fs (X:Cx):List Addr:=frs X.outer
noncomputable def Vis (sc:Scope)(x:Str):Prop:=sc.names.lookup x=some .local\/sc.names.lookup x=some .cell\/sc.names.lookup x=some .free
noncomputable def Loc (sc:Scope)(x:Str):Prop:=sc.names.lookup x=some .local\/sc.names.lookup x=some .cell
noncomputable def Look (env:Env)(h:Heap)(m:Str->Option Value)(x:Str)(u:Value):Prop:=
 (env.kindOf x=some .local/\m x=some u)\/((env.kindOf x=some .cell\/env.kindOf x=some .free)/\∃c,env.cells.lookup x=some c/\h.IsCell c (some u))
structure Cx.Ok (X:Cx):Prop where
 mod:Mod X.K X.mg X.base
 kind:X.env.scope.kind=.function
 glob:X.env.globals=mainGlobals
 blt:X.env.builtins=builtinsNs
 above:X.s₀.heap.objs.size<=X.env.locals
 inj:∀x y c,X.env.cells.lookup x=some c->X.env.cells.lookup y=some c->x=y
 has:∀x,(X.env.kindOf x=some .cell\/X.env.kindOf x=some .free)->∃c,X.env.cells.lookup x=some c
 cab:∀x c,X.fn x=true->X.env.cells.lookup x=some c->X.s₀.heap.objs.size<=c
 hd:X.calm=true->X.A.handled=none
 frames:X.A.frames=some X.stack
 stk:X.stack=X.outer\/(X.stack=X.env::X.outer/\X.env.frame=some X.env.locals)
 exf:∀b∈X.ex,b≠X.env.locals/\∀x c,X.env.cells.lookup x=some c->c≠b
 bs:∀b o,X.base.get? b=some o->X.s₀.heap.get? b=some o/\X.H₀ b=none
 bsz:X.base.objs.size<=X.s₀.heap.objs.size
 noex:∀b o,X.base.get? b=some o->b∉X.ex
 exfs:∀b∈X.ex,b∉X.fs
 funs:X.s₀.heap.FunFrames X.base X.outer
 frf:∀b∈X.fs,X.H₀ b=none
structure Inv (X:Cx) (pins:List (Addr × Obj)) (σ:List (Option V)) (H:Hp) (s:Shared):Prop where
 ok:X.Ok
 os:s.os=X.s₀.os
 bare:AllBare s.gens
 base:Un X.fs X.ex X.H₀ H X.s₀.heap s.heap
 loc:∃m,s.heap.Ns X.env.locals m/\∀(i:Nat) (x:Str) (v:V),X.N[i]?=some x->σ[i]?=some (some v)->Vis X.env.scope x->∃u,RelV v u/\Look X.env s.heap m x u
 cell:∀x c,X.env.cells.lookup x=some c->∃v,s.heap.IsCell c v
 free:H X.env.locals=none
 freeC:∀x c,X.env.cells.lookup x=some c->H c=none
 pin:∀p∈X.pn++pins,s.heap.get? p.1=some p.2/\H p.1=none/\p.1≠X.env.locals/\p.1∉X.fs/\∀v,p.2.data≠.cell v
 hok:HOk X.prog X.w H s.heap
 len:σ.length=X.N.length
section
variable {X:Cx} {pins:List (Addr × Obj)} {σ:List (Option V)} {H H':Hp} {s:Shared} {h':Heap}
theorem Cx.Ok.nofr (ok:X.Ok){b:Addr}{o:Obj}(e:X.base.get? b=some o):b∉X.fs:=fun hb=>by
 have:=(ok.funs.mem hb).1
 rw[e] at this;cases this
theorem Inv.bs (I:Inv X pins σ H s):∀b o,X.base.get? b=some o->s.heap.get? b=some o/\H b=none:=fun b o e=>
 ⟨I.base.keep b o (I.ok.bs b o e).1 (I.ok.bs b o e).2 (I.ok.nofr e) (I.ok.noex b o e),I.base.free b o (I.ok.bs b o e).1 (I.ok.bs b o e).2 (I.ok.noex b o e)⟩
theorem Inv.bk (I:Inv X pins σ H s):∀b o,X.base.get? b=some o->s.heap.get? b=some o:=fun b o e=>(I.bs b o e).1
theorem Inv.mod (I:Inv X pins σ H s):Mod X.K X.mg X.base:=I.ok.mod
theorem Inv.kIn (I:Inv X pins σ H s):X.K.In s.heap:=I.ok.mod.kin.keeps I.bk
theorem Inv.lt (I:Inv X pins σ H s):X.env.locals<s.heap.objs.size:=let ⟨_,hn,_⟩:=I.loc;hn.lt
theorem Inv.sz (I:Inv X pins σ H s):X.s₀.heap.objs.size<=s.heap.objs.size:=Nat.le_trans I.ok.above (Nat.le_of_lt I.lt)
theorem Inv.nofs (I:Inv X pins σ H s){a:Addr}(h:s.heap.objs.size<=a):a∉X.fs:=fun hb=>by
 obtain⟨_,o,ho,_⟩:=I.ok.funs.mem hb
 exact absurd (Nat.lt_of_lt_of_le (Heap.lt_size ho) (Nat.le_trans I.sz h)) (Nat.lt_irrefl _)
theorem Inv.cne (I:Inv X pins σ H s):∀x c,X.env.cells.lookup x=some c->c≠X.env.locals:=fun x c e z=>by
 obtain⟨v,o,ho,hd⟩:=I.cell x c e
 obtain⟨m,⟨o',es,ep,ho',hd',_⟩,_⟩:=I.loc
 rw[z,ho'] at ho;cases ho;rw[hd'] at hd;cases hd
theorem Inv.funs (I:Inv X pins σ H s):s.heap.FunFrames X.base X.outer:=by
 have all:∀(l:List Env),(∀b∈frs l,b∈X.fs)->X.s₀.heap.FunFrames X.base l->s.heap.FunFrames X.base l:=by
  intro l
  induction l with
  |nil=>intro _ _;trivial
  | cons env r ih =>
    intro hs hl
    obtain⟨hk,⟨L,o,hf,hn,ho,hd⟩,hr⟩:=hl
    have hL:L∈X.fs:=hs L (by unfold frs;rw[List.filterMap_cons,hf];exact List.mem_cons_self)
    obtain⟨sl,e⟩:=I.base.slot L o ho (I.ok.frf L hL) hL fun z=>I.ok.exfs L z hL
    exact⟨hk,⟨L,_,hf,hn,e,hd⟩,ih (fun b hb=>hs b (by unfold frs;rw[List.filterMap_cons,hf];exact List.mem_cons_of_mem _ hb)) hr⟩
 exact all X.outer (fun _ hb=>hb) I.ok.funs
theorem Inv.stack (I:Inv X pins σ H s):s.heap.FunFrames X.base X.stack:=by
 rcases I.ok.stk with e|⟨e,hf⟩
 · rw[e];exact I.funs
 · rw[e]
   obtain⟨m,hn,_⟩:=I.loc
   refine .cons (by rw[I.ok.kind];decide) hf hn ?_ I.funs
   exact Heap.get?_none_of_le (Nat.le_trans I.ok.bsz I.ok.above)
theorem Inv.stkSub (I:Inv X pins σ H s):∀b∈frs X.stack,b∈X.env.locals::X.fs:=fun b hb=>by
 rcases I.ok.stk with e|⟨e,hf⟩
 · rw[e] at hb;exact List.mem_cons_of_mem _ hb
 · rw[e] at hb
   unfold frs at hb
   rw[List.filterMap_cons,hf] at hb
   exact hb
theorem Inv.stkFree (I:Inv X pins σ H s):∀b∈frs X.stack,H b=none:=fun b hb=>by
 rcases List.mem_cons.mp (I.stkSub b hb) with e|hb
 · rw[e];exact I.free
 · obtain⟨_,o,ho,_⟩:=I.ok.funs.mem hb
   exact I.base.free b o ho (I.ok.frf b hb) fun z=>I.ok.exfs b z hb
theorem Inv.step {g':Array GenState}{t':Nat}{d':Drawn}{ch:List Addr}(I:Inv X pins σ H s)
  (hch:∀b∈ch,(b∈X.ex\/X.s₀.heap.objs.size<=b)/\b≠X.env.locals/\(∀x c,X.env.cells.lookup x=some c->c≠b)/\∀p∈X.pn++pins,p.1≠b)
  (keep:∀b o,b≠X.env.locals->b∉X.fs->b∉ch->s.heap.get? b=some o->H b=none->h'.get? b=some o)
  (slot:∀b o,b≠X.env.locals->b∈X.fs->b∉ch->s.heap.get? b=some o->H b=none->∃sl,h'.get? b=some {o with slots:=sl}) (free:∀b o,b∉ch->s.heap.get? b=some o->H b=none->H' b=none)
  (there:∀b o,b∉ch->s.heap.get? b=some o->∃o',h'.get? b=some o')
  (tups:∀b xs,H b=some (.tup xs)->H' b=some (.tup xs)) (frzs:∀b o u,H b=some (.frz o u)->H' b=some (.frz o u)) (tbls:∀b ps,H b=some (.tbl ps)->∃more,H' b=some (.tbl (ps++more)))
  (ns:∀m,s.heap.Ns X.env.locals m->h'.Ns X.env.locals m) (hok:HOk X.prog X.w H' h') (hg:AllBare g') :
  Inv X pins σ H' {s with heap:=h',gens:=g',drawn:=d',toks:=t'}:=by
 have neL:∀b o,X.s₀.heap.get? b=some o->b≠X.env.locals:=fun b o e=>Nat.ne_of_lt (Nat.lt_of_lt_of_le (Heap.lt_size e) I.ok.above)
 have neC:∀b o,X.s₀.heap.get? b=some o->b∉X.ex->b∉ch:=fun b o e hx hb=>by
  rcases (hch b hb).1 with z|z
  · exact hx z
  · exact absurd (Nat.lt_of_lt_of_le (Heap.lt_size e) z) (Nat.lt_irrefl _)
 have cellK:∀x c,X.env.cells.lookup x=some c->∀v,s.heap.IsCell c v->h'.IsCell c v:=fun x c e v ⟨o,ho,hd⟩=>by
  have nch:c∉ch:=fun z=>(hch c z).2.2.1 x c e rfl
  by_cases hc:c∈X.fs
  · obtain⟨sl,q⟩:=slot c o (I.cne x c e) hc nch ho (I.freeC x c e)
    exact⟨_,q,hd⟩
  · exact⟨o,keep c o (I.cne x c e) hc nch ho (I.freeC x c e),hd⟩
 refine⟨I.ok,I.os,hg,⟨fun b o e n hb hx=>?_,fun b o e n hb hx=>?_,fun b o e n hx=>?_,fun b o e hx=>?_,fun b xs e=>tups b xs (I.base.tups b xs e),fun b o xs e=>frzs b o xs (I.base.frzs b o xs e),fun b ps e=>?_⟩,?_,fun x c e=>?_,?_,fun x c e=>?_,fun p hp=>?_,hok,I.len⟩
 · exact keep b o (neL b o e) hb (neC b o e hx) (I.base.keep b o e n hb hx) (I.base.free b o e n hx)
 · obtain⟨sl,e1⟩:=I.base.slot b o e n hb hx
   obtain⟨sl',e2⟩:=slot b _ (neL b o e) hb (neC b o e hx) e1 (I.base.free b o e n hx)
   exact⟨sl',e2⟩
 · obtain⟨o',e1⟩:=I.base.there b o e hx
   exact free b o' (neC b o e hx) e1 (I.base.free b o e n hx)
 · obtain⟨o',e1⟩:=I.base.there b o e hx
   exact there b o' (neC b o e hx) e1
 · obtain⟨m1,e1⟩:=I.base.tbls b ps e
   obtain⟨m2,e2⟩:=tbls b _ e1
   exact⟨m1++m2,by rw[e2,Array.append_assoc]⟩
 · obtain⟨m,hn,hl⟩:=I.loc
   refine⟨m,ns m hn,fun i x v e1 e2 e3=>?_⟩
   obtain⟨u,r,l⟩:=hl i x v e1 e2 e3
   refine⟨u,r,?_⟩
   rcases l with l|⟨k,c,e,z⟩
   · exact .inl l
   · exact .inr ⟨k,c,e,cellK x c e _ z⟩
 · obtain⟨v,z⟩:=I.cell x c e
   exact⟨v,cellK x c e v z⟩
 · obtain⟨m,⟨o,_,_,ho,_⟩,_⟩:=I.loc
   exact free _ o (fun z=>(hch _ z).2.1 rfl) ho I.free
 · obtain⟨v,o,ho,hd⟩:=I.cell x c e
   exact free c o (fun z=>(hch c z).2.2.1 x c e rfl) ho (I.freeC x c e)
 · obtain⟨e,n,ne,nf,d⟩:=I.pin p hp
   have nch:p.1∉ch:=fun z=>(hch p.1 z).2.2.2 p hp rfl
   exact⟨keep p.1 p.2 ne nf nch e n,free p.1 p.2 nch e n,ne,nf,d⟩
theorem Inv.un {t':Nat}(I:Inv X pins σ H s)(u:Un X.fs [] H H' s.heap h')(hok:HOk X.prog X.w H' h'):Inv X pins σ H' {s with heap:=h',toks:=t'}:=by
 obtain⟨m,⟨o,es,ep,ho,r⟩,_⟩:=id I.loc
 obtain⟨sl,hL⟩:=u.any ho I.free (by simp)
 exact I.step (g':=s.gens) (d':=s.drawn) (ch:=[]) (fun _ z=>nomatch z) (fun b o _ hb _ e n=>u.keep b o e n hb (by simp)) (fun b o _ hb _ e n=>u.slot b o e n hb (by simp)) (fun b o _ e n=>u.free b o e n (by simp)) (fun b o _ e=>u.there b o e (by simp)) u.tups u.frzs u.tbls (fun m' hm=>by
  obtain⟨o',es',ep',ho',r'⟩:=hm
  rw[ho] at ho';cases ho'
  exact⟨_,es',ep',hL,r'⟩) hok I.bare
theorem Inv.call {g':Array GenState}{t':Nat}{d':Drawn}{ch:List Addr}(I:Inv X pins σ H s)(u:Un (frs X.stack) ch H H' s.heap h')(hok:HOk X.prog X.w H' h')(hg:AllBare g')
  (hch:∀b∈ch,(b∈X.ex\/X.s₀.heap.objs.size<=b)/\b≠X.env.locals/\(∀x c,X.env.cells.lookup x=some c->c≠b)/\∀p∈X.pn++pins,p.1≠b) :
  Inv X pins σ H' {s with heap:=h',gens:=g',drawn:=d',toks:=t'}:=by
 obtain⟨m,⟨o,es,ep,ho,r⟩,_⟩:=id I.loc
 obtain⟨sl,hL⟩:=u.any ho I.free fun z=>(hch _ z).2.1 rfl
 exact I.step (ch:=ch) hch (fun b o hL hb hc e n=>u.keep b o e n (fun z=>(List.mem_cons.mp (I.stkSub b z)).elim hL hb) hc) (fun b o _ _ hc e n=>u.any e n hc) (fun b o hc e n=>u.free b o e n hc) (fun b o hc e=>u.there b o e hc) u.tups u.frzs u.tbls (fun m' hm=>by
  obtain⟨o',es',ep',ho',r'⟩:=hm
  rw[ho] at ho';cases ho'
  exact⟨_,es',ep',hL,r'⟩) hok hg
theorem Inv.turned {t':Nat}{it:Addr}(I:Inv X pins σ H s)(k:∀b o,b≠it->s.heap.get? b=some o->h'.get? b=some o)(hn:H it=none)(hL:it≠X.env.locals)
  (h1:it∈X.ex\/X.s₀.heap.objs.size<=it) (h2:∀x c,X.env.cells.lookup x=some c->c≠it) (h3:∀p∈X.pn++pins,p.1≠it):Inv X pins σ H {s with heap:=h',toks:=t'}:=by
 have nit:∀b u,H b=some u->b≠it:=fun b u e z=>by rw[z,hn] at e;cases e
 refine I.step (g':=s.gens) (d':=s.drawn) (ch:=[it]) (fun b hb=>?_) (fun b o _ _ hc e _=>k b o (fun z=>hc (by simp[z])) e) (fun b o _ _ hc e _=>⟨o.slots,k b o (fun z=>hc (by simp[z])) e⟩) (fun _ _ _ _ n=>n)
  (fun b o hc e=>⟨o,k b o (fun z=>hc (by simp[z])) e⟩) (fun _ _ e=>e) (fun _ _ _ e=>e) (fun b ps e=>⟨#[],by rw[e];simp⟩) (fun m hm=>?_) (fun b u e=>?_) I.bare
 · have e:b=it:=by simpa using hb
   subst e
   exact⟨h1,hL,h2,h3⟩
 · obtain⟨o,es,ep,ho,r⟩:=hm
   exact⟨o,es,ep,k _ o (Ne.symm hL) ho,r⟩
 · refine (I.hok b u e).stay (fun c v hc q=>k c v ?_ q) (fun _ q=>q) fun _ _ q=>q
   rcases hc with z|z
   · rw[z];exact nit b u e
   · exact nit c _ z
theorem Inv.tok (I:Inv X pins σ H s)(t:Nat):Inv X pins σ H {s with toks:=t}:=I.un (h':=s.heap) (t':=t) Un.refl I.hok
theorem Inv.kept {t':Nat}(I:Inv X pins σ H s)(k:∀b u,s.heap.get? b=some u->h'.get? b=some u):Inv X pins σ H {s with heap:=h',toks:=t'}:=I.un (Un.kept k) (I.hok.kept k)
theorem Inv.laid {a:Addr}{o:HO}{t':Nat}(I:Inv X pins σ H s)(k:∀b u,s.heap.get? b=some u->h'.get? b=some u)(hp:s.heap.objs.size<=a)(new:ObjOk X.prog X.w (upd H a o) h' a o) :
 Inv X pins σ (upd H a o) {s with heap:=h',toks:=t'}:=I.un (Un.laid k hp (I.hok.fresh hp)) (I.hok.laid k hp new)
theorem Inv.write {x e:Addr}{o:HO}{t':Nat}(I:Inv X pins σ H s)(mu:Mut (H x))(he:e=x\/H e=some (.own x))(k:∀b u,b≠e->s.heap.get? b=some u->h'.get? b=some u)(heo:∃u,h'.get? e=some u)
 (new:ObjOk X.prog X.w (upd H x o) h' x o):Inv X pins σ (upd H x o) {s with heap:=h',toks:=t'}:=I.un (Un.write mu he k heo) (I.hok.write mu he k heo new)
theorem Inv.pins_of {pins':List (Addr × Obj)}(I:Inv X pins σ H s)(h:∀p∈pins',s.heap.get? p.1=some p.2/\H p.1=none/\p.1≠X.env.locals/\p.1∉X.fs/\∀v,p.2.data≠.cell v):Inv X pins' σ H s:=
 ⟨I.ok,I.os,I.bare,I.base,I.loc,I.cell,I.free,I.freeC,fun p hp=>(List.mem_append.mp hp).elim (fun z=>I.pin p (List.mem_append_left _ z)) (h p),I.hok,I.len⟩
theorem ze8 {N:List Str}(hN:N.Nodup){i j:Nat}{x:Str}(a:N[i]?=some x)(b:N[j]?=some x):i=j:=by
 obtain⟨h1,e1⟩:=List.getElem?_eq_some_iff.mp a
 obtain⟨h2,e2⟩:=List.getElem?_eq_some_iff.mp b
 exact (List.getElem_inj hN).mp (e1.trans e2.symm)
theorem zdy {M:Model}{A:Around}{E:Value->Shared->Prop}{i:Nat}{x:Str}{v:V}{u:Value}{Q:Unit->Shared->Prop}(I:Inv X pins σ H s)(hN:X.N.Nodup)(hi:X.N[i]?=some x)(hx:Loc X.env.scope x)(r:RelV v u)
  (h:∀s',Inv X pins (σ.set i (some v)) H s'->(∃a,Heap.SameBut a s.heap s'.heap/\(a=X.env.locals\/X.env.cells.lookup x=some a))->Q () s') (hf:X.fn x=true\/X.env.scope.names.lookup x=some .local:=by first|exact .inl rfl|exact .inr rfl|assumption):wpAny M A (storeName X.env x u) Q E s:=by
 obtain⟨m,hn,hl⟩:=id I.loc
 have hcls:(X.env.scope.kind == .class || (X.env.scope.kind == .module&&X.env.locals != X.env.globals))=false:=by rw[I.ok.kind];rfl
 have hiσ:i<σ.length:=by rw[I.len];exact (List.getElem?_eq_some_iff.mp hi).1
 have cne:=I.cne
 have tracked:∀{a:Addr} {h':Heap},(∃o,s.heap.get? a=some o/\H a=none)->Heap.SameBut a s.heap h'->HOk X.prog X.w H h':=fun {a h'} ha hs b ob e=>by
  obtain⟨_,_,hfree⟩:=ha
  refine (I.hok b ob e).stay (fun c w' hc q=>(hs.2 c ?_).trans q) (fun _ q=>q) fun _ _ q=>q
  rintro rfl
  rcases hc with rfl|hc
  · rw[hfree] at e;cases e
  · rw[hfree] at hc;cases hc
 rcases hx with hk|hk
 · refine wpAny_storeName_local hk hn (fun h' hn' hs=>?_) hcls
   obtain⟨oL,_,_,hoL,_⟩:=id hn
   refine h _ ⟨I.ok,I.os,I.bare,⟨fun b o e n hb hx=>?_,fun b o e n hb hx=>?_,I.base.free,fun b o e hx=>?_,I.base.tups,I.base.frzs,I.base.tbls⟩,⟨_,hn',fun j y v' e1 e2 e3=>?_⟩,fun y c e=>?_,I.free,I.freeC,fun p hp=>?_,tracked ⟨oL,hoL,I.free⟩ hs,by simpa using I.len⟩ ⟨_,hs,.inl rfl⟩
   · exact (hs.2 b (Nat.ne_of_lt (Nat.lt_of_lt_of_le (Heap.lt_size e) I.ok.above))).trans (I.base.keep b o e n hb hx)
   · obtain⟨sl,e1⟩:=I.base.slot b o e n hb hx
     exact⟨sl,(hs.2 b (Nat.ne_of_lt (Nat.lt_of_lt_of_le (Heap.lt_size e) I.ok.above))).trans e1⟩
   · obtain⟨o',e1⟩:=I.base.there b o e hx
     exact⟨o',(hs.2 b (Nat.ne_of_lt (Nat.lt_of_lt_of_le (Heap.lt_size e) I.ok.above))).trans e1⟩
   · by_cases hj:j=i
     · subst hj
       rw[hi] at e1;cases e1
       rw[List.getElem?_set_self hiσ] at e2
       cases e2
       exact⟨u,r,.inl ⟨hk,by simp⟩⟩
     · rw[List.getElem?_set_ne (Ne.symm hj)] at e2
       obtain⟨u',r',q⟩:=hl j y v' e1 e2 e3
       refine⟨u',r',?_⟩
       rcases q with ⟨k,e⟩|⟨k,c,e,z⟩
       · refine .inl ⟨k,?_⟩
         have:y≠x:=fun e=>hj (ze8 hN e1 (e▸hi))
         simp[this,e]
       · exact .inr ⟨k,c,e,z.sameBut hs (cne y c e)⟩
   · obtain⟨w',z⟩:=I.cell y c e
     exact⟨w',z.sameBut hs (cne y c e)⟩
   · obtain⟨e,n,ne,nf,d⟩:=I.pin p hp
     exact⟨(hs.2 p.1 ne).trans e,n,ne,nf,d⟩
 · have hfn:X.fn x=true:=by
    rcases hf with z|z
    · exact z
    · rw[z] at hk;cases hk
   obtain⟨c,hc⟩:=I.ok.has x (.inl hk)
   obtain⟨w',z⟩:=I.cell x c hc
   refine wpAny_storeName_cell I.ok.kind hk hc z (fun h' hc' hs=>?_)
   obtain⟨oc,hoc,hocd⟩:=id z
   refine h {s with heap:=h'} ⟨I.ok,I.os,I.bare,⟨fun b o e n hb hx=>?_,fun b o e n hb hx=>?_,I.base.free,fun b o e hx=>?_,I.base.tups,I.base.frzs,I.base.tbls⟩,⟨m,hn.sameBut hs (Ne.symm (cne x c hc)),fun j y v' e1 e2 e3=>?_⟩,fun y c' e=>?_,I.free,I.freeC,fun p hp=>?_,tracked ⟨oc,hoc,I.freeC x c hc⟩ hs,by simpa using I.len⟩ ⟨c,hs,.inr hc⟩
   · exact (hs.2 b (Nat.ne_of_lt (Nat.lt_of_lt_of_le (Heap.lt_size e) (I.ok.cab x c hfn hc)))).trans (I.base.keep b o e n hb hx)
   · obtain⟨sl,e1⟩:=I.base.slot b o e n hb hx
     exact⟨sl,(hs.2 b (Nat.ne_of_lt (Nat.lt_of_lt_of_le (Heap.lt_size e) (I.ok.cab x c hfn hc)))).trans e1⟩
   · obtain⟨o',e1⟩:=I.base.there b o e hx
     exact⟨o',(hs.2 b (Nat.ne_of_lt (Nat.lt_of_lt_of_le (Heap.lt_size e) (I.ok.cab x c hfn hc)))).trans e1⟩
   · by_cases hj:j=i
     · subst hj
       rw[hi] at e1;cases e1
       rw[List.getElem?_set_self hiσ] at e2
       cases e2
       exact⟨u,r,.inr ⟨.inl hk,c,hc,hc'⟩⟩
     · rw[List.getElem?_set_ne (Ne.symm hj)] at e2
       obtain⟨u',r',q⟩:=hl j y v' e1 e2 e3
       refine⟨u',r',?_⟩
       rcases q with q|⟨k,c',e,z'⟩
       · exact .inl q
       · refine .inr ⟨k,c',e,z'.sameBut hs ?_⟩
         rintro rfl
         exact hj (ze8 hN e1 (I.ok.inj _ _ _ e hc▸hi))
   · by_cases hcc:c'=c
     · subst hcc;exact⟨_,hc'⟩
     · obtain⟨w2,z2⟩:=I.cell y c' e
       exact⟨w2,z2.sameBut hs hcc⟩
   · obtain⟨e,n,ne,nf,d⟩:=I.pin p hp
     refine⟨(hs.2 p.1 ?_).trans e,n,ne,nf,d⟩
     intro q
     rw[q,hoc] at e
     have q':oc=p.2:=Option.some.inj e
     exact d w' (by rw[<-q'];exact hocd)
theorem zc9 {M:Model}{A:Around}{E:Value->Shared->Prop}{i:Nat}{x:Str}{v:V}{u:Value}{Q:Unit->Shared->Prop}(I:Inv X pins σ H s)(hN:X.N.Nodup)(hi:X.N[i]?=some x)(hx:Loc X.env.scope x)(r:RelV v u)
  (h:∀s',Inv X pins (σ.set i (some v)) H s'->Q () s') (hf:X.fn x=true\/X.env.scope.names.lookup x=some .local:=by first|exact .inl rfl|exact .inr rfl|assumption):wpAny M A (storeName X.env x u) Q E s:=
 zdy I hN hi hx r (fun s' I' _=>h s' I') hf
theorem Inv.call' {s':Shared}{ch:List Addr}(I:Inv X pins σ H s)(ho:s'.os=s.os)(u:Un (frs X.stack) ch H H' s.heap s'.heap)(hok:HOk X.prog X.w H' s'.heap)(hg:AllBare s'.gens)
  (hch:∀b∈ch,(b∈X.ex\/X.s₀.heap.objs.size<=b)/\b≠X.env.locals/\(∀x c,X.env.cells.lookup x=some c->c≠b)/\∀p∈X.pn++pins,p.1≠b):Inv X pins σ H' s':=by
 obtain⟨h',g',d',t',o'⟩:=s'
 have e:o'=s.os:=ho
 subst e
 exact I.call (g':=g') (t':=t') (d':=d') u hok hg hch
end
noncomputable abbrev XK:=Value->Option Addr->Hp->Prop
noncomputable abbrev St:=List (Option V)
noncomputable abbrev VK:=V->Hp->Prop
noncomputable abbrev TE:=St->Hp->VK->Prop
noncomputable abbrev TT:=St->Hp->(Bool->Hp->Prop)->Prop
noncomputable abbrev TA:=St->Hp->(List V->Hp->Prop)->Prop
structure Ends where
 nx:St->Hp->Prop
 rt:VK
 bk:St->Hp->Prop:=fun _ _=>False
 ct:St->Hp->Prop:=fun _ _=>False
noncomputable abbrev TS:=Ends->St->Hp->Prop
noncomputable def EP (X:Cx)(pins:List (Addr × Obj))(σ:St)(Q:VK)(u:Value)(s':Shared):Prop:=∃v H',Inv X pins σ H' s'/\RelV v u/\Q v H'
noncomputable def TP (X:Cx)(pins:List (Addr × Obj))(σ:St)(Q:Bool->Hp->Prop)(b:Bool)(s':Shared):Prop:=∃H',Inv X pins σ H' s'/\Q b H'
noncomputable def AP (X:Cx)(pins:List (Addr × Obj))(σ:St)(Q:List V->Hp->Prop)(us:List Value)(s':Shared):Prop:=∃vs H',Inv X pins σ H' s'/\Vals vs us/\Q vs H'
noncomputable def SP (X:Cx)(pins:List (Addr × Obj))(D:Ends)(f:Flow)(s':Shared):Prop:=
 match f with
 |.next=>∃σ' H',Inv X pins σ' H' s'/\D.nx σ' H'
 |.brk=>∃σ' H',Inv X pins σ' H' s'/\D.bk σ' H'
 |.cont=>∃σ' H',Inv X pins σ' H' s'/\D.ct σ' H'
 |.ret u=>∃v σ' H',Inv X pins σ' H' s'/\RelV v u/\D.rt v H'
noncomputable def PE (X:Cx)(e:Expr)(t:TE):Prop:=
 ∀(pins:List (Addr × Obj)) (s:Shared) (σ:St) (H:Hp) (Q:VK),Inv X pins σ H s->t σ H Q->wpAny (model X.prog X.w) X.A (eval e X.env) (EP X pins σ Q) X.xe s
noncomputable def PT (X:Cx)(e:Expr)(t:TT):Prop:=
 ∀(pins:List (Addr × Obj)) (s:Shared) (σ:St) (H:Hp) (Q:Bool->Hp->Prop),Inv X pins σ H s->t σ H Q->wpAny (model X.prog X.w) X.A (isTrue e X.env (eval e X.env)) (TP X pins σ Q) X.xe s
noncomputable def PW (X:Cx)(e:Expr)(t:TT):Prop:=
 ∀(whole:Sem Value) (pins:List (Addr × Obj)) (s:Shared) (σ:St) (H:Hp) (Q:Bool->Hp->Prop),Inv X pins σ H s->t σ H Q->wpAny (model X.prog X.w) X.A (isTrue e X.env whole) (TP X pins σ Q) X.xe s
theorem PW.pt {X:Cx}{e:Expr}{t:TT}(h:PW X e t):PT X e t:=h _
noncomputable def PA (X:Cx)(es:List Expr)(t:TA):Prop:=
 ∀(pos:Pos) (pins:List (Addr × Obj)) (s:Shared) (σ:St) (H:Hp) (Q:List V->Hp->Prop),Inv X pins σ H s->t σ H Q->wpAny (model X.prog X.w) X.A (spliced (backTo pos (starEach es X.env))) (AP X pins σ Q) X.xe s
noncomputable def PS (X:Cx)(st:Stmt)(t:TS):Prop:=
 ∀(pins:List (Addr × Obj)) (s:Shared) (σ:St) (H:Hp) (D:Ends),Inv X pins σ H s->t D σ H->wpAny (model X.prog X.w) X.A (exec st X.env) (SP X pins D) X.xe s
noncomputable def PSs (X:Cx)(st:List Stmt)(t:TS):Prop:=
 ∀(pins:List (Addr × Obj)) (s:Shared) (σ:St) (H:Hp) (D:Ends),Inv X pins σ H s->t D σ H->wpAny (model X.prog X.w) X.A (execs st X.env) (SP X pins D) X.xe s
theorem thn {α:Type}{t:Sem α}{Q Q':α->Shared->Prop}{M:Model}{A:Around}{E:Value->Shared->Prop}{s:Shared}(h:wpAny M A t Q E s)(hQ:∀a s,Q a s->Q' a s):wpAny M A t Q' E s:=wpAny_mono h hQ fun _ _ x=>x
end L2
namespace L2
open PySem PySem.Spec PyProof.Rows
section
variable {X:Cx}
theorem bin {a b:Expr}{ta tb:TE}(ha:PE X a ta)(hb:PE X b tb){pins:List (Addr × Obj)}{s:Shared}{σ:St}{H:Hp}{R:V->V->Hp->Prop}(I:Inv X pins σ H s)(h:ta σ H fun x H1=>tb σ H1 fun y H2=>R x y H2)
  {α:Type} {Q:α->Shared->Prop} {f:Value->Value->Sem α}
  (hf:∀v u s2 x y H2,Inv X pins σ H2 s2->RelV x v->RelV y u->R x y H2->wpAny (model X.prog X.w) X.A (f v u) Q X.xe s2) :
  wpAny (model X.prog X.w) X.A (eval a X.env) (fun v s₁=>wpAny (model X.prog X.w) X.A (eval b X.env) (fun u s₂=>wpAny (model X.prog X.w) X.A (f v u) Q X.xe s₂) X.xe s₁) X.xe s:=by
 refine thn (ha pins s σ H _ I h) fun v s1 ⟨x,H1,I1,r1,q1⟩=>?_
 refine thn (hb pins s1 σ H1 _ I1 q1) fun u s2 ⟨y,H2,I2,r2,q2⟩=>?_
 exact hf v u s2 x y H2 I2 r1 r2 q2
noncomputable def tVar (i:Nat):TE:=fun σ H Q=>∃v,σ[i]?=some (some v)/\Q v H
noncomputable def tC (v:V):TE:=fun _ H Q=>Q v H
theorem zdP {i:Nat}{x:Str}{pos:Pos}(hN:X.N[i]?=some x)(hv:Vis X.env.scope x)(hd:(x == ("__debug__":Str))=false:=by decide)(hcd:(x == ("__classdict__":Str))=false:=by decide):PE X (.Name x pos) (tVar i):=by
 intro pins s σ H Q I h
 obtain⟨v,e,h⟩:=h
 obtain⟨m,hn,hl⟩:=I.loc
 obtain⟨u,r,l⟩:=hl i x v hN e hv
 have fin:EP X pins σ Q u s:=⟨v,H,I,r,h⟩
 rcases l with ⟨hk,hm⟩|⟨hk,c,hc,hcell⟩
 · exact wpAny_Name (wpAny_loadName_local I.ok.kind hk hn hm fin) hd
 · rcases hk with hk|hk
   · exact wpAny_Name (wpAny_loadName_cell I.ok.kind hk hc hcell fin) hd
   · exact wpAny_Name (wpAny_loadName_free I.ok.kind hk hc hcell fin hcd) hd
theorem zlV {i j pos}:PE X (.Constant (.int i) j pos) (tC (.int i)):=fun _ _ _ H _ I h=>wpAny_Constant_int ⟨.int i,H,I.tok _,⟨_,rfl⟩,h⟩
theorem znw {b j pos}:PE X (.Constant (.bool b) j pos) (tC (.bl b)):=fun _ _ _ H _ I h=>Constant_bool ⟨.bl b,H,I,rfl,h⟩
theorem zlT {j pos}:PE X (.Constant .none j pos) (tC .non):=fun _ _ _ H _ I h=>Constant_none ⟨.non,H,I,rfl,h⟩
theorem ziY {x j pos}:PE X (.Constant (.str x) j pos) (tC (.str x)):=fun _ _ _ H _ I h=>Calls.Constant_str ⟨.str x,H,I.tok _,⟨_,rfl⟩,h⟩
noncomputable def Gl (X:Cx)(x:Str):Prop:=X.env.kindOf x=some .globalImplicit
theorem zbD {E:Value->Shared->Prop}{pins:List (Addr × Obj)}{s:Shared}{σ:St}{H:Hp}{x:Str}{u:Value}{pos:Pos}{Q:Value->Shared->Prop}(I:Inv X pins σ H s)(hg:Gl X x)(hm:X.mg x=some u)(h:Q u s)
  (hd:(x == ("__debug__":Str))=false:=by decide):wpAny (model X.prog X.w) X.A (eval (.Name x pos) X.env) Q E s:=
 Calls.Name_function_global I.ok.kind hg (Calls.loadGlobal_global (by rw[I.ok.glob];exact I.mod.glob.keeps I.bk) hm h) hd
theorem zdV {E:Value->Shared->Prop}{pins:List (Addr × Obj)}{s:Shared}{σ:St}{H:Hp}{x:Str}{u:Value}{pos:Pos}{Q:Value->Shared->Prop}(I:Inv X pins σ H s)(hg:Gl X x)(hm:X.mg x=none)(hv:bootBuiltins x=some u)(h:Q u s)
  (hn:x≠"__name__":=by decide) (hd:(x == ("__debug__":Str))=false:=by decide):wpAny (model X.prog X.w) X.A (eval (.Name x pos) X.env) Q E s:=by
 obtain⟨mb,h1,h2⟩:=I.mod.blt
 exact Calls.Name_function_global I.ok.kind hg (Calls.loadGlobal_builtin (by rw[I.ok.glob];exact I.mod.glob.keeps I.bk) hm (by rw[I.ok.blt];exact h1.keeps I.bk) ((h2 x hn).trans hv) h) hd
theorem zex {x:Str}{v:V}{u:Value}{pos:Pos}(hg:Gl X x)(hm:X.mg x=some u)(r:RelV v u)(hd:(x == ("__debug__":Str))=false:=by decide):PE X (.Name x pos) (tC v):=
 fun _ _ _ H _ I h=>zbD I hg hm ⟨v,H,I,r,h⟩ hd
theorem zgy {x:Str}{v:V}{u:Value}{pos:Pos}(hg:Gl X x)(hm:X.mg x=none)(hv:bootBuiltins x=some u)(r:RelV v u)(hn:x≠"__name__":=by decide)(hd:(x == ("__debug__":Str))=false:=by decide):PE X (.Name x pos) (tC v):=
 fun _ _ _ H _ I h=>zdV I hg hm hv ⟨v,H,I,r,h⟩ hn hd
variable {a b:Expr} {ta tb:TE} {pos:Pos}
theorem RelV.none_iff {x:V}{v:Value}(r:RelV x v):(v == Value.none)=decide (x=.non):=by
 cases x with
 |non=>cases r;rfl
 |bl _=>cases r;rfl
 |int _=>obtain⟨t,rfl⟩:=r;rfl
 |str _=>obtain⟨t,rfl⟩:=r;rfl
 |byt _=>obtain⟨t,rfl⟩:=r;rfl
 |flt _=>obtain⟨t,rfl⟩:=r;rfl
 |ref _=>cases r;rfl
 |ty _=>cases r;rfl
variable {tA tB':TT} {rest:List Expr}
noncomputable def tAnd (t u:TT):TT:=fun σ H Q=>t σ H fun c H1=>if c=true then u σ H1 Q else Q false H1
noncomputable def tOr (t u:TT):TT:=fun σ H Q=>t σ H fun c H1=>if c=true then Q true H1 else u σ H1 Q
noncomputable def tNot (t:TT):TT:=fun σ H Q=>t σ H fun c H1=>Q (!c) H1
theorem zjP (ha:PT X a tA):PW X (.BoolOp .And [a] pos) tA:=by
 intro wh pins s σ H Q I h
 refine isTrue_and (thn (ha pins s σ H Q I h) fun c s1 e=>?_)
 cases c with
 |true=>exact isTrue_and_nil e
 |false=>exact e
theorem zlG (ha:PT X a tA):PW X (.BoolOp .Or [a] pos) tA:=by
 intro wh pins s σ H Q I h
 refine isTrue_or (thn (ha pins s σ H Q I h) fun c s1 e=>?_)
 cases c with
 |false=>exact isTrue_or_nil e
 |true=>exact e
theorem zlH (ha:PT X a tA)(hb:PW X (.BoolOp .And (b::rest) pos) tB'):PW X (.BoolOp .And (a::b::rest) pos) (tAnd tA tB'):=by
 intro wh pins s σ H Q I h
 refine isTrue_and (thn (ha pins s σ H _ I h) fun c s1 ⟨H1,I1,q1⟩=>?_)
 cases c with
 |true=>exact hb wh pins s1 σ H1 Q I1 q1
 |false=>exact⟨H1,I1,q1⟩
theorem znr (ha:PT X a tA)(hb:PW X (.BoolOp .Or (b::rest) pos) tB'):PW X (.BoolOp .Or (a::b::rest) pos) (tOr tA tB'):=by
 intro wh pins s σ H Q I h
 refine isTrue_or (thn (ha pins s σ H _ I h) fun c s1 ⟨H1,I1,q1⟩=>?_)
 cases c with
 |true=>exact⟨H1,I1,q1⟩
 |false=>exact hb wh pins s1 σ H1 Q I1 q1
theorem zlI (ha:PT X a tA):PT X (.UnaryOp .Not a pos) (tNot tA):=by
 intro pins s σ H Q I h
 exact isTrue_not (ha pins s σ H (fun c H1=>Q (!c) H1) I h)
noncomputable def zng (ta tb:TE):TE:=fun σ H Q=>ta σ H fun x H1=>∃c,x=.bl c/\if c=true then tb σ H1 Q else Q (.bl false) H1
noncomputable def tOrV (ta tb:TE):TE:=fun σ H Q=>ta σ H fun x H1=>∃c,x=.bl c/\if c=true then Q (.bl true) H1 else tb σ H1 Q
noncomputable def znd (ta:TE):TE:=fun σ H Q=>ta σ H fun x H1=>∃c,x=.bl c/\Q (.bl (!c)) H1
theorem ziZ {op}{t:TE}(h:PE X a t):PE X (.BoolOp op [a] pos) t:=fun pins s σ H Q I hw=>BoolOp_one (h pins s σ H Q I hw)
theorem zlY (ha:PE X a ta)(hb:PE X (.BoolOp .And (b::rest) pos) tb):PE X (.BoolOp .And (a::b::rest) pos) (zng ta tb):=by
 intro pins s σ H Q I h
 refine BoolOp_and (thn (ha pins s σ H _ I h) fun v s1 ⟨x,H1,I1,r1,q1⟩=>?_)
 obtain⟨c,rfl,q1⟩:=q1
 cases r1
 refine wpAny_truthy_bool ?_
 cases c with
 |true=>exact hb pins s1 σ H1 Q I1 q1
 |false=>exact⟨.bl false,H1,I1,rfl,q1⟩
theorem znt (ha:PE X a ta)(hb:PE X (.BoolOp .Or (b::rest) pos) tb):PE X (.BoolOp .Or (a::b::rest) pos) (tOrV ta tb):=by
 intro pins s σ H Q I h
 refine BoolOp_or (thn (ha pins s σ H _ I h) fun v s1 ⟨x,H1,I1,r1,q1⟩=>?_)
 obtain⟨c,rfl,q1⟩:=q1
 cases r1
 refine wpAny_truthy_bool ?_
 cases c with
 |false=>exact hb pins s1 σ H1 Q I1 q1
 |true=>exact⟨.bl true,H1,I1,rfl,q1⟩
theorem zlS (ha:PE X a ta):PE X (.UnaryOp .Not a pos) (znd ta):=by
 intro pins s σ H Q I h
 refine UnaryOp_ (thn (ha pins s σ H _ I h) fun v s1 ⟨x,H1,I1,r1,q1⟩=>?_)
 obtain⟨c,rfl,q1⟩:=q1
 cases r1
 exact not_of (wpAny_truthy_bool ⟨.bl (!c),H1,I1,rfl,q1⟩)
noncomputable def tIf (t:TT)(ta tb:TE):TE:=fun σ H Q=>t σ H fun c H1=>if c=true then ta σ H1 Q else tb σ H1 Q
theorem zh4 {c:Expr}(hc:PT X c tA)(ha:PE X a ta)(hb:PE X b tb):PE X (.IfExp c a b pos) (tIf tA ta tb):=by
 intro pins s σ H Q I h
 refine wpAny_IfExp (thn (hc pins s σ H _ I h) fun d s1 ⟨H1,I1,q1⟩=>?_)
 cases d with
 |true=>exact ha pins s1 σ H1 Q I1 q1
 |false=>exact hb pins s1 σ H1 Q I1 q1
end
end L2
namespace L2
open PySem PySem.Spec PyProof.Rows
noncomputable def SqL (K:PySem.W.Frag)(H:Hp)(a:Addr)(xs:List V):Prop:=
 Rd H a (.lst xs)\/
  ∃(o:Obj) (its:Array Value) (n:Nat),K.lookup a=some o/\o.cls=.type "list"/\o.dict=none/\o.data=.seq its n/\its.size<=sizeLine/\Vals xs its.toList
noncomputable def SqT (K:PySem.W.Frag)(H:Hp)(a:Addr)(xs:List V):Prop:=
 Rd H a (.tup xs)\/
  ∃(o:Obj) (its:Array Value) (n:Nat),K.lookup a=some o/\o.cls=.type "tuple"/\o.data=.seq its n/\its.size<=sizeLine/\Vals xs its.toList
noncomputable def absV:Value->Option V
 |.none=>some .non
 |.bool b=>some (.bl b)
 |.int i _=>some (.int i)
 |.str x _=>some (.str x)
 |.bytes b _=>some (.byt b)
 |.float b _=>some (.flt b)
 |.ref a=>some (.ref a)
 |.type n=>some (.ty n)
 |_=>none
theorem RelV.abs {x:V}{u:Value}(r:RelV x u):absV u=some x:=by
 cases x with
 |non=>cases r;rfl
 |bl _=>cases r;rfl
 |int _=>obtain⟨t,rfl⟩:=r;rfl
 |str _=>obtain⟨t,rfl⟩:=r;rfl
 |byt _=>obtain⟨t,rfl⟩:=r;rfl
 |flt _=>obtain⟨t,rfl⟩:=r;rfl
 |ref _=>cases r;rfl
 |ty _=>cases r;rfl
theorem RelV.inj {x y:V}{u:Value}(r:RelV x u)(q:RelV y u):x=y:=Option.some.inj (r.abs.symm.trans q.abs)
theorem Vals.inj:∀{xs ys:List V} {us:List Value},Vals xs us->Vals ys us->xs=ys
 |_,_,_,.nil,.nil=>rfl
 |_,_,_,.cons r t,.cons r' t'=>by rw[r.inj r',Vals.inj t t']
section
variable {X:Cx} {pins:List (Addr × Obj)} {σ:St} {H:Hp} {s:Shared} {a:Addr} {xs ys:List V}
theorem SqL.of {K:PySem.W.Frag}(h:H a=some (.lst xs)):SqL K H a xs:=.inl (.inl h)
theorem SqT.of {K:PySem.W.Frag}(h:H a=some (.tup xs)):SqT K H a xs:=.inl (.inl h)
theorem Inv.list (I:Inv X pins σ H s)(h:SqL X.K H a xs):∃its:List Value,Vals xs its/\PlainL s.heap a its.toArray/\xs.length<=sizeLine:=by
 rcases h with h|⟨o,its,n,hk,hc,hd,hs,hz,r⟩
 · obtain⟨z,its,n,r,e⟩:=h.ok I.hok
   exact⟨its,r,⟨_,n,e,rfl,rfl,rfl⟩,z⟩
 · refine⟨its.toList,r,⟨o,n,I.kIn a o hk,hc,hd,by simpa using hs⟩,?_⟩
   have e:=r.length
   simp only[Array.length_toList] at e
   omega
theorem Inv.tuple (I:Inv X pins σ H s)(h:SqT X.K H a xs):∃its:List Value,Vals xs its/\IsTup s.heap a its.toArray/\xs.length<=sizeLine:=by
 rcases h with h|⟨o,its,n,hk,hc,hs,hz,r⟩
 · obtain⟨z,its,r,p⟩:=h.ok I.hok
   exact⟨its,r,p,z⟩
 · refine⟨its.toList,r,⟨o,I.kIn a o hk,hc,n,by simpa using hs⟩,?_⟩
   have e:=r.length
   simp only[Array.length_toList] at e
   omega
theorem Inv.list_inj (I:Inv X pins σ H s)(h:SqL X.K H a xs)(h':SqL X.K H a ys):xs=ys:=by
 obtain⟨its,r,⟨o,n,e,_,_,d⟩,_⟩:=I.list h
 obtain⟨its',r',⟨o',n',e',_,_,d'⟩,_⟩:=I.list h'
 rw[e] at e';cases e'
 rw[d] at d'
 injection d' with d1 _
 have:its=its':=by simpa using congrArg Array.toList d1
 subst this
 exact r.inj r'
theorem Inv.tuple_inj (I:Inv X pins σ H s)(h:SqT X.K H a xs)(h':SqT X.K H a ys):xs=ys:=by
 obtain⟨its,r,⟨o,e,_,n,d⟩,_⟩:=I.tuple h
 obtain⟨its',r',⟨o',e',_,n',d'⟩,_⟩:=I.tuple h'
 rw[e] at e';cases e'
 rw[d] at d'
 injection d' with d1 _
 have:its=its':=by simpa using congrArg Array.toList d1
 subst this
 exact r.inj r'
end
noncomputable abbrev Cx.wish (X:Cx)(E:Value->Shared->Prop):Cx:={X with xe:=E}
noncomputable abbrev Cx.nox (X:Cx):Cx:=X.wish fun _ _=>False
theorem Cx.Ok.wish {X:Cx}(ok:X.Ok)(E:Value->Shared->Prop):(X.wish E).Ok:=
 ⟨ok.mod,ok.kind,ok.glob,ok.blt,ok.above,ok.inj,ok.has,ok.cab,ok.hd,ok.frames,ok.stk,ok.exf,ok.bs,ok.bsz,ok.noex,ok.exfs,ok.funs,ok.frf⟩
theorem Cx.Ok.unwish {X:Cx}{E:Value->Shared->Prop}(ok:(X.wish E).Ok):X.Ok:=
 ⟨ok.mod,ok.kind,ok.glob,ok.blt,ok.above,ok.inj,ok.has,ok.cab,ok.hd,ok.frames,ok.stk,ok.exf,ok.bs,ok.bsz,ok.noex,ok.exfs,ok.funs,ok.frf⟩
section
variable {X:Cx} {pins:List (Addr × Obj)} {σ:St} {H:Hp} {s:Shared} {E:Value->Shared->Prop}
theorem Inv.wish (I:Inv X pins σ H s)(E:Value->Shared->Prop):Inv (X.wish E) pins σ H s:=⟨I.ok.wish E,I.os,I.bare,I.base,I.loc,I.cell,I.free,I.freeC,I.pin,I.hok,I.len⟩
theorem Inv.unwish (I:Inv (X.wish E) pins σ H s):Inv X pins σ H s:=⟨I.ok.unwish,I.os,I.bare,I.base,I.loc,I.cell,I.free,I.freeC,I.pin,I.hok,I.len⟩
theorem SP.unwish {D:Ends}{f:Flow}{s':Shared}(h:SP (X.wish E) pins D f s'):SP X pins D f s':=by
 cases f with
 |next=>obtain⟨σ',H',I,q⟩:=h;exact⟨σ',H',I.unwish,q⟩
 |brk=>obtain⟨σ',H',I,q⟩:=h;exact⟨σ',H',I.unwish,q⟩
 |cont=>obtain⟨σ',H',I,q⟩:=h;exact⟨σ',H',I.unwish,q⟩
 |ret u=>obtain⟨v,σ',H',I,r,q⟩:=h;exact⟨v,σ',H',I.unwish,r,q⟩
theorem PSs.nox {st:List Stmt}{t:TS}(h:PSs X.nox st t):PSs X st t:=fun pins s σ H D I hw=>
 wpAny_mono (h pins s σ H D (I.wish _) hw) (fun _ _ q=>q.unwish) fun _ _ z=>False.elim z
end
section
variable {X:Cx} {st:Stmt} {rest:List Stmt} {t u:TS} {e:Expr} {te:TE} {pos:Pos}
noncomputable def zne:TS:=fun D σ H=>D.nx σ H
noncomputable def tSeq (t u:TS):TS:=fun D σ H=>t {D with nx:=u D} σ H
theorem zbW:PSs X [] zne:=fun _ _ σ H _ I h=>wpAny_execs_nil ⟨σ,H,I,h⟩
theorem zas (h1:PS X st t)(h2:PSs X rest u):PSs X (st::rest) (tSeq t u):=by
 intro pins s σ H D I h
 refine wpAny_execs_cons (thn (h1 pins s σ H {D with nx:=u D} I h) fun f s1 q=>?_)
 cases f with
 | next =>
   obtain⟨σ',H',I',q⟩:=q
   exact h2 pins s1 σ' H' D I' q
 |ret v=>exact q
 |brk=>exact q
 |cont=>exact q
theorem Inv.quiet {pins:List (Addr × Obj)}{σ:St}{H:Hp}{s:Shared}(I:Inv X pins σ H s):interactive X.env=false:=by simp[interactive,I.ok.kind]
noncomputable def znf (te:TE):TS:=fun D σ H=>te σ H fun _ H1=>D.nx σ H1
theorem zew (he:PE X e te)(hs:swapsWith e none pos.line X.env=pure false:=by rfl):PS X (.Expr e pos) (znf te):=by
 intro pins s σ H D I h
 exact wpAny_Expr_any (thn (he pins s σ H _ I h) fun v s1 ⟨x,H1,I1,r1,q1⟩=>⟨σ,H1,I1,q1⟩) I.quiet hs
noncomputable def tRet (te:TE):TS:=fun D σ H=>te σ H D.rt
theorem zlJ (he:PE X e te):PS X (.Return (some e) pos) (tRet te):=by
 intro pins s σ H D I h
 exact wpAny_Return_some (thn (he pins s σ H _ I h) fun v s1 ⟨x,H1,I1,r1,q1⟩=>⟨x,σ,H1,I1,r1,q1⟩)
noncomputable def tIfS (c:TT)(t u:TS):TS:=fun D σ H=>c σ H fun b H1=>if b=true then t D σ H1 else u D σ H1
theorem zlK {c:Expr}{a b:List Stmt}{tc:TT}(hc:PT X c tc)(ha:PSs X a t)(hb:PSs X b u):PS X (.If c a b pos) (tIfS tc t u):=by
 intro pins s σ H D I h
 refine wpAny_If (thn (hc pins s σ H _ I h) fun d s1 ⟨H1,I1,q1⟩=>?_)
 cases d with
 |true=>exact ha pins s1 σ H1 D I1 q1
 |false=>exact hb pins s1 σ H1 D I1 q1
end
noncomputable abbrev TG:=V->St->Hp->(St->Hp->Prop)->Prop
noncomputable abbrev TGs:=List V->St->Hp->(St->Hp->Prop)->Prop
noncomputable def PG (X:Cx)(target:Expr)(t:TG):Prop:=
 ∀(pins:List (Addr × Obj)) (s:Shared) (σ:St) (H:Hp) (v:V) (u:Value) (Q:St->Hp->Prop),Inv X pins σ H s->RelV v u->t v σ H Q->
  wpAny (model X.prog X.w) X.A (assign target X.env u) (fun _ s'=>∃σ' H',Inv X pins σ' H' s'/\Q σ' H') X.xe s
noncomputable def PGs (X:Cx)(ts:List Expr)(t:TGs):Prop:=
 ∀(pins:List (Addr × Obj)) (s:Shared) (σ:St) (H:Hp) (vs:List V) (us:List Value) (Q:St->Hp->Prop),Inv X pins σ H s->Vals vs us->t vs σ H Q->
  wpAny (model X.prog X.w) X.A (assignInOrder ((assignEach ts X.env).map (·.2)) us) (fun _ s'=>∃σ' H',Inv X pins σ' H' s'/\Q σ' H') X.xe s
noncomputable abbrev TSet:=V->V->V->Hp->(Hp->Prop)->Prop
noncomputable def PSet (X:Cx)(t:TSet):Prop:=
 ∀(pins:List (Addr × Obj)) (s:Shared) (σ:St) (H:Hp) (o i v:V) (ov iv u:Value) (Q:Hp->Prop),Inv X pins σ H s->RelV o ov->RelV i iv->RelV v u->t o i v H Q->
  wpAny (model X.prog X.w) X.A (setItem ov iv u) (fun _ s'=>∃H',Inv X pins σ H' s'/\Q H') X.xe s
section
variable {X:Cx} {pos:Pos}
noncomputable def zg7 (i:Nat):TG:=fun v σ H Q=>Q (σ.set i (some v)) H
theorem zgx {i:Nat}{x:Str}(hN:X.N.Nodup)(hi:X.N[i]?=some x)(hx:Loc X.env.scope x)(hf:X.fn x=true\/X.env.scope.names.lookup x=some .local:=by first|exact .inl rfl|exact .inr rfl|assumption):PG X (.Name x pos) (zg7 i):=by
 intro pins s σ H v u Q I r h
 exact wpAny_assign_Name (zc9 I hN hi hx r (fun s' I'=>⟨_,H,I',h⟩) hf)
noncomputable def gNil:TGs:=fun vs σ H Q=>vs=[]/\Q σ H
noncomputable def znU (t:TG)(u:TGs):TGs:=fun vs σ H Q=>∃v r,vs=v::r/\t v σ H fun σ' H'=>u r σ' H' Q
theorem zjY:PGs X [] gNil:=by
 intro pins s σ H vs us Q I r h
 obtain⟨e,h⟩:=h
 subst e
 cases r
 exact assignInOrder_nil ⟨σ,H,I,h⟩
theorem zh0 {e:Expr}{es:List Expr}{t:TG}{u:TGs}(h1:PG X e t)(h2:PGs X es u)
  (hs:(assignEach (e::es) X.env).map (·.2)=assign e X.env::(assignEach es X.env).map (·.2):=by rfl):PGs X (e::es) (znU t u):=by
 intro pins s σ H vs us Q I r h
 obtain⟨v,vr,e1,h⟩:=h
 subst e1
 cases r with
 | cons r rr =>
   rw[hs]
   refine assignInOrder_cons (thn (h1 pins s σ H _ _ _ I r h) fun _ s1 ⟨σ1,H1,I1,q1⟩=>?_)
   exact h2 pins s1 σ1 H1 _ _ Q I1 rr q1
noncomputable def gTup (K:PySem.W.Frag)(n:Nat)(t:TGs):TG:=fun v σ H Q=>∃a xs,v=.ref a/\SqT K H a xs/\xs.length=n/\t xs σ H Q
theorem zlP {es:List Expr}{k:Nat}{t:TGs}{n:Nat}(hc:X.calm=true)(h:PGs X es t)
  (hn:(assignEach es X.env).length=n:=by rfl) (hst:(assignEach es X.env).findIdx? (·.1)=none:=by rfl):PG X (.Tuple es k pos) (gTup X.K n t):=by
 intro pins s σ H v u Q I r hw
 obtain⟨a,xs,e1,hq,hl,hw⟩:=hw
 subst e1
 cases r
 obtain⟨its,rv,ht,hz⟩:=I.tuple hq
 refine assign_Tuple_tuple (I.ok.hd hc) ht (by simp[hn,<-hl,rv.length]) hst fun h' hx=>?_
 have I1:Inv X pins σ H {s with heap:=h'}:=I.kept (t':=s.toks) fun b o e=>hx b o (Nat.ne_of_lt (Heap.lt_size e)) e
 exact h pins _ σ H xs _ Q I1 (by simpa using rv) hw
noncomputable def tAsg (te:TE)(g:TG):TS:=fun D σ H=>te σ H fun x H1=>g x σ H1 D.nx
theorem zlM {tg e:Expr}{te:TE}{g:TG}(he:PE X e te)(hg:PG X tg g)(hs:swapsWithSole [tg] e pos.line X.env=pure false:=by rfl)(hw:swappedStores [tg] e X.env=pure none:=by rfl)
  (h1:(assignEach [tg] X.env).map (·.2)=[assign tg X.env]:=by rfl):PS X (.Assign [tg] e pos) (tAsg te g):=by
 intro pins s σ H D I h
 refine wpAny_Assign_stores (thn (he pins s σ H _ I h) fun v s1 ⟨x,H1,I1,r1,q1⟩=>?_) hs hw
 rw[h1]
 exact thn (hg pins s1 σ H1 x v _ I1 r1 q1) fun _ s2 q=>q
theorem ze4 {i:Nat}{x:Str}{e:Expr}{te:TE}{pos':Pos}(hN:X.N.Nodup)(hi:X.N[i]?=some x)(hx:Loc X.env.scope x)(he:PE X e te)(hs:swapsWith e (some (.Name x pos')) pos.line X.env=pure false:=by rfl)(hf:X.fn x=true\/X.env.scope.names.lookup x=some .local:=by first|exact .inl rfl|exact .inr rfl|assumption) :
  PS X (.Assign [.Name x pos'] e pos) (tAsg te (zg7 i)):=by
 intro pins s σ H D I h
 refine wpAny_Assign_Name (thn (he pins s σ H _ I h) fun v s1 ⟨y,H1,I1,r1,q1⟩=>?_) hs
 exact zc9 I1 hN hi hx r1 (fun s2 I2=>⟨_,H1,I2,q1⟩) hf
end
section
variable {X:Cx} {pos:Pos}
end
structure It where
 go:Nat->Hp->Prop
 yld:Nat->Hp->V->Hp->Prop
 stop:Nat->Hp->Prop
noncomputable def FpOk (X:Cx)(pins:List (Addr × Obj))(H:Hp)(b:Addr):Prop:=
 H b=none/\b≠X.env.locals/\b∉X.fs/\(b∈X.ex\/X.s₀.heap.objs.size<=b)/\(∀x c,X.env.cells.lookup x=some c->c≠b)/\∀p∈X.pn++pins,p.1≠b
theorem Inv.fpOk {X:Cx}{pins:List (Addr × Obj)}{σ:St}{H H':Hp}{s:Shared}{b:Addr}(I:Inv X pins σ H s)(hb:s.heap.objs.size<=b)(hn:H' b=none):FpOk X pins H' b:=by
 refine⟨hn,Nat.ne_of_gt (Nat.lt_of_lt_of_le I.lt hb),I.nofs hb,.inr (Nat.le_trans I.sz hb),fun x c e z=>?_,fun p hp z=>?_⟩
 · obtain⟨v,q⟩:=I.cell x c e
   exact absurd (Nat.lt_of_lt_of_le q.lt (by rw[z];exact hb)) (Nat.lt_irrefl _)
 · exact absurd (Nat.lt_of_lt_of_le (Heap.lt_size (I.pin p hp).1) (by rw[z];exact hb)) (Nat.lt_irrefl _)
structure Turn (P:Program) (w:World) (K:PySem.W.Frag) (tg:Expr) (J:It) (fp:List Addr) (it:Addr) (tn:Nat->Heap->Prop):Prop where
 mem:it∈fp
 obj:∀i h,tn i h->∀b∈fp,∃o,h.get? b=some o/\∀v,o.data≠.cell v
 keep:∀i h h',tn i h->(∀b∈fp,∀o,h.get? b=some o->h'.get? b=some o)->tn i h'
 item:∀(X:Cx),X.prog=P->X.w=w->X.K=K->X.calm=true->∀(i:Nat) (pins:List (Addr × Obj)) (s:Shared) (σ:St) (H:Hp) (E:Value->Shared->Prop),Inv X pins σ H s->(∀b∈fp,FpOk X pins H b)->tn i s.heap->J.go i H->
  wpAny (model P w) X.A (pyNext (.ref it)) (fun r s1=>∃u,r=some u/\
   wpAny (model P w) X.A (letOwnedTupleGo tg (.ref it) u) (fun _ s2=>∃x H',Inv X pins σ H' s2/\RelV x u/\J.yld i H x H'/\tn (i+1) s2.heap/\∀b∈fp,H' b=none) E s1) E s
 done:∀(X:Cx),X.prog=P->X.w=w->X.K=K->X.calm=true->∀(i:Nat) (pins:List (Addr × Obj)) (s:Shared) (σ:St) (H:Hp) (E:Value->Shared->Prop),Inv X pins σ H s->(∀b∈fp,FpOk X pins H b)->tn i s.heap->J.stop i H->
  wpAny (model P w) X.A (pyNext (.ref it)) (fun r s1=>r=none/\Inv X pins σ H s1) E s
 self:∀(A:Around) (i:Nat) (s:Shared) (Q:Value->Shared->Prop) (E:Value->Shared->Prop),tn i s.heap->Q (.ref it) s->wpAny (model P w) A (pyIter (.ref it)) Q E s
noncomputable abbrev TI:=St->Hp->(It->Hp->Prop)->Prop
noncomputable def PIE (X:Cx)(pins:List (Addr × Obj))(σ:St)(tg:Expr)(R:It->Hp->Prop)(itv:Value)(s2:Shared):Prop:=
 ∃(it:Addr) (fp:List Addr) (tn:Nat->Heap->Prop) (J:It) (H':Hp),itv=.ref it/\Inv X pins σ H' s2/\Turn X.prog X.w X.K tg J fp it tn/\tn 0 s2.heap/\(∀b∈fp,FpOk X pins H' b)/\R J H'
noncomputable def PI (X:Cx)(tg iter:Expr)(wi:TI):Prop:=
 ∀(pins:List (Addr × Obj)) (s:Shared) (σ:St) (H:Hp) (R:It->Hp->Prop),Inv X pins σ H s->wi σ H R->
  wpAny (model X.prog X.w) X.A (eval iter X.env) (fun v s1=>wpAny (model X.prog X.w) X.A (pyIter v) (PIE X pins σ tg R) X.xe s1) X.xe s
theorem zkp {M:Model}{A:Around}{E:Value->Shared->Prop}{s:Shared}{tg:Expr}{it:Addr}{u:Value}{o:Obj}{n:String}{vs:Array Value}{Q:Unit->Shared->Prop}(ho:s.heap.get? it=some o)(hc:o.cls=.type n)(hd:o.data=.fields vs)
  (hn:["enumerate","zip","dict_itemiterator","dict_reverseitemiterator","odict_iterator","itertools.zip_longest","itertools.pairwise"].contains n=false) (hQ:Q () s):wpAny M A (letOwnedTupleGo tg (.ref it) u) Q E s:=by
 unfold letOwnedTupleGo
 cases tg<;>first
  |exact wpAny_pure hQ
  |(cases u<;>first
   |exact wpAny_pure hQ
   | (refine wpAny_bind (wpAny_load ho ?_)
      rw[hc,hd]
      show wpAny M A (if (["enumerate","zip","dict_itemiterator","dict_reverseitemiterator","odict_iterator","itertools.zip_longest","itertools.pairwise"].contains n&&vs[0]? == some (rawInt _))=true then _ else _) Q E s
      rw[if_neg (by intro h;rw[hn,Bool.false_and] at h;cases h)]
      exact wpAny_pure hQ))
noncomputable def Itl (K:PySem.W.Frag)(a:Addr):It:=
 ⟨fun i H=>∃xs x,SqL K H a xs/\xs[i]?=some x,fun i H x H'=>H'=H/\∀xs,SqL K H a xs->xs[i]?=some x,fun i H=>∃xs,SqL K H a xs/\xs.length<=i⟩
noncomputable def Itt (K:PySem.W.Frag)(a:Addr):It:=
 ⟨fun i H=>∃xs x,SqT K H a xs/\xs[i]?=some x,fun i H x H'=>H'=H/\∀xs,SqT K H a xs->xs[i]?=some x,fun i H=>∃xs,SqT K H a xs/\xs.length<=i⟩
noncomputable def Itr (lo:Int)(n:Nat):It:=⟨fun i _=>i<n,fun i H x H'=>H'=H/\x=.int (lo+i),fun i _=>n<=i⟩
theorem zgc {P:Program}{w:World}{K:PySem.W.Frag}{tg:Expr}(a it:Addr):Turn P w K tg (Itl K a) [it] it (fun i h=>h.IsListIter it a i) where
 mem:=by simp
 obj:=fun i h st b hb=>by
  have e:b=it:=by simpa using hb
  subst e
  obtain⟨o,e,c,d⟩:=st
  exact⟨o,e,fun v z=>by rw[d] at z;cases z⟩
 keep:=fun i h h' st k=>st.at fun o e=>k it (by simp) o e
 item:=by
  intro X hP hw hK hc i pins s σ H E I hf st hg
  subst hP hw hK
  obtain⟨xs,x,hq,hx⟩:=hg
  obtain⟨its,rv,p,hz⟩:=I.list hq
  obtain⟨u,hu,ru⟩:=rv.get hx
  obtain⟨f0,f1,f2,f3,f4,f5⟩:=hf it (by simp)
  refine wpAny_pyNext_list_item st p.isList (x:=u) (by simpa using hu) fun h' st' sb=>?_
  have I1:Inv X pins σ H {s with heap:=h'}:=I.turned (t':=s.toks) (fun b o hb e=>(sb.2 b hb).trans e) f0 f1 f3 f4 f5
  obtain⟨o,e,c,d⟩:=id st'
  exact⟨u,rfl,zkp (s:={s with heap:=h'}) e c d (by decide) ⟨x,H,I1,ru,⟨rfl,fun ys hy=>by rw[I.list_inj hy hq];exact hx⟩,st',fun b hb=>(hf b hb).1⟩⟩
 done:=by
  intro X hP hw hK hc i pins s σ H E I hf st hg
  subst hP hw hK
  obtain⟨xs,hq,hx⟩:=hg
  obtain⟨its,rv,p,hz⟩:=I.list hq
  obtain⟨f0,f1,f2,f3,f4,f5⟩:=hf it (by simp)
  have hl:=rv.length
  exact wpAny_pyNext_list_end (I.ok.hd hc) st p.isList (by simp;omega) fun h' eb=>⟨rfl,I.turned (t':=s.toks) (fun b o hb e=>eb b o hb e) f0 f1 f3 f4 f5⟩
 self:=fun _ _ _ _ _ st h=>wpAny_pyIter_listiter st h
theorem zfy {P:Program}{w:World}{K:PySem.W.Frag}{tg:Expr}(a it:Addr):Turn P w K tg (Itt K a) [it] it (fun i h=>h.IsTupleIter it a i) where
 mem:=by simp
 obj:=fun i h st b hb=>by
  have e:b=it:=by simpa using hb
  subst e
  obtain⟨o,e,c,d⟩:=st
  exact⟨o,e,fun v z=>by rw[d] at z;cases z⟩
 keep:=fun i h h' st k=>st.at fun o e=>k it (by simp) o e
 item:=by
  intro X hP hw hK hc i pins s σ H E I hf st hg
  subst hP hw hK
  obtain⟨xs,x,hq,hx⟩:=hg
  obtain⟨its,rv,p,hz⟩:=I.tuple hq
  obtain⟨u,hu,ru⟩:=rv.get hx
  obtain⟨f0,f1,f2,f3,f4,f5⟩:=hf it (by simp)
  refine wpAny_pyNext_tuple_item st (show s.heap.IsTuple a its.toArray from p) (x:=u) (by simpa using hu) fun h' st' sb=>?_
  have I1:Inv X pins σ H {s with heap:=h'}:=I.turned (t':=s.toks) (fun b o hb e=>(sb.2 b hb).trans e) f0 f1 f3 f4 f5
  obtain⟨o,e,c,d⟩:=id st'
  exact⟨u,rfl,zkp (s:={s with heap:=h'}) e c d (by decide) ⟨x,H,I1,ru,⟨rfl,fun ys hy=>by rw[I.tuple_inj hy hq];exact hx⟩,st',fun b hb=>(hf b hb).1⟩⟩
 done:=by
  intro X hP hw hK hc i pins s σ H E I hf st hg
  subst hP hw hK
  obtain⟨xs,hq,hx⟩:=hg
  obtain⟨its,rv,p,hz⟩:=I.tuple hq
  obtain⟨f0,f1,f2,f3,f4,f5⟩:=hf it (by simp)
  have hl:=rv.length
  exact wpAny_pyNext_tuple_end (I.ok.hd hc) st (show s.heap.IsTuple a its.toArray from p) (by simp;omega) fun h' eb=>⟨rfl,I.turned (t':=s.toks) (fun b o hb e=>eb b o hb e) f0 f1 f3 f4 f5⟩
 self:=fun _ _ _ _ _ st h=>wpAny_pyIter_tupleiter st h
theorem zfz {P:Program}{w:World}{K:PySem.W.Frag}{tg:Expr}(it:Addr)(lo:Int)(n:Nat):Turn P w K tg (Itr lo n) [it] it (fun i h=>IsRangeIter h it (lo+(i:Nat) * 1) ((n:Int) - (i:Nat)) 1) where
 mem:=by simp
 obj:=fun i h st b hb=>by
  have e:b=it:=by simpa using hb
  subst e
  exact⟨_,st,fun v z=>by
   have z':Data.fields _=Data.cell v:=z
   cases z'⟩
 keep:=fun i h h' st k=>k it (by simp) _ st
 item:=by
  intro X hP hw hK hc i pins s σ H E I hf st hg
  subst hP hw hK
  obtain⟨f0,f1,f2,f3,f4,f5⟩:=hf it (by simp)
  have W:=Walks.range (prog:=X.prog) (w:=X.w) (I.ok.hd hc) it lo 1 n
  refine W.item i s _ _ hg st fun v h' tk hv st' kk=>?_
  obtain⟨t,rfl⟩:=hv
  have I1:Inv X pins σ H {s with heap:=h',toks:=tk}:=I.turned (fun b o hb e=>kk b o (by simpa using hb) e) f0 f1 f3 f4 f5
  refine⟨_,rfl,zkp (s:={s with heap:=h',toks:=tk}) (n:="range_iterator") st' rfl rfl (by decide) ⟨.int (lo+i),H,I1,⟨t,?_⟩,⟨rfl,rfl⟩,st',fun b hb=>(hf b hb).1⟩⟩
  rw[Int.mul_one]
 done:=by
  intro X hP hw hK hc i pins s σ H E I hf st hg
  subst hP hw hK
  obtain⟨f0,f1,f2,f3,f4,f5⟩:=hf it (by simp)
  exact wpAny_pyNext_range_end (I.ok.hd hc) st (by have:n<=i:=hg;omega) fun h' eb=>⟨rfl,I.turned (t':=s.toks) (fun b o hb e=>eb b o hb e) f0 f1 f3 f4 f5⟩
 self:=fun _ _ _ _ _ st h=>wpAny_pyIter_rangeiter st h
end L2
namespace L2
open PySem PySem.Spec PyProof.Rows
section
variable {X:Cx} {tg:Expr}
theorem zhO {pins:List (Addr × Obj)}{σ:St}{H:Hp}{s:Shared}{R:It->Hp->Prop}{E:Value->Shared->Prop}{lo hi:Int}{t u v:Tok}{tk:Nat}(I:Inv X pins σ H s)(h1:-(2 ^ 62)<=lo)(h2:lo<2 ^ 62)(h3:-(2 ^ 62)<=hi)(h4:hi<2 ^ 62)
  (q:R (Itr lo (hi - lo).toNat) H):wpAny (model X.prog X.w) X.A (pyIter (.ref s.heap.objs.size)) (PIE X pins σ tg R) E {s with heap:=s.heap.push {cls:=.type "range",data:=.fields #[.int lo t,.int hi u,.int 1 v]},toks:=tk}:=by
 refine wpAny_pyIter_range (IsRange.new ..) (small_one h1 h2 h3 h4) ?_
 have I1:Inv X pins σ H {s with heap:=s.heap.push {cls:=.type "range",data:=.fields #[.int lo t,.int hi u,.int 1 v]},toks:=tk}:=I.kept fun b o e=>Heap.get?_push_of_some _ e
 refine⟨(s.heap.push {cls:=.type "range",data:=.fields #[.int lo t,.int hi u,.int 1 v]}).objs.size,[(s.heap.push {cls:=.type "range",data:=.fields #[.int lo t,.int hi u,.int 1 v]}).objs.size],_,_,H,rfl,
  I1.kept (t':=tk) fun b o e=>Heap.get?_push_of_some _ e,zfz _ lo (hi - lo).toNat,?_,fun b hb=>?_,q⟩
 · have e1:lo+((0:Nat):Int) * 1=lo:=by simp
   have e2:(((hi - lo).toNat:Nat):Int) - ((0:Nat):Int)=Builtin.Range.rangeSize lo hi 1:=by rw[rangeSize_one];split<;>omega
   show IsRangeIter _ _ (lo+((0:Nat):Int) * 1) ((((hi - lo).toNat:Nat):Int) - ((0:Nat):Int)) 1
   rw[e1,e2]
   exact Heap.get?_push_size _ rfl
 · have e:b=(s.heap.push {cls:=.type "range",data:=.fields #[.int lo t,.int hi u,.int 1 v]}).objs.size:=by simpa using hb
   subst e
   exact I1.fpOk (Nat.le_refl _) (I1.hok.fresh (Nat.le_refl _))
noncomputable def znR (ta:TA):TI:=fun σ H R=>ta σ H fun vs H1=>∃j:Int,vs=[.int j]/\-(2 ^ 62)<=j/\j<2 ^ 62/\R (Itr 0 j.toNat) H1
theorem zgw {a:Expr}{ta:TA}{p pos:Pos}(hg:Gl X "range")(hm:X.mg "range"=none)(ha:PA X [a] ta)(hs:starEach [a] X.env=[(false,eval a X.env)]:=by rfl):PI X tg (.Call (.Name "range" p) [a] [] pos) (znR ta):=by
 intro pins s σ H R I h
 refine Call_ (zdV I hg hm boot_range (PyProof.Rows.callWith_type1 (thn (ha pos pins s σ H _ I h) fun us s1 ⟨vs,H1,I1,r1,q1⟩=>?_) hs rfl))
 obtain⟨j,e,q1,q2,q⟩:=q1
 subst e
 cases r1 with
 | cons r rr =>
   cases rr
   obtain⟨t,rfl⟩:=r
   exact call_range_1 (zhO I1 (by omega) (by omega) q1 q2 (by simpa using q))
noncomputable def tFor (wi:TI)(g:TG)(tb:TS):TS:=fun D σ H=>wi σ H fun J H1=>∃W:Nat->Nat->St->Hp->Prop,(∃m,W 0 m σ H1)/\∀i m σ H,W i m σ H->
 (J.stop i H/\D.nx σ H)\/(J.go i H/\∃N:St->Hp->Prop,(∀σ' H',N σ' H'->∃m',m'<m/\W (i+1) m' σ' H')/\∀x H',J.yld i H x H'->g x σ H' fun σ2 H2=>tb {D with nx:=N,ct:=N,bk:=D.nx} σ2 H2)
noncomputable def zdO (fp:List Addr)(h:Heap):List (Addr × Obj):=fp.filterMap fun b=>(h.get? b).map fun o=>(b,o)
theorem zbq {fp:List Addr}{h:Heap}{b:Addr}{o:Obj}(hb:b∈fp)(e:h.get? b=some o):(b,o)∈zdO fp h:=List.mem_filterMap.mpr ⟨b,hb,by rw[e];rfl⟩
theorem zgB {fp:List Addr}{h:Heap}{p:Addr × Obj}(hp:p∈zdO fp h):p.1∈fp/\h.get? p.1=some p.2:=by
 obtain⟨b,hb,e⟩:=List.mem_filterMap.mp hp
 cases q:h.get? b with
 |none=>rw[q] at e;cases e
 | some o =>
   rw[q] at e
   have e':(b,o)=p:=Option.some.inj e
   subst e'
   exact⟨hb,q⟩
theorem Inv.pinned {pins:List (Addr × Obj)}{σ:St}{H:Hp}{s:Shared}{fp:List Addr}(I:Inv X pins σ H s)(hf:∀b∈fp,FpOk X pins H b)(ho:∀b∈fp,∃o,s.heap.get? b=some o/\∀v,o.data≠.cell v):Inv X (pins++zdO fp s.heap) σ H s:=
 I.pins_of fun p hp=>(List.mem_append.mp hp).elim (fun z=>I.pin p (List.mem_append_right _ z)) fun z=>by
  obtain⟨hb,e⟩:=zgB z
  obtain⟨f0,f1,f2,_⟩:=hf p.1 hb
  obtain⟨o,e',d⟩:=ho p.1 hb
  rw[e] at e';cases e'
  exact⟨e,f0,f1,f2,d⟩
theorem Inv.unpinned {pins pl:List (Addr × Obj)}{σ:St}{H:Hp}{s:Shared}(I:Inv X (pins++pl) σ H s):Inv X pins σ H s:=I.pins_of fun p hp=>I.pin p (List.mem_append_right _ (List.mem_append_left _ hp))
theorem zlL {iter:Expr}{body:List Stmt}{wi:TI}{g:TG}{tb:TS}{pos:Pos}(hp:PassesOwn (model X.prog X.w) X.A X.env X.xe)(hc:X.calm=true)(hi:PI X tg iter wi)(hg:PG X tg g)(hb:PSs X body tb)
  (hs:∀x,foldedSetIterable iter X.env x=pure x:=by intro _;rfl):PS X (.For tg iter body [] pos) (tFor wi g tb):=by
 intro pins s σ H D I h
 refine wpAny_For (thn (hi pins s σ H _ I h) fun v s1 h1=>thn h1 fun itv s2 h2=>?_) hs
 obtain⟨it,fp,tn,J,H2,e,I2,T,st2,f2,W,⟨m0,w0⟩,turn⟩:=h2
 subst e
 -- what stays true of the iterator's objects through the loop
 have stat:∀{H':Hp},(∀b∈fp,H' b=none)->∀b∈fp,FpOk X pins H' b:=fun hn b hb=>⟨hn b hb,(f2 b hb).2⟩
 refine codeAny_forLoop_any (fun n s'=>∃i σ' H',Inv X pins σ' H' s'/\tn i s'.heap/\(∀b∈fp,H' b=none)/\W i n σ' H') ?_ m0 ⟨0,σ,H2,I2,st2,fun b hb=>(f2 b hb).1,w0⟩
 rintro n s3 ⟨i,σ3,H3,I3,st3,fr3,w3⟩
 rcases turn i n σ3 H3 w3 with ⟨stop,qn⟩|⟨go,N,hN,step⟩
 · refine wpAny_passesOwn hp (thn (T.done X rfl rfl rfl hc i pins s3 σ3 H3 X.xe I3 (stat fr3) st3 stop) fun r s4 ⟨hr,I4⟩=>?_)
   subst hr
   exact wpAny_execs_nil ⟨σ3,H3,I4,qn⟩
 · refine wpAny_passesOwn hp (thn (T.item X rfl rfl rfl hc i pins s3 σ3 H3 X.xe I3 (stat fr3) st3 go) fun r s4 ⟨u,hr,h4⟩=>?_)
   subst hr
   refine wpAny_passesOwn hp (thn h4 fun _ s5 ⟨x,H5,I5,r5,y5,st5,fr5⟩=>?_)
   have I5':=I5.pinned (stat fr5) (T.obj _ _ st5)
   refine wpAny_passesOwn hp (thn (hg _ s5 σ3 H5 x u _ I5' r5 (step x H5 y5)) fun _ s6 ⟨σ6,H6,I6,q6⟩=>?_)
   refine wpAny_passesOwn hp (thn (hb _ s6 σ6 H6 _ I6 q6) fun f s7 q7=>?_)
   have again:∀{σ7:St} {H7:Hp},Inv X (pins++zdO fp s5.heap) σ7 H7 s7->N σ7 H7->∃m,m<n/\∃i σ' H',Inv X pins σ' H' s7/\tn i s7.heap/\(∀b∈fp,H' b=none)/\W i m σ' H':=fun {σ7 H7} I7 n7=>by
    obtain⟨m',hm,w7⟩:=hN σ7 H7 n7
    refine⟨m',hm,i+1,σ7,H7,I7.unpinned,T.keep _ _ _ st5 fun b hb o e=>(I7.pin (b,o) (List.mem_append_right _ (List.mem_append_right _ (zbq hb e)))).1,fun b hb=>?_,w7⟩
    obtain⟨o,e,d⟩:=T.obj _ _ st5 b hb
    exact (I7.pin (b,o) (List.mem_append_right _ (List.mem_append_right _ (zbq hb e)))).2.1
   cases f with
   |next=>obtain⟨σ7,H7,I7,n7⟩:=q7;exact again I7 n7
   |cont=>obtain⟨σ7,H7,I7,n7⟩:=q7;exact again I7 n7
   |brk=>obtain⟨σ7,H7,I7,q7⟩:=q7;exact⟨σ7,H7,I7.unpinned,q7⟩
   |ret v=>obtain⟨x7,σ7,H7,I7,r7,q7⟩:=q7;exact⟨x7,σ7,H7,I7.unpinned,r7,q7⟩
end
end L2
namespace L2
open PySem PySem.Spec PyProof.Rows
noncomputable abbrev R2:=V->V->Hp->VK->Prop
noncomputable def OpR (X:Cx)(f:Value->Value->Sem Value)(r:R2):Prop:=
 ∀(pins:List (Addr × Obj)) (s:Shared) (σ:St) (H:Hp) (x y:V) (v u:Value) (Q:VK),Inv X pins σ H s->RelV x v->RelV y u->r x y H Q->
  wpAny (model X.prog X.w) X.A (f v u) (EP X pins σ Q) X.xe s
noncomputable def UnR (X:Cx)(f:Value->Sem Value)(r:V->Hp->VK->Prop):Prop:=
 ∀(pins:List (Addr × Obj)) (s:Shared) (σ:St) (H:Hp) (x:V) (v:Value) (Q:VK),Inv X pins σ H s->RelV x v->r x H Q->
  wpAny (model X.prog X.w) X.A (f v) (EP X pins σ Q) X.xe s
noncomputable def zaV (X:Cx)(f:Value)(r:List V->Hp->VK->Prop):Prop:=
 ∀(pins:List (Addr × Obj)) (s:Shared) (σ:St) (H:Hp) (xs:List V) (us:List Value) (Q:VK),Inv X pins σ H s->Vals xs us->r xs H Q->
  wpAny (model X.prog X.w) X.A (call f us) (EP X pins σ Q) X.xe s
noncomputable def TruR (X:Cx)(r:V->Hp->(Bool->Hp->Prop)->Prop):Prop:=
 ∀(pins:List (Addr × Obj)) (s:Shared) (σ:St) (H:Hp) (x:V) (v:Value) (Q:Bool->Hp->Prop),Inv X pins σ H s->RelV x v->r x H Q->
  wpAny (model X.prog X.w) X.A (truthy v) (TP X pins σ Q) X.xe s
noncomputable def tOp (r:R2)(ta tb:TE):TE:=fun σ H Q=>ta σ H fun x H1=>tb σ H1 fun y H2=>r x y H2 Q
noncomputable def tUn (r:V->Hp->VK->Prop)(ta:TE):TE:=fun σ H Q=>ta σ H fun x H1=>r x H1 Q
noncomputable def rI (C:Int->Int->Prop)(g:Int->Int->V):R2:=fun x y H Q=>∃i j,x=.int i/\y=.int j/\C i j/\Q (g i j) H
noncomputable def rI0 (g:Int->Int->V):R2:=fun x y H Q=>∃i j,x=.int i/\y=.int j/\Q (g i j) H
noncomputable def rU (g:Int->V):V->Hp->VK->Prop:=fun x H Q=>∃i,x=.int i/\Q (g i) H
section
variable {X:Cx} {a b c:Expr} {ta tb tc:TE} {pos:Pos}
theorem binT (ha:PE X a ta)(hb:PE X b tb){pins:List (Addr × Obj)}{s:Shared}{σ:St}{H:Hp}{R:V->V->Hp->Prop}(I:Inv X pins σ H s)
  (h:ta σ H fun x H1=>tb σ H1 fun y H2=>R x y H2) {Q:Value->Shared->Prop} {f:Value->Value->Sem Value}
  (hf:∀v u s2 x y H2,Inv X pins σ H2 s2->RelV x v->RelV y u->R x y H2->wpAny (model X.prog X.w) X.A (f v u) Q X.xe s2) :
  wpAny (model X.prog X.w) X.A (eval a X.env) (fun v s₁=>wpAny (model X.prog X.w) X.A (eval b X.env) (fun u s₂=>wpAny (model X.prog X.w) X.A (f v u) Q X.xe s₂) X.xe s₁) X.xe s:=by
 refine thn (ha pins s σ H _ I h) fun v s1 ⟨x,H1,I1,r1,q1⟩=>?_
 refine thn (hb pins s1 σ H1 _ I1 q1) fun u s2 ⟨y,H2,I2,r2,q2⟩=>?_
 exact hf v u s2 x y H2 I2 r1 r2 q2
theorem zlR {op:Operator}{r:R2}(ho:OpR X (binaryOp op) r)(ha:PE X a ta)(hb:PE X b tb):PE X (.BinOp a op b pos) (tOp r ta tb):=by
 intro pins s σ H Q I h
 exact wpAny_BinOp (binT ha hb I h fun v u s2 x y H2 I2 rx ry q=>ho pins s2 σ H2 x y v u Q I2 rx ry q)
theorem zns {op:UnaryOp}{r:V->Hp->VK->Prop}(ho:UnR X (unaryOp op) r)(ha:PE X a ta):PE X (.UnaryOp op a pos) (tUn r ta):=by
 intro pins s σ H Q I h
 exact UnaryOp_ (thn (ha pins s σ H _ I h) fun v s1 ⟨x,H1,I1,r1,q1⟩=>ho pins s1 σ H1 x v Q I1 r1 q1)
theorem opI {f:Value->Value->Sem Value}{C:Int->Int->Prop}{g:Int->Int->Int}
  (rule:∀(i j:Int) (t u:Tok) (s:Shared) (Q:Value->Shared->Prop) (E:Value->Shared->Prop),C i j->Q (.int (g i j) s.toks) {s with toks:=s.toks+1}->wpAny (model X.prog X.w) X.A (f (.int i t) (.int j u)) Q E s) :
  OpR X f (rI C fun i j=>.int (g i j)):=by
 intro pins s σ H x y v u Q I rx ry h
 obtain⟨i,j,rfl,rfl,hc,q⟩:=h
 obtain⟨t,rfl⟩:=rx
 obtain⟨t',rfl⟩:=ry
 exact rule i j t t' s _ _ hc ⟨.int (g i j),H,I.tok _,⟨_,rfl⟩,q⟩
theorem opI0 {f:Value->Value->Sem Value}{g:Int->Int->Int}
  (rule:∀(i j:Int) (t u:Tok) (s:Shared) (Q:Value->Shared->Prop) (E:Value->Shared->Prop),Q (.int (g i j) s.toks) {s with toks:=s.toks+1}->wpAny (model X.prog X.w) X.A (f (.int i t) (.int j u)) Q E s) :
  OpR X f (rI0 fun i j=>.int (g i j)):=by
 intro pins s σ H x y v u Q I rx ry h
 obtain⟨i,j,rfl,rfl,q⟩:=h
 obtain⟨t,rfl⟩:=rx
 obtain⟨t',rfl⟩:=ry
 exact rule i j t t' s _ _ ⟨.int (g i j),H,I.tok _,⟨_,rfl⟩,q⟩
theorem opB0 {f:Value->Value->Sem Value}{g:Int->Int->Bool}
  (rule:∀(i j:Int) (t u:Tok) (s:Shared) (Q:Value->Shared->Prop) (E:Value->Shared->Prop),Q (.bool (g i j)) s->wpAny (model X.prog X.w) X.A (f (.int i t) (.int j u)) Q E s) :
  OpR X f (rI0 fun i j=>.bl (g i j)):=by
 intro pins s σ H x y v u Q I rx ry h
 obtain⟨i,j,rfl,rfl,q⟩:=h
 obtain⟨t,rfl⟩:=rx
 obtain⟨t',rfl⟩:=ry
 exact rule i j t t' s _ _ ⟨.bl (g i j),H,I,rfl,q⟩
noncomputable def CDiv (i j:Int):Prop:=0<j/\j<1073741824
noncomputable def CPow (i j:Int):Prop:=0<=j/\j<=1000000/\i.natAbs<2 ^ 64
noncomputable def CMul (i j:Int):Prop:=(-(2 ^ 64)<i/\i<2 ^ 64)\/(-(2 ^ 64)<j/\j<2 ^ 64)
theorem CMul.ok {i j:Int}(h:CMul i j):IntMulOk i j:=by
 rcases h with ⟨h1,h2⟩|⟨h1,h2⟩
 · exact .of_left (intBits_le_64 h1 h2)
 · exact .of_right (intBits_le_64 h1 h2)
theorem zmb:OpR X (binaryOp .Add) (rI0 fun i j=>.int (i+j)):=opI0 fun _ _ _ _ _ _ _ q=>add_int q
theorem zl1:OpR X (binaryOp .Sub) (rI0 fun i j=>.int (i - j)):=opI0 fun _ _ _ _ _ _ _ q=>sub_int q
theorem zl5:OpR X (binaryOp .Mult) (rI CMul fun i j=>.int (i * j)):=opI fun _ _ _ _ _ _ _ hc q=>mul_int q hc.ok
theorem zj4:OpR X (binaryOp .FloorDiv) (rI CDiv fun i j=>.int (i / j)):=opI fun i j _ _ _ _ _ hc q=>by
 have h1:(0:Int)<j:=hc.1
 have h2:j<1073741824:=hc.2
 exact floordiv_int (by omega) (by rw[Int.fdiv_eq_ediv_of_nonneg i (by omega)];exact q) (.inl (PyProof.noPylong_small (by omega)))
theorem zl6:OpR X (binaryOp .Mod) (rI (fun _ j=>0<j) fun i j=>.int (i % j)):=opI fun i j _ _ _ _ _ hc q=>by
 have h1:(0:Int)<j:=hc
 exact mod_int' (by omega) (by rw[Int.fmod_eq_emod_of_nonneg i (by omega)];exact q)
theorem zl3:OpR X (binaryOp .Pow) (rI CPow fun i j=>.int (i ^ j.toNat)):=opI fun _ _ _ _ _ _ _ hc q=>pow_int_small hc.1 hc.2.1 hc.2.2 q
theorem unI {f:Value->Sem Value}{g:Int->Int}
  (rule:∀(i:Int) (t:Tok) (s:Shared) (Q:Value->Shared->Prop) (E:Value->Shared->Prop),Q (.int (g i) s.toks) {s with toks:=s.toks+1}->wpAny (model X.prog X.w) X.A (f (.int i t)) Q E s) :
  UnR X f (rU fun i=>.int (g i)):=by
 intro pins s σ H x v Q I rx h
 obtain⟨i,rfl,q⟩:=h
 obtain⟨t,rfl⟩:=rx
 exact rule i t s _ _ ⟨.int (g i),H,I.tok _,⟨_,rfl⟩,q⟩
theorem zkY:UnR X (unaryOp .USub) (rU fun i=>.int (-i)):=unI fun _ _ _ _ _ q=>neg_int q
end
noncomputable def scal:V->V->Bool
 |.non,.non=>true|.non,.int _=>true|.int _,.non=>true|.non,.bl _=>true|.bl _,.non=>true|.non,.str _=>true|.str _,.non=>true
 |.int _,.int _=>true|.bl _,.bl _=>true|.str _,.str _=>true|.byt _,.byt _=>true
 |.int _,.str _=>true|.str _,.int _=>true|.bl _,.str _=>true|.str _,.bl _=>true
 |_,_=>false
noncomputable def rEq:R2:=fun x y H Q=>scal x y=true/\Q (.bl (decide (x=y))) H
noncomputable def rNe:R2:=fun x y H Q=>scal x y=true/\Q (.bl (!decide (x=y))) H
theorem zhi {i j:Int}:decide (V.int i=V.int j)=(i == j):=by
 rw[Bool.eq_iff_iff]
 simp
theorem zi9 {i j:Bool}:decide (V.bl i=V.bl j)=(i == j):=by
 rw[Bool.eq_iff_iff]
 simp
theorem zhh {i j:Str}:decide (V.str i=V.str j)=(i == j):=by
 rw[Bool.eq_iff_iff]
 simp
theorem zhj {i j:Array UInt8}:decide (V.byt i=V.byt j)=(i.toList == j.toList):=by
 rw[Bool.eq_iff_iff]
 cases i
 cases j
 simp
section
variable {X:Cx} {a b c:Expr} {ta tb tc:TE} {pos:Pos}
theorem zan {pins:List (Addr × Obj)}{σ:St}{H:Hp}{s:Shared}{Q:VK}{k k':Bool}(I:Inv X pins σ H s)(q:Q (.bl k) H)(e:k=k'):EP X pins σ Q (.bool k') s:=by
 subst e
 exact⟨.bl k,H,I,rfl,q⟩
theorem znD:OpR X (compareOp .Eq) rEq:=by
 intro pins s σ H x y v u Q I rx ry h
 obtain⟨hs,q⟩:=h
 cases x with
 | non =>
   cases rx
   cases y with
   |non=>cases ry;exact PySem.EqNone.eq_none_none (zan I q (by simp))
   |bl j=>cases ry;exact PySem.EqNone.eq_none_bool (zan I q (by simp))
   |int j=>obtain⟨t',rfl⟩:=ry;exact PySem.EqNone.eq_none_int (zan I q (by simp))
   |str j=>obtain⟨t',rfl⟩:=ry;exact PySem.EqNone.eq_none_str (zan I q (by simp))
   |_=>exact absurd (show false=true from hs) Bool.false_ne_true
 | bl i =>
   cases rx
   cases y with
   |non=>cases ry;exact PySem.EqNone.eq_bool_none (zan I q (by simp))
   |bl j=>cases ry;exact eq_bool (zan I q zi9)
   |str j=>obtain⟨t',rfl⟩:=ry;exact PySem.EqMixed.eq_bool_str (zan I q (by simp))
   |_=>exact absurd (show false=true from hs) Bool.false_ne_true
 | int i =>
   obtain⟨t,rfl⟩:=rx
   cases y with
   |non=>cases ry;exact PySem.EqNone.eq_int_none (zan I q (by simp))
   |int j=>obtain⟨t',rfl⟩:=ry;exact eq_int (zan I q zhi)
   |str j=>obtain⟨t',rfl⟩:=ry;exact PySem.EqMixed.eq_int_str (zan I q (by simp))
   |_=>exact absurd (show false=true from hs) Bool.false_ne_true
 | str i =>
   obtain⟨t,rfl⟩:=rx
   cases y with
   |non=>cases ry;exact PySem.EqNone.eq_str_none (zan I q (by simp))
   |bl j=>cases ry;exact PySem.EqMixed.eq_str_bool (zan I q (by simp))
   |int j=>obtain⟨t',rfl⟩:=ry;exact PySem.EqMixed.eq_str_int (zan I q (by simp))
   |str j=>obtain⟨t',rfl⟩:=ry;exact eq_str (zan I q zhh)
   |_=>exact absurd (show false=true from hs) Bool.false_ne_true
 | byt i =>
   obtain⟨t,rfl⟩:=rx
   cases y with
   |byt j=>obtain⟨t',rfl⟩:=ry;exact PySem.W.eq_bytes (zan I q zhj)
   |_=>exact absurd (show false=true from hs) Bool.false_ne_true
 |_=>cases y<;>exact absurd (show false=true from hs) Bool.false_ne_true
theorem zny:OpR X (compareOp .NotEq) rNe:=by
 intro pins s σ H x y v u Q I rx ry h
 obtain⟨hs,q⟩:=h
 cases x with
 | non =>
   cases rx
   cases y with
   |non=>cases ry;exact PySem.EqNone.ne_none_none (zan I q (by simp))
   |bl j=>cases ry;exact PySem.EqNone.ne_none_bool (zan I q (by simp))
   |int j=>obtain⟨t',rfl⟩:=ry;exact PySem.EqNone.ne_none_int (zan I q (by simp))
   |str j=>obtain⟨t',rfl⟩:=ry;exact PySem.EqNone.ne_none_str (zan I q (by simp))
   |_=>exact absurd (show false=true from hs) Bool.false_ne_true
 | bl i =>
   cases rx
   cases y with
   |non=>cases ry;exact PySem.EqNone.ne_bool_none (zan I q (by simp))
   |bl j=>cases ry;exact ne_bool (zan I q (congrArg not zi9))
   |str j=>obtain⟨t',rfl⟩:=ry;exact PySem.EqMixed.ne_bool_str (zan I q (by simp))
   |_=>exact absurd (show false=true from hs) Bool.false_ne_true
 | int i =>
   obtain⟨t,rfl⟩:=rx
   cases y with
   |non=>cases ry;exact PySem.EqNone.ne_int_none (zan I q (by simp))
   |int j=>obtain⟨t',rfl⟩:=ry;exact ne_int (zan I q (congrArg not zhi))
   |str j=>obtain⟨t',rfl⟩:=ry;exact PySem.EqMixed.ne_int_str (zan I q (by simp))
   |_=>exact absurd (show false=true from hs) Bool.false_ne_true
 | str i =>
   obtain⟨t,rfl⟩:=rx
   cases y with
   |non=>cases ry;exact PySem.EqNone.ne_str_none (zan I q (by simp))
   |bl j=>cases ry;exact PySem.EqMixed.ne_str_bool (zan I q (by simp))
   |int j=>obtain⟨t',rfl⟩:=ry;exact PySem.EqMixed.ne_str_int (zan I q (by simp))
   |str j=>obtain⟨t',rfl⟩:=ry;exact ne_str (zan I q (congrArg not zhh))
   |_=>exact absurd (show false=true from hs) Bool.false_ne_true
 | byt i =>
   obtain⟨t,rfl⟩:=rx
   cases y with
   |byt j=>obtain⟨t',rfl⟩:=ry;exact PySem.W.ne_bytes (zan I q (congrArg not zhj))
   |_=>exact absurd (show false=true from hs) Bool.false_ne_true
 |_=>cases y<;>exact absurd (show false=true from hs) Bool.false_ne_true
theorem znz:OpR X (compareOp .Lt) (rI0 fun i j=>.bl (decide (i<j))):=opB0 fun _ _ _ _ _ _ _ q=>lt_int q
theorem znA:OpR X (compareOp .LtE) (rI0 fun i j=>.bl (decide (i<=j))):=opB0 fun _ _ _ _ _ _ _ q=>le_int q
theorem znB:OpR X (compareOp .Gt) (rI0 fun i j=>.bl (decide (j<i))):=opB0 fun _ _ _ _ _ _ _ q=>gt_int q
theorem znC:OpR X (compareOp .GtE) (rI0 fun i j=>.bl (decide (j<=i))):=opB0 fun _ _ _ _ _ _ _ q=>ge_int q
theorem zj0 {op:CmpOp}{r:R2}(ho:OpR X (compareOp op) r)(ha:PE X a ta)(hb:PE X b tb)(hm:behindInMarks op b=false):PE X (.Compare a [op] [b] pos) (tOp r ta tb):=by
 intro pins s σ H Q I h
 exact wpAny_Compare1 (binT ha hb I h fun v u s2 x y H2 I2 rx ry q=>ho pins s2 σ H2 x y v u Q I2 rx ry q) hm
noncomputable def zk6 (t:TE):TT:=fun σ H Q=>t σ H fun x H'=>∃k,x=.bl k/\Q k H'
theorem zjS {op:CmpOp}{r:R2}(ho:OpR X (compareOp op) r)(ha:PE X a ta)(hb:PE X b tb)(hm:behindInMarks op b=false):PT X (.Compare a [op] [b] pos) (zk6 (tOp r ta tb)):=by
 intro pins s σ H Q I h
 refine wpAny_isTrue_Compare1 (thn (ha pins s σ H _ I h) fun v s1 ⟨x,H1,I1,r1,q1⟩=>thn (hb pins s1 σ H1 _ I1 q1) fun u s2 ⟨y,H2,I2,r2,q2⟩=>
  thn (ho pins s2 σ H2 x y v u _ I2 r1 r2 q2) fun c s3 ⟨z,H3,I3,r3,k,e,q3⟩=>?_) hm
 subst e
 cases r3
 exact wpAny_truthy_bool ⟨H3,I3,q3⟩
noncomputable def ziK (r r':R2)(ta tb tc:TE):TE:=fun σ H Q=>ta σ H fun x H1=>tb σ H1 fun y H2=>r x y H2 fun z H3=>∃k,z=.bl k/\
 (if k=true then tc σ H3 fun w' H4=>r' y w' H4 Q else Q (.bl false) H3)
theorem zh5 {op op':CmpOp}{r r':R2}(ho:OpR X (compareOp op) r)(ho':OpR X (compareOp op') r')(ha:PE X a ta)(hb:PE X b tb)(hc:PE X c tc)
  (hm:lastMarks [op,op'] [b,c]=false:=by with_unfolding_all rfl):PE X (.Compare a [op,op'] [b,c] pos) (ziK r r' ta tb tc):=by
 intro pins s σ H Q I h
 refine Compare_chain (thn (ha pins s σ H _ I h) fun v s1 ⟨x,H1,I1,r1,q1⟩=>chain_link (thn (hb pins s1 σ H1 _ I1 q1) fun u s2 ⟨y,H2,I2,r2,q2⟩=>
  thn (ho pins s2 σ H2 x y v u _ I2 r1 r2 q2) fun d s3 ⟨z,H3,I3,r3,k,e,q3⟩=>?_)) hm
 subst e
 cases r3
 refine wpAny_truthy_bool ?_
 cases k with
 |false=>exact ite_ff ⟨.bl false,H3,I3,rfl,q3⟩
 |true=>exact ite_tt (chain_last (thn (hc pins s3 σ H3 _ I3 q3) fun w' s4 ⟨z',H4,I4,r4,q4⟩=>ho' pins s4 σ H4 y z' u w' Q I4 r2 r4 q4))
theorem zhS {op op':CmpOp}{r r':R2}(ho:OpR X (compareOp op) r)(ho':OpR X (compareOp op') r')(ha:PE X a ta)(hb:PE X b tb)(hc:PE X c tc)
  (hm:lastMarks [op,op'] [b,c]=false:=by with_unfolding_all rfl):PT X (.Compare a [op,op'] [b,c] pos) (zk6 (ziK r r' ta tb tc)):=by
 intro pins s σ H Q I h
 refine isTrue_chain (thn (ha pins s σ H _ I h) fun v s1 ⟨x,H1,I1,r1,q1⟩=>test_link (thn (hb pins s1 σ H1 _ I1 q1) fun u s2 ⟨y,H2,I2,r2,q2⟩=>
  thn (ho pins s2 σ H2 x y v u _ I2 r1 r2 q2) fun d s3 ⟨z,H3,I3,r3,k,e,q3⟩=>?_)) hm
 subst e
 cases r3
 refine wpAny_truthy_bool ?_
 cases k with
 | false =>
   obtain⟨k',e',q'⟩:=q3
   cases e'
   exact ite_ff ⟨H3,I3,q'⟩
 | true =>
   refine ite_tt (test_last (thn (hc pins s3 σ H3 _ I3 q3) fun w' s4 ⟨z',H4,I4,r4,q4⟩=>thn (ho' pins s4 σ H4 y z' u w' _ I4 r2 r4 q4) fun d' s5 ⟨z2,H5,I5,r5,k2,e2,q5⟩=>?_))
   subst e2
   cases r5
   exact wpAny_truthy_bool ⟨H5,I5,q5⟩
noncomputable def TruV (K:PySem.W.Frag)(x:V)(H:Hp)(k:Bool):Prop:=
 match x with
 |.non=>k=false
 |.bl b=>k=b
 |.int i=>k=(i != 0)
 |.str y=>y.length<=sizeLine/\k=((y.length:Int) != 0)
 |.byt y=>y.size<=sizeLine/\k=((y.size:Int) != 0)
 |.ref p=>(∃xs,SqL K H p xs/\k = !xs.isEmpty)\/(∃xs,SqT K H p xs/\k = !xs.isEmpty)\/∃kvs,H p=some (.dK kvs)/\k = !kvs.isEmpty
 |_=>False
theorem zfT {κ:Type}{kvs:List (κ × V)}{vs:List (κ × Value)}(r:KV kvs vs):(!vs.isEmpty) = !kvs.isEmpty:=by
 cases r<;>rfl
theorem zcW {xs:List V}{its:List Value}(r:Vals xs its):(!its.toArray.isEmpty) = !xs.isEmpty:=by
 cases r<;>simp
theorem zcT:(sizeLine:Nat)<2 ^ 63:=by rw[sizeLine_eq];decide
theorem zk1:TruR X (fun x H Q=>∃k,TruV X.K x H k/\Q k H):=by
 intro pins s σ H x v Q I rx h
 obtain⟨k,e,q⟩:=h
 have hl:=zcT
 have hs:sizeLine=16777216:=sizeLine_eq
 cases x with
 | non =>
   cases rx
   have e':k=false:=e
   subst e'
   exact truthy_none ⟨H,I,q⟩
 | bl b =>
   cases rx
   have e':k=b:=e
   subst e'
   exact wpAny_truthy_bool ⟨H,I,q⟩
 | int i =>
   obtain⟨t,rfl⟩:=rx
   have e':k=(i != 0):=e
   subst e'
   exact PySem.P.truthy_int ⟨H,I,q⟩
 | str y =>
   obtain⟨t,rfl⟩:=rx
   obtain⟨hy,e'⟩:y.length<=sizeLine/\k=((y.length:Int) != 0):=e
   subst e'
   exact PySem.P.truthy_str (by omega) ⟨H,I.tok _,q⟩
 | byt y =>
   obtain⟨t,rfl⟩:=rx
   obtain⟨hy,e'⟩:y.size<=sizeLine/\k=((y.size:Int) != 0):=e
   subst e'
   exact PySem.W.truthy_bytes (by omega) ⟨H,I.tok _,q⟩
 | ref p =>
   cases rx
   have e':(∃xs,SqL X.K H p xs/\k = !xs.isEmpty)\/(∃xs,SqT X.K H p xs/\k = !xs.isEmpty)\/∃kvs,H p=some (.dK kvs)/\k = !kvs.isEmpty:=e
   rcases e' with ⟨xs,hx,e'⟩|⟨xs,hx,e'⟩|⟨kvs,hx,e'⟩
   · subst e'
     obtain⟨its,r,pl,hz⟩:=I.list hx
     have hlen:=r.length
     exact wpAny_truthy_list pl.isList (by simp only[List.size_toArray];omega) ⟨H,I.tok _,by rw[zcW r];exact q⟩
   · subst e'
     obtain⟨its,r,pl,hz⟩:=I.tuple hx
     have hlen:=r.length
     exact truthy_tuple pl (by simp only[List.size_toArray];omega) ⟨H,I.tok _,by rw[zcW r];exact q⟩
   · subst e'
     obtain⟨hz,hS,vs,r,m⟩:kvs.length<=sizeLine/\(p == sysModules)=false/\∃vs,KV kvs vs/\s.heap.DictOf (zaq X.prog X.w) p vs:=I.hok p _ hx
     have hlen:kvs.length=vs.length:=Paired.length r
     exact wpAny_truthy_dict hS m (by omega) ⟨H,I.tok _,by rw[zfT r];exact q⟩
 |_=>exact (show False from e).elim
theorem zhR (ha:PE X a ta)(he:∀whole,isTrue a X.env whole=(do let v <-whole;standAt a.pos;holding [v] (truthy v))) :
  PT X a (fun σ H Q=>ta σ H fun x H'=>∃k,TruV X.K x H' k/\Q k H'):=by
 intro pins s σ H Q I h
 exact isTrue_plain (thn (ha pins s σ H _ I h) fun v s1 ⟨x,H1,I1,r1,q1⟩=>zk1 pins s1 σ H1 x v Q I1 r1 q1) (he _)
theorem zga {x:V}{us:List Value}(r:Vals [x] us):∃u,us=[u]/\RelV x u:=by
 cases r with
 |cons r1 r2=>cases r2;exact⟨_,rfl,r1⟩
theorem zfw {x y:V}{us:List Value}(r:Vals [x,y] us):∃u w',us=[u,w']/\RelV x u/\RelV y w':=by
 cases r with
 | cons r1 r2 =>
   cases r2 with
   |cons r3 r4=>cases r4;exact⟨_,_,rfl,r1,r3⟩
theorem ziD:zaV X (.builtin "abs") (fun xs H Q=>∃i,xs=[.int i]/\Q (.int (if i<0 then -i else i)) H):=by
 intro pins s σ H xs us Q I r h
 obtain⟨i,rfl,q⟩:=h
 obtain⟨u,rfl,t,rfl⟩:=zga r
 exact call_abs_int fun u tk=>⟨.int (if i<0 then -i else i),H,I.tok _,⟨_,rfl⟩,q⟩
theorem zhp (hc:X.calm=true):zaV X (.builtin "max") (fun xs H Q=>∃i j,xs=[.int i,.int j]/\Q (.int (if j > i then j else i)) H):=by
 intro pins s σ H xs us Q I r h
 obtain⟨i,j,rfl,q⟩:=h
 obtain⟨u,w',rfl,⟨t,rfl⟩,⟨t',rfl⟩⟩:=zfw r
 refine max_two_ints (I.ok.hd hc) fun h' tk k=>⟨_,H,I.kept k,?_,q⟩
 by_cases hj:j > i
 · rw[if_pos hj,if_pos hj];exact⟨_,rfl⟩
 · rw[if_neg hj,if_neg hj];exact⟨_,rfl⟩
theorem zho (hc:X.calm=true):zaV X (.builtin "min") (fun xs H Q=>∃i j,xs=[.int i,.int j]/\Q (.int (if j<i then j else i)) H):=by
 intro pins s σ H xs us Q I r h
 obtain⟨i,j,rfl,q⟩:=h
 obtain⟨u,w',rfl,⟨t,rfl⟩,⟨t',rfl⟩⟩:=zfw r
 refine min_two_ints (I.ok.hd hc) fun h' tk k=>⟨_,H,I.kept k,?_,q⟩
 by_cases hj:j<i
 · rw[if_pos hj,if_pos hj];exact⟨_,rfl⟩
 · rw[if_neg hj,if_neg hj];exact⟨_,rfl⟩
end
end L2
namespace L2
open PySem PySem.Spec PyProof.Rows
structure ObjM (h:Heap) (x dx C:Addr) (mA:Str->Option Value):Prop where
 obj:h.get? x=some (PySem.W.instObj C dx)
 ns:h.Ns1 dx mA
 ne:dx≠x
theorem zdS {h:Heap}{dx:Addr}{mA:Str->Option Value}(n:h.Ns1 dx mA):∃od,h.get? dx=some od/\∀name,PySem.W.lookIn name od=some (mA name):=by
 obtain⟨o,es,ep,ho,hd,hk,_,hm⟩:=n
 refine⟨o,ho,fun name=>?_⟩
 have e:=hm name
 unfold nsFind findBy at e
 rw[<-Array.find?_toList] at e
 unfold PySem.W.lookIn
 rw[hd]
 dsimp only
 split
 · rename_i y q
   rw[q] at e
   exact congrArg some e
 · rename_i q
   rw[q] at e
   have a:es.toList.any (·.refKey)=false:=by
    rw[List.any_eq_false]
    intro y hy
    obtain⟨z,t,hkey⟩:=hk y (Array.mem_toList_iff.mp hy)
    simp[DictEntry.refKey,hkey]
   have a':¬es.toList.any (·.refKey)=true:=by rw[a];exact Bool.false_ne_true
   rw[if_neg a']
   exact congrArg some e
theorem ObjM.look {h:Heap}{x dx C:Addr}{mA:Str->Option Value}(I:ObjM h x dx C mA):∃od,PySem.W.InstAt h x (PySem.W.instObj C dx) C (some od)/\∀name,PySem.W.lookIn name od=some (mA name):=
 let ⟨od,ho,hl⟩:=zdS I.ns
 ⟨od,⟨I.obj,rfl,rfl,ho⟩,hl⟩
section
variable {prog:Program} {w:World} {A:Around} {E:Value->Shared->Prop} {s:Shared} {K:PySem.W.Frag} {x dx C f:Addr} {mA:Str->Option Value} {name:Str} {v:Value}
end
theorem RelO.some_of {v:V}{o:Option Value}(r:RelO (some v) o):∃u,o=some u/\RelV v u:=by
 cases o with
 |none=>exact (show False from r).elim
 |some u=>exact⟨u,rfl,r⟩
theorem zg3 {v:V}{u:Value}(r:RelV v u):PySem.W.handedIn u=true:=by
 cases v with
 |non=>cases (show u=Value.none from r);rfl
 |bl b=>cases (show u=Value.bool b from r);rfl
 |int i=>obtain⟨t,e⟩:=(show ∃t,u=Value.int i t from r);cases e;rfl
 |str x=>obtain⟨t,e⟩:=(show ∃t,u=Value.str x t from r);cases e;rfl
 |byt b=>obtain⟨t,e⟩:=(show ∃t,u=Value.bytes b t from r);cases e;rfl
 |flt b=>obtain⟨t,e⟩:=(show ∃t,u=Value.float b t from r);cases e;rfl
 |ref a=>cases (show u=Value.ref a from r);rfl
 |ty n=>cases (show u=Value.type n from r);rfl
section
variable {P:Program} {w:World} {H H':Hp} {h h':Heap} {a C dx:Addr} {fs fs':List (Str × V)}
theorem zkj (hok:HOk P w H h)(e:H a=some (.ins C dx fs)):∃mA,ObjM h a dx C mA/\(∀f,RelO (fs.lookup f) (mA f))/\PySem.Within mA (fs.map (·.1))/\fs.length<=1000/\H dx=some (.own a):=by
 obtain⟨d,z,ne,ob,mA,n,r,q⟩:=(show ObjOk P w H h a (.ins C dx fs) from hok a _ e)
 exact⟨mA,⟨ob,n,ne⟩,r,q,z,d⟩
end
structure Cls (K:PySem.W.Frag) (C:Addr):Prop where
 pg:PySem.W.plainGet K C Str.empty=true
 hd:PySem.W.hasDictIn K C=true
 po:PySem.W.plainOver K C=true
 sa:PySem.W.findIn K (.ref C) "__setattr__"=some (some (.builtin "object.__setattr__"))
theorem Cls.get {K:PySem.W.Frag}{C:Addr}(c:Cls K C)(f:Str):PySem.W.plainGet K C f=true:=c.pg
noncomputable def zcH (K:PySem.W.Frag)(C:Addr)(f:Str):Prop:=PySem.W.findIn K (.ref C) f=some none
structure Con (K:PySem.W.Frag) (C:Addr) (f:Str) (v:V) (u:Value):Prop where
 at_:PySem.W.findIn K (.ref C) f=some (some u)
 rel:RelV v u
 get:PySem.W.specialIn K u "__get__"=some none
 cp:PySem.W.copiedNames.contains f=false
structure Meth (K:PySem.W.Frag) (C:Addr) (m:Str) (f:Addr):Prop where
 at_:PySem.W.findIn K (.ref C) m=some (some (.ref f))
 fn:PySem.W.isFn K (.ref f)=true
 kp:PySem.W.keepIn K (.ref f)=true
section
variable {X:Cx} {pins:List (Addr × Obj)} {σ:St} {H:Hp} {s:Shared} {a C dx:Addr} {fs:List (Str × V)} {f:Str} {v:V} {A:Around} {E:Value->Shared->Prop}
theorem zkL {prog:Program}{w:World}{env:Env}{e:Expr}{f:Str}{pos:Pos}{s:Shared}{Q:Value->Shared->Prop}(hb:attributeBase e f env (eval e env)=eval e env)
  (h:wpAny (model prog w) A (eval e env) (fun o s₁=>wpAny (model prog w) A (getAttr o f true) Q E s₁) E s):wpAny (model prog w) A (eval (.Attribute e f pos) env) Q E s:=
 Attribute_any_ h (by rw[arm_eval_Attribute,hb])
end
section
variable {X:Cx} {o e value:Expr} {f:Str} {pos pos' tpos:Pos} {ta tv:TE}
end
section
variable {X:Cx} {pins:List (Addr × Obj)} {σ:St} {H:Hp} {s:Shared} {A:Around} {E:Value->Shared->Prop} {Q:Value->Shared->Prop} {c:Value} {b:Bool}
inductive TyOf (K:PySem.W.Frag) (H:Hp):V->Value->Prop where
 |non:TyOf K H .non (.type "NoneType")
 |bl (x:Bool):TyOf K H (.bl x) (.type "bool")
 |int (i:Int):TyOf K H (.int i) (.type "int")
 |str (x:Str):TyOf K H (.str x) (.type "str")
 |flt (x:UInt64):TyOf K H (.flt x) (.type "float")
 |lst {a:Addr} {xs:List V} (e:H a=some (.lst xs)):TyOf K H (.ref a) (.type "list")
 |frz {a:Addr} {o:Obj} {xs:List V} (e:H a=some (.frz o (.lst xs))):TyOf K H (.ref a) (.type "list")
 |tup {a:Addr} {xs:List V} (e:H a=some (.tup xs)):TyOf K H (.ref a) (.type "tuple")
 |dK {a:Addr} {kvs:List (Key × V)} (e:H a=some (.dK kvs)):TyOf K H (.ref a) (.type "dict")
 |dT {a:Addr} {kvs:List (List Key × V)} (e:H a=some (.dT kvs)):TyOf K H (.ref a) (.type "dict")
 |ins {a C dx:Addr} {fs:List (Str × V)} (e:H a=some (.ins C dx fs)) (cl:Cls K C) (ha:PySem.W.findIn K (.ref C) "__class__"=some (some (.builtin "object.__class__")))
  (hn:PySem.W.specialIn K (.builtin "object.__class__") "__get__"=some (some (.builtin "getset_descriptor.__get__"))) (htk:PySem.W.takesIn K (.builtin "object.__class__")=some true)
  (hm:PySem.W.mroIn K C (.type "object")=some true):TyOf K H (.ref a) (.ref C)
theorem zgP {x:V}{u t:Value}(I:Inv X pins σ H s)(rx:RelV x u)(ty:TyOf X.K H x t)(e:PySem.W.kitOne X.K t c=some b)(h:∀tk,Q (.bool b) {s with toks:=tk}) :
  wpAny (model X.prog X.w) A (call (.builtin "isinstance") [u,c]) Q E s:=by
 cases ty with
 |non=>cases (show u=Value.none from rx);exact PySem.W.kia_one PySem.W.kitx_none I.kIn True.intro e (fun z=>nomatch z) h
 |bl y=>cases (show u=Value.bool y from rx);exact PySem.W.kia_one PySem.W.kitx_bool I.kIn True.intro e (fun z=>nomatch z) h
 |int i=>obtain⟨t,q⟩:=(show ∃t,u=Value.int i t from rx);cases q;exact PySem.W.kia_one PySem.W.kitx_int I.kIn True.intro e (fun z=>nomatch z) h
 |str y=>obtain⟨t,q⟩:=(show ∃t,u=Value.str y t from rx);cases q;exact PySem.W.kia_one PySem.W.kitx_str I.kIn True.intro e (fun z=>nomatch z) h
 |flt y=>obtain⟨t,q⟩:=(show ∃t,u=Value.float y t from rx);cases q;exact PySem.W.kia_one PySem.W.kitx_float I.kIn True.intro e (fun z=>nomatch z) h
 | @lst a xs ea =>
   cases (show u=Value.ref a from rx)
   obtain⟨_,_,n,_,h1⟩:=(show ObjOk X.prog X.w H s.heap a (.lst xs) from I.hok a _ ea)
   exact PySem.W.kia_one PySem.W.kitx_list I.kIn ⟨_,h1,rfl⟩ e (fun z=>nomatch z) h
 | @frz a ob xs ea =>
   cases (show u=Value.ref a from rx)
   obtain⟨_,_,_,n,_,h1⟩:=(show ObjOk X.prog X.w H s.heap a (.frz ob (.lst xs)) from I.hok a _ ea)
   exact PySem.W.kia_one PySem.W.kitx_list I.kIn ⟨_,h1,rfl⟩ e (fun z=>nomatch z) h
 | @tup a xs ea =>
   cases (show u=Value.ref a from rx)
   obtain⟨_,_,_,p⟩:=(show ObjOk X.prog X.w H s.heap a (.tup xs) from I.hok a _ ea)
   obtain⟨o,h1,h2,_⟩:=p
   exact PySem.W.kia_one PySem.W.kitx_tuple I.kIn ⟨o,h1,h2⟩ e (fun z=>nomatch z) h
 | @dK a kvs ea =>
   cases (show u=Value.ref a from rx)
   obtain⟨_,_,vs,_,p⟩:=(show ObjOk X.prog X.w H s.heap a (.dK kvs) from I.hok a _ ea)
   obtain⟨o,es,ep,h1,h2,_⟩:=p
   exact PySem.W.kia_one PySem.W.kitx_dict I.kIn ⟨o,h1,h2.1⟩ e (fun z=>nomatch z) h
 | @dT a kvs ea =>
   cases (show u=Value.ref a from rx)
   obtain⟨_,_,xs,_,o,es,ep,h1,h2,_⟩:=(show ObjOk X.prog X.w H s.heap a (.dT kvs) from I.hok a _ ea)
   exact PySem.W.kia_one PySem.W.kitx_dict I.kIn ⟨o,h1,h2.1⟩ e (fun z=>nomatch z) h
 | @ins a C dx fs ea cl ha hn htk hm =>
   cases (show u=Value.ref a from rx)
   obtain⟨mA,O,_⟩:=zkj I.hok ea
   obtain⟨od,J,_⟩:=O.look
   exact PySem.W.kia_one (PySem.W.kitx_own (cl.get _) cl.hd ha hn htk hm) I.kIn J e (fun z=>nomatch z) h
end
end L2
namespace L2
open PySem PySem.Spec PyProof.Rows
structure Room (k:Nat) (A:Around):Prop where
 hd:A.handled=none
 dp:A.depth+3 * k+5<recursionLimit
 un:A.units+16 * k+200<cLine
theorem Room.mono {j k:Nat}{A:Around}(r:Room k A)(h:j<=k):Room j A:=⟨r.hd,by have:=r.dp;omega,by have:=r.un;omega⟩
theorem Room.deeper {k:Nat}{A:Around}(r:Room (k+1) A)(env:Env):Room k (A.deeper env):=
 ⟨r.hd,by have:=r.dp;show A.depth+1+3 * k+5<_;omega,by have:=r.un;show A.units+3+16 * k+200<_;omega⟩
theorem Room.in1 {k:Nat}{A:Around}(r:Room (k+1) A):Room k A.in1:=
 ⟨r.hd,by have:=r.dp;show A.depth+3 * k+5<_;omega,by have:=r.un;show A.units+1+16 * k+200<_;omega⟩
theorem zfO {A:Around}{C:Addr}{us:List Value}{kw:List (Str × Value)}:(A.under (.builtin "type.__call__" ⟨.ref C::us,kw⟩)).depth=A.depth+1:=by
 first|rfl|simp[Around.under,Code.weight,Code.isCreation,Code.isGuard,Code.isCaller,Code.frames,Code.isFrame,guardIds]
theorem zfN {A:Around}{C:Addr}{us:List Value}{kw:List (Str × Value)}:(A.under (.builtin "type.__call__" ⟨.ref C::us,kw⟩)).units=A.units+1:=by
 first|rfl|simp[Around.under,Code.cUnits,Code.frames,Code.isFrame]
theorem Room.make {k:Nat}{A:Around}(r:Room (k+1) A)(C:Addr)(us:List Value)(kw:List (Str × Value)):Room k (A.under (.builtin "type.__call__" ⟨.ref C::us,kw⟩)):=
 ⟨r.hd,by have:=r.dp;rw[zfO];omega,by have:=r.un;rw[zfN];omega⟩
theorem Room.depth {k:Nat}{A:Around}(r:Room k A):A.depth<recursionLimit:=by have:=r.dp;omega
theorem Room.units {k:Nat}{A:Around}(r:Room k A):A.units+64<cLine:=by have:=r.un;omega
noncomputable def tNil:TA:=fun _ H Q=>Q [] H
noncomputable def zhC (ta:TE)(tr:TA):TA:=fun σ H Q=>ta σ H fun x H1=>tr σ H1 fun xs H2=>Q (x::xs) H2
section
variable {X:Cx} {e:Expr} {es:List Expr} {te:TE} {t:TA} {pos:Pos}
theorem zb6:PA X [] tNil:=fun _ _ _ _ H Q I h=>Calls.spliced_nil ⟨[],H,I,.nil,h⟩
theorem zaO (ha:PE X e te)(hr:PA X es t)(hs:starEach (e::es) X.env=(false,eval e X.env)::starEach es X.env:=by rfl):PA X (e::es) (zhC te t):=by
 intro pos pins s σ H Q I h
 rw[hs]
 show wpAny _ _ (spliced ((false,eval e X.env)::backTo pos (starEach es X.env))) _ _ s
 refine Calls.spliced_cons (thn (ha pins s σ H _ I h) fun u s1 ⟨x,H1,I1,r1,q1⟩=>?_)
 exact thn (hr pos pins s1 σ H1 _ I1 q1) fun us s2 ⟨xs,H2,I2,r2,q2⟩=>⟨x::xs,H2,I2,.cons r1 r2,q2⟩
noncomputable def tTup (t:TA):TE:=fun σ H Q=>t σ H fun xs H1=>xs.length<=sizeLine/\∀p,H1 p=none->Q (.ref p) (upd H1 p (.tup xs))
noncomputable def tLst (t:TA):TE:=fun σ H Q=>t σ H fun xs H1=>xs.length<=sizeLine/\∀p,H1 p=none->Q (.ref p) (upd H1 p (.lst xs))
theorem zlQ {x1}(h:PA X es t):PE X (.Tuple es x1 pos) (tTup t):=by
 intro pins s σ H Q I hq
 refine wpAny_Tuple_spliced (thn (h pos pins s σ H _ I hq) fun us s1 ⟨xs,H1,I1,r,z,q⟩=>⟨by rw[<-r.length];exact z,?_⟩)
 have hf:H1 s1.heap.objs.size=none:=I1.hok.fresh (Nat.le_refl _)
 refine⟨.ref s1.heap.objs.size,upd H1 s1.heap.objs.size (.tup xs),I1.laid (t':=s1.toks) (fun b u e=>Heap.get?_push_of_some _ e) (Nat.le_refl _) ?_,rfl,q _ hf⟩
 exact⟨z,us,r,⟨_,Heap.get?_push_size _ rfl,rfl,_,rfl⟩⟩
theorem zlU (h:PA X es t):PE X (.List es pos) (tLst t):=by
 intro pins s σ H Q I hq
 refine wpAny_List_spliced (thn (h pos pins s σ H _ I hq) fun us s1 ⟨xs,H1,I1,r,z,q⟩=>⟨by rw[<-r.length];exact z,?_⟩)
 have hf:H1 s1.heap.objs.size=none:=I1.hok.fresh (Nat.le_refl _)
 refine⟨.ref s1.heap.objs.size,upd H1 s1.heap.objs.size (.lst xs),I1.laid (t':=s1.toks) (fun b u e=>Heap.get?_push_of_some _ e) (Nat.le_refl _) ?_,rfl,q _ hf⟩
 exact⟨z,us,0,r,Heap.get?_push_size _ rfl⟩
end
noncomputable abbrev Sp:=List V->Hp->VK->XK->Prop
noncomputable abbrev CXT:=List Env->Hp->Shared->XK->Value->Shared->Prop
structure Env0 (P:Program) (w:World) (K:PySem.W.Frag) (mg:Str->Option Value) (base:Heap) (A:Around) (outer:List Env) (s:Shared) (H:Hp):Prop where
 frames:A.frames=some outer
 mod:Mod K mg base
 bs:∀b o,base.get? b=some o->s.heap.get? b=some o/\H b=none
 bsz:base.objs.size<=s.heap.objs.size
 funs:s.heap.FunFrames base outer
 frf:∀b∈frs outer,H b=none
 hok:HOk P w H s.heap
 bare:AllBare s.gens
noncomputable def CE (outer:List Env)(P:Program)(w:World)(H:Hp)(s:Shared)(Q:VK)(u:Value)(s':Shared):Prop:=
 ∃v H',s'.os=s.os/\AllBare s'.gens/\Un (frs outer) [] H H' s.heap s'.heap/\HOk P w H' s'.heap/\RelV v u/\Q v H'
noncomputable def CR (CX:CXT)(outer:List Env)(P:Program)(w:World)(H:Hp)(s:Shared)(Q:VK)(E:XK)(r:Result)(s':Shared):Prop:=
 match r with
 |.ok (.ret u)=>CE outer P w H s Q u s'
 |.ok _=>False
 |.error e=>CX outer H s E e s'
structure FnOk (P:Program) (w:World) (K:PySem.W.Frag) (mg:Str->Option Value) (base:Heap) (CX:CXT) (k:Nat) (f:Addr) (fd:FuncData) (ps:List Str) (sp:Sp):Prop where
 len:∀vs H Q E,sp vs H Q E->vs.length=ps.length
 run:∀(A:Around) (outer:List Env) (s:Shared) (H:Hp) (args:Args) (us:List Value) (vs:List V) (Q:VK) (E:XK),Room k A->Env0 P w K mg base A outer s H->BindsTo s fd args (ps.zip us)->Vals vs us->sp vs H Q E->
  codeAny (model P w) A (.call (.ref f) args) (CR CX outer P w H s Q E) s
theorem FnOk.mono {P:Program}{w:World}{K:PySem.W.Frag}{mg:Str->Option Value}{base:Heap}{CX:CXT}{j k:Nat}{f:Addr}{fd:FuncData}{ps:List Str}{sp:Sp}(F:FnOk P w K mg base CX j f fd ps sp)(h:j<=k) :
 FnOk P w K mg base CX k f fd ps sp:=⟨F.len,fun A outer s H args us vs Q E hr=>F.run A outer s H args us vs Q E (hr.mono h)⟩
theorem Env0.make {P:Program}{w:World}{K:PySem.W.Frag}{mg:Str->Option Value}{base:Heap}{A:Around}{outer:List Env}{s:Shared}{H:Hp}(e:Env0 P w K mg base A outer s H)(C:Addr)(us:List Value)(kw:List (Str × Value)) :
 Env0 P w K mg base (A.under (.builtin "type.__call__" ⟨.ref C::us,kw⟩)) outer s H:=⟨by first|exact e.frames|(simpa[Around.under,Code.envs,Code.isFrame,pushEnvs] using e.frames),e.mod,e.bs,e.bsz,e.funs,e.frf,e.hok,e.bare⟩
theorem Env0.in1 {P:Program}{w:World}{K:PySem.W.Frag}{mg:Str->Option Value}{base:Heap}{A:Around}{outer:List Env}{s:Shared}{H:Hp}(e:Env0 P w K mg base A outer s H) :
 Env0 P w K mg base A.in1 outer s H:=⟨e.frames,e.mod,e.bs,e.bsz,e.funs,e.frf,e.hok,e.bare⟩
section
variable {X:Cx} {pins:List (Addr × Obj)} {σ:St} {H:Hp} {s s':Shared}
theorem Inv.env0 (I:Inv X pins σ H s):Env0 X.prog X.w X.K X.mg X.base X.A X.stack s H:=
 ⟨I.ok.frames,I.ok.mod,I.bs,Nat.le_trans I.ok.bsz I.sz,I.stack,I.stkFree,I.hok,I.bare⟩
theorem Inv.after {Q:VK}{u:Value}(I:Inv X pins σ H s)(h:CE X.stack X.prog X.w H s Q u s'):EP X pins σ Q u s':=by
 obtain⟨v,H',os,bare,un,hok,r,q⟩:=h
 obtain⟨hh,g,d,t,os'⟩:=s'
 obtain rfl:os'=s.os:=os
 exact⟨v,H',I.call (h':=hh) (g':=g) (d':=d) (t':=t) (ch:=[]) un hok bare (fun b z=>absurd z (by simp)),r,q⟩
end
noncomputable def zgf (sp:Sp)(dvs:List V)(E:XK)(t:TA):TE:=fun σ H Q=>t σ H fun vs H1=>sp (vs++dvs) H1 Q E
noncomputable def Binds (K:PySem.W.Frag)(fd:FuncData)(ps:List Str)(ds:List Value):Prop:=
 ∀(s:Shared) (us:List Value),K.In s.heap->(us++ds).length=ps.length->BindsTo s fd ⟨us,[]⟩ (ps.zip (us++ds))
theorem Binds.all {K:PySem.W.Frag}{fd:FuncData}{ps:List Str}(h:∀us:List Value,us.length=ps.length->bindArgs fd ⟨us,[]⟩=pure (ps.zip us)):Binds K fd ps []:=fun s us _ hl=>by
 rw[List.append_nil] at hl⊢
 exact .of_eq (h us hl)
noncomputable def zfu (CX:CXT)(X:Cx)(E:XK):Prop:=∀(pins:List (Addr × Obj)) (σ:St) (H:Hp) (s:Shared) (e:Value) (s':Shared),Inv X pins σ H s->CX X.stack H s E e s'->X.xe e s'
section
variable {X:Cx} {CX:CXT} {k:Nat} {f C:Addr} {fd:FuncData} {ps:List Str} {sp:Sp} {dvs:List V} {ds:List Value} {E:XK} {x m:Str} {p pos apos:Pos} {e o:Expr} {es:List Expr} {ta:TE} {t:TA}
theorem ziU {pins:List (Addr × Obj)}{σ:St}{H:Hp}{s:Shared}{Q:VK}{us:List Value}{vs:List V}(F:FnOk X.prog X.w X.K X.mg X.base CX k f fd ps sp)(hr:Room k X.A)(hb:Binds X.K fd ps ds)(hd:Vals dvs ds)(hx:zfu CX X E)
  (I:Inv X pins σ H s) (r:Vals vs us) (h:sp (vs++dvs) H Q E):wpAny (model X.prog X.w) X.A (call (.ref f) us) (EP X pins σ Q) X.xe s:=by
 have r2:Vals (vs++dvs) (us++ds):=r.append hd
 have hl:(us++ds).length=ps.length:=by rw[<-r2.length];exact F.len _ _ _ _ h
 refine wpAny_call (codeAny_mono (F.run X.A X.stack s H ⟨us,[]⟩ (us++ds) (vs++dvs) Q E hr I.env0 (hb s us I.kIn hl) r2 h) fun r s' hq=>?_)
 cases r with
 |error e=>exact hx pins σ H s e s' I hq
 | ok fl =>
   cases fl with
   |ret u=>exact I.after hq
   |next=>exact False.elim hq
   |brk=>exact False.elim hq
   |cont=>exact False.elim hq
theorem zj1 (F:FnOk X.prog X.w X.K X.mg X.base CX k f fd ps sp)(hr:Room k X.A)(hg:Gl X x)(hm:X.mg x=some (.ref f))(hk:PySem.W.keepIn X.K (.ref f)=true)(hb:Binds X.K fd ps ds)(hd:Vals dvs ds)(hx:zfu CX X E)
  (ha:PA X (e::es) t) (hdb:(x == ("__debug__":Str))=false:=by decide) (he:starEach (e::es) X.env=(false,eval e X.env)::starEach es X.env:=by rfl) (hpl:(backTo pos (starEach es X.env)).any (·.1)=false:=by rfl) :
  PE X (.Call (.Name x p) (e::es) [] pos) (zgf sp dvs E t):=by
 intro pins s σ H Q I h
 refine wpAny_Call_Name_kw (zbD I hg hm ?_ hdb)
 refine PySem.W.callWith_K (h₀:=X.base) I.ok.mod.kin hk (thn (ha pos pins s σ H _ I h) fun us s1 ⟨vs,H1,I1,r,q⟩=>⟨I1.kIn,?_⟩) he hpl
 exact ziU F hr hb hd hx I1 r q
theorem zh6 (F:FnOk X.prog X.w X.K X.mg X.base CX k f fd ps sp)(hr:Room k X.A)(hg:Gl X x)(hm:X.mg x=some (.ref f))(hk:PySem.W.keepIn X.K (.ref f)=true)(hb:Binds X.K fd ps ds)(hd:Vals dvs ds)(hx:zfu CX X E)
  (hdb:(x == ("__debug__":Str))=false:=by decide):PE X (.Call (.Name x p) [] [] pos) (zgf sp dvs E tNil):=by
 intro pins s σ H Q I h
 refine wpAny_Call_Name_kw (zbD I hg hm ?_ hdb)
 exact PySem.W.callWith_K0 I.kIn hk (ziU (us:=[]) F hr hb hd hx I .nil h)
structure Mk (K:PySem.W.Frag) (C f:Addr):Prop where
 makes:PySem.W.makesIn K C=true
 init:PySem.W.findIn K (.ref C) "__init__"=some (some (.ref f))
 fn:PySem.W.isFn K (.ref f)=true
 kp:PySem.W.keepIn K (.ref C)=true
end
section
variable {X:Cx} {CX:CXT} {k:Nat} {f C:Addr} {fd:FuncData} {ps ks:List Str} {sp:Sp} {E:XK} {x m:Str} {p pos apos kpos:Pos} {e o:Expr} {es:List Expr} {kws:List Keyword} {te ta:TE} {t tk:TA} {nm:Option Str}
structure KBinds (K:PySem.W.Frag) (fd:FuncData) (ps ks:List Str) (g:List Value->List Value->List Value) (gV:List V->List V->List V):Prop where
 to:∀(s:Shared) (us ws:List Value),K.In s.heap->(g us ws).length=ps.length->BindsTo s fd ⟨us,ks.zip ws⟩ (ps.zip (g us ws))
 rel:∀{vs:List V} {us:List Value} {zs:List V} {ws:List Value},Vals vs us->Vals zs ws->Vals (gV vs zs) (g us ws)
variable {g:List Value->List Value->List Value} {gV:List V->List V->List V}
end
structure FnScope (N P:List Str) (sc:Scope):Prop where
 kind:sc.kind=.function
 co:sc.isCoroutine=false
 gen:sc.isGenerator=false
 nd:N.Nodup
 pre:N.take P.length=P
 par:∀x∈P,sc.names.lookup x=some .local\/sc.names.lookup x=some .cell
 nofree:∀y∈sc.names,y.2≠.free
theorem zee {kindOf:Str->Option NameKind}{x:Str}:∀{binds:List (Str × Value)} {m:Str->Option Value},(∀v,(x,v)∉binds)->bindL kindOf binds m x=m x
 | [],_,_=>rfl
 | (n, v) :: r, m, h => by
   unfold bindL
   rw[zee fun w hw=>h w (List.mem_cons_of_mem _ hw)]
   split
   · have:x≠n:=by rintro rfl;exact h v List.mem_cons_self
     simp[this]
   · rfl
theorem zeg {kindOf:Str->Option NameKind}{x:Str}:∀{binds:List (Str × Value)} {m:Str->Option Value},(∀v,(x,v)∉binds)->bindC kindOf binds m x=m x
 | [],_,_=>rfl
 | (n, v) :: r, m, h => by
   unfold bindC
   rw[zeg fun w hw=>h w (List.mem_cons_of_mem _ hw)]
   split
   · rfl
   · have:x≠n:=by rintro rfl;exact h v List.mem_cons_self
     simp[this]
theorem zef {kindOf:Str->Option NameKind}{x:Str}{v:Value}:∀{P:List Str} {vs:List Value} {i:Nat} {m:Str->Option Value},P.Nodup->P[i]?=some x->vs[i]?=some v->kindOf x=some .local->
  bindL kindOf (P.zip vs) m x=some v
 | [],_,_,_,_,h,_,_=>by simp at h
 |_::_,[],_,_,_,_,h,_=>by simp at h
 | p :: P, w :: vs, 0, m, nd, h1, h2, hk => by
   simp at h1 h2;subst h1;subst h2
   show bindL kindOf ((p,w)::P.zip vs) m p=_
   unfold bindL
   rw[zee fun v hv=>(List.nodup_cons.mp nd).1 (List.of_mem_zip hv).1,if_pos hk]
   simp
 | p :: P, w :: vs, i + 1, m, nd, h1, h2, hk => by
   show bindL kindOf ((p,w)::P.zip vs) m x=_
   unfold bindL
   exact zef (i:=i) (List.nodup_cons.mp nd).2 (by simpa using h1) (by simpa using h2) hk
theorem zeh {kindOf:Str->Option NameKind}{x:Str}{v:Value}:∀{P:List Str} {vs:List Value} {i:Nat} {m:Str->Option Value},P.Nodup->P[i]?=some x->vs[i]?=some v->kindOf x≠some .local->
  bindC kindOf (P.zip vs) m x=some v
 | [],_,_,_,_,h,_,_=>by simp at h
 |_::_,[],_,_,_,_,h,_=>by simp at h
 | p :: P, w :: vs, 0, m, nd, h1, h2, hk => by
   simp at h1 h2;subst h1;subst h2
   show bindC kindOf ((p,w)::P.zip vs) m p=_
   unfold bindC
   rw[zeg fun v hv=>(List.nodup_cons.mp nd).1 (List.of_mem_zip hv).1,if_neg hk]
   simp
 | p :: P, w :: vs, i + 1, m, nd, h1, h2, hk => by
   show bindC kindOf ((p,w)::P.zip vs) m x=_
   unfold bindC
   exact zeh (i:=i) (List.nodup_cons.mp nd).2 (by simpa using h1) (by simpa using h2) hk
noncomputable def start (N:List Str)(vs:List V):St:=vs.map some++List.replicate (N.length - vs.length) none
noncomputable def cxOf (CX:CXT)(P:Program)(w:World)(K:PySem.W.Frag)(mg:Str->Option Value)(base:Heap)(N:List Str)(qual:Str)(scope:Scope)(f:Addr)(cd:Value)(A:Around)(outer:List Env)(s:Shared)(H:Hp)(E:XK):Cx where
 prog:=P
 w:=w
 K:=K
 mg:=mg
 base:=base
 A:=A.deeper (envOfC qual scope s.heap.objs.size f cd)
 N:=N
 s₀:=s
 H₀:=H
 env:=envOfC qual scope s.heap.objs.size f cd
 outer:=outer
 stack:=envOfC qual scope s.heap.objs.size f cd::outer
 ex:=[]
 calm:=true
 fn:=fun _=>true
 pn:=[]
 xe:=fun e s'=>wpAny (model P w) (A.deeper (envOfC qual scope s.heap.objs.size f cd)) (leaving (envOfC qual scope s.heap.objs.size f cd) e) (fun _ s''=>CX outer H s E e s'') (fun e' s''=>CX outer H s E e' s'') s'
theorem zfq {sc:Scope}{n:Nat}{x:Str}(h:sc.names.lookup x=some .cell):∃c,(cellsFrom n sc.names []).lookup x=some c:=by
 have q:=PySem.W.cellsFrom_some sc.names n [] (.inl h)
 exact Option.isSome_iff_exists.mp q
theorem zgW {CX:CXT}{P:Program}{w:World}{K:PySem.W.Frag}{mg:Str->Option Value}{base:Heap}{N ps:List Str}{qual:Str}{scope:Scope}{f:Addr}{cd:Value}{A:Around}{outer:List Env}{s s1:Shared}{H:Hp}{E:XK}{us:List Value}{vs:List V}
  (S:FnScope N ps scope) (hd:A.handled=none) (e0:Env0 P w K mg base A outer s H) (hl:vs.length=ps.length) (r:Vals vs us)
  (x:InCallC s s.heap.objs.size (bindL (envOfC qual scope s.heap.objs.size f cd).kindOf (ps.zip us) fun _=>none) (cellsFrom (s.heap.objs.size+1) scope.names []) (bindC (envOfC qual scope s.heap.objs.size f cd).kindOf (ps.zip us) fun _=>none) s1) :
  Inv (cxOf CX P w K mg base N qual scope f cd A outer s H E) [] (start N vs) H s1:=by
 have hpl:ps.length<=N.length:=by have:=congrArg List.length S.pre;rw[List.length_take] at this;omega
 obtain⟨h1,tk,rfl,hk⟩:=x.done
 have noA:∀b:Addr,b∉(cxOf CX P w K mg base N qual scope f cd A outer s H E).ex:=fun b z=>absurd (show b∈([]:List Addr) from z) (by simp)
 refine⟨⟨e0.mod,S.kind,rfl,rfl,Nat.le_refl _,fun y z c h1 h2=>?_,fun y hy=>?_,fun y c _ h=>?_,fun _=>hd,Around.frames_deeper e0.frames,.inr ⟨rfl,rfl⟩,fun b z=>absurd z (noA b),e0.bs,e0.bsz,fun b _ _=>noA b,fun b z=>absurd z (noA b),e0.funs,e0.frf⟩,
  rfl,e0.bare,Un.kept hk,⟨_,x.toInCall.ns,fun i y v h1 h2 h3=>?_⟩,fun y c h=>⟨_,x.cell y c h⟩,e0.hok.fresh (Nat.le_refl _),fun y c h=>?_,fun p hp=>absurd (show p∈([]:List (Addr × Obj)) from hp) (by simp),e0.hok.kept hk,?_⟩
 · exact name_of_addr x.apart (PySem.mem_of_lookup h1) (PySem.mem_of_lookup h2)
 · have hy:scope.names.lookup y=some .cell\/scope.names.lookup y=some .free:=hy
   rcases hy with hy|hy
   · exact zfq hy
   · exact absurd rfl (S.nofree _ (PySem.mem_of_lookup hy))
 · exact Nat.le_of_lt (x.above y c (PySem.mem_of_lookup h))
 · have hi:i<vs.length:=by
    unfold start at h2
    by_cases hi:i<vs.length
    · exact hi
    · rw[List.getElem?_append_right (by simpa using hi)] at h2
      rw[List.getElem?_replicate] at h2
      split at h2<;>cases h2
   have ha:vs[i]?=some v:=by
    unfold start at h2
    rw[List.getElem?_append_left (by simpa using hi),List.getElem?_map] at h2
    cases e:vs[i]? with
    |none=>rw[e] at h2;cases h2
    |some a=>rw[e] at h2;cases h2;rfl
   obtain⟨u,hu,rv⟩:=r.get ha
   have hp:ps[i]?=some y:=by
    rw[<-S.pre,List.getElem?_take_of_lt (by omega)];exact h1
   have ndP:ps.Nodup:=by rw[<-S.pre];exact S.nd.sublist (List.take_sublist _ _)
   refine⟨u,rv,?_⟩
   rcases S.par y (List.mem_of_getElem? hp) with k|k
   · exact .inl ⟨k,zef ndP hp hu k⟩
   · obtain⟨c,e⟩:=zfq (n:=s.heap.objs.size+1) k
     refine .inr ⟨.inl k,c,e,?_⟩
     have q:=x.cell y c e
     rw[zeh ndP hp hu (by show scope.names.lookup y≠_;rw[k];decide)] at q
     exact q
 · exact e0.hok.fresh (Nat.le_of_lt (x.above y c (PySem.mem_of_lookup h)))
 · unfold start
   show _=N.length
   rw[List.length_append,List.length_map,List.length_replicate]
   omega
theorem zmz {CX:CXT}{P:Program}{w:World}{K:PySem.W.Frag}{mg:Str->Option Value}{base:Heap}{k:Nat}{f:Addr}{name qual:Str}{params:Arguments}{body:List Stmt}{scope:Scope}{dV kV doc pm cdv ct oc:Value}{an od:Option Addr}
  {osl:Array (Option Value)} {N ps:List Str} {sp:Sp} (lk:K.lookup f=some ⟨oc,od,.func (PySem.W.fnOf name qual params body scope dV kV doc pm an cdv ct),osl⟩) (hcd:PySem.W.codeIn K cdv qual=true) (S:FnScope N ps scope)
  (len:∀vs H Q E,sp vs H Q E->vs.length=ps.length)
  (hbody:∀(A:Around) (outer:List Env) (s:Shared) (H:Hp) (vs:List V) (Q:VK) (E:XK),Room k (A.deeper (envOfC qual scope s.heap.objs.size f cdv))->sp vs H Q E->
   ∃t,PSs (cxOf CX P w K mg base N qual scope f cdv A outer s H E) body t/\t {nx:=fun _ H'=>Q .non H',rt:=Q} (start N vs) H) :
  FnOk P w K mg base CX (k+1) f (PySem.W.fnOf name qual params body scope dV kV doc pm an cdv ct) ps sp:=by
 refine⟨len,fun A outer s H args us vs Q E hr e0 hb r hsp=>?_⟩
 have hl:=len _ _ _ _ hsp
 have KX:K.In s.heap:=e0.mod.kin.keeps fun b o e=>(e0.bs b o e).1
 have lim:s.heap.NoLimit:=e0.mod.nolimit.keeps fun b o e=>(e0.bs b o e).1
 have hkind:∀y∈ps.zip us,scope.names.lookup y.1=some .local\/(scope.names.lookup y.1=some .cell/\((cellsFrom (s.heap.objs.size+1) scope.names []).lookup y.1).isSome=true):=fun⟨n,v⟩ hy=>by
  rcases S.par n (List.of_mem_zip hy).1 with q|q
  · exact .inl q
  · exact .inr ⟨q,PySem.W.cellsFrom_some _ _ _ (.inl q)⟩
 refine codeAny_call_function hr.depth (KX _ _ lk) rfl S.co S.gen rfl (PySem.W.codeRec_of KX hcd) (hb _ _ _ _ ?_)
 refine wpAny_newFunctionEnv_cells S.kind hkind fun env he s1 x=>?_
 subst he
 refine⟨lim.keeps x.toInCall.keep,codeAny_func ?_⟩
 obtain⟨t,ht,hq⟩:=hbody A outer s H vs Q E (hr.deeper _) hsp
 have I:Inv (cxOf CX P w K mg base N qual scope f cdv A outer s H E) [] (start N vs) H s1:=zgW S hr.hd e0 hl r x
 refine wpAny_mono (ht [] s1 (start N vs) H _ I hq) (fun fl s' hs=>?_) fun e s' hs=>hs
 have fin:∀{σ':St} {H':Hp} {v:V} {u:Value},Inv (cxOf CX P w K mg base N qual scope f cdv A outer s H E) [] σ' H' s'->RelV v u->Q v H'->CE outer P w H s Q u s':=
  fun {σ' H' v u} J rv q=>⟨v,H',J.os,J.bare,J.base,J.hok,rv,q⟩
 cases fl with
 | ret u =>
   obtain⟨v,σ',H',J,rv,q⟩:=hs
   exact fin J rv q
 | next =>
   obtain⟨σ',H',J,q⟩:=hs
   exact fin (v:=V.non) (u:=Value.none) J rfl q
 | brk =>
   obtain⟨_,_,_,q⟩:=hs
   exact False.elim q
 | cont =>
   obtain⟨_,_,_,q⟩:=hs
   exact False.elim q
end L2
namespace L2
open PySem PySem.Spec PyProof.Rows
section
variable {X:Cx} {x:Str} {p pos:Pos} {e:Expr} {es:List Expr} {t:TA} {id T:String} {r:List V->Hp->VK->Prop}
noncomputable def tCB (r:List V->Hp->VK->Prop)(t:TA):TE:=fun σ H Q=>t σ H fun vs H1=>r vs H1 Q
theorem zbN (hc:zaV X (.builtin id) r)(hg:Gl X x)(hm:X.mg x=none)(hv:bootBuiltins x=some (.builtin id))(ha:PA X (e::es) t)(hn:x≠"__name__":=by decide)(hdb:(x == ("__debug__":Str))=false:=by decide)
  (he:starEach (e::es) X.env=(false,eval e X.env)::starEach es X.env:=by rfl) (hpl:(backTo pos (starEach es X.env)).any (·.1)=false:=by rfl):PE X (.Call (.Name x p) (e::es) [] pos) (tCB r t):=by
 intro pins s σ H Q I h
 refine wpAny_Call_Name_kw (zdV I hg hm hv ?_ hn hdb)
 exact PyProof.Rows.callWith_builtin1 (thn (ha pos pins s σ H _ I h) fun us s1 ⟨vs,H1,I1,r1,q1⟩=>hc pins s1 σ H1 vs us Q I1 r1 q1) he hpl
theorem zbM (hc:zaV X (.type T) r)(hg:Gl X x)(hm:X.mg x=none)(hv:bootBuiltins x=some (.type T))(ha:PA X (e::es) t)(hn:x≠"__name__":=by decide)(hdb:(x == ("__debug__":Str))=false:=by decide)
  (he:starEach (e::es) X.env=(false,eval e X.env)::starEach es X.env:=by rfl) (hpl:(backTo pos (starEach es X.env)).any (·.1)=false:=by rfl):PE X (.Call (.Name x p) (e::es) [] pos) (tCB r t):=by
 intro pins s σ H Q I h
 refine wpAny_Call_Name_kw (zdV I hg hm hv ?_ hn hdb)
 exact PyProof.Rows.callWith_type1 (thn (ha pos pins s σ H _ I h) fun us s1 ⟨vs,H1,I1,r1,q1⟩=>hc pins s1 σ H1 vs us Q I1 r1 q1) he hpl
end
end L2
namespace L2
open PySem PySem.Spec PyProof.Rows
section
variable {κ:Type} [DecidableEq κ]
noncomputable def valV (kvs:List (κ × V))(k:κ):Option V:=(kvs.find? fun kv=>decide (kv.1=k)).map (·.2)
noncomputable def putK (kvs:List (κ × V))(k:κ)(v:V):List (κ × V):=
 if (kvs.any fun kv=>decide (kv.1=k))=true then kvs.map (fun kv=>if kv.1=k then (kv.1,v) else kv) else kvs++[(k,v)]
theorem zc5 {p:κ × V}{r:List (κ × V)}{k:κ}(e:p.1=k):valV (p::r) k=some p.2:=by simp[valV,List.find?_cons,e]
theorem zc6 {p:κ × V}{r:List (κ × V)}{k:κ}(e:¬p.1=k):valV (p::r) k=valV r k:=by simp[valV,List.find?_cons,e]
theorem zeR (k:κ):∀kvs:List (κ × V),(kvs.any fun kv=>decide (kv.1=k))=(valV kvs k).isSome
 | []=>rfl
 | p :: r => by
   rw[List.any_cons]
   by_cases e:p.1=k
   · simp only[zc5 e,decide_eq_true e,Bool.true_or,Option.isSome_some]
   · rw[zc6 e,decide_eq_false e,Bool.false_or];exact zeR k r
theorem zct (kvs:List (κ × V))(k:κ)(v:V):(putK kvs k v).length<=kvs.length+1:=by
 unfold putK
 split
 · rw[List.length_map];omega
 · rw[List.length_append,List.length_cons,List.length_nil];omega
theorem RelO.isSome_eq {o:Option V}{u:Option Value}(r:RelO o u):o.isSome=u.isSome:=by
 cases o with
 | none => cases u with
   |none=>rfl
   |some _=>exact (show False from r).elim
 | some _ => cases u with
   |none=>exact (show False from r).elim
   |some _=>rfl
theorem RelO.getD {o:Option V}{u:Option Value}{d:V}{d':Value}(r:RelO o u)(rd:RelV d d'):RelV (o.getD d) (u.getD d'):=by
 cases o with
 | none => cases u with
   |none=>exact rd
   |some _=>exact (show False from r).elim
 | some _ => cases u with
   |none=>exact (show False from r).elim
   |some _=>exact r
theorem KV.val {kvs:List (κ × V)}{vs:List (κ × Value)}(r:KV kvs vs)(k:κ):RelO (valV kvs k) (valueAt vs k):=by
 unfold KV at r
 induction r with
 |nil=>exact True.intro
 | @cons p q ps qs h t ih =>
   obtain⟨h1,h2⟩:=h
   by_cases e:p.1=k
   · have e':q.1=k:=h1.symm.trans e
     have b:valueAt (q::qs) k=some q.2:=by simp[valueAt,List.find?_cons,e']
     rw[zc5 e,b];exact h2
   · have e':¬q.1=k:=fun z=>e (h1.trans z)
     have b:valueAt (q::qs) k=valueAt qs k:=by simp[valueAt,List.find?_cons,e']
     rw[zc6 e,b];exact ih
theorem KV.any {kvs:List (κ × V)}{vs:List (κ × Value)}(r:KV kvs vs)(k:κ):(kvs.any fun kv=>decide (kv.1=k))=vs.any fun kv=>decide (kv.1=k):=by
 unfold KV at r
 induction r with
 |nil=>rfl
 |cons h t ih=>rw[List.any_cons,List.any_cons,ih,h.1]
theorem KV.repl {kvs:List (κ × V)}{vs:List (κ × Value)}(r:KV kvs vs)(k:κ){y:V}{u:Value}(ry:RelV y u) :
  KV (kvs.map fun kv=>if kv.1=k then (kv.1,y) else kv) (vs.map fun kv=>if kv.1=k then (kv.1,u) else kv):=by
 unfold KV at r⊢
 induction r with
 |nil=>exact .nil
 | @cons p q ps qs h t ih =>
   rw[List.map_cons,List.map_cons]
   refine .cons ?_ ih
   obtain⟨h1,h2⟩:=h
   by_cases e:p.1=k
   · rw[if_pos e,if_pos (h1.symm.trans e)];exact⟨h1,ry⟩
   · rw[if_neg e,if_neg (fun z=>e (h1.trans z))];exact⟨h1,h2⟩
theorem KV.put {kvs:List (κ × V)}{vs:List (κ × Value)}(r:KV kvs vs)(k:κ){y:V}{u:Value}(ry:RelV y u):KV (putK kvs k y) (stored vs k u):=by
 unfold putK stored
 rw[r.any k]
 by_cases e:(vs.any fun kv=>decide (kv.1=k))=true
 · rw[if_pos e,if_pos e];exact r.repl k ry
 · rw[if_neg e,if_neg e];exact Paired.snoc r ⟨rfl,ry⟩
theorem KV.length {kvs:List (κ × V)}{vs:List (κ × Value)}(r:KV kvs vs):kvs.length=vs.length:=Paired.length r
end
theorem zif {P:Program}{w:World}{k:Key}{u:Value}(r:RelV (kV k) u):(zaq P w).is k u=true:=by
 cases k with
 |inl i=>obtain⟨t,e⟩:=(show ∃t,u=Value.int i t from r);subst e;exact zeA P w i t
 |inr x=>obtain⟨t,e⟩:=(show ∃t,u=Value.str x t from r);subst e;exact zez P w x t
theorem zdX {P:Program}{w:World}:∀{ks:List Key} {us:List Value},Vals (ks.map kV) us->ItemsAre (zaq P w) ks us
 | [],_,r=>by rw[List.map_nil] at r;cases r;exact .nil
 | k :: ks, _, r => by
   rw[List.map_cons] at r
   cases r with
   |cons h t=>exact .cons (zif h) (zdX t)
noncomputable abbrev KT (H:Hp):List (List Key × V)->List (List Key × Addr × Value)->Prop:=Paired fun p q=>p.1=q.1/\H q.2.1=some (.tup (p.1.map kV))/\RelV p.2 q.2.2
theorem KT.val {H:Hp}{kvs:List (List Key × V)}{xs:List (List Key × Addr × Value)}(r:KT H kvs xs)(k:List Key):RelO (valV kvs k) ((atKey xs k).map (·.2)):=by
 induction r with
 |nil=>exact True.intro
 | @cons p q ps qs h t ih =>
   obtain⟨h1,_,h2⟩:=h
   by_cases e:p.1=k
   · have e':q.1=k:=h1.symm.trans e
     have b:atKey (q::qs) k=some q.2:=by simp[atKey,List.find?_cons,e']
     rw[zc5 e,b];exact h2
   · have e':¬q.1=k:=fun z=>e (h1.trans z)
     have b:atKey (q::qs) k=atKey qs k:=by simp[atKey,List.find?_cons,e']
     rw[zc6 e,b];exact ih
theorem KT.repl {H:Hp}{kvs:List (List Key × V)}{xs:List (List Key × Addr × Value)}(r:KT H kvs xs)(k:List Key){y:V}{u:Value}(ry:RelV y u) :
  KT H (kvs.map fun kv=>if kv.1=k then (kv.1,y) else kv) (xs.map (putAt k u)):=by
 induction r with
 |nil=>exact .nil
 | @cons p q ps qs h t ih =>
   rw[List.map_cons,List.map_cons]
   refine .cons ?_ ih
   obtain⟨h1,h2,h3⟩:=h
   unfold putAt
   by_cases e:p.1=k
   · rw[if_pos e,if_pos (h1.symm.trans e)];exact⟨h1,h2,ry⟩
   · rw[if_neg e,if_neg (fun z=>e (h1.trans z))];exact⟨h1,h2,h3⟩
theorem KT.put {H:Hp}{kvs:List (List Key × V)}{xs:List (List Key × Addr × Value)}(r:KT H kvs xs)(k:List Key){b:Addr}{y:V}{u:Value}(hb:H b=some (.tup (k.map kV)))(ry:RelV y u) :
  KT H (putK kvs k y) (storedH xs k b u):=by
 have e:(kvs.any fun kv=>decide (kv.1=k))=(atKey xs k).isSome:=by
  rw[zeR,(r.val k).isSome_eq,Option.isSome_map]
 unfold putK storedH
 rw[e]
 by_cases q:(atKey xs k).isSome=true
 · rw[if_pos q,if_pos q];exact r.repl k ry
 · rw[if_neg q,if_neg q];exact Paired.snoc r ⟨rfl,hb,ry⟩
theorem KT.keeps {H H':Hp}{kvs:List (List Key × V)}{xs:List (List Key × Addr × Value)}(r:KT H kvs xs)(ht:∀b ys,H b=some (.tup ys)->H' b=some (.tup ys)):KT H' kvs xs:=
 Paired.mapP r fun _ _ z=>⟨z.1,ht _ _ z.2.1,z.2.2⟩
section
variable {P:Program} {w:World} {H:Hp} {h:Heap} {a:Addr}
theorem zlC {u:HO}(ok:HOk P w H h)(e:Rd H a u):ObjOk P w H h a u:=e.ok ok
theorem zix {kvs:List (Key × V)}(ok:HOk P w H h)(e:Rd H a (.dK kvs)):kvs.length<=sizeLine/\(a == sysModules)=false/\∃vs,KV kvs vs/\h.DictOf (zaq P w) a vs:=
 show ObjOk P w H h a (.dK kvs) from zlC ok e
theorem znX {kvs:List (Key × V)}(ok:HOk P w H h)(e:H a=some (.dK kvs)):kvs.length<=sizeLine/\(a == sysModules)=false/\∃vs,KV kvs vs/\h.DictOf (zaq P w) a vs:=zix ok (.inl e)
theorem zdW {ks:List Key}(ok:HOk P w H h)(e:H a=some (.tup (ks.map kV))):(tupleKind (zaq P w)).is h ks a:=by
 obtain⟨_,its,r,o,h1,h2,n,h3⟩:=(show ObjOk P w H h a (.tup (ks.map kV)) from ok a _ e)
 exact⟨o,its.toArray,n,h1,h2,h3,by simpa using zdX r⟩
theorem zky {kvs:List (List Key × V)}(ok:HOk P w H h)(e:Rd H a (.dT kvs)):kvs.length<=sizeLine/\(a == sysModules)=false/\
  ∃xs,KT H kvs xs/\h.DictOfH (tupleKind (zaq P w)) a xs:=by
 obtain⟨z,y,xs,r,o,es,ep,h1,h2,h3,h4,h5⟩:=(show ObjOk P w H h a (.dT kvs) from zlC ok e)
 refine⟨z,y,xs,r,o,es,ep,h1,h2,h3,h4,fun x hx=>?_,h5⟩
 have all:∀{l:List (List Key × V)} {m:List (List Key × Addr × Value)},KT H l m->∀x∈m,(tupleKind (zaq P w)).is h x.1 x.2.1:=by
  intro l m q
  induction q with
  |nil=>intro x hx;exact nomatch hx
  | @cons p q ps qs hq t ih =>
    intro x hx
    rcases List.mem_cons.mp hx with e|hx
    · subst e
      exact zdW ok (by rw[<-hq.1];exact hq.2.1)
    · exact ih x hx
 exact all r x hx
theorem zfX {kvs:List (List Key × V)}(ok:HOk P w H h)(e:H a=some (.dT kvs)):kvs.length<=sizeLine/\(a == sysModules)=false/\
 ∃xs,KT H kvs xs/\h.DictOfH (tupleKind (zaq P w)) a xs:=zky ok (.inl e)
end
noncomputable def DGet (H:Hp)(a:Addr)(y:V)(r:Option V):Prop:=
 (∃kvs k,Rd H a (.dK kvs)/\y=kV k/\r=valV kvs k)\/∃kvs k b,Rd H a (.dT kvs)/\y=.ref b/\H b=some (.tup (k.map kV))/\r=valV kvs k
noncomputable def DPut (H:Hp)(a:Addr)(y v:V)(H':Hp):Prop:=
 (∃kvs k,H a=some (.dK kvs)/\y=kV k/\kvs.length<sizeLine/\H'=upd H a (.dK (putK kvs k v)))\/
 ∃kvs k b,H a=some (.dT kvs)/\y=.ref b/\H b=some (.tup (k.map kV))/\kvs.length<sizeLine/\H'=upd H a (.dT (putK kvs k v))
theorem DGet.k {H:Hp}{a:Addr}{kvs:List (Key × V)}{k:Key}(e:H a=some (.dK kvs)):DGet H a (kV k) (valV kvs k):=.inl ⟨kvs,k,.inl e,rfl,rfl⟩
theorem DGet.t {H:Hp}{a b:Addr}{kvs:List (List Key × V)}{k:List Key}(e:H a=some (.dT kvs))(eb:H b=some (.tup (k.map kV))):DGet H a (.ref b) (valV kvs k):=.inr ⟨kvs,k,b,.inl e,rfl,eb,rfl⟩
theorem DPut.k {H:Hp}{a:Addr}{kvs:List (Key × V)}{k:Key}{v:V}(e:H a=some (.dK kvs))(hl:kvs.length<sizeLine):DPut H a (kV k) v (upd H a (.dK (putK kvs k v))):=.inl ⟨kvs,k,e,rfl,hl,rfl⟩
theorem DPut.t {H:Hp}{a b:Addr}{kvs:List (List Key × V)}{k:List Key}{v:V}(e:H a=some (.dT kvs))(eb:H b=some (.tup (k.map kV)))(hl:kvs.length<sizeLine) :
 DPut H a (.ref b) v (upd H a (.dT (putK kvs k v))):=.inr ⟨kvs,k,b,e,rfl,eb,hl,rfl⟩
section
variable {X:Cx} {pins:List (Addr × Obj)} {σ:St} {H:Hp} {s:Shared} {a:Addr} {y v:V} {u r:Value} {o:Option V} {A:Around} {E:Value->Shared->Prop}
theorem d_in {Q:Value->Shared->Prop}(hu:A.units+1<cLine)(I:Inv X pins σ H s)(g:DGet H a y o)(ry:RelV y u)(h:∀s',Inv X pins σ H s'->Q (.bool o.isSome) s') :
  wpAny (model X.prog X.w) A (compareOp .In u (.ref a)) Q E s:=by
 rcases g with ⟨kvs,k,e,ey,l⟩|⟨kvs,k,b,e,ey,eb,l⟩
 · subst ey
   obtain⟨z,hd,vs,rel,dd⟩:=zix I.hok e
   refine wpAny_in_of (zif ry) hd dd.mapOf ?_
   rw[<-(rel.val k).isSome_eq,<-l]
   exact h _ (I.tok _)
 · subst ey
   cases (show u=Value.ref b from ry)
   obtain⟨z,hd,xs,rel,dd⟩:=zky I.hok e
   refine wpAny_in_heap (tupleKind_room_in1 hu) (zdW I.hok eb) hd dd ?_
   have q:=(rel.val k).isSome_eq
   rw[Option.isSome_map] at q
   rw[<-q,<-l]
   exact h _ (I.tok _)
theorem zkz {Q:Value->Shared->Prop}(hu:A.units+1<cLine)(I:Inv X pins σ H s)(g:DGet H a y o)(ry:RelV y u)(h:∀s',Inv X pins σ H s'->Q (.bool (!o.isSome)) s') :
  wpAny (model X.prog X.w) A (compareOp .NotIn u (.ref a)) Q E s:=by
 rcases g with ⟨kvs,k,e,ey,l⟩|⟨kvs,k,b,e,ey,eb,l⟩
 · subst ey
   obtain⟨z,hd,vs,rel,dd⟩:=zix I.hok e
   refine wpAny_notIn_of (zif ry) hd dd.mapOf ?_
   rw[<-(rel.val k).isSome_eq,<-l]
   exact h _ (I.tok _)
 · subst ey
   cases (show u=Value.ref b from ry)
   obtain⟨z,hd,xs,rel,dd⟩:=zky I.hok e
   refine wpAny_notIn_heap (tupleKind_room_in1 hu) (zdW I.hok eb) hd dd ?_
   have q:=(rel.val k).isSome_eq
   rw[Option.isSome_map] at q
   rw[<-q,<-l]
   exact h _ (I.tok _)
theorem zeF {h':Heap}{t':Nat}{ob:HO}(I:Inv X pins σ H s)(mu:Mut (H a))(hs:Heap.SameBut a s.heap h')(he:∃q,h'.get? a=some q)(new:ObjOk X.prog X.w (upd H a ob) h' a ob) :
  Inv X pins σ (upd H a ob) {s with heap:=h',toks:=t'}:=
 I.write (x:=a) (e:=a) mu (.inl rfl) (fun b q hb z=>(hs.2 b hb).trans z) he new
theorem zmG {P:Program}{w:World}{H':Hp}{h':Heap}{kvs:List (Key × V)}{vs:List (Key × Value)}(z:kvs.length<=sizeLine)(hd:(a == sysModules)=false)(rel:KV kvs vs)(dd:h'.DictOf (zaq P w) a vs) :
 ObjOk P w H' h' a (.dK kvs):=⟨z,hd,vs,rel,dd⟩
theorem zhk {H':Hp}{Q:Unit->Shared->Prop}(hu:A.units+1<cLine)(I:Inv X pins σ H s)(g:DPut H a y v H')(ry:RelV y u)(rv:RelV v r)(h:∀s',Inv X pins σ H' s'->Q () s') :
  wpAny (model X.prog X.w) A (setItem (.ref a) u r) Q E s:=by
 rcases g with ⟨kvs,k,e,ey,l,eH⟩|⟨kvs,k,b,e,ey,eb,l,eH⟩
 · subst ey eH
   obtain⟨z,hd,vs,rel,dd⟩:=znX I.hok e
   have hz:vs.length<=sizeLine:=by rw[<-rel.length];exact z
   have hl:(putK kvs k v).length<=sizeLine:=by have:=zct kvs k v;omega
   refine wpAny_setItem_pairs (hsz:=hz) (zif ry) dd fun h' dd' hs=>h _ ?_
   have he:∃q,h'.get? a=some q:=let ⟨q,_,_,hq,_⟩:=dd';⟨q,hq⟩
   exact zeF I (by rw[e];exact True.intro) hs he (zmG hl hd (rel.put k rv) dd')
 · subst ey eH
   cases (show u=Value.ref b from ry)
   obtain⟨z,hd,xs,rel,dd⟩:=zfX I.hok e
   have hz:xs.length<=sizeLine:=by rw[<-Paired.length rel];exact z
   have hl:(putK kvs k v).length<=sizeLine:=by have:=zct kvs k v;omega
   refine wpAny_setItem_heap (hsz:=hz) (tupleKind_room_in1 hu) (zdW I.hok eb) dd fun h' dd' hs=>h _ ?_
   obtain⟨q,es,ep,hq,h2,h3,h4,_,h5⟩:=dd'
   refine zeF I (by rw[e];exact True.intro) hs ⟨q,hq⟩ ⟨hl,hd,_,(rel.put k eb rv).keeps fun c ys ec=>?_,q,es,ep,hq,h2,h3,h4,h5⟩
   rw[zah (znF ec e (fun z=>nomatch z))]
   exact ec
end
section
variable {X:Cx} {pins:List (Addr × Obj)} {σ:St} {H:Hp} {s:Shared} {a:Addr} {kvs:List (Key × V)} {k:Key} {u:Value} {A:Around} {E:Value->Shared->Prop}
theorem znY {Q:Value->Shared->Prop}(I:Inv X pins σ H s)(e:Rd H a (.dK kvs))(h:∀t s',Inv X pins σ H s'->Q (.int kvs.length t) s'):wpAny (model X.prog X.w) A (call (.builtin "len") [.ref a]) Q E s:=by
 obtain⟨z,hd,vs,rel,dd⟩:=zix I.hok e
 refine call_len_dict hd dd (by rw[<-rel.length];rw[sizeLine_eq] at z;omega) ?_
 rw[<-rel.length]
 exact h _ _ (I.tok _)
end
section
variable {X:Cx} {o i e value:Expr} {pos pos' tpos:Pos} {td ty tv:TE}
end
section
variable {X:Cx} {pos:Pos}
end
structure M1 (X:Cx) (o:Expr) (m:Str) (apos:Pos) (e:Expr) (cpos:Pos):Prop where
 base:attributeBase o m X.env (eval o X.env)=eval o X.env
 few:((backTo cpos (starEach [e] X.env)).all (fun x=>!x.1)&&(backToKw cpos (keywordEach [] X.env)).all (fun x=>x.1.isSome)
  && decide (([e]:List Expr).length+([]:List Keyword).length+(if ([]:List Keyword).isEmpty then 0 else 1)<30))=true
 line:(apos.endLine == cpos.line)=true
 trees:backTo cpos (starEach [e] X.env)=[(false,eval e X.env)]
structure M2 (X:Cx) (o:Expr) (m:Str) (apos:Pos) (e f:Expr) (cpos:Pos):Prop where
 base:attributeBase o m X.env (eval o X.env)=eval o X.env
 few:((backTo cpos (starEach [e,f] X.env)).all (fun x=>!x.1)&&(backToKw cpos (keywordEach [] X.env)).all (fun x=>x.1.isSome)
  && decide (([e,f]:List Expr).length+([]:List Keyword).length+(if ([]:List Keyword).isEmpty then 0 else 1)<30))=true
 line:(apos.endLine == cpos.line)=true
 trees:backTo cpos (starEach [e,f] X.env)=[(false,eval e X.env),(false,eval f X.env)]
section
variable {X:Cx} {pins:List (Addr × Obj)} {σ:St} {H:Hp} {s:Shared} {a:Addr} {y d:V} {u r:Value} {o:Option V} {A:Around} {E:Value->Shared->Prop}
end
section
variable {X:Cx} {o e f:Expr} {apos cpos:Pos} {td ty tx:TE}
end
section
variable {X:Cx} {pins:List (Addr × Obj)} {σ:St} {H:Hp} {s:Shared} {a:Addr} {kvs:List (Key × V)} {A:Around} {E:Value->Shared->Prop}
end
section
variable {X:Cx} {pins:List (Addr × Obj)} {σ:St} {H:Hp} {s:Shared} {a:Addr} {y:V} {u:Value} {A:Around} {E:Value->Shared->Prop}
end
end L2
namespace HT
open PySem PyProof.Rows
noncomputable def lexLt:List Int->List Int->Bool
 | [],[]=>false
 | [],_::_=>true
 |_::_,[]=>false
 |x::xs,y::ys=>if x=y then lexLt xs ys else decide (x<y)
theorem zfP (x y:Int)(xs ys:List Int):lexLt (x::xs) (y::ys)=if x=y then lexLt xs ys else decide (x<y):=rfl
theorem zdo:lexLt [] []=false:=rfl
theorem zcK (y:Int)(ys:List Int):lexLt [] (y::ys)=true:=rfl
theorem zcL (x:Int)(xs:List Int):lexLt (x::xs) []=false:=rfl
theorem ziw (A:Around)(s:Shared)(a:Int)(t:Tok)(c:Int)(u:Tok):∃e,SeqAt.EqAt A s (.int a t) (.int c u) e/\(e=true↔a=c):=
 ⟨(a == c),SeqAt.EqAt.int_int a t c u,by simp⟩
theorem zhN (A:Around)(s:Shared)(a:Int)(t:Tok)(c:Int)(u:Tok)(prog:Program)(w:World)(E:Value->Shared->Prop)(Q:Value->Shared->Prop)(h:Q (.bool (decide (a<c))) s) :
  wpAny (model prog w) A (richCompare .Lt (.int a t) (.int c u)) Q E s:=
 (PyProof.Rows.lt_int h:wpAny (model prog w) A (compareOp .Lt (.int a t) (.int c u)) Q E s)
section
open PySem.SeqAt
open PySem.AutoSeq1 (wpAny_loadPart')
open PySem.MeetsSeq PySem.MeetsSeq2 PySem.MeetsSeq3
theorem zc8 (l b:Addr)(items items2:Array Value)(n n2:Nat)(dd dd2:Option Addr)(sl sl2:Array (Option Value))(ns ms:List Int)(hi:IntsAre items.toList ns)(hj:IntsAre items2.toList ms) :
  Meets (Builtin.«tuple.__lt__» ⟨[.ref l,.ref b],[]⟩)
   (fun _ R s=>s.heap.get? l=some {cls:=.type "tuple",dict:=dd,data:=.seq items n,slots:=sl}/\s.heap.get? b=some {cls:=.type "tuple",dict:=dd2,data:=.seq items2 n2,slots:=sl2}/\
    R (.ok (.ret (.bool (lexLt ns ms)))) s):=
 .of_wp fun prog w A R s h=>by
  obtain⟨hp,g,d,tk,os⟩:=s;obtain⟨hl,hb,h⟩:=h
  have f2:=AutoSeq1.sub_tuple_tuple
  have z1:items.size=ns.length:=by rw[<-hi.length];simp
  have z2:items2.size=ms.length:=by rw[<-hj.length];simp
  wp_walk using wpAny_loadPart' hl,wpAny_loadPart' hb,wpAny_forIn_list _ (fun rest b s'=>b.1=none/\s'=⟨hp,g,d,tk,os⟩/\∃(vs ws:List Value) (ns' ms':List Int),rest=vs.zip ws/\
   IntsAre vs ns'/\IntsAre ws ms'/\ns'.length+items2.size=ms'.length+items.size/\R (.ok (.ret (.bool (lexLt ns' ms')))) ⟨hp,g,d,tk,os⟩) _
  case turn=>
   rintro⟨y,x⟩ rest b s' ⟨hb',rfl,vs,ws,ns',ms',hz,hvi,hwi,hlen,hR⟩
   cases hvi with
   |nil=>rw[List.zip_nil_left] at hz;cases hz
   | cons a t hvi' =>
     cases hwi with
     |nil=>rw[List.zip_nil_right] at hz;cases hz
     | cons c u hwi' =>
       rw[List.zip_cons_cons] at hz
       injection hz with hyx hrest
       injection hyx with hy hx
       subst hy hx
       rw[zfP] at hR
       simp only[List.length_cons] at hlen
       obtain⟨e,he,hiff⟩:=ziw A.in1 ⟨hp,g,d,tk,os⟩ a t c u
       refine wpAny_bind (he prog w _ _ ?_)
       cases e with
       | true =>
         rw[if_pos (hiff.mp rfl)] at hR
         wp_walk
         exact⟨rfl,rfl,_,_,_,_,hrest,hvi',hwi',by omega,hR⟩
       | false =>
         rw[if_neg (fun q=>absurd (hiff.mpr q) Bool.false_ne_true)] at hR
         have hri:=zhN A.in1 ⟨hp,g,d,tk,os⟩ a t c u prog w
         wp_walk using hri
         exact⟨_,rfl,by simpa using hR⟩
  case fin=>
   rintro⟨b1,b2⟩ s' ⟨hb',rfl,vs,ws,ns',ms',hz,hvi,hwi,hlen,hR⟩
   simp only at hb'
   subst hb'
   have hv:lexLt ns' ms'=decide (items.size<items2.size):=by
    cases hvi with
    | nil =>
      cases hwi with
      | nil =>
        simp only[List.length_nil] at hlen
        rw[zdo]
        exact (decide_eq_false (by omega)).symm
      | cons c u hw =>
        simp only[List.length_nil,List.length_cons] at hlen
        rw[zcK]
        exact (decide_eq_true (by omega)).symm
    | cons a t hv =>
      cases hwi with
      | nil =>
        simp only[List.length_nil,List.length_cons] at hlen
        rw[zcL]
        exact (decide_eq_false (by omega)).symm
      | cons c u hw =>
        rw[List.zip_cons_cons] at hz
        cases hz
   rw[hv] at hR
   wp_walk
   exact⟨_,rfl,by simpa[Builtin.Tuple.tupleCompareSizes] using hR⟩
  case h=>
   exact⟨rfl,rfl,items.toList,items2.toList,ns,ms,rfl,hi,hj,by omega,h⟩
end
section
variable {prog:Program} {w:World} {A:Around} {E:Value->Shared->Prop} {s:Shared}
theorem lt_tupInts {l b:Addr}{items items2:Array Value}{ns ms:List Int}{Q:Value->Shared->Prop}(hl:IsTup s.heap l items)(hb:IsTup s.heap b items2)(hi:IntsAre items.toList ns)(hj:IntsAre items2.toList ms)
  (hu:A.units<cLine) (h:Q (.bool (lexLt ns ms)) s):wpAny (model prog w) A (compareOp .Lt (.ref l) (.ref b)) Q E s:=by
 obtain⟨⟨cls,dd,data,sl⟩,ho,hc,n,hd⟩:=id hl
 obtain⟨⟨cls2,dd2,data2,sl2⟩,ho2,hc2,n2,hd2⟩:=id hb
 simp only at hc hd hc2 hd2
 subst hc hd hc2 hd2
 exact richCompare_meets_room (op:=.Lt) ⟨_,ho,rfl⟩ ⟨_,ho2,rfl⟩ PySem.F.slot_tuple_lt PySem.F.entry_tuple_lt (PySem.F.args_tuple_lt_2 _ _) (zc8 l b items items2 n n2 dd dd2 sl sl2 ns ms hi hj)
  ⟨ho,ho2,show Value.bool (lexLt ns ms)≠Value.notImplemented/\Q (.bool (lexLt ns ms)) s from⟨(fun x=>nomatch x),h⟩⟩ hu
theorem cat_tup {t b:Addr}{vs ws:List Value}{Q:Value->Shared->Prop}(ht:IsTup s.heap t vs.toArray)(hb:IsTup s.heap b ws.toArray)(hv:vs≠[])
  (h1:ws=[]->Q (.ref t) s) (h2:ws≠[]->Q (.ref s.heap.objs.size) {s with heap:=s.heap.push {cls:=.type "tuple",data:=.seq (vs++ws).toArray}})
  (hsz:vs.length+ws.length<=sizeLine):wpAny (model prog w) A (binaryOp .Add (.ref t) (.ref b)) Q E s:=by
 obtain⟨⟨cls,dd,data,sl⟩,ho,hc,n,hd⟩:=id ht
 obtain⟨⟨cls2,dd2,data2,sl2⟩,ho2,hc2,n2,hd2⟩:=id hb
 simp only at hc hd hc2 hd2
 subst hc hd hc2 hd2
 have e:vs.toArray++ws.toArray=(vs++ws).toArray:=by simp
 by_cases hw:ws=[]
 · exact concat_meets ⟨_,ho,rfl⟩ ⟨_,ho2,rfl⟩ noFill_tuple_add seq_tuple_add PySem.F.slot_tuple_add PySem.F.entry_tuple_add (PySem.F.args_tuple_add_2 _ _)
    (tuple_addW1 t b vs.toArray ws.toArray n n2 dd dd2 sl sl2 (by simpa using hv) (by simp[hw])) ⟨ho,ho2,h1 hw⟩
 · refine concat_meets ⟨_,ho,rfl⟩ ⟨_,ho2,rfl⟩ noFill_tuple_add seq_tuple_add PySem.F.slot_tuple_add PySem.F.entry_tuple_add (PySem.F.args_tuple_add_2 _ _)
    (tuple_addW2 t b vs.toArray ws.toArray n n2 dd dd2 sl sl2 (by simpa using hv) (by simpa using hw) (by rw[List.size_toArray,List.size_toArray];exact hsz)) ⟨ho,ho2,?_⟩
   rw[e]
   exact h2 hw
noncomputable def sIx (n d:Nat):Option Int->Nat
 |none=>d
 |some v=>if v<0 then (v+(n:Int)).toNat else min v.toNat n
theorem zlA (n d:Nat)(hd:d<=n)(o:Option Int):sIx n d o<=n:=by
 cases o with
 |none=>exact hd
 | some v =>
   show (if v<0 then (v+(n:Int)).toNat else min v.toNat n)<=n
   by_cases hv:v<0
   · rw[if_pos hv];omega
   · rw[if_neg hv];exact Nat.min_le_right _ _
theorem zhn (v:Int)(n d:Nat):(if v<0 then max (v+(n:Int)) 0 else min v (n:Int))=((sIx n d (some v):Nat):Int):=by
 show (if v<0 then max (v+(n:Int)) 0 else min v (n:Int))=(((if v<0 then (v+(n:Int)).toNat else min v.toNat n):Nat):Int)
 by_cases hv:v<0
 · simp only[if_pos hv];omega
 · simp only[if_neg hv];omega
theorem zf2 (lo hi:Option Int)(n:Nat):Builtin.Slice.sliceAdjust lo hi 1 (n:Int)=(((sIx n 0 lo:Nat):Int),((sIx n n hi:Nat):Int)):=by
 have h1:¬((1:Int)<0):=by omega
 unfold Builtin.Slice.sliceAdjust
 simp only[h1,if_false]
 refine Prod.ext ?_ ?_
 · cases lo with
   |none=>rfl
   |some v=>exact zhn v n 0
 · cases hi with
   |none=>rfl
   |some v=>exact zhn v n n
theorem zfJ (i j:Nat):Builtin.Slice.slicePlaces (i:Int) (j:Int) 1=j - i:=by
 unfold Builtin.Slice.slicePlaces
 have h1:(1:Int) > 0:=by omega
 simp only[h1,if_true,Int.ediv_one]
 split<;>omega
theorem zcQ {v:Value}{o:Option Int}{Q:Option Int->Shared->Prop}(p:IsPart v o)(h:Q o s):wpAny (model prog w) A (Builtin.Slice.slicePartIndex v) Q E s:=by
 cases p with
 |none=>exact slicePart_none h
 |int i t=>exact slicePart_int h
theorem sliceApplied_gen {sl:Addr}{vl vu:Value}{lo hi:Option Int}{n:Nat}{Q:Int × Int × Nat->Shared->Prop}(hs:s.heap.IsSliceOf sl vl vu .none)(pl:IsPart vl lo)(pu:IsPart vu hi)
  (h:Q (((sIx n 0 lo:Nat):Int),1,sIx n n hi - sIx n 0 lo) s):wpAny (model prog w) A (Builtin.Slice.sliceApplied (.ref sl) (pure (n:Int))) Q E s:=by
 obtain⟨os,hos,hcs,hds⟩:=id hs
 unfold Builtin.Slice.sliceApplied Builtin.Slice.sliceFields
 refine wpAny_bind (wpAny_bind (wpAny_field hos hds (x:=vl) rfl (wpAny_bind (wpAny_field hos hds (x:=vu) rfl (wpAny_bind (wpAny_field hos hds (x:=.none) rfl (wpAny_pure ?_)))))))
 refine wpAny_bind (slicePart_none ?_)
 show wpAny _ _ (if ((1:Int) == 0)=true then _ else _) _ _ s
 rw[if_neg (by decide)]
 refine wpAny_bind (zcQ pl (wpAny_bind (zcQ pu (wpAny_bind (wpAny_pure ?_)))))
 show wpAny _ _ (match Builtin.Slice.sliceAdjust lo hi 1 (n:Int) with|(lo,hi)=>pure (lo,(1:Int),Builtin.Slice.slicePlaces lo hi 1)) _ _ s
 rw[zf2 lo hi n]
 show wpAny _ _ (pure (((sIx n 0 lo:Nat):Int),(1:Int),Builtin.Slice.slicePlaces ((sIx n 0 lo:Nat):Int) ((sIx n n hi:Nat):Int) 1)) _ _ s
 rw[zfJ]
 exact wpAny_pure h
theorem zhY (xs:Array Value)(i k:Nat):((List.range k).filterMap fun (m:Nat)=>xs[((i:Int)+(m:Int) * 1).toNat]?).toArray=((xs.toList.drop i).take k).toArray:=by
 have e:(fun (m:Nat)=>xs[((i:Int)+(m:Int) * 1).toNat]?)=fun m=>xs[i+m]?:=by
  funext m
  have:((i:Int)+(m:Int) * 1).toNat=i+m:=by omega
  rw[this]
 rw[e]
 have:=pick_run xs i k
 rw[List.filterMap_map] at this
 have e2:((fun x=>xs[x]?)∘fun x=>i+x)=fun m=>xs[i+m]?:=rfl
 rw[e2] at this
 rw[this]
theorem getItem_tuple_cut {t sl:Addr}{items:Array Value}{vl vu:Value}{lo hi:Option Int}{Q:Value->Shared->Prop}(ht:IsTup s.heap t items)(hs:s.heap.IsSliceOf sl vl vu .none)(pl:IsPart vl lo)(pu:IsPart vu hi)
  (hw:¬(sIx items.size 0 lo=0/\sIx items.size items.size hi=items.size))
  (h:Q (.ref s.heap.objs.size) {s with heap:=s.heap.push {cls:=.type "tuple",data:=.seq ((items.toList.drop (sIx items.size 0 lo)).take (sIx items.size items.size hi - sIx items.size 0 lo)).toArray}})
  (hsz:items.size<=sizeLine):wpAny (model prog w) A (getItem (.ref t) (.ref sl)) Q E s:=by
 have htake:sizeOk (.seq ((items.toList.drop (sIx items.size 0 lo)).take (sIx items.size items.size hi - sIx items.size 0 lo)).toArray):=by
  show ((items.toList.drop (sIx items.size 0 lo)).take (sIx items.size items.size hi - sIx items.size 0 lo)).toArray.size<=sizeLine
  rw[List.size_toArray,List.length_take,List.length_drop,Array.length_toList]
  omega
 have hj:sIx items.size items.size hi<=items.size:=zlA _ _ (Nat.le_refl _) hi
 obtain⟨os,hos,hcs,hds⟩:=id hs
 have hTs:s.TypeIs (.ref sl) "slice":=⟨os,hos,hcs⟩
 unfold getItem
 try with_reducible refine wpAny_holding ?_
 first|refine wpAny_bind (wpAny_pure ?_)|skip
 refine wpAny_bind (wpAny_sequenceKey ht.typeIs (by decide) ?_)
 refine wpAny_bind (wpAny_callSpecial?_slot (name:=Str.ofString "__getitem__") ht.typeIs PyProof.Rows.slot_tuple_getitem
  (wpAny_call_entry PyProof.Rows.slot_tuple_getitem ht.typeIs entry_tuple_getitem ?_ (args_tuple_getitem _ _)))
 show wpAny _ _ (Builtin.Tuple.tupleItemsOf (.ref t) >>= _) _ _ s
 refine wpAny_bind (tupleItemsOf_ ht ?_)
 refine wpAny_bind (wpAny_typeOf hTs ?_)
 rw[if_pos (by decide)]
 refine wpAny_bind (sliceApplied_gen hs pl pu ?_)
 have hno:¬((((sIx items.size 0 lo:Nat):Int) == 0&&(1:Int) == 1&&(sIx items.size items.size hi - sIx items.size 0 lo) == items.size)=true):=by
  intro q
  rw[Bool.and_eq_true,Bool.and_eq_true] at q
  have q1:((sIx items.size 0 lo:Nat):Int)=0:=eq_of_beq q.1.1
  have q2:sIx items.size items.size hi - sIx items.size 0 lo=items.size:=eq_of_beq q.2
  exact hw ⟨by omega,by omega⟩
 show wpAny _ _ (if (((sIx items.size 0 lo:Nat):Int) == 0&&(1:Int) == 1&&(sIx items.size items.size hi - sIx items.size 0 lo) == items.size)=true then _ else _) _ _ s
 rw[if_neg hno,zhY]
 first
  |exact wpAny_bind (m:=Builtin.Tuple.tupleExact _) (wpAny_newObj_type (wpAny_pure ⟨_,rfl,wpAny_pure h⟩) htake)
  |exact wpAny_bind (m:=Builtin.Tuple.tupleExact _) (wpAny_newObj_type (wpAny_bind (wpAny_pure (wpAny_pure ⟨_,rfl,wpAny_pure h⟩))) htake)
  |exact wpAny_bind (wpAny_bind (m:=Builtin.Tuple.tupleExact _) (wpAny_newObj_type (wpAny_pure (wpAny_pure ⟨_,rfl,wpAny_pure h⟩)) htake))
  |exact wpAny_bind (wpAny_bind (m:=Builtin.Tuple.tupleExact _) (wpAny_newObj_type (wpAny_pure ⟨_,rfl,wpAny_pure h⟩) htake))
end
end HT
namespace L2
open PySem PySem.Spec PyProof.Rows
noncomputable abbrev TO:=St->Hp->(Option Int->Hp->Prop)->Prop
noncomputable def PO (X:Cx)(e:Option Expr)(t:TO):Prop:=
 ∀(pins:List (Addr × Obj)) (s:Shared) (σ:St) (H:Hp) (Q:Option Int->Hp->Prop),Inv X pins σ H s->t σ H Q->
  wpAny (model X.prog X.w) X.A (evalPart e X.env) (fun u s'=>∃o H',Inv X pins σ H' s'/\IsPart u o/\Q o H') X.xe s
noncomputable def zjn:TO:=fun _ H Q=>Q none H
noncomputable def znc (t:TE):TO:=fun σ H Q=>t σ H fun x H1=>∃i,x=.int i/\Q (some i) H1
theorem zcX {ns:List Int}:∀{us:List Value},Vals (ns.map V.int) us->IntsAre us ns:=by
 induction ns with
 |nil=>intro us r;rw[List.map_nil] at r;cases r;exact .nil
 | cons n ns ih =>
   intro us r
   rw[List.map_cons] at r
   cases r with
   | cons r1 r2 =>
     obtain⟨t,e⟩:=r1
     subst e
     exact .cons n t (ih r2)
section
variable {X:Cx} {e:Expr} {te:TE} {lo hi:Option Expr} {tl th:TO} {pos p2:Pos}
theorem zjX:PO X none zjn:=by
 intro pins s σ H Q I h
 rw[evalPart_none]
 exact wpAny_pure ⟨none,H,I,.none,h⟩
theorem zjW (h:PE X e te):PO X (some e) (znc te):=by
 intro pins s σ H Q I hw
 rw[evalPart_some]
 refine thn (h pins s σ H _ I hw) fun u s1 ⟨x,H1,I1,r1,q1⟩=>?_
 obtain⟨i,rfl,q⟩:=q1
 obtain⟨t,rfl⟩:=r1
 exact⟨some i,H1,I1,.int i t,q⟩
noncomputable def SlR (X:Cx)(r:V->Option Int->Option Int->Hp->VK->Prop):Prop:=
 ∀(pins:List (Addr × Obj)) (s:Shared) (σ:St) (H:Hp) (x:V) (v vl vu:Value) (lo hi:Option Int) (sl:Addr) (Q:VK),Inv X pins σ H s->RelV x v->s.heap.IsSliceOf sl vl vu .none->IsPart vl lo->IsPart vu hi->r x lo hi H Q->
  ∃T id,typeLookup (.type T) "__getitem__"=pure (some (.builtin id))/\s.TypeIs v T/\wpAny (model X.prog X.w) X.A (getItem v (.ref sl)) (EP X pins σ Q) X.xe s
theorem SlR.or {r r':V->Option Int->Option Int->Hp->VK->Prop}(h:SlR X r)(h':SlR X r'):SlR X (fun x lo hi H Q=>r x lo hi H Q\/r' x lo hi H Q):=by
 intro pins s σ H x v vl vu lo hi sl Q I rx hs pl pu q
 rcases q with q|q
 · exact h pins s σ H x v vl vu lo hi sl Q I rx hs pl pu q
 · exact h' pins s σ H x v vl vu lo hi sl Q I rx hs pl pu q
noncomputable def tSl (r:V->Option Int->Option Int->Hp->VK->Prop)(te:TE)(tl th:TO):TE:=fun σ H Q=>te σ H fun x H1=>tl σ H1 fun l H2=>th σ H2 fun u H3=>r x l u H3 Q
theorem zh1 {r:V->Option Int->Option Int->Hp->VK->Prop}(hr:SlR X r)(he:PE X e te)(hl:PO X lo tl)(hu:PO X hi th):PE X (.Subscript e (.Slice lo hi none p2) pos) (tSl r te tl th):=by
 intro pins s σ H Q I h
 refine Subscript_ (thn (he pins s σ H _ I h) fun v s1 ⟨x,H1,I1,r1,q1⟩=>?_)
 refine wpAny_Slice (thn (hl pins s1 σ H1 _ I1 q1) fun vl s2 ⟨l,H2,I2,pl,q2⟩=>thn (hu pins s2 σ H2 _ I2 q2) fun vu s3 ⟨u,H3,I3,pu,q3⟩=>?_)
 rw[evalPart_none]
 refine wpAny_pure ?_
 have I4:Inv X pins σ H3 {s3 with heap:=s3.heap.push {cls:=.type "slice",data:=.fields #[vl,vu,.none]}}:=I3.kept (t':=s3.toks) fun b ob q=>Heap.get?_push_of_some _ q
 obtain⟨T,id,hT,ht,hg⟩:=hr pins {s3 with heap:=s3.heap.push {cls:=.type "slice",data:=.fields #[vl,vu,.none]}} σ H3 x v vl vu l u s3.heap.objs.size Q I4 r1 (Heap.IsSliceOf.new ..) pl pu q3
 show wpAny (model X.prog X.w) X.A (subscriptTail e (.Slice lo hi none p2) v (.ref s3.heap.objs.size)) (EP X pins σ Q) X.xe {s3 with heap:=s3.heap.push {cls:=.type "slice",data:=.fields #[vl,vu,.none]}}
 exact tail_any (ops:=[.ref s3.heap.objs.size,v]) ht hT hg (by with_unfolding_all rfl)
noncomputable def cutV (xs:List V)(lo hi:Option Int):List V:=(xs.drop (HT.sIx xs.length 0 lo)).take (HT.sIx xs.length xs.length hi - HT.sIx xs.length 0 lo)
theorem zcC (xs:List V)(lo hi:Option Int):(cutV xs lo hi).length<=xs.length:=by
 unfold cutV
 rw[List.length_take,List.length_drop]
 omega
noncomputable def rSlT (K:PySem.W.Frag):V->Option Int->Option Int->Hp->VK->Prop:=fun x lo hi H Q=>∃a xs,x=.ref a/\SqT K H a xs/\
 ¬(HT.sIx xs.length 0 lo=0/\HT.sIx xs.length xs.length hi=xs.length)/\∀p,H p=none->Q (.ref p) (upd H p (.tup (cutV xs lo hi)))
theorem zlg:SlR X (rSlT X.K):=by
 intro pins s σ H x v vl vu lo hi sl Q I rx hs pl pu h
 obtain⟨a,xs,rfl,hx,hw,q⟩:=h
 cases rx
 obtain⟨its,r,ht,hz⟩:=I.tuple hx
 have hlen:its.toArray.size=xs.length:=by rw[List.size_toArray];exact r.length.symm
 refine⟨"tuple",_,PyProof.Rows.slot_tuple_getitem.lookup,ht.typeIs,?_⟩
 refine HT.getItem_tuple_cut ht hs pl pu (by rw[hlen];exact hw) ?_ (by rw[hlen];exact hz)
 rw[hlen]
 refine⟨.ref s.heap.objs.size,_,I.laid (t':=s.toks) (o:=.tup (cutV xs lo hi)) (fun b ob q=>Heap.get?_push_of_some _ q) (Nat.le_refl _) ?_,rfl,q _ (I.hok.fresh (Nat.le_refl _))⟩
 exact⟨Nat.le_trans (zcC xs lo hi) hz,_,(r.drop (HT.sIx xs.length 0 lo)).take (HT.sIx xs.length xs.length hi - HT.sIx xs.length 0 lo),IsTup.new _ _⟩
noncomputable def rLtT (K:PySem.W.Frag):R2:=fun x y H Q=>∃a b ns ms,x=.ref a/\y=.ref b/\SqT K H a (ns.map V.int)/\SqT K H b (ms.map V.int)/\Q (.bl (HT.lexLt ns ms)) H
theorem zl7 (hu:X.A.units<cLine):OpR X (compareOp .Lt) (rLtT X.K):=by
 intro pins s σ H x y v u Q I rx ry h
 obtain⟨a,b,ns,ms,rfl,rfl,ha,hb,q⟩:=h
 cases rx
 cases ry
 obtain⟨its,r1,p1,_⟩:=I.tuple ha
 obtain⟨its2,r2,p2,_⟩:=I.tuple hb
 have i1:IntsAre its.toArray.toList ns:=zcX r1
 have i2:IntsAre its2.toArray.toList ms:=zcX r2
 exact HT.lt_tupInts p1 p2 i1 i2 hu ⟨.bl (HT.lexLt ns ms),H,I,rfl,q⟩
noncomputable def znq (K:PySem.W.Frag):R2:=fun x y H Q=>∃a b xs ys,x=.ref a/\y=.ref b/\SqT K H a xs/\SqT K H b ys/\xs≠[]/\xs.length+ys.length<=sizeLine/\
 (ys=[]->Q (.ref a) H)/\(ys≠[]->∀p,H p=none->Q (.ref p) (upd H p (.tup (xs++ys))))
theorem Vals.nil_iff {xs:List V}{us:List Value}(r:Vals xs us):us=[]↔xs=[]:=by
 cases r with
 |nil=>simp
 |cons _ _=>simp
theorem zj5:OpR X (binaryOp .Add) (znq X.K):=by
 intro pins s σ H x y v u Q I rx ry h
 obtain⟨a,b,xs,ys,rfl,rfl,ha,hb,hx,hz,q1,q2⟩:=h
 cases rx
 cases ry
 obtain⟨its,r1,p1,_⟩:=I.tuple ha
 obtain⟨its2,r2,p2,_⟩:=I.tuple hb
 refine HT.cat_tup p1 p2 (fun z=>hx (r1.nil_iff.mp z)) (fun z=>⟨.ref a,H,I,rfl,q1 (r2.nil_iff.mp z)⟩) (fun z=>?_) (by rw[<-r1.length,<-r2.length];exact hz)
 refine⟨.ref s.heap.objs.size,_,I.laid (t':=s.toks) (o:=.tup (xs++ys)) (fun b ob q=>Heap.get?_push_of_some _ q) (Nat.le_refl _) ?_,rfl,q2 (fun w=>z (r2.nil_iff.mpr w)) _ (I.hok.fresh (Nat.le_refl _))⟩
 exact⟨by rw[List.length_append];exact hz,_,r1.append r2,IsTup.new _ _⟩
end
end L2
namespace L2
open PySem PySem.Spec PyProof.Rows
noncomputable def ixN (n:Nat)(i:Int):Option Nat:=if 0<=i then (if i<n then some i.toNat else none) else if -(n:Int)<=i then some (i+n).toNat else none
noncomputable def atI {α:Type}(xs:List α)(i:Int):Option α:=(ixN xs.length i).bind fun j=>xs[j]?
theorem zgO {n:Nat}{i:Int}{j:Nat}(h:ixN n i=some j):seqIndex? i n=some j/\j<n/\-(n:Int)<=i/\i<n:=by
 unfold ixN at h
 by_cases h0:0<=i
 · rw[if_pos h0] at h
   by_cases h1:i<n
   · rw[if_pos h1] at h
     have e:i.toNat=j:=Option.some.inj h
     exact⟨by rw[seqIndex_of h0 h1,e],by omega,by omega,h1⟩
   · rw[if_neg h1] at h;cases h
 · rw[if_neg h0] at h
   by_cases h1:-(n:Int)<=i
   · rw[if_pos h1] at h
     have e:(i+n).toNat=j:=Option.some.inj h
     exact⟨by rw[seqIndex_neg (by omega) h1,e],by omega,h1,by omega⟩
   · rw[if_neg h1] at h;cases h
theorem zeN {α:Type}{xs:List α}{i:Int}{v:α}(h:atI xs i=some v):∃j,seqIndex? i xs.length=some j/\xs[j]?=some v/\j<xs.length/\-(xs.length:Int)<=i/\i<xs.length:=by
 unfold atI at h
 cases e:ixN xs.length i with
 |none=>rw[e] at h;cases h
 | some j =>
   rw[e] at h
   obtain⟨h1,h2,h3,h4⟩:=zgO e
   exact⟨j,h1,h,h2,h3,h4⟩
noncomputable def zhx (b:Expr):Prop:=∀o i,subscripted b false o i=operate [o,i] (getItem o i)
noncomputable def IxR (X:Cx)(r:R2):Prop:=
 ∀(value slice:Expr) (pins:List (Addr × Obj)) (s:Shared) (σ:St) (H:Hp) (x y:V) (v u:Value) (Q:VK),Inv X pins σ H s->RelV x v->RelV y u->r x y H Q->
  subscripted slice false v u=operate [v,u] (getItem v u)->wpAny (model X.prog X.w) X.A (subscriptTail value slice v u) (EP X pins σ Q) X.xe s
noncomputable def MtR (X:Cx)(id:String)(r:V->List V->Hp->VK->Prop):Prop:=
 ∀(pins:List (Addr × Obj)) (s:Shared) (σ:St) (H:Hp) (x:V) (xs:List V) (v:Value) (us:List Value) (Q:VK),Inv X pins σ H s->RelV x v->Vals xs us->r x xs H Q->
  wpAny (model X.prog X.w) X.A (call (.builtin id) (v::us)) (EP X pins σ Q) X.xe s
section
variable {X:Cx} {a b:Expr} {ta tb:TE} {pos:Pos}
theorem IxR.or {r r':R2}(h:IxR X r)(h':IxR X r'):IxR X (fun x y H Q=>r x y H Q\/r' x y H Q):=by
 intro value slice pins s σ H x y v u Q I rx ry q hs
 rcases q with q|q
 · exact h value slice pins s σ H x y v u Q I rx ry q hs
 · exact h' value slice pins s σ H x y v u Q I rx ry q hs
theorem znu {r:R2}(hr:IxR X r)(ha:PE X a ta)(hb:PE X b tb)(hs:zhx b):PE X (.Subscript a b pos) (tOp r ta tb):=by
 intro pins s σ H Q I h
 exact Subscript_ (binT ha hb I h fun v u s2 x y H2 I2 rx ry q=>hr a b pins s2 σ H2 x y v u Q I2 rx ry q (hs _ _))
noncomputable def rIxL (K:PySem.W.Frag):R2:=fun x y H Q=>∃p xs i v,x=.ref p/\y=.int i/\SqL K H p xs/\atI xs i=some v/\Q v H
noncomputable def rIxT (K:PySem.W.Frag):R2:=fun x y H Q=>∃p xs i v,x=.ref p/\y=.int i/\SqT K H p xs/\atI xs i=some v/\Q v H
noncomputable def rIxS:R2:=fun x y H Q=>∃z i c,x=.str z/\y=.int i/\z.length<=sizeLine/\atI z.cps.toList i=some c/\Q (.str ⟨#[c]⟩) H
theorem ix_list:IxR X (rIxL X.K):=by
 intro value slice pins s σ H x y v u Q I rx ry h hs
 obtain⟨p,xs,i,z,rfl,rfl,hq,he,q⟩:=h
 cases rx
 obtain⟨t,rfl⟩:=ry
 obtain⟨its,r,pl,hz⟩:=I.list hq
 obtain⟨j,h1,h2,h3,h4,h5⟩:=zeN he
 obtain⟨w,ew,rw'⟩:=r.get h2
 have hl:=r.length
 have hn:=zcT
 have fin:EP X pins σ Q w s:=⟨z,H,I,rw',q⟩
 by_cases h0:0<=i
 · have hj:i.toNat=j:=by
    rw[seqIndex_of h0 h5] at h1
    exact Option.some.inj h1
   exact item_listR pl.isList h0 (by omega) (by rw[hj];simpa using ew) fin hs
 · have hj:(i+(its.toArray.size:Int)).toNat=j:=by
    rw[seqIndex_neg (by omega) h4] at h1
    rw[List.size_toArray,<-hl]
    exact Option.some.inj h1
   exact subscriptTail_builtinR (x:=w) pl.isList.typeIs slot_list_getitem.lookup
    (wpAny_getItem_list_neg (Q:=fun r s'=>r=w/\EP X pins σ Q r s') pl.isList (by omega) (by rw[List.size_toArray]<;>omega) (by omega) (by rw[hj];simpa using ew) ⟨rfl,fin⟩) hs
theorem ix_tup:IxR X (rIxT X.K):=by
 intro value slice pins s σ H x y v u Q I rx ry h hs
 obtain⟨p,xs,i,z,rfl,rfl,hq,he,q⟩:=h
 cases rx
 obtain⟨t,rfl⟩:=ry
 obtain⟨its,r,pl,hz⟩:=I.tuple hq
 obtain⟨j,h1,h2,h3,h4,h5⟩:=zeN he
 obtain⟨w,ew,rw'⟩:=r.get h2
 have hl:=r.length
 have hn:=zcT
 have fin:EP X pins σ Q w s:=⟨z,H,I,rw',q⟩
 exact subscriptTail_builtinR (x:=w) pl.typeIs slot_tuple_getitem.lookup
  (getItem_tuple (j:=j) (Q:=fun r s'=>r=w/\EP X pins σ Q r s') pl (by omega) (by omega) (by rw[List.size_toArray,<-hl];exact h1) (by simpa using ew) ⟨rfl,fin⟩) hs
theorem zmq:IxR X rIxS:=by
 intro value slice pins s σ H x y v u Q I rx ry h hs
 obtain⟨z,i,c,rfl,rfl,hz,he,q⟩:=h
 obtain⟨t,rfl⟩:=rx
 obtain⟨t',rfl⟩:=ry
 obtain⟨j,h1,h2,h3,h4,h5⟩:=zeN he
 have hl:z.cps.toList.length=z.length:=by simp[Str.length]
 rw[hl] at h1 h4 h5
 have hn:=zcT
 exact tail_any (typeIs_str s z t) slot_str_getitem.lookup (getItem_str (c:=c) (by
  have e1:decide (i < -(2 ^ 63:Int))=false:=decide_eq_false (by omega)
  have e2:decide (i≥2 ^ 63)=false:=decide_eq_false (by omega)
  rw[e1,e2,Bool.or_false]) (by rw[h1];simpa using h2) ⟨.str ⟨#[c]⟩,H,I.tok _,⟨_,rfl⟩,q⟩) hs
noncomputable def rIx (K:PySem.W.Frag):R2:=fun x y H Q=>rIxL K x y H Q\/rIxT K x y H Q\/rIxS x y H Q
theorem zmr:IxR X (rIx X.K):=ix_list.or (ix_tup.or zmq)
theorem zfM (its:List Value)(n j:Nat)(u:Value):Obj.mapSeq (·.setIfInBounds j u) {cls:=.type "list",data:=.seq its.toArray n}={cls:=.type "list",data:=.seq (its.set j u).toArray n}:=by
 simp[Obj.mapSeq]
theorem Inv.lst {pins:List (Addr × Obj)}{σ:St}{H:Hp}{s:Shared}{p:Addr}{xs:List V}(I:Inv X pins σ H s)(h:H p=some (.lst xs)) :
  ∃(its:List Value) (n:Nat),Vals xs its/\s.heap.get? p=some {cls:=.type "list",data:=.seq its.toArray n}/\xs.length<=sizeLine:=by
 obtain⟨z,its,n,r,e⟩:=I.hok p _ h
 exact⟨its,n,r,e,z⟩
theorem Inv.lstUpd {pins:List (Addr × Obj)}{σ:St}{H:Hp}{s:Shared}{p:Addr}{xs ys:List V}{its its':List Value}{n n':Nat}{f:Obj->Obj}(I:Inv X pins σ H s)(h:H p=some (.lst xs))
  (ho:s.heap.get? p=some {cls:=.type "list",data:=.seq its.toArray n}) (hf:f {cls:=.type "list",data:=.seq its.toArray n}={cls:=.type "list",data:=.seq its'.toArray n'}) (r:Vals ys its') (hz:ys.length<=sizeLine) (t:Nat) :
  Inv X pins σ (upd H p (.lst ys)) {s with heap:=s.heap.update p f,toks:=t}:=by
 have e:(s.heap.update p f).get? p=some {cls:=.type "list",data:=.seq its'.toArray n'}:=by
  rw[Heap.get?_update_self f ho (by rw[hf]<;>rfl),hf]
 refine I.write (x:=p) (e:=p) (by rw[h];trivial) (.inl rfl) (fun b u hb q=>(Heap.get?_update_other _ _ (Ne.symm hb)).trans q) ⟨_,e⟩ ?_
 exact⟨hz,its',n',r,e⟩
noncomputable def znp:V->V->V->Hp->(Hp->Prop)->Prop:=fun o i v H Q=>∃p xs k j,o=.ref p/\i=.int k/\H p=some (.lst xs)/\ixN xs.length k=some j/\Q (upd H p (.lst (xs.set j v)))
theorem zhG:PSet X znp:=by
 intro pins s σ H o i v ov iv u Q I ro ri rv h
 obtain⟨p,xs,k,j,rfl,rfl,hp,hj,q⟩:=h
 cases ro
 obtain⟨t,rfl⟩:=ri
 obtain⟨its,n,r,ho,hz⟩:=I.lst hp
 obtain⟨h1,h2,h3,h4⟩:=zgO hj
 have hl:=r.length
 have hn:=zcT
 have I':Inv X pins σ (upd H p (.lst (xs.set j v))) {s with heap:=s.heap.update p (Obj.mapSeq (·.setIfInBounds j u))}:=
  I.lstUpd hp ho (zfM its n j u) (r.set rv j) (by rw[List.length_set];exact hz) s.toks
 by_cases h0:0<=k
 · have hk:k.toNat=j:=by
    rw[seqIndex_of h0 h4] at h1
    exact Option.some.inj h1
   exact PySem.W.ki_setAt ho h0 (by omega) (by rw[List.size_toArray,<-hl];exact h4) (by rw[hk];exact⟨_,I',q⟩)
 · have hk:(k+(its.toArray.size:Int)).toNat=j:=by
    rw[seqIndex_neg (by omega) h3] at h1
    rw[List.size_toArray,<-hl]
    exact Option.some.inj h1
   exact PySem.W.ki_setBack ho (by omega) (by rw[List.size_toArray,<-hl];exact h3) (by omega) (by rw[hk];exact⟨_,I',q⟩)
theorem zdz (lo hi:Option Int)(n:Nat):(sliceBounds lo hi none n).1=((HT.sIx n 0 lo:Nat):Int)/\(sliceBounds lo hi none n).2.1=((HT.sIx n n hi:Nat):Int)/\(sliceBounds lo hi none n).2.2=1:=by
 refine⟨?_,?_,rfl⟩
 · cases lo with
   |none=>simp[sliceBounds,HT.sIx]
   | some i =>
     simp only[sliceBounds,HT.sIx,Option.getD_none,show (1:Int) > 0 by decide,if_true]
     by_cases h:i<0
     · simp only[h,if_true]<;>omega
     · simp only[h,if_false]<;>omega
 · cases hi with
   |none=>simp[sliceBounds,HT.sIx]
   | some i =>
     simp only[sliceBounds,HT.sIx,Option.getD_none,show (1:Int) > 0 by decide,if_true]
     by_cases h:i<0
     · simp only[h,if_true]<;>omega
     · simp only[h,if_false]<;>omega
theorem zdb (its:List Value)(lo hi:Option Int):slicePick its.toArray lo hi none=((its.drop (HT.sIx its.length 0 lo)).take (HT.sIx its.length its.length hi - HT.sIx its.length 0 lo)).toArray:=by
 obtain⟨h1,h2,h3⟩:=zdz lo hi its.toArray.size
 unfold slicePick
 rw[h1,h2,h3]
 simp only[sliceRange_one,pick_run,List.size_toArray]<;>rfl
noncomputable def rSlL (K:PySem.W.Frag):V->Option Int->Option Int->Hp->VK->Prop:=fun x lo hi H Q=>∃a xs,x=.ref a/\SqL K H a xs/\∀p,H p=none->Q (.ref p) (upd H p (.lst (cutV xs lo hi)))
theorem zju:SlR X (rSlL X.K):=by
 intro pins s σ H x v vl vu lo hi sl Q I rx hs pl pu h
 obtain⟨a,xs,rfl,hx,q⟩:=h
 cases rx
 obtain⟨its,r,ht,hz⟩:=I.list hx
 have hlen:=r.length
 refine⟨"list",_,slot_list_getitem.lookup,ht.isList.typeIs,?_⟩
 refine wpAny_getItem_list_slice ht.isList hs pl pu .none (by simp) ?_ (by rw[List.size_toArray]<;>omega)
 rw[zdb,<-hlen]
 refine⟨.ref s.heap.objs.size,_,I.laid (t':=s.toks) (o:=.lst (cutV xs lo hi)) (fun b ob q=>Heap.get?_push_of_some _ q) (Nat.le_refl _) ?_,rfl,q _ (I.hok.fresh (Nat.le_refl _))⟩
 exact⟨Nat.le_trans (zcC xs lo hi) hz,_,0,(r.drop (HT.sIx xs.length 0 lo)).take (HT.sIx xs.length xs.length hi - HT.sIx xs.length 0 lo),Heap.get?_push_size _ rfl⟩
theorem zbm:zaV X (.builtin "len") (fun xs H Q=>∃p ys,xs=[.ref p]/\(SqL X.K H p ys\/SqT X.K H p ys)/\Q (.int ys.length) H):=by
 intro pins s σ H xs us Q I r h
 obtain⟨p,ys,rfl,hq,q⟩:=h
 obtain⟨u,rfl,rx⟩:=zga r
 cases rx
 have hn:=zcT
 rcases hq with hq|hq
 · obtain⟨its,r',pl,hz⟩:=I.list hq
   have hlen:=r'.length
   exact Calls.call_len_list pl.isList (by simp only[List.size_toArray]<;>omega) ⟨.int ys.length,H,I.tok _,⟨s.toks+1,by rw[List.size_toArray,hlen]⟩,q⟩
 · obtain⟨its,r',pl,hz⟩:=I.tuple hq
   have hlen:=r'.length
   exact len_tuple pl (by simp only[List.size_toArray]<;>omega) ⟨.int ys.length,H,I.tok _,⟨s.toks+1,by rw[List.size_toArray,hlen]⟩,q⟩
theorem zea:zaV X (.type "list") (fun xs H Q=>∃p ys,xs=[.ref p]/\(SqL X.K H p ys\/SqT X.K H p ys)/\∀l,H l=none->Q (.ref l) (upd H l (.lst ys))):=by
 intro pins s σ H xs us Q I r h
 obtain⟨p,ys,rfl,hq,q⟩:=h
 obtain⟨u,rfl,rx⟩:=zga r
 cases rx
 have fin:∀(its:List Value),Vals ys its->ys.length<=sizeLine->∀(h':Heap) (c':Nat),(∀b o',s.heap.get? b=some o'->h'.get? b=some o')->
   h'.get? s.heap.objs.size=some {cls:=.type "list",dict:=none,data:=.seq its.toArray c',slots:=#[]}->EP X pins σ Q (.ref s.heap.objs.size) {s with heap:=h'}:=fun its r' hz h' c' kp e=>
  ⟨.ref s.heap.objs.size,_,I.laid (t':=s.toks) kp (Nat.le_refl _) (show ObjOk X.prog X.w _ h' _ (.lst ys) from⟨hz,its,c',r',e⟩),rfl,q _ (I.hok.fresh (Nat.le_refl _))⟩
 rcases hq with hq|hq
 · obtain⟨its,r',pl,hz⟩:=I.list hq
   have hlen:=r'.length
   obtain⟨o,ho,hc,n,hd⟩:=pl.isList
   exact call_list_seq p (.inl rfl) ho hc hd (fun h' c' kp e=>fin its r' hz h' c' kp e) (by simp only[List.size_toArray]<;>omega)
 · obtain⟨its,r',pl,hz⟩:=I.tuple hq
   have hlen:=r'.length
   obtain⟨o,ho,hc,n,hd⟩:=pl
   exact call_list_seq p (.inr rfl) ho hc hd (fun h' c' kp e=>fin its r' hz h' c' kp e) (by simp only[List.size_toArray]<;>omega)
theorem zdt:zaV X (.type "tuple") (fun xs H Q=>∃p ys,xs=[.ref p]/\((SqL X.K H p ys/\∀l,H l=none->Q (.ref l) (upd H l (.tup ys)))\/(SqT X.K H p ys/\Q (.ref p) H))):=by
 intro pins s σ H xs us Q I r h
 obtain⟨p,ys,rfl,h⟩:=h
 obtain⟨u,rfl,rx⟩:=zga r
 cases rx
 rcases h with ⟨hq,q⟩|⟨hq,q⟩
 · obtain⟨its,r',pl,hz⟩:=I.list hq
   have hlen:=r'.length
   refine call_tuple_list pl.isList (fun h' kp=>?_) (by simp only[List.size_toArray]<;>omega)
   have I1:Inv X pins σ H {s with heap:=h'}:=I.kept (t':=s.toks) kp
   have I2:Inv X pins σ (upd H h'.objs.size (.tup ys)) {s with heap:=h'.push {cls:=.type "tuple",data:=.seq its.toArray}}:=
    I1.laid (t':=s.toks) (fun b o e=>Heap.get?_push_of_some _ e) (Nat.le_refl _) (show ObjOk X.prog X.w _ _ _ (.tup ys) from⟨hz,its,r',IsTup.new _ _⟩)
   exact⟨.ref h'.objs.size,_,I2,rfl,q _ (I1.hok.fresh (Nat.le_refl _))⟩
 · obtain⟨its,r',pl,hz⟩:=I.tuple hq
   exact call_tuple_same pl ⟨.ref p,H,I,rfl,q⟩
noncomputable def tyV (K:PySem.W.Frag)(T:String)(x:V)(H:Hp):Prop:=match x with
 |.str _=>T="str"
 |.int _=>T="int"
 |.ref p=>(T="list"/\∃xs,SqL K H p xs)\/(T="tuple"/\∃o,K.lookup p=some o/\o.cls=.type "tuple"/\o.dict=none)\/
  (T="dict"/\((∃kvs,H p=some (.dK kvs))\/∃kvs,H p=some (.dT kvs)))\/(T="set"/\∃S n,H p=some (.set S n))
 |_=>False
theorem zkZ {pins:List (Addr × Obj)}{σ:St}{H:Hp}{s:Shared}{T:String}{x:V}{v:Value}(I:Inv X pins σ H s)(r:RelV x v)(ty:tyV X.K T x H) :
  s.TypeIs v T/\∀a,v=.ref a->∃ob,s.heap.get? a=some ob/\ob.dict=none:=by
 cases x with
 | str z =>
   obtain⟨t,rfl⟩:=r
   cases (show T="str" from ty)
   exact⟨typeIs_str s z t,fun _ e=>nomatch e⟩
 | int i =>
   obtain⟨t,rfl⟩:=r
   cases (show T="int" from ty)
   exact⟨typeIs_int s i t,fun _ e=>nomatch e⟩
 | ref p =>
   cases r
   rcases ty with ⟨rfl,xs,hq⟩|⟨rfl,o,hk,hc,hd⟩|⟨rfl,hk⟩|⟨rfl,S,n,hk⟩
   · obtain⟨its,_,pl,_⟩:=I.list hq
     refine⟨pl.isList.typeIs,fun a e=>?_⟩
     cases e
     obtain⟨o,n,e,c,hd,_⟩:=pl
     exact⟨o,e,hd⟩
   · refine⟨⟨o,I.kIn p o hk,hc⟩,fun a e=>?_⟩
     cases e
     exact⟨o,I.kIn _ o hk,hd⟩
   · have z:∃o,s.heap.get? p=some o/\o.ExactDict:=by
      rcases hk with ⟨kvs,hk⟩|⟨kvs,hk⟩
      · obtain⟨_,_,_,_,o,_,_,e,ex,_⟩:=I.hok p _ hk
        exact⟨o,e,ex⟩
      · obtain⟨_,_,_,_,o,_,_,e,ex,_⟩:=I.hok p _ hk
        exact⟨o,e,ex⟩
     obtain⟨o,e,ex⟩:=z
     refine⟨⟨o,e,ex.1⟩,fun a e2=>?_⟩
     cases e2
     exact⟨o,e,ex.2.1⟩
   · obtain⟨o,_,_,_,e,ex,_⟩:=I.hok p _ hk
     refine⟨⟨o,e,ex.1⟩,fun a e2=>?_⟩
     cases e2
     exact⟨o,e,ex.2.1⟩
 |_=>exact False.elim ty
noncomputable def tBM (K:PySem.W.Frag)(T:String)(r:V->List V->Hp->VK->Prop)(to:TE)(t:TA):TE:=fun σ H Q=>to σ H fun x H1=>tyV K T x H1/\t σ H1 fun xs H2=>r x xs H2 Q
variable {o e:Expr} {es:List Expr} {to:TE} {t:TA} {name:Str} {apos cpos:Pos} {T id:String} {r:V->List V->Hp->VK->Prop}
theorem zlX (pa:PlainAttrs T)(slot:Slot T name id)(hty:typeOf (.builtin id)=pure (.type "method_descriptor"))(hm:MtR X id r)(ho:PE X o to)(ha:PA X (e::es) t)
  (hbase:attributeBase o name X.env (eval o X.env)=eval o X.env:=by rfl)
  (hfew:((backTo cpos (starEach (e::es) X.env)).all (fun x=>!x.1)&&(backToKw cpos (keywordEach [] X.env)).all (fun x=>x.1.isSome)
   && decide ((e::es).length+([]:List Keyword).length+(if ([]:List Keyword).isEmpty then 0 else 1)<30))=true:=by rfl)
  (hline:(apos.endLine == cpos.line)=true:=by rfl) (hs:starEach (e::es) X.env=(false,eval e X.env)::starEach es X.env:=by rfl) (hplain:(backTo cpos (starEach es X.env)).any (·.1)=false:=by rfl) :
  PE X (.Call (.Attribute o name apos) (e::es) [] cpos) (tBM X.K T r to t):=by
 intro pins s σ H Q I h
 refine wpAny_Call_method_late hbase hfew hline rfl (thn (ho pins s σ H _ I h) fun v s1 ⟨x,H1,I1,r1,ty,q1⟩=>?_)
 obtain⟨h1,h2⟩:=zkZ I1 r1 ty
 refine⟨T,id,pa,slot,hty,h1,h2,?_⟩
 have hA:=ha cpos pins s1 σ H1 _ I1 q1
 rw[hs] at hA⊢
 refine Calls.callWith_builtin (by show (false || (backTo cpos (starEach es X.env)).any (·.1))=false;rw[hplain]<;>rfl) (Calls.evalArgs_plain ?_)
 exact thn hA fun us s2 ⟨vs,H2,I2,r2,q2⟩=>hm pins s2 σ H2 x vs v us Q I2 r1 r2 q2
/- xs.append(e),list.index on a module's tuple .. are MtR facts of 06m -/
end
end L2
namespace L2
open PySem PySem.Spec PyProof.Rows
noncomputable def MtM (X:Cx)(id:String)(r:V->List V->Hp->VK->Prop):Prop:=
 ∀(pins:List (Addr × Obj)) (s:Shared) (σ:St) (H:Hp) (x:V) (xs:List V) (v:Value) (us:List Value) (Q:VK),Inv X pins σ H s->RelV x v->Vals xs us->r x xs H Q->
  wpAny (model X.prog X.w) X.A (call (.builtin id) (v::us)) (EP X pins σ Q) X.xe s
theorem Vals.one:∀{x:V} {us:List Value},Vals [x] us->∃u,us=[u]/\RelV x u
 |_,_,.cons r .nil=>⟨_,rfl,r⟩
theorem Vals.eraseIdx:∀{xs:List V} {us:List Value} (i:Nat),Vals xs us->Vals (xs.eraseIdx i) (us.eraseIdx i)
 |_,_,_,.nil=>.nil
 |_,_,0,.cons _ t=>t
 |_,_,i+1,.cons r t=>.cons r (Vals.eraseIdx i t)
theorem Vals.reverse {xs:List V}{us:List Value}(h:Vals xs us):Vals xs.reverse us.reverse:=by
 induction h with
 |nil=>exact .nil
 |cons r t ih=>rw[List.reverse_cons,List.reverse_cons];exact Vals.append ih (.cons r .nil)
theorem Vals.rep {xs:List V}{us:List Value}(h:Vals xs us):∀k:Nat,Vals (List.replicate k xs).flatten (List.replicate k us).flatten
 |0=>.nil
 | k + 1 => by
   rw[List.replicate_succ,List.replicate_succ,List.flatten_cons,List.flatten_cons]
   exact Vals.append h (Vals.rep h k)
theorem zdT {α:Type}:∀(l:List α) (i:Nat),(l.eraseIdx i).length<=l.length
 | [],_=>Nat.le_refl _
 |_::_,0=>Nat.le_succ _
 |_::r,i+1=>Nat.succ_le_succ (zdT r i)
theorem zd0 (its:List Value):∀(k:Nat) (acc:List Value),
  List.foldl (fun x1 x2=>x1++x2) acc.toArray (List.replicate k its.toArray)=(acc++(List.replicate k its).flatten).toArray
 |0,acc=>by simp
 | k + 1, acc => by
   have e:acc.toArray++its.toArray=(acc++its).toArray:=by simp
   have e2:(acc++its)++(List.replicate k its).flatten=acc++(List.replicate (k+1) its).flatten:=by
    rw[List.replicate_succ,List.flatten_cons,List.append_assoc]
   rw[<-e2,<-zd0 its k (acc++its),<-e,List.replicate_succ,List.foldl_cons]
section
variable {X:Cx} {pins:List (Addr × Obj)} {σ:St} {H:Hp} {s:Shared} {l b:Addr} {xs ys zs:List V}
theorem Inv.lset {its its':List Value}{n:Nat}{f:Array Value->Array Value}{t':Nat}(I:Inv X pins σ H s)(hH:H l=some (.lst xs))
  (e:s.heap.get? l=some {cls:=.type "list",data:=.seq its.toArray n}) (hf:f its.toArray=its'.toArray) (hv:Vals ys its') (hz:ys.length<=sizeLine) :
  Inv X pins σ (upd H l (.lst ys)) {s with heap:=s.heap.update l (Obj.mapSeq f),toks:=t'}:=by
 have q:=PySem.IsL.update e f
 rw[hf] at q
 refine I.write (x:=l) (e:=l) (by rw[hH];exact trivial) (.inl rfl) (fun b' u hb hu=>(Heap.get?_update_other s.heap (Obj.mapSeq f) (Ne.symm hb)).trans hu) ⟨_,q⟩ ?_
 exact⟨hz,its',_,hv,q⟩
theorem Inv.lnew {its:List Value}{t':Nat}(I:Inv X pins σ H s)(hv:Vals ys its)(hz:ys.length<=sizeLine) :
  Inv X pins σ (upd H s.heap.objs.size (.lst ys)) {s with heap:=s.heap.push {cls:=.type "list",data:=.seq its.toArray},toks:=t'}:=
 I.laid (fun _ _ q=>Heap.get?_push_of_some _ q) (Nat.le_refl _) ⟨hz,its,0,hv,Heap.get?_push_size _ rfl⟩
theorem Inv.fresh (I:Inv X pins σ H s):H s.heap.objs.size=none:=I.hok.fresh (Nat.le_refl _)
theorem Inv.lstM (I:Inv X pins σ H s)(hH:H l=some (.lst xs)):xs.length<=sizeLine/\∃(its:List Value) (n:Nat),Vals xs its/\xs.length=its.length/\s.heap.get? l=some {cls:=.type "list",data:=.seq its.toArray n}:=by
 obtain⟨z,its,n,r,e⟩:=I.hok l _ hH
 exact⟨z,its,n,r,r.length,e⟩
theorem zh8 {n:Nat}(h:n<=sizeLine):Builtin.List.listTooLong n=false:=by
 unfold Builtin.List.listTooLong
 exact decide_eq_false (by omega)
end
section
variable {X:Cx}
noncomputable def zjO:V->List V->Hp->VK->Prop:=fun x vs H Q=>∃l xs y,x=.ref l/\vs=[y]/\H l=some (.lst xs)/\xs.length<sizeLine/\Q .non (upd H l (.lst (xs++[y])))
theorem zdR:MtM X "list.append" zjO:=by
 intro pins s σ H x vs v us Q I rx rv h
 obtain⟨l,xs,y,rfl,rfl,hH,hz,q⟩:=h
 cases rx
 obtain⟨u,rfl,ru⟩:=rv.one
 obtain⟨z,its,n,r,hl,e⟩:=I.lstM hH
 refine call_meets F.slot_list_append ⟨_,e,rfl⟩ F.entry_list_append (F.args_list_append_2 _ _) (PySem.list_append l its.toArray n u (by rw[List.size_toArray];omega)) ⟨e,?_⟩
 refine⟨.non,_,I.lset (its':=its++[u]) hH e (by simp) (r.append (.cons ru .nil)) ?_,rfl,q⟩
 rw[List.length_append,List.length_singleton]
 omega
noncomputable def zlD:V->List V->Hp->VK->Prop:=fun x vs H Q=>∃l xs i k y,x=.ref l/\vs=[.int i]/\H l=some (.lst xs)/\-(2 ^ 63)<=i/\i<2 ^ 63/\seqIndex? i xs.length=some k/\xs[k]?=some y/\Q y (upd H l (.lst (xs.eraseIdx k)))
theorem zia:MtM X "list.pop" zlD:=by
 intro pins s σ H x vs v us Q I rx rv h
 obtain⟨l,xs,i,k,y,rfl,rfl,hH,h1,h2,hk,hy,q⟩:=h
 cases rx
 obtain⟨u,rfl,ru⟩:=rv.one
 obtain⟨t,rfl⟩:=ru
 obtain⟨z,its,n,r,hl,e⟩:=I.lstM hH
 obtain⟨w,hw,rw'⟩:=r.get hy
 refine call_meets F.slot_list_pop ⟨_,e,rfl⟩ F.entry_list_pop (F.args_list_pop_2 _ _)
  (MeetsSeq.list_pop_at l its.toArray n i t k w (fitsIndex_both h1 h2) (by rw[List.size_toArray,<-hl];exact hk) (by rw[<-Array.getElem?_toList];exact hw) (by rw[List.size_toArray];omega)) ⟨e,?_⟩
 refine⟨y,_,I.lset (its':=its.eraseIdx k) hH e ?_ (r.eraseIdx k) ?_,rw',q⟩
 · show its.toArray.eraseIdxIfInBounds k=(its.eraseIdx k).toArray
   rw[List.eraseIdxIfInBounds_toArray]
 · have:=zdT xs k
   omega
noncomputable def rCat:R2:=fun x y H Q=>∃l b xs zs,x=.ref l/\y=.ref b/\H l=some (.lst xs)/\H b=some (.lst zs)/\xs.length+zs.length<=sizeLine/\∀p,H p=none->Q (.ref p) (upd H p (.lst (xs++zs)))
theorem zma:OpR X (binaryOp .Add) rCat:=by
 intro pins s σ H x y v u Q I rx ry h
 obtain⟨l,b,xs,zs,rfl,rfl,hH,hB,hz,q⟩:=h
 cases rx
 cases ry
 obtain⟨z,its,n,r,hl,e⟩:=I.lstM hH
 obtain⟨z2,its2,n2,r2,hl2,e2⟩:=I.lstM hB
 refine PySem.P.add_list e e2 ?_ (by rw[List.size_toArray,List.size_toArray];omega)
 have ea:its.toArray++its2.toArray=(its++its2).toArray:=by simp
 rw[ea]
 exact⟨.ref _,_,I.lnew (t':=s.toks) (r.append r2) (by rw[List.length_append];omega),rfl,q _ I.fresh⟩
noncomputable def rRep:R2:=fun x y H Q=>∃l k xs,x=.ref l/\y=.int k/\H l=some (.lst xs)/\-(2 ^ 63)<=k/\k<2 ^ 63/\xs.length * k.toNat<=sizeLine/\
 ∀p,H p=none->Q (.ref p) (upd H p (.lst (List.replicate k.toNat xs).flatten))
theorem zgG {α:Type}(xs:List α)(k:Nat):(List.replicate k xs).flatten.length=k * xs.length:=by
 induction k with
 |zero=>simp
 |succ k ih=>rw[List.replicate_succ,List.flatten_cons,List.length_append,ih,Nat.succ_mul,Nat.add_comm]
theorem zl2:OpR X (binaryOp .Mult) rRep:=by
 intro pins s σ H x y v u Q I rx ry h
 obtain⟨l,k,xs,rfl,rfl,hH,h1,h2,hz,q⟩:=h
 cases rx
 obtain⟨t,rfl⟩:=ry
 obtain⟨z,its,n,r,hl,e⟩:=I.lstM hH
 have hlen:its.toArray.size * k.toNat<=sizeLine:=by rw[List.size_toArray,<-hl];exact hz
 have hcap:¬its.toArray.size * k.toNat > (2 ^ 63 - 1) / 8:=by
  have:(sizeLine:Nat)<=(2 ^ 63 - 1) / 8:=by decide
  omega
 have hfit:¬(!Builtin.List.listFitsIndex k)=true:=by
  rw[fitsIndex_both h1 h2]
  exact Bool.false_ne_true
 have hlong:¬Builtin.List.listTooLong (its.toArray.size * k.toNat)=true:=by
  rw[zh8 hlen]
  exact Bool.false_ne_true
 have hnew:List.foldl (fun x1 x2=>x1++x2) #[] (List.replicate (if its.toArray.isEmpty=true then 0 else k.toNat) its.toArray)=(List.replicate k.toNat its).flatten.toArray:=by
  have f0:∀m:Nat,List.foldl (fun x1 x2=>x1++x2) #[] (List.replicate m its.toArray)=(List.replicate m its).flatten.toArray:=fun m=>by
   have:=zd0 its m []
   rw[List.nil_append] at this
   exact this
  rw[f0]
  cases its with
  |nil=>simp
  |cons a r'=>rw[if_neg (by simp)]
 refine wpAny_binaryOp_repeat_ref (T:="list") (U:="int") (by decide) ⟨_,e,rfl⟩ (fun s'=>typeIs_int s' k t) noFill_list_mul F.fills_int_mul F.slot_int_rmul repeat_list F.slot_int_index.lookup
  (call_meets F.slot_int_rmul (typeIs_int s k t) F.entry_int_rmul (F.args_int_rmul_2 _ _) (int___rmul___int_list k t l its.toArray n)
   ⟨e,rfl,⟨_,e,rfl⟩,call_meets F.slot_list_mul ⟨_,e,rfl⟩ F.entry_list_mul (F.args_list_mul_2 _ _) (AutoListH.list___mul___list_int_3 l its.toArray n k t hfit hcap hlong) ⟨e,?_⟩⟩)
 rw[hnew]
 exact⟨.ref _,_,I.lnew (t':=s.toks) (r.rep k.toNat) (by rw[zgG,Nat.mul_comm];exact hz),rfl,q _ I.fresh⟩
end
section
variable {prog:Program} {w:World} {A:Around} {E:Value->Shared->Prop} {s:Shared}
end
section
variable {X:Cx}
end
end L2
namespace Att
open PySem PySem.W PySem.Calls PyProof.Rows
theorem zcw {P:Params}{h:Heap}:∀(ns:List Int) (vs:List Value),WellAll P h vs (ns.map WData.int)->IntsAre vs ns:=by
 intro ns
 induction ns with
 | nil =>
   intro vs w
   rw[List.map_nil] at w
   cases w
   exact .nil
 | cons n ns ih =>
   intro vs w
   rw[List.map_cons] at w
   cases w with
   | cons a b =>
     cases a
     exact .cons _ _ (ih _ b)
theorem zgh {l:OpenLaw}{n:Nat}(hn:l.most=some n){P:Params}{h:Heap}{args:List WData}{vals:List Value}
  (hpre:l.row.toRowW.claim.pre args=true) (hwl:WellAll P h vals args) :
  ∃a vs ns,vals=[Value.ref a]/\args=[WData.list (ns.map WData.int)]/\h.get? a=some {cls:=.type "list",data:=.seq vs.toArray}/\IntsAre vs ns/\ns.length<=n:=by
 have hsh:WShape.hasAll [] args [.list .int]=true:=(pre_splitW hpre).1
 have hc:l.pre.holds [] {args:=args}=true:=(pre_splitW hpre).2
 obtain⟨d,r,rfl,h1,h2⟩:=hasAllW_cons hsh
 obtain rfl:=hasAllW_nil h2
 obtain⟨xs,rfl,h3⟩:=hasW_list h1
 obtain⟨ns,rfl⟩:=items_int h3
 have hlen:ns.length<=n:=by
  unfold OpenLaw.pre at hc
  have h4:(WTm.not (.lt (.lit (.int (n:Int))) (.len (.arg 0)))).holds [] {args:=[.list (ns.map .int)]}=true:=by
   have h4:=(holds_andW hc).1
   rw[hn] at h4
   exact h4
  have h5:=condW_of h4 (w_not (w_lt w_lit (w_len_list (w_arg rfl))))
  rw[List.length_map] at h5
  refine Nat.le_of_not_lt fun q=>?_
  have q':(n:Int)<((ns.length:Nat):Int):=by omega
  first
   |(rw[decide_eq_true q'] at h5;exact absurd h5 (by decide))
   |(simp at h5;omega)
 cases hwl with
 | cons w1 w2 =>
   cases w2
   cases w1 with
   |list ho hall=>exact⟨_,_,ns,rfl,rfl,ho,zcw ns _ hall,hlen⟩
theorem zgv (l:OpenLaw)(args:List WData):l.row.toRowW.claim.post args (.bool true) args=true:=
 postW_of (r:=l.row.toRowW) (X:=(true == true))
  (show WShape.has [] (.bool true) .bool=true by first|rfl|decide|simp[WShape.has,WShape.arms,WShape.armsAll])
  (show (WTm.eq .res (.lit (.bool true))).value [] {args:=args,res:=some (.bool true),after:=args}=some (.bool (true == true)) from w_eq_bool (w_res rfl) w_lit) rfl
theorem attach_call {l:OpenLaw}{n:Nat}{q:Program}{loose:List Str}{XP:(Str->Option Value)->Heap->Prop}{YP:World->Heap->Prop}{d:DefRec}
  (hn:l.most=some n) (hdf:d.params.defaults=[])
  (call:∀(w:World) (s₀ s₁:Shared) (mg mb:Str->Option Value) (fa:Addr) (o:Obj) (pm cd doc:Value) (a:Addr) (vs:List Value) (ns:List Int),
   Ground q loose [] XP w s₀ mg mb s₁.heap->YP w s₁.heap->
   s₁.heap.get? fa=some o->o.data=.func (docDef d.name d.params d.body d.scope pm cd doc)->s₁.heap.CodeRec cd d.name->mg d.name=some (.ref fa)->
   s₁.heap.get? a=some {cls:=.type "list",data:=.seq vs.toArray}->IntsAre vs ns->ns.length<=n->s₁.gens = #[]->
   codeAny (model l.prog w) callerA (.call (.ref fa) ⟨[.ref a],[]⟩) (fun r s'=>r=.ok (.ret (.bool true))/\OldK s₁.heap s'.heap/\s'.os=s₁.os/\AllBare s'.gens) s₁) :
  WalkO q loose XP YP l.row.toRowW d [] (fun f vs=>PySem.call f vs):=by
 intro w s₀ s₁ mg mb G Y fa o pm cd doc dV kV ho hd hcd hD hmg hg args vals as hpre hlay hrd hwl hlo
 obtain rfl:dV=.none:=Dflts.none hD hdf
 obtain rfl:kV=.none:=Dflts.noKw hD
 obtain⟨a,vs,ns,rfl,rfl,hobj,hints,hlen⟩:=zgh hn hpre hwl
 refine enter_call (codeAny_mono (call w s₀ s₁ mg mb fa o pm cd doc a vs ns G Y ho (fd_plain hd) hcd hmg hobj hints hlen hg) fun r s' hq=>?_)
 obtain⟨rfl,h2,h3,h4⟩:=hq
 exact⟨.inl ⟨.bool true,.bool true,[],rfl,fun _=>rfl,.bool true,zgv l _,fun _=>⟨List.Pairwise.nil,fun _ hm=>(nomatch hm)⟩⟩,h2,h3,h4⟩
section
variable {prog:Program} {w:World} {A:Around} {E:Value->Shared->Prop} {s:Shared} {K:Frag}
noncomputable def zdU (h:Heap)(L d:Addr):List (Addr × Obj):=(List.range h.objs.size).filterMap fun a=>if a=L\/a=d then none else (h.get? a).map fun o=>(a,o)
end
end Att
namespace L2
open PySem PySem.Spec PyProof.Rows
theorem zdx:∀{vs:List Value} {ns:List Int},IntsAre vs ns->Vals (ns.map V.int) vs
 |_,_,.nil=>.nil
 |_,_,.cons n t h=>.cons ⟨t,rfl⟩ (zdx h)
noncomputable def Only (H:Hp):Prop:=∀b,H b=none\/∃o xs,H b=some (.frz o (.lst xs))
theorem zid {P:Program}{w:World}{K:PySem.W.Frag}{mg mb:Str->Option Value}{CX:CXT}{k:Nat}{fa a:Addr}{fd:FuncData}{x:Str}{sp:Sp}{s₁:Shared}{vs:List Value}{ns:List Int}
  (KX:K.In s₁.heap) (hns:s₁.heap.Ns mainGlobals mg) (hb:s₁.heap.Ns builtinsNs mb) (hbb:∀x:Str,x≠"__name__"->mb x=bootBuiltins x) (hlim:s₁.heap.NoLimit) (hg:s₁.gens = #[])
  (ha:s₁.heap.get? a=some {cls:=.type "list",data:=.seq vs.toArray}) (hi:IntsAre vs ns) (hl:ns.length<=sizeLine) (hr:Room k callerA)
  (F:∀base:Heap,K.In base->base.Ns mainGlobals mg->FnOk P w K mg base CX k fa fd [x] sp) (hbind:∀(s:Shared) (u:Value),BindsTo s fd ⟨[u],[]⟩ [(x,u)])
  (hsp:∀H:Hp,Only H->SqL K H a (ns.map V.int)->sp [.ref a] H (fun v _=>v=.bl true) fun _ _ _=>False)
  (hCX:∀H e s',CX [] H s₁ (fun _ _ _=>False) e s'->False) :
  codeAny (model P w) callerA (.call (.ref fa) ⟨[.ref a],[]⟩) (fun r s'=>r=.ok (.ret (.bool true))/\OldK s₁.heap s'.heap/\s'.os=s₁.os/\AllBare s'.gens) s₁:=by
 have rv:=zdx hi
 have lenV:=hi.length
 -- from an abstract heap in which nothing but the script may be tracked
 have core:∀H:Hp,Only H->SqL K H a (ns.map V.int)->HOk P w H s₁.heap->(∀b,H b≠none->b=a)->(H a≠none->K.lookup a=none)->
   codeAny (model P w) callerA (.call (.ref fa) ⟨[.ref a],[]⟩) (fun r s'=>r=.ok (.ret (.bool true))/\OldK s₁.heap s'.heap/\s'.os=s₁.os/\AllBare s'.gens) s₁:=by
  intro H hO hS hok hA hK
  have base_of:∀{b:Addr} {o:Obj},s₁.heap.get? b=some o->H b=none->(hidT s₁.heap H).get? b=some o:=fun e n=>zik e n
  have noA:∀{b:Addr} {o:Obj} {es:Array DictEntry} {ep:Nat},s₁.heap.get? b=some o->o.data=.dict es ep->H b=none:=fun {b o es ep} e d=>by
   cases q:H b with
   |none=>rfl
   | some u =>
     have e':b=a:=hA b (by rw[q];simp)
     subst e'
     rw[ha] at e;cases e
     have d':Data.seq vs.toArray _=Data.dict es ep:=d
     cases d'
  have nsK:∀{b:Addr} {m:Str->Option Value},s₁.heap.Ns b m->(hidT s₁.heap H).Ns b m:=fun {b m} ⟨o,es,ep,e,d,r⟩=>⟨o,es,ep,base_of e (noA e d),d,r⟩
  have hKb:K.In (hidT s₁.heap H):=fun b o e=>base_of (KX b o e) (by
   cases q:H b with
   |none=>rfl
   | some u =>
     have e':b=a:=hA b (by rw[q];simp)
     subst e'
     rw[hK (by rw[q];simp)] at e;cases e)
  have hM:Mod K mg (hidT s₁.heap H):=⟨hKb,nsK hns,⟨mb,nsK hb,hbb⟩,let ⟨mc,h1,h2⟩:=hlim;⟨mc,nsK h1,h2⟩⟩
  have e0:Env0 P w K mg (hidT s₁.heap H) callerA [] s₁ H:=⟨rfl,hM,fun b o e=>zj7 e,Nat.le_of_eq (zgY _ _),trivial,fun b hb=>absurd (show b∈([]:List Addr) from hb) (by simp),hok,.of_eq hg⟩
  refine codeAny_mono ((F _ hKb (nsK hns)).run callerA [] s₁ H ⟨[.ref a],[]⟩ [.ref a] [.ref a] _ _ hr e0 (hbind s₁ (.ref a)) (.cons rfl .nil) (hsp H hO hS)) fun r s' h=>?_
  cases r with
  |error e=>exact (hCX H e s' h).elim
  | ok fl =>
    cases fl with
    |next=>exact False.elim h
    |brk=>exact False.elim h
    |cont=>exact False.elim h
    | ret u =>
      obtain⟨v,H',os,bare,un,hok',r',q⟩:=h
      have q':v=.bl true:=q
      subst q'
      obtain rfl:u=Value.bool true:=r'
      refine⟨rfl,OldK.of_keep fun b o e=>?_,os,bare⟩
      cases q:H b with
      |none=>exact un.keep b o e q (by intro z;exact absurd (show b∈([]:List Addr) from z) (by simp)) (by simp)
      | some u =>
        rcases hO b with z|⟨ob,xs,z⟩
        · rw[q] at z;cases z
        · have z2:=un.frzs b ob _ z
          obtain⟨e1,_⟩:=hok b _ z
          obtain⟨e2,_⟩:=hok' b _ z2
          rw[e] at e1;cases e1
          exact e2
 cases hk:K.lookup a with
 | some o =>
   -- the script is one of the module's own objects
   have e:=KX a o hk
   rw[ha] at e
   cases e
   refine core (fun _=>none) (fun _=>.inl rfl) (.inr ⟨_,vs.toArray,_,hk,rfl,rfl,rfl,by rw[List.size_toArray,lenV];exact hl,by simpa using rv⟩) (fun b u z=>by have z':(none:Option HO)=some u:=z;cases z') (fun b z=>absurd rfl z) fun z=>absurd rfl z
 | none =>
   refine core (fun b=>if b=a then some (.frz {cls:=.type "list",data:=.seq vs.toArray} (.lst (ns.map V.int))) else none) (fun b=>?_) (.inl (.inr ⟨{cls:=.type "list",data:=.seq vs.toArray},if_pos rfl⟩)) (fun b u z=>?_) (fun b z=>?_) fun _=>hk
   · by_cases hb:b=a
     · exact .inr ⟨_,_,if_pos hb⟩
     · exact .inl (if_neg hb)
   · by_cases hb:b=a
     · have z':=(if_pos hb).symm.trans z
       cases z'
       subst hb
       exact⟨ha,by rw[List.length_map];exact hl,vs,_,rv,ha⟩
     · have z':=(if_neg hb).symm.trans z
       cases z'
   · by_cases hb:b=a
     · exact hb
     · exact absurd (if_neg hb) z
end L2
namespace L2
open PySem PySem.Spec PyProof.Rows
theorem walk_of {l:PySem.W.OpenLaw}{n k:Nat}{q:Program}{loose:List Str}{XP:(Str->Option Value)->Heap->Prop}{YP:World->Heap->Prop}{d:DefRec}{K:Params->PySem.W.Frag}{CX:World->CXT}{sp:World->Sp}{x:Str}
  (hn:l.most=some n) (hn2:n<=sizeLine) (hdf:d.params.defaults=[]) (hr:Room k callerA)
  (hY:∀(w:World) (h:Heap),YP w h->(K w.params).In h)
  (F:∀(w:World) (mg:Str->Option Value) (fa:Addr) (h:Heap),(K w.params).In h->h.Ns mainGlobals mg->mg d.name=some (.ref fa)->
   ∃fd:FuncData,(∀(s:Shared) (u:Value),BindsTo s fd ⟨[u],[]⟩ [(x,u)])/\
    ∀base:Heap,(K w.params).In base->base.Ns mainGlobals mg->FnOk l.prog w (K w.params) mg base (CX w) k fa fd [x] (sp w))
  (hsp:∀(w:World) (H:Hp) (a:Addr) (ns:List Int),ns.length<=n->Only H->SqL (K w.params) H a (ns.map V.int)->sp w [.ref a] H (fun v _=>v=.bl true) fun _ _ _=>False)
  (hCX:∀(w:World) (H:Hp) (s:Shared) (e:Value) (s':Shared),CX w [] H s (fun _ _ _=>False) e s'->False) :
  PySem.W.WalkO q loose XP YP l.row.toRowW d [] (fun f vs=>PySem.call f vs):=by
 refine Att.attach_call hn hdf fun w s₀ s₁ mg mb fa o pm cd doc a vs ns G Y ho hd hcd hmg hobj hints hlen hg=>?_
 have KX:=hY w _ Y
 obtain⟨fd,hb,hF⟩:=F w mg fa _ KX G.T.g hmg
 exact zid KX G.T.g G.T.b G.T.builtins G.T.nolimit hg hobj hints (Nat.le_trans hlen hn2) hr hF hb (fun H hO hS=>hsp w H a ns hlen hO hS) fun H e s'=>hCX w H s₁ e s'
end L2
/- THE LAST THEOREM (shape;LID,My.* are yours):
 My.Adr: a structure of the addresses that your layer names (classes,functions);My.Txt K t: a structure (Prop) of the equations over K;
 My.txt_mk:{K} {implicit addresses ..} (e1:nsIn K mainGlobals "law"=some (some (.ref f))) (e2:K.lookup f=some ⟨oc,od,.func (fnOf "law" "law" params body scope dV kV doc pm an cdv ct),sl⟩) (e3:codeIn K cdv "law"=true) ..:∃t,My.Txt K t
set_option maxRecDepth 100000 in
set_option maxHeartbeats 0 in
theorem PySem.Challenge.cw_LID_holds : PySem.Challenge.rw_LID.Holds := by
 w_on;o_law;k_head;(case hw=>w_witness2)
 k_fill
 refine L2.walk_of (l:=PySem.Challenge.rw_LID) (n:=63) (k:=40) (x:="script") (CX:=fun w=>..) (sp:=fun _=>My.sp_law) rfl (by decide) rfl ⟨rfl,by decide,by decide⟩ (fun w h Y=>PySem.W.kIn_of Y) ?F ?S ?C
 case F=>
  intro w mg fa h KX G hmg
  have T:∃t,My.Txt (L2.KOf KX) t:=by
   dsimp only[L2.KOf] -- K must stand as «<heap const> w.params» for k_is
   refine' My.txt_mk ?e1 ?e2 ?e3 ..
   (case e1=>PySem.W.k_is) -- in the order: a name -> its address -> its object -> its parts
   (case e2=>PySem.W.k_is)
   ..
  obtain⟨t,T⟩:=T
  have e0:=hmg.symm.trans (PySem.W.mg_of KX G T.law)
  cases e0 -- fa is the law's own address
  exact⟨_,fun s u=>.of_eq rfl,fun base kb nb=>My.law_fn T kb nb⟩ -- if «.of_eq rfl» comes too early: refine'⟨_,?b,fun base kb nb=>My.law_fn T kb nb⟩;exact fun s u=>.of_eq rfl
 case S=>exact fun w H a ns hl hO hS=>..
 case C=>exact ..
(the tactic k_is has no namespace: write k_is) -/
namespace L2
open PySem PySem.Spec PyProof.Rows
noncomputable def znQ (s:Stmt)(j:Nat):Stmt:=match s with
 |.ClassDef _ _ _ body _ _ _ _ _ _ _=>body.getD j (.Pass ⟨0,0,0,0⟩)
 |_=>.Pass ⟨0,0,0,0⟩
noncomputable def zav (s:Stmt):Arguments:=match s with
 |.FunctionDef _ a _ _ _ _ _ _ _ _=>a
 |_=>{posonlyargs:=[],args:=[],vararg:=none,kwonlyargs:=[],kw_defaults:=[],kwarg:=none,defaults:=[]}
noncomputable def zap (s:Stmt):List Stmt:=match s with
 |.FunctionDef _ _ b _ _ _ _ _ _ _=>b
 |_=>[]
noncomputable def zae (s:Stmt):Scope:=match s with
 |.FunctionDef _ _ _ _ _ _ sc _ _ _=>sc
 |_=>{kind:=.function,names:=[],isGenerator:=false,isCoroutine:=false}
noncomputable abbrev CX0:CXT:=fun _ _ _ _ _ _=>False
noncomputable abbrev E0:XK:=fun _ _ _=>False
theorem zlZ {X:Cx}:zfu CX0 X E0:=fun _ _ _ _ _ _ _ h=>h.elim
structure Fun (K:PySem.W.Frag) (x qual:Str) (st:Stmt) (f:Addr) (fd:FuncData):Prop where
 ex:∃(oc:Value) (od:Option Addr) (kV doc pm:Value) (an:Option Addr) (cdv ct:Value) (osl:Array (Option Value)),
  fd=PySem.W.fnOf x qual (zav st) (zap st) (zae st) .none kV doc pm an cdv ct/\K.lookup f=some ⟨oc,od,.func fd,osl⟩/\PySem.W.codeIn K cdv qual=true
 kp:PySem.W.keepIn K (.ref f)=true
section
variable {P:Program} {w:World} {K:PySem.W.Frag} {mg:Str->Option Value} {base:Heap}
end
section
variable {X:Cx}
end
noncomputable def Same (H H':Hp):Prop:=∀b o,H b=some o->H' b=some o
end L2
namespace L2
open PySem PySem.Spec PyProof.Rows
section
variable {X:Cx}
theorem zhq:zaV X (.builtin "len") (fun xs H Q=>∃a kvs,xs=[V.ref a]/\H a=some (.dK kvs)/\Q (.int kvs.length) H):=by
 intro pins s σ H xs us Q I r h
 obtain⟨a,kvs,rfl,ha,q⟩:=h
 obtain⟨u,rfl,ru⟩:=zga r
 cases ru
 exact znY I (.inl ha) fun t s' I'=>⟨.int kvs.length,H,I',⟨t,rfl⟩,q⟩
end
section
variable {κ:Type} [DecidableEq κ]
end
end L2
end
section
namespace L2
open PySem PySem.Spec PyProof.Rows
noncomputable def zaR (cells:List (Str × Addr))(y:Str × NameKind)(acc:List (Str × Addr)):List (Str × Addr):=
 if (y.2 == NameKind.free)=true then (match cells.lookup y.1 with|some c=>(y.1,c)::acc|none=>acc) else acc
noncomputable def zeI (cells:List (Str × Addr))(names:List (Str × NameKind))(acc:List (Str × Addr)):List (Str × Addr):=names.foldl (fun a y=>zaR cells y a) acc
theorem zcz {α β:Type}(f:α->β->Sem (ForInStep β))(g:α->β->β):∀(l:List α) (b:β),(∀x∈l,∀b,f x b=pure (.yield (g x b)))->forIn l b f=(pure (l.foldl (fun b x=>g x b) b):Sem β)
 | [],b,_=>rfl
 | x :: l, b, h => by
   rw[List.forIn_cons,h x List.mem_cons_self,pure_bind]
   exact zcz f g l _ fun y hy=>h y (List.mem_cons_of_mem _ hy)
theorem zbd {scope:Scope}{env:Env}(h:∀y∈scope.names,y.2=.free->∃c,env.cells.lookup y.1=some c) :
  closureFor scope env=pure (zeI env.cells scope.names []):=by
 unfold closureFor zeI
 dsimp only
 rw[zcz _ (fun y a=>zaR env.cells y a)]
 · simp
 · intro y hy a
   obtain⟨n,k⟩:=y
   by_cases hk:k=.free
   · obtain⟨c,hc⟩:=h _ hy hk
     subst hk
     simp at hc
     simp[cellOf,hc,zaR]
   · have:(k == NameKind.free)=false:=by simpa using hk
     simp[this,zaR]
theorem zd9 {cells:List (Str × Addr)}:∀(names:List (Str × NameKind)) (acc:List (Str × Addr)),(∀x c,acc.lookup x=some c->cells.lookup x=some c)->
  ∀x c,(zeI cells names acc).lookup x=some c->cells.lookup x=some c
 | [],acc,h=>h
 | y :: r, acc, h => by
   refine zd9 r (zaR cells y acc) ?_
   intro x c e
   unfold zaR at e
   split at e
   · split at e
     · rename_i c' hc'
       rw[List.lookup_cons] at e
       cases hx:x == y.1 with
       | true =>
         rw[hx] at e
         have q:x=y.1:=beq_iff_eq.mp hx
         have e':c'=c:=Option.some.inj e
         rw[q,<-e']
         exact hc'
       |false=>rw[hx] at e;exact h x c e
     · exact h x c e
   · exact h x c e
theorem zcE {cells:List (Str × Addr)}:∀(names:List (Str × NameKind)) (acc:List (Str × Addr)) (x:Str),(∀y∈names,y.2=.free->∃c,cells.lookup y.1=some c)->
  ((∃c,acc.lookup x=some c)\/(x,NameKind.free)∈names)->∃c,(zeI cells names acc).lookup x=some c
 | [], acc, x, _, h => by
   rcases h with h|h
   · exact h
   · cases h
 | y :: r, acc, x, hf, h => by
   refine zcE r (zaR cells y acc) x (fun z hz=>hf z (List.mem_cons_of_mem _ hz)) ?_
   rcases h with ⟨c,h⟩|h
   · left
     unfold zaR
     split
     · split
       · rename_i c' hc'
         rw[List.lookup_cons]
         cases hx:x == y.1 with
         |true=>exact⟨c',rfl⟩
         |false=>exact⟨c,h⟩
       · exact⟨c,h⟩
     · exact⟨c,h⟩
   · rcases List.mem_cons.mp h with h|h
     · left
       subst h
       obtain⟨c,hc⟩:=hf _ List.mem_cons_self rfl
       refine⟨c,?_⟩
       simp at hc
       simp[zaR,hc]
     · exact .inr h
noncomputable def zbv (env:Env)(y:Str × NameKind):Str × NameKind:=if (y.2 == .free&&env.scope.kind == .function&&env.kindOf y.1 == some .cell)=true then (y.1,.cell) else y
theorem za5 (scope:Scope)(env:Env):(relabel scope env).names=scope.names.map (zbv env):=by
 unfold relabel
 show scope.names.map _=_
 refine List.map_congr_left fun y _=>?_
 obtain⟨n,k⟩:=y
 rfl
theorem zcl (env:Env)(y:Str × NameKind):(zbv env y).1=y.1:=by unfold zbv;split<;>rfl
theorem zck (env:Env)(y:Str × NameKind):(zbv env y).2=y.2\/(y.2=.free/\(zbv env y).2=.cell):=by
 unfold zbv
 split
 · rename_i h
   simp only[Bool.and_eq_true,beq_iff_eq] at h
   exact .inr ⟨h.1.1,rfl⟩
 · exact .inl rfl
theorem zbf (env:Env)(x:Str):∀names:List (Str × NameKind),∀k,(names.map (zbv env)).lookup x=some k->∃k0,(x,k0)∈names/\names.lookup x=some k0/\(k=k0\/(k0=.free/\k=.cell))
 | [],k,h=>by simp at h
 | y :: r, k, h => by
   rw[List.map_cons] at h
   have f1:=zcl env y
   have f2:=zck env y
   obtain⟨n,k1⟩:=y
   generalize hz:zbv env (n,k1)=z at *
   obtain⟨zn,zk⟩:=z
   simp only at f1 f2
   subst f1
   rw[List.lookup_cons] at h
   rw[List.lookup_cons]
   cases hx:x == zn with
   | true =>
     rw[hx] at h
     have q:x=zn:=beq_iff_eq.mp hx
     subst q
     have e:zk=k:=Option.some.inj h
     subst e
     exact⟨k1,List.mem_cons_self,rfl,f2⟩
   | false =>
     rw[hx] at h
     obtain⟨k0,m,l,q⟩:=zbf env x r k h
     exact⟨k0,List.mem_cons_of_mem _ m,l,q⟩
theorem za6 (env:Env)(x:Str):∀names:List (Str × NameKind),names.lookup x=some .free->(names.map (zbv env)).lookup x=some .free\/(names.map (zbv env)).lookup x=some .cell
 | [],h=>by simp at h
 | y :: r, h => by
   rw[List.map_cons]
   have f1:=zcl env y
   have f2:=zck env y
   obtain⟨n,k1⟩:=y
   generalize hz:zbv env (n,k1)=z at *
   obtain⟨zn,zk⟩:=z
   simp only at f1 f2
   subst f1
   rw[List.lookup_cons] at h
   rw[List.lookup_cons]
   cases hx:x == zn with
   | true =>
     rw[hx] at h
     have e:k1=.free:=Option.some.inj h
     subst e
     rcases f2 with f2|⟨_,f2⟩
     · left;show some zk=_;rw[f2]
     · right;show some zk=_;rw[f2]
   | false =>
     rw[hx] at h
     exact za6 env x r h
structure CompOk (sc scope:Scope) (N0:List Str) (js:List Nat):Prop where
 kind:scope.kind=.function
 nocell:∀y∈scope.names,y.2≠.cell
 locs:∀y∈scope.names,y.2=.local->scope.names.lookup y.1=some .local
 frees:∀y∈scope.names,y.2=.free->sc.names.lookup y.1=some .cell\/sc.names.lookup y.1=some .free
 caps:∀j∈js,scope.names.lookup (N0.getD j "")=some .free/\j<N0.length
noncomputable abbrev zax (X:Cx)(N':List Str)(scope:Scope)(cl:List (Str × Addr))(C:Addr)(fp:List Addr)(s:Shared)(H:Hp)(pn:List (Addr × Obj)):Cx:=
 {X with N:=N',s₀:=s,H₀:=H,env:=compEnvC scope cl C X.env,outer:=X.stack,stack:=X.stack,ex:=fp,fn:=fun _=>false,pn:=pn,xe:=fun _ _=>False}
noncomputable def csl (nt:Nat)(js:List Nat)(σ:St):St:=List.replicate nt none++js.map fun j=>(σ[j]?).join
noncomputable abbrev capN (N0:List Str)(tgs:List Str)(js:List Nat):List Str:=tgs++js.map fun j=>N0.getD j ""
noncomputable def PTs (X:Cx)(ifs:List Expr)(t:TT):Prop:=
 ∀(pins:List (Addr × Obj)) (s:Shared) (σ:St) (H:Hp) (Q:Bool->Hp->Prop),Inv X pins σ H s->t σ H Q->
  wpAny (model X.prog X.w) X.A (forIn ifs true fun c r=>if r=true then do let ok <-isTrue c X.env (eval c X.env);pure (ForInStep.yield ok) else pure (ForInStep.yield r)) (TP X pins σ Q) X.xe s
noncomputable def tYes:TT:=fun _ H Q=>Q true H
theorem zjR {X:Cx}:PTs X [] tYes:=fun pins s σ H Q I h=>wpAny_tests_nil ⟨H,I,h⟩
theorem zgt {X:Cx}{c:Expr}{t:TT}(h:PT X c t):PTs X [c] t:=fun pins s σ H Q I q=>wpAny_tests_one (h pins s σ H Q I q)
noncomputable def zjo (nt:Nat)(js:List Nat)(wi:TI)(g:TG)(tt:TT)(te:TE):TE:=fun σ H Q=>wi σ H fun J H1=>∀p,H1 p=none->
 ∃W:Nat->Nat->St->Hp->Prop,(∃m,W 0 m (csl nt js σ) (upd H1 p (.lst [])))/\∀i m σ' H',W i m σ' H'->
  (J.stop i H'/\Q (.ref p) H')\/(J.go i H'/\∃N:St->Hp->Prop,(∀σ2 H2,N σ2 H2->∃m',m'<m/\W (i+1) m' σ2 H2)/\
   ∀x H2,J.yld i H' x H2->g x σ' H2 fun σ2 H3=>tt σ2 H3 fun b H4=>if b=true then te σ2 H4 fun v H5=>∃acc,H5 p=some (.lst acc)/\acc.length<sizeLine/\N σ2 (upd H5 p (.lst (acc++[v]))) else N σ2 H4)
section
variable {prog:Program} {w:World} {A:Around} {R:Result->Shared->Prop} {s:Shared}
theorem zfZ {elt tg iter:Expr}{ifs:List Expr}{scope:Scope}{pos:Pos}{it acc:Value}{env:Env}(J:Nat->Shared->Prop)
  (turn:∀n s,J n s->wpAny (model prog w) A (pyNext it) (fun r s₁=>(r=none/\R (.ok .next) s₁)\/∃v,r=some v/\
   wpAny (model prog w) A (letOwnedTupleGo tg it v) (fun _ s₀=>wpAny (model prog w) A (assign tg env v) (fun _ s₂=>
    wpAny (model prog w) A (forIn ifs true fun c r=>if r=true then do let ok <-isTrue c env (eval c env);pure (ForInStep.yield ok) else pure (ForInStep.yield r)) (fun ok s₃=>
     if ok=true then wpAny (model prog w) A (eval elt env) (fun x s₄=>wpAny (model prog w) A (call (.builtin "list.append") [acc,x]) (fun _ s₅=>∃m,m<n/\J m s₅) (fun _ _=>False) s₄) (fun _ _=>False) s₃
     else ∃m,m<n/\J m s₃) (fun _ _=>False) s₂) (fun _ _=>False) s₀) (fun _ _=>False) s₁) (fun _ _=>False) s)
  (n:Nat) (h:J n s):codeAny (model prog w) A (.compLoop (.ListComp elt [⟨tg,iter,ifs,0⟩] scope pos) 0 it acc env) R s:=by
 refine codeAny_loop rfl J (fun n s hI=>?_) n h
 show wpAny _ A ((compTurn (.ListComp elt [⟨tg,iter,ifs,0⟩] scope pos) 0 it acc env).onRaise (fun x=>do noteFrame x env;theTreesLotGoes x)) _ _ s
 refine wpAny_noted ?_
 rw[compTurn_list]
 refine wpAny_bind (wpAny_standAt (wpAny_bind (wpAny_mono (turn n s hI) (fun r s₁ h₁=>?_) fun _ _ f=>f.elim)))
 rcases h₁ with ⟨rfl,h₁⟩|⟨v,rfl,h₁⟩
 · exact wpAny_pure h₁
 · refine wpAny_bind (wpAny_mono h₁ (fun _ s₀ h₀=>?_) fun _ _ f=>f.elim)
   refine wpAny_bind (wpAny_mono h₀ (fun _ s₂ h₂=>?_) fun _ _ f=>f.elim)
   refine wpAny_bind (wpAny_mono h₂ (fun ok s₃ h₃=>?_) fun _ _ f=>f.elim)
   cases ok with
   |false=>exact wpAny_pure ⟨rfl,h₃⟩
   | true =>
     refine wpAny_bind (wpAny_bind (wpAny_mono h₃ (fun x s₄ h₄=>?_) fun _ _ f=>f.elim))
     exact wpAny_bind (wpAny_mono h₄ (fun _ s₅ h₅=>wpAny_pure (wpAny_pure ⟨rfl,h₅⟩)) fun _ _ f=>f.elim)
end
section
variable {X:Cx} {sc scope:Scope} {tgs:List Str} {js:List Nat} {elt tg iter:Expr} {ifs:List Expr} {pos:Pos} {wi:TI} {g:TG} {tt:TT} {te:TE}
theorem zcV (hc:X.calm=true)(hsc:X.env.scope=sc)(ok:CompOk sc scope X.N js)
  (hg:∀cl C fp s H pn,PG (zax X (capN X.N tgs js) scope cl C fp s H pn) tg g)
  (ht:∀cl C fp s H pn,PTs (zax X (capN X.N tgs js) scope cl C fp s H pn) ifs tt)
  (he:∀cl C fp s H pn,PE (zax X (capN X.N tgs js) scope cl C fp s H pn) elt te)
  {pins:List (Addr × Obj)} {σ:St} {H2:Hp} {s2:Shared} {it:Addr} {fp:List Addr} {tn:Nat->Heap->Prop} {J:It} {E:Value->Shared->Prop} {RR:Value->Addr->Result->Shared->Prop} {Q:VK}
  (I2:Inv X pins σ H2 s2) (T:Turn X.prog X.w X.K tg J fp it tn) (st2:tn 0 s2.heap) (f2:∀b∈fp,FpOk X pins H2 b)
  (rd:∀p,H2 p=none->∃W:Nat->Nat->St->Hp->Prop,(∃m,W 0 m (csl tgs.length js σ) (upd H2 p (.lst [])))/\∀i m σ' H',W i m σ' H'->
   (J.stop i H'/\Q (.ref p) H')\/(J.go i H'/\∃N:St->Hp->Prop,(∀σ2 H2,N σ2 H2->∃m',m'<m/\W (i+1) m' σ2 H2)/\
    ∀x H2,J.yld i H' x H2->g x σ' H2 fun σ2 H3=>tt σ2 H3 fun b H4=>if b=true then te σ2 H4 fun v H5=>∃acc,H5 p=some (.lst acc)/\acc.length<sizeLine/\N σ2 (upd H5 p (.lst (acc++[v]))) else N σ2 H4))
  (fin:∀p C H' s',Inv X pins σ H' s'->(∃m,s'.heap.Ns C m)->s2.heap.objs.size<C->H' C=none->Q (.ref p) H'->RR (.ref p) C (.ok .next) s') :
  wpAny (model X.prog X.w) X.A (newList []) (fun acc s₃=>wpAny (model X.prog X.w) X.A (newFunctionEnv scope X.env.globals (zeI X.env.cells scope.names []) [] X.env.qual none .none (some X.env)) (fun cenv s₄=>
   codeAny (model X.prog X.w) X.A (.compStart (.ListComp elt [⟨tg,iter,ifs,0⟩] scope pos) 0 (.ref it) acc {cenv with scope:=relabel scope X.env}) (RR acc cenv.locals) s₄) E s₃) E s2:=by
 subst hsc
 refine wpAny_newObj_type (wpAny_newFunctionEnv ok.nocell (by intro y hy;simp at hy) (fun h₁ hns₁ hsb₁=>?_) ok.kind)
 have I3:Inv X pins σ (upd H2 s2.heap.objs.size (.lst [])) {s2 with heap:=s2.heap.push {cls:=.type "list",data:=.seq ([]:List Value).toArray}}:=
  I2.lnew (its:=[]) (ys:=[]) (t':=s2.toks) .nil (Nat.zero_le _)
 obtain⟨W,⟨m0,w0⟩,turn⟩:=rd _ I2.fresh
 generalize hp:s2.heap.objs.size=p at *
 generalize hs3:({s2 with heap:=s2.heap.push {cls:=.type "list",data:=.seq ([]:List Value).toArray}}:Shared)=s3 at I3
 have e3:s3.heap=s2.heap.push {cls:=.type "list",data:=.seq ([]:List Value).toArray}:=by rw[<-hs3]
 have sz3:s3.heap.objs.size=p+1:=by rw[e3,Heap.size_push,hp]
 generalize hH3:upd H2 p (.lst [])=H3 at *
 -- the block's frame
 have hns:h₁.Ns s3.heap.objs.size (fun x=>([]:List (Str × Value)).reverse.lookup x):=by rw[e3];exact hns₁
 have hsb:Heap.SameBut s3.heap.objs.size (s3.heap.push {cls:=.type "dict",data:=.dict #[]}) h₁:=by rw[e3];exact hsb₁
 have old:∀b o,s3.heap.get? b=some o->h₁.get? b=some o:=fun b o e=>
  (hsb.2 b (Nat.ne_of_lt (Heap.lt_size e))).trans (Heap.get?_push_of_some _ e)
 have frees:∀y∈scope.names,y.2=.free->∃c,X.env.cells.lookup y.1=some c:=fun y hy hk=>I2.ok.has y.1 (ok.frees y hy hk)
 have cellX:∀x c,(zeI X.env.cells scope.names []).lookup x=some c->X.env.cells.lookup x=some c:=zd9 scope.names [] (fun x c e=>by simp at e)
 generalize hcl:zeI X.env.cells scope.names []=cl at *
 have okX:(zax X (capN X.N tgs js) scope cl s3.heap.objs.size fp s3 H3 (X.pn++pins)).Ok:=
  { mod := I3.ok.mod, kind := ok.kind, glob := I3.ok.glob, blt := I3.ok.blt, above := Nat.le_refl _,
    inj:=fun x y c e1 e2=>I3.ok.inj x y c (cellX x c e1) (cellX y c e2),
    has:=fun x hk=>by
     have hk':(scope.names.map (zbv X.env)).lookup x=some .cell\/(scope.names.map (zbv X.env)).lookup x=some .free:=by
      rw[<-za5];exact hk
     rw[<-hcl]
     refine zcE scope.names [] x frees (.inr ?_)
     rcases hk' with q|q
     · obtain⟨k0,m,_,e⟩:=zbf X.env x _ _ q
       rcases e with e|⟨e,_⟩
       · subst e;exact absurd rfl (ok.nocell _ m)
       · subst e;exact m
     · obtain⟨k0,m,_,e⟩:=zbf X.env x _ _ q
       rcases e with e|⟨e,z⟩
       · subst e;exact m
       · exact absurd z (fun h=>(nomatch h)),
    cab:=fun x c e=>absurd e Bool.false_ne_true,hd:=I3.ok.hd,frames:=I3.ok.frames,stk:=.inl rfl,
    exf:=fun b hb=>⟨Nat.ne_of_lt (by
     obtain⟨o,ho,_⟩:=T.obj 0 _ st2 b hb
     show b<s3.heap.objs.size
     rw[sz3,<-hp]
     exact Nat.lt_succ_of_lt (Heap.lt_size ho)),fun x c e=>(f2 b hb).2.2.2.2.1 x c (cellX x c e)⟩,
    bs:=I3.bs,bsz:=Nat.le_trans I3.ok.bsz I3.sz,
    noex:=fun b o e hb=>by
     rcases (f2 b hb).2.2.2.1 with z|z
     · exact I3.ok.noex b o e z
     · exact absurd (Nat.lt_of_lt_of_le (Heap.lt_size e) (Nat.le_trans I3.ok.bsz z)) (Nat.lt_irrefl _),
    exfs:=fun b hb hx=>by
     rcases List.mem_cons.mp (I3.stkSub b hx) with z|z
     · exact (f2 b hb).2.1 z
     · exact (f2 b hb).2.2.1 z,
    funs:=I3.stack,frf:=I3.stkFree}
 have I4:Inv (zax X (capN X.N tgs js) scope cl s3.heap.objs.size fp s3 H3 (X.pn++pins)) [] (csl tgs.length js σ) H3 {s3 with heap:=h₁}:=
  { ok := okX, os := rfl, bare := I3.bare, base := Un.kept old,
    loc:=⟨_,hns,fun i x v e1 e2 e3=>by
     have e1:(tgs++js.map fun j=>X.N.getD j "")[i]?=some x:=e1
     have e2:(List.replicate tgs.length none++js.map fun j=>(σ[j]?).join)[i]?=some (some v):=e2
     by_cases hi:i<tgs.length
     · rw[List.getElem?_append_left (by rw[List.length_replicate];exact hi),List.getElem?_replicate,if_pos hi] at e2
       cases e2
     · rw[List.getElem?_append_right (by omega),List.getElem?_map] at e1
       rw[List.getElem?_append_right (by rw[List.length_replicate];omega),List.length_replicate,List.getElem?_map] at e2
       cases hj:js[i - tgs.length]? with
       |none=>rw[hj] at e1;cases e1
       | some j =>
         rw[hj] at e1 e2
         have e1:X.N.getD j ""=x:=Option.some.inj e1
         have e2:(σ[j]?).join=some v:=Option.some.inj e2
         have hjm:j∈js:=List.mem_of_getElem? hj
         obtain⟨hfr,hjl⟩:=ok.caps j hjm
         rw[e1] at hfr
         have hNj:X.N[j]?=some x:=by
          rw[List.getElem?_eq_getElem hjl]
          rw[List.getD_eq_getElem?_getD,List.getElem?_eq_getElem hjl] at e1
          exact congrArg some e1
         have hσ:σ[j]?=some (some v):=by
          cases q:σ[j]? with
          |none=>rw[q] at e2;cases e2
          | some o =>
            rw[q] at e2
            have e2:o=some v:=e2
            rw[e2]
         have hmem:(x,NameKind.free)∈scope.names:=by
          obtain⟨l1,l2,h3,_⟩:=List.lookup_eq_some_iff.mp hfr
          rw[h3];simp
         have hkX:=ok.frees _ hmem rfl
         have hvis:Vis X.env.scope x:=hkX.elim (fun z=>.inr (.inl z)) fun z=>.inr (.inr z)
         obtain⟨m,hn,hl⟩:=I3.loc
         obtain⟨u,r,lk⟩:=hl j x v hNj hσ hvis
         refine⟨u,r,.inr ⟨?_,?_⟩⟩
         · have q:=za6 X.env x scope.names hfr
           rw[<-za5] at q
           exact q.symm
         · rcases lk with ⟨k,_⟩|⟨_,c,ec,z⟩
           · exfalso
             have k:X.env.scope.names.lookup x=some .local:=k
             rcases hkX with q|q<;>(rw[k] at q;cases q)
           · obtain⟨c',hc'⟩:∃c',cl.lookup x=some c':=by
              rw[<-hcl]
              exact zcE scope.names [] x frees (.inr hmem)
             have q:=cellX x c' hc'
             rw[ec] at q
             cases q
             obtain⟨o,ho,hd⟩:=z
             exact⟨c,hc',o,old _ _ ho,hd⟩⟩,
    cell:=fun x c e=>by
     obtain⟨v,o,ho,hd⟩:=I3.cell x c (cellX x c e)
     exact⟨v,o,old _ _ ho,hd⟩,
    free:=I3.fresh,
    freeC:=fun x c e=>I3.freeC x c (cellX x c e),
    pin:=fun q hq=>by
     have hq:q∈X.pn++pins:=by simpa using hq
     obtain⟨e,n,ne,nf,d⟩:=I3.pin q hq
     refine⟨old _ _ e,n,Nat.ne_of_lt (Heap.lt_size e),fun z=>?_,d⟩
     rcases List.mem_cons.mp (I3.stkSub _ z) with z|z
     · exact ne z
     · exact nf z,
    hok:=I3.hok.kept old,
    len:=by
     show (List.replicate tgs.length none++js.map fun j=>(σ[j]?).join).length=(tgs++js.map fun j=>X.N.getD j "").length
     simp}
 have stat:∀{H':Hp},(∀b∈fp,H' b=none)->∀b∈fp,FpOk (zax X (capN X.N tgs js) scope cl s3.heap.objs.size fp s3 H3 (X.pn++pins)) [] H' b:=fun hn b hb=>
  ⟨hn b hb,(okX.exf b hb).1,okX.exfs b hb,.inl hb,(okX.exf b hb).2,fun q hq=>by
   have hq:q∈X.pn++pins:=by simpa using hq
   exact (f2 b hb).2.2.2.2.2 q hq⟩
 have fr3:∀b∈fp,H3 b=none:=fun b hb=>by
  obtain⟨o,ho,_⟩:=T.obj 0 _ st2 b hb
  rw[<-hH3,zah (Nat.ne_of_lt (hp▸Heap.lt_size ho))]
  exact (f2 b hb).1
 have st4:tn 0 h₁:=T.keep 0 _ _ st2 fun b hb o e=>old b o (by rw[e3];exact Heap.get?_push_of_some _ e)
 have loop:codeAny (model X.prog X.w) X.A (.compLoop (.ListComp elt [⟨tg,iter,ifs,0⟩] scope pos) 0 (.ref it) (.ref p) (compEnvC scope cl s3.heap.objs.size X.env)) (RR (.ref p) s3.heap.objs.size) {s3 with heap:=h₁}:=by
  refine zfZ (fun n s'=>∃i σ' H',Inv (zax X (capN X.N tgs js) scope cl s3.heap.objs.size fp s3 H3 (X.pn++pins)) [] σ' H' s'/\tn i s'.heap/\(∀b∈fp,H' b=none)/\W i n σ' H') ?_ m0 ⟨0,_,H3,I4,st4,fr3,w0⟩
  rintro n s4 ⟨i,σ4,H4,J4,st4,fr4,w4⟩
  rcases turn i n σ4 H4 w4 with ⟨stop,qn⟩|⟨go,N,hN,step⟩
  · refine thn (T.done (zax X (capN X.N tgs js) scope cl s3.heap.objs.size fp s3 H3 (X.pn++pins)) rfl rfl rfl hc i [] s4 σ4 H4 _ J4 (stat fr4) st4 stop) fun r s5 ⟨hr,J5⟩=>.inl ⟨hr,?_⟩
    have hX:Inv X pins σ H4 s5:=I3.call' J5.os J5.base J5.hok J5.bare fun b hb=>⟨(f2 b hb).2.2.2.1,(f2 b hb).2.1,(f2 b hb).2.2.2.2.1,(f2 b hb).2.2.2.2.2⟩
    obtain⟨m,hm,_⟩:=J5.loc
    exact fin p _ H4 s5 hX ⟨m,hm⟩ (by rw[sz3];exact Nat.lt_succ_self _) J5.free qn
  · refine thn (T.item (zax X (capN X.N tgs js) scope cl s3.heap.objs.size fp s3 H3 (X.pn++pins)) rfl rfl rfl hc i [] s4 σ4 H4 _ J4 (stat fr4) st4 go) fun r s5 ⟨u,hr,h5⟩=>.inr ⟨u,hr,?_⟩
    refine thn h5 fun _ s6 ⟨x,H6,J6,r6,y6,st6,fr6⟩=>?_
    have J6':=J6.pinned (stat fr6) (T.obj _ _ st6)
    refine thn (hg _ _ _ _ _ _ _ s6 σ4 H6 x u _ J6' r6 (step x H6 y6)) fun _ s7 ⟨σ7,H7,J7,q7⟩=>?_
    refine thn (ht _ _ _ _ _ _ _ s7 σ7 H7 _ J7 q7) fun ok8 s8 ⟨H8,J8,q8⟩=>?_
    have again:∀{s9:Shared} {H9:Hp},Inv (zax X (capN X.N tgs js) scope cl s3.heap.objs.size fp s3 H3 (X.pn++pins)) ([]++zdO fp s6.heap) σ7 H9 s9->N σ7 H9->
      ∃m,m<n/\∃i σ' H',Inv (zax X (capN X.N tgs js) scope cl s3.heap.objs.size fp s3 H3 (X.pn++pins)) [] σ' H' s9/\tn i s9.heap/\(∀b∈fp,H' b=none)/\W i m σ' H':=fun {s9 H9} J9 n9=>by
     obtain⟨m',hm,w9⟩:=hN σ7 H9 n9
     refine⟨m',hm,i+1,σ7,H9,J9.unpinned,T.keep _ _ _ st6 fun b hb o e=>(J9.pin (b,o) (List.mem_append_right _ (List.mem_append_right _ (zbq hb e)))).1,fun b hb=>?_,w9⟩
     obtain⟨o,e,d⟩:=T.obj _ _ st6 b hb
     exact (J9.pin (b,o) (List.mem_append_right _ (List.mem_append_right _ (zbq hb e)))).2.1
    cases ok8 with
    |false=>exact again J8 q8
    | true =>
      refine thn (he _ _ _ _ _ _ _ s8 σ7 H8 _ J8 q8) fun y s9 ⟨v,H9,J9,r9,acc,ha,hl,q9⟩=>?_
      refine thn (zdR _ s9 σ7 H9 (.ref p) [v] (.ref p) [y] (fun _ H=>N σ7 H) J9 rfl (.cons r9 .nil) ⟨p,acc,v,rfl,rfl,ha,hl,q9⟩) fun _ s10 ⟨_,H10,J10,_,q10⟩=>?_
      exact again J10 q10
 exact codeAny_compStart_list loop (T.self _ 0 _ _ _ st4 loop)
theorem zh3 (sc:Scope)(tgs:List Str)(js:List Nat)(hc:X.calm=true)(hsc:X.env.scope=sc)(ok:CompOk sc scope X.N js)(hi:PI X tg iter wi)
  (hg:∀cl C fp s H pn,PG (zax X (capN X.N tgs js) scope cl C fp s H pn) tg g)
  (ht:∀cl C fp s H pn,PTs (zax X (capN X.N tgs js) scope cl C fp s H pn) ifs tt)
  (he:∀cl C fp s H pn,PE (zax X (capN X.N tgs js) scope cl C fp s H pn) elt te)
  (hs:∀x,foldedSetIterable iter X.env x=pure x:=by intro _;rfl) :
  PE X (.ListComp elt [⟨tg,iter,ifs,0⟩] scope pos) (zjo tgs.length js wi g tt te):=by
 intro pins s σ H Q I h
 rw[eval_ListComp]
 have frees:∀y∈scope.names,y.2=.free->∃c,X.env.cells.lookup y.1=some c:=fun y hy hk=>I.ok.has y.1 (by
  have q:=ok.frees y hy hk
  rw[<-hsc] at q
  exact q)
 refine wpAny_comprehension_free (use:=none) rfl hs (zbd frees) ok.kind ok.locs (thn (hi pins s σ H _ I h) fun v s1 h1=>thn h1 fun itv s2 h2=>?_)
 obtain⟨it,fp,tn,J,H2,e,I2,T,st2,f2,rd⟩:=h2
 subst e
 refine zcV hc hsc ok hg ht he I2 T st2 f2 rd (Q:=Q) fun p C H' s' I' hm hC hn q=>?_
 obtain⟨m,hm⟩:=hm
 refine⟨m,hm,fun h' hs'=>⟨.ref p,H',?_,rfl,q⟩⟩
 exact I'.turned (t':=s'.toks) (it:=C) (fun b o hb e=>(hs'.2 b hb).trans e) hn (Nat.ne_of_gt (Nat.lt_trans I2.lt hC)) (.inr (Nat.le_trans I2.sz (Nat.le_of_lt hC))) (fun x c e=>by
  obtain⟨v,o,ho,_⟩:=I2.cell x c e
  exact Nat.ne_of_lt (Nat.lt_trans (Heap.lt_size ho) hC)) fun q hq=>Nat.ne_of_lt (Nat.lt_trans (Heap.lt_size (I2.pin q hq).1) hC)
theorem zjT (sc:Scope)(tgs:List Str)(js:List Nat){i:Nat}{y:Str}{py spos:Pos}(hN:X.N.Nodup)(hi':X.N[i]?=some y)(hy:Loc X.env.scope y)(hc:X.calm=true)(hsc:X.env.scope=sc)(ok:CompOk sc scope X.N js)(hi:PI X tg iter wi)
  (hg:∀cl C fp s H pn,PG (zax X (capN X.N tgs js) scope cl C fp s H pn) tg g)
  (ht:∀cl C fp s H pn,PTs (zax X (capN X.N tgs js) scope cl C fp s H pn) ifs tt)
  (he:∀cl C fp s H pn,PE (zax X (capN X.N tgs js) scope cl C fp s H pn) elt te)
  (hsw:swapsWith (.ListComp elt [⟨tg,iter,ifs,0⟩] scope pos) (some (.Name y py)) spos.line X.env=pure true:=by rfl)
  (hs:∀x,foldedSetIterable iter X.env x=pure x:=by intro _;rfl)
  (hf:X.fn y=true\/X.env.scope.names.lookup y=some .local:=by first|exact .inl rfl|exact .inr rfl|assumption) :
  PS X (.Assign [.Name y py] (.ListComp elt [⟨tg,iter,ifs,0⟩] scope pos) spos) (tAsg (zjo tgs.length js wi g tt te) (zg7 i)):=by
 intro pins s σ H D I h
 have frees:∀y∈scope.names,y.2=.free->∃c,X.env.cells.lookup y.1=some c:=fun y hy hk=>I.ok.has y.1 (by
  have q:=ok.frees y hy hk
  rw[<-hsc] at q
  exact q)
 rw[exec_Assign_Name_used _ _ _ _ hsw]
 refine wpAny_bind (wpAny_standAt (wpAny_bind ?_))
 show wpAny _ X.A (do let _ <-comprehension (.ListComp elt [⟨tg,iter,ifs,0⟩] scope pos) scope X.env _ (newList []) false (eval iter X.env) (some (assign (.Name y py) X.env))) _ _ s
 refine wpAny_bind (wpAny_mono (wpAny_comprehension_free (use:=some (assign (.Name y py) X.env)) (Q:=fun _ s'=>SP X pins D .next s') rfl hs (zbd frees) ok.kind ok.locs
  (thn (hi pins s σ H _ I h) fun v s1 h1=>thn h1 fun itv s2 h2=>?_)) (fun _ s' hq=>wpAny_pure (wpAny_pure hq)) fun _ _ e=>e)
 obtain⟨it,fp,tn,J,H2,e,I2,T,st2,f2,rd⟩:=h2
 subst e
 refine zcV hc hsc ok hg ht he I2 T st2 f2 rd (Q:=fun x H1=>zg7 i x σ H1 D.nx) fun p C H' s' I' hm hC hn q=>?_
 obtain⟨m,hm⟩:=hm
 have hL:C≠X.env.locals:=Nat.ne_of_gt (Nat.lt_trans I2.lt hC)
 have hCc:∀x c,X.env.cells.lookup x=some c->c≠C:=fun x c e=>by
  obtain⟨v,o,ho,_⟩:=I2.cell x c e
  exact Nat.ne_of_lt (Nat.lt_trans (Heap.lt_size ho) hC)
 show wpAny _ X.A (assign (.Name y py) X.env (.ref p)) _ _ _
 refine wpAny_assign_Name (zdy I' hN hi' hy (v:=.ref p) rfl (fun s'' I'' hch=>?_) hf)
 obtain⟨a,hsb,ha⟩:=hch
 have hCa:C≠a:=by
  rcases ha with z|z
  · rw[z];exact hL
  · exact fun e=>hCc y a z e.symm
 refine⟨m,hm.sameBut hsb hCa,fun h' hs'=>⟨σ.set i (some (.ref p)),H',?_,q⟩⟩
 exact I''.turned (t':=s''.toks) (it:=C) (fun b o hb e=>(hs'.2 b hb).trans e) hn hL (.inr (Nat.le_trans I2.sz (Nat.le_of_lt hC))) hCc fun q hq=>Nat.ne_of_lt (Nat.lt_trans (Heap.lt_size (I2.pin q hq).1) hC)
end
end L2
end
section
namespace L2
open PySem PySem.Spec PyProof.Rows
structure FunV (K:PySem.W.Frag) (x qual:Str) (st:Stmt) (dV:Value) (f:Addr) (fd:FuncData):Prop where
 ex:∃(oc:Value) (od:Option Addr) (kV doc pm:Value) (an:Option Addr) (cdv ct:Value) (osl:Array (Option Value)),
  fd=PySem.W.fnOf x qual (zav st) (zap st) (zae st) dV kV doc pm an cdv ct/\K.lookup f=some ⟨oc,od,.func fd,osl⟩/\PySem.W.codeIn K cdv qual=true
 kp:PySem.W.keepIn K (.ref f)=true
theorem zeC {K:PySem.W.Frag}{x qual:Str}{st:Stmt}{f:Addr}{oc:Value}{od an:Option Addr}{osl:Array (Option Value)}{dV kV doc pm cdv ct:Value}(l:K.lookup f=some ⟨oc,od,.func (PySem.W.fnOf x qual (zav st) (zap st) (zae st) dV kV doc pm an cdv ct),osl⟩)
 (c:PySem.W.codeIn K cdv qual=true) (k:PySem.W.keepIn K (.ref f)=true):FunV K x qual st dV f (PySem.W.fnOf x qual (zav st) (zap st) (zae st) dV kV doc pm an cdv ct):=⟨⟨oc,od,kV,doc,pm,an,cdv,ct,osl,rfl,l,c⟩,k⟩
section
variable {P:Program} {w:World} {K:PySem.W.Frag} {mg:Str->Option Value} {base:Heap}
theorem FunV.ok {x qual:Str}{st:Stmt}{dV:Value}{f:Addr}{fd:FuncData}{N ps:List Str}{k:Nat}{sp:Sp}(F:FunV K x qual st dV f fd)(S:FnScope N ps (zae st))(len:∀vs H Q E,sp vs H Q E->vs.length=ps.length)
  (hbody:∀(cdv:Value) (A:Around) (outer:List Env) (s:Shared) (H:Hp) (vs:List V) (Q:VK) (E:XK),Room k (A.deeper (envOfC qual (zae st) s.heap.objs.size f cdv))->sp vs H Q E->
   ∃t,PSs (cxOf CX0 P w K mg base N qual (zae st) f cdv A outer s H E).nox (zap st) t/\t {nx:=fun _ H'=>Q .non H',rt:=Q} (start N vs) H):FnOk P w K mg base CX0 (k+1) f fd ps sp:=by
 obtain⟨oc,od,kV,doc,pm,an,cdv,ct,osl,rfl,lk,hcd⟩:=F.ex
 refine zmz lk hcd S len fun A outer s H vs Q E hr hsp=>?_
 obtain⟨t,h,q⟩:=hbody cdv A outer s H vs Q E hr hsp
 exact⟨t,h.nox,q⟩
theorem FunV.binds {x qual:Str}{st:Stmt}{dV:Value}{f:Addr}{fd:FuncData}{ps:List Str}(F:FunV K x qual st dV f fd)
  (h:∀(kV doc pm:Value) (an:Option Addr) (cdv ct:Value) (us:List Value),us.length=ps.length->bindArgs (PySem.W.fnOf x qual (zav st) (zap st) (zae st) dV kV doc pm an cdv ct) ⟨us,[]⟩=pure (ps.zip us)):Binds K fd ps []:=by
 obtain⟨oc,od,kV,doc,pm,an,cdv,ct,osl,rfl,lk,hcd⟩:=F.ex
 exact .all (h kV doc pm an cdv ct)
structure Has (P:Program) (w:World) (K:PySem.W.Frag) (mg:Str->Option Value) (base:Heap) (k:Nat) (x:Str) (ps:List Str) (dvs:List V) (sp:Sp):Prop where
 ex:∃(f:Addr) (fd:FuncData) (ds:List Value),FnOk P w K mg base CX0 k f fd ps sp/\mg x=some (.ref f)/\PySem.W.keepIn K (.ref f)=true/\Binds K fd ps ds/\Vals dvs ds
end
theorem znv {X:Cx}{k:Nat}{x:Str}{ps:List Str}{dvs:List V}{sp:Sp}{p pos:Pos}{e:Expr}{es:List Expr}{t:TA}(G:Has X.prog X.w X.K X.mg X.base k x ps dvs sp)(hr:Room k X.A)(ha:PA X (e::es) t)(hg:Gl X x:=by rfl)
  (hdb:(x == ("__debug__":Str))=false:=by decide) (he:starEach (e::es) X.env=(false,eval e X.env)::starEach es X.env:=by rfl) (hpl:(backTo pos (starEach es X.env)).any (·.1)=false:=by rfl) :
  PE X (.Call (.Name x p) (e::es) [] pos) (zgf sp dvs E0 t):=by
 obtain⟨f,fd,ds,F,hm,hk,hb,hd⟩:=G.ex
 exact zj1 F hr hg hm hk hb hd zlZ ha hdb he hpl
theorem zlW {X:Cx}{k:Nat}{x:Str}{ps:List Str}{dvs:List V}{sp:Sp}{p pos:Pos}(G:Has X.prog X.w X.K X.mg X.base k x ps dvs sp)(hr:Room k X.A)(hg:Gl X x:=by rfl)
  (hdb:(x == ("__debug__":Str))=false:=by decide):PE X (.Call (.Name x p) [] [] pos) (zgf sp dvs E0 tNil):=by
 obtain⟨f,fd,ds,F,hm,hk,hb,hd⟩:=G.ex
 exact zh6 F hr hg hm hk hb hd zlZ hdb
mutual
noncomputable def Rep (H:Hp):PyData->V->Prop
 |.none,v=>v=.non
 |.bool b,v=>v=.bl b
 |.int i,v=>v=.int i
 |.str x,v=>v=.str x
 |.list ds,v=>∃a vs,v=.ref a/\H a=some (.lst vs)/\RepAll H ds vs
 |.tuple ds,v=>∃a vs,v=.ref a/\H a=some (.tup vs)/\RepAll H ds vs
 |.dict _,_=>False
noncomputable def RepAll (H:Hp):List PyData->List V->Prop
 | [],vs=>vs=[]
 |d::ds,vs=>∃v r,vs=v::r/\Rep H d v/\RepAll H ds r
end
mutual
noncomputable def imm:PyData->Bool
 |.none=>true
 |.bool _=>true
 |.int _=>true
 |.str _=>true
 |.list _=>false
 |.tuple ds=>zdZ ds
 |.dict _=>false
noncomputable def zdZ:List PyData->Bool
 | []=>true
 |d::ds=>imm d&&zdZ ds
end
noncomputable def Tups (H H':Hp):Prop:=∀b xs,H b=some (.tup xs)->H' b=some (.tup xs)
theorem Tups.refl (H:Hp):Tups H H:=fun _ _ h=>h
theorem Tups.trans {H H1 H2:Hp}(a:Tups H H1)(b:Tups H1 H2):Tups H H2:=fun c xs h=>b c xs (a c xs h)
theorem Tups.upd {H:Hp}{p:Addr}{o:HO}(h:∀xs,H p≠some (.tup xs)):Tups H (upd H p o):=fun b xs e=>by
 have hb:b≠p:=fun z=>by subst z;exact h xs e
 rw[zah hb];exact e
theorem Tups.upd_lst {H:Hp}{p:Addr}{o:HO}{xs:List V}(h:H p=some (.lst xs)):Tups H (L2.upd H p o):=Tups.upd fun ys e=>by rw[h] at e;cases e
theorem Tups.upd_new {H:Hp}{p:Addr}{o:HO}(h:H p=none):Tups H (L2.upd H p o):=Tups.upd fun ys e=>by rw[h] at e;cases e
mutual
theorem Rep.same {H H':Hp}(hs:Same H H'):∀{d:PyData} {v:V},Rep H d v->Rep H' d v
 |.none,_,h=>h
 |.bool _,_,h=>h
 |.int _,_,h=>h
 |.str _,_,h=>h
 | .list ds, v, h => by
   obtain⟨a,vs,e,ha,r⟩:=h
   exact⟨a,vs,e,hs _ _ ha,RepAll.same hs r⟩
 | .tuple ds, v, h => by
   obtain⟨a,vs,e,ha,r⟩:=h
   exact⟨a,vs,e,hs _ _ ha,RepAll.same hs r⟩
 |.dict _,_,h=>h
theorem RepAll.same {H H':Hp}(hs:Same H H'):∀{ds:List PyData} {vs:List V},RepAll H ds vs->RepAll H' ds vs
 | [],_,h=>h
 | d :: ds, vs, h => by
   obtain⟨v,r,e,h1,h2⟩:=h
   exact⟨v,r,e,Rep.same hs h1,RepAll.same hs h2⟩
end
mutual
theorem Rep.tups {H H':Hp}(hs:Tups H H'):∀{d:PyData} {v:V},imm d=true->Rep H d v->Rep H' d v
 |.none,_,_,h=>h
 |.bool _,_,_,h=>h
 |.int _,_,_,h=>h
 |.str _,_,_,h=>h
 |.list ds,v,i,h=>by simp[imm] at i
 | .tuple ds, v, i, h => by
   obtain⟨a,vs,e,ha,r⟩:=h
   exact⟨a,vs,e,hs _ _ ha,RepAll.tups hs (by simpa[imm] using i) r⟩
 |.dict _,_,_,h=>h
theorem RepAll.tups {H H':Hp}(hs:Tups H H'):∀{ds:List PyData} {vs:List V},zdZ ds=true->RepAll H ds vs->RepAll H' ds vs
 | [],_,_,h=>h
 | d :: ds, vs, i, h => by
   obtain⟨v,r,e,h1,h2⟩:=h
   have i':imm d=true/\zdZ ds=true:=by simpa[zdZ] using i
   exact⟨v,r,e,Rep.tups hs i'.1 h1,RepAll.tups hs i'.2 h2⟩
end
theorem RepAll.ints (H:Hp):∀ns:List Int,RepAll H (ns.map PyData.int) (ns.map V.int)
 | []=>rfl
 |n::ns=>⟨_,_,rfl,rfl,RepAll.ints H ns⟩
mutual
theorem Rep.reads {X:Cx}{pins:List (Addr × Obj)}{σ:St}{H:Hp}{s:Shared}(I:Inv X pins σ H s):∀(d:PyData) (v:V) (u:Value),Rep H d v->RelV v u->∃as,Reads s.heap u d as
 | .none, v, u, h, r => by
   cases (show v=.non from h)
   cases (show u=Value.none from r)
   exact⟨_,.none⟩
 | .bool b, v, u, h, r => by
   cases (show v=.bl b from h)
   cases (show u=Value.bool b from r)
   exact⟨_,.bool b⟩
 | .int i, v, u, h, r => by
   cases (show v=.int i from h)
   obtain⟨t,rfl⟩:=(show ∃t,u=Value.int i t from r)
   exact⟨_,.int i t⟩
 | .str x, v, u, h, r => by
   cases (show v=.str x from h)
   obtain⟨t,rfl⟩:=(show ∃t,u=Value.str x t from r)
   exact⟨_,.str x t⟩
 | .list ds, v, u, h, r => by
   obtain⟨a,vs,rfl,ha,hr⟩:=h
   cases (show u=Value.ref a from r)
   obtain⟨its,n,rv,e,_⟩:=I.lst ha
   obtain⟨as,q⟩:=RepAll.reads I ds vs its hr rv
   exact⟨_,.list e rfl rfl q⟩
 | .tuple ds, v, u, h, r => by
   obtain⟨a,vs,rfl,ha,hr⟩:=h
   cases (show u=Value.ref a from r)
   obtain⟨its,rv,⟨o,e1,e2,n,e3⟩,_⟩:=I.tuple (SqT.of (K:=X.K) ha)
   obtain⟨as,q⟩:=RepAll.reads I ds vs its hr rv
   exact⟨_,.tuple e1 e2 e3 q⟩
 |.dict _,_,_,h,_=>False.elim h
theorem RepAll.reads {X:Cx}{pins:List (Addr × Obj)}{σ:St}{H:Hp}{s:Shared}(I:Inv X pins σ H s):∀(ds:List PyData) (vs:List V) (us:List Value),RepAll H ds vs->Vals vs us->∃as,ReadsAll s.heap us ds as
 | [], vs, us, h, r => by
   cases (show vs=[] from h)
   cases r
   exact⟨_,.nil⟩
 | d :: ds, vs, us, h, r => by
   obtain⟨v,vr,rfl,h1,h2⟩:=h
   cases r with
   | cons r1 r2 =>
     obtain⟨as,q1⟩:=Rep.reads I d v _ h1 r1
     obtain⟨bs,q2⟩:=RepAll.reads I ds vr _ h2 r2
     exact⟨_,.cons q1 q2⟩
end
theorem eqv_int (i j:Int):PyData.eqv (.int i) (.int j)=(i == j):=by simp[PyData.eqv]
section
variable {X:Cx}
noncomputable def rEqD (g:Bool->Bool):R2:=fun x y H Q=>∃da db,Rep H da x/\Rep H db y/\da.canLay0=true/\db.canLay0=true/\min da.depth db.depth<=60/\Q (.bl (g (PyData.eqv da db))) H
theorem zl9 (hu:X.A.units+64<cLine):OpR X (compareOp .Eq) (rEqD id):=by
 intro pins s σ H x y v u Q I rx ry h
 obtain⟨da,db,h1,h2,l1,l2,hd,q⟩:=h
 obtain⟨as,r1⟩:=Rep.reads I da x v h1 rx
 obtain⟨bs,r2⟩:=Rep.reads I db y u h2 ry
 exact SeqAt.compareEq_reads r1 r2 l1 l2 (by omega) (zan I q rfl)
theorem zl4 (hu:X.A.units+64<cLine):OpR X (compareOp .NotEq) (rEqD not):=by
 intro pins s σ H x y v u Q I rx ry h
 obtain⟨da,db,h1,h2,l1,l2,hd,q⟩:=h
 obtain⟨as,r1⟩:=Rep.reads I da x v h1 rx
 obtain⟨bs,r2⟩:=Rep.reads I db y u h2 ry
 exact SeqAt.compareNe_reads r1 r2 l1 l2 (by omega) (zan I q rfl)
theorem zl8:OpR X (compareOp .Is) (fun x y H Q=>∃a b,x=.bl a/\y=.bl b/\Q (.bl (a == b)) H):=by
 intro pins s σ H x y v u Q I rx ry h
 obtain⟨a,b,rfl,rfl,q⟩:=h
 cases rx
 cases ry
 refine wpAny_is_plain (by cases a<;>cases b<;>rfl) (zan I q ?_)
 cases a<;>cases b<;>rfl
noncomputable def zb4 (H:Hp):V->Option String
 |.non=>some "NoneType"
 |.bl _=>some "bool"
 |.int _=>some "int"
 |.str _=>some "str"
 | .ref a => match H a with
   |some (.lst _)=>some "list"
   |some (.frz _ (.lst _))=>some "list"
   |some (.tup _)=>some "tuple"
   |some (.dK _)=>some "dict"
   |some (.dT _)=>some "dict"
   |_=>none
 |_=>none
theorem zgb {K:PySem.W.Frag}{H:Hp}{x:V}{a:String}(h:zb4 H x=some a):TyOf K H x (.type a):=by
 cases x with
 |non=>cases h;exact .non
 |bl b=>cases h;exact .bl b
 |int i=>cases h;exact .int i
 |str y=>cases h;exact .str y
 |byt _=>cases h
 |flt _=>cases h
 |ty _=>cases h
 | ref p =>
   unfold zb4 at h
   cases e:H p with
   |none=>simp[e] at h
   | some o =>
     cases o with
     |lst xs=>simp[e] at h;subst h;exact .lst e
     |tup xs=>simp[e] at h;subst h;exact .tup e
     |dK kvs=>simp[e] at h;subst h;exact .dK e
     |dT kvs=>simp[e] at h;subst h;exact .dT e
     | frz ob q =>
       cases q with
       |lst xs=>simp[e] at h;subst h;exact .frz e
       |_=>simp[e] at h
     |_=>simp[e] at h
noncomputable def subT (a b:String):Bool:=a == b || (a == "bool"&&b == "int")
theorem zke (K:PySem.W.Frag){a b:String}(ha:a∈["NoneType","bool","int","str","list","tuple","dict"])(hb:b∈["bool","int","str","list","tuple","dict"]):PySem.W.kitOne K (.type a) (.type b)=some (subT a b):=by
 simp only[List.mem_cons,List.not_mem_nil,or_false] at ha hb
 rcases ha with rfl|rfl|rfl|rfl|rfl|rfl|rfl<;>rcases hb with rfl|rfl|rfl|rfl|rfl|rfl<;>rfl
theorem zfx {H:Hp}{x:V}{a:String}(h:zb4 H x=some a):a∈["NoneType","bool","int","str","list","tuple","dict"]:=by
 cases x with
 |non=>cases h;simp
 |bl b=>cases h;simp
 |int i=>cases h;simp
 |str y=>cases h;simp
 |byt _=>cases h
 |flt _=>cases h
 |ty _=>cases h
 | ref p =>
   unfold zb4 at h
   simp only at h
   split at h<;>first|(cases h;simp)|cases h
theorem zeK:zaV X (.builtin "isinstance") (fun xs H Q=>∃x c a,xs=[x,.ty c]/\zb4 H x=some a/\c∈["bool","int","str","list","tuple","dict"]/\Q (.bl (subT a c)) H):=by
 intro pins s σ H xs us Q I r h
 obtain⟨x,c,a,rfl,hx,hc,q⟩:=h
 obtain⟨u,w',rfl,rx,rc⟩:=zfw r
 cases (show w'=Value.type c from rc)
 exact zgP I rx (zgb hx) (zke X.K (zfx hx) hc) fun tk=>⟨.bl (subT a c),H,I.tok tk,rfl,q⟩
end
end L2
namespace L2
open PySem PySem.Spec PyProof.Rows
section
variable {X:Cx} {scope:Scope} {elt tg iter:Expr} {ifs:List Expr} {pos:Pos} {wi:TI} {g:TG} {tt:TT} {te:TE}
end
end L2
namespace L2
open PySem PySem.Spec PyProof.Rows
section
variable {X:Cx} (K:PySem.W.Frag) (hK:X.K=K)
include hK
end
end L2
end
section
namespace TM
structure Good (m:Nat) (wo:Option Int) (s:Int) (n:Nat) (p:List Int):Prop where
 len:p.length=n
 head:p.head?=some s
 nd:p.Nodup
 rng:∀h∈p,0<=h/\h<m/\wo≠some h
end TM
end
section
namespace L2
open PySem PySem.Spec PyProof.Rows
theorem zmR:bootBuiltins "len"=some (.builtin "len"):=by decide +kernel
theorem zmU:bootBuiltins "abs"=some (.builtin "abs"):=by decide +kernel
theorem zmQ:bootBuiltins "max"=some (.builtin "max"):=by decide +kernel
theorem zmP:bootBuiltins "min"=some (.builtin "min"):=by decide +kernel
theorem zmT:bootBuiltins "all"=some (.builtin "all"):=by decide +kernel
theorem za9:bootBuiltins "isinstance"=some (.builtin "isinstance"):=by decide +kernel
theorem zmS:bootBuiltins "int"=some (.type "int"):=by decide +kernel
theorem zkJ:bootBuiltins "bool"=some (.type "bool"):=by decide +kernel
theorem zmO:bootBuiltins "str"=some (.type "str"):=by decide +kernel
theorem zeM:bootBuiltins "list"=some (.type "list"):=by decide +kernel
theorem zfs:bootBuiltins "tuple"=some (.type "tuple"):=by decide +kernel
theorem zkI:bootBuiltins "dict"=some (.type "dict"):=by decide +kernel
noncomputable def cellZ (ns:List Int)(k:Nat):Int:=match ns[k]? with|some v=>v % 10 ^ 64|none=>0
end L2
end
section
namespace R
noncomputable abbrev K3:=Int × List Int × Int
end R
end
section
set_option maxHeartbeats 4000000
namespace R
open PySem PySem.Spec PyProof.Rows L2
section
variable {prog:Program} {w:World} {A:Around} {E:Value->Shared->Prop} {s:Shared}
noncomputable def IsTri (prog:Program)(w:World)(h:Heap)(k:K3)(a:Addr):Prop:=∃o t u b n,h.get? a=some o/\o.cls=.type "tuple"/\o.data=.seq #[.int k.1 t,.ref b,.int k.2.2 u] n/\IsTupleKey (zaq prog w) h (k.2.1.map Sum.inl) b
theorem zgX {x y:List Int}(h:(x.map Sum.inl:List Key)=y.map Sum.inl):x=y:=(List.map_inj_right (fun a b e=>Sum.inl.inj e)).mp h
theorem IsTri.typeIs {k:K3}{a:Addr}(x:IsTri prog w s.heap k a):s.TypeIs (.ref a) "tuple":=let ⟨o,_,_,_,_,ho,hc,_⟩:=x;⟨o,ho,hc⟩
theorem IsTri.inj {h:Heap}{a:Addr}{x y:K3}(hx:IsTri prog w h x a)(hy:IsTri prog w h y a):x=y:=by
 obtain⟨o,t,u,b,n,ho,_,hd,hi⟩:=hx
 obtain⟨o',t',u',b',n',ho',_,hd',hi'⟩:=hy
 obtain rfl:o=o':=Option.some.inj (ho.symm.trans ho')
 rw[hd] at hd'
 injection hd' with h1 _
 have h1:=congrArg Array.toList h1
 simp only[List.cons.injEq,Value.int.injEq,Value.ref.injEq,and_true] at h1
 obtain⟨⟨e1,_⟩,rfl,e3,_⟩:=h1
 have e2:=zgX (hi.inj hi')
 obtain⟨x1,x2,x3⟩:=x
 obtain⟨y1,y2,y3⟩:=y
 simp_all
theorem IsTri.keeps {h h':Heap}{k:K3}{a d:Addr}{o:Obj}{es ep}(x:IsTri prog w h k a)(ho:h.get? d=some o)(hd:o.data=.dict es ep)(hs:Heap.SameBut d h h'):IsTri prog w h' k a:=by
 obtain⟨o',t,u,b,n,ho',hc,hd',hi⟩:=x
 have hne:a≠d:=by
  rintro rfl
  obtain rfl:o'=o:=Option.some.inj (ho'.symm.trans ho)
  rw[hd] at hd';exact nomatch hd'
 exact⟨o',t,u,b,n,(hs.2 a hne).trans ho',hc,hd',hi.keeps ho hd hs⟩
noncomputable def zci (prog:Program)(w:World)(k:K3):Int:=reduceHash (Builtin.Tuple.tupleHashOf [hashInt k.1,tupleKeyHash (zaq prog w) (k.2.1.map Sum.inl),hashInt k.2.2])
theorem zb9 {k:K3}{a:Addr}{Q:Int->Shared->Prop}(hu:A.units+4<cLine)(hk:IsTri prog w s.heap k a)(h:Q (zci prog w k) {s with toks:=s.toks+(k.2.1.length+4)}) :
  wpAny (model prog w) A (pyHash (.ref a)) Q E s:=by
 have hT:=hk.typeIs
 obtain⟨o,t,u,b,n,ho,_,hd,hi⟩:=hk
 unfold pyHash
 first|unfold pyHashByItsType|skip
 first|refine wpAny_bind (wpAny_cRoomFor_or (.inr (by omega)) ?_)|skip
 refine wpAny_bind (wpAny_specialOf hT F.slot_tuple_hash.lookup ?_)
 show wpAny _ _ (if (some (Value.builtin "tuple.__hash__") == some Value.none)=true then _ else _) Q E s
 rw[if_neg (by rw[beq_builtin_none];exact Bool.false_ne_true)]
 refine wpAny_bind (wpAny_specialOf hT F.slot_tuple_hash.lookup ?_)
 show wpAny _ _ (callSpecialIfBoundUnlessNone? (.ref a) "__hash__" _ >>= _) Q E s
 refine wpAny_bind (wpAny_callSpecialIfBoundUnlessNone?_slot hT F.slot_tuple_hash (wpAny_call_entry F.slot_tuple_hash hT F.entry_tuple_hash ?_ (F.args_tuple_hash_1 _)))
 show wpAny _ _ (Builtin.Tuple.tupleItemsOf (.ref a) >>= _) _ _ s
 refine wpAny_bind (wpAny_tupleItemsOf ho hd ?_)
 refine wpAny_bind ?_
 rw[<-Array.forIn_toList]
 refine wpAny_forIn_list _
  (fun rest (g:Array Int) s'=>(rest=[.int k.1 t,.ref b,.int k.2.2 u]/\g.toList=[]/\s'=s)\/(rest=[.ref b,.int k.2.2 u]/\g.toList=[hashInt k.1]/\s'={s with toks:=s.toks+1})
   \/(rest=[.int k.2.2 u]/\g.toList=[hashInt k.1,tupleKeyHash (zaq prog w) (k.2.1.map Sum.inl)]/\s'={s with toks:=s.toks+(k.2.1.length+2)})
   \/(rest=[]/\g.toList=[hashInt k.1,tupleKeyHash (zaq prog w) (k.2.1.map Sum.inl),hashInt k.2.2]/\s'={s with toks:=s.toks+(k.2.1.length+3)}))
  _ ?_ ?_ _ _ (.inl ⟨rfl,rfl,rfl⟩)
 · rintro x rest g s' (⟨e,hg,rfl⟩|⟨e,hg,rfl⟩|⟨e,hg,rfl⟩|⟨e,hg,rfl⟩)
   · cases e
     refine wpAny_bind (wpAny_pyHash_int ?_)
     exact wpAny_pure (.inr (.inl ⟨rfl,by simp[hg],rfl⟩))
   · cases e
     refine wpAny_bind (wpAny_pyHash_tuple (knd:=zaq prog w) (ks:=k.2.1.map Sum.inl) ?_ hi ?_)
     · show A.units+1<cLine;omega
     · exact wpAny_pure (.inr (.inr (.inl ⟨rfl,by simp[hg],by simp only[List.length_map];congr 1;omega⟩)))
   · cases e
     refine wpAny_bind (wpAny_pyHash_int ?_)
     exact wpAny_pure (.inr (.inr (.inr ⟨rfl,by simp[hg],by simp[Nat.add_assoc]⟩)))
   · cases e
 · rintro g s' (⟨e,hg,rfl⟩|⟨e,hg,rfl⟩|⟨e,hg,rfl⟩|⟨e,hg,rfl⟩)
   · cases e
   · cases e
   · cases e
   show wpAny _ _ (retInt (Builtin.Tuple.tupleHashOf g.toList)) _ _ _
   rw[hg]
   refine wpAny_ret_mkInt ?_
   show wpAny _ _ (if (decide (-(2:Int) ^ 63<=Builtin.Tuple.tupleHashOf [hashInt k.1,tupleKeyHash (zaq prog w) (k.2.1.map Sum.inl),hashInt k.2.2])&&decide (Builtin.Tuple.tupleHashOf [hashInt k.1,tupleKeyHash (zaq prog w) (k.2.1.map Sum.inl),hashInt k.2.2]<2 ^ 63))=true then _ else _) Q E _
   unfold zci reduceHash at h
   by_cases hr:(decide (-(2:Int) ^ 63<=Builtin.Tuple.tupleHashOf [hashInt k.1,tupleKeyHash (zaq prog w) (k.2.1.map Sum.inl),hashInt k.2.2])&&decide (Builtin.Tuple.tupleHashOf [hashInt k.1,tupleKeyHash (zaq prog w) (k.2.1.map Sum.inl),hashInt k.2.2]<2 ^ 63))=true
   · rw[if_pos hr]
     rw[if_pos hr] at h
     exact wpAny_pure (by simpa[Nat.add_assoc] using h)
   · rw[if_neg hr]
     rw[if_neg hr] at h
     exact wpAny_bind (wpAny_rule (wpAny_pure (by simpa[Nat.add_assoc] using h)))
theorem zel {x y:K3}{a b:Addr}{P:Fin->Shared->Prop}(hu:A.units<cLine)(hx:IsTri prog w s.heap x a)(hy:IsTri prog w s.heap y b)(h:P (.done (.ret (.bool (decide (x=y))))) s) :
  wpAny (model prog w) A (Builtin.«tuple.__eq__» ⟨[.ref a,.ref b],[]⟩) P E s:=by
 have hTb:=hy.typeIs
 obtain⟨oa,t1,u1,b1,na,hoa,_,hda,hia⟩:=hx
 obtain⟨ob,t2,u2,b2,nb,hob,_,hdb,hib⟩:=hy
 obtain⟨x1,x2,x3⟩:=x
 obtain⟨y1,y2,y3⟩:=y
 show wpAny _ _ (isInstance (.ref b) (.type "tuple") >>= _) _ _ s
 refine wpAny_bind (wpAny_isInstance hTb isSubtype_tuple_tuple ?_)
 simp only[Bool.not_true,Bool.false_eq_true,if_false]
 refine wpAny_bind (wpAny_tupleItemsOf hoa hda ?_)
 refine wpAny_bind (wpAny_tupleItemsOf hob hdb ?_)
 refine wpAny_bind ?_
 refine wpAny_forIn_list _
  (fun rest r s'=>r.1=none/\s'=s/\(rest=[(.int x1 t1,.int y1 t2),(.ref b1,.ref b2),(.int x3 u1,.int y3 u2)]\/(rest=[(.ref b1,.ref b2),(.int x3 u1,.int y3 u2)]/\x1=y1)\/(rest=[(.int x3 u1,.int y3 u2)]/\x1=y1/\x2=y2)\/(rest=[]/\x1=y1/\x2=y2/\x3=y3)))
  _ ?_ ?_ _ _ ⟨rfl,rfl,.inl rfl⟩
 · rintro⟨p,q⟩ rest r s' ⟨hr,rfl,(e|⟨e,z1⟩|⟨e,z1,z2⟩|⟨e,z1,z2,z3⟩)⟩
   · cases e
     refine wpAny_bind (wpAny_eqBool_int ?_)
     by_cases hk:x1=y1
     · rw[show (x1 == y1)=true by simp[hk]]
       simp only[Bool.not_true,Bool.false_eq_true,if_false]
       exact wpAny_pure ⟨rfl,rfl,.inr (.inl ⟨trivial,hk⟩)⟩
     · rw[show (x1 == y1)=false by simp[hk]]
       simp only[Bool.not_false,if_true]
       rw[decide_eq_false (by simp[hk])] at h
       exact wpAny_bind (wpAny_pure (wpAny_pure (wpAny_pure h)))
   · cases e
     refine wpAny_bind (wpAny_eqBool_tuple hu hia hib ?_)
     by_cases hk:x2=y2
     · rw[decide_eq_true (by rw[hk])]
       simp only[Bool.not_true,Bool.false_eq_true,if_false]
       exact wpAny_pure ⟨rfl,rfl,.inr (.inr (.inl ⟨trivial,z1,hk⟩))⟩
     · rw[decide_eq_false (fun z=>hk (zgX z))]
       simp only[Bool.not_false,if_true]
       rw[decide_eq_false (by simp[hk])] at h
       exact wpAny_bind (wpAny_pure (wpAny_pure (wpAny_pure h)))
   · cases e
     refine wpAny_bind (wpAny_eqBool_int ?_)
     by_cases hk:x3=y3
     · rw[show (x3 == y3)=true by simp[hk]]
       simp only[Bool.not_true,Bool.false_eq_true,if_false]
       exact wpAny_pure ⟨rfl,rfl,.inr (.inr (.inr ⟨trivial,z1,z2,hk⟩))⟩
     · rw[show (x3 == y3)=false by simp[hk]]
       simp only[Bool.not_false,if_true]
       rw[decide_eq_false (by simp[hk])] at h
       exact wpAny_bind (wpAny_pure (wpAny_pure (wpAny_pure h)))
   · cases e
 · rintro⟨r1,r2⟩ s' ⟨hr,rfl,(e|⟨e,z1⟩|⟨e,z1,z2⟩|⟨e,z1,z2,z3⟩)⟩
   · cases e
   · cases e
   · cases e
   simp only at hr
   subst hr
   refine wpAny_pure ?_
   rw[decide_eq_true (by rw[z1,z2,z3])] at h
   exact h
theorem zca {x y:K3}{a b:Addr}{Q:Bool->Shared->Prop}(hu:A.units+4<cLine)(hx:IsTri prog w s.heap x a)(hy:IsTri prog w s.heap y b)(h:Q (decide (x=y)) s) :
  wpAny (model prog w) A (eqBool (.ref a) (.ref b)) Q E s:=by
 unfold eqBool
 try with_reducible refine wpAny_holding ?_
 show wpAny _ _ (if (Value.ref a == Value.ref b)=true then _ else _) Q E s
 by_cases hab:(Value.ref a == Value.ref b)=true
 · rw[if_pos hab]
   have e:a=b:=by have:=eq_of_beq hab;injection this
   subst e
   obtain rfl:=hx.inj hy
   exact wpAny_bind (wpAny_rule (wpAny_pure (by simpa using h)))
 · rw[if_neg hab]
   exact wpAny_bind (wpAny_richCompare_same_room (op:=.Eq) hx.typeIs hy.typeIs F.slot_tuple_eq
    (wpAny_call_entry F.slot_tuple_eq hx.typeIs F.entry_tuple_eq (zel (by show A.units+1<cLine;omega) hx hy ⟨_,rfl,(fun e=>nomatch e),wpAny_truthy_bool h⟩) (F.args_tuple_eq_2 _ _)) (by omega))
theorem zlE {ks:List Key}{a:Addr}{Q:Bool->Shared->Prop}(hk:IsTupleKey (zaq prog w) s.heap ks a)(h:Q true s):wpAny (model prog w) A (eqIsQuiet 7 (.ref a)) Q E s:=by
 have hT:=hk.typeIs
 obtain⟨o,items,n,ho,_,hd,hi⟩:=hk
 unfold eqIsQuiet
 refine wpAny_bind (wpAny_specialOf hT F.slot_tuple_eq.lookup ?_)
 show wpAny _ _ (isInstance (.ref a) (.type "tuple") >>= _) _ _ s
 refine wpAny_bind (wpAny_isInstance hT isSubtype_tuple_tuple ?_)
 simp only[Bool.not_true,Bool.false_eq_true,if_false]
 refine wpAny_bind (wpAny_seqItems ho hd ?_)
 refine wpAny_bind ?_
 show wpAny _ _ (forIn items _ _) _ _ s
 rw[<-Array.forIn_toList]
 refine wpAny_forIn_list _ (fun rest r s'=>r.1=none/\s'=s/\∀v∈rest,carriedByValue v=true) _ ?_ ?_ _ _ ⟨rfl,rfl,hi.byValue⟩
 · rintro v rest r s' ⟨hr,rfl,hall⟩
   rw[eqIsQuiet_byValue _ (hall v List.mem_cons_self)]
   refine wpAny_bind (wpAny_pure ?_)
   simp only[Bool.not_true,Bool.false_eq_true,if_false]
   exact wpAny_pure ⟨rfl,rfl,fun u hu'=>hall u (List.mem_cons_of_mem _ hu')⟩
 · rintro⟨r1,r2⟩ s' ⟨hr,rfl,_⟩
   simp only at hr
   subst hr
   exact wpAny_pure h
theorem zbz {k:K3}{a:Addr}{Q:Bool->Shared->Prop}(hk:IsTri prog w s.heap k a)(h:Q true s):wpAny (model prog w) A (eqIsQuiet 8 (.ref a)) Q E s:=by
 have hT:=hk.typeIs
 obtain⟨o,t,u,b,n,ho,_,hd,hi⟩:=hk
 unfold eqIsQuiet
 refine wpAny_bind (wpAny_specialOf hT F.slot_tuple_eq.lookup ?_)
 show wpAny _ _ (isInstance (.ref a) (.type "tuple") >>= _) _ _ s
 refine wpAny_bind (wpAny_isInstance hT isSubtype_tuple_tuple ?_)
 simp only[Bool.not_true,Bool.false_eq_true,if_false]
 refine wpAny_bind (wpAny_seqItems ho hd ?_)
 refine wpAny_bind ?_
 show wpAny _ _ (forIn #[Value.int k.1 t,.ref b,.int k.2.2 u] _ _) _ _ s
 rw[<-Array.forIn_toList]
 refine wpAny_forIn_list _ (fun rest r s'=>r.1=none/\s'=s/\∀v∈rest,carriedByValue v=true\/v=.ref b) _ ?_ ?_ _ _ ⟨rfl,rfl,fun v hv=>by
  simp only[List.mem_cons,List.not_mem_nil,or_false] at hv
  rcases hv with rfl|rfl|rfl
  · exact .inl rfl
  · exact .inr rfl
  · exact .inl rfl⟩
 · rintro v rest r s' ⟨hr,rfl,hall⟩
   rcases hall v List.mem_cons_self with hv|rfl
   · rw[eqIsQuiet_byValue _ hv]
     refine wpAny_bind (wpAny_pure ?_)
     simp only[Bool.not_true,Bool.false_eq_true,if_false]
     exact wpAny_pure ⟨rfl,rfl,fun u hu'=>hall u (List.mem_cons_of_mem _ hu')⟩
   · refine wpAny_bind (zlE hi ?_)
     simp only[Bool.not_true,Bool.false_eq_true,if_false]
     exact wpAny_pure ⟨rfl,rfl,fun u hu'=>hall u (List.mem_cons_of_mem _ hu')⟩
 · rintro⟨r1,r2⟩ s' ⟨hr,rfl,_⟩
   simp only at hr
   subst hr
   exact wpAny_pure h
end
noncomputable def zbB (prog:Program)(w:World):HeapKind prog w K3 where
 is:=IsTri prog w
 hash:=zci prog w
 draws:=fun k=>k.2.1.length+4
 room:=fun A=>A.units+4<cLine
 inj:=fun hx hy=>hx.inj hy
 keeps:=fun x ho hd hs=>x.keeps ho hd hs
 pyHash:=fun hu hk h=>zb9 hu hk h
 eqBool:=fun hu hx hy h=>zca hu hx hy h
 quiet:=fun hk h=>zbz hk h
end R
end
section
set_option maxHeartbeats 4000000
namespace R
open PySem PySem.Spec PyProof.Rows L2
noncomputable def zim (k:K3):Int:=reduceHash (Builtin.Tuple.tupleHashOf [hashInt k.1,reduceHash (Builtin.Tuple.tupleHashOf (k.2.1.map hashInt)),hashInt k.2.2])
theorem zil {P:Program}{w:World}(k:K3):(zbB P w).hash k=zim k:=by
 show zci P w k=zim k
 unfold zci zim tupleKeyHash
 rw[List.map_map]
 rfl
noncomputable def P3 (p:K3 × Addr × V)(q:K3 × Addr × Value):Prop:=p.1=q.1/\p.2.1=q.2.1/\RelV p.2.2 q.2.2
noncomputable def ent3 (x:K3 × Addr × Value):DictEntry:=⟨zim x.1,.ref x.2.1,x.2.2⟩
theorem zhe {P:Program}{w:World}(x:K3 × Addr × Value):entryOfKey (zbB P w) x=ent3 x:=by
 unfold entryOfKey ent3
 rw[zil]
noncomputable def TriO (a:Addr)(kxs:List (K3 × Addr × V))(h:Heap):Prop:=kxs.length<=sizeLine/\(a == sysModules)=false/\∃xs,Paired P3 kxs xs/\∃o es ep,h.get? a=some o/\o.ExactDict/\o.data=.dict es ep/\es.toList=xs.map ent3/\(xs.map (·.1)).Nodup
noncomputable def Key3 (H:Hp)(k:K3)(c:Addr):Prop:=∃b,H c=some (.tup [.int k.1,.ref b,.int k.2.2])/\H b=some (.tup (k.2.1.map V.int))
noncomputable def TriK (H:Hp)(kxs:List (K3 × Addr × V)):Prop:=∀x∈kxs,Key3 H x.1 x.2.1
theorem Key3.up {H H':Hp}{k:K3}{c:Addr}(h:Key3 H k c)(ht:∀b xs,H b=some (.tup xs)->H' b=some (.tup xs)):Key3 H' k c:=let ⟨b,h1,h2⟩:=h;⟨b,ht _ _ h1,ht _ _ h2⟩
theorem TriO.stay {a:Addr}{kxs:List (K3 × Addr × V)}{h h':Heap}(x:TriO a kxs h)(k:∀o,h.get? a=some o->h'.get? a=some o):TriO a kxs h':=by
 obtain⟨z,y,xs,r,o,es,ep,e,c⟩:=x
 exact⟨z,y,xs,r,o,es,ep,k _ e,c⟩
theorem TriO.objOk {P:Program}{w:World}{H:Hp}{h:Heap}{a:Addr}{kxs:List (K3 × Addr × V)}(x:TriO a kxs h):ObjOk P w H h a (.ext (TriO a kxs)):=by
 refine⟨x,?_,fun h1 h2 p k=>p.stay k⟩
 obtain⟨_,_,_,_,o,_,_,e,_⟩:=x
 exact⟨o,e⟩
theorem zi0:∀{kxs:List (K3 × Addr × V)} {xs:List (K3 × Addr × Value)},Paired P3 kxs xs->xs.length=kxs.length
 |_,_,.nil=>rfl
 |_,_,.cons _ t=>by simp[zi0 t]
theorem zdh:∀{kxs:List (K3 × Addr × V)} {xs:List (K3 × Addr × Value)},Paired P3 kxs xs->xs.map (·.1)=kxs.map (·.1)
 |_,_,.nil=>rfl
 |_,_,.cons h t=>by rw[List.map_cons,List.map_cons,zdh t,h.1]
section
variable {P:Program} {w:World} {H:Hp} {h:Heap} {a c:Addr} {kxs:List (K3 × Addr × V)}
theorem zdr {k:K3}(ok:HOk P w H h)(e:Key3 H k c):IsTri P w h k c:=by
 obtain⟨b,e1,e2⟩:=e
 obtain⟨_,its,rv,o,ho,hc,n,hd⟩:=(show ObjOk P w H h c (.tup _) from ok c _ e1)
 cases rv with
 | @cons _ v1 _ r1 q1 rv =>
   cases rv with
   | @cons _ v2 _ r2 q2 rv =>
     cases rv with
     | @cons _ v3 _ r3 q3 rv =>
       cases rv
       obtain⟨t,rfl⟩:=q1
       cases (show v2=Value.ref b from q2)
       obtain⟨u,rfl⟩:=q3
       refine⟨o,t,u,b,n,ho,hc,hd,?_⟩
       have:=zdW (ks:=k.2.1.map Sum.inl) ok (a:=b) (by rw[List.map_map];exact e2)
       exact this
theorem zge (ok:HOk P w H h)(e:H a=some (.ext (TriO a kxs)))(tk:TriK H kxs):kxs.length<=sizeLine/\(a == sysModules)=false/\∃xs,Paired P3 kxs xs/\h.DictOfH (zbB P w) a xs:=by
 obtain⟨⟨z,y,xs,r,o,es,ep,ho,hx,hd,he,nd⟩,_,_⟩:=(show ObjOk P w H h a (.ext _) from ok a _ e)
 refine⟨z,y,xs,r,o,es,ep,ho,hx,hd,?_,?_,nd⟩
 · rw[he];exact List.map_congr_left fun x _=>(zhe x).symm
 · have all:∀{l:List (K3 × Addr × V)} {m:List (K3 × Addr × Value)},Paired P3 l m->TriK H l->∀x∈m,(zbB P w).is h x.1 x.2.1:=by
    intro l m q
    induction q with
    |nil=>intro _ x hx;exact nomatch hx
    | @cons p q ps qs hq t ih =>
      intro tk x hx
      rcases List.mem_cons.mp hx with e|hx
      · subst e
        rw[<-hq.1,<-hq.2.1]
        exact zdr ok (tk p List.mem_cons_self)
      · exact ih (fun y hy=>tk y (List.mem_cons_of_mem _ hy)) x hx
   exact all r tk
end
noncomputable def put3 (kxs:List (K3 × Addr × V))(k:K3)(c:Addr)(v:V):List (K3 × Addr × V):=if k∈kxs.map (·.1) then kxs.map (fun x=>if x.1=k then (x.1,x.2.1,v) else x) else kxs++[(k,c,v)]
theorem zbn {xs:List (K3 × Addr × Value)}{k:K3}:(atKey xs k).isSome=decide (k∈xs.map (·.1)):=by
 unfold atKey
 rw[Option.isSome_map]
 apply Bool.eq_iff_iff.mpr
 rw[List.find?_isSome,decide_eq_true_eq,List.mem_map]
 constructor
 · rintro⟨x,hx,e⟩;exact⟨x,hx,by simpa using e⟩
 · rintro⟨x,hx,e⟩;exact⟨x,hx,by simpa using e⟩
theorem zl0 {k:K3}{c:Addr}{v:V}{r:Value}(rv:RelV v r){kxs:List (K3 × Addr × V)}{xs:List (K3 × Addr × Value)}(h:Paired P3 kxs xs):Paired P3 (put3 kxs k c v) (storedH xs k c r):=by
 unfold put3 storedH
 rw[zbn,zdh h]
 by_cases hk:k∈kxs.map (·.1)
 · rw[if_pos hk,if_pos (by simpa using hk)]
   clear hk
   induction h with
   |nil=>exact .nil
   | @cons p q ps qs hq t ih =>
     rw[List.map_cons,List.map_cons]
     refine .cons ?_ ih
     unfold putAt
     by_cases e:p.1=k
     · rw[if_pos e,if_pos (by rw[<-hq.1];exact e)]
       exact⟨hq.1,hq.2.1,rv⟩
     · rw[if_neg e,if_neg (by rw[<-hq.1];exact e)]
       exact hq
 · rw[if_neg hk,if_neg (by simpa using hk)]
   clear hk
   induction h with
   |nil=>exact .cons ⟨rfl,rfl,rv⟩ .nil
   |cons hq t ih=>exact .cons hq ih
theorem zhQ (kxs:List (K3 × Addr × V))(k:K3)(c:Addr)(v:V):(put3 kxs k c v).length<=kxs.length+1:=by
 unfold put3
 split
 · rw[List.length_map];omega
 · simp
section
variable {X:Cx} {pins:List (Addr × Obj)} {σ:L2.St} {H:Hp} {s:Shared} {a c:Addr} {kxs:List (K3 × Addr × V)} {k:K3} {v:V} {r:Value} {A:Around} {E:Value->Shared->Prop}
theorem zfY {Q:Unit->Shared->Prop}(hu:A.units+5<cLine)(I:Inv X pins σ H s)(e:H a=some (.ext (TriO a kxs)))(tk:TriK H kxs)(ek:Key3 H k c)(hl:kxs.length<sizeLine)(rv:RelV v r)
  (h:∀s',Inv X pins σ (upd H a (.ext (TriO a (put3 kxs k c v)))) s'->Q () s'):wpAny (model X.prog X.w) A (setItem (.ref a) (.ref c) r) Q E s:=by
 obtain⟨z,hd,xs,rel,dd⟩:=zge I.hok e tk
 have hz:xs.length<=sizeLine:=by rw[zi0 rel];exact z
 have hl':=zhQ kxs k c v
 refine wpAny_setItem_heap (knd:=zbB X.prog X.w) (hsz:=hz) (show A.units+1+4<cLine by omega) (zdr I.hok ek) dd fun h' dd' hs=>h _ ?_
 obtain⟨q,es,ep,hq,h2,h3,h4,_,h5⟩:=dd'
 refine zeF I (by rw[e];exact True.intro) hs ⟨q,hq⟩ (TriO.objOk ⟨by omega,hd,_,zl0 rv rel,q,es,ep,hq,h2,h3,?_,h5⟩)
 rw[h4];exact List.map_congr_left fun x _=>zhe x
theorem zn1 {Q:Value->Shared->Prop}(hu:A.units+5<cLine)(I:Inv X pins σ H s)(e:H a=some (.ext (TriO a kxs)))(tk:TriK H kxs)(ek:Key3 H k c)(h:∀s',Inv X pins σ H s'->Q (.bool (decide (k∈kxs.map (·.1)))) s') :
  wpAny (model X.prog X.w) A (compareOp .In (.ref c) (.ref a)) Q E s:=by
 obtain⟨z,hd,xs,rel,dd⟩:=zge I.hok e tk
 refine wpAny_in_heap (knd:=zbB X.prog X.w) (show A.units+1+4<cLine by omega) (zdr I.hok ek) hd dd ?_
 rw[zbn,zdh rel]
 exact h _ (I.kept fun b o e=>e)
theorem ziy {Q:Value->Shared->Prop}(hu:A.units+5<cLine)(I:Inv X pins σ H s)(e:H a=some (.ext (TriO a kxs)))(tk:TriK H kxs)(ek:Key3 H k c)(h:∀s',Inv X pins σ H s'->Q (.bool (!decide (k∈kxs.map (·.1)))) s') :
  wpAny (model X.prog X.w) A (compareOp .NotIn (.ref c) (.ref a)) Q E s:=by
 obtain⟨z,hd,xs,rel,dd⟩:=zge I.hok e tk
 refine wpAny_notIn_heap (knd:=zbB X.prog X.w) (show A.units+1+4<cLine by omega) (zdr I.hok ek) hd dd ?_
 rw[zbn,zdh rel]
 exact h _ (I.kept fun b o e=>e)
end
end R
end
section
namespace R
noncomputable def zno (a b:Int × Int):Bool:=decide (b.2<a.2\/(a.2=b.2/\a.1<=b.1))
noncomputable def zk4 (rows:List (Int × Int)):List (Int × Int):=rows.mergeSort zno
noncomputable def bump:List (Int × Int)->Int->List (Int × Int)
 | [],w=>[(w,1)]
 |(k,c)::r,w=>if k=w then (k,c+1)::r else (k,c)::bump r w
noncomputable def zcY (kvs:List (Int × Int))(ws:List (Option Int)):List (Int × Int):=ws.foldl (fun a w=>match w with|some x=>bump a x|none=>a) kvs
end R
end
section
namespace R
open PySem (Str PyData Operator CmpOp)
inductive D where
 |non|bl (b:Bool)|int (i:Int)|str (x:Str)|tup (ds:List D)|ref (l:Nat)
 |fix (ds:List D)
 |clo (kvs:List (K3 × Option Int))
inductive MO where
 |lst (ds:List D)|dic (kvs:List (Int × D))|ins (c:Nat) (fs:List (Str × D))
 |dtp (kvs:List (List Int × D))
 |d3 (kvs:List (K3 × D))
 |exc (c:Nat) (fs:List (Str × D))
structure St where
 frz:List MO
 new:List MO
 lk:List Nat
inductive Out (α:Type) where
 |ok (a:α) (S:St)
 |err (d:D) (S:St)
 |bad
noncomputable def Out.bind {α β:Type}(o:Out α)(f:α->St->Out β):Out β:=match o with
 |.ok a S=>f a S
 |.err d S=>.err d S
 |.bad=>.bad
noncomputable def Out.ne {α:Type}:Out α->Out α
 |.ok a S=>.ok a S
 |_=>.bad
noncomputable def lift {α:Type}(S:St):Option α->Out α
 |some a=>.ok a S
 |none=>.bad
namespace St
noncomputable def get (S:St)(l:Nat):Option MO:=if l<S.frz.length then S.frz[l]? else S.new[l - S.frz.length]?
noncomputable def len (S:St):Nat:=S.frz.length+S.new.length
noncomputable def push (S:St)(o:MO):St:={S with new:=S.new++[o]}
noncomputable def put (S:St)(l:Nat)(o:MO):Option St:=if l<S.frz.length then none else if S.lk.contains l then none else some {S with new:=S.new.set (l - S.frz.length) o}
noncomputable def enter (S:St):St:=⟨S.frz++S.new,[],[]⟩
end St
noncomputable def lay (S:St)(ds:List D):Out D:=if ds.length<=16777216 then .ok (.ref S.len) (S.push (.lst ds)) else .bad
noncomputable def wr (S:St)(l:Nat)(ds:List D)(d:D):Out D:=if ds.length<=16777216 then (match S.put l (.lst ds) with|some S'=>.ok d S'|none=>.bad) else .bad
noncomputable def pd (S:St):Nat->D->Option PyData
 |_,.non=>some .none
 |_,.bl b=>some (.bool b)
 |_,.int i=>some (.int i)
 |_,.str x=>if PySem.PyData.strOk x then some (.str x) else none
 |n+1,.tup ds=>(ds.mapM (pd S n)).map PyData.tuple
 | n + 1, .ref l => match S.get l with
   |some (.lst ds)=>(ds.mapM (pd S n)).map PyData.list
   |_=>none
 |_,.fix _=>none
 |_,.clo _=>none
 |0,_=>none
mutual
noncomputable def flat (n:Nat):D->Bool
 |.tup ds=>flats n ds
 |.ref l=>decide (l<n)
 |.fix ds=>flats n ds
 |_=>true
noncomputable def flats (n:Nat):List D->Bool
 | []=>true
 |d::ds=>flat n d&&flats n ds
end
noncomputable def zbH (S:St):D->Option (List D)
 |.tup ds=>some ds
 |.fix ds=>some ds
 | .ref l => match S.get l with
   |some (.lst ds)=>some ds
   |_=>none
 |_=>none
noncomputable def lkOf (S:St):D->List Nat
 |.ref l=>[l]
 |_=>[]
noncomputable def tru (S:St):D->Option Bool
 |.non=>some false
 |.bl b=>some b
 |.int i=>some (i != 0)
 |.tup ds=>some (!ds.isEmpty)
 | .ref l => match S.get l with
   |some (.lst ds)=>some (!ds.isEmpty)
   |_=>none
 |_=>none
noncomputable def tyOf (S:St):D->Option String
 |.non=>some "NoneType"
 |.bl _=>some "bool"
 |.int _=>some "int"
 |.str _=>some "str"
 |.tup _=>some "tuple"
 | .ref l => match S.get l with
   |some (.lst _)=>some "list"
   |some (.dic _)=>some "dict"
   |some (.dtp _)=>some "dict"
   |_=>none
 |.fix _=>none
 |.clo _=>none
noncomputable def ixN (n:Nat)(i:Int):Option Nat:=if 0<=i then (if i<n then some i.toNat else none) else if -(n:Int)<=i then some (i+n).toNat else none
noncomputable def atI {α:Type}(xs:List α)(i:Int):Option α:=(ixN xs.length i).bind fun j=>xs[j]?
noncomputable def sIx (n d:Nat):Option Int->Nat
 |none=>d
 |some i=>if i<0 then (i+n).toNat else min i.toNat n
noncomputable def cut {α:Type}(xs:List α)(lo hi:Option Int):List α:=(xs.drop (sIx xs.length 0 lo)).take (sIx xs.length xs.length hi - sIx xs.length 0 lo)
noncomputable def zcd:D->Option Int
 |.int i=>some i
 |_=>none
noncomputable def zbg (m:Bool)(d:D):Option (Option Int):=if m then (match d with|.int i=>some (some i)|_=>none) else some none
noncomputable def zj9 (i j:Int):Bool:=decide (-(2 ^ 64)<i/\i<2 ^ 64) || decide (-(2 ^ 64)<j/\j<2 ^ 64)
noncomputable def binI (S:St)(op:Operator)(i j:Int):Out D:=match op with
 |.Add=>.ok (.int (i+j)) S
 |.Sub=>.ok (.int (i - j)) S
 |.Mult=>if zj9 i j then .ok (.int (i * j)) S else .bad
 |.FloorDiv=>if 0<j/\j<1073741824 then .ok (.int (i / j)) S else .bad
 |.Mod=>if 0<j then .ok (.int (i % j)) S else .bad
 |.Pow=>if 0<=j/\j<=1000000/\-18446744073709551616<i/\i<18446744073709551616 then .ok (.int (i ^ j.toNat)) S else .bad
 |_=>.bad
noncomputable def binD (S:St)(op:Operator)(x y:D):Out D:=match x,y with
 |.int i,.int j=>binI S op i j
 |.tup xs,.tup ys=>(match op with|.Add=>if xs.length+ys.length<=16777216 then .ok (.tup (xs++ys)) S else .bad|_=>.bad)
 |.ref a,.ref b=>(match op,S.get a,S.get b with|.Add,some (.lst xs),some (.lst ys)=>lay S (xs++ys)|_,_,_=>.bad)
 |_,_=>.bad
noncomputable def eqD (S:St)(x y:D):Option Bool:=(pd S 60 x).bind fun a=>(pd S 60 y).map fun b=>PyData.eqv a b
noncomputable def inD (S:St)(x:D)(ys:List D):Option Bool:=(ys.mapM fun z=>eqD S z x).map fun bs=>bs.any id
noncomputable def lexLt:List Int->List Int->Bool
 | [],[]=>false
 | [],_::_=>true
 |_::_,[]=>false
 |a::as,b::bs=>if a=b then lexLt as bs else decide (a<b)
noncomputable def zby (ds:List D):Option (List Int):=ds.mapM zcd
noncomputable def cmpI (op:CmpOp)(i j:Int):Option Bool:=match op with
 |.Eq=>some (decide (i=j))
 |.NotEq=>some (!decide (i=j))
 |.Lt=>some (decide (i<j))
 |.LtE=>some (decide (i<=j))
 |.Gt=>some (decide (j<i))
 |.GtE=>some (decide (j<=i))
 |_=>none
noncomputable def zkh:D->Bool|.non=>true|_=>false
noncomputable def zcO:D->Option (Option Int)
 |.non=>some none
 |.int i=>some (some i)
 |_=>none
noncomputable def dKvs (S:St):D->Option (List (List Int × D))
 |.ref l=>(match S.get l with|some (.dtp kvs)=>some kvs|_=>none)
 |_=>none
noncomputable def zb3 (kvs:List (List Int × D)):Option (List (List Int × Option Int)):=kvs.mapM fun kv=>(zcO kv.2).map fun w=>(kv.1,w)
noncomputable def eqK (a b:List (List Int × D)):Option Bool:=(zb3 a).bind fun x=>(zb3 b).bind fun y=>if x=y then some true else none
noncomputable def zd5 (S:St)(x y:D):Option Bool:=match dKvs S x,dKvs S y with
 |some a,some b=>eqK a b
 |_,_=>eqD S x y
noncomputable def zdq:D->Option (List Int)
 |.tup ds=>zby ds
 |_=>none
noncomputable def key3:D->Option K3
 |.tup [.int a,.tup ds,.int b]=>(zby ds).map fun p=>(a,p,b)
 |_=>none
noncomputable def d3K (S:St):D->Option (List (K3 × D))
 |.ref l=>(match S.get l with|some (.d3 kvs)=>some kvs|_=>none)
 |_=>none
noncomputable def zgs (kvs:List (K3 × D))(k:K3)(v:D):List (K3 × D):=if k∈kvs.map (·.1) then kvs.map (fun x=>if x.1=k then (x.1,v) else x) else kvs++[(k,v)]
noncomputable def valP (kvs:List (List Int × D))(k:List Int):Option D:=(kvs.find? fun kv=>decide (kv.1=k)).map (·.2)
noncomputable def zeB (S:St)(x y:D):Option Bool:=match dKvs S y with
 |some kvs=>(zdq x).map fun k=>(valP kvs k).isSome
 | none => (match d3K S y with
   |some kvs=>(key3 x).map fun k=>decide (k∈kvs.map (·.1))
   |none=>(zbH S y).bind fun ys=>inD S x ys)
noncomputable def cmpO (S:St)(op:CmpOp)(x y:D):Option Bool:=match op with
 |.Eq=>zd5 S x y
 |.NotEq=>(zd5 S x y).map (!·)
 |.Is=>(match y with|.non=>some (zkh x)|.bl b=>(match x with|.bl a=>some (a == b)|_=>none)|_=>none)
 |.IsNot=>(match y with|.non=>some (!zkh x)|_=>none)
 |.In=>zeB S x y
 |.NotIn=>(zeB S x y).map (!·)
 |.Lt=>(match x,y with|.tup xs,.tup ys=>(zby xs).bind fun a=>(zby ys).map fun b=>lexLt a b|_,_=>none)
 |_=>none
noncomputable def cmpD (S:St)(op:CmpOp)(x y:D):Option Bool:=match x,y with
 |.int i,.int j=>cmpI op i j
 |_,_=>cmpO S op x y
inductive Bi where
 |len|abs|max2|min2|isin (t:String)
noncomputable def zbA (ds:List D):Option (List (Option Int)):=ds.mapM zcO
inductive Mt where
 |append|popAt|count
noncomputable def bi (S:St):Bi->List D->Out D
 | .len, [x] => (match x with
   |.tup ds=>.ok (.int ds.length) S
   |.fix ds=>.ok (.int ds.length) S
   |.ref l=>(match S.get l with|some (.lst ds)=>.ok (.int ds.length) S|some (.dic kvs)=>.ok (.int kvs.length) S|some (.dtp kvs)=>.ok (.int kvs.length) S|_=>.bad)
   |_=>.bad)
 |.abs,[.int i]=>.ok (.int (if i<0 then -i else i)) S
 |.max2,[.int i,.int j]=>.ok (.int (if j > i then j else i)) S
 |.min2,[.int i,.int j]=>.ok (.int (if j<i then j else i)) S
 |.isin t,[x]=>(match tyOf S x with|some a=>.ok (.bl (a == t || (a == "bool"&&t == "int"))) S|none=>.bad)
 |_,_=>.bad
noncomputable def isL (S:St):D->Bool
 |.ref l=>(match S.get l with|some (.lst _)=>true|_=>false)
 |_=>false
noncomputable def mt (S:St):Mt->D->List D->Out D
 |.append,.ref l,[y]=>(match S.get l with|some (.lst ds)=>wr S l (ds++[y]) .non|_=>.bad)
 | .popAt, .ref l, [.int i] => (match S.get l with
   |some (.lst ds)=>if 0<=i then (match ds[i.toNat]? with|some y=>wr S l (ds.eraseIdx i.toNat) y|none=>.bad) else .bad
   |_=>.bad)
 | .count, .ref l, [.int i] => (match S.get l with
   |some (.lst ds)=>(match zbA ds with|some os=>.ok (.int (os.count (some i):Nat)) S|none=>.bad)
   |_=>.bad)
 |_,_,_=>.bad
noncomputable def zcM (S:St)(x y z:D):Out D:=match x,y with
 | .ref l, .int i => (match S.get l with
   |some (.lst ds)=>if 0<=i/\i<=ds.length then wr S l (ds.take i.toNat++z::ds.drop i.toNat) .non else .bad
   |_=>.bad)
 |_,_=>.bad
noncomputable def putP:List (List Int × D)->List Int->D->List (List Int × D)
 | [],k,v=>[(k,v)]
 |(j,d)::r,k,v=>if j=k then (j,v)::r else (j,d)::putP r k v
noncomputable def putI:List (Int × D)->Int->D->List (Int × D)
 | [],k,v=>[(k,v)]
 |(j,d)::r,k,v=>if j=k then (j,v)::r else (j,d)::putI r k v
noncomputable def dPut (S:St)(x y v:D):Option St:=match x with
 | .ref l => (match S.get l with
   |some (.dtp kvs)=>(zdq y).bind fun k=>if kvs.length<16777216 then S.put l (.dtp (putP kvs k v)) else none
   |some (.dic kvs)=>(zcd y).bind fun k=>if kvs.length<16777216 then S.put l (.dic (putI kvs k v)) else none
   |some (.d3 kvs)=>(key3 y).bind fun k=>if kvs.length<16777216 then S.put l (.d3 (zgs kvs k v)) else none
   |some (.lst ds)=>(zcd y).bind fun i=>(ixN ds.length i).bind fun j=>S.put l (.lst (ds.set j v))
   |_=>none)
 |_=>none
noncomputable def putW (kvs:List (K3 × Option Int))(k:K3)(o:Option Int):List (K3 × Option Int):=if k∈kvs.map (·.1) then kvs.map (fun x=>if x.1=k then (x.1,o) else x) else kvs++[(k,o)]
noncomputable def lie4:D->Option (K3 × Option Int)
 |.tup [.int a,.tup ds,.int b,w]=>(zby ds).bind fun p=>(zcO w).map fun o=>((a,p,b),o)
 |_=>none
noncomputable def ze1 (kvs:List (K3 × Option Int)):List (K3 × Option Int)->List (K3 × Option Int)
 | []=>kvs
 |l::ls=>ze1 (putW kvs l.1 l.2) ls
noncomputable def zbP (S:St):D->Option (Nat × List (Str × D))
 |.ref l=>(match S.get l with|some (.exc c fs)=>some (c,fs)|_=>none)
 |_=>none
mutual
inductive CE where
 |loc (i:Nat)|con (d:D)
 |tst (a:CE)
 |bin (op:Operator) (a b:CE)|neg (a:CE)|nt (a:CE)
 |cmp (op:CmpOp) (a b:CE)|cmp2 (op op':CmpOp) (a b c:CE)
 |and (a b:CE)|or (a b:CE)|ite (c a b:CE)
 |tup (es:CEs)|lst (es:CEs)
 |ix (a b:CE)
 |mkX (c:Nat) (x f:Str) (a:CE)|fldX (a:CE) (f:Str)|iscX (cs:List Nat) (x:Str) (a:CE)
 |sl (a:CE) (ml mh:Bool) (lo hi:CE)|rep (a b:CE)|insL (o a b:CE)
 |call (f j:Nat) (es:CEs)|bi (b:Bi) (es:CEs)|mt (m:Mt) (o:CE) (es:CEs)
 |mkL (l:CL)|mkT (l:CL)|all (l:CL)
inductive CEs where
 |nil|cons (e:CE) (r:CEs)
inductive CL where
 |val (e:CE)|rng1 (a:CE)|enum (a:CE)
 |comp (nt:Nat) (js:List Nat) (g:List Nat) (it:CL) (c:CE) (e:CE)
end
inductive TrB where
 |run (f:Nat) (es:CEs)|asg (i f:Nat) (es:CEs)|ite (c:CE) (a b:TrB)
inductive CS where
 |nil|stop|asg (i:Nat) (e:CE) (r:CS)|asgT (g:List Nat) (e:CE) (r:CS)|setIx (a b e:CE) (r:CS)
 |ifS (c:CE) (t u:CS) (r:CS)|forS (g:List Nat) (l:CL) (b:CS) (r:CS)|ret (e:CE) (r:CS)|expr (e:CE) (r:CS)
 |rais (c:Nat) (x f:Str) (a:CE)|tryS (b:TrB) (x:Str) (ie ix:Nat) (r:CS)
noncomputable abbrev Ev:=List (Option D)
noncomputable def zc3:List Nat->List D->Ev->Ev
 |i::is,d::ds,δ=>zc3 is ds (δ.set i (some d))
 |_,_,δ=>δ
noncomputable def asgG (g:List Nat)(x:D)(δ:Ev):Option Ev:=match g with
 | [i]=>some (δ.set i (some x))
 |is=>(match x with|.tup ds=>if ds.length=is.length then some (zc3 is ds δ) else none|_=>none)
noncomputable def zcr (x y:D):D:=.tup [x,y]
noncomputable def zcB (S:St):D->Option (List D × List Nat)
 |.ref l=>(match S.get l with|some (.lst xs)=>some (xs.mapIdx fun i d=>zcr (.int i) d,[l])|_=>none)
 |.tup xs=>some (xs.mapIdx fun i d=>zcr (.int i) d,[])
 |_=>none
noncomputable abbrev CF:=Nat->List D->St->Out D
noncomputable def zaU (S:St)(d:D)(T:St):Out D:=
 if flat S.len d then .ok d S else
 let keep:Out D:=.ok d ⟨S.frz,S.new++T.new,S.lk⟩
 match d with
  | .ref l => (match T.get l with
    |some (.lst ds)=>if flats S.len ds then .ok (.ref S.len) (S.push (.lst ds)) else keep
    |some (.dic kvs)=>if flats S.len (kvs.map (·.2)) then .ok (.ref S.len) (S.push (.dic kvs)) else keep
    |some (.dtp kvs)=>if flats S.len (kvs.map (·.2)) then .ok (.ref S.len) (S.push (.dtp kvs)) else keep
    |_=>keep)
  |_=>keep
noncomputable def zgJ (S:St)(d:D)(T:St):Out (List D):=match d with
 |.ref l=>if l<S.len then .bad else (match T.get l with|some (.lst ds)=>if flats S.len ds then .ok ds S else .bad|_=>.bad)
 |_=>.bad
@[irreducible] noncomputable def app (cf:CF)(f:Nat)(ds:List D)(S:St):Out D:=(cf f ds S.enter).bind fun d T=>zaU S d T
@[irreducible] noncomputable def appL (cf:CF)(f:Nat)(ds:List D)(S:St):Out (List D):=(cf f ds S.enter).bind fun d T=>zgJ S d T
@[irreducible] noncomputable def appW (cf:CF)(f:Nat)(ds:List D)(S:St):Out D:=cf f ds S
noncomputable def csl (nt:Nat)(js:List Nat)(δ:Ev):Ev:=List.replicate nt none++js.map fun j=>(δ[j]?).join
noncomputable def zaX (g:List Nat)(c:Ev->St->Out Bool)(e:Ev->St->Out D):List D->Ev->St->Out (List D)
 | [],_,S=>.ok [] S
 | x :: xs, δ, S => match asgG g x δ with
   |none=>.bad
   |some δ'=>(c δ' S).bind fun b S1=>if b then (e δ' S1).bind fun d S2=>(zaX g c e xs δ' S2).bind fun ds S3=>.ok (d::ds) S3 else zaX g c e xs δ' S1
noncomputable def zaZ {α:Type}(ls:List Nat)(S:St)(f:St->Out α):Out α:=
 (f {S with lk:=ls++S.lk}).bind fun a S'=>.ok a {S' with lk:=S.lk}
noncomputable def zcF:D->Option Bool
 |.bl b=>some b
 |_=>none
noncomputable def allD (ds:List D):Option Bool:=(ds.mapM zcF).map fun bs=>bs.all id
section
variable (cf:CF)
mutual
noncomputable def evE:CE->Ev->St->Out D
 |.loc i,δ,S=>lift S (δ[i]?).join
 |.con d,_,S=>.ok d S
 |.tst _,_,_=>.bad
 |.bin op a b,δ,S=>(evE a δ S).bind fun x S1=>(evE b δ S1).bind fun y S2=>binD S2 op x y
 |.neg a,δ,S=>(evE a δ S).bind fun x S1=>match x with|.int i=>.ok (.int (-i)) S1|_=>.bad
 |.nt a,δ,S=>(evE a δ S).bind fun x S1=>match x with|.bl b=>.ok (.bl (!b)) S1|_=>.bad
 |.cmp op a b,δ,S=>(evE a δ S).bind fun x S1=>(evE b δ S1).bind fun y S2=>(lift S2 (cmpD S2 op x y)).bind fun k S3=>.ok (.bl k) S3
 |.cmp2 op op' a b c,δ,S=>(evE a δ S).bind fun x S1=>(evE b δ S1).bind fun y S2=>(lift S2 (cmpD S2 op x y)).bind fun k S3=>
  if k then (evE c δ S3).bind fun z S4=>(lift S4 (cmpD S4 op' y z)).bind fun k' S5=>.ok (.bl k') S5 else .ok (.bl false) S3
 |.and a b,δ,S=>(evE a δ S).bind fun x S1=>match x with|.bl k=>if k then evE b δ S1 else .ok (.bl false) S1|_=>.bad
 |.or a b,δ,S=>(evE a δ S).bind fun x S1=>match x with|.bl k=>if k then .ok (.bl true) S1 else evE b δ S1|_=>.bad
 |.ite c a b,δ,S=>(evT c δ S).bind fun k S1=>if k then evE a δ S1 else evE b δ S1
 |.tup es,δ,S=>(evEs es δ S).bind fun ds S1=>if ds.length<=16777216 then .ok (.tup ds) S1 else .bad
 |.lst es,δ,S=>(evEs es δ S).bind fun ds S1=>lay S1 ds
 |.mkX c _ f a,δ,S=>(evE a δ S).bind fun d S1=>.ok (.ref S1.len) (S1.push (.exc c [(f,d)]))
 |.fldX a f,δ,S=>(evE a δ S).bind fun x S1=>lift S1 ((zbP S1 x).bind fun p=>p.2.lookup f)
 |.iscX cs _ a,δ,S=>(evE a δ S).bind fun x S1=>(lift S1 (zbP S1 x)).bind fun p S1=>.ok (.bl (cs.contains p.1)) S1
 |.ix a b,δ,S=>(evE a δ S).bind fun x S1=>(evE b δ S1).bind fun y S2=>match zbH S2 x,y with|some ds,.int i=>lift S2 (atI ds i)|_,_=>.bad
 |.rep a b,δ,S=>(evE a δ S).bind fun x S1=>(evE b δ S1).bind fun y S2=>match x,y with
  |.ref p,.int k=>if -(2 ^ 63)<=k/\k<2 ^ 63 then (match S2.get p with|some (.lst ds)=>lay S2 (List.replicate k.toNat ds).flatten|_=>.bad) else .bad
  |_,_=>.bad
 |.insL o a b,δ,S=>(evE o δ S).bind fun x S1=>if isL S1 x then (evE a δ S1).bind fun y S2=>(evE b δ S2).bind fun z S3=>zcM S3 x y z else .bad
 |.sl a ml mh lo hi,δ,S=>(evE a δ S).bind fun x S1=>(evE lo δ S1).bind fun y S2=>(evE hi δ S2).bind fun z S3=>match zbg ml y,zbg mh z with
  | some l, some h => (match x with
    |.tup ds=>.ok (.tup (cut ds l h)) S3
    |.fix ds=>lay S3 (cut ds l h)
    |.ref p=>(match S3.get p with|some (.lst ds)=>lay S3 (cut ds l h)|_=>.bad)
    |_=>.bad)
  |_,_=>.bad
 |.call f j es,δ,S=>(evEs es δ S).bind fun ds S1=>app cf f (ds++List.replicate j .non) S1
 |.bi b es,δ,S=>(evEs es δ S).bind fun ds S1=>R.bi S1 b ds
 |.mt m o es,δ,S=>(evE o δ S).bind fun x S1=>if isL S1 x then (evEs es δ S1).bind fun ds S2=>R.mt S2 m x ds else .bad
 |.mkL l,δ,S=>(evL l δ S).bind fun r S1=>lay S1 r.1
 |.mkT l,δ,S=>(evL l δ S).bind fun r S1=>if r.1.length<=16777216 then .ok (.tup r.1) S1 else .bad
 |.all l,δ,S=>(evL l δ S).bind fun r S1=>(lift S1 (allD r.1)).bind fun b S2=>.ok (.bl b) S2
noncomputable def evEs:CEs->Ev->St->Out (List D)
 |.nil,_,S=>.ok [] S
 |.cons e r,δ,S=>(evE e δ S).bind fun d S1=>(evEs r δ S1).bind fun ds S2=>.ok (d::ds) S2
noncomputable def evT:CE->Ev->St->Out Bool
 |.cmp op a b,δ,S=>(evE a δ S).bind fun x S1=>(evE b δ S1).bind fun y S2=>lift S2 (cmpD S2 op x y)
 |.cmp2 op op' a b c,δ,S=>(evE a δ S).bind fun x S1=>(evE b δ S1).bind fun y S2=>(lift S2 (cmpD S2 op x y)).bind fun k S3=>
  if k then (evE c δ S3).bind fun z S4=>lift S4 (cmpD S4 op' y z) else .ok false S3
 |.nt a,δ,S=>(evT a δ S).bind fun k S1=>.ok (!k) S1
 |.and a b,δ,S=>(evT a δ S).bind fun k S1=>if k then evT b δ S1 else .ok false S1
 |.or a b,δ,S=>(evT a δ S).bind fun k S1=>if k then .ok true S1 else evT b δ S1
 |.tst e,δ,S=>(evE e δ S).bind fun x S1=>lift S1 (tru S1 x)
 |_,_,_=>.bad
noncomputable def evL:CL->Ev->St->Out (List D × List Nat)
 |.val e,δ,S=>(evE e δ S).bind fun x S1=>(lift S1 (zbH S1 x)).bind fun ds S2=>.ok (ds,lkOf S2 x) S2
 |.rng1 a,δ,S=>(evE a δ S).bind fun x S1=>match x with|.int j=>if -(2 ^ 62)<=j/\j<2 ^ 62 then .ok ((List.range j.toNat).map fun (k:Nat)=>.int k,[]) S1 else .bad|_=>.bad
 |.enum a,δ,S=>(evE a δ S).bind fun x S1=>lift S1 (zcB S1 x)
 |.comp n js g it c e,δ,S=>(evL it δ S).bind fun r S1=>(zaZ r.2 S1 fun S2=>zaX g (evT c) (evE e) r.1 (csl n js δ) S2).bind fun ds S3=>if ds.length<=16777216 then .ok (ds,[]) S3 else .bad
end
inductive Fl where
 |nx (δ:Ev)|rt (d:D)|ex (d:D)
noncomputable def zaW (g:List Nat)(b:Ev->St->Out Fl):List D->Ev->St->Out Fl
 | [],δ,S=>.ok (.nx δ) S
 | x :: xs, δ, S => match asgG g x δ with
   |none=>.bad
   | some δ' => (b δ' S).bind fun f S1 => match f with
     |.nx δ2=>zaW g b xs δ2 S1
     |.rt d=>.ok (.rt d) S1
     |.ex d=>.ok (.ex d) S1
@[irreducible] noncomputable def appX (f : Nat) (ds : List D) (S : St) : Out D := match cf f ds S.enter with
  |.ok d T=>zaU S d T
  |.err d T=>.err d ⟨S.frz,S.new++T.new,S.lk⟩
  |.bad=>.bad
noncomputable def exT:TrB->Ev->St->Out Ev
 |.run f es,δ,S=>match evEs cf es δ S with|.ok ds S1=>(appX cf f ds S1).bind fun _ S2=>.ok δ S2|_=>.bad
 |.asg i f es,δ,S=>match evEs cf es δ S with|.ok ds S1=>(appX cf f ds S1).bind fun d S2=>.ok (δ.set i (some d)) S2|_=>.bad
 |.ite c a b,δ,S=>match evT cf c δ S with|.ok k S1=>if k then exT a δ S1 else exT b δ S1|_=>.bad
noncomputable def exS:CS->Ev->St->Out Fl
 |.nil,δ,S=>.ok (.nx δ) S
 |.stop,_,_=>.bad
 |.asg i e r,δ,S=>(evE cf e δ S).bind fun x S1=>exS r (δ.set i (some x)) S1
 |.asgT g e r,δ,S=>(evE cf e δ S).bind fun x S1=>(lift S1 (asgG g x δ)).bind fun δ' S2=>exS r δ' S2
 |.setIx a b e r,δ,S=>(evE cf e δ S).bind fun v S1=>(evE cf a δ S1).bind fun x S2=>(evE cf b δ S2).bind fun y S3=>match dPut S3 x y v with|some S4=>exS r δ S4|none=>.bad
 |.ifS c t u r,δ,S=>(evT cf c δ S).bind fun k S1=>(if k then exS t δ S1 else exS u δ S1).bind fun f S2=>match f with
  |.nx δ'=>exS r δ' S2
  |.rt d=>.ok (.rt d) S2
  |.ex d=>.ok (.ex d) S2
 |.forS g l b r,δ,S=>(evL cf l δ S).bind fun q S1=>(zaZ q.2 S1 fun S2=>zaW g (exS b) q.1 δ S2).bind fun f S3=>match f with
  |.nx δ'=>exS r δ' S3
  |.rt d=>.ok (.rt d) S3
  |.ex d=>.ok (.ex d) S3
 |.ret e _,δ,S=>(evE cf e δ S).bind fun x S1=>.ok (.rt x) S1
 |.expr e r,δ,S=>(evE cf e δ S).bind fun _ S1=>exS r δ S1
 |.rais c _ f a,δ,S=>(evE cf a δ S).bind fun d S1=>.ok (.ex (.ref S1.len)) (S1.push (.exc c [(f,d)]))
 |.tryS b _ ie ix r,δ,S=>match exT cf b δ S with
  |.ok δ' S1=>exS r δ' S1
  |.err d S1=>if (zbP S1 d).isSome then exS r ((δ.set ie none).set ix (some d)) S1 else .bad
  |.bad=>.bad
end
inductive Prim where
 |tally|road
noncomputable def rowD (r:Int × Int):D:=.tup [.int r.1,.int r.2]
noncomputable def talD (os:List (Option Int)):List D:=(zk4 (zcY [] os)).map rowD
noncomputable def prm (S:St):Prim->List D->Out D
 | .tally, [.ref l] => (match S.get l with
   | some (.lst ws) => (match zbA ws with
     |some os=>if (zcY [] os).length<64/\os.length<=16777216 then .ok (.ref S.len) (S.push (.lst (talD os))) else .bad
     |none=>.bad)
   |_=>.bad)
 | .road, [x] => (match (zbH S x).bind fun ds => ds.mapM lie4 with
   |some ls=>if ls.length<=1000/\S.lk=[] then .ok (.clo (ze1 [] ls)) S else .bad
   |none=>.bad)
 |_,_=>.bad
structure Fn where
 np:Nat
 nn:Nat
 body:CS
 prim:Option Prim
noncomputable def zaB (F:Fn)(ds:List D):Ev:=ds.map some++List.replicate (F.nn - F.np) none
noncomputable def callF (P:List Fn):Nat->CF
 |0,_,_,_=>.bad
 | n + 1, f, ds, S => match P[f]? with
   | some F => if ds.length = F.np then (match F.prim with
      |some p=>if 3<=n then prm S p ds else .bad
      | none => (exS (callF P n) F.body (zaB F ds) S).ne.bind fun r T => match r with
        |.nx _=>.ok .non T
        |.rt d=>.ok d T
        |.ex d=>.err d T)
     else .bad
   |none=>.bad
end R
end
section
namespace R
open PySem (Str PyData Operator CmpOp)
@[simp] theorem za8 {α β:Type}(a:α)(S:St)(f:α->St->Out β):(Out.ok a S).bind f=f a S:=rfl
@[simp] theorem zm6 {α β:Type}(f:α->St->Out β):(Out.bad:Out α).bind f=.bad:=rfl
@[simp] theorem zm5 {α β:Type}(d:D)(S:St)(f:α->St->Out β):(Out.err d S:Out α).bind f=.err d S:=rfl
@[simp] theorem zbj {α:Type}(S:St)(a:α):lift S (some a)=.ok a S:=rfl
theorem zaH (S:St):S.enter.get=S.get:=by
 funext l
 simp only[St.get,St.enter,List.length_append,List.getElem?_append]
 by_cases h:l<S.frz.length
 · simp[h,Nat.lt_of_lt_of_le h (Nat.le_add_right _ _)]
 · simp only[h,if_false]
   split
   · rfl
   · simp only[List.getElem?_nil]
     exact (List.getElem?_eq_none (by omega)).symm
@[simp] theorem zd7 (S:St):S.enter.frz=S.frz++S.new:=rfl
@[simp] theorem zmE (S:St):S.enter.new=[]:=rfl
@[simp] theorem zm4 (S:St):S.enter.lk=[]:=rfl
@[simp] theorem enter_len (S:St):S.enter.len=S.len:=by simp[St.len]
theorem zb0 (S:St):(S.frz++S.new).length=S.len:=by simp[St.len]
theorem zaw {S:St}{l:Nat}{o:MO}(h:S.get l=some o):l<S.len:=by
 unfold St.get at h
 unfold St.len
 split at h
 · omega
 · have:=(List.getElem?_eq_some_iff.mp h).1
   omega
theorem zkr {S:St}{l:Nat}{o:MO}(h:S.get l=some o)(nw:List MO)(lk:List Nat):(St.mk (S.frz++S.new) nw lk).get l=some o:=by
 have hl:=zaw h
 rw[<-zaH] at h
 unfold St.get at h⊢
 have e:l<(S.frz++S.new).length:=by rw[zb0];exact hl
 simp only[zd7,e,if_true] at h⊢
 exact h
theorem zks (F nw:List MO)(lk:List Nat)(i:Nat):(St.mk F nw lk).get (F.length+i)=nw[i]?:=by
 have:¬F.length+i<F.length:=by omega
 simp[St.get,this]
theorem zio (F nw:List MO)(lk:List Nat):(St.mk F nw lk).get F.length=nw[0]?:=zks F nw lk 0
@[simp] theorem zm2 (n:Nat):flat n .non=true:=by simp[flat]
@[simp] theorem znV (n:Nat)(b:Bool):flat n (.bl b)=true:=by simp[flat]
@[simp] theorem zm3 (n:Nat)(i:Int):flat n (.int i)=true:=by simp[flat]
@[simp] theorem zm1 (n:Nat)(x:Str):flat n (.str x)=true:=by simp[flat]
@[simp] theorem zfg (n:Nat)(ds:List D):flat n (.tup ds)=flats n ds:=by simp[flat]
@[simp] theorem zir (n:Nat)(ds:List D):flat n (.fix ds)=flats n ds:=by simp[flat]
@[simp] theorem zmA (n:Nat):flats n []=true:=by simp[flats]
@[simp] theorem zb1 (n:Nat)(d:D)(ds:List D):flats n (d::ds)=(flat n d&&flats n ds):=by simp[flats]
@[simp] theorem zd2 (n : Nat) : ∀ ds es : List D, flats n (ds ++ es) = (flats n ds && flats n es)
  | [],es=>by simp
  |d::ds,es=>by simp[zd2 n ds es,Bool.and_assoc]
theorem za2 (n:Nat):∀ds:List D,flats n ds=true↔∀d∈ds,flat n d=true
 | []=>by simp
 |d::ds=>by simp[za2 n ds]
@[simp] theorem zkR (n:Nat)(ns:List Int):flats n (ns.map D.int)=true:=by rw[za2];simp
@[simp] theorem zfQ (S:St)(d:D)(T:St)(h:flat S.len d=true):zaU S d T=.ok d S:=by simp[zaU,h]
noncomputable def W {α:Type}(o:Out α)(Q:α->St->Prop):Prop:=match o with
 |.ok a S=>Q a S
 |_=>False
@[simp] theorem W_ok {α:Type}(a:α)(S:St)(Q:α->St->Prop):W (.ok a S) Q=Q a S:=rfl
@[simp] theorem zoa {α:Type}(Q:α->St->Prop):W (.bad:Out α) Q=False:=rfl
@[simp] theorem zn9 {α:Type}(d:D)(S:St)(Q:α->St->Prop):W (.err d S:Out α) Q=False:=rfl
@[simp] theorem zaa {α β : Type} (o : Out α) (f : α → St → Out β) (Q : β → St → Prop) : W (o.bind f) Q = W o fun a S => W (f a S) Q := by
  cases o<;>rfl
theorem W.mono {α:Type}{o:Out α}{Q Q':α->St->Prop}(h:W o Q)(hq:∀a S,Q a S->Q' a S):W o Q':=by
 cases o with
 |ok a S=>exact hq a S h
 |err d S=>exact h
 |bad=>exact h
theorem W.eq {α:Type}{o:Out α}{d:α}{S:St}(h:W o fun a T=>a=d/\T=S):o=.ok d S:=by
 cases o with
 |ok a T=>obtain⟨rfl,rfl⟩:=h;rfl
 |err d S=>exact False.elim h
 |bad=>exact False.elim h
theorem W.of {α:Type}{o:Out α}{d:α}{S:St}{Q:α->St->Prop}(h:o=.ok d S)(q:Q d S):W o Q:=by rw[h];exact q
theorem W.iff {α:Type}{o:Out α}{Q:α->St->Prop}:W o Q↔∃a S,o=.ok a S/\Q a S:=by
 cases o with
 |ok a S=>exact⟨fun h=>⟨a,S,rfl,h⟩,fun⟨_,_,e,h⟩=>by cases e;exact h⟩
 |err d S=>exact⟨fun h=>h.elim,fun⟨_,_,e,_⟩=>nomatch e⟩
 |bad=>exact⟨fun h=>h.elim,fun⟨_,_,e,_⟩=>nomatch e⟩
@[simp] theorem W_ne {α:Type}{o:Out α}{Q:α->St->Prop}:W o.ne Q=W o Q:=by cases o<;>rfl
noncomputable def fin (S:St)(r:Fl)(T:St):Out D:=match r with
 |.nx _=>zaU S .non T
 |.rt d=>zaU S d T
 |.ex d=>.err d T
@[simp] theorem zfh (S T:St)(d:D):fin S (.rt d) T=zaU S d T:=rfl
@[simp] theorem zn8 (S T:St)(δ:Ev):fin S (.nx δ) T=.ok .non S:=by simp[fin]
theorem zjc {P:List Fn}{F:Fn}{f n:Nat}{ds:List D}{S:St}(h:P[f]?=some F)(hl:ds.length=F.np)(hp:F.prim=none:=by rfl) :
  app (callF P (n+1)) f ds S=(exS (callF P n) F.body (zaB F ds) S.enter).ne.bind fun r T=>fin S r T:=by
 simp only[app,callF,h,hl,hp,if_true]
 generalize exS (callF P n) F.body (zaB F ds) S.enter=o
 cases o with
 |ok r T=>cases r<;>rfl
 |err d S=>rfl
 |bad=>rfl
noncomputable def finL (S:St)(r:Fl)(T:St):Out (List D):=match r with
 |.nx _=>.bad
 |.rt d=>zgJ S d T
 |.ex d=>.err d T
@[simp] theorem znW (S T:St)(d:D):finL S (.rt d) T=zgJ S d T:=rfl
theorem zbS {g:List Nat}{b:Ev->St->Out Fl}(I:Nat->Ev->St->Prop)(Rt:D->St->Prop):∀(xs:List D) (k:Nat) (δ:Ev) (S:St),I k δ S->
  (∀i x δ S,xs[i]?=some x->I (k+i) δ S->∃δ',asgG g x δ=some δ'/\W (b δ' S) fun f S'=>match f with|.nx δ2=>I (k+i+1) δ2 S'|.rt d=>Rt d S'|.ex _=>False)->
  W (zaW g b xs δ S) fun f S'=>match f with|.nx δ'=>I (k+xs.length) δ' S'|.rt d=>Rt d S'|.ex _=>False
 | [],k,δ,S,h,_=>by simpa[zaW] using h
 | x :: xs, k, δ, S, h, step => by
   obtain⟨δ',e,w⟩:=step 0 x δ S rfl h
   simp only[zaW,e,zaa]
   refine w.mono fun f S1 hf=>?_
   cases f with
   |rt d=>exact hf
   |ex d=>exact hf.elim
   | nx δ2 =>
     have ih:=zbS I Rt xs (k+1) δ2 S1 hf (fun i y δ S hy hi=>by
      have:=step (i+1) y δ S (by simpa using hy) (by rw[show k+(i+1)=k+1+i by omega];exact hi)
      rw[show k+(i+1)+1=k+1+i+1 by omega] at this
      exact this)
     rw[show k+1+xs.length=k+(x::xs).length by simp;omega] at ih
     exact ih
theorem zch {c:Ev->St->Out Bool}{e:Ev->St->Out D}{S:St}{rest:Ev}(p:D->Bool)(f:D->D):∀(xs:List D) (o:Option D),
  (∀x∈xs,c (some x::rest) S=.ok (p x) S)->(∀x∈xs,p x=true->e (some x::rest) S=.ok (f x) S)->zaX [0] c e xs (o::rest) S=.ok ((xs.filter p).map f) S
 | [],o,_,_=>rfl
 | x :: xs, o, hc, he => by
   have ih:=zch p f xs (some x) (fun y hy=>hc y (List.mem_cons_of_mem _ hy)) (fun y hy=>he y (List.mem_cons_of_mem _ hy))
   simp only[zaX,asgG,List.set_cons_zero,hc x List.mem_cons_self,za8]
   cases hp:p x with
   |false=>simp[ih,hp]
   |true=>simp[ih,hp,he x List.mem_cons_self hp]
theorem zbo {c:Ev->St->Out Bool}{e:Ev->St->Out D}{S:St}{rest:Ev}(f:D->D)(xs:List D)(o:Option D)
  (hc:∀x∈xs,c (some x::rest) S=.ok true S) (he:∀x∈xs,e (some x::rest) S=.ok (f x) S):zaX [0] c e xs (o::rest) S=.ok (xs.map f) S:=by
 have:=zch (c:=c) (e:=e) (S:=S) (rest:=rest) (fun _=>true) f xs o hc (fun x hx _=>he x hx)
 rw[List.filter_eq_self.mpr (fun _ _=>rfl)] at this
 exact this
@[simp] theorem zkQ {α:Type}(S:St)(f:St->Out α):zaZ [] S f=(f S).bind fun a S'=>.ok a {S' with lk:=S.lk}:=rfl
end R
end
section
namespace R
open PySem (Str PyData Operator CmpOp)
noncomputable def wIf (c:Bool)(P Q:Prop):Prop:=match c with|true=>P|false=>Q
@[irreducible] noncomputable def wOpt {α:Type}(o:Option α)(k:α->Prop):Prop:=match o with|some a=>k a|none=>False
@[irreducible] noncomputable def zaN (p k:Prop):Prop:=p/\k
@[irreducible] noncomputable def wOut {α:Type}(o:Out α)(Q:α->St->Prop):Prop:=W o Q
theorem zm9 {c:Bool}{P Q:Prop}(h:c=true)(k:P):wIf c P Q:=by subst h;exact k
theorem zf8 {c:Bool}{P Q:Prop}(h:c=false)(k:Q):wIf c P Q:=by subst h;exact k
theorem zna {c:Bool}{P Q:Prop}(h1:c=true->P)(h2:c=false->Q):wIf c P Q:=by
 cases c with
 |true=>exact zm9 rfl (h1 rfl)
 |false=>exact zf8 rfl (h2 rfl)
theorem zdv {p:Prop}[Decidable p]{P Q:Prop}(h1:p->P)(h2:¬p->Q):wIf (decide p) P Q:=zna (fun h=>h1 (of_decide_eq_true h)) (fun h=>h2 (of_decide_eq_false h))
theorem zad {α:Type}{o:Option α}{k:α->Prop}{a:α}(h:o=some a)(q:k a):wOpt o k:=by unfold wOpt;rw[h];exact q
theorem zab {p k:Prop}(h:p)(q:k):zaN p k:=by unfold zaN;exact⟨h,q⟩
theorem zaE {α:Type}{o:Out α}{Q:α->St->Prop}{a:α}{S:St}(h:o=.ok a S)(q:Q a S):wOut o Q:=by unfold wOut;rw[h];exact q
theorem zdu {α:Type}{o:Out α}{Q:α->St->Prop}(h:W o Q):wOut o Q:=by unfold wOut;exact h
noncomputable abbrev wGet (S:St)(l:Nat)(k:MO->Prop):Prop:=wOpt (S.get l) k
noncomputable abbrev wPut (S:St)(l:Nat)(o:MO)(k:St->Prop):Prop:=wOpt (S.put l o) k
noncomputable def wLay (S:St)(ds:List D)(Q:D->St->Prop):Prop:=zaN (ds.length<=16777216) (Q (.ref S.len) (S.push (.lst ds)))
theorem zcP {S:St}{ds:List D}{Q:D->St->Prop}(h:wLay S ds Q):W (lay S ds) Q:=by
 unfold wLay zaN at h
 unfold lay
 rw[if_pos h.1];exact h.2
noncomputable def wWr (S:St)(l:Nat)(ds:List D)(d:D)(Q:D->St->Prop):Prop:=zaN (ds.length<=16777216) (wPut S l (.lst ds) fun S'=>Q d S')
theorem zkT {S:St}{l:Nat}{ds:List D}{d:D}{Q:D->St->Prop}(h:wWr S l ds d Q):W (wr S l ds d) Q:=by
 unfold wWr zaN wPut wOpt at h
 unfold wr
 rw[if_pos h.1]
 have h2:=h.2
 cases e:S.put l (.lst ds) with
 |none=>rw[e] at h2;exact h2.elim
 |some S'=>rw[e] at h2;exact h2
noncomputable def zkW (S:St)(op:Operator)(i j:Int)(Q:D->St->Prop):Prop:=match op with
 |.Add=>Q (.int (i+j)) S
 |.Sub=>Q (.int (i - j)) S
 |.Mult=>zaN (zj9 i j=true) (Q (.int (i * j)) S)
 |.FloorDiv=>zaN (0<j/\j<1073741824) (Q (.int (i / j)) S)
 |.Mod=>zaN (0<j) (Q (.int (i % j)) S)
 |.Pow=>zaN (0<=j/\j<=1000000/\-18446744073709551616<i/\i<18446744073709551616) (Q (.int (i ^ j.toNat)) S)
 |_=>False
noncomputable def wBin (S:St)(op:Operator)(x y:D)(Q:D->St->Prop):Prop:=match x,y with
 |.int i,.int j=>zkW S op i j Q
 |.tup xs,.tup ys=>(match op with|.Add=>zaN (xs.length+ys.length<=16777216) (Q (.tup (xs++ys)) S)|_=>False)
 |.ref a,.ref b=>(match op with|.Add=>wGet S a fun o=>wGet S b fun u=>(match o,u with|.lst xs,.lst ys=>wLay S (xs++ys) Q|_,_=>False)|_=>False)
 |_,_=>False
theorem zkV {S:St}{op:Operator}{x y:D}{Q:D->St->Prop}(h:wBin S op x y Q):W (binD S op x y) Q:=by
 unfold wBin at h
 unfold binD
 split at h
 · unfold zkW zaN at h
   unfold binI
   split at h<;>(try dsimp only)<;>first|exact h|(rw[if_pos h.1];exact h.2)|exact False.elim h
 · split at h
   · unfold zaN at h
     (try simp only)
     rw[if_pos h.1];exact h.2
   · exact h.elim
 · split at h
   · unfold wGet wOpt at h
     (try simp only)
     cases ea:S.get _ with
     |none=>simp only[ea] at h
     | some o =>
       simp only[ea] at h
       cases eb:S.get _ with
       |none=>simp only[eb] at h
       | some u =>
         simp only[eb] at h
         cases o<;>cases u<;>first|exact zcP h|exact h.elim
   · exact h.elim
 · exact h.elim
noncomputable def wCmp (S:St)(op:CmpOp)(x y:D)(Q:Bool->Prop):Prop:=match x,y with
 |.int i,.int j=>(match cmpI op i j with|some k=>Q k|none=>False)
 | _, _ => (match op with
   |.Is=>(match cmpO S .Is x y with|some k=>Q k|none=>False)
   |.IsNot=>(match cmpO S .IsNot x y with|some k=>Q k|none=>False)
   |_=>wOpt (cmpO S op x y) Q)
theorem zkG {S:St}{op:CmpOp}{x y:D}(h:∀i j,x=.int i->y=.int j->False):cmpD S op x y=cmpO S op x y:=by
 unfold cmpD
 split
 · rename_i i j;exact (h i j rfl rfl).elim
 · rfl
theorem zej {S:St}{op:CmpOp}{x y:D}{Q:Bool->Prop}(h:wCmp S op x y Q):∃k,cmpD S op x y=some k/\Q k:=by
 have fin:∀o:Option Bool,(match o with|some k=>Q k|none=>False)->∃k,o=some k/\Q k:=fun o q=>by
  cases o with
  |none=>exact q.elim
  |some k=>exact⟨k,rfl,q⟩
 unfold wCmp at h
 split at h
 · exact fin _ h
 · rename_i hn
   rw[zkG hn]
   split at h
   · exact fin _ h
   · exact fin _ h
   · unfold wOpt at h
     cases e:cmpO S op x y with
     |none=>rw[e] at h;exact h.elim
     |some k=>rw[e] at h;exact⟨k,rfl,h⟩
theorem zeQ {S:St}{op:CmpOp}{x y:D}{Q:Bool->St->Prop}(h:wCmp S op x y fun k=>Q k S):W (lift S (cmpD S op x y)) Q:=by
 obtain⟨k,e,q⟩:=zej h
 rw[e];exact q
noncomputable def wBi (S:St)(b:Bi)(ds:List D)(Q:D->St->Prop):Prop:=match b,ds with
 | .len, [x] => (match x with
   |.tup ds=>Q (.int ds.length) S
   |.fix ds=>Q (.int ds.length) S
   |.ref l=>wGet S l fun o=>(match o with|.lst ds=>Q (.int ds.length) S|.dic kvs=>Q (.int kvs.length) S|.dtp kvs=>Q (.int kvs.length) S|_=>False)
   |_=>False)
 |.abs,[.int i]=>Q (.int (if i<0 then -i else i)) S
 |.max2,[.int i,.int j]=>Q (.int (if j > i then j else i)) S
 |.min2,[.int i,.int j]=>Q (.int (if j<i then j else i)) S
 |.isin t,[x]=>wOpt (tyOf S x) fun a=>Q (.bl (a == t || (a == "bool"&&t == "int"))) S
 |_,_=>False
theorem znb {S:St}{b:Bi}{ds:List D}{Q:D->St->Prop}(h:wBi S b ds Q):W (bi S b ds) Q:=by
 unfold wBi at h
 split at h
 · split at h
   · exact h
   · exact h
   · rename_i l
     unfold wGet wOpt at h
     simp only[bi]
     cases e:S.get l with
     |none=>rw[e] at h;exact h.elim
     |some o=>rw[e] at h;cases o<;>first|exact h|exact h.elim
   · exact h.elim
 · exact h
 · exact h
 · exact h
 · rename_i t x
   unfold wOpt at h
   simp only[bi]
   cases e:tyOf S x with
   |none=>rw[e] at h;exact h.elim
   |some a=>rw[e] at h;exact h
 · exact h.elim
noncomputable def wIsL (S:St)(x:D)(P:Prop):Prop:=match x with
 |.ref l=>wGet S l fun o=>(match o with|.lst _=>P|_=>False)
 |_=>False
theorem zf7 {S:St}{x:D}{P:Prop}(h:wIsL S x P):isL S x=true/\P:=by
 unfold wIsL at h
 split at h
 · rename_i l
   unfold wGet wOpt at h
   unfold isL
   cases e:S.get l with
   |none=>rw[e] at h;exact h.elim
   | some o =>
     rw[e] at h
     cases o with
     |lst ds=>exact⟨by simp[e],h⟩
     |_=>exact False.elim h
 · exact h.elim
noncomputable def wMt (S:St)(m:Mt)(x:D)(ds:List D)(Q:D->St->Prop):Prop:=match m,x,ds with
 |.append,.ref l,[y]=>wGet S l fun o=>(match o with|.lst ds=>wWr S l (ds++[y]) .non Q|_=>False)
 | .popAt, .ref l, [.int i] => wGet S l fun o => (match o with
   |.lst ds=>zaN (0<=i) (wOpt ds[i.toNat]? fun y=>wWr S l (ds.eraseIdx i.toNat) y Q)
   |_=>False)
 | .count, .ref l, [.int i] => wGet S l fun o => (match o with
   |.lst ds=>wOpt (zbA ds) fun os=>Q (.int (os.count (some i):Nat)) S
   |_=>False)
 |_,_,_=>False
theorem zm8 {S:St}{m:Mt}{x:D}{ds:List D}{Q:D->St->Prop}(h:wMt S m x ds Q):W (mt S m x ds) Q:=by
 unfold wMt at h
 split at h
 · rename_i l y
   unfold wGet wOpt at h
   simp only[mt]
   cases e:S.get l with
   |none=>rw[e] at h;exact h.elim
   |some o=>rw[e] at h;cases o<;>first|exact zkT h|exact h.elim
 · rename_i l i
   unfold wGet wOpt zaN at h
   simp only[mt]
   cases e:S.get l with
   |none=>rw[e] at h;exact h.elim
   | some o =>
     rw[e] at h
     cases o with
     | lst ds =>
       simp only at h⊢
       rw[if_pos h.1]
       have h2:=h.2
       cases e2:ds[i.toNat]? with
       |none=>rw[e2] at h2;exact h2.elim
       |some y=>rw[e2] at h2;exact zkT h2
     |_=>exact h.elim
 · rename_i l i
   unfold wGet wOpt at h
   simp only[mt]
   cases e:S.get l with
   |none=>rw[e] at h;exact h.elim
   | some o =>
     rw[e] at h
     cases o with
     | lst ds =>
       simp only at h⊢
       cases e2:zbA ds with
       |none=>rw[e2] at h;exact h.elim
       |some y=>rw[e2] at h;exact h
     |_=>exact h.elim
 · exact h.elim
noncomputable def wSeq (S:St)(x:D)(k:List D->Prop):Prop:=match x with
 |.tup ds=>k ds
 |.fix ds=>k ds
 |.ref l=>wGet S l fun o=>(match o with|.lst ds=>k ds|_=>False)
 |_=>False
theorem zf5 {S:St}{x:D}{k:List D->Prop}(h:wSeq S x k):∃ds,zbH S x=some ds/\k ds:=by
 unfold wSeq at h
 unfold zbH
 split at h
 · exact⟨_,rfl,h⟩
 · exact⟨_,rfl,h⟩
 · rename_i l
   unfold wGet wOpt at h
   cases e:S.get l with
   |none=>rw[e] at h;exact h.elim
   | some o =>
     rw[e] at h
     cases o with
     |lst ds=>exact⟨ds,by simp[e],h⟩
     |dic _=>exact False.elim h
     |ins _ _=>exact False.elim h
     |dtp _=>exact False.elim h
     |d3 _=>exact False.elim h
     |exc _ _=>exact False.elim h
 · exact h.elim
noncomputable def wTru (S:St)(x:D)(Q:Bool->Prop):Prop:=match x with
 |.bl b=>Q b
 |.non=>Q false
 |.int i=>Q (i != 0)
 |.tup ds=>Q (!ds.isEmpty)
 |.ref l=>wGet S l fun o=>(match o with|.lst ds=>Q (!ds.isEmpty)|_=>False)
 |_=>False
theorem zkU {S:St}{x:D}{Q:Bool->St->Prop}(h:wTru S x fun k=>Q k S):W (lift S (tru S x)) Q:=by
 unfold wTru at h
 unfold tru
 split at h
 · exact h
 · exact h
 · exact h
 · exact h
 · rename_i l
   unfold wGet wOpt at h
   simp only
   cases e:S.get l with
   |none=>rw[e] at h;exact h.elim
   |some o=>rw[e] at h;cases o<;>first|exact h|exact h.elim
 · exact h.elim
@[irreducible] noncomputable def zfv {α:Type}(ls:List Nat)(S:St)(f:St->Out α)(Q:α->St->Prop):Prop:=W (zaZ ls S f) Q
theorem zf6 {α:Type}{ls:List Nat}{S:St}{f:St->Out α}{Q:α->St->Prop}(h:zfv ls S f Q):W (zaZ ls S f) Q:=by unfold zfv at h;exact h
theorem za4 {α:Type}{ls:List Nat}{S:St}{f:St->Out α}{Q:α->St->Prop}(h:W (f {S with lk:=ls++S.lk}) fun a T=>Q a {T with lk:=S.lk}):zfv ls S f Q:=by
 unfold zfv zaZ
 rw[zaa];exact h
section
variable (cf:CF)
mutual
noncomputable def wE:CE->Ev->St->(D->St->Prop)->Prop
 |.loc i,δ,S,Q=>(match (δ[i]?).join with|some d=>Q d S|none=>False)
 |.con d,_,S,Q=>Q d S
 |.tst _,_,_,_=>False
 |.bin op a b,δ,S,Q=>wE a δ S fun x S1=>wE b δ S1 fun y S2=>wBin S2 op x y Q
 |.neg a,δ,S,Q=>wE a δ S fun x S1=>(match x with|.int i=>Q (.int (-i)) S1|_=>False)
 |.nt a,δ,S,Q=>wE a δ S fun x S1=>(match x with|.bl b=>Q (.bl (!b)) S1|_=>False)
 |.cmp op a b,δ,S,Q=>wE a δ S fun x S1=>wE b δ S1 fun y S2=>wCmp S2 op x y fun k=>Q (.bl k) S2
 |.cmp2 op op' a b c,δ,S,Q=>wE a δ S fun x S1=>wE b δ S1 fun y S2=>wCmp S2 op x y fun k=>wIf k (wE c δ S2 fun z S4=>wCmp S4 op' y z fun k'=>Q (.bl k') S4) (Q (.bl false) S2)
 |.and a b,δ,S,Q=>wE a δ S fun x S1=>(match x with|.bl k=>wIf k (wE b δ S1 Q) (Q (.bl false) S1)|_=>False)
 |.or a b,δ,S,Q=>wE a δ S fun x S1=>(match x with|.bl k=>wIf k (Q (.bl true) S1) (wE b δ S1 Q)|_=>False)
 |.ite c a b,δ,S,Q=>wT c δ S fun k S1=>wIf k (wE a δ S1 Q) (wE b δ S1 Q)
 |.tup es,δ,S,Q=>wEs es δ S fun ds S1=>zaN (ds.length<=16777216) (Q (.tup ds) S1)
 |.lst es,δ,S,Q=>wEs es δ S fun ds S1=>wLay S1 ds Q
 |.mkX c _ f a,δ,S,Q=>wE a δ S fun d S1=>Q (.ref S1.len) (S1.push (.exc c [(f,d)]))
 |.fldX a f,δ,S,Q=>wE a δ S fun x S1=>wOpt (zbP S1 x) fun p=>wOpt (p.2.lookup f) fun d=>Q d S1
 |.iscX cs _ a,δ,S,Q=>wE a δ S fun x S1=>wOpt (zbP S1 x) fun p=>Q (.bl (cs.contains p.1)) S1
 |.ix a b,δ,S,Q=>wE a δ S fun x S1=>wE b δ S1 fun y S2=>wSeq S2 x fun ds=>(match y with|.int i=>wOpt (atI ds i) fun d=>Q d S2|_=>False)
 |.insL o a b,δ,S,Q=>wE o δ S fun x S1=>wIsL S1 x (wE a δ S1 fun y S2=>wE b δ S2 fun z S3=>wOut (zcM S3 x y z) Q)
 |.rep a b,δ,S,Q=>wE a δ S fun x S1=>wE b δ S1 fun y S2=>(match x,y with
  |.ref p,.int k=>zaN (-(2 ^ 63)<=k/\k<2 ^ 63) (wGet S2 p fun o=>(match o with|.lst ds=>wLay S2 (List.replicate k.toNat ds).flatten Q|_=>False))
  |_,_=>False)
 |.sl a ml mh lo hi,δ,S,Q=>wE a δ S fun x S1=>wE lo δ S1 fun y S2=>wE hi δ S2 fun z S3=>(match zbg ml y,zbg mh z with
  | some l, some h => (match x with
    |.tup ds=>Q (.tup (cut ds l h)) S3
    |.fix ds=>wLay S3 (cut ds l h) Q
    |.ref p=>wGet S3 p fun o=>(match o with|.lst ds=>wLay S3 (cut ds l h) Q|_=>False)
    |_=>False)
  |_,_=>False)
 |.call f j es,δ,S,Q=>wEs es δ S fun ds S1=>wOut (app cf f (ds++List.replicate j .non) S1) Q
 |.bi b es,δ,S,Q=>wEs es δ S fun ds S1=>wBi S1 b ds Q
 |.mt m o es,δ,S,Q=>wE o δ S fun x S1=>wIsL S1 x (wEs es δ S1 fun ds S2=>wMt S2 m x ds Q)
 |.mkL l,δ,S,Q=>wL l δ S fun r S1=>wLay S1 r.1 Q
 |.mkT l,δ,S,Q=>wL l δ S fun r S1=>zaN (r.1.length<=16777216) (Q (.tup r.1) S1)
 |.all l,δ,S,Q=>wL l δ S fun r S1=>wOpt (allD r.1) fun b=>Q (.bl b) S1
noncomputable def wEs:CEs->Ev->St->(List D->St->Prop)->Prop
 |.nil,_,S,Q=>Q [] S
 |.cons e r,δ,S,Q=>wE e δ S fun d S1=>wEs r δ S1 fun ds S2=>Q (d::ds) S2
noncomputable def wT:CE->Ev->St->(Bool->St->Prop)->Prop
 |.cmp op a b,δ,S,Q=>wE a δ S fun x S1=>wE b δ S1 fun y S2=>wCmp S2 op x y fun k=>Q k S2
 |.cmp2 op op' a b c,δ,S,Q=>wE a δ S fun x S1=>wE b δ S1 fun y S2=>wCmp S2 op x y fun k=>wIf k (wE c δ S2 fun z S4=>wCmp S4 op' y z fun k'=>Q k' S4) (Q false S2)
 |.nt a,δ,S,Q=>wT a δ S fun k S1=>Q (!k) S1
 |.and a b,δ,S,Q=>wT a δ S fun k S1=>wIf k (wT b δ S1 Q) (Q false S1)
 |.or a b,δ,S,Q=>wT a δ S fun k S1=>wIf k (Q true S1) (wT b δ S1 Q)
 |.tst e,δ,S,Q=>wE e δ S fun x S1=>wTru S1 x fun k=>Q k S1
 |_,_,_,_=>False
noncomputable def wL:CL->Ev->St->(List D × List Nat->St->Prop)->Prop
 |.val e,δ,S,Q=>wE e δ S fun x S1=>wSeq S1 x fun ds=>Q (ds,lkOf S1 x) S1
 |.rng1 a,δ,S,Q=>wE a δ S fun x S1=>(match x with|.int j=>zaN (-(2 ^ 62)<=j/\j<2 ^ 62) (Q ((List.range j.toNat).map fun (k:Nat)=>.int k,[]) S1)|_=>False)
 |.enum a,δ,S,Q=>wE a δ S fun x S1=>wOpt (zcB S1 x) fun r=>Q r S1
 |.comp n js g it c e,δ,S,Q=>wL it δ S fun r S1=>zfv r.2 S1 (fun S2=>zaX g (evT cf c) (evE cf e) r.1 (csl n js δ) S2) fun ds S3=>zaN (ds.length<=16777216) (Q (ds,[]) S3)
end
noncomputable def wS:CS->Ev->St->(Fl->St->Prop)->Prop
 |.nil,δ,S,Q=>Q (.nx δ) S
 |.stop,_,_,_=>False
 |.asg i e r,δ,S,Q=>wE cf e δ S fun x S1=>wS r (δ.set i (some x)) S1 Q
 |.asgT g e r,δ,S,Q=>wE cf e δ S fun x S1=>wOpt (asgG g x δ) fun δ'=>wS r δ' S1 Q
 |.setIx a b e r,δ,S,Q=>wE cf e δ S fun v S1=>wE cf a δ S1 fun x S2=>wE cf b δ S2 fun y S3=>wOpt (dPut S3 x y v) fun S4=>wS r δ S4 Q
 |.ifS c t u r,δ,S,Q=>wT cf c δ S fun k S1=>wIf k (wS t δ S1 fun f S2=>(match f with|.nx δ'=>wS r δ' S2 Q|.rt d=>Q (.rt d) S2|.ex d=>Q (.ex d) S2)) (wS u δ S1 fun f S2=>(match f with|.nx δ'=>wS r δ' S2 Q|.rt d=>Q (.rt d) S2|.ex d=>Q (.ex d) S2))
 |.forS g l b r,δ,S,Q=>wL cf l δ S fun q S1=>zfv q.2 S1 (fun S2=>zaW g (exS cf b) q.1 δ S2) fun f S3=>(match f with|.nx δ'=>wS r δ' S3 Q|.rt d=>Q (.rt d) S3|.ex d=>Q (.ex d) S3)
 |.ret e _,δ,S,Q=>wE cf e δ S fun x S1=>Q (.rt x) S1
 |.expr e r,δ,S,Q=>wE cf e δ S fun _ S1=>wS r δ S1 Q
 |.rais c _ f a,δ,S,Q=>wE cf a δ S fun d S1=>Q (.ex (.ref S1.len)) (S1.push (.exc c [(f,d)]))
 |.tryS b x ie ix r,δ,S,Q=>wOut (exS cf (.tryS b x ie ix r) δ S) Q
end
section
variable {cf:CF}
mutual
theorem wE_W:∀(e:CE) {δ:Ev} {S:St} {Q:D->St->Prop},wE cf e δ S Q->W (evE cf e δ S) Q
 | .loc i, δ, S, Q, h => by
   simp only[wE] at h
   simp only[evE]
   cases e:(δ[i]?).join with
   |none=>rw[e] at h;exact h.elim
   |some d=>rw[e] at h;exact h
 |.con d,δ,S,Q,h=>by simp only[wE] at h;simp only[evE];exact h
 |.tst _,δ,S,Q,h=>by simp only[wE] at h
 | .bin op a b, δ, S, Q, h => by
   simp only[wE] at h
   simp only[evE,zaa]
   exact (wE_W a h).mono fun x S1 h1=>(wE_W b h1).mono fun y S2 h2=>zkV h2
 | .neg a, δ, S, Q, h => by
   simp only[wE] at h
   simp only[evE,zaa]
   refine (wE_W a h).mono fun x S1 h1=>?_
   cases x<;>first|exact h1|exact h1.elim
 | .nt a, δ, S, Q, h => by
   simp only[wE] at h
   simp only[evE,zaa]
   refine (wE_W a h).mono fun x S1 h1=>?_
   cases x<;>first|exact h1|exact h1.elim
 | .cmp op a b, δ, S, Q, h => by
   simp only[wE] at h
   simp only[evE,zaa,W_ok]
   exact (wE_W a h).mono fun x S1 h1=>(wE_W b h1).mono fun y S2 h2=>zeQ (Q:=fun k S=>Q (.bl k) S) h2
 | .cmp2 op op' a b c, δ, S, Q, h => by
   simp only[wE] at h
   simp only[evE,zaa]
   refine (wE_W a h).mono fun x S1 h1=>(wE_W b h1).mono fun y S2 h2=>?_
   obtain⟨k,e,hk⟩:=zej h2
   rw[e]
   unfold wIf at hk
   cases k with
   |false=>exact hk
   | true =>
     simp only[if_true,lift,W_ok,zaa] at hk⊢
     exact (wE_W c hk).mono fun z S4 h4=>zeQ (Q:=fun k S=>Q (.bl k) S) h4
 | .and a b, δ, S, Q, h => by
   simp only[wE] at h
   simp only[evE,zaa]
   refine (wE_W a h).mono fun x S1 h1=>?_
   cases x with
   | bl k =>
     unfold wIf at h1
     cases k with
     |false=>exact h1
     |true=>exact wE_W b h1
   |_=>exact h1.elim
 | .or a b, δ, S, Q, h => by
   simp only[wE] at h
   simp only[evE,zaa]
   refine (wE_W a h).mono fun x S1 h1=>?_
   cases x with
   | bl k =>
     unfold wIf at h1
     cases k with
     |true=>exact h1
     |false=>exact wE_W b h1
   |_=>exact h1.elim
 | .ite c a b, δ, S, Q, h => by
   simp only[wE] at h
   simp only[evE,zaa]
   refine (wT_W c h).mono fun k S1 h1=>?_
   unfold wIf at h1
   cases k with
   |true=>exact wE_W a h1
   |false=>exact wE_W b h1
 | .tup es, δ, S, Q, h => by
   simp only[wE] at h
   simp only[evE,zaa]
   refine (zdw es h).mono fun ds S1 h1=>?_
   unfold zaN at h1
   rw[if_pos h1.1];exact h1.2
 | .lst es, δ, S, Q, h => by
   simp only[wE] at h
   simp only[evE,zaa]
   exact (zdw es h).mono fun ds S1 h1=>zcP h1
 | .mkX c _ f a, δ, S, Q, h => by
   simp only[wE] at h
   simp only[evE,zaa]
   exact (wE_W a h).mono fun d S1 h1=>h1
 | .fldX a f, δ, S, Q, h => by
   simp only[wE] at h
   simp only[evE,zaa]
   refine (wE_W a h).mono fun x S1 h1=>?_
   unfold wOpt at h1
   cases e:zbP S1 x with
   |none=>rw[e] at h1;exact h1.elim
   | some p =>
     rw[e] at h1
     dsimp only at h1
     rw[Option.bind_some]
     cases e2:p.2.lookup f with
     |none=>rw[e2] at h1;exact h1.elim
     |some d=>rw[e2] at h1;exact h1
 | .iscX cs _ a, δ, S, Q, h => by
   simp only[wE] at h
   simp only[evE,zaa]
   refine (wE_W a h).mono fun x S1 h1=>?_
   unfold wOpt at h1
   cases e:zbP S1 x with
   |none=>rw[e] at h1;exact h1.elim
   |some p=>rw[e] at h1;exact h1
 | .ix a b, δ, S, Q, h => by
   simp only[wE] at h
   simp only[evE,zaa]
   refine (wE_W a h).mono fun x S1 h1=>(wE_W b h1).mono fun y S2 h2=>?_
   obtain⟨ds,e,h3⟩:=zf5 h2
   rw[e]
   cases y with
   | int i =>
     unfold wOpt at h3
     simp only at h3⊢
     cases e2:atI ds i with
     |none=>rw[e2] at h3;exact h3.elim
     |some d=>rw[e2] at h3;exact h3
   |_=>exact h3.elim
 | .insL o a b, δ, S, Q, h => by
   simp only[wE] at h
   simp only[evE,zaa]
   refine (wE_W o h).mono fun x S1 h1=>?_
   obtain⟨c,h2⟩:=zf7 h1
   rw[if_pos c,zaa]
   refine (wE_W a h2).mono fun y S2 h3=>?_
   rw[zaa]
   refine (wE_W b h3).mono fun z S3 h4=>?_
   unfold wOut at h4;exact h4
 | .rep a b, δ, S, Q, h => by
   simp only[wE] at h
   simp only[evE,zaa]
   refine (wE_W a h).mono fun x S1 h1=>(wE_W b h1).mono fun y S2 h2=>?_
   cases x with
   | ref p =>
     cases y with
     | int k =>
       dsimp only at h2⊢
       unfold zaN at h2
       rw[if_pos h2.1]
       have h3:=h2.2
       unfold wGet wOpt at h3
       cases e:S2.get p with
       |none=>rw[e] at h3;exact h3.elim
       |some o=>rw[e] at h3;cases o<;>first|exact zcP h3|exact h3.elim
     |_=>exact h2.elim
   |_=>exact h2.elim
 | .sl a ml mh lo hi, δ, S, Q, h => by
   simp only[wE] at h
   simp only[evE,zaa]
   refine (wE_W a h).mono fun x S1 h1=>(wE_W lo h1).mono fun y S2 h2=>(wE_W hi h2).mono fun z S3 h3=>?_
   cases ey:zbg ml y with
   |none=>rw[ey] at h3;exact h3.elim
   | some l =>
     cases ez:zbg mh z with
     |none=>rw[ey,ez] at h3;exact h3.elim
     | some u =>
       rw[ey,ez] at h3
       cases x with
       |tup ds=>exact h3
       |fix ds=>exact zcP h3
       | ref p =>
         unfold wGet wOpt at h3
         simp only at h3⊢
         cases e:S3.get p with
         |none=>rw[e] at h3;exact h3.elim
         |some o=>rw[e] at h3;cases o<;>first|exact zcP h3|exact h3.elim
       |_=>exact h3.elim
 | .call f j es, δ, S, Q, h => by
   simp only[wE] at h
   simp only[evE,zaa]
   refine (zdw es h).mono fun ds S1 h1=>?_
   unfold wOut at h1;exact h1
 | .bi b es, δ, S, Q, h => by
   simp only[wE] at h
   simp only[evE,zaa]
   exact (zdw es h).mono fun ds S1 h1=>znb h1
 | .mt m o es, δ, S, Q, h => by
   simp only[wE] at h
   simp only[evE,zaa]
   refine (wE_W o h).mono fun x S1 h1=>?_
   obtain⟨c,h2⟩:=zf7 h1
   rw[if_pos c,zaa]
   exact (zdw es h2).mono fun ds S2 h3=>zm8 h3
 | .mkL l, δ, S, Q, h => by
   simp only[wE] at h
   simp only[evE,zaa]
   exact (wL_W l h).mono fun ds S1 h1=>zcP h1
 | .mkT l, δ, S, Q, h => by
   simp only[wE] at h
   simp only[evE,zaa]
   refine (wL_W l h).mono fun r S1 h1=>?_
   unfold zaN at h1
   rw[if_pos h1.1];exact h1.2
 | .all l, δ, S, Q, h => by
   simp only[wE] at h
   simp only[evE,zaa]
   refine (wL_W l h).mono fun r S1 h1=>?_
   unfold wOpt at h1
   cases e:allD r.1 with
   |none=>rw[e] at h1;exact h1.elim
   |some d=>rw[e] at h1;exact h1
theorem zdw:∀(es:CEs) {δ:Ev} {S:St} {Q:List D->St->Prop},wEs cf es δ S Q->W (evEs cf es δ S) Q
 |.nil,δ,S,Q,h=>by simp only[wEs] at h;simp only[evEs];exact h
 | .cons e r, δ, S, Q, h => by
   simp only[wEs] at h
   simp only[evEs,zaa]
   exact (wE_W e h).mono fun d S1 h1=>(zdw r h1).mono fun ds S2 h2=>h2
theorem wT_W:∀(e:CE) {δ:Ev} {S:St} {Q:Bool->St->Prop},wT cf e δ S Q->W (evT cf e δ S) Q
 | .cmp op a b, δ, S, Q, h => by
   simp only[wT] at h
   simp only[evT,zaa]
   exact (wE_W a h).mono fun x S1 h1=>(wE_W b h1).mono fun y S2 h2=>zeQ h2
 | .cmp2 op op' a b c, δ, S, Q, h => by
   simp only[wT] at h
   simp only[evT,zaa]
   refine (wE_W a h).mono fun x S1 h1=>(wE_W b h1).mono fun y S2 h2=>?_
   obtain⟨k,e,hk⟩:=zej h2
   rw[e]
   unfold wIf at hk
   cases k with
   |false=>exact hk
   | true =>
     simp only[if_true,lift,W_ok,zaa] at hk⊢
     exact (wE_W c hk).mono fun z S4 h4=>zeQ h4
 | .nt a, δ, S, Q, h => by
   simp only[wT] at h
   simp only[evT,zaa]
   exact (wT_W a h).mono fun k S1 h1=>h1
 | .and a b, δ, S, Q, h => by
   simp only[wT] at h
   simp only[evT,zaa]
   refine (wT_W a h).mono fun k S1 h1=>?_
   unfold wIf at h1
   cases k with
   |false=>exact h1
   |true=>exact wT_W b h1
 | .or a b, δ, S, Q, h => by
   simp only[wT] at h
   simp only[evT,zaa]
   refine (wT_W a h).mono fun k S1 h1=>?_
   unfold wIf at h1
   cases k with
   |true=>exact h1
   |false=>exact wT_W b h1
 | .tst e, δ, S, Q, h => by
   simp only[wT] at h
   simp only[evT,zaa]
   exact (wE_W e h).mono fun x S1 h1=>zkU h1
 |.loc i,δ,S,Q,h=>by simp only[wT] at h
 |.con d,δ,S,Q,h=>by simp only[wT] at h
 |.bin op a b,δ,S,Q,h=>by simp only[wT] at h
 |.neg a,δ,S,Q,h=>by simp only[wT] at h
 |.ite c a b,δ,S,Q,h=>by simp only[wT] at h
 |.tup es,δ,S,Q,h=>by simp only[wT] at h
 |.lst es,δ,S,Q,h=>by simp only[wT] at h
 |.mkX c x f a,δ,S,Q,h=>by simp only[wT] at h
 |.fldX a f,δ,S,Q,h=>by simp only[wT] at h
 |.iscX cs x a,δ,S,Q,h=>by simp only[wT] at h
 |.ix a b,δ,S,Q,h=>by simp only[wT] at h
 |.insL o a b,δ,S,Q,h=>by simp only[wT] at h
 |.rep a b,δ,S,Q,h=>by simp only[wT] at h
 |.sl a ml mh lo hi,δ,S,Q,h=>by simp only[wT] at h
 |.call f j es,δ,S,Q,h=>by simp only[wT] at h
 |.bi b es,δ,S,Q,h=>by simp only[wT] at h
 |.mt m o es,δ,S,Q,h=>by simp only[wT] at h
 |.mkL l,δ,S,Q,h=>by simp only[wT] at h
 |.mkT l,δ,S,Q,h=>by simp only[wT] at h
 |.all l,δ,S,Q,h=>by simp only[wT] at h
theorem wL_W:∀(l:CL) {δ:Ev} {S:St} {Q:List D × List Nat->St->Prop},wL cf l δ S Q->W (evL cf l δ S) Q
 | .val e, δ, S, Q, h => by
   simp only[wL] at h
   simp only[evL,zaa]
   refine (wE_W e h).mono fun x S1 h1=>?_
   obtain⟨ds,e,h2⟩:=zf5 h1
   rw[e];exact h2
 | .rng1 a, δ, S, Q, h => by
   simp only[wL] at h
   simp only[evL,zaa]
   refine (wE_W a h).mono fun x S1 h1=>?_
   cases x with
   | int j =>
     unfold zaN at h1
     simp only
     rw[if_pos h1.1];exact h1.2
   |_=>exact h1.elim
 | .enum a, δ, S, Q, h => by
   simp only[wL] at h
   simp only[evL,zaa]
   refine (wE_W a h).mono fun x S1 h1=>?_
   unfold wOpt at h1
   cases e:zcB S1 x with
   |none=>rw[e] at h1;exact h1.elim
   |some r=>rw[e] at h1;exact h1
 | .comp n js g it c e, δ, S, Q, h => by
   simp only[wL] at h
   simp only[evL,zaa]
   refine (wL_W it h).mono fun r S1 h1=>(zf6 h1).mono fun ds S3 h3=>?_
   unfold zaN at h3
   rw[if_pos h3.1];exact h3.2
end
theorem wS_W:∀(s:CS) {δ:Ev} {S:St} {Q:Fl->St->Prop},wS cf s δ S Q->W (exS cf s δ S) Q
 |.nil,δ,S,Q,h=>by simp only[wS] at h;simp only[exS];exact h
 |.stop,δ,S,Q,h=>by simp only[wS] at h
 | .asg i e r, δ, S, Q, h => by
   simp only[wS] at h
   simp only[exS,zaa]
   exact (wE_W e h).mono fun x S1 h1=>wS_W r h1
 | .asgT g e r, δ, S, Q, h => by
   simp only[wS] at h
   simp only[exS,zaa]
   refine (wE_W e h).mono fun x S1 h1=>?_
   unfold wOpt at h1
   cases e:asgG g x δ with
   |none=>rw[e] at h1;exact h1.elim
   |some d=>rw[e] at h1;exact wS_W r h1
 | .setIx a b e r, δ, S, Q, h => by
   simp only[wS] at h
   simp only[exS,zaa]
   refine (wE_W e h).mono fun v S1 h1=>(wE_W a h1).mono fun x S2 h2=>(wE_W b h2).mono fun y S3 h3=>?_
   unfold wOpt at h3
   cases e:dPut S3 x y v with
   |none=>rw[e] at h3;exact h3.elim
   |some S4=>rw[e] at h3;exact wS_W r h3
 | .ifS c t u r, δ, S, Q, h => by
   simp only[wS] at h
   simp only[exS,zaa]
   refine (wT_W c h).mono fun k S1 h1=>?_
   unfold wIf at h1
   have nx:∀(f:Fl) (S2:St),(match f with|.nx δ'=>wS cf r δ' S2 Q|.rt d=>Q (.rt d) S2|.ex d=>Q (.ex d) S2)->W (match f with|.nx δ'=>exS cf r δ' S2|.rt d=>.ok (.rt d) S2|.ex d=>.ok (.ex d) S2) Q:=fun f S2 q=>by
    cases f with
    |nx δ'=>exact wS_W r q
    |rt d=>exact q
    |ex d=>exact q
   cases k with
   |true=>exact (wS_W t h1).mono nx
   |false=>exact (wS_W u h1).mono nx
 | .forS g l b r, δ, S, Q, h => by
   simp only[wS] at h
   simp only[exS,zaa]
   refine (wL_W l h).mono fun q S1 h1=>(zf6 h1).mono fun f S2 q=>?_
   cases f with
   |nx δ'=>exact wS_W r q
   |rt d=>exact q
   |ex d=>exact q
 | .ret e r, δ, S, Q, h => by
   simp only[wS] at h
   simp only[exS,zaa]
   exact (wE_W e h).mono fun x S1 h1=>h1
 | .expr e r, δ, S, Q, h => by
   simp only[wS] at h
   simp only[exS,zaa]
   exact (wE_W e h).mono fun x S1 h1=>wS_W r h1
 | .rais c x f a, δ, S, Q, h => by
   simp only[wS] at h
   simp only[exS,zaa]
   exact (wE_W a h).mono fun d S1 h1=>h1
 | .tryS b x ie ix r, δ, S, Q, h => by
   simp only[wS] at h
   unfold wOut at h;exact h
@[irreducible] noncomputable def wFin (S:St)(r:Fl)(T:St)(Q:D->St->Prop):Prop:=W (fin S r T) Q
theorem zn4 {P:List Fn}{F:Fn}{f n:Nat}{ds:List D}{S:St}{Q:D->St->Prop}(h:P[f]?=some F)(hl:ds.length=F.np)(w:wS (callF P n) F.body (zaB F ds) S.enter fun r T=>wFin S r T Q)(hp:F.prim=none:=by rfl) :
  W (app (callF P (n+1)) f ds S) Q:=by
 rw[zjc h hl hp,zaa,W_ne]
 refine (wS_W _ w).mono fun r T q=>?_
 unfold wFin at q;exact q
theorem zc4 {P:List Fn}{F:Fn}{f n:Nat}{ds:List D}{S S':St}{d:D}(h:P[f]?=some F)(hl:ds.length=F.np)(w:wS (callF P n) F.body (zaB F ds) S.enter fun r T=>wFin S r T fun a T'=>a=d/\T'=S')(hp:F.prim=none:=by rfl) :
 app (callF P (n+1)) f ds S=.ok d S':=W.eq (zn4 h hl w hp)
theorem zmJ {P:List Fn}{F:Fn}{f n:Nat}{ds:List D}{S:St}{Q:D->St->Prop}(h:P[f]?=some F)(hl:ds.length=F.np)(w:wS (callF P n) F.body (zaB F ds) S fun r T=>match r with|.nx _=>Q .non T|.rt d=>Q d T|.ex _=>False)(hp:F.prim=none:=by rfl) :
  W (callF P (n+1) f ds S) Q:=by
 simp only[callF,h,hl,hp,if_true,zaa,W_ne]
 refine (wS_W _ w).mono fun r T q=>?_
 cases r<;>exact q
theorem zaj {S T:St}{d:D}{Q:D->St->Prop}(h:flat S.len d=true)(q:Q d S):wFin S (.rt d) T Q:=by
 unfold wFin;rw[zfh,zfQ S d T h];exact q
theorem zcg {S T:St}{l:Nat}{ds:List D}{Q:D->St->Prop}(hl:S.len<=l)(hg:T.get l=some (.lst ds))(h:flats S.len ds=true)(q:Q (.ref S.len) (S.push (.lst ds))):wFin S (.rt (.ref l)) T Q:=by
 have h0:flat S.len (.ref l)=false:=by simp[flat];omega
 unfold wFin
 rw[zfh]
 unfold zaU
 simp only[h0,hg,h,if_true,Bool.false_eq_true,if_false]
 exact q
end
end R
end
section
namespace R
open PySem (Str PyData Operator CmpOp)
structure Frm (S S':St):Prop where
 frz:S'.frz=S.frz
 lk:S'.lk=S.lk
 len:S.new.length<=S'.new.length
 same:∀l∈S.lk,l<S.len->S'.get l=S.get l
theorem Frm.refl (S:St):Frm S S:=⟨rfl,rfl,Nat.le_refl _,fun _ _ _=>rfl⟩
theorem Frm.lens {S S':St}(h:Frm S S'):S.len<=S'.len:=by unfold St.len;rw[h.frz];have:=h.len;omega
theorem Frm.trans {S S1 S2:St}(a:Frm S S1)(b:Frm S1 S2):Frm S S2:=
 ⟨b.frz.trans a.frz,b.lk.trans a.lk,Nat.le_trans a.len b.len,fun l hl h=>(b.same l (by rw[a.lk];exact hl) (Nat.lt_of_lt_of_le h a.lens)).trans (a.same l hl h)⟩
theorem Frm.push (S:St)(o:MO):Frm S (S.push o):=by
 refine⟨rfl,rfl,by simp[St.push],fun l _ h=>?_⟩
 unfold St.len at h
 unfold St.get St.push
 simp only
 split
 · rfl
 · rw[List.getElem?_append_left (by omega)]
theorem Frm.put {S S':St}{l:Nat}{o:MO}(h:S.put l o=some S'):Frm S S':=by
 unfold St.put at h
 split at h
 · cases h
 · split at h
   · cases h
   · rename_i h1 h2
     injection h with h
     subst h
     refine⟨rfl,rfl,by simp,fun m hm hl=>?_⟩
     have hne:m≠l:=fun e=>by subst e;exact h2 (by simpa using hm)
     unfold St.get
     simp only
     split
     · rfl
     · rw[List.getElem?_set_ne (by omega)]
noncomputable abbrev WF {α:Type}(S:St)(o:Out α)(Q:α->St->Prop):Prop:=W o fun a S'=>Q a S'/\Frm S S'
theorem WF.bind {α β:Type}{S:St}{o:Out α}{f:α->St->Out β}{Q:β->St->Prop}(h:WF S o fun a S1=>W (f a S1) Q)(hf:∀a S1,W (f a S1) Q->WF S1 (f a S1) Q):WF S (o.bind f) Q:=by
 rw[WF,zaa]
 exact h.mono fun a S1 ⟨q,f1⟩=>(hf a S1 q).mono fun b S2 ⟨q2,f2⟩=>⟨q2,f1.trans f2⟩
theorem zfR {S:St}{ds:List D}{Q:D->St->Prop}(h:W (lay S ds) Q):WF S (lay S ds) Q:=by
 unfold lay at h⊢
 split
 · rename_i c;rw[if_pos c] at h;exact⟨h,Frm.push _ _⟩
 · rename_i c;rw[if_neg c] at h;exact h.elim
theorem wr_F {S:St}{l:Nat}{ds:List D}{d:D}{Q:D->St->Prop}(h:W (wr S l ds d) Q):WF S (wr S l ds d) Q:=by
 unfold wr at h⊢
 split
 · rename_i c
   rw[if_pos c] at h
   cases e:S.put l (.lst ds) with
   |none=>rw[e] at h;exact h.elim
   |some S'=>rw[e] at h;exact⟨h,Frm.put e⟩
 · rename_i c;rw[if_neg c] at h;exact h.elim
theorem zaT {α:Type}{S:St}{o:Option α}{Q:α->St->Prop}(h:W (lift S o) Q):WF S (lift S o) Q:=by
 cases o with
 |none=>exact h.elim
 |some a=>exact⟨h,Frm.refl S⟩
theorem zmL {S:St}{op:Operator}{x y:D}{Q:D->St->Prop}(h:W (binD S op x y) Q):WF S (binD S op x y) Q:=by
 unfold binD at h⊢
 split
 · unfold binI at h⊢
   dsimp only at h
   cases op<;>dsimp only at h⊢<;> first
    |exact⟨h,Frm.refl S⟩
    |exact h.elim
    | (split at h
       · rename_i c;rw[if_pos c];exact⟨h,Frm.refl S⟩
       · exact h.elim)
 · dsimp only at h
   cases op<;>dsimp only at h⊢<;> first
    |exact False.elim h
    | (split at h
       · rename_i c;rw[if_pos c];exact⟨h,Frm.refl S⟩
       · exact False.elim h)
 · dsimp only at h
   split at h
   · exact zfR h
   · exact False.elim h
 · rename_i h1 h2 h3
   split at h
   · exact (h1 _ _ rfl rfl).elim
   · exact (h2 _ _ rfl rfl).elim
   · exact (h3 _ _ rfl rfl).elim
   · exact False.elim h
theorem bi_F {S:St}{b:Bi}{ds:List D}{Q:D->St->Prop}(h:W (bi S b ds) Q):WF S (bi S b ds) Q:=by
 unfold bi at h⊢
 split
 · rename_i x
   dsimp only at h
   cases x with
   |tup ds=>exact⟨h,Frm.refl S⟩
   |fix ds=>exact⟨h,Frm.refl S⟩
   | ref l =>
     dsimp only at h⊢
     cases e:S.get l with
     |none=>rw[e] at h;exact False.elim h
     |some o=>rw[e] at h;cases o<;>first|exact⟨h,Frm.refl S⟩|exact False.elim h
   |_=>exact False.elim h
 · exact⟨h,Frm.refl S⟩
 · exact⟨h,Frm.refl S⟩
 · exact⟨h,Frm.refl S⟩
 · dsimp only at h
   split at h
   · exact⟨h,Frm.refl S⟩
   · exact False.elim h
 · exact False.elim (by simpa using h)
theorem mt_F {S:St}{m:Mt}{x:D}{ds:List D}{Q:D->St->Prop}(h:W (mt S m x ds) Q):WF S (mt S m x ds) Q:=by
 unfold mt at h⊢
 split
 · dsimp only at h
   split at h
   · exact wr_F h
   · exact False.elim h
 · dsimp only at h
   split at h
   · split at h
     · rename_i c
       rw[if_pos c]
       split at h
       · exact wr_F h
       · exact False.elim h
     · exact False.elim h
   · exact False.elim h
 · dsimp only at h
   split at h
   · split at h
     · exact⟨h,Frm.refl _⟩
     · exact False.elim h
   · exact False.elim h
 · exact False.elim (by simpa using h)
theorem zkk {S:St}{x y z:D}{Q:D->St->Prop}(h:W (zcM S x y z) Q):WF S (zcM S x y z) Q:=by
 unfold zcM at h⊢
 split
 · dsimp only at h
   split at h
   · split at h
     · rename_i c;rw[if_pos c];exact wr_F h
     · exact False.elim h
   · exact False.elim h
 · exact False.elim (by simpa using h)
theorem Frm.keep (S T:St):Frm S ⟨S.frz,S.new++T.new,S.lk⟩:=by
 refine⟨rfl,rfl,by simp,fun l _ h=>?_⟩
 unfold St.len at h
 unfold St.get
 simp only
 split
 · rfl
 · rw[List.getElem?_append_left (by omega)]
theorem zmH {S S':St}{x y v:D}(h:dPut S x y v=some S'):Frm S S':=by
 unfold dPut at h
 split at h
 · split at h
   · cases e:zdq y with
     |none=>rw[e] at h;cases h
     | some k =>
       rw[e] at h
       dsimp only[Option.bind_some] at h
       split at h
       · exact Frm.put h
       · cases h
   · cases e:zcd y with
     |none=>rw[e] at h;cases h
     | some k =>
       rw[e] at h
       dsimp only[Option.bind_some] at h
       split at h
       · exact Frm.put h
       · cases h
   · cases e:key3 y with
     |none=>rw[e] at h;cases h
     | some k =>
       rw[e] at h
       dsimp only[Option.bind_some] at h
       split at h
       · exact Frm.put h
       · cases h
   · cases e:zcd y with
     |none=>rw[e] at h;cases h
     | some k =>
       rw[e,Option.bind_some] at h
       rename_i ds _
       cases e2:ixN ds.length k with
       |none=>rw[e2] at h;cases h
       |some j=>rw[e2,Option.bind_some] at h;exact Frm.put h
   · cases h
 · cases h
theorem zgI {S T:St}{d:D}{Q:D->St->Prop}(h:W (zaU S d T) Q):WF S (zaU S d T) Q:=by
 unfold zaU at h⊢
 split
 · rename_i c;rw[if_pos c] at h;exact⟨h,Frm.refl S⟩
 · rename_i c
   rw[if_neg c] at h
   dsimp only at h⊢
   split at h
   · split at h
     · split at h
       · rename_i c;rw[if_pos c];exact⟨h,Frm.push _ _⟩
       · rename_i c;rw[if_neg c];exact⟨h,Frm.keep _ _⟩
     · split at h
       · rename_i c;rw[if_pos c];exact⟨h,Frm.push _ _⟩
       · rename_i c;rw[if_neg c];exact⟨h,Frm.keep _ _⟩
     · split at h
       · rename_i c;rw[if_pos c];exact⟨h,Frm.push _ _⟩
       · rename_i c;rw[if_neg c];exact⟨h,Frm.keep _ _⟩
     · exact⟨h,Frm.keep _ _⟩
   · exact⟨h,Frm.keep _ _⟩
theorem zn5 {cf:CF}{f:Nat}{ds:List D}{S:St}{Q:D->St->Prop}(h:W (app cf f ds S) Q):WF S (app cf f ds S) Q:=by
 unfold app at h⊢
 cases e:cf f ds S.enter with
 |ok d T=>rw[e] at h;exact zgI h
 |err d T=>rw[e] at h;exact h.elim
 |bad=>rw[e] at h;exact h.elim
theorem Frm.unlock {S T:St}{ls:List Nat}(h:Frm {S with lk:=ls++S.lk} T):Frm S {T with lk:=S.lk}:=
 ⟨h.frz,rfl,h.len,fun l hl hn=>h.same l (List.mem_append_right _ hl) hn⟩
theorem ze9 {α:Type}{ls:List Nat}{S:St}{f:St->Out α}{Q:α->St->Prop}(h:W (zaZ ls S f) Q)(hf:∀Q',W (f {S with lk:=ls++S.lk}) Q'->WF {S with lk:=ls++S.lk} (f {S with lk:=ls++S.lk}) Q'):WF S (zaZ ls S f) Q:=by
 unfold zaZ at h⊢
 rw[zaa] at h
 rw[WF,zaa]
 exact (hf _ h).mono fun a T ⟨q,fr⟩=>⟨q,fr.unlock⟩
theorem zc7 {g:List Nat}{c:Ev->St->Out Bool}{e:Ev->St->Out D}(hc:∀δ S Q,W (c δ S) Q->WF S (c δ S) Q)(he:∀δ S Q,W (e δ S) Q->WF S (e δ S) Q) :
  ∀(xs:List D) (δ:Ev) (S:St) (Q:List D->St->Prop),W (zaX g c e xs δ S) Q->WF S (zaX g c e xs δ S) Q
 | [],δ,S,Q,h=>⟨h,Frm.refl S⟩
 | x :: xs, δ, S, Q, h => by
   simp only[zaX] at h⊢
   cases ea:asgG g x δ with
   |none=>rw[ea] at h;exact h.elim
   | some δ' =>
     rw[ea] at h
     dsimp only at h⊢
     rw[zaa] at h
     refine WF.bind (hc _ _ _ h) fun b S1 h1=>?_
     cases b with
     | false =>
       simp only[Bool.false_eq_true,if_false] at h1⊢
       exact zc7 hc he xs δ' S1 Q h1
     | true =>
       simp only[if_true] at h1⊢
       rw[zaa] at h1
       refine WF.bind (he _ _ _ h1) fun d S2 h2=>?_
       rw[zaa] at h2
       exact WF.bind (zc7 hc he xs δ' S2 _ h2) fun ds S3 h3=>⟨h3,Frm.refl _⟩
theorem zeS {g:List Nat}{b:Ev->St->Out Fl}(hb:∀δ S Q,W (b δ S) Q->WF S (b δ S) Q) :
  ∀(xs:List D) (δ:Ev) (S:St) (Q:Fl->St->Prop),W (zaW g b xs δ S) Q->WF S (zaW g b xs δ S) Q
 | [],δ,S,Q,h=>⟨h,Frm.refl S⟩
 | x :: xs, δ, S, Q, h => by
   simp only[zaW] at h⊢
   cases ea:asgG g x δ with
   |none=>rw[ea] at h;exact h.elim
   | some δ' =>
     rw[ea] at h
     dsimp only at h⊢
     rw[zaa] at h
     refine WF.bind (hb _ _ _ h) fun f S1 h1=>?_
     cases f with
     |nx δ2=>exact zeS hb xs δ2 S1 Q h1
     |rt d=>exact⟨h1,Frm.refl _⟩
     |ex d=>exact⟨h1,Frm.refl _⟩
noncomputable def CFok (cf:CF):Prop:=∀f ds S d T,(cf f ds S=.ok d T\/cf f ds S=.err d T)->Frm S T
section
variable {cf:CF} (hcf:CFok cf)
include hcf
mutual
theorem zar:∀(e:CE) (δ:Ev) (S:St) (Q:D->St->Prop),W (evE cf e δ S) Q->WF S (evE cf e δ S) Q
 |.loc i,δ,S,Q,h=>by simp only[evE] at h⊢;exact zaT h
 |.con d,δ,S,Q,h=>by simp only[evE] at h⊢;exact⟨h,Frm.refl S⟩
 |.tst _,δ,S,Q,h=>by simp only[evE] at h;exact h.elim
 | .bin op a b, δ, S, Q, h => by
   simp only[evE] at h⊢
   rw[zaa] at h
   refine WF.bind (zar a δ S _ h) fun x S1 h1=>?_
   rw[zaa] at h1
   exact WF.bind (zar b δ S1 _ h1) fun y S2 h2=>zmL h2
 | .neg a, δ, S, Q, h => by
   simp only[evE] at h⊢
   rw[zaa] at h
   refine WF.bind (zar a δ S _ h) fun x S1 h1=>?_
   cases x<;>first|exact⟨h1,Frm.refl _⟩|exact h1.elim
 | .nt a, δ, S, Q, h => by
   simp only[evE] at h⊢
   rw[zaa] at h
   refine WF.bind (zar a δ S _ h) fun x S1 h1=>?_
   cases x<;>first|exact⟨h1,Frm.refl _⟩|exact h1.elim
 | .cmp op a b, δ, S, Q, h => by
   simp only[evE] at h⊢
   rw[zaa] at h
   refine WF.bind (zar a δ S _ h) fun x S1 h1=>?_
   rw[zaa] at h1
   refine WF.bind (zar b δ S1 _ h1) fun y S2 h2=>?_
   rw[zaa] at h2
   exact WF.bind (zaT h2) fun k S3 h3=>⟨h3,Frm.refl _⟩
 | .cmp2 op op' a b c, δ, S, Q, h => by
   simp only[evE] at h⊢
   rw[zaa] at h
   refine WF.bind (zar a δ S _ h) fun x S1 h1=>?_
   rw[zaa] at h1
   refine WF.bind (zar b δ S1 _ h1) fun y S2 h2=>?_
   rw[zaa] at h2
   refine WF.bind (zaT h2) fun k S3 h3=>?_
   cases k with
   |false=>exact⟨h3,Frm.refl _⟩
   | true =>
     simp only[if_true] at h3⊢
     rw[zaa] at h3
     refine WF.bind (zar c δ S3 _ h3) fun z S4 h4=>?_
     rw[zaa] at h4
     exact WF.bind (zaT h4) fun k S3 h3=>⟨h3,Frm.refl _⟩
 | .and a b, δ, S, Q, h => by
   simp only[evE] at h⊢
   rw[zaa] at h
   refine WF.bind (zar a δ S _ h) fun x S1 h1=>?_
   cases x with
   | bl k =>
     cases k with
     |false=>exact⟨h1,Frm.refl _⟩
     |true=>exact zar b δ S1 Q h1
   |_=>exact h1.elim
 | .or a b, δ, S, Q, h => by
   simp only[evE] at h⊢
   rw[zaa] at h
   refine WF.bind (zar a δ S _ h) fun x S1 h1=>?_
   cases x with
   | bl k =>
     cases k with
     |true=>exact⟨h1,Frm.refl _⟩
     |false=>exact zar b δ S1 Q h1
   |_=>exact h1.elim
 | .ite c a b, δ, S, Q, h => by
   simp only[evE] at h⊢
   rw[zaa] at h
   refine WF.bind (zcN c δ S _ h) fun k S1 h1=>?_
   cases k with
   |true=>exact zar a δ S1 Q h1
   |false=>exact zar b δ S1 Q h1
 | .tup es, δ, S, Q, h => by
   simp only[evE] at h⊢
   rw[zaa] at h
   refine WF.bind (zb7 es δ S _ h) fun ds S1 h1=>?_
   split at h1
   · rename_i c;rw[if_pos c];exact⟨h1,Frm.refl _⟩
   · exact h1.elim
 | .lst es, δ, S, Q, h => by
   simp only[evE] at h⊢
   rw[zaa] at h
   exact WF.bind (zb7 es δ S _ h) fun ds S1 h1=>zfR h1
 | .mkX c _ f a, δ, S, Q, h => by
   simp only[evE] at h⊢
   rw[zaa] at h
   exact WF.bind (zar a δ S _ h) fun d S1 h1=>⟨h1,Frm.push _ _⟩
 | .fldX a f, δ, S, Q, h => by
   simp only[evE] at h⊢
   rw[zaa] at h
   exact WF.bind (zar a δ S _ h) fun x S1 h1=>zaT h1
 | .iscX cs _ a, δ, S, Q, h => by
   simp only[evE] at h⊢
   rw[zaa] at h
   refine WF.bind (zar a δ S _ h) fun x S1 h1=>?_
   rw[zaa] at h1
   exact WF.bind (zaT h1) fun p S2 h2=>⟨h2,Frm.refl _⟩
 | .ix a b, δ, S, Q, h => by
   simp only[evE] at h⊢
   rw[zaa] at h
   refine WF.bind (zar a δ S _ h) fun x S1 h1=>?_
   rw[zaa] at h1
   refine WF.bind (zar b δ S1 _ h1) fun y S2 h2=>?_
   split at h2
   · exact zaT h2
   · exact h2.elim
 | .insL o a b, δ, S, Q, h => by
   simp only[evE] at h⊢
   rw[zaa] at h
   refine WF.bind (zar o δ S _ h) fun x S1 h1=>?_
   split at h1
   · rename_i c
     rw[if_pos c]
     rw[zaa] at h1
     refine WF.bind (zar a δ S1 _ h1) fun y S2 h2=>?_
     rw[zaa] at h2
     exact WF.bind (zar b δ S2 _ h2) fun z S3 h3=>zkk h3
   · exact h1.elim
 | .rep a b, δ, S, Q, h => by
   simp only[evE] at h⊢
   rw[zaa] at h
   refine WF.bind (zar a δ S _ h) fun x S1 h1=>?_
   rw[zaa] at h1
   refine WF.bind (zar b δ S1 _ h1) fun y S2 h2=>?_
   cases x with
   | ref p =>
     cases y with
     | int k =>
       dsimp only at h2⊢
       split at h2
       · rename_i c
         rw[if_pos c]
         cases e:S2.get p with
         |none=>rw[e] at h2;exact h2.elim
         | some o =>
           rw[e] at h2
           cases o<;>first|exact zfR h2|exact h2.elim
       · exact h2.elim
     |_=>exact h2.elim
   |_=>exact h2.elim
 | .sl a ml mh lo hi, δ, S, Q, h => by
   simp only[evE] at h⊢
   rw[zaa] at h
   refine WF.bind (zar a δ S _ h) fun x S1 h1=>?_
   rw[zaa] at h1
   refine WF.bind (zar lo δ S1 _ h1) fun y S2 h2=>?_
   rw[zaa] at h2
   refine WF.bind (zar hi δ S2 _ h2) fun z S3 h3=>?_
   split at h3
   · split at h3
     · exact⟨h3,Frm.refl _⟩
     · exact zfR h3
     · split at h3
       · exact zfR h3
       · exact h3.elim
     · exact h3.elim
   · exact h3.elim
 | .call f j es, δ, S, Q, h => by
   simp only[evE] at h⊢
   rw[zaa] at h
   exact WF.bind (zb7 es δ S _ h) fun ds S1 h1=>zn5 h1
 | .bi b es, δ, S, Q, h => by
   simp only[evE] at h⊢
   rw[zaa] at h
   exact WF.bind (zb7 es δ S _ h) fun ds S1 h1=>bi_F h1
 | .mt m o es, δ, S, Q, h => by
   simp only[evE] at h⊢
   rw[zaa] at h
   refine WF.bind (zar o δ S _ h) fun x S1 h1=>?_
   split at h1
   · rename_i c
     rw[if_pos c]
     rw[zaa] at h1
     exact WF.bind (zb7 es δ S1 _ h1) fun ds S2 h2=>mt_F h2
   · exact h1.elim
 | .mkL l, δ, S, Q, h => by
   simp only[evE] at h⊢
   rw[zaa] at h
   exact WF.bind (zhb l δ S _ h) fun r S1 h1=>zfR h1
 | .mkT l, δ, S, Q, h => by
   simp only[evE] at h⊢
   rw[zaa] at h
   refine WF.bind (zhb l δ S _ h) fun r S1 h1=>?_
   split at h1
   · rename_i c;rw[if_pos c];exact⟨h1,Frm.refl _⟩
   · exact h1.elim
 | .all l, δ, S, Q, h => by
   simp only[evE] at h⊢
   rw[zaa] at h
   refine WF.bind (zhb l δ S _ h) fun r S1 h1=>?_
   rw[zaa] at h1
   exact WF.bind (zaT h1) fun k S3 h3=>⟨h3,Frm.refl _⟩
theorem zb7:∀(es:CEs) (δ:Ev) (S:St) (Q:List D->St->Prop),W (evEs cf es δ S) Q->WF S (evEs cf es δ S) Q
 |.nil,δ,S,Q,h=>by simp only[evEs] at h⊢;exact⟨h,Frm.refl S⟩
 | .cons e r, δ, S, Q, h => by
   simp only[evEs] at h⊢
   rw[zaa] at h
   refine WF.bind (zar e δ S _ h) fun x S1 h1=>?_
   rw[zaa] at h1
   exact WF.bind (zb7 r δ S1 _ h1) fun k S3 h3=>⟨h3,Frm.refl _⟩
theorem zcN:∀(e:CE) (δ:Ev) (S:St) (Q:Bool->St->Prop),W (evT cf e δ S) Q->WF S (evT cf e δ S) Q
 | .cmp op a b, δ, S, Q, h => by
   simp only[evT] at h⊢
   rw[zaa] at h
   refine WF.bind (zar a δ S _ h) fun x S1 h1=>?_
   rw[zaa] at h1
   exact WF.bind (zar b δ S1 _ h1) fun y S2 h2=>zaT h2
 | .cmp2 op op' a b c, δ, S, Q, h => by
   simp only[evT] at h⊢
   rw[zaa] at h
   refine WF.bind (zar a δ S _ h) fun x S1 h1=>?_
   rw[zaa] at h1
   refine WF.bind (zar b δ S1 _ h1) fun y S2 h2=>?_
   rw[zaa] at h2
   refine WF.bind (zaT h2) fun k S3 h3=>?_
   cases k with
   |false=>exact⟨h3,Frm.refl _⟩
   | true =>
     simp only[if_true] at h3⊢
     rw[zaa] at h3
     exact WF.bind (zar c δ S3 _ h3) fun z S4 h4=>zaT h4
 | .nt a, δ, S, Q, h => by
   simp only[evT] at h⊢
   rw[zaa] at h
   exact WF.bind (zcN a δ S _ h) fun k S3 h3=>⟨h3,Frm.refl _⟩
 | .and a b, δ, S, Q, h => by
   simp only[evT] at h⊢
   rw[zaa] at h
   refine WF.bind (zcN a δ S _ h) fun k S1 h1=>?_
   cases k with
   |false=>exact⟨h1,Frm.refl _⟩
   |true=>exact zcN b δ S1 Q h1
 | .or a b, δ, S, Q, h => by
   simp only[evT] at h⊢
   rw[zaa] at h
   refine WF.bind (zcN a δ S _ h) fun k S1 h1=>?_
   cases k with
   |true=>exact⟨h1,Frm.refl _⟩
   |false=>exact zcN b δ S1 Q h1
 | .tst e, δ, S, Q, h => by
   simp only[evT] at h⊢
   rw[zaa] at h
   exact WF.bind (zar e δ S _ h) fun k S3 h3=>zaT h3
 |.loc i,δ,S,Q,h=>by simp only[evT] at h;exact h.elim
 |.con d,δ,S,Q,h=>by simp only[evT] at h;exact h.elim
 |.bin op a b,δ,S,Q,h=>by simp only[evT] at h;exact h.elim
 |.neg a,δ,S,Q,h=>by simp only[evT] at h;exact h.elim
 |.ite c a b,δ,S,Q,h=>by simp only[evT] at h;exact h.elim
 |.tup es,δ,S,Q,h=>by simp only[evT] at h;exact h.elim
 |.lst es,δ,S,Q,h=>by simp only[evT] at h;exact h.elim
 |.mkX c x f a,δ,S,Q,h=>by simp only[evT] at h;exact h.elim
 |.fldX a f,δ,S,Q,h=>by simp only[evT] at h;exact h.elim
 |.iscX cs x a,δ,S,Q,h=>by simp only[evT] at h;exact h.elim
 |.ix a b,δ,S,Q,h=>by simp only[evT] at h;exact h.elim
 |.insL o a b,δ,S,Q,h=>by simp only[evT] at h;exact h.elim
 |.rep a b,δ,S,Q,h=>by simp only[evT] at h;exact h.elim
 |.sl a ml mh lo hi,δ,S,Q,h=>by simp only[evT] at h;exact h.elim
 |.call f j es,δ,S,Q,h=>by simp only[evT] at h;exact h.elim
 |.bi b es,δ,S,Q,h=>by simp only[evT] at h;exact h.elim
 |.mt m o es,δ,S,Q,h=>by simp only[evT] at h;exact h.elim
 |.mkL l,δ,S,Q,h=>by simp only[evT] at h;exact h.elim
 |.mkT l,δ,S,Q,h=>by simp only[evT] at h;exact h.elim
 |.all l,δ,S,Q,h=>by simp only[evT] at h;exact h.elim
theorem zhb:∀(l:CL) (δ:Ev) (S:St) (Q:List D × List Nat->St->Prop),W (evL cf l δ S) Q->WF S (evL cf l δ S) Q
 | .val e, δ, S, Q, h => by
   simp only[evL] at h⊢
   rw[zaa] at h
   refine WF.bind (zar e δ S _ h) fun x S1 h1=>?_
   rw[zaa] at h1
   exact WF.bind (zaT h1) fun k S3 h3=>⟨h3,Frm.refl _⟩
 | .rng1 a, δ, S, Q, h => by
   simp only[evL] at h⊢
   rw[zaa] at h
   refine WF.bind (zar a δ S _ h) fun x S1 h1=>?_
   cases x with
   | int j =>
     dsimp only at h1⊢
     split at h1
     · rename_i c;rw[if_pos c];exact⟨h1,Frm.refl _⟩
     · exact h1.elim
   |_=>exact h1.elim
 | .enum a, δ, S, Q, h => by
   simp only[evL] at h⊢
   rw[zaa] at h
   exact WF.bind (zar a δ S _ h) fun x S1 h1=>zaT h1
 | .comp n js g it c e, δ, S, Q, h => by
   simp only[evL] at h⊢
   rw[zaa] at h
   refine WF.bind (zhb it δ S _ h) fun r S1 h1=>?_
   rw[zaa] at h1
   exact WF.bind (ze9 h1 fun Q' h2=>zc7 (fun δ S Q=>zcN c δ S Q) (fun δ S Q=>zar e δ S Q) _ _ _ _ h2) fun k S3 h3=>by
    split at h3
    · rename_i c;rw[if_pos c];exact⟨h3,Frm.refl _⟩
    · exact h3.elim
end
theorem zft {f:Nat}{ds:List D}{S:St}:(∀d T,appX cf f ds S=.ok d T->Frm S T)/\∀d T,appX cf f ds S=.err d T->Frm S T:=by
 unfold appX
 cases e:cf f ds S.enter with
 | ok d T =>
   refine⟨fun d' T' h=>?_,fun d' T' h=>?_⟩
   · have w:W (zaU S d T) fun a S'=>a=d'/\S'=T':=by rw[show zaU S d T=_ from h];exact⟨rfl,rfl⟩
     have:=zgI w
     rw[show zaU S d T=_ from h] at this
     exact this.2
   · exfalso
     have h:zaU S d T=.err d' T':=h
     unfold zaU at h
     split at h
     · cases h
     · dsimp only at h
       split at h
       · split at h
         all_goals first|(split at h<;>cases h)|cases h
       · cases h
 |err d T=>exact⟨(fun d' T' h=>nomatch h),fun d' T' h=>by cases h;exact Frm.keep _ _⟩
 |bad=>exact⟨(fun d' T' h=>nomatch h),(fun d' T' h=>nomatch h)⟩
theorem zfV:∀(b:TrB) (δ:Ev) (S:St),(∀δ' T,exT cf b δ S=.ok δ' T->Frm S T)/\∀d T,exT cf b δ S=.err d T->Frm S T
 | .run f es, δ, S => by
   simp only[exT]
   cases e:evEs cf es δ S with
   | ok ds S1 =>
     have f1:=(zb7 hcf es δ S (fun _ _=>True) (by rw[e];trivial))
     rw[e] at f1
     dsimp only
     cases e2:appX cf f ds S1 with
     |ok d S2=>exact⟨fun δ' T h=>by cases h;exact f1.2.trans ((zft hcf).1 _ _ e2),(fun d T h=>nomatch h)⟩
     |err d S2=>exact⟨(fun δ' T h=>nomatch h),fun d T h=>by cases h;exact f1.2.trans ((zft hcf).2 _ _ e2)⟩
     |bad=>exact⟨(fun δ' T h=>nomatch h),(fun d T h=>nomatch h)⟩
   |err d T=>exact⟨(fun δ' T h=>nomatch h),(fun d T h=>nomatch h)⟩
   |bad=>exact⟨(fun δ' T h=>nomatch h),(fun d T h=>nomatch h)⟩
 | .asg i f es, δ, S => by
   simp only[exT]
   cases e:evEs cf es δ S with
   | ok ds S1 =>
     have f1:=(zb7 hcf es δ S (fun _ _=>True) (by rw[e];trivial))
     rw[e] at f1
     dsimp only
     cases e2:appX cf f ds S1 with
     |ok d S2=>exact⟨fun δ' T h=>by cases h;exact f1.2.trans ((zft hcf).1 _ _ e2),(fun d T h=>nomatch h)⟩
     |err d S2=>exact⟨(fun δ' T h=>nomatch h),fun d T h=>by cases h;exact f1.2.trans ((zft hcf).2 _ _ e2)⟩
     |bad=>exact⟨(fun δ' T h=>nomatch h),(fun d T h=>nomatch h)⟩
   |err d T=>exact⟨(fun δ' T h=>nomatch h),(fun d T h=>nomatch h)⟩
   |bad=>exact⟨(fun δ' T h=>nomatch h),(fun d T h=>nomatch h)⟩
 | .ite c a b, δ, S => by
   simp only[exT]
   cases e:evT cf c δ S with
   | ok k S1 =>
     have f1:=(zcN hcf c δ S (fun _ _=>True) (by rw[e];trivial))
     rw[e] at f1
     dsimp only
     cases k with
     |true=>exact⟨fun δ' T h=>f1.2.trans ((zfV a δ S1).1 _ _ h),fun d T h=>f1.2.trans ((zfV a δ S1).2 _ _ h)⟩
     |false=>exact⟨fun δ' T h=>f1.2.trans ((zfV b δ S1).1 _ _ h),fun d T h=>f1.2.trans ((zfV b δ S1).2 _ _ h)⟩
   |err d T=>exact⟨(fun δ' T h=>nomatch h),(fun d T h=>nomatch h)⟩
   |bad=>exact⟨(fun δ' T h=>nomatch h),(fun d T h=>nomatch h)⟩
theorem zb2:∀(s:CS) (δ:Ev) (S:St) (Q:Fl->St->Prop),W (exS cf s δ S) Q->WF S (exS cf s δ S) Q
 |.nil,δ,S,Q,h=>by simp only[exS] at h⊢;exact⟨h,Frm.refl S⟩
 |.stop,δ,S,Q,h=>by simp only[exS] at h;exact h.elim
 | .asg i e r, δ, S, Q, h => by
   simp only[exS] at h⊢
   rw[zaa] at h
   exact WF.bind (zar hcf e δ S _ h) fun x S1 h1=>zb2 r _ S1 Q h1
 | .asgT g e r, δ, S, Q, h => by
   simp only[exS] at h⊢
   rw[zaa] at h
   refine WF.bind (zar hcf e δ S _ h) fun x S1 h1=>?_
   rw[zaa] at h1
   exact WF.bind (zaT h1) fun δ' S2 h2=>zb2 r _ S2 Q h2
 | .setIx a b e r, δ, S, Q, h => by
   simp only[exS] at h⊢
   rw[zaa] at h
   refine WF.bind (zar hcf e δ S _ h) fun v S1 h1=>?_
   rw[zaa] at h1
   refine WF.bind (zar hcf a δ S1 _ h1) fun x S2 h2=>?_
   rw[zaa] at h2
   refine WF.bind (zar hcf b δ S2 _ h2) fun y S3 h3=>?_
   cases ed:dPut S3 x y v with
   |none=>rw[ed] at h3;exact h3.elim
   | some S4 =>
     rw[ed] at h3
     have f1:=zmH ed
     have f2:=zb2 r δ S4 Q h3
     dsimp only
     unfold WF at f2⊢
     exact f2.mono fun a T ⟨q,f⟩=>⟨q,f1.trans f⟩
 | .ifS c t u r, δ, S, Q, h => by
   simp only[exS] at h⊢
   rw[zaa] at h
   refine WF.bind (zcN hcf c δ S _ h) fun k S1 h1=>?_
   rw[zaa] at h1
   refine WF.bind (Q:=Q) (S:=S1) ?_ fun f S2 h2=>?_
   · cases k with
     |true=>exact zb2 t δ S1 _ h1
     |false=>exact zb2 u δ S1 _ h1
   · cases f with
     |nx δ'=>exact zb2 r _ S2 Q h2
     |rt d=>exact⟨h2,Frm.refl _⟩
     |ex d=>exact⟨h2,Frm.refl _⟩
 | .forS g l b r, δ, S, Q, h => by
   simp only[exS] at h⊢
   rw[zaa] at h
   refine WF.bind (zhb hcf l δ S _ h) fun q S1 h1=>?_
   rw[zaa] at h1
   refine WF.bind (ze9 h1 fun Q' h2=>zeS (fun δ S Q=>zb2 b δ S Q) _ _ _ _ h2) fun f S3 h3=>?_
   cases f with
   |nx δ'=>exact zb2 r _ S3 Q h3
   |rt d=>exact⟨h3,Frm.refl _⟩
   |ex d=>exact⟨h3,Frm.refl _⟩
 | .ret e r, δ, S, Q, h => by
   simp only[exS] at h⊢
   rw[zaa] at h
   exact WF.bind (zar hcf e δ S _ h) fun x S1 h1=>⟨h1,Frm.refl _⟩
 | .expr e r, δ, S, Q, h => by
   simp only[exS] at h⊢
   rw[zaa] at h
   exact WF.bind (zar hcf e δ S _ h) fun x S1 h1=>zb2 r _ S1 Q h1
 | .rais c x f a, δ, S, Q, h => by
   simp only[exS] at h⊢
   rw[zaa] at h
   exact WF.bind (zar hcf a δ S _ h) fun d S1 h1=>⟨h1,Frm.push _ _⟩
 | .tryS b x ie ix r, δ, S, Q, h => by
   simp only[exS] at h⊢
   cases e:exT cf b δ S with
   | ok δ' S1 =>
     rw[e] at h
     exact (zb2 r _ S1 Q h).mono fun a T q=>⟨q.1,((zfV hcf b δ S).1 _ _ e).trans q.2⟩
   | err d S1 =>
     rw[e] at h
     dsimp only at h⊢
     split at h
     · rename_i c
       rw[if_pos c]
       exact (zb2 r _ S1 Q h).mono fun a T q=>⟨q.1,((zfV hcf b δ S).2 _ _ e).trans q.2⟩
     · exact False.elim h
   |bad=>rw[e] at h;exact h.elim
end
end R
end
section
namespace R
open PySem
noncomputable def Trc (h:Heap)(e:Addr)(vs:Array Value)(lo:Nat):Prop:=vs[1]?=some .none\/∃T oT ts,vs[1]?=some (.ref T)/\T≠e/\h.get? T=some oT/\oT.data=.fields ts/\ts[3]?=some .none/\lo<=T
structure Ntd (fs:List Addr) (e:Addr) (oe:Obj) (vs:Array Value) (lo:Nat) (h h':Heap):Prop where
 keep:∀b o,b≠e->vs[1]?≠some (.ref b)->b∉fs->h.get? b=some o->h'.get? b=some o
 slot:∀b o,b∈fs->h.get? b=some o->∃sl,h'.get? b=some {o with slots:=sl}
 there:∀b o,h.get? b=some o->∃o',h'.get? b=some o'
 exc:∃vs',h'.get? e=some {oe with data:=.fields vs'}/\vs'.size=vs.size/\Trc h' e vs' lo/\∀T,vs'[1]?=some (.ref T)->h.objs.size<=T
section
variable {M:Model} {A:Around} {E:Value->Shared->Prop} {s:Shared} {base:Heap} {env:Env} {outer:List Env} {L e:Addr} {oe:Obj} {vs:Array Value} {lo:Nat}
theorem zd6 {head:Value}{b:Bool}{Q:Unit->Shared->Prop}(hfr:A.frames=some (env::outer))(hl:s.heap.FunFrames base (env::outer))(hf:env.frame=some L)(he:s.heap.get? e=some oe)(hd:oe.data=.fields vs)(hz:1<vs.size)(hlo:lo<=s.heap.objs.size)
  (h:∀h',(∀b o,b≠e->b∉(env::outer).filterMap (·.frame)->s.heap.get? b=some o->h'.get? b=some o)->(∀b o,b≠e->s.heap.get? b=some o->∃sl,h'.get? b=some {o with slots:=sl})->
   (∃vs',h'.get? e=some {oe with data:=.fields vs'}/\vs'.size=vs.size/\Trc h' e vs' lo/\∀T,vs'[1]?=some (.ref T)->s.heap.objs.size<=T)->Q () {s with heap:=h'}) :
  wpAny M A (do let fr <-frameOf env;let pl <-entryPlaceOf L b;let en <-EntryCells.newEntry head fr .none (rawInt L) .none pl;setField (.ref e) 1 en) (fun _ s'=>wpAny M A (setFlight (.ref e) none) Q E s') E s:=by
 have hne:e∉(env::outer).filterMap (·.frame):=fun hm=>by
  obtain⟨_,o,ho,nf⟩:=hl.mem hm
  rw[he] at ho;cases ho;exact nf vs hd
 refine wpAny_bind (wpAny_frameOf_fun hfr hl hf fun h1 so=>?_)
 obtain⟨sz,same,slo⟩:=so
 refine wpAny_bind (wpAny_entryPlaceOf fun pl hpl=>?_)
 unfold EntryCells.newEntry newFields
 refine wpAny_bind (wpAny_newObj_type ?_ (hpl.sizeOk5 _ _ _ _ _))
 generalize eT:({cls:=.type "traceback",dict:=none,data:=.fields ([head,.ref L,.none,rawInt L,.none]++(if pl.isEmpty then List.replicate 6 Value.none else pl)).toArray}:Obj)=oT
 obtain⟨ts,hT,h3⟩:∃ts,oT.data=.fields ts/\3<ts.size:=by
  subst eT
  exact⟨_,rfl,by simp only[List.size_toArray,List.length_append,List.length_cons,List.length_nil];omega⟩
 have e1:h1.get? e=some oe:=(same e hne).trans he
 have e2:=Heap.get?_push_of_some (h:=h1) oT e1
 refine wpAny_setField e2 hd hz ?_
 have ne:h1.objs.size≠e:=Nat.ne_of_gt (Heap.lt_size e1)
 have d3:=Obj.data_mapFields hd (·.setIfInBounds 1 (Value.ref h1.objs.size))
 have e3:=Heap.get?_update_self (Obj.mapFields (·.setIfInBounds 1 (Value.ref h1.objs.size))) e2 (Obj.isFreed_of_fields d3)
 have nfT:oT.isFreed=false:=Obj.isFreed_of_fields hT
 have T3:=(Heap.get?_update_other (h1.push oT) (Obj.mapFields (·.setIfInBounds 1 (Value.ref h1.objs.size))) (Ne.symm ne)).trans (Heap.get?_push_size h1 nfT)
 unfold setFlight
 refine wpAny_bind (wpAny_field e3 d3 (x:=.ref h1.objs.size) (by simp[hz]) ?_)
 rw[if_pos (show (Value.ref h1.objs.size != Value.none)=true from by simp)]
 refine wpAny_setField T3 hT h3 (h _ (fun b o hb nf q=>?_) (fun b o hb q=>?_) ?_)
 · have q1:h1.get? b=some o:=(same b nf).trans q
   rw[Heap.get?_update_other _ _ (Nat.ne_of_gt (Heap.lt_size q1)),Heap.get?_update_other _ _ (Ne.symm hb)]
   exact Heap.get?_push_of_some _ q1
 · obtain⟨sl,q1⟩:=slo b o q
   refine⟨sl,?_⟩
   rw[Heap.get?_update_other _ _ (Nat.ne_of_gt (Heap.lt_size q1)),Heap.get?_update_other _ _ (Ne.symm hb)]
   exact Heap.get?_push_of_some _ q1
 · have d4:=Obj.data_mapFields hT (·.setIfInBounds 3 ((none:Option Addr).elim Value.none fun f=>rawInt f))
   have T4:=Heap.get?_update_self (Obj.mapFields (·.setIfInBounds 3 ((none:Option Addr).elim Value.none fun f=>rawInt f))) T3 (Obj.isFreed_of_fields d4)
   refine⟨vs.setIfInBounds 1 (.ref h1.objs.size),?_,by simp,.inr ⟨h1.objs.size,_,_,by simp[hz],ne,T4,d4,by simp[h3],by rw[sz];exact hlo⟩,fun T hT=>?_⟩
   rotate_left
   · have:(vs.setIfInBounds 1 (.ref h1.objs.size))[1]?=some (Value.ref h1.objs.size):=by simp[hz]
     rw[this] at hT;cases hT;exact Nat.le_of_eq sz.symm
   rw[Heap.get?_update_other _ _ ne,e3]
   obtain⟨oc,od,dt,sl⟩:=oe
   subst hd
   rfl
theorem ze7 {Q:Unit->Shared->Prop}(hfr:A.frames=some (env::outer))(hl:s.heap.FunFrames base (env::outer))(hf:env.frame=some L)(he:s.heap.get? e=some oe)(hd:oe.data=.fields vs)(tr:Trc s.heap e vs lo)(hlo:lo<=s.heap.objs.size)
  (h:∀h',Ntd ((env::outer).filterMap (·.frame)) e oe vs lo s.heap h'->Q () {s with heap:=h'}) :
  wpAny M A (noteFrame (.ref e) env) (fun _ s'=>wpAny M A (setFlight (.ref e) none) Q E s') E s:=by
 have hne:e∉(env::outer).filterMap (·.frame):=fun hm=>by
  obtain⟨_,o,ho,nf⟩:=hl.mem hm
  rw[he] at ho;cases ho;exact nf vs hd
 unfold noteFrame
 simp only[hf]
 rcases tr with h1|⟨T,oT,ts,h1,nT,hT,dT,h3,lT⟩
 · refine wpAny_bind (wpAny_field he hd h1 ?_)
   rw[if_neg (by decide)]
   refine zd6 hfr hl hf he hd (Array.getElem?_eq_some_iff.mp h1).1 hlo fun h' k1 k2 k3=>h h' ⟨fun b o hb _ nf q=>k1 b o hb nf q,fun b o hm q=>k2 b o (fun z=>hne (z▸hm)) q,fun b o q=>?_,k3⟩
   by_cases hb:b=e
   · subst hb;obtain⟨vs',q1,_⟩:=k3;exact⟨_,q1⟩
   · obtain⟨sl,q1⟩:=k2 b o hb q;exact⟨_,q1⟩
 · refine wpAny_bind (wpAny_field he hd h1 ?_)
   rw[if_pos (show (Value.ref T != Value.none)=true from by simp)]
   refine wpAny_bind (wpAny_field hT dT h3 ?_)
   rw[if_neg (show ¬((Value.none == rawInt L)=true) from by simp[rawInt])]
   refine wpAny_bind (wpAny_setField hT dT (Array.getElem?_eq_some_iff.mp h3).1 ?_)
   have oth:∀b,b≠T->(s.heap.update T (Obj.mapFields (·.setIfInBounds 3 Value.none))).get? b=s.heap.get? b:=fun b hb=>Heap.get?_update_other _ _ (Ne.symm hb)
   have hTf:T∉(env::outer).filterMap (·.frame):=fun hm=>by
    obtain⟨_,o,ho,nf⟩:=hl.mem hm
    rw[hT] at ho;cases ho;exact nf ts dT
   have selfT:=Heap.get?_update_self (Obj.mapFields (·.setIfInBounds 3 Value.none)) hT (Obj.isFreed_of_fields (Obj.data_mapFields dT _))
   have hl2:(s.heap.update T (Obj.mapFields (·.setIfInBounds 3 Value.none))).FunFrames base (env::outer):=hl.of_keeps fun b o hb nf=>⟨o,(oth b fun z=>by rw[z,hT] at hb;cases hb;exact nf ts dT).trans hb,rfl⟩
   refine zd6 (s:={s with heap:=s.heap.update T (Obj.mapFields (·.setIfInBounds 3 Value.none))}) hfr hl2 hf ((oth e (Ne.symm nT)).trans he) hd (Array.getElem?_eq_some_iff.mp h1).1 (by rw[Heap.size_after_update];exact hlo)
    fun h' k1 k2 k3=>h h' ⟨fun b o hb nb nf q=>k1 b o hb nf ((oth b fun z=>nb (by rw[z];exact h1)).trans q),fun b o hm q=>k2 b o (fun z=>hne (z▸hm)) ((oth b fun z=>hTf (z▸hm)).trans q),fun b o q=>?_,by rw[Heap.size_after_update] at k3;exact k3⟩
   by_cases hb:b=e
   · subst hb;obtain⟨vs',q1,_⟩:=k3;exact⟨_,q1⟩
   · by_cases hbT:b=T
     · subst hbT;obtain⟨sl,q1⟩:=k2 b _ hb selfT;exact⟨_,q1⟩
     · obtain⟨sl,q1⟩:=k2 b o hb ((oth b hbT).trans q);exact⟨_,q1⟩
end
end R
end
section
namespace R
open PySem
section
variable {prog:Program} {w:World} {A:Around} {E:Value->Shared->Prop} {h:Heap} {g:Array GenState} {d:Drawn} {t:Nat} {os:OsState}
variable {nm q:Str} {C N:Addr} {bs bm bmB:List Value} {hdct:Bool} {sn:List Str} {sub:List Value} {ab:Bool} {col:Option Bool} {dd:Option Addr} {k0 k1 k2 k3 k5:Option Value} {B newId initId:String}
theorem ziv (F:ExcBaseFacts B newId initId bmB)(T:OwnTail h bmB bm){mN:Str->Option Value}{rest:List Value}{fI:Addr}{oI:Obj}{Q:Fin->Shared->Prop}
  (hC:h.get? C=some (excClassObj nm q C N bs bm hdct sn sub ab col dd k0 k1 k2 k3 k5 newId)) (hn:h.Ns N mN) (hi:mN "__init__"=some (.ref fI)) (hfI:h.get? fI=some oI) (hfc:oI.cls=.type "function")
  (hq:∀h' e,Heap.MadeExcOf h h' e (.ref C) rest->h.objs.size<=e->wpAny (model prog w) A (call (.ref fI) (.ref e::rest)) (fun r s'=>r=.none/\Q (.done (.ret (.ref e))) s') E ⟨h',g,d,t,os⟩) (hrest:rest.length<=sizeLine) :
  wpAny (model prog w) A (Builtin.«type.__call__» ⟨.ref C::rest,[]⟩) Q E ⟨h,g,d,t,os⟩:=by
 repeat (first|with_reducible refine wpAny_loadPart_at hC ?_|with_reducible refine wpAny_madeBy_exc hC ?_|wp_step)
 refine codeAny_call_builtin_code (Code.quiet_builtin _ F.quiet) (wpAny_check_new_subT F T hC (codeAny_exc_new_subT F T hC ?_ hrest))
 show wpAny _ _ _ _ _ _
 generalize e1:h.push {cls:=.type "tuple",data:=.seq rest.toArray}=h1
 generalize e2:h1.push {cls:=.ref C,data:=.fields #[.ref h.objs.size,.none,.none,.none,.bool false,.none]}=h2
 have kp:∀b o,h.get? b=some o->h2.get? b=some o:=fun b o z=>by subst e2 e1;exact Heap.get?_push_of_some _ (Heap.get?_push_of_some _ z)
 have ge:h2.get? (h.objs.size+1)=some {cls:=.ref C,data:=.fields #[.ref h.objs.size,.none,.none,.none,.bool false,.none]}:=by subst e2 e1;heap_get
 have gt:h2.get? h.objs.size=some {cls:=.type "tuple",data:=.seq rest.toArray}:=by subst e2 e1;exact Heap.get?_push_of_some _ (Heap.get?_push_at rfl rfl)
 have C2:=kp _ _ hC
 have n2:h2.Ns N mN:=hn.keeps kp
 have T2:=T.keeps kp
 have self:(Value.ref C::bm).contains (.ref C)=true:=by simp
 unfold isInstance
 repeat (first|with_reducible refine wpAny_loadPart_at ge ?_|(with_reducible refine wpAny_isSubtype_exc C2 ?_;rw[self])|wp_step)
 show wpAny _ _ (typeLookup (.ref C) _) _ _ _
 refine wpAny_typeLookup_tail C2 n2 T2 F.mroIs F.init.lookup ?_
 rw[hi]
 refine wpAny_holding (wpAny_bind ?_)
 unfold bindSpecial
 refine wpAny_bind (wpAny_typeOf (T:="function") ⟨_,kp _ _ hfI,hfc⟩ ?_)
 rw[if_pos (by decide)]
 refine wpAny_pure (wpAny_bind (wpAny_mono (hq h2 (h.objs.size+1) ⟨kp,Heap.get?_none_of_le (Nat.le_succ _),h.objs.size,ge,Heap.get?_none_of_le (Nat.le_refl _),gt⟩ (Nat.le_succ _)) (fun r s' hr=>?_) fun _ _ x=>x))
 obtain⟨rfl,hQ⟩:=hr
 wp_walk
 exact hQ
theorem zis (F:ExcBaseFacts B newId initId bmB)(T:OwnTail h bmB bm){mN:Str->Option Value}{rest:List Value}{fI:Addr}{oI:Obj}{Q:Value->Shared->Prop}
  (hC:h.get? C=some (excClassObj nm q C N bs bm hdct sn sub ab col dd k0 k1 k2 k3 k5 newId)) (hn:h.Ns N mN) (hi:mN "__init__"=some (.ref fI)) (hfI:h.get? fI=some oI) (hfc:oI.cls=.type "function")
  (hq:∀h' e,Heap.MadeExcOf h h' e (.ref C) rest->h.objs.size<=e->wpAny (model prog w) (A.under (.builtin "type.__call__" ⟨.ref C::rest,[]⟩)) (call (.ref fI) (.ref e::rest)) (fun r s'=>r=.none/\Q (.ref e) s') E ⟨h',g,d,t,os⟩) (hrest:rest.length<=sizeLine) :
  wpAny (model prog w) A (call (.ref C) rest) Q E ⟨h,g,d,t,os⟩:=by
 have f1:=tc_lookup
 have f2:=tc_bind (.ref C)
 have isT:(⟨h,g,d,t,os⟩:Shared).TypeIs (.ref C) "type":=⟨_,hC,rfl⟩
 refine wpAny_call (codeAny_of_tree ?_)
 show wpAny _ _ (callAny (.ref C) _) _ _ _
 repeat (any_goals (first|assumption|with_reducible refine wpAny_loadPart_at hC ?_|wp_step))
 refine⟨rfl,codeAny_call_builtin_at (Code.quiet_builtin _ (by decide +kernel)) entry_typeCall (wpAny_check_type_call_sub hC (ziv F T hC hn hi hfI hfc (fun h' e hm hz=>?_) hrest))⟩
 exact hq h' e hm hz
end
end R
end
section
namespace R
open PySem
noncomputable abbrev newX (C:Value)(dx:Option Addr)(t:Addr):Obj:={cls:=C,dict:=dx,data:=.fields #[.ref t,.none,.none,.none,.bool false,.none]}
section
variable {prog:Program} {w:World} {A:Around} {E:Value->Shared->Prop} {h:Heap} {g:Array GenState} {d:Drawn} {t:Nat} {os:OsState}
variable {nm q:Str} {C N:Addr} {bs bm bmB:List Value} {hdct:Bool} {sn:List Str} {sub:List Value} {ab:Bool} {col:Option Bool} {dd:Option Addr} {k0 k1 k2 k3 k5:Option Value} {B newId initId:String}
theorem ziu (F:ExcBaseFacts B newId initId bmB)(T:OwnTail h bmB bm){e t0:Addr}{v:Value}{Q:Value->Shared->Prop}
  (hC:h.get? C=some (excClassObj nm q C N bs bm hdct sn sub ab col dd k0 k1 k2 k3 k5 newId)) (he:h.get? e=some (newX (.ref C) none t0))
  (hq:∀h' t1,(∀b o,b≠e->h.get? b=some o->h'.get? b=some o)->h'.get? e=some (newX (.ref C) none t1)->Q .none ⟨h',g,d,t,os⟩) :
  wpAny (model prog w) A (call (.builtin initId) [.ref e,v]) Q E ⟨h,g,d,t,os⟩:=by
 refine wpAny_call (codeAny_call_builtin F.init.plain F.initEntry (wpAny_check_init_subT F T hC he rfl ?_))
 wp_walk
 refine hq _ h.objs.size (fun b o hb q=>?_) ?_
 · rw[Heap.get?_update_other _ _ (Ne.symm hb)]
   exact Heap.get?_push_of_some _ q
 · exact Heap.get?_update_self _ (Heap.get?_push_of_some _ he) rfl
end
end R
end
section
namespace R
open PySem PySem.W PySem.Builtin.Object
section
variable {prog:Program} {w:World} {A:Around} {E:Value->Shared->Prop} {s:Shared} {K:Frag} {x C:Addr} {ox:Obj} {name:Str} {v:Value}
noncomputable def zgl:List Value->Bool
 |.ref _::l=>zgl l
 | [.type a,.type b,.type c,.type d]=>a == "ValueError"&&(b == "Exception"&&(c == "BaseException"&&d == "object"))
 |_=>false
theorem ze2:∀{l:List Value},zgl l=true->(∀self:Value,refuseLoop self "__setattr__" l=pure ())/\l.contains (.type "object")=true/\l.isEmpty=false
 | .ref c :: l, e => by
   obtain⟨a,b,_⟩:=ze2 (l:=l) (by simpa only [zgl] using e)
   exact⟨fun self=>(refuseLoop_ref self _ c l).trans (a self),by rw[List.contains_cons,b,Bool.or_true],rfl⟩
 | [.type a, .type b, .type c, .type d], e => by
   simp only[zgl,Bool.and_eq_true,beq_iff_eq] at e
   obtain⟨rfl,rfl,rfl,rfl⟩:=e
   exact⟨PySem.F.store_ValueError.passes,by simp,rfl⟩
noncomputable def zgA (K:Frag)(C:Addr):Bool:=match clsIn K C with|some cd=>zgl cd.mro|none=>false
theorem zj3 {od:Option Obj}{tk:Tok}{R:Result->Shared->Prop}(X:K.In s.heap)(J:InstAt s.heap x ox C od)(hp:zgA K C=true)(ht:findIn K (.ref C) name=some none)
  (go:wpAny (model prog w) A.in1 (Builtin.ObjectAttr.storeInOwnDict (.ref x) (.ref C) (.str name tk) name v false)
   (fun fin s'=>match fin with|.done f=>R (.ok f) s'|.again c=>c.quiet=true/\codeAny (model prog w) A c R s') (fun e s'=>R (.error e) s') s) :
  codeAny (model prog w) A (.call (.builtin "object.__setattr__") ⟨[.ref x,.str name tk,v],[]⟩) R s:=by
 unfold zgA at hp
 split at hp
 case h_2=>cases hp
 rename_i cd hc
 obtain⟨h1,h2,h3⟩:=ze2 hp
 have st:=PySem.F.store_object
 have hi:Looks (model prog w) s.heap (isInstance (.ref x) (.type "object")) true:=by
  refine J.type.andThen (looks_mroIn X ?_)
  unfold mroIn;rw[hc,Option.bind_some,if_neg (by rw[h3];decide),h2]
 refine codeAny_call_builtin st.slot.plain st.entry (@check_slot (model prog w) _ _ s _ _ _ _ [.str name tk,v] [] _ st.kind st.split hi (st.args _ _ _) ?_)
 have hm:Looks (model prog w) s.heap (mroOf (.ref C)) cd.mro:=(looks_clsIn X hc).andThen .now
 rw[osa_eq,refuse_eq]
 refine wpAny_bind (wpAny_bind (J.type.here (wpAny_bind (hm.here ?_))))
 rw[h1]
 exact wpAny_pure (wpAny_bind (J.type.here (wpAny_bind ((looks_findIn X ht).here (wpAny_bind (wpAny_pure go))))))
theorem zg9 {Q:Unit->Shared->Prop}(X:K.In s.heap)(he:s.heap.get? x=some ox)(hc:ox.cls=.ref C){vs:Array Value}(hd:ox.data=.fields vs)(hn:ox.dict=none)
  (hs:findIn K (.ref C) "__setattr__"=some (some (.builtin "object.__setattr__"))) (hp:zgA K C=true) (ht:findIn K (.ref C) name=some none) (hh:hasDictIn K C=true)
  (h:∀h',h'.get? x=some {ox with dict:=some s.heap.objs.size}->h'.Ns1 s.heap.objs.size (fun y=>if y=name then some v else none)->(∀b o,b≠x->s.heap.get? b=some o->h'.get? b=some o)->Q () {s with heap:=h',toks:=s.toks+2}) :
  wpAny (model prog w) A (setAttr (.ref x) name v) Q E s:=by
 have J:InstAt s.heap x ox C none:=⟨he,hc,by unfold notCls;rw[hd],by rw[hn];trivial⟩
 refine set_plain X J hs (zj3 (s:={s with toks:=s.toks+1}) X J hp ht ?_)
 obtain⟨cd,hk,hd'⟩:=any_some hh
 obtain⟨hp0,g,d,t,os⟩:=s
 obtain⟨oc,od,odt,osl⟩:=ox
 dsimp only at he hc hd hn h⊢
 subst hc hd hn
 refine wpAny_bind (wpAny_pure (wpAny_bind (wpAny_bind (wpAny_loadPart he (wpAny_bind (Looks.here (s:=⟨hp0,g,d,t+1,os⟩) (looks_clsIn X hk) ?_))))))
 rw[hd']
 simp only[Bool.not_true,Bool.false_eq_true,if_false,Bool.false_or]
 rw[if_neg (by simp[typeHasDict])]
 have hx1:(hp0.push {cls:=.type "dict",data:=.dict #[]}).get? x=some _:=Heap.get?_push_of_some _ he
 have nx:x≠hp0.objs.size:=Nat.ne_of_lt (Heap.lt_size he)
 refine wpAny_bind (wpAny_alloc' (wpAny_bind (wpAny_update' hx1 (wpAny_pure ?_))))
 generalize e2:(hp0.push {cls:=.type "dict",data:=.dict #[]}).update x (fun o=>{cls:=o.cls,dict:=some hp0.objs.size,data:=o.data,slots:=o.slots})=h2
 have gd:h2.get? hp0.objs.size=some {cls:=.type "dict",data:=.dict #[]}:=by subst e2;exact (Heap.get?_update_ne _ _ _ _ nx.symm).trans (Heap.get?_push_at rfl rfl)
 have gx:h2.get? x=some {cls:=.ref C,dict:=some hp0.objs.size,data:=.fields vs,slots:=osl}:=by subst e2;exact Heap.get?_update_self _ hx1 rfl
 have nd:h2.Ns hp0.objs.size (fun _=>none):=⟨_,#[],_,gd,rfl,fun e he=>absurd he (by simp),fun _=>rfl⟩
 show wpAny _ _ (Builtin.ObjectAttr.storeInDict hp0.objs.size (.str name t) name v) _ _ _
 unfold Builtin.ObjectAttr.storeInDict Builtin.ObjectAttr.newKeyGuard
 refine wpAny_bind (wpAny_pure (wpAny_bind (wpAny_nsSet1 (Heap.Ns1.of_empty nd) fun h' hn' hs=>?_)))
 obtain⟨oD,esD,epD,hoD,hdD,hcD⟩:=hn'.count (Within.cons name v Within.nil)
 refine wpAny_bind (wpAny_lookBehind hoD (by rw[hdD];exact pastItsLine_dict (Nat.le_trans hcD (by rw[List.length_cons,List.length_nil,sizeLine_eq];omega))) (wpAny_pure (h h' ?_ hn' fun b o hb q=>?_)))
 · exact (hs.2 x nx).trans gx
 · subst e2
   exact (hs.2 b (Nat.ne_of_lt (Heap.lt_size q))).trans ((Heap.get?_update_ne _ _ _ _ hb).trans (Heap.get?_push_of_some _ q))
theorem zfi {od:Option Obj}{fill expr:Bool}{tk:Tok}{Q:Value->Shared->Prop}(X:K.In s.heap)(I:InstAt s.heap x ox C od)(hga:findIn K (.ref C) "__getattribute__"=some (some (.builtin "BaseException.__getattribute__")))
  (hgh:findIn K (.ref C) "__getattr__"=some none) (hsub:mroIn K C (.type "BaseException")=some true)
  (go:wpAny (model prog w) A.in1 (Builtin.«object.__getattribute__» ⟨[.ref x,.str name tk],[]⟩) (fun fin s'=>match fin with|.done (.ret u)=>wpAny (model prog w) A (handedOut u) Q E s'|_=>False) (fun _ _=>False) s) :
  wpAny (model prog w) A (getAttrBy (.ref x) (.str name tk) fill expr) Q E s:=by
 obtain⟨hp0,g,d,t,os⟩:=s
 have L0:=I.type (M:=model prog w)
 have L1:=looks_findIn (M:=model prog w) X hga
 have L2:=looks_findIn (M:=model prog w) X hgh
 have L3:=looks_mroIn (M:=model prog w) X hsub
 unfold getAttrBy
 refine wpAny_holding (wpAny_bind (L0.at (wpAny_bind (L1.at ?_))))
 show wpAny _ _ (getAttrByItsOwn _ _ _ _ _ _) _ _ _
 unfold getAttrByItsOwn hookBefore
 rw[if_pos (show onTheHeap (Value.ref C)=true from rfl)]
 refine wpAny_bind (L2.at (wpAny_bind (wpAny_attempt (wpAny_holding ?_))))
 have no:(expr&&onTheHeap (Value.builtin "BaseException.__getattribute__"))=false:=by cases expr<;>rfl
 unfold callGetattribute
 rw[no,if_neg (by decide)]
 unfold boundAndCalled
 refine wpAny_bind (wpAny_of_eq (F.attr_ValueError.ga.bind _) (wpAny_call (codeAny_call_builtin F.attr_ValueError.ga.plain F.entry_bexc_ga ?_)))
 have hk:builtinKind "BaseException.__getattribute__"=some .slot:=by decide +kernel
 have hsp:splitId "BaseException.__getattribute__"=some ("BaseException","__getattribute__"):=by decide +kernel
 have ha:=F.args_bexc_ga (.ref x) (.str name tk)
 simp only[checkBuiltinCall,hk,hsp]
 have LI:Looks (model prog w) hp0 (isInstance (.ref x) (.type "BaseException")) true:=L0.andThen L3
 refine wpAny_bind (LI.at ?_)
 rw[if_neg (by decide)]
 have last:wpAny (model prog w) A.in1 (Builtin.«object.__getattribute__» ⟨[.ref x,.str name tk],[]⟩) (fun fin s'=>match fin with
   |.done f=>(match (Except.ok f:Result) with|.ok (.ret u)=>wpAny (model prog w) A (handedOut u) Q E s'|.ok _=>False|.error e=>wpAny (model prog w) A (getattributeRaised (.ref x) (.str name tk) (.ref C) e none fill expr) Q E s')
   |.again c'=>c'.quiet=true/\codeAny (model prog w) A c' (fun r s'=>match r with|.ok (.ret u)=>wpAny (model prog w) A (handedOut u) Q E s'|.ok _=>False|.error e=>wpAny (model prog w) A (getattributeRaised (.ref x) (.str name tk) (.ref C) e none fill expr) Q E s') s')
   (fun e s'=>wpAny (model prog w) A (getattributeRaised (.ref x) (.str name tk) (.ref C) e none fill expr) Q E s') ⟨hp0,g,d,t,os⟩:=by
  refine wpAny_mono go (fun fin s' z=>?_) fun _ _ z=>z.elim
  rcases fin with (_|_|_|u)|_
  all_goals first|exact z.elim|exact z
 cases hsig:Manifest.signature? "BaseException.__getattribute__" with
 |none=>exact wpAny_pure last
 | some sig =>
   simp only[argsOk,hsig] at ha
   have h2:Bind.checkArgs "BaseException.__getattribute__" sig ⟨[.ref x]++[.str name tk],[]⟩=pure ():=ha
   show wpAny _ _ (Bind.checkArgs "BaseException.__getattribute__" sig ⟨[.ref x]++[.str name tk],[]⟩) _ _ _
   rw[h2];exact wpAny_pure last
theorem zit {od:Option Obj}{expr:Bool}{Q:Value->Shared->Prop}(X:K.In s.heap)(I:InstAt s.heap x ox C od)(hga:findIn K (.ref C) "__getattribute__"=some (some (.builtin "BaseException.__getattribute__")))
  (hgh:findIn K (.ref C) "__getattr__"=some none) (hsub:mroIn K C (.type "BaseException")=some true) (hf:findObj K C od name=some (.value v)) (hh:handedIn v=true) (h:Q v {s with toks:=s.toks+1}) :
  wpAny (model prog w) A (getAttr (.ref x) name expr) Q E s:=by
 have L0:=I.type (M:=model prog w)
 have L4:=looks_find (M:=model prog w) X I hf
 unfold getAttr
 refine wpAny_bind (wpAny_mkText (zfi (s:={s with toks:=s.toks+1}) X I hga hgh hsub ?_))
 refine wpAny_bind (wpAny_pure (wpAny_bind (wpAny_pure (wpAny_bind (L0.at (wpAny_bind (L4.at (wpAny_pure ?_))))))))
 show wpAny _ _ (handedOut v) _ _ _
 rw[handedOut_of hh];exact wpAny_pure h
theorem zha {od:Obj}{Q:Option Value->Shared->Prop}(X:K.In s.heap)(I:InstAt s.heap x ox C (some od))(hga:findIn K (.ref C) "__getattribute__"=some (some (.builtin "BaseException.__getattribute__")))
  (hgh:findIn K (.ref C) "__getattr__"=some none) (hsub:mroIn K C (.type "BaseException")=some true) (hdct:hasDictIn K C=true) (ha:findIn K (.ref C) "__class__"=some (some (.builtin "object.__class__")))
  (hn:specialIn K (.builtin "object.__class__") "__get__"=some (some (.builtin "getset_descriptor.__get__"))) (htk:takesIn K (.builtin "object.__class__")=some true) (hm:mroIn K C (.type "object")=some true)
  (h:Q (some (.ref C)) {s with toks:=s.toks+1}):wpAny (model prog w) A (getAttr? (.ref x) "__class__") Q E s:=by
 have hf:findObj K C (some od) "__class__"=some (.bind (.builtin "getset_descriptor.__get__") (.builtin "object.__class__")):=findObj_data (by obtain⟨cd,hc,_⟩:=any_some hdct;rw[hc];rfl) ha hn htk
 have L0:=I.type (M:=model prog w)
 have L4:=looks_find (M:=model prog w) X I hf
 unfold getAttr?
 refine wpAny_bind (wpAny_mkText ?_)
 unfold getAttrBy?
 refine wpAny_bind (wpAny_attempt (zfi (s:={s with toks:=s.toks+1}) X I hga hgh hsub ?_))
 refine wpAny_bind (wpAny_pure (wpAny_bind (wpAny_pure (wpAny_bind (L0.at (wpAny_bind (L4.at ?_)))))))
 show wpAny _ _ (holding [_] (call _ [_,.ref x,.ref C]) >>= ret) _ _ _
 refine wpAny_bind (wpAny_holding (wpAny_call (class_get (s:={s with toks:=s.toks+1}) (ox:=ox) (od:=some od) X I hm ?_)))
 refine wpAny_pure ?_
 show wpAny _ _ (handedOut (.ref C)) _ _ _
 rw[handedOut_of (v:=.ref C) rfl]
 exact wpAny_pure (wpAny_pure h)
theorem zku {od:Obj}(hga:findIn K (.ref C) "__getattribute__"=some (some (.builtin "BaseException.__getattribute__")))
  (hgh:findIn K (.ref C) "__getattr__"=some none) (hsub:mroIn K C (.type "BaseException")=some true) (hdct:hasDictIn K C=true) (ha:findIn K (.ref C) "__class__"=some (some (.builtin "object.__class__")))
  (hn:specialIn K (.builtin "object.__class__") "__get__"=some (some (.builtin "getset_descriptor.__get__"))) (htk:takesIn K (.builtin "object.__class__")=some true) (hm:mroIn K C (.type "object")=some true) :
  KitX K (.ref x) (.ref C) (fun h=>InstAt h x ox C (some od)):=by
 obtain⟨cd,hc,_⟩:=any_some hdct
 unfold clsIn at hc
 split at hc
 · rename_i ho
   refine⟨fun _ _ _ I=>I.type,fun _ _ X _ A' Q' E' s' k q=>wpAny_bind (wpAny_loadPart (k _ _ (X _ _ ho)) (wpAny_pure q)),fun h tp dd its n sl X htp=>Bool.eq_false_iff.mpr fun q=>?_,fun X I k=>zha X I hga hgh hsub hdct ha hn htk hm k⟩
   have e:C=tp:=Value.ref.inj (beq_iff_eq.mp q)
   subst e
   have z:=(X _ _ ho).symm.trans htp
   cases z
 · cases hc
end
end R
end
section
namespace R
open PySem PySem.Spec PyProof.Rows L2
noncomputable abbrev XN (a C:Addr):HO:=.ext fun h=>∃t,h.get? a=some (newX (.ref C) none t)
noncomputable abbrev XD (a C dx:Addr):HO:=.ext fun h=>∃t,h.get? a=some (newX (.ref C) (some dx) t)
noncomputable abbrev XO (a C dx:Addr):HO:=.ext fun h=>∃vs sl,h.get? a=some ⟨.ref C,some dx,.fields vs,sl⟩/\1<vs.size
structure Fly (lo:Nat) (H:Hp) (h:Heap) (a:Addr):Prop where
 ex:∃C dx vs sl,H a=some (XO a C dx)/\h.get? a=some ⟨.ref C,some dx,.fields vs,sl⟩/\Trc h a vs lo/\∀T,vs[1]?=some (.ref T)->H T=none
 lo:lo<=a
theorem XO.ok {P:Program}{w:World}{H:Hp}{h:Heap}{a C dx:Addr}{vs:Array Value}{sl:Array (Option Value)}(e:h.get? a=some ⟨.ref C,some dx,.fields vs,sl⟩)(z:1<vs.size):ObjOk P w H h a (XO a C dx):=
 ⟨⟨vs,sl,e,z⟩,⟨_,e⟩,fun h1 h2 ⟨vs,sl,e,z⟩ k=>⟨vs,sl,k _ e,z⟩⟩
theorem XD.ok {P:Program}{w:World}{H:Hp}{h:Heap}{a C dx t:Addr}(e:h.get? a=some (newX (.ref C) (some dx) t)):ObjOk P w H h a (XD a C dx):=⟨⟨t,e⟩,⟨_,e⟩,fun h1 h2 ⟨t,e⟩ k=>⟨t,k _ e⟩⟩
theorem XN.ok {P:Program}{w:World}{H:Hp}{h:Heap}{a C t:Addr}(e:h.get? a=some (newX (.ref C) none t)):ObjOk P w H h a (XN a C):=⟨⟨t,e⟩,⟨_,e⟩,fun h1 h2 ⟨t,e⟩ k=>⟨t,k _ e⟩⟩
noncomputable def CXe (P:Program)(w:World):CXT:=fun outer H s E e s'=>∃a H',e=.ref a/\s'.os=s.os/\AllBare s'.gens/\Un (frs outer) [] H H' s.heap s'.heap/\HOk P w H' s'.heap/\Fly s.heap.objs.size H' s'.heap a/\E (.ref a) none H'
section
variable {X:Cx} {pins:List (Addr × Obj)} {σ:L2.St} {H:Hp} {s:Shared} {a:Addr} {lo:Nat} {h':Heap}
theorem zdY {oe:Obj}{vs:Array Value}(I:Inv X pins σ H s)(stk:X.stack=X.env::X.outer)(fr:X.env.frame=some X.env.locals)(f:Fly lo H s.heap a)(l:X.s₀.heap.objs.size<=lo)(hp:∀p∈X.pn++pins,p.1<lo)
  (he:s.heap.get? a=some oe) (hd:oe.data=.fields vs) (n:Ntd ((X.env::X.outer).filterMap (·.frame)) a oe vs lo s.heap h'):Inv X pins σ H {s with heap:=h'}/\Fly lo H h' a:=by
 obtain⟨C,dx,vs0,sl,h1,h2,tr,h4⟩:=f.ex
 rw[he] at h2;cases h2
 obtain rfl:vs0=vs:=by simpa using hd
 obtain⟨vs',e1,e2,tr',fr'⟩:=n.exc
 have stk':frs X.stack=(X.env::X.outer).filterMap (·.frame):=by rw[stk];rfl
 have frN:∀b,H b≠none->b∉(X.env::X.outer).filterMap (·.frame):=fun b hb hm=>hb (I.stkFree b (by rw[stk'];exact hm))
 have nT:∀b,H b≠none->vs0[1]?≠some (.ref b):=fun b hb z=>hb (h4 b z)
 have zsz:1<vs0.size:=by
  rcases tr with t|⟨T,_,_,t,_⟩<;>exact (Array.getElem?_eq_some_iff.mp t).1
 have hok:HOk X.prog X.w H h':=fun b u e=>by
  by_cases hb:b=a
  · subst hb
    rw[h1] at e;cases e
    exact XO.ok e1 (by rw[e2];exact zsz)
  · refine (I.hok b u e).stay (fun c v hc q=>?_) (fun _ q=>q) fun _ _ q=>q
    have hcn:H c≠none:=by rcases hc with z|z<;>(first|(rw[z,e];simp)|(rw[z];simp))
    refine n.keep c v (fun z=>?_) (nT c hcn) (frN c hcn) q
    rcases hc with y|y
    · exact hb (y.symm.trans z)
    · rw[z,h1] at y;cases y
 have ch:∃ch:List Addr,(∀b∈ch,(b∈X.ex\/X.s₀.heap.objs.size<=b)/\b≠X.env.locals/\(∀x c,X.env.cells.lookup x=some c->c≠b)/\∀p∈X.pn++pins,p.1≠b)/\∀b,b∉ch->vs0[1]?≠some (.ref b):=by
  rcases tr with t|⟨T,oT,ts,t1,t2,t3,t4,t5,t6⟩
  · exact⟨[],(fun _ z=>nomatch z),fun b _ z=>by rw[t] at z;cases z⟩
  · refine⟨[T],fun b hb=>?_,fun b hb z=>hb (by rw[t1] at z;cases z;exact List.mem_singleton.mpr rfl)⟩
    have e:b=T:=List.mem_singleton.mp hb
    subst e
    refine⟨.inr (Nat.le_trans l t6),fun z=>?_,fun x c e z=>?_,fun p hp' z=>?_⟩
    · obtain⟨m,⟨o,es,ep,ho,hd',_⟩,_⟩:=I.loc
      rw[z,ho] at t3;cases t3;rw[hd'] at t4;cases t4
    · obtain⟨v,o,ho,hd'⟩:=I.cell x c e
      rw[z,t3] at ho;cases ho;rw[hd'] at t4;cases t4
    · exact absurd (hp p hp') (by rw[z];exact Nat.not_lt.mpr t6)
 obtain⟨ch,c1,c2⟩:=ch
 refine⟨I.step (g':=s.gens) (d':=s.drawn) (t':=s.toks) (ch:=ch) c1 (fun b o hL hf hc q hn=>?_) (fun b o hL hf hc q hn=>?_) (fun _ _ _ _ q=>q) (fun b o _ q=>n.there b o q) (fun _ _ q=>q) (fun _ _ _ q=>q) (fun b ps q=>⟨#[],by rw[q];simp⟩) (fun m hm=>?_) hok I.bare,⟨C,dx,vs',sl,h1,e1,tr',?_⟩,f.lo⟩
 · refine n.keep b o (fun z=>by rw[z,h1] at hn;cases hn) (c2 b hc) (fun hm=>?_) q
   have:=I.stkSub b (by rw[stk'];exact hm)
   rcases List.mem_cons.mp this with z|z
   · exact hL z
   · exact hf z
 · refine n.slot b o ?_ q
   rw[List.filterMap_cons,fr]
   exact List.mem_cons_of_mem _ hf
 · obtain⟨o,es,ep,ho,r⟩:=hm
   obtain⟨sl',q⟩:=n.slot X.env.locals o (by rw[List.filterMap_cons,fr];exact List.mem_cons_self) ho
   exact⟨_,es,ep,q,r⟩
 · intro T hT
   exact I.hok.fresh (fr' T hT)
theorem zgH {P:Program}{w:World}{K:PySem.W.Frag}{mg:Str->Option Value}{base:Heap}{N:List Str}{qual:Str}{scope:Scope}{f:Addr}{cd:Value}{A:Around}{outer:List Env}{s₀:Shared}{H₀:Hp}{E:XK}
  (I:Inv (cxOf (CXe P w) P w K mg base N qual scope f cd A outer s₀ H₀ E) pins σ H s) (fl:Fly s₀.heap.objs.size H s.heap a) (hE:E (.ref a) none H):(cxOf (CXe P w) P w K mg base N qual scope f cd A outer s₀ H₀ E).xe (.ref a) s:=by
 have J:Inv (cxOf (CXe P w) P w K mg base N qual scope f cd A outer s₀ H₀ E) [] σ H s:=I.pins_of fun p z=>nomatch z
 obtain⟨C,dx,vs,sl,h1,h2,tr,h4⟩:=id fl.ex
 refine wpAny_bind (ze7 (lo:=s₀.heap.objs.size) J.ok.frames J.stack rfl h2 rfl tr J.sz fun h' n=>?_)
 obtain⟨J',f'⟩:=zdY J rfl rfl fl (Nat.le_refl _) (fun p z=>absurd (show p∈([]:List (Addr × Obj)) from z) (by simp)) h2 rfl n
 exact⟨a,H,rfl,J'.os,J'.bare,J'.base,J'.hok,f',hE⟩
end
end R
end
section
namespace R
open PySem PySem.Spec PyProof.Rows L2
noncomputable abbrev bmV:List Value:=[.type "ValueError",.type "Exception",.type "BaseException",.type "object"]
noncomputable def excJ (K:PySem.W.Frag)(C fI:Addr):Bool:=match K.lookup C with
 | some ⟨.type "type", _, .cls cd, sl⟩ => (match cd.mro, sl.toList with
   |.ref D::bm,[_,_,_,_,some (.builtin n),_]=>D == C&&(n == "ValueError.__new__"&&(!cd.hasDel&&(PySem.W.tailIn K bmV bm&&(PySem.W.nsOkIn K cd.ns&&PySem.W.nsIn K cd.ns "__init__" == some (some (.ref fI))))))
   |_,_=>false)
 |_=>false
structure XcAt (h:Heap) (C fI:Addr):Prop where
 ex:∃(nm q:Str) (N:Addr) (bs bm:List Value) (hdct:Bool) (sn:List Str) (sub:List Value) (ab:Bool) (col:Option Bool) (dd:Option Addr) (k0 k1 k2 k3 k5:Option Value) (mN:Str->Option Value),
  h.get? C=some (excClassObj nm q C N bs bm hdct sn sub ab col dd k0 k1 k2 k3 k5 "ValueError.__new__")/\h.Ns N mN/\mN "__init__"=some (.ref fI)/\OwnTail h bmV bm
theorem zj8 {K:PySem.W.Frag}{h:Heap}{N:Addr}{m:Str->Option Value}{x:Str}{v:Value}(X:K.In h)(G:h.Ns N m)(e:PySem.W.nsIn K N x=some (some v)):m x=some v:=by
 obtain⟨o,es,ep,ho,hd,_,hf⟩:=G
 unfold PySem.W.nsIn at e
 split at e
 · rename_i e1
   have:=X _ _ e1
   rw[ho] at this;cases this
   cases hd
   split at e
   · rename_i q
     cases e
     rw[<-hf]
     unfold nsFind findBy
     rw[<-Array.find?_toList,q];rfl
   · split at e<;>cases e
 · cases e
theorem zje {K:PySem.W.Frag}{h:Heap}{C fI:Addr}(X:K.In h)(q:excJ K C fI=true):XcAt h C fI:=by
 unfold excJ at q
 split at q
 · rename_i dd cd sl ho
   split at q
   · rename_i D bm k0 k1 k2 k3 n k5 hm hs
     simp only[Bool.and_eq_true,beq_iff_eq,Bool.not_eq_true'] at q
     obtain⟨rfl,rfl,hdel,ht,hok,hi⟩:=q
     obtain⟨nm,bs,mro,ns,qn,hd,sn,sub,ab,col,del⟩:=cd
     dsimp only at hm hdel hok hi
     subst hm hdel
     obtain⟨l⟩:=sl
     dsimp only at hs
     subst hs
     exact⟨nm,qn,ns,bs,bm,hd,sn,sub,ab,col,dd,k0,k1,k2,k3,k5,_,X _ _ ho,.of_isNs (PySem.W.isNs_of_in X hok),zj8 X (.of_isNs (PySem.W.isNs_of_in X hok)) hi,PySem.W.tail_of_in X ht⟩
   · cases q
 · cases q
structure Xc (K:PySem.W.Frag) (C fI:Addr) (f:Str):Prop where
 ex:excJ K C fI=true
 fn:PySem.W.isFn K (.ref fI)=true
 sa:PySem.W.findIn K (.ref C) "__setattr__"=some (some (.builtin "object.__setattr__"))
 po:zgA K C=true
 hd:PySem.W.hasDictIn K C=true
 no:zcH K C f
section
variable {X:Cx} {pins:List (Addr × Obj)} {σ:L2.St} {H:Hp} {s:Shared} {e C fI:Addr} {f:Str}
theorem zkX {H:Hp}{a:Addr}{o:HO}(h:H a=some o):upd H a o=H:=by
 funext b;unfold upd;split
 · rename_i z;rw[z,h]
 · rfl
theorem zkl {v:Value}{Q:Value->Shared->Prop}(I:Inv X pins σ H s)(x:excJ X.K C fI=true)(he:H e=some (XN e C))(h:∀s',Inv X pins σ H s'->Q .none s') :
  wpAny (model X.prog X.w) X.A (call (.builtin "ValueError.__init__") [.ref e,v]) Q X.xe s:=by
 obtain⟨nm,q,N,bs,bm,hdct,sn,sub,ab,col,dd,k0,k1,k2,k3,k5,mN,hC,hn,hi,T⟩:=(zje I.kIn x).ex
 obtain⟨⟨t,et⟩,_⟩:=(show ObjOk X.prog X.w H s.heap e (XN e C) from I.hok e _ he)
 obtain⟨hh,g,d,tk,os⟩:=s
 refine ziu F.excBase_ValueError T hC et fun h' t1 k1 k2=>h _ ?_
 have:=I.write (x:=e) (e:=e) (o:=XN e C) (t':=tk) (h':=h') (by rw[he];exact True.intro) (.inl rfl) k1 ⟨_,k2⟩ (XN.ok k2)
 rw[zkX he] at this
 exact this
theorem zkK {u:Value}{v:V}{Q:Unit->Shared->Prop}(I:Inv X pins σ H s)(c:Xc X.K C fI f)(he:H e=some (XN e C))(rv:RelV v u)
  (h:∀dx od s',H dx=none->dx≠e->Inv X pins σ (upd (upd H dx (.frz od (.xd [(f,v)]))) e (XD e C dx)) s'->Q () s'):wpAny (model X.prog X.w) X.A (setAttr (.ref e) f u) Q X.xe s:=by
 obtain⟨⟨t,et⟩,_⟩:=(show ObjOk X.prog X.w H s.heap e (XN e C) from I.hok e _ he)
 have lt:=Heap.lt_size et
 refine zg9 (C:=C) (K:=X.K) I.kIn et rfl rfl rfl c.sa c.po c.no c.hd fun h' k1 k2 k3=>?_
 obtain⟨od,es,ep,ho,r⟩:=id k2
 have ne:s.heap.objs.size≠e:=Nat.ne_of_gt lt
 refine h s.heap.objs.size od _ (I.hok.fresh (Nat.le_refl _)) ne ?_
 -- first the dict,then the exception
 have un:Un X.fs [] H (upd (upd H s.heap.objs.size (.frz od (.xd [(f,v)]))) e (XD e C s.heap.objs.size)) s.heap h':=by
  refine⟨fun b o q n _ _=>k3 b o (fun z=>by rw[z,he] at n;cases n) q,fun b o q n _ _=>⟨o.slots,k3 b o (fun z=>by rw[z,he] at n;cases n) q⟩,fun b o q n _=>?_,fun b o q _=>?_,fun b xs q=>?_,fun b o u q=>?_,fun b ps q=>?_⟩
  · rw[zah (fun z=>by rw[z,he] at n;cases n),zah (Nat.ne_of_lt (Heap.lt_size q))];exact n
  · by_cases hb:b=e
    · subst hb;exact⟨_,k1⟩
    · exact⟨o,k3 b o hb q⟩
  · have lb:=I.hok.lt q
    rw[zah (fun z=>by rw[z,he] at q;cases q),zah (Nat.ne_of_lt lb)];exact q
  · have lb:=I.hok.lt q
    rw[zah (fun z=>by rw[z,he] at q;cases q),zah (Nat.ne_of_lt lb)];exact q
  · have lb:=I.hok.lt q
    refine⟨#[],?_⟩
    rw[zah (fun z=>by rw[z,he] at q;cases q),zah (Nat.ne_of_lt lb),q];simp
 refine I.un (t':=s.toks+2) un fun b o q=>?_
 by_cases hb:b=e
 · subst hb
   rw[zak] at q;cases q
   exact XD.ok k1
 · rw[zah hb] at q
   by_cases hd:b=s.heap.objs.size
   · subst hd
     rw[zak] at q;cases q
     refine⟨ho,_,k2,fun g=>?_⟩
     by_cases hg:g=f
     · subst hg;simp[RelO,rv]
     · have:(g == f)=false:=by simpa using hg
       simp[RelO,List.lookup,this,hg]
   · rw[zah hd] at q
     have lb:=I.hok.lt q
     refine (I.hok b o q).stay (fun c w hc qc=>k3 c w (fun z=>?_) qc) (fun c hc=>?_) fun c xs hc=>?_
     · rcases hc with y|y
       · exact hb (y.symm.trans z)
       · rw[z,he] at y;cases y
     · have lc:=I.hok.lt hc
       rw[zah (fun z=>by rw[z,he] at hc;cases hc),zah (Nat.ne_of_lt lc)];exact hc
     · have lc:=I.hok.lt hc
       rw[zah (fun z=>by rw[z,he] at hc;cases hc),zah (Nat.ne_of_lt lc)];exact hc
end
structure XUp (K:PySem.W.Frag) (mg:Str->Option Value) (xR:Str):Prop where
 ex:∃CR:Addr,mg xR=some (.ref CR)/\PySem.W.specialIn K (.ref CR) "__getattribute__"=some (some (.builtin "type.__getattribute__"))/\PySem.W.readsIn K CR (.type "type")=true/\PySem.W.findCls K (.ref CR) (.type "type") "__init__"=some (.val (.builtin "ValueError.__init__"))
structure XSt (st:Stmt) (xR y f:Str):Prop where
 body:∃(txt:Str) (j:Nat) (p1 p2 p3 p4 p5 p6 p7 p8 p9 p10:Pos),zap st=[.Expr (.Call (.Attribute (.Name xR p1) "__init__" p2) [.Name "self" p3,.Constant (.str txt) j p4] [] p5) p6,.Assign [.Attribute (.Name "self" p7) f p8] (.Name y p9) p10]/\(p2.endLine == p5.line)=true
 sc:FnScope ["self",y] ["self",y] (zae st)
 v1:(zae st).names.lookup ("self":Str)=some .local
 v2:(zae st).names.lookup y=some .local
 gl:(zae st).names.lookup xR=some .globalImplicit
 n1:(xR == ("__debug__":Str))=false
 n2:(y == ("__debug__":Str))=false/\(y == ("__classdict__":Str))=false
noncomputable def spI (K:PySem.W.Frag)(fI:Addr)(f:Str):Sp:=fun vs H Q _=>∃e C v,vs=[.ref e,v]/\H e=some (XN e C)/\Xc K C fI f/\∀dx od,H dx=none->dx≠e->Q .non (upd (upd H dx (.frz od (.xd [(f,v)]))) e (XD e C dx))
structure XGet (K:PySem.W.Frag) (C:Addr):Prop where
 ga:PySem.W.findIn K (.ref C) "__getattribute__"=some (some (.builtin "BaseException.__getattribute__"))
 gh:PySem.W.findIn K (.ref C) "__getattr__"=some none
 sb:PySem.W.mroIn K C (.type "BaseException")=some true
 hd:PySem.W.hasDictIn K C=true
end R
end
section
namespace R
open PySem L2
noncomputable def KL (K:PySem.W.Frag)(a:Addr)(xs:List V):Prop:=∃(o:Obj) (its:Array Value) (n:Nat),K.lookup a=some o/\o.cls=.type "list"/\o.dict=none/\o.data=.seq its n/\its.size<=sizeLine/\Vals xs its.toList
noncomputable def FixL (K:PySem.W.Frag)(H:Hp)(a:Addr)(xs:List V):Prop:=(∃o,H a=some (.frz o (.lst xs)))\/KL K a xs
theorem FixL.sq {K:PySem.W.Frag}{H:Hp}{a:Addr}{xs:List V}(h:FixL K H a xs):SqL K H a xs:=h.elim (fun⟨o,e⟩=>.inl (.inr ⟨o,e⟩)) .inr
noncomputable abbrev arrN:Str:="word_on_arrival"
noncomputable abbrev arrQ:Str:="road.<locals>.word_on_arrival"
structure CloSt (st:Stmt):Prop where
 body:∃(x6:Nat) (p1 p2 p3 p4 p5 p6 p7 p8 p9:Pos),zap st=[.Return (some (.Call (.Attribute (.Name "last" p1) "get" p2) [.Tuple [.Name "turn" p3,.Name "path" p4,.Name "to" p5] x6 p6,.Name "word" p7] [] p8)) p9]/\(p2.endLine == p8.line)=true
 kind:(zae st).kind=.function
 co:(zae st).isCoroutine=false
 gen:(zae st).isGenerator=false
 cell:∀y∈(zae st).names,y.2≠.cell
 free:∀y∈(zae st).names,y.2=.free->y.1=("last":Str)
 l0:(zae st).names.lookup ("turn":Str)=some .local
 l1:(zae st).names.lookup ("path":Str)=some .local
 l2:(zae st).names.lookup ("to":Str)=some .local
 l3:(zae st).names.lookup ("word":Str)=some .local
 l4:(zae st).names.lookup ("last":Str)=some .free
 bind:∀(cl:List (Str × Addr)) (doc pm cd ct a b c d:Value),bindArgs (PySem.W.fnX arrN arrQ (zav st) (zap st) (zae st) cl .none .none doc pm none cd ct) ⟨[a,b,c,d],[]⟩=pure [(("turn":Str),a),(("path":Str),b),(("to":Str),c),(("word":Str),d)]
 text:∃pos:Pos,st=.FunctionDef arrN (zav st) (zap st) [] none [] (zae st) none arrN pos
 d0:(zav st).defaults=[]
 k0:(zav st).kw_defaults=[]
 an:∀env:Env,annTrees (zav st) none env=[]
 clo:∀(env:Env) (c:Addr),env.cells.lookup ("last":Str)=some c->closureFor (zae st) env=pure [(("last":Str),c)]
noncomputable def RsOk:Option Stmt->Prop
 |none=>True
 |some st=>CloSt st
class Mks where
 ts:List (Addr × Str)
 cl:List Addr
 xc:List Addr:=[]
 rs:Option Stmt
 ro:RsOk rs
variable [Mks]
noncomputable def TabIn (H:Hp)(P:Addr)(q:Str):Prop:=∃ps:Array Value,H P=some (.tbl ps)/\TriplesOk ps.toList/\
 ∀(pos:Pos) (v:Value),codeAmong pos ps.toList=some v->∃(c:Addr) (oc:Obj) (vs:Array Value) (t:Tok),v=.ref c/\H c=some (.frz oc (.own 0))/\oc.data=.fields vs/\vs[1]?=some (.str q t)
theorem TabIn.up {H H':Hp}{P:Addr}{q:Str}(t:TabIn H P q)(e:H' P=H P)(f:∀b o u,H b=some (.frz o u)->H' b=some (.frz o u)):TabIn H' P q:=by
 obtain⟨ps,h1,h2,h3⟩:=t
 refine⟨ps,by rw[e];exact h1,h2,fun pos v hv=>?_⟩
 obtain⟨c,oc,vs,t,a1,a2,a3⟩:=h3 pos v hv
 exact⟨c,oc,vs,t,a1,f _ _ _ a2,a3⟩
noncomputable def TB (H:Hp):Prop:=∀p∈Mks.ts,TabIn H p.1 p.2
structure Kp (H H':Hp):Prop where
 tups:Tups H H'
 frzs:∀b o u,H b=some (.frz o u)->H' b=some (.frz o u)
 tab:TB H->TB H'
theorem Kp.refl (H:Hp):Kp H H:=⟨Tups.refl H,fun _ _ _ h=>h,fun h=>h⟩
theorem Kp.trans {H H1 H2:Hp}(a:Kp H H1)(b:Kp H1 H2):Kp H H2:=⟨a.tups.trans b.tups,fun c o u h=>b.frzs c o u (a.frzs c o u h),fun h=>b.tab (a.tab h)⟩
theorem Kp.same {H H':Hp}(a:Tups H H')(b:∀b o u,H b=some (.frz o u)->H' b=some (.frz o u))(c:∀P ps,H P=some (.tbl ps)->H' P=some (.tbl ps)):Kp H H':=
 ⟨a,b,fun h p hp=>by
  obtain⟨ps,h1,_⟩:=id (h p hp)
  exact (h p hp).up ((c _ _ h1).trans h1.symm) b⟩
theorem FixL.kp {K:PySem.W.Frag}{H H':Hp}{a:Addr}{xs:List V}(h:FixL K H a xs)(k:Kp H H'):FixL K H' a xs:=h.elim (fun⟨o,e⟩=>.inl ⟨o,k.frzs _ _ _ e⟩) .inr
noncomputable def vW:Option Int->V
 |none=>.non
 |some i=>.int i
noncomputable def W3s (H:Hp):List (K3 × Option Int)->List (K3 × Addr × V)->Prop
 | [],ws=>ws=[]
 |(k,o)::r,ws=>∃c w,ws=(k,c,vW o)::w/\Key3 H k c/\W3s H r w
theorem W3s.up {H H':Hp}(ht:∀b xs,H b=some (.tup xs)->H' b=some (.tup xs)):∀{kvs:List (K3 × Option Int)} {ws:List (K3 × Addr × V)},W3s H kvs ws->W3s H' kvs ws
 | [],_,r=>r
 | (k, o) :: kvs, ws, r => by
   obtain⟨c,w,e,r0,r2⟩:=r
   exact⟨c,w,e,r0.up ht,W3s.up ht r2⟩
noncomputable def CloF (H:Hp)(f c:Addr):Prop:=∃(st:Stmt) (pm ct doc:Value) (c':Addr) (oc:Obj) (vs:Array Value) (t:Tok),Mks.rs=some st/\H f=some (.frz (PySem.W.fnMade arrN arrQ (zav st) (zap st) (zae st) [(("last":Str),c)] doc pm c' ct) (.own 0))/\H c'=some (.frz oc (.own 0))/\oc.data=.fields vs/\vs[1]?=some (.str arrQ t)
noncomputable def CloAt (H:Hp)(f:Addr)(kvs:List (K3 × Option Int)):Prop:=∃(c d:Addr) (ou od:Obj) (ws:List (K3 × Addr × V)),CloF H f c/\H c=some (.frz ou (.own 0))/\ou.data=.cell (some (.ref d))/\H d=some (.frz od (.ext (TriO d ws)))/\W3s H kvs ws
theorem CloF.up {H H':Hp}{f c:Addr}(h:CloF H f c)(k:∀b o u,H b=some (.frz o u)->H' b=some (.frz o u)):CloF H' f c:=by
 obtain⟨st,pm,ct,doc,c',oc,vs,t,h0,h1,h2,h3⟩:=h
 exact⟨st,pm,ct,doc,c',oc,vs,t,h0,k _ _ _ h1,k _ _ _ h2,h3⟩
theorem CloAt.kp {H H':Hp}{f:Addr}{kvs:List (K3 × Option Int)}(h:CloAt H f kvs)(k:Kp H H'):CloAt H' f kvs:=by
 obtain⟨c,d,ou,od,ws,h1,h2,h3,h4,h5⟩:=h
 exact⟨c,d,ou,od,ws,h1.up k.frzs,k.frzs _ _ _ h2,h3,k.frzs _ _ _ h4,h5.up k.tups⟩
mutual
noncomputable def RV (K:PySem.W.Frag)(ι:List Addr)(H:Hp):D->V->Prop
 |.non,v=>v=.non
 |.bl b,v=>v=.bl b
 |.int i,v=>v=.int i
 |.str x,v=>v=.str x
 |.tup ds,v=>∃a xs,v=.ref a/\H a=some (.tup xs)/\RVs K ι H ds xs
 |.ref l,v=>∃a,ι[l]?=some a/\v=.ref a
 |.fix ds,v=>∃a xs,v=.ref a/\FixL K H a xs/\RVs K ι H ds xs
 |.clo kvs,v=>∃f,v=.ref f/\CloAt H f kvs
noncomputable def RVs (K:PySem.W.Frag)(ι:List Addr)(H:Hp):List D->List V->Prop
 | [],vs=>vs=[]
 |d::ds,vs=>∃v r,vs=v::r/\RV K ι H d v/\RVs K ι H ds r
end
noncomputable def kI (k:List Int):List Key:=k.map Sum.inl
noncomputable def RKs (K:PySem.W.Frag)(ι:List Addr)(H:Hp):List (List Int × D)->List (List Key × V)->Prop
 | [],ws=>ws=[]
 |(k,d)::r,ws=>∃v w,ws=(kI k,v)::w/\RV K ι H d v/\RKs K ι H r w
noncomputable def RIs (K:PySem.W.Frag)(ι:List Addr)(H:Hp):List (Int × D)->List (Key × V)->Prop
 | [],ws=>ws=[]
 |(k,d)::r,ws=>∃v w,ws=((Sum.inl k:Key),v)::w/\RV K ι H d v/\RIs K ι H r w
noncomputable def R3s (K:PySem.W.Frag)(ι:List Addr)(H:Hp):List (K3 × D)->List (K3 × Addr × V)->Prop
 | [],ws=>ws=[]
 |(k,d)::r,ws=>∃c v w,ws=(k,c,v)::w/\Key3 H k c/\RV K ι H d v/\R3s K ι H r w
noncomputable def RFs (K:PySem.W.Frag)(ι:List Addr)(H:Hp):List (Str × D)->List (Str × V)->Prop
 | [],ws=>ws=[]
 |(f,d)::r,ws=>∃v w,ws=(f,v)::w/\RV K ι H d v/\RFs K ι H r w
noncomputable def RO (K:PySem.W.Frag)(ι:List Addr)(H:Hp)(a:Addr):MO->Prop
 |.lst ds=>∃xs,H a=some (.lst xs)/\RVs K ι H ds xs
 |.dic kvs=>(kvs.map (·.1)).Nodup/\∃ws,H a=some (.dK ws)/\RIs K ι H kvs ws
 |.ins c fs=>∃C dx ws,Mks.cl[c]?=some C/\H a=some (.ins C dx ws)/\RFs K ι H fs ws
 |.dtp kvs=>(kvs.map (·.1)).Nodup/\∃ws,H a=some (.dT ws)/\RKs K ι H kvs ws
 |.d3 kvs=>(kvs.map (·.1)).Nodup/\∃ws,H a=some (.ext (TriO a ws))/\R3s K ι H kvs ws
 |.exc c fs=>∃C dx od ws,Mks.xc[c]?=some C/\H a=some (XO a C dx)/\H dx=some (.frz od (.xd ws))/\RFs K ι H fs ws
structure RH (K:PySem.W.Frag) (ι:List Addr) (H:Hp) (S:St):Prop where
 len:ι.length=S.len
 nd:ι.Nodup
 obj:∀l o,S.get l=some o->∃a,ι[l]?=some a/\RO K ι H a o
 tab:TB H
structure Ext (ι:List Addr) (H:Hp) (ι':List Addr) (H':Hp):Prop where
 pre:ι <+: ι'
 kp:Kp H H'
 rest:∀a o,a∉ι->H a=some o->(H' a=some o\/((∃ps,o=.tbl ps)/\∃ps,H' a=some (.tbl ps)))/\a∉ι'
theorem Ext.refl (ι:List Addr)(H:Hp):Ext ι H ι H:=⟨List.prefix_refl _,Kp.refl H,fun a o h e=>⟨.inl e,h⟩⟩
theorem Ext.trans {ι ι1 ι2:List Addr}{H H1 H2:Hp}(a:Ext ι H ι1 H1)(b:Ext ι1 H1 ι2 H2):Ext ι H ι2 H2:=
 ⟨a.pre.trans b.pre,a.kp.trans b.kp,fun x o h e=>by
  obtain⟨e1,h1⟩:=a.rest x o h e
  rcases e1 with e1|⟨t,ps,e1⟩
  · exact b.rest x o h1 e1
  · obtain⟨e2,h2⟩:=b.rest x _ h1 e1
    refine⟨.inr ⟨t,?_⟩,h2⟩
    rcases e2 with e2|⟨_,e2⟩
    · exact⟨ps,e2⟩
    · exact e2⟩
theorem Ext.keep {ι ι1:List Addr}{H H1:Hp}(x:Ext ι H ι1 H1){a:Addr}{o:HO}(h:a∉ι)(e:H a=some o)(n:∀ps,o≠.tbl ps):H1 a=some o:=
 (x.rest a o h e).1.elim id fun⟨⟨ps,z⟩,_⟩=>absurd z (n ps)
theorem zbX {ι ι':List Addr}(h:ι <+: ι'){l:Nat}{a:Addr}(e:ι[l]?=some a):ι'[l]?=some a:=by
 obtain⟨t,rfl⟩:=h
 rw[List.getElem?_append_left (List.getElem?_eq_some_iff.mp e).1]
 exact e
mutual
theorem RV.up {K:PySem.W.Frag}{ι ι':List Addr}{H H':Hp}(hp:ι <+: ι')(hk:Kp H H'):∀{d:D} {v:V},RV K ι H d v->RV K ι' H' d v
 |.non,_,r=>r
 |.bl _,_,r=>r
 |.int _,_,r=>r
 |.str _,_,r=>r
 | .tup ds, _, r => by
   obtain⟨a,xs,e,ha,q⟩:=r
   exact⟨a,xs,e,hk.tups _ _ ha,RVs.up hp hk q⟩
 | .ref l, _, r => by
   obtain⟨a,e,q⟩:=r
   exact⟨a,zbX hp e,q⟩
 | .fix ds, _, r => by
   obtain⟨a,xs,e,ha,q⟩:=r
   exact⟨a,xs,e,ha.kp hk,RVs.up hp hk q⟩
 | .clo kvs, _, r => by
   obtain⟨f,e,h⟩:=r
   exact⟨f,e,h.kp hk⟩
theorem RVs.up {K:PySem.W.Frag}{ι ι':List Addr}{H H':Hp}(hp:ι <+: ι')(hk:Kp H H'):∀{ds:List D} {vs:List V},RVs K ι H ds vs->RVs K ι' H' ds vs
 | [],_,r=>r
 | d :: ds, vs, r => by
   obtain⟨v,w,e,r1,r2⟩:=r
   exact⟨v,w,e,RV.up hp hk r1,RVs.up hp hk r2⟩
end
theorem RKs.up {K:PySem.W.Frag}{ι ι':List Addr}{H H':Hp}(hp:ι <+: ι')(hk:Kp H H'):∀{kvs:List (List Int × D)} {ws:List (List Key × V)},RKs K ι H kvs ws->RKs K ι' H' kvs ws
 | [],_,r=>r
 | (k, d) :: kvs, ws, r => by
   obtain⟨v,w,e,r1,r2⟩:=r
   exact⟨v,w,e,RV.up hp hk r1,RKs.up hp hk r2⟩
theorem RIs.up {K:PySem.W.Frag}{ι ι':List Addr}{H H':Hp}(hp:ι <+: ι')(hk:Kp H H'):∀{kvs:List (Int × D)} {ws:List (Key × V)},RIs K ι H kvs ws->RIs K ι' H' kvs ws
 | [],_,r=>r
 | (k, d) :: kvs, ws, r => by
   obtain⟨v,w,e,r1,r2⟩:=r
   exact⟨v,w,e,RV.up hp hk r1,RIs.up hp hk r2⟩
theorem R3s.up {K:PySem.W.Frag}{ι ι':List Addr}{H H':Hp}(hp:ι <+: ι')(hk:Kp H H'):∀{kvs:List (K3 × D)} {ws:List (K3 × Addr × V)},R3s K ι H kvs ws->R3s K ι' H' kvs ws
 | [],_,r=>r
 | (k, d) :: kvs, ws, r => by
   obtain⟨c,v,w,e,r0,r1,r2⟩:=r
   exact⟨c,v,w,e,r0.up hk.tups,RV.up hp hk r1,R3s.up hp hk r2⟩
theorem R3s.length {K:PySem.W.Frag}{ι:List Addr}{H:Hp}:∀{kvs:List (K3 × D)} {ws:List (K3 × Addr × V)},R3s K ι H kvs ws->ws.length=kvs.length
 | [],_,r=>by rw[show _=[] from r];rfl
 | (k, d) :: kvs, ws, r => by
   obtain⟨c,v,w,rfl,_,_,r2⟩:=r
   simp[R3s.length r2]
theorem R3s.keys {K:PySem.W.Frag}{ι:List Addr}{H:Hp}:∀{kvs:List (K3 × D)} {ws:List (K3 × Addr × V)},R3s K ι H kvs ws->ws.map (·.1)=kvs.map (·.1)
 | [],_,r=>by rw[show _=[] from r];rfl
 | (k, d) :: kvs, ws, r => by
   obtain⟨c,v,w,rfl,_,_,r2⟩:=r
   simp[R3s.keys r2]
theorem R3s.triK {K:PySem.W.Frag}{ι:List Addr}{H:Hp}:∀{kvs:List (K3 × D)} {ws:List (K3 × Addr × V)},R3s K ι H kvs ws->TriK H ws
 | [],_,r=>by rw[show _=[] from r];intro x hx;cases hx
 | (k, d) :: kvs, ws, r => by
   obtain⟨c,v,w,rfl,r0,_,r2⟩:=r
   intro x hx
   rcases List.mem_cons.mp hx with e|e
   · subst e;exact r0
   · exact R3s.triK r2 x e
theorem R3s.put {K:PySem.W.Frag}{ι:List Addr}{H:Hp}{k:K3}{c:Addr}{d:D}{v:V}(q:RV K ι H d v)(hc:Key3 H k c){kvs:List (K3 × D)}{ws:List (K3 × Addr × V)}(r:R3s K ι H kvs ws):R3s K ι H (zgs kvs k d) (put3 ws k c v):=by
 unfold zgs put3
 rw[r.keys]
 split
 · rename_i hm;clear hm
   induction kvs generalizing ws with
   |nil=>rw[show ws=[] from r];rfl
   | cons x kvs ih =>
     obtain⟨j,e⟩:=x
     obtain⟨c',u,w,rfl,r0,r1,r2⟩:=r
     rw[List.map_cons,List.map_cons]
     by_cases z:j=k
     · rw[if_pos z,if_pos z]
       exact⟨c',v,_,rfl,r0,q,ih r2⟩
     · rw[if_neg z,if_neg z]
       exact⟨c',u,_,rfl,r0,r1,ih r2⟩
 · rename_i hm;clear hm
   induction kvs generalizing ws with
   |nil=>rw[show ws=[] from r];exact⟨c,v,[],rfl,hc,q,rfl⟩
   | cons x kvs ih =>
     obtain⟨j,e⟩:=x
     obtain⟨c',u,w,rfl,r0,r1,r2⟩:=r
     exact⟨c',u,_,rfl,r0,r1,ih r2⟩
theorem zev {k:K3}{d:D}{kvs:List (K3 × D)}(h:(kvs.map (·.1)).Nodup):((zgs kvs k d).map (·.1)).Nodup:=by
 unfold zgs
 split
 · rw[List.map_map,show ((fun x:K3 × D=>x.1)∘fun x=>if x.1=k then (x.1,d) else x)=fun x=>x.1 from by funext x;show (if x.1=k then (x.1,d) else x).1=x.1;split<;>rfl]
   exact h
 · rename_i n
   rw[List.map_append,List.nodup_append]
   refine⟨h,by simp,fun a ha b hb=>?_⟩
   simp only[List.map_cons,List.map_nil,List.mem_singleton] at hb
   subst hb
   exact fun z=>n (z▸ha)
theorem RFs.up {K:PySem.W.Frag}{ι ι':List Addr}{H H':Hp}(hp:ι <+: ι')(hk:Kp H H'):∀{fs:List (Str × D)} {ws:List (Str × V)},RFs K ι H fs ws->RFs K ι' H' fs ws
 | [],_,h=>h
 | (f, d) :: r, _, h => by
   obtain⟨v,w,e,r1,r2⟩:=h
   exact⟨v,w,e,RV.up hp hk r1,RFs.up hp hk r2⟩
theorem RFs.look {K:PySem.W.Frag}{ι:List Addr}{H:Hp}(f:Str):∀{fs:List (Str × D)} {ws:List (Str × V)},RFs K ι H fs ws->(fs.lookup f=none/\ws.lookup f=none)\/∃d v,fs.lookup f=some d/\ws.lookup f=some v/\RV K ι H d v
 | [],_,h=>by cases (show _=[] from h);exact .inl ⟨rfl,rfl⟩
 | (g, d) :: r, _, h => by
   obtain⟨v,w,rfl,r1,r2⟩:=h
   by_cases c:(f == g)=true
   · exact .inr ⟨d,v,by simp only[List.lookup,c],by simp only[List.lookup,c],r1⟩
   · have c:(f == g)=false:=by simpa using c
     simp only[List.lookup,c]
     exact RFs.look f r2
theorem zgN {j k:List Int}(h:kI j=kI k):j=k:=by
 unfold kI at h
 exact (List.map_inj_right (fun a b e=>Sum.inl.inj e)).mp h
theorem RKs.length {K:PySem.W.Frag}{ι:List Addr}{H:Hp}:∀{kvs:List (List Int × D)} {ws:List (List Key × V)},RKs K ι H kvs ws->ws.length=kvs.length
 | [],_,r=>by rw[show _=[] from r];rfl
 | (k, d) :: kvs, ws, r => by
   obtain⟨v,w,rfl,_,r2⟩:=r
   simp[RKs.length r2]
theorem RIs.length {K:PySem.W.Frag}{ι:List Addr}{H:Hp}:∀{kvs:List (Int × D)} {ws:List (Key × V)},RIs K ι H kvs ws->ws.length=kvs.length
 | [],_,r=>by rw[show _=[] from r];rfl
 | (k, d) :: kvs, ws, r => by
   obtain⟨v,w,rfl,_,r2⟩:=r
   simp[RIs.length r2]
theorem RKs.val {K:PySem.W.Frag}{ι:List Addr}{H:Hp}(k:List Int):∀{kvs:List (List Int × D)} {ws:List (List Key × V)},RKs K ι H kvs ws->(valP kvs k=none/\valV ws (kI k)=none)\/∃d v,valP kvs k=some d/\valV ws (kI k)=some v/\RV K ι H d v
 | [],_,r=>by rw[show _=[] from r];exact .inl ⟨rfl,rfl⟩
 | (j, d) :: kvs, ws, r => by
   obtain⟨v,w,rfl,r1,r2⟩:=r
   by_cases e:j=k
   · subst e
     exact .inr ⟨d,v,by simp[valP],by simp[valV],r1⟩
   · have e':¬kI j=kI k:=fun z=>e (zgN z)
     have h1:valP ((j,d)::kvs) k=valP kvs k:=by simp[valP,e]
     have h2:valV ((kI j,v)::w) (kI k)=valV w (kI k):=by simp[valV,e']
     rw[h1,h2]
     exact RKs.val k r2
theorem zdL {κ:Type}[DecidableEq κ]{x:κ × V}{r:List (κ × V)}{k:κ}{v:V}(h:x.1≠k):putK (x::r) k v=x::putK r k v:=by
 unfold putK
 have:decide (x.1=k)=false:=decide_eq_false h
 simp only[List.any_cons,this,Bool.false_or]
 split
 · rw[List.map_cons,if_neg h]
 · rfl
theorem RKs.keys {K:PySem.W.Frag}{ι:List Addr}{H:Hp}:∀{kvs:List (List Int × D)} {ws:List (List Key × V)},RKs K ι H kvs ws->ws.map (·.1)=kvs.map (fun p=>kI p.1)
 | [],_,r=>by rw[show _=[] from r];rfl
 | (k, d) :: kvs, ws, r => by
   obtain⟨v,w,rfl,_,r2⟩:=r
   simp[RKs.keys r2]
theorem RIs.keys {K:PySem.W.Frag}{ι:List Addr}{H:Hp}:∀{kvs:List (Int × D)} {ws:List (Key × V)},RIs K ι H kvs ws->ws.map (·.1)=kvs.map (fun p=>(Sum.inl p.1:Key))
 | [],_,r=>by rw[show _=[] from r];rfl
 | (k, d) :: kvs, ws, r => by
   obtain⟨v,w,rfl,_,r2⟩:=r
   simp[RIs.keys r2]
theorem RKs.put {K:PySem.W.Frag}{ι:List Addr}{H:Hp}(k:List Int){d:D}{v:V}(q:RV K ι H d v):∀{kvs:List (List Int × D)} {ws:List (List Key × V)},(kvs.map (·.1)).Nodup->RKs K ι H kvs ws->RKs K ι H (putP kvs k d) (putK ws (kI k) v)
 | [],_,_,r=>by rw[show _=[] from r];exact⟨v,[],rfl,q,rfl⟩
 | (j, e) :: kvs, ws, nd, r => by
   obtain⟨u,w,rfl,r1,r2⟩:=r
   simp only[List.map_cons,List.nodup_cons] at nd
   by_cases z:j=k
   · subst z
     have h1:putP ((j,e)::kvs) j d=(j,d)::kvs:=by simp[putP]
     have h2:putK ((kI j,u)::w) (kI j) v=(kI j,v)::w:=by
      unfold putK
      have:(((kI j,u)::w).any fun kv=>decide (kv.1=kI j))=true:=by simp
      rw[if_pos this,List.map_cons,if_pos rfl,List.map_congr_left (g:=id),List.map_id]
      intro kv hkv
      have hm:kv.1∈w.map (·.1):=List.mem_map.mpr ⟨kv,hkv,rfl⟩
      rw[r2.keys] at hm
      obtain⟨p,hp,ep⟩:=List.mem_map.mp hm
      have:kv.1≠kI j:=fun y=>nd.1 (by
       rw[<-ep] at y
       rw[<-zgN y]
       exact List.mem_map.mpr ⟨p,hp,rfl⟩)
      simp[this]
     rw[h1,h2]
     exact⟨v,w,rfl,q,r2⟩
   · have h1:putP ((j,e)::kvs) k d=(j,e)::putP kvs k d:=by simp[putP,z]
     have h2:putK ((kI j,u)::w) (kI k) v=(kI j,u)::putK w (kI k) v:=zdL fun y=>z (zgN y)
     rw[h1,h2]
     exact⟨u,_,rfl,r1,RKs.put k q nd.2 r2⟩
theorem RIs.put {K:PySem.W.Frag}{ι:List Addr}{H:Hp}(k:Int){d:D}{v:V}(q:RV K ι H d v):∀{kvs:List (Int × D)} {ws:List (Key × V)},(kvs.map (·.1)).Nodup->RIs K ι H kvs ws->RIs K ι H (putI kvs k d) (putK ws (Sum.inl k:Key) v)
 | [],_,_,r=>by rw[show _=[] from r];exact⟨v,[],rfl,q,rfl⟩
 | (j, e) :: kvs, ws, nd, r => by
   obtain⟨u,w,rfl,r1,r2⟩:=r
   simp only[List.map_cons,List.nodup_cons] at nd
   by_cases z:j=k
   · subst z
     have h1:putI ((j,e)::kvs) j d=(j,d)::kvs:=by simp[putI]
     have h2:putK (((Sum.inl j:Key),u)::w) (Sum.inl j:Key) v=((Sum.inl j:Key),v)::w:=by
      unfold putK
      have:((((Sum.inl j:Key),u)::w).any fun kv=>decide (kv.1=(Sum.inl j:Key)))=true:=by simp
      rw[if_pos this,List.map_cons,if_pos rfl,List.map_congr_left (g:=id),List.map_id]
      intro kv hkv
      have hm:kv.1∈w.map (·.1):=List.mem_map.mpr ⟨kv,hkv,rfl⟩
      rw[r2.keys] at hm
      obtain⟨p,hp,ep⟩:=List.mem_map.mp hm
      have:kv.1≠(Sum.inl j:Key):=fun y=>nd.1 (by
       rw[<-ep] at y
       rw[<-Sum.inl.inj y]
       exact List.mem_map.mpr ⟨p,hp,rfl⟩)
      simp[this]
     rw[h1,h2]
     exact⟨v,w,rfl,q,r2⟩
   · have h1:putI ((j,e)::kvs) k d=(j,e)::putI kvs k d:=by simp[putI,z]
     have h2:putK (((Sum.inl j:Key),u)::w) (Sum.inl k:Key) v=((Sum.inl j:Key),u)::putK w (Sum.inl k:Key) v:=zdL fun y=>z (Sum.inl.inj y)
     rw[h1,h2]
     exact⟨u,_,rfl,r1,RIs.put k q nd.2 r2⟩
theorem zdK (k:List Int)(d:D):∀kvs:List (List Int × D),(putP kvs k d).map (·.1)=if k∈kvs.map (·.1) then kvs.map (·.1) else kvs.map (·.1)++[k]
 | []=>by simp[putP]
 | (j, e) :: r => by
   unfold putP
   by_cases z:j=k
   · subst z;simp
   · have ih:=zdK k d r
     rw[if_neg z]
     simp only[List.map_cons,List.mem_cons,ih]
     by_cases h:k∈r.map (·.1)
     · rw[if_pos h,if_pos (.inr h)]
     · rw[if_neg h,if_neg (by rintro (y|y);exact z y.symm;exact h y)];rfl
theorem zfH {k:List Int}{d:D}{kvs:List (List Int × D)}(h:(kvs.map (·.1)).Nodup):((putP kvs k d).map (·.1)).Nodup:=by
 rw[zdK]
 split
 · exact h
 · rename_i n
   rw[List.nodup_append]
   refine⟨h,by simp,fun a ha b hb=>?_⟩
   rw[List.mem_singleton] at hb
   subst hb
   exact fun z=>n (z▸ha)
theorem zdM (k:Int)(d:D):∀kvs:List (Int × D),(putI kvs k d).map (·.1)=if k∈kvs.map (·.1) then kvs.map (·.1) else kvs.map (·.1)++[k]
 | []=>by simp[putI]
 | (j, e) :: r => by
   unfold putI
   by_cases z:j=k
   · subst z;simp
   · have ih:=zdM k d r
     rw[if_neg z]
     simp only[List.map_cons,List.mem_cons,ih]
     by_cases h:k∈r.map (·.1)
     · rw[if_pos h,if_pos (.inr h)]
     · rw[if_neg h,if_neg (by rintro (y|y);exact z y.symm;exact h y)];rfl
theorem zfI {k:Int}{d:D}{kvs:List (Int × D)}(h:(kvs.map (·.1)).Nodup):((putI kvs k d).map (·.1)).Nodup:=by
 rw[zdM]
 split
 · exact h
 · rename_i n
   rw[List.nodup_append]
   refine⟨h,by simp,fun a ha b hb=>?_⟩
   rw[List.mem_singleton] at hb
   subst hb
   exact fun z=>n (z▸ha)
theorem RV.ext {K:PySem.W.Frag}{ι ι':List Addr}{H H':Hp}(h:Ext ι H ι' H'){d:D}{v:V}(r:RV K ι H d v):RV K ι' H' d v:=r.up h.pre h.kp
theorem RVs.ext {K:PySem.W.Frag}{ι ι':List Addr}{H H':Hp}(h:Ext ι H ι' H'){ds:List D}{vs:List V}(r:RVs K ι H ds vs):RVs K ι' H' ds vs:=r.up h.pre h.kp
theorem RVs.length {K:PySem.W.Frag}{ι:List Addr}{H:Hp}:∀{ds:List D} {vs:List V},RVs K ι H ds vs->vs.length=ds.length
 | [],_,r=>by rw[show _=[] from r];rfl
 | d :: ds, vs, r => by
   obtain⟨v,w,rfl,_,r2⟩:=r
   simp[RVs.length r2]
theorem RVs.get {K:PySem.W.Frag}{ι:List Addr}{H:Hp}:∀{ds:List D} {vs:List V} {i:Nat} {d:D},RVs K ι H ds vs->ds[i]?=some d->∃v,vs[i]?=some v/\RV K ι H d v
 | [],_,_,_,_,e=>by simp at e
 | d :: ds, vs, 0, d', r, e => by
   obtain⟨v,w,rfl,r1,_⟩:=r
   simp at e;subst e
   exact⟨v,rfl,r1⟩
 | d :: ds, vs, i + 1, d', r, e => by
   obtain⟨v,w,rfl,_,r2⟩:=r
   obtain⟨u,e1,e2⟩:=RVs.get (i:=i) (d:=d') r2 (by simpa using e)
   exact⟨u,by simpa using e1,e2⟩
theorem RVs.get' {ι:List Addr}{H:Hp}{ds:List D}{vs:List V}{i:Nat}{v:V}(r:RVs K ι H ds vs)(e:vs[i]?=some v):∃d,ds[i]?=some d/\RV K ι H d v:=by
 have hi:i<ds.length:=by rw[<-r.length];exact (List.getElem?_eq_some_iff.mp e).1
 obtain⟨u,e1,e2⟩:=r.get (List.getElem?_eq_getElem hi)
 rw[e] at e1;cases e1
 exact⟨_,List.getElem?_eq_getElem hi,e2⟩
theorem RVs.append {K:PySem.W.Frag}{ι:List Addr}{H:Hp}:∀{ds es:List D} {vs us:List V},RVs K ι H ds vs->RVs K ι H es us->RVs K ι H (ds++es) (vs++us)
 | [],_,_,_,r,q=>by rw[show _=[] from r];exact q
 | d :: ds, es, vs, us, r, q => by
   obtain⟨v,w,rfl,r1,r2⟩:=r
   exact⟨v,w++us,rfl,r1,RVs.append r2 q⟩
theorem RVs.take {K:PySem.W.Frag}{ι:List Addr}{H:Hp}:∀{ds:List D} {vs:List V} (n:Nat),RVs K ι H ds vs->RVs K ι H (ds.take n) (vs.take n)
 |_,_,0,_=>rfl
 | [],_,n+1,r=>by rw[show _=[] from r];rfl
 | d :: ds, vs, n + 1, r => by
   obtain⟨v,w,rfl,r1,r2⟩:=r
   exact⟨v,w.take n,rfl,r1,RVs.take n r2⟩
theorem RVs.drop {K:PySem.W.Frag}{ι:List Addr}{H:Hp}:∀{ds:List D} {vs:List V} (n:Nat),RVs K ι H ds vs->RVs K ι H (ds.drop n) (vs.drop n)
 |_,_,0,r=>r
 | [],_,n+1,r=>by rw[show _=[] from r];rfl
 | d :: ds, vs, n + 1, r => by
   obtain⟨v,w,rfl,r1,r2⟩:=r
   exact RVs.drop n r2
theorem RVs.set {K:PySem.W.Frag}{ι:List Addr}{H:Hp}{d:D}{v:V}(q:RV K ι H d v):∀{ds:List D} {vs:List V} (n:Nat),RVs K ι H ds vs->RVs K ι H (ds.set n d) (vs.set n v)
 | [],_,n,r=>by rw[show _=[] from r];rfl
 | _ :: ds, vs, 0, r => by
   obtain⟨_,w,rfl,r1,r2⟩:=r
   exact⟨v,w,rfl,q,r2⟩
 | _ :: ds, vs, n + 1, r => by
   obtain⟨u,w,rfl,r1,r2⟩:=r
   exact⟨u,w.set n v,rfl,r1,RVs.set q n r2⟩
theorem RVs.erase {K:PySem.W.Frag}{ι:List Addr}{H:Hp}{ds:List D}{vs:List V}(n:Nat)(r:RVs K ι H ds vs):RVs K ι H (ds.eraseIdx n) (vs.eraseIdx n):=by
 rw[List.eraseIdx_eq_take_drop_succ,List.eraseIdx_eq_take_drop_succ]
 exact (r.take n).append (r.drop (n+1))
theorem RVs.ints {K:PySem.W.Frag}{ι:List Addr}{H:Hp}:∀ns:List Int,RVs K ι H (ns.map D.int) (ns.map V.int)
 | []=>rfl
 |n::ns=>⟨_,_,rfl,rfl,RVs.ints ns⟩
theorem RVs.ints_eq {K:PySem.W.Frag}{ι:List Addr}{H:Hp}:∀{ns:List Int} {vs:List V},RVs K ι H (ns.map D.int) vs->vs=ns.map V.int
 | [],_,h=>h
 | n :: ns, vs, h => by
   obtain⟨v,r,rfl,h1,h2⟩:=h
   rw[RVs.ints_eq h2,show v=.int n from h1];rfl
theorem zbO:∀{ds:List D} {ns:List Int},zby ds=some ns->ds=ns.map D.int:=by
 intro ds
 unfold zby
 induction ds with
 |nil=>intro ns h;simp at h;subst h;rfl
 | cons d ds ih =>
   intro ns h
   rw[List.mapM_cons] at h
   cases d with
   | int i =>
     cases e:List.mapM zcd ds with
     |none=>rw[e] at h;simp[zcd] at h
     |some ms=>rw[e] at h;simp[zcd] at h;subst h;simp[ih e]
   |_=>simp[zcd] at h
mutual
theorem RV.flat {K:PySem.W.Frag}{ι:List Addr}{H:Hp}:∀{d:D} {v:V},RV K ι H d v->R.flat ι.length d=true
 |.non,_,_=>by simp[R.flat]
 |.bl _,_,_=>by simp[R.flat]
 |.int _,_,_=>by simp[R.flat]
 |.str _,_,_=>by simp[R.flat]
 | .tup ds, _, r => by
   obtain⟨a,xs,e,ha,q⟩:=r
   simp only[R.flat]
   exact RVs.flats q
 | .ref l, _, r => by
   obtain⟨a,e,q⟩:=r
   simp only[R.flat,decide_eq_true_eq]
   exact (List.getElem?_eq_some_iff.mp e).1
 | .fix ds, _, r => by
   obtain⟨a,xs,e,ha,q⟩:=r
   simp only[R.flat]
   exact RVs.flats q
 |.clo _,_,_=>by simp[R.flat]
theorem RVs.flats {K:PySem.W.Frag}{ι:List Addr}{H:Hp}:∀{ds:List D} {vs:List V},RVs K ι H ds vs->R.flats ι.length ds=true
 | [],_,_=>by simp[R.flats]
 | d :: ds, vs, r => by
   obtain⟨v,w,e,r1,r2⟩:=r
   simp only[R.flats,Bool.and_eq_true]
   exact⟨RV.flat r1,RVs.flats r2⟩
end
mutual
theorem RV.restrict {K:PySem.W.Frag}{ι ι':List Addr}{H:Hp}(hp:ι <+: ι'):∀{d:D} {v:V},R.flat ι.length d=true->RV K ι' H d v->RV K ι H d v
 |.non,_,_,r=>r
 |.bl _,_,_,r=>r
 |.int _,_,_,r=>r
 |.str _,_,_,r=>r
 | .tup ds, _, f, r => by
   obtain⟨a,xs,e,ha,q⟩:=r
   simp only[R.flat] at f
   exact⟨a,xs,e,ha,RVs.restrict hp f q⟩
 | .ref l, _, f, r => by
   obtain⟨a,e,q⟩:=r
   simp only[R.flat,decide_eq_true_eq] at f
   refine⟨a,?_,q⟩
   obtain⟨t,rfl⟩:=hp
   rw[List.getElem?_append_left f] at e
   exact e
 | .fix ds, _, f, r => by
   obtain⟨a,xs,e,ha,q⟩:=r
   simp only[R.flat] at f
   exact⟨a,xs,e,ha,RVs.restrict hp f q⟩
 |.clo _,_,_,r=>r
theorem RVs.restrict {K:PySem.W.Frag}{ι ι':List Addr}{H:Hp}(hp:ι <+: ι'):∀{ds:List D} {vs:List V},R.flats ι.length ds=true->RVs K ι' H ds vs->RVs K ι H ds vs
 | [],_,_,r=>r
 | d :: ds, vs, f, r => by
   obtain⟨v,w,e,r1,r2⟩:=r
   simp only[R.flats,Bool.and_eq_true] at f
   exact⟨v,w,e,RV.restrict hp f.1 r1,RVs.restrict hp f.2 r2⟩
end
theorem RKs.flats {K:PySem.W.Frag}{ι:List Addr}{H:Hp}:∀{kvs:List (List Int × D)} {ws:List (List Key × V)},RKs K ι H kvs ws->R.flats ι.length (kvs.map (·.2))=true
 | [],_,_=>by simp[R.flats]
 | (k, d) :: kvs, ws, r => by
   obtain⟨v,w,e,r1,r2⟩:=r
   simp only[List.map_cons,R.flats,Bool.and_eq_true]
   exact⟨RV.flat r1,RKs.flats r2⟩
theorem RKs.restrict {K:PySem.W.Frag}{ι ι':List Addr}{H:Hp}(hp:ι <+: ι'):∀{kvs:List (List Int × D)} {ws:List (List Key × V)},R.flats ι.length (kvs.map (·.2))=true->RKs K ι' H kvs ws->RKs K ι H kvs ws
 | [],_,_,r=>r
 | (k, d) :: kvs, ws, f, r => by
   obtain⟨v,w,e,r1,r2⟩:=r
   simp only[List.map_cons,R.flats,Bool.and_eq_true] at f
   exact⟨v,w,e,RV.restrict hp f.1 r1,RKs.restrict hp f.2 r2⟩
theorem RIs.flats {K:PySem.W.Frag}{ι:List Addr}{H:Hp}:∀{kvs:List (Int × D)} {ws:List (Key × V)},RIs K ι H kvs ws->R.flats ι.length (kvs.map (·.2))=true
 | [],_,_=>by simp[R.flats]
 | (k, d) :: kvs, ws, r => by
   obtain⟨v,w,e,r1,r2⟩:=r
   simp only[List.map_cons,R.flats,Bool.and_eq_true]
   exact⟨RV.flat r1,RIs.flats r2⟩
theorem RIs.restrict {K:PySem.W.Frag}{ι ι':List Addr}{H:Hp}(hp:ι <+: ι'):∀{kvs:List (Int × D)} {ws:List (Key × V)},R.flats ι.length (kvs.map (·.2))=true->RIs K ι' H kvs ws->RIs K ι H kvs ws
 | [],_,_,r=>r
 | (k, d) :: kvs, ws, f, r => by
   obtain⟨v,w,e,r1,r2⟩:=r
   simp only[List.map_cons,R.flats,Bool.and_eq_true] at f
   exact⟨v,w,e,RV.restrict hp f.1 r1,RIs.restrict hp f.2 r2⟩
theorem R3s.flats {K:PySem.W.Frag}{ι:List Addr}{H:Hp}:∀{kvs:List (K3 × D)} {ws:List (K3 × Addr × V)},R3s K ι H kvs ws->R.flats ι.length (kvs.map (·.2))=true
 | [],_,_=>by simp[R.flats]
 | (k, d) :: kvs, ws, r => by
   obtain⟨c,v,w,e,_,r1,r2⟩:=r
   simp only[List.map_cons,R.flats,Bool.and_eq_true]
   exact⟨RV.flat r1,R3s.flats r2⟩
theorem R3s.restrict {K:PySem.W.Frag}{ι ι':List Addr}{H:Hp}(hp:ι <+: ι'):∀{kvs:List (K3 × D)} {ws:List (K3 × Addr × V)},R.flats ι.length (kvs.map (·.2))=true->R3s K ι' H kvs ws->R3s K ι H kvs ws
 | [],_,_,r=>r
 | (k, d) :: kvs, ws, f, r => by
   obtain⟨c,v,w,e,r0,r1,r2⟩:=r
   simp only[List.map_cons,R.flats,Bool.and_eq_true] at f
   exact⟨c,v,w,e,r0,RV.restrict hp f.1 r1,R3s.restrict hp f.2 r2⟩
theorem RFs.flats {K:PySem.W.Frag}{ι:List Addr}{H:Hp}:∀{fs:List (Str × D)} {ws:List (Str × V)},RFs K ι H fs ws->R.flats ι.length (fs.map (·.2))=true
 | [],_,_=>by simp
 | (f, d) :: r, _, h => by
   obtain⟨v,w,_,r1,r2⟩:=h
   simp only[List.map_cons,zb1,Bool.and_eq_true]
   exact⟨RV.flat r1,RFs.flats r2⟩
theorem RFs.restrict {K:PySem.W.Frag}{ι ι':List Addr}{H:Hp}(hp:ι <+: ι'):∀{fs:List (Str × D)} {ws:List (Str × V)},R.flats ι.length (fs.map (·.2))=true->RFs K ι' H fs ws->RFs K ι H fs ws
 | [],_,_,h=>h
 | (f, d) :: r, _, f0, h => by
   obtain⟨v,w,e,r1,r2⟩:=h
   simp only[List.map_cons,zb1,Bool.and_eq_true] at f0
   exact⟨v,w,e,RV.restrict hp f0.1 r1,RFs.restrict hp f0.2 r2⟩
theorem RO.up {K:PySem.W.Frag}{ι ι':List Addr}{H H':Hp}{a:Addr}{o:MO}(h:RO K ι H a o)(hp:ι <+: ι')(hk:Kp H H')(e:H' a=H a):RO K ι' H' a o:=by
 cases o with
 |lst ds=>obtain⟨xs,h1,h2⟩:=h;exact⟨xs,e.trans h1,h2.up hp hk⟩
 |dic kvs=>obtain⟨h0,ws,h1,h2⟩:=h;exact⟨h0,ws,e.trans h1,h2.up hp hk⟩
 |ins c fs=>obtain⟨C,dx,ws,h0,h1,h2⟩:=h;exact⟨C,dx,ws,h0,e.trans h1,h2.up hp hk⟩
 |dtp kvs=>obtain⟨h0,ws,h1,h2⟩:=h;exact⟨h0,ws,e.trans h1,h2.up hp hk⟩
 |d3 kvs=>obtain⟨h0,ws,h1,h2⟩:=h;exact⟨h0,ws,e.trans h1,h2.up hp hk⟩
 |exc c fs=>obtain⟨C,dx,od,ws,h0,h1,h2,h3⟩:=h;exact⟨C,dx,od,ws,h0,e.trans h1,hk.frzs _ _ _ h2,h3.up hp hk⟩
theorem RO.stay {K:PySem.W.Frag}{ι ι':List Addr}{H H':Hp}{a:Addr}{o:MO}(h:RO K ι H a o)(x:Ext ι H ι' H')(e:H' a=H a):RO K ι' H' a o:=h.up x.pre x.kp e
section
variable {K:PySem.W.Frag} {ι ι':List Addr} {H H':Hp} {S S' T:St} {l:Nat} {a p:Addr}
theorem RH.mem (h:RH K ι H S){o:MO}(e:S.get l=some o):∃a,ι[l]?=some a/\RO K ι H a o/\a∈ι:=by
 obtain⟨a,h1,h2⟩:=h.obj l o e
 exact⟨a,h1,h2,List.mem_of_getElem? h1⟩
theorem zin (h:l<S.len):∃o,S.get l=some o:=by
 unfold St.len at h
 unfold St.get
 split
 · rename_i c;exact⟨_,List.getElem?_eq_getElem c⟩
 · exact⟨_,List.getElem?_eq_getElem (by omega)⟩
theorem RH.off (h:RH K ι H S)(x:Ext ι H ι H')(e:∀a∈ι,H' a=H a):RH K ι H' S:=
 ⟨h.len,h.nd,fun l o q=>let ⟨a,h1,h2,hm⟩:=h.mem q;⟨a,h1,h2.stay x (e a hm)⟩,x.kp.tab h.tab⟩
theorem RH.live (h:RH K ι H S)(ha:a∈ι):∃o,H a=some o/\(∀xs,o≠.tup xs)/\(∀z u,o≠.frz z u)/\∀ps,o≠.tbl ps:=by
 obtain⟨l,hl⟩:=List.mem_iff_getElem?.mp ha
 have hlt:l<S.len:=by rw[<-h.len];exact (List.getElem?_eq_some_iff.mp hl).1
 obtain⟨o,e⟩:=zin hlt
 obtain⟨b,h1,h2⟩:=h.obj l o e
 rw[hl] at h1;cases h1
 cases o with
 |lst ds=>obtain⟨xs,q,_⟩:=h2;exact⟨_,q,⟨fun _ z=>(by cases z),fun _ _ z=>(by cases z),fun _ z=>(by cases z)⟩⟩
 |dic kvs=>obtain⟨_,ws,q,_⟩:=h2;exact⟨_,q,⟨fun _ z=>(by cases z),fun _ _ z=>(by cases z),fun _ z=>(by cases z)⟩⟩
 |ins c fs=>obtain⟨C,dx,ws,_,q,_⟩:=h2;exact⟨_,q,⟨fun _ z=>(by cases z),fun _ _ z=>(by cases z),fun _ z=>(by cases z)⟩⟩
 |dtp kvs=>obtain⟨_,ws,q,_⟩:=h2;exact⟨_,q,⟨fun _ z=>(by cases z),fun _ _ z=>(by cases z),fun _ z=>(by cases z)⟩⟩
 |d3 kvs=>obtain⟨_,ws,q,_⟩:=h2;exact⟨_,q,⟨fun _ z=>(by cases z),fun _ _ z=>(by cases z),fun _ z=>(by cases z)⟩⟩
 |exc c fs=>obtain⟨C,dx,od,ws,_,q,_⟩:=h2;exact⟨_,q,⟨fun _ z=>(by cases z),fun _ _ z=>(by cases z),fun _ z=>(by cases z)⟩⟩
theorem RH.fresh (h:RH K ι H S)(hp:H p=Option.none):p∉ι:=fun hm=>by
 obtain⟨o,e,_⟩:=h.live hm
 rw[hp] at e;cases e
theorem RH.notup (h:RH K ι H S){xs:List V}(hp:H p=some (.tup xs)):p∉ι:=fun hm=>by
 obtain⟨o,e,q,_⟩:=h.live hm
 rw[hp] at e;cases e;exact q _ rfl
theorem Kp.new (hp:H p=Option.none)(o:HO):Kp H (upd H p o):=
 .same (Tups.upd_new hp) (fun b z u e=>by rw[zah (zay e hp)];exact e) fun b ps e=>by rw[zah (zay e hp)];exact e
theorem Ext.new (hp:H p=Option.none)(o:HO):Ext ι H ι (upd H p o):=
 ⟨List.prefix_refl _,Kp.new hp o,fun a u h e=>⟨.inl (by rw[zah (zay e hp)];exact e),h⟩⟩
theorem RH.new (h:RH K ι H S)(hp:H p=Option.none)(o:HO):RH K ι (upd H p o) S:=
 h.off (Ext.new hp o) fun a ha=>zah fun e=>h.fresh hp (e▸ha)
theorem zff (S:St)(o:MO):(S.push o).get S.len=some o:=by
 have h:¬S.len<S.frz.length:=by unfold St.len;omega
 unfold St.get St.push
 simp only[h,if_false]
 unfold St.len
 simp
theorem zcx {o:MO}(h:l<S.len):(S.push o).get l=S.get l:=by
 unfold St.len at h
 unfold St.get St.push
 simp only
 split
 · rfl
 · rw[List.getElem?_append_left (by omega)]
theorem zcf (S:St)(o:MO):(S.push o).len=S.len+1:=by simp[St.push,St.len];omega
theorem Ext.obj (h:RH K ι H S)(hp:H p=Option.none)(u:HO):Ext ι H (ι++[p]) (upd H p u):=
 ⟨List.prefix_append _ _,Kp.new hp u,fun a o ha e=>⟨.inl (by rw[zah (zay e hp)];exact e),by
  intro z
  rcases List.mem_append.mp z with z|z
  · exact ha z
  · simp at z;exact zay e hp z⟩⟩
theorem RH.obj' (h:RH K ι H S)(hp:H p=Option.none)(u:HO)(o:MO)(ho:RO K (ι++[p]) (upd H p u) p o):RH K (ι++[p]) (upd H p u) (S.push o):=by
 refine⟨by rw[List.length_append,h.len,zcf];rfl,?_,fun l o' e=>?_,(Kp.new hp u).tab h.tab⟩
 · rw[List.nodup_append]
   refine⟨h.nd,by simp,fun a ha b hb=>?_⟩
   simp at hb;subst hb
   exact fun z=>h.fresh hp (z▸ha)
 · by_cases hl:l<S.len
   · rw[zcx hl] at e
     obtain⟨a,h1,h2,hm⟩:=h.mem e
     exact⟨a,zbX (List.prefix_append _ _) h1,h2.stay (Ext.obj h hp u) (zah fun z=>h.fresh hp (z▸hm))⟩
   · have hl2:=zaw e
     rw[zcf] at hl2
     have:l=S.len:=by omega
     subst this
     rw[zff] at e;cases e
     exact⟨p,by rw[<-h.len];simp,ho⟩
theorem RH.lay (h:RH K ι H S)(hp:H p=Option.none){ds:List D}{xs:List V}(r:RVs K ι H ds xs):RH K (ι++[p]) (upd H p (.lst xs)) (S.push (.lst ds)):=
 h.obj' hp _ _ ⟨xs,zak,r.ext (Ext.obj h hp _)⟩
theorem RH.last (h:RH K ι H S)(p:Addr):(ι++[p])[S.len]?=some p:=by rw[<-h.len];simp
theorem Ext.wr (h:RH K ι H S){o:MO}(e:S.get l=some o)(hl:ι[l]?=some a)(u:HO):Ext ι H ι (upd H a u):=by
 have hm:=List.mem_of_getElem? hl
 refine⟨List.prefix_refl _,.same (fun b xs hb=>?_) (fun b z v hb=>?_) fun b ps hb=>?_,fun b o hb e=>⟨.inl ((zah fun (z:b=a)=>hb (by rw[z];exact hm)).trans e),hb⟩⟩
 · rw[zah];exact hb
   rintro rfl
   exact h.notup hb hm
 · rw[zah];exact hb
   rintro rfl
   obtain⟨o,e,_,q,_⟩:=h.live hm
   rw[hb] at e;cases e;exact q _ _ rfl
 · rw[zah];exact hb
   rintro rfl
   obtain⟨o,e,_,_,q⟩:=h.live hm
   rw[hb] at e;cases e;exact q _ rfl
theorem zjQ {o:MO}(e:S.put l o=some S'):S'.len=S.len/\(l<S.len->S'.get l=some o)/\(∀m,m≠l->S'.get m=S.get m)/\S.frz.length<=l:=by
 unfold St.put at e
 split at e
 · cases e
 · split at e
   · cases e
   · injection e with e
     subst e
     rename_i c1 c2
     refine⟨by simp[St.len],fun hl=>?_,fun m hm=>?_,by omega⟩
     · unfold St.len at hl
       unfold St.get
       simp only[c1,if_false]
       rw[List.getElem?_set_self (by omega)]
     · unfold St.get
       simp only
       split
       · rfl
       · rw[List.getElem?_set_ne (by omega)]
theorem RH.wr (h:RH K ι H S){o o':MO}{u:HO}(e:S.get l=some o)(hl:ι[l]?=some a)(w:S.put l o'=some S')(ho:RO K ι (upd H a u) a o'):RH K ι (upd H a u) S':=by
 obtain⟨h1,h2,h3,_⟩:=zjQ w
 refine⟨h.len.trans h1.symm,h.nd,fun m o2 e2=>?_,(Ext.wr h e hl u).kp.tab h.tab⟩
 by_cases hm:m=l
 · subst hm
   rw[h2 (zaw e)] at e2;cases e2
   exact⟨a,hl,ho⟩
 · rw[h3 m hm] at e2
   obtain⟨b,q1,q2,_⟩:=h.mem e2
   refine⟨b,q1,q2.stay (Ext.wr h e hl u) (zah ?_)⟩
   rintro rfl
   obtain⟨i1,e1⟩:=List.getElem?_eq_some_iff.mp hl
   obtain⟨i2,e2⟩:=List.getElem?_eq_some_iff.mp q1
   exact hm ((List.getElem_inj h.nd).mp (e2.trans e1.symm))
end
end R
end
section
namespace R
open PySem PySem.Spec PyProof.Rows L2
section
variable {prog:Program} {w:World} {K:Type} [DecidableEq K] {knd:HeapKind prog w K} {A:Around} {E:Value->Shared->Prop} {s:Shared} {xs ys:List (K × Addr × Value)} {a b d:Addr}
theorem zh9 {ks:List K}(nd:ks.Nodup){i j:Nat}{k:K}(hi:ks[i]?=some k)(hj:ks[j]?=some k):i=j:=by
 obtain⟨h1,e1⟩:=List.getElem?_eq_some_iff.mp hi
 obtain⟨h2,e2⟩:=List.getElem?_eq_some_iff.mp hj
 exact (List.getElem_inj nd).mp (e1.trans e2.symm)
theorem zcS {nm:String}{Q:Bool->Shared->Prop}(hu:knd.room A)(ha:(a == sysModules)=false)(hb:(b == sysModules)=false)(da:s.heap.DictOfH knd a xs)(db:s.heap.DictOfH knd b ys)(hk:xs.map (·.1)=ys.map (·.1))
  (he:∀(i:Nat) x y,xs[i]?=some x->ys[i]?=some y->SeqAt.EqAt A s x.2.2 y.2.2 true) (h:Q true s):wpAny (model prog w) A (Builtin.Dict.samePairs nm a b) Q E s:=by
 obtain⟨oa,es,ep,hoa,_,hda,hea,hia,hna⟩:=da
 obtain⟨ob,es',ep',hob,_,hdb,heb,hib,hnb⟩:=db
 have hla:es.size=xs.length:=size_of_entries hea
 have hlb:es'.size=ys.length:=size_of_entries heb
 have hl:xs.length=ys.length:=by have:=congrArg List.length hk;simpa using this
 unfold Builtin.Dict.samePairs Builtin.Dict.showsAll
 rw[if_neg (show ¬(a == sysModules)=true by rw[ha];exact Bool.false_ne_true),if_neg (show ¬(b == sysModules)=true by rw[hb];exact Bool.false_ne_true)]
 refine wpAny_bind (wpAny_pure (wpAny_bind (wpAny_pure ?_)))
 refine wpAny_bind (wpAny_dictEntries hoa hda ?_)
 dsimp only
 refine wpAny_bind (wpAny_dictEntries hob hdb ?_)
 rw[if_neg (by rw[hla,hlb,hl];simp)]
 refine wpAny_bind (wpAny_dictEpoch hoa hda ?_)
 refine wpAny_bind ?_
 rw[Std.Legacy.Range.forIn_eq_forIn_range']
 simp only[Std.Legacy.Range.size,Nat.sub_zero,Nat.add_sub_cancel,Nat.div_one]
 refine wpAny_forIn_list _ (fun rest q s'=>s'=s/\q=(none,())/\∃i,rest=List.range' i (es.size - i)/\i<=es.size) _ ?_ ?_ _ _ ⟨rfl,rfl,0,by simp,Nat.zero_le _⟩
 · rintro x rest q s' ⟨rfl,rfl,i,hr,hi⟩
   have hlt:i<es.size:=by
    rcases Nat.lt_or_ge i es.size with h|h
    · exact h
    · rw[Nat.sub_eq_zero_of_le h] at hr;simp at hr
   obtain⟨rfl,hrest⟩:x=i/\rest=List.range' (i+1) (es.size - (i+1)):=by
    have e:es.size - i=(es.size - (i+1))+1:=by omega
    rw[e,List.range'_succ] at hr
    injection hr with h1 h2
    exact⟨h1,h2⟩
   obtain⟨⟨k,c,v⟩,hx⟩:∃y,xs[x]?=some y:=⟨xs[x]'(by omega),List.getElem?_eq_getElem _⟩
   obtain⟨⟨k',c',v'⟩,hy⟩:∃y,ys[x]?=some y:=⟨ys[x]'(by omega),List.getElem?_eq_getElem _⟩
   have ekk:k'=k:=by
    have e:=congrArg (fun l=>l[x]?) hk
    simp only[List.getElem?_map,hx,hy,Option.map_some] at e
    exact (Option.some.inj e).symm
   subst ekk
   refine wpAny_bind (wpAny_dictEntries hoa hda ?_)
   rw[entry_at hea x,hx]
   show wpAny _ _ (holding [Value.ref c,v] _ >>= _) _ _ _
   refine wpAny_bind (wpAny_holding (wpAny_bind (wpAny_dictFind_heap (k:=k') hu (hia _ (List.mem_of_getElem? hx)) hob hdb heb hib hnb (fun hno=>absurd hy (hno x _)) fun j p hj=>?_)))
   have ej:j=x:=zh9 hnb (k:=k') (by rw[List.getElem?_map,hj];rfl) (by rw[List.getElem?_map,hy];rfl)
   subst ej
   rw[hy] at hj
   cases hj
   refine wpAny_bind (wpAny_dictEntries hob hdb ?_)
   rw[entry_at heb j,hy]
   refine wpAny_holding (he j _ _ hx hy prog w _ _ ?_)
   show wpAny _ _ (if (!true)=true then _ else _) _ _ _
   rw[if_neg (by decide)]
   refine wpAny_bind (wpAny_dictEpoch hoa hda ?_)
   rw[if_neg (by simp)]
   exact wpAny_pure ⟨rfl,rfl,j+1,hrest,hlt⟩
 · rintro q s' ⟨rfl,rfl,i,hr,hi⟩
   exact wpAny_pure h
theorem zmy {Q:Value->Shared->Prop}(hr:knd.room A.in1)(hu:A.units<cLine)(ha:(a == sysModules)=false)(hb:(b == sysModules)=false)(da:s.heap.DictOfH knd a xs)(db:s.heap.DictOfH knd b ys)(hk:xs.map (·.1)=ys.map (·.1))
  (he:∀(i:Nat) x y,xs[i]?=some x->ys[i]?=some y->SeqAt.EqAt A.in1 s x.2.2 y.2.2 true) (h:Q (.bool true) s):wpAny (model prog w) A (compareOp .Eq (.ref a) (.ref b)) Q E s:=by
 refine wpAny_richCompare_same_room (op:=.Eq) da.typeIs db.typeIs PySem.F.slot_dict_eq (wpAny_call_entry PySem.F.slot_dict_eq da.typeIs PySem.F.entry_dict_eq ?_ (PySem.F.args_dict_eq_2 _ _)) hu
 show wpAny _ _ (Builtin.Dict.dictSlotArgs "__eq__" ⟨[.ref a,.ref b],[]⟩ >>= _) _ _ s
 refine wpAny_bind ?_
 unfold Builtin.Dict.dictSlotArgs
 refine wpAny_bind (wpAny_notOrdered_dict da.typeIs ?_)
 show wpAny _ _ (pure (Value.ref a,Value.ref b)) _ _ s
 refine wpAny_pure ?_
 refine wpAny_bind (wpAny_isInstance (T:="dict") db.typeIs PySem.F.sub_dict_dict ?_)
 simp only[Bool.not_true,Bool.false_eq_true,if_false]
 refine wpAny_bind (wpAny_pure (wpAny_bind (wpAny_pure ?_)))
 refine wpAny_bind (zcS hr ha hb da db hk he ?_)
 refine wpAny_pure ⟨_,rfl,?_,?_⟩
 · exact fun x=>nomatch x
 · simpa using h
theorem zmx {Q:Value->Shared->Prop}(hr:knd.room A.in1)(hu:A.units<cLine)(ha:(a == sysModules)=false)(hb:(b == sysModules)=false)(da:s.heap.DictOfH knd a xs)(db:s.heap.DictOfH knd b ys)(hk:xs.map (·.1)=ys.map (·.1))
  (he:∀(i:Nat) x y,xs[i]?=some x->ys[i]?=some y->SeqAt.EqAt A.in1 s x.2.2 y.2.2 true) (h:Q (.bool false) s):wpAny (model prog w) A (compareOp .NotEq (.ref a) (.ref b)) Q E s:=by
 refine wpAny_richCompare_same_room (op:=.NotEq) da.typeIs db.typeIs PySem.F.slot_dict_ne (wpAny_call_entry PySem.F.slot_dict_ne da.typeIs PySem.F.entry_dict_ne ?_ (PySem.F.args_dict_ne_2 _ _)) hu
 show wpAny _ _ (Builtin.Dict.dictSlotArgs "__ne__" ⟨[.ref a,.ref b],[]⟩ >>= _) _ _ s
 refine wpAny_bind ?_
 unfold Builtin.Dict.dictSlotArgs
 refine wpAny_bind (wpAny_notOrdered_dict da.typeIs ?_)
 show wpAny _ _ (pure (Value.ref a,Value.ref b)) _ _ s
 refine wpAny_pure ?_
 refine wpAny_bind (wpAny_isInstance (T:="dict") db.typeIs PySem.F.sub_dict_dict ?_)
 simp only[Bool.not_true,Bool.false_eq_true,if_false]
 refine wpAny_bind (wpAny_pure (wpAny_bind (wpAny_pure ?_)))
 refine wpAny_bind (zcS hr ha hb da db hk he ?_)
 refine wpAny_pure ⟨_,rfl,?_,?_⟩
 · exact fun x=>nomatch x
 · simpa using h
end
end R
end
section
namespace R
open PySem PySem.Spec PyProof.Rows L2
variable [Mks]
noncomputable def wVK:Option Int->V|none=>.non|some i=>.int i
theorem zcq {α β:Type}{Rl:α->β->Prop}:∀{ks:List α} {xs:List β},Paired Rl ks xs->∀{i:Nat} {x:β},xs[i]?=some x->∃p,ks[i]?=some p/\Rl p x
 |_,_,.nil,i,x,h=>by simp at h
 |_,_,.cons r t,0,x,h=>by simp at h;subst h;exact⟨_,rfl,r⟩
 | _, _, .cons r t, i + 1, x, h => by
   simp at h
   obtain⟨p,h1,h2⟩:=zcq t h
   exact⟨p,by simpa using h1,h2⟩
theorem zcv {H:Hp}:∀{ks:List (List Key × V)} {xs:List (List Key × Addr × Value)},KT H ks xs->xs.map (·.1)=ks.map (·.1)
 |_,_,.nil=>rfl
 |_,_,.cons r t=>by rw[List.map_cons,List.map_cons,zcv t,r.1]
theorem RKs.words {K:PySem.W.Frag}{ι:List Addr}{H:Hp}:∀{kvs:List (List Int × D)} {ws:List (List Key × V)} {u:List (List Int × Option Int)},RKs K ι H kvs ws->zb3 kvs=some u->ws=u.map fun p=>(kI p.1,wVK p.2)
 | [], ws, u, r, h => by
   have h:u=[]:=by simpa[zb3] using h.symm
   subst h;exact r
 | (k, d) :: kr, ws, u, r, h => by
   obtain⟨v,w,rfl,r1,r2⟩:=r
   unfold zb3 at h
   rw[List.mapM_cons] at h
   cases e:zcO d with
   |none=>simp[e] at h
   | some o =>
     cases e2:kr.mapM fun kv=>(zcO kv.2).map fun w=>(kv.1,w) with
     |none=>simp[e,e2] at h
     | some t =>
       simp[e,e2] at h
       subst h
       rw[RKs.words r2 (show zb3 kr=some t from e2),List.map_cons]
       congr 2
       cases d with
       |non=>cases e;exact r1
       |int i=>cases e;exact r1
       |_=>cases e
section
variable {X:Cx} {pins:List (Addr × Obj)} {σ:L2.St} {H:Hp} {s:Shared} {a b:Addr} {A:Around} {E:Value->Shared->Prop}
theorem zhl {u:List (List Int × Option Int)}{xs ys:List (List Key × Addr × Value)}(r1:KT H (u.map fun p=>(kI p.1,wVK p.2)) xs)(r2:KT H (u.map fun p=>(kI p.1,wVK p.2)) ys):∀(i:Nat) x y,xs[i]?=some x->ys[i]?=some y->SeqAt.EqAt A s x.2.2 y.2.2 true:=fun i x y hx hy=>by
 obtain⟨p,h1,_,_,h2⟩:=zcq r1 hx
 obtain⟨q,g1,_,_,g2⟩:=zcq r2 hy
 rw[h1] at g1
 cases g1
 rw[List.getElem?_map] at h1
 cases e:u[i]? with
 |none=>rw[e] at h1;cases h1
 | some w =>
   rw[e] at h1
   cases h1
   obtain⟨k,o⟩:=w
   cases o with
   | none =>
     have e1:x.2.2=Value.none:=h2
     have e2:y.2.2=Value.none:=g2
     rw[e1,e2]
     exact SeqAt.EqAt.same _
   | some z =>
     obtain⟨t,e1⟩:=(show ∃t,x.2.2=Value.int z t from h2)
     obtain⟨t',e2⟩:=(show ∃t,y.2.2=Value.int z t from g2)
     rw[e1,e2]
     have:=SeqAt.EqAt.int_int (A:=A) (s:=s) z t z t'
     simpa using this
theorem zn0 {u:List (List Int × Option Int)}{Q:Value->Shared->Prop}(hu:A.units+1<cLine)(I:Inv X pins σ H s)(h1:H a=some (.dT (u.map fun p=>(kI p.1,wVK p.2))))(h2:H b=some (.dT (u.map fun p=>(kI p.1,wVK p.2))))(h:Q (.bool true) s):wpAny (model X.prog X.w) A (compareOp .Eq (.ref a) (.ref b)) Q E s:=by
 obtain⟨_,s1,xs,r1,d1⟩:=zfX I.hok h1
 obtain⟨_,s2,ys,r2,d2⟩:=zfX I.hok h2
 exact zmy (tupleKind_room_in1 hu) (by omega) s1 s2 d1 d2 ((zcv r1).trans (zcv r2).symm) (zhl r1 r2) h
theorem znZ {u:List (List Int × Option Int)}{Q:Value->Shared->Prop}(hu:A.units+1<cLine)(I:Inv X pins σ H s)(h1:H a=some (.dT (u.map fun p=>(kI p.1,wVK p.2))))(h2:H b=some (.dT (u.map fun p=>(kI p.1,wVK p.2))))(h:Q (.bool false) s):wpAny (model X.prog X.w) A (compareOp .NotEq (.ref a) (.ref b)) Q E s:=by
 obtain⟨_,s1,xs,r1,d1⟩:=zfX I.hok h1
 obtain⟨_,s2,ys,r2,d2⟩:=zfX I.hok h2
 exact zmx (tupleKind_room_in1 hu) (by omega) s1 s2 d1 d2 ((zcv r1).trans (zcv r2).symm) (zhl r1 r2) h
end
theorem zds {S:R.St}{d:D}{kvs:List (List Int × D)}(h:dKvs S d=some kvs):∃l,d=.ref l/\S.get l=some (.dtp kvs):=by
 cases d with
 | ref l =>
   refine⟨l,rfl,?_⟩
   unfold dKvs at h
   dsimp only at h
   cases e:S.get l with
   |none=>rw[e] at h;cases h
   | some o =>
     rw[e] at h
     cases o with
     |dtp k=>cases h;rfl
     |_=>cases h
 |_=>cases h
theorem zkf {K:PySem.W.Frag}{ι:List Addr}{H:Hp}{y:D}{v:V}{k:List Int}(r:RV K ι H y v)(h:zdq y=some k):∃b,v=.ref b/\H b=some (.tup ((kI k).map kV)):=by
 cases y with
 | tup ds =>
   obtain⟨b,xs,rfl,hb,rr⟩:=r
   simp only[zdq] at h
   rw[zbO h] at rr
   rw[rr.ints_eq] at hb
   refine⟨b,rfl,?_⟩
   rw[hb]
   unfold kI
   rw[List.map_map];rfl
 |_=>cases h
theorem zfk {K:PySem.W.Frag}{ι:List Addr}{H:Hp}{S:R.St}{d e:D}{x y:V}{k:Bool}(hH:RH K ι H S)(hd:RV K ι H d x)(he:RV K ι H e y)(h:zd5 S d e=some k) :
  (∃(u:List (List Int × Option Int)) (a b:Addr),x=.ref a/\y=.ref b/\H a=some (.dT (u.map fun p=>(kI p.1,wVK p.2)))/\H b=some (.dT (u.map fun p=>(kI p.1,wVK p.2)))/\k=true)\/eqD S d e=some k:=by
 unfold zd5 at h
 split at h
 · rename_i ka kb e1 e2
   left
   obtain⟨l,rfl,g1⟩:=zds e1
   obtain⟨m,rfl,g2⟩:=zds e2
   obtain⟨a,i1,rfl⟩:=hd
   obtain⟨b,i2,rfl⟩:=he
   obtain⟨a',j1,_,ws,ha,rk⟩:=hH.obj l _ g1
   rw[i1] at j1;cases j1
   obtain⟨b',j2,_,us,hb,rl⟩:=hH.obj m _ g2
   rw[i2] at j2;cases j2
   unfold eqK at h
   cases w1:zb3 ka with
   |none=>rw[w1] at h;cases h
   | some u =>
     cases w2:zb3 kb with
     |none=>rw[w1,w2] at h;cases h
     | some v =>
       rw[w1,w2] at h
       dsimp only[Option.bind_some] at h
       split at h
       · rename_i c
         subst c
         cases h
         rw[rk.words w1] at ha
         rw[rl.words w2] at hb
         exact⟨u,a,b,rfl,rfl,ha,hb,rfl⟩
       · cases h
 · exact .inr h
theorem zkA {S:R.St}{x:D}{kvs:List (K3 × D)}(h:d3K S x=some kvs):∃l,x=.ref l/\S.get l=some (.d3 kvs):=by
 cases x with
 | ref l =>
   simp only[d3K] at h
   cases e:S.get l with
   |none=>rw[e] at h;cases h
   | some o =>
     rw[e] at h
     cases o with
     |d3 k=>cases h;exact⟨l,rfl,e⟩
     |_=>cases h
 |_=>cases h
theorem zgM {K:PySem.W.Frag}{ι:List Addr}{H:Hp}{y:D}{v:V}{k:K3}(r:RV K ι H y v)(h:key3 y=some k):∃c,v=.ref c/\Key3 H k c:=by
 unfold key3 at h
 split at h
 · rename_i a ds b
   cases e:zby ds with
   |none=>rw[e] at h;cases h
   | some p =>
     rw[e] at h
     cases h
     obtain⟨c,xs,rfl,hc,v1,r1,rfl,q1,v2,r2,rfl,q2,v3,r3,rfl,q3,q4⟩:=r
     cases (show r3=[] from q4)
     obtain rfl:v1=.int a:=q1
     obtain⟨b',ys,rfl,hb,rr⟩:=q2
     obtain rfl:v3=.int b:=q3
     rw[zbO e] at rr
     rw[rr.ints_eq] at hb
     exact⟨c,rfl,b',hc,hb⟩
 · cases h
theorem zfd {K:PySem.W.Frag}{ι:List Addr}{H:Hp}{S:R.St}{d e:D}{x y:V}{k:Bool}(hH:RH K ι H S)(hd:RV K ι H d x)(he:RV K ι H e y)(h:zeB S d e=some k) :
  (∃a o,y=.ref a/\DGet H a x o/\k=o.isSome)\/(∃a kxs kk c,y=.ref a/\H a=some (.ext (TriO a kxs))/\TriK H kxs/\x=.ref c/\Key3 H kk c/\k=decide (kk∈kxs.map (·.1)))\/((zbH S e).bind fun ys=>inD S d ys)=some k:=by
 unfold zeB at h
 split at h
 · rename_i kvs e1
   left
   obtain⟨l,rfl,g1⟩:=zds e1
   obtain⟨a,i1,rfl⟩:=he
   obtain⟨a',j1,_,ws,ha,rk⟩:=hH.obj l _ g1
   rw[i1] at j1;cases j1
   cases ek:zdq d with
   |none=>rw[ek] at h;cases h
   | some kk =>
     rw[ek] at h
     cases h
     obtain⟨b,rfl,hb⟩:=zkf hd ek
     refine⟨a,_,rfl,DGet.t ha hb,?_⟩
     rcases rk.val kk with ⟨e1,e2⟩|⟨d,v,e1,e2,_⟩
     · dsimp only;rw[e1,e2];rfl
     · dsimp only;rw[e1,e2];rfl
 · split at h
   · rename_i kvs e1
     right;left
     obtain⟨l,rfl,g1⟩:=zkA e1
     obtain⟨a,i1,rfl⟩:=he
     obtain⟨a',j1,_,ws,ha,rk⟩:=hH.obj l _ g1
     rw[i1] at j1;cases j1
     cases ek:key3 d with
     |none=>rw[ek] at h;cases h
     | some kk =>
       rw[ek] at h
       cases h
       obtain⟨c,rfl,hc⟩:=zgM hd ek
       exact⟨a,ws,kk,c,rfl,ha,rk.triK,rfl,hc,by dsimp only;rw[rk.keys]⟩
   · exact .inr (.inr h)
end R
end
section
namespace R
open PySem PySem.Spec PyProof.Rows L2
section
variable {prog:Program} {w:World} {K:Type} [DecidableEq K] {knd:HeapKind prog w K} {A:Around} {E:Value->Shared->Prop} {s:Shared} {xs:List (K × Addr × Value)} {d:Addr}
end
section
variable {X:Cx} {o e f:Expr} {apos cpos:Pos} {td ty tv:TE}
end
end R
end
section
namespace R
open PySem PySem.Spec PyProof.Rows L2
section
variable {prog:Program} {w:World} {K:Type} [DecidableEq K] {knd:HeapKind prog w K} {A:Around} {E:Value->Shared->Prop} {s:Shared} {xs:List (K × Addr × Value)} {d j:Addr} {i ep:Nat}
noncomputable def HAt (knd:HeapKind prog w K)(h:Heap)(d:Addr)(xs:List (K × Addr × Value))(ep:Nat):Prop:=∃o es,h.get? d=some o/\o.ExactDict/\o.data=.dict es ep/\es.toList=xs.map (entryOfKey knd)
theorem HAt.at {h h':Heap}(x:HAt knd h d xs ep)(e:∀o,h.get? d=some o->h'.get? d=some o):HAt knd h' d xs ep:=let ⟨o,es,ho,r⟩:=x;⟨o,es,e _ ho,r⟩
theorem HAt.ty (x:HAt knd s.heap d xs ep):s.TypeIs (.ref d) "dict":=let ⟨o,_,ho,hc,_⟩:=x;⟨o,ho,hc.1⟩
end
section
variable {X:Cx}
theorem znG:zaV X (.builtin "len") (fun vs H Q=>∃a ws,vs=[.ref a]/\H a=some (.dT ws)/\Q (.int ws.length) H):=by
 intro pins s σ H xs us Q I r h
 obtain⟨a,ws,rfl,e,q⟩:=h
 obtain⟨u,rfl,ru⟩:=r.one
 cases (show u=Value.ref a from ru)
 obtain⟨z,hd,ys,rel,dd⟩:=zfX I.hok e
 have hl:=Paired.length rel
 obtain⟨o,es,ep,h1,h2,h3,h4,_⟩:=id dd
 have hs:es.size=ws.length:=by rw[size_of_entries h4];exact hl.symm
 refine PyProof.Rows.call_len_slot (n:=ws.length) dd.typeIs F.slot_dict_len (fun Q' hq=>?_) (by omega) (by rw[sizeLine_eq] at z;omega) ⟨.int ws.length,H,I.tok _,⟨_,rfl⟩,q⟩
 refine wpAny_call_entry F.slot_dict_len dd.typeIs F.entry_dict_len ?_ (F.args_dict_len_1 _)
 show wpAny _ _ (dictSize a >>= _) _ _ s
 unfold dictSize
 refine wpAny_bind (wpAny_bind (wpAny_dictEntries h1 h3 (wpAny_pure ?_)))
 show wpAny _ _ (Builtin.Dict.pendingCount a >>= _) _ _ s
 refine wpAny_bind (wpAny_pendingCount_other hd ?_)
 rw[show ((es.size:Int)+((0:Nat):Int))=(ws.length:Nat) by rw[hs];simp]
 exact wpAny_bind (wpAny_mkInt (wpAny_pure ⟨_,rfl,hq⟩))
end
end R
end
section
namespace R
open PySem PySem.Spec PyProof.Rows L2
variable [Mks]
noncomputable def Lf (K:PySem.W.Frag)(ι:List Addr)(H:Hp)(Q:D->R.St->Prop):VK:=fun v H'=>∃d ι' S',Ext ι H ι' H'/\RV K ι' H' d v/\RH K ι' H' S'/\Q d S'
section
variable {K:PySem.W.Frag} {ι ι':List Addr} {H H':Hp} {S S':R.St} {Q:D->R.St->Prop} {d:D} {v:V} {p:Addr}
theorem Lf.of (h:RH K ι H S)(r:RV K ι H d v)(q:Q d S):Lf K ι H Q v H:=⟨d,ι,S,Ext.refl ι H,r,h,q⟩
theorem Lf.up (x:Ext ι H ι' H')(h:Lf K ι' H' Q v p'):Lf K ι H Q v p':=by
 obtain⟨d,ι2,S2,x2,r⟩:=h
 exact⟨d,ι2,S2,x.trans x2,r⟩
theorem Lf.tup (h:RH K ι H S)(hp:H p=Option.none){ds:List D}{xs:List V}(r:RVs K ι H ds xs)(q:Q (.tup ds) S):Lf K ι H Q (.ref p) (upd H p (.tup xs)):=
 ⟨.tup ds,ι,S,Ext.new hp _,⟨p,xs,rfl,zak,r.ext (Ext.new hp _)⟩,h.new hp _,q⟩
theorem Lf.lst (h:RH K ι H S)(hp:H p=Option.none){ds:List D}{xs:List V}(r:RVs K ι H ds xs)(q:Q (.ref S.len) (S.push (.lst ds))):Lf K ι H Q (.ref p) (upd H p (.lst xs)):=
 ⟨.ref S.len,ι++[p],S.push (.lst ds),Ext.obj h hp _,⟨p,h.last p,rfl⟩,h.lay hp r,q⟩
theorem Lf.wr (h:RH K ι H S){l:Nat}{a:Addr}{o:MO}{ds:List D}{xs:List V}(e:S.get l=some o)(hl:ι[l]?=some a)(w:S.put l (.lst ds)=some S')(r:RVs K ι H ds xs)(rv:RV K ι H d v)(q:Q d S'):Lf K ι H Q v (upd H a (.lst xs)):=
 ⟨d,ι,S',Ext.wr h e hl _,rv.ext (Ext.wr h e hl _),h.wr e hl w ⟨xs,zak,r.ext (Ext.wr h e hl _)⟩,q⟩
end
theorem zcu {S:R.St}{ds:List D}{Q:D->R.St->Prop}(h:W (lay S ds) Q):ds.length<=sizeLine/\Q (.ref S.len) (S.push (.lst ds)):=by
 unfold lay at h
 split at h
 · rename_i c;exact⟨by rw[sizeLine_eq];exact c,h⟩
 · exact h.elim
theorem zjf {S:R.St}{l:Nat}{ds:List D}{d:D}{Q:D->R.St->Prop}(h:W (wr S l ds d) Q):ds.length<=sizeLine/\∃S',S.put l (.lst ds)=some S'/\Q d S':=by
 unfold wr at h
 split at h
 · rename_i c
   refine⟨by rw[sizeLine_eq];exact c,?_⟩
   cases e:S.put l (.lst ds) with
   |none=>rw[e] at h;exact h.elim
   |some S'=>rw[e] at h;exact⟨S',rfl,h⟩
 · exact h.elim
noncomputable def rD2 (K:PySem.W.Frag)(f:R.St->D->D->Out D):R2:=fun x y H Qv=>∃ι S d e Qd,RV K ι H d x/\RV K ι H e y/\RH K ι H S/\W (f S d e) Qd/\∀v H',Lf K ι H Qd v H'->Qv v H'
section
variable {X:Cx}
theorem ziC {prog:Program}{w:World}{A:Around}{E:Value->Shared->Prop}{s:Shared}{t b:Addr}{vs ws:List Value}{Q:Value->Shared->Prop}(ht:IsTup s.heap t vs.toArray)(hb:IsTup s.heap b ws.toArray)(hv:vs=[])
  (h1:Q (.ref b) s):wpAny (model prog w) A (binaryOp .Add (.ref t) (.ref b)) Q E s:=by
 obtain⟨⟨cls,dd,data,sl⟩,ho,hc,n,hd⟩:=id ht
 obtain⟨⟨cls2,dd2,data2,sl2⟩,ho2,hc2,n2,hd2⟩:=id hb
 simp only at hc hd hc2 hd2
 subst hc hd hc2 hd2
 exact concat_meets ⟨_,ho,rfl⟩ ⟨_,ho2,rfl⟩ noFill_tuple_add seq_tuple_add PySem.F.slot_tuple_add PySem.F.entry_tuple_add (PySem.F.args_tuple_add_2 _ _)
  (tuple_addW0 t b vs.toArray ws.toArray n n2 dd dd2 sl sl2 (by simp[hv])) ⟨ho,ho2,h1⟩
theorem zh7:OpR X (binaryOp .Add) (fun x y H Q=>∃a b ys,x=.ref a/\y=.ref b/\SqT X.K H a []/\SqT X.K H b ys/\Q (.ref b) H):=by
 intro pins s σ H x y v u Q I rx ry h
 obtain⟨a,b,ys,rfl,rfl,ha,hb,q⟩:=h
 cases rx
 cases ry
 obtain⟨its,r1,p1,_⟩:=I.tuple ha
 obtain⟨its2,r2,p2,_⟩:=I.tuple hb
 exact ziC p1 p2 (r1.nil_iff.mpr rfl) ⟨.ref b,H,I,rfl,q⟩
theorem zmK (op:Operator):OpR X (binaryOp op) (rD2 X.K fun S d e=>binD S op d e):=by
 intro pins s σ H x y v u Qv I rx ry ⟨ι,S,d,e,Qd,hd,he,hH,hw,q⟩
 dsimp only at hw
 unfold binD at hw
 split at hw
 · rename_i i j
   obtain rfl:x=.int i:=hd
   obtain rfl:y=.int j:=he
   have fin:∀k:Int,Qd (.int k) S->Qv (.int k) H:=fun k hk=>q _ _ (Lf.of (d:=.int k) hH rfl hk)
   unfold binI at hw
   split at hw
   · exact zmb pins s σ H _ _ v u Qv I rx ry ⟨i,j,rfl,rfl,fin _ hw⟩
   · exact zl1 pins s σ H _ _ v u Qv I rx ry ⟨i,j,rfl,rfl,fin _ hw⟩
   · split at hw
     · rename_i c
       refine zl5 pins s σ H _ _ v u Qv I rx ry ⟨i,j,rfl,rfl,?_,fin _ hw⟩
       unfold zj9 at c
       rw[Bool.or_eq_true,decide_eq_true_eq,decide_eq_true_eq] at c
       exact c
     · exact hw.elim
   · split at hw
     · rename_i c
       exact zj4 pins s σ H _ _ v u Qv I rx ry ⟨i,j,rfl,rfl,c,fin _ hw⟩
     · exact hw.elim
   · split at hw
     · rename_i c
       exact zl6 pins s σ H _ _ v u Qv I rx ry ⟨i,j,rfl,rfl,c,fin _ hw⟩
     · exact hw.elim
   · split at hw
     · rename_i c
       exact zl3 pins s σ H _ _ v u Qv I rx ry ⟨i,j,rfl,rfl,⟨c.1,c.2.1,by omega⟩,fin _ hw⟩
     · exact hw.elim
   · exact hw.elim
 · rename_i xs ys
   split at hw
   · split at hw
     · rename_i c
       obtain⟨a,us,rfl,ha,r1⟩:=hd
       obtain⟨b,ws,rfl,hb,r2⟩:=he
       by_cases hn:us=[]
       · subst hn
         have hx:xs=[]:=by
          have:=r1.length
          simpa using this.symm
         subst hx
         refine zh7 pins s σ H _ _ v u Qv I rx ry ⟨a,b,ws,rfl,rfl,SqT.of ha,SqT.of hb,?_⟩
         exact q _ _ (Lf.of (d:=.tup ys) hH ⟨b,ws,rfl,hb,r2⟩ (by simpa using hw))
       · refine zj5 pins s σ H _ _ v u Qv I rx ry ⟨a,b,us,ws,rfl,rfl,SqT.of ha,SqT.of hb,hn,?_,fun hy=>?_,fun hy p hp=>?_⟩
         · rw[r1.length,r2.length,sizeLine_eq];exact c
         · subst hy
           have hx:ys=[]:=by
            have:=r2.length
            simpa using this.symm
           subst hx
           exact q _ _ (Lf.of (d:=.tup xs) hH ⟨a,us,rfl,ha,r1⟩ (by simpa using hw))
         · exact q _ _ (Lf.tup hH hp (r1.append r2) hw)
     · exact hw.elim
   · exact hw.elim
 · rename_i a b
   split at hw
   · rename_i xs ys e1 e2
     obtain⟨a1,h1,rfl⟩:=hd
     obtain⟨b1,h2,rfl⟩:=he
     obtain⟨a2,h3,us,ha,r1⟩:=hH.obj _ _ e1
     obtain⟨b2,h4,ws,hb,r2⟩:=hH.obj _ _ e2
     rw[h1] at h3;cases h3
     rw[h2] at h4;cases h4
     obtain⟨z,hq⟩:=zcu hw
     refine zma pins s σ H _ _ v u Qv I rx ry ⟨a1,b1,us,ws,rfl,rfl,ha,hb,?_,fun p hp=>?_⟩
     · rw[r1.length,r2.length];rw[List.length_append] at z;exact z
     · exact q _ _ (Lf.lst hH hp (r1.append r2) hq)
   · exact hw.elim
 · exact hw.elim
theorem zaD {α β:Type}{f:α->Option β}{x:α}{xs:List α}{ys:List β}(h:(x::xs).mapM f=some ys):∃y r,f x=some y/\xs.mapM f=some r/\ys=y::r:=by
 rw[List.mapM_cons] at h
 cases e:f x with
 |none=>rw[e] at h;cases h
 | some y =>
   rw[e] at h
   cases e2:xs.mapM f with
   |none=>rw[e2] at h;cases h
   |some r=>rw[e2] at h;injection h with h;exact⟨y,r,rfl,rfl,h.symm⟩
theorem zfK {ι:List Addr}{H:Hp}{S:R.St}(hH:RH X.K ι H S):∀(n:Nat) (d:D) (pdd:PyData) (v:V),pd S n d=some pdd->RV X.K ι H d v->Rep H pdd v/\pdd.canLay0=true/\pdd.depth<=n:=by
 intro n
 induction n with
 | zero =>
   intro d p v h r
   cases d<;>simp only[pd] at h
   · cases h;exact⟨r,rfl,Nat.le_refl _⟩
   · cases h;exact⟨r,rfl,Nat.le_refl _⟩
   · cases h;exact⟨r,rfl,Nat.le_refl _⟩
   · split at h
     · rename_i c;cases h;exact⟨r,c,Nat.le_refl _⟩
     · cases h
   all_goals cases h
 | succ n ih =>
   have all:∀(ds:List D) (ps:List PyData) (vs:List V),ds.mapM (pd S n)=some ps->RVs X.K ι H ds vs->RepAll H ps vs/\PyData.canLayAll0 ps=true/\PyData.depthAll ps<=n:=by
    intro ds
    induction ds with
    | nil =>
      intro ps vs h r
      have h:ps=[]:=by simpa using h.symm
      subst h
      exact⟨r,rfl,Nat.zero_le _⟩
    | cons d ds ihd =>
      intro ps vs h r
      obtain⟨y,rr,h1,h2,rfl⟩:=zaD h
      obtain⟨v,w,rfl,r1,r2⟩:=r
      obtain⟨a1,a2,a3⟩:=ih d y v h1 r1
      obtain⟨b1,b2,b3⟩:=ihd rr w h2 r2
      refine⟨⟨v,w,rfl,a1,b1⟩,by simp[PyData.canLayAll0,a2,b2],?_⟩
      simp only[PyData.depthAll]
      omega
   intro d p v h r
   cases d with
   |non=>simp only[pd] at h;cases h;exact⟨r,rfl,Nat.zero_le _⟩
   |bl b=>simp only[pd] at h;cases h;exact⟨r,rfl,Nat.zero_le _⟩
   |int i=>simp only[pd] at h;cases h;exact⟨r,rfl,Nat.zero_le _⟩
   | str x =>
     simp only[pd] at h
     split at h
     · rename_i c;cases h;exact⟨r,c,Nat.zero_le _⟩
     · cases h
   | tup ds =>
     simp only[pd] at h
     cases e:ds.mapM (pd S n) with
     |none=>rw[e] at h;cases h
     | some ps =>
       rw[e] at h
       have h:PyData.tuple ps=p:=by simpa using h
       subst h
       obtain⟨a,xs,rfl,ha,rr⟩:=r
       obtain⟨b1,b2,b3⟩:=all ds ps xs e rr
       refine⟨⟨a,xs,rfl,ha,b1⟩,by simp[PyData.canLay0,b2],?_⟩
       simp only[PyData.depth]
       omega
   | ref l =>
     simp only[pd] at h
     split at h
     · rename_i ds eg
       cases e:ds.mapM (pd S n) with
       |none=>rw[e] at h;cases h
       | some ps =>
         rw[e] at h
         have h:PyData.list ps=p:=by simpa using h
         subst h
         obtain⟨a,h1,rfl⟩:=r
         obtain⟨a2,h2,xs,ha,rr⟩:=hH.obj _ _ eg
         rw[h1] at h2;cases h2
         obtain⟨b1,b2,b3⟩:=all ds ps xs e rr
         refine⟨⟨a,xs,rfl,ha,b1⟩,by simp[PyData.canLay0,b2],?_⟩
         simp only[PyData.depth]
         omega
     · cases h
   |fix ds=>simp only[pd] at h;cases h
   |clo ds=>simp only[pd] at h;cases h
noncomputable def rC2 (K:PySem.W.Frag)(op:CmpOp):R2:=fun x y H Qv=>∃ι S d e k,RV K ι H d x/\RV K ι H e y/\RH K ι H S/\cmpD S op d e=some k/\Qv (.bl k) H
theorem zfj {S:R.St}{d e:D}{k:Bool}(h:eqD S d e=some k):∃a b,pd S 60 d=some a/\pd S 60 e=some b/\k=PyData.eqv a b:=by
 unfold eqD at h
 cases e1:pd S 60 d with
 |none=>rw[e1] at h;cases h
 | some a =>
   rw[e1] at h
   cases e2:pd S 60 e with
   |none=>rw[e2] at h;cases h
   |some b=>rw[e2] at h;injection h with h;exact⟨a,b,rfl,rfl,h.symm⟩
open Classical in
noncomputable def eqRd (h:Heap)(p:PyData)(u:Value):Bool:=if c:∃q as,Reads h u q as/\q.canLay0=true then PyData.eqv c.choose p else false
theorem zkw {h:Heap}{p q:PyData}{u:Value}{as:List Addr}(r:Reads h u q as)(c:q.canLay0=true):eqRd h p u=PyData.eqv q p:=by
 have ex:∃q as,Reads h u q as/\q.canLay0=true:=⟨q,as,r,c⟩
 unfold eqRd
 rw[dif_pos ex]
 obtain⟨as',r',c'⟩:=ex.choose_spec
 rw[SeqAt.Reads.unique _ _ _ _ _ c r r']
theorem zii {ι:List Addr}{H:Hp}{S:R.St}{pins:List (Addr × Obj)}{σ:L2.St}{s:Shared}{A:Around}(I:Inv X pins σ H s)(hA:A.units+62<cLine)(hH:RH X.K ι H S){x:D}{px:PyData}{vx:V}{ux:Value}(hx:pd S 60 x=some px)(rx:RV X.K ι H x vx)(qx:RelV vx ux) :
  ∀{ds:List D} {vs:List V} {us:List Value} {bs:List Bool},RVs X.K ι H ds vs->Vals vs us->ds.mapM (fun z=>eqD S z x)=some bs->us.any (eqRd s.heap px)=bs.any id/\∀u∈us,SeqAt.EqAt A s u ux (eqRd s.heap px u):=by
 obtain⟨x1,x2,x3⟩:=zfK hH 60 x px vx hx rx
 obtain⟨asx,rdx⟩:=Rep.reads I px vx ux x1 qx
 intro ds
 induction ds with
 | nil =>
   intro vs us bs r rv h
   cases (show vs=[] from r)
   cases rv
   have h:bs=[]:=by simpa using h.symm
   subst h
   exact⟨rfl,fun u hu=>nomatch hu⟩
 | cons d ds ih =>
   intro vs us bs r rv h
   obtain⟨v,w,rfl,r1,r2⟩:=r
   obtain⟨b,rr,e,h2,rfl⟩:=zaD h
   cases rv with
   | cons q1 q2 =>
     rename_i u us'
     obtain⟨a,b',e1,e2,rfl⟩:=zfj e
     rw[hx] at e2;cases e2
     obtain⟨p1,p2,p3⟩:=zfK hH 60 d a v e1 r1
     obtain⟨as,rd⟩:=Rep.reads I a v u p1 q1
     have hq:=zkw (p:=px) rd p2
     obtain⟨i1,i2⟩:=ih r2 q2 h2
     refine⟨by simp[hq,i1],fun z hz=>?_⟩
     rcases List.mem_cons.mp hz with rfl|hz
     · rw[hq]
       exact SeqAt.eqAt_reads a px A s z ux as asx rd rdx p2 x2 (by omega)
     · exact i2 z hz
theorem ziP {ι:List Addr}{H:Hp}{S:R.St}(hH:RH X.K ι H S){d:D}{v:V}{ds:List D}(h:zbH S d=some ds)(r:RV X.K ι H d v):∃a xs,v=.ref a/\(SqL X.K H a xs\/SqT X.K H a xs)/\RVs X.K ι H ds xs:=by
 cases d with
 | tup es =>
   cases h
   obtain⟨a,xs,rfl,ha,rr⟩:=r
   exact⟨a,xs,rfl,.inr (SqT.of ha),rr⟩
 | fix es =>
   cases h
   obtain⟨a,xs,rfl,ha,rr⟩:=r
   exact⟨a,xs,rfl,.inl ha.sq,rr⟩
 | ref l =>
   simp only[zbH] at h
   split at h
   · rename_i ds' e
     cases h
     obtain⟨a,h1,rfl⟩:=r
     obtain⟨a2,h2,xs,ha,rr⟩:=hH.obj _ _ e
     rw[h1] at h2;cases h2
     exact⟨a,xs,rfl,.inl (SqL.of ha),rr⟩
   · cases h
 |_=>cases h
theorem zmv {S:R.St}{x:D}{ys:List D}{k:Bool}(h:inD S x ys=some k):∃bs,ys.mapM (fun z=>eqD S z x)=some bs/\k=bs.any id:=by
 unfold inD at h
 cases e:ys.mapM (fun z=>eqD S z x) with
 |none=>rw[e] at h;cases h
 |some bs=>rw[e] at h;injection h with h;exact⟨bs,rfl,h.symm⟩
theorem zfa:∀(as bs:List Int),R.lexLt as bs=HT.lexLt as bs
 | [],[]=>by simp[R.lexLt,HT.lexLt]
 | [],_::_=>by simp[R.lexLt,HT.lexLt]
 |_::_,[]=>by simp[R.lexLt,HT.lexLt]
 |a::as,b::bs=>by simp[R.lexLt,HT.lexLt,zfa as bs]
theorem nonV {K:PySem.W.Frag}{ι:List Addr}{H:Hp}{d:D}{x:V}(hd:RV K ι H d x):decide (x=V.non)=zkh d:=by
 cases d with
 |non=>rw[show x=.non from hd];rfl
 |bl b=>rw[show x=.bl b from hd];rfl
 |int b=>rw[show x=.int b from hd];rfl
 |str b=>rw[show x=.str b from hd];rfl
 |tup b=>obtain⟨_,_,rfl,_⟩:=hd;rfl
 |ref b=>obtain⟨_,_,rfl⟩:=hd;rfl
 |fix b=>obtain⟨_,_,rfl,_⟩:=hd;rfl
 |clo b=>obtain⟨_,rfl,_⟩:=hd;rfl
theorem zc0 (hu:X.A.units+128<cLine)(op:CmpOp):OpR X (compareOp op) (rC2 X.K op):=by
 intro pins s σ H x y v u Qv I rx ry ⟨ι,S,d,e,k,hd,he,hH,hc,q⟩
 unfold cmpD at hc
 split at hc
 · rename_i i j
   obtain rfl:x=.int i:=hd
   obtain rfl:y=.int j:=he
   unfold cmpI at hc
   split at hc
   · cases hc;exact znD pins s σ H _ _ v u Qv I rx ry ⟨rfl,by simpa using q⟩
   · cases hc;exact zny pins s σ H _ _ v u Qv I rx ry ⟨rfl,by simpa using q⟩
   · cases hc;exact znz pins s σ H _ _ v u Qv I rx ry ⟨i,j,rfl,rfl,q⟩
   · cases hc;exact znA pins s σ H _ _ v u Qv I rx ry ⟨i,j,rfl,rfl,q⟩
   · cases hc;exact znB pins s σ H _ _ v u Qv I rx ry ⟨i,j,rfl,rfl,q⟩
   · cases hc;exact znC pins s σ H _ _ v u Qv I rx ry ⟨i,j,rfl,rfl,q⟩
   · cases hc
 · unfold cmpO at hc
   have isin:∀(k:Bool),((zbH S e).bind fun ys=>inD S d ys)=some k->∃a xs,y=.ref a/\(SqL X.K H a xs\/SqT X.K H a xs)/\∃(px:PyData),∀us,Vals xs us->us.any (eqRd s.heap px)=k/\∀z∈us,SeqAt.EqAt X.A.in1 s z v (eqRd s.heap px z):=by
    intro k h
    cases es:zbH S e with
    |none=>rw[es] at h;cases h
    | some ys =>
      rw[es] at h
      obtain⟨bs,hb,rfl⟩:=zmv (show inD S d ys=some k from h)
      obtain⟨a,xs,rfl,hq,rr⟩:=ziP hH es he
      refine⟨a,xs,rfl,hq,?_⟩
      cases hp:pd S 60 d with
      |some px=>exact⟨px,fun us hus=>zii I (show X.A.units+1+62<cLine by omega) hH hp hd rx rr hus hb⟩
      | none =>
        cases ys with
        | nil =>
          refine⟨.none,fun us hus=>?_⟩
          cases (show xs=[] from rr)
          cases hus
          have hb:bs=[]:=by simpa using hb.symm
          subst hb
          exact⟨rfl,fun z hz=>nomatch hz⟩
        | cons z zs =>
          obtain⟨b,r,h1,_⟩:=zaD hb
          obtain⟨_,_,_,h3,_⟩:=zfj h1
          rw[hp] at h3;cases h3
   split at hc
   · rcases zfk hH hd he hc with ⟨us,a,b,rfl,rfl,ha,hb,rfl⟩|hc
     · cases (show v=Value.ref a from rx)
       cases (show u=Value.ref b from ry)
       exact zn0 (by omega) I ha hb ⟨.bl true,H,I,rfl,q⟩
     obtain⟨a,b,h1,h2,rfl⟩:=zfj hc
     obtain⟨p1,p2,p3⟩:=zfK hH 60 d a x h1 hd
     obtain⟨q1,q2,q3⟩:=zfK hH 60 e b y h2 he
     exact zl9 (by omega) pins s σ H x y v u Qv I rx ry ⟨a,b,p1,q1,p2,q2,by omega,q⟩
   · cases hk:zd5 S d e with
     |none=>rw[hk] at hc;cases hc
     | some k' =>
       rw[hk] at hc
       rcases zfk hH hd he hk with ⟨us,a,b,rfl,rfl,ha,hb,rfl⟩|hk
       · cases (show v=Value.ref a from rx)
         cases (show u=Value.ref b from ry)
         have hc:k=false:=by simpa using hc.symm
         subst hc
         exact znZ (by omega) I ha hb ⟨.bl false,H,I,rfl,q⟩
       obtain⟨a,b,h1,h2,rfl⟩:=zfj hk
       obtain⟨p1,p2,p3⟩:=zfK hH 60 d a x h1 hd
       obtain⟨q1,q2,q3⟩:=zfK hH 60 e b y h2 he
       have hc:k = !PyData.eqv a b:=by simpa using hc.symm
       subst hc
       exact zl4 (by omega) pins s σ H x y v u Qv I rx ry ⟨a,b,p1,q1,p2,q2,by omega,q⟩
   · split at hc
     · obtain rfl:y=.non:=he
       cases hc
       obtain rfl:u=Value.none:=ry
       refine is_none_gen ⟨.bl _,H,I,rfl,?_⟩
       rw[rx.none_iff,nonV hd];exact q
     · rename_i b _
       split at hc
       · rename_i a _
         cases hc
         exact zl8 pins s σ H _ _ v u Qv I rx ry ⟨a,b,hd,he,q⟩
       · cases hc
     · cases hc
   · split at hc
     · obtain rfl:y=.non:=he
       cases hc
       obtain rfl:u=Value.none:=ry
       refine isnot_none_gen ⟨.bl _,H,I,rfl,?_⟩
       rw[rx.none_iff,nonV hd];exact q
     · cases hc
   · rcases zfd hH hd he hc with ⟨a,o,rfl,g,rfl⟩|⟨a,kxs,kk,c,rfl,ha,tk,rfl,hk,rfl⟩|hc
     · cases (show u=Value.ref a from ry)
       exact d_in (by omega) I g rx fun s3 I3=>⟨.bl o.isSome,H,I3,rfl,q⟩
     · cases (show u=Value.ref a from ry)
       cases (show v=Value.ref c from rx)
       exact zn1 (by omega) I ha tk hk fun s3 I3=>⟨.bl _,H,I3,rfl,q⟩
     obtain⟨a,xs,rfl,hq,px,hp⟩:=isin _ hc
     cases (show u=Value.ref a from ry)
     rcases hq with hq|hq
     · obtain⟨its,r,pl,hz⟩:=I.list hq
       obtain⟨h1,h2⟩:=hp its r
       exact SeqAt.in_listAt (eqRd s.heap px) pl.isList (fun w hw=>h2 w (by simpa using hw)) (zan I q (by simpa using h1.symm))
     · obtain⟨its,r,pl,hz⟩:=I.tuple hq
       obtain⟨h1,h2⟩:=hp its r
       exact SeqAt.in_tupleAt (eqRd s.heap px) pl (fun w hw=>h2 w (by simpa using hw)) (zan I q (by simpa using h1.symm))
   · cases hk:zeB S d e with
     |none=>rw[hk] at hc;cases hc
     | some k' =>
       rw[hk] at hc
       have hc:k = !k':=by simpa using hc.symm
       subst hc
       rcases zfd hH hd he hk with ⟨a,o,rfl,g,rfl⟩|⟨a,kxs,kk,c,rfl,ha,tk,rfl,h3,rfl⟩|hk
       · cases (show u=Value.ref a from ry)
         exact zkz (by omega) I g rx fun s3 I3=>⟨.bl (!o.isSome),H,I3,rfl,q⟩
       · cases (show u=Value.ref a from ry)
         cases (show v=Value.ref c from rx)
         exact ziy (by omega) I ha tk h3 fun s3 I3=>⟨.bl _,H,I3,rfl,q⟩
       obtain⟨a,xs,rfl,hq,px,hp⟩:=isin k' hk
       cases (show u=Value.ref a from ry)
       rcases hq with hq|hq
       · obtain⟨its,r,pl,hz⟩:=I.list hq
         obtain⟨h1,h2⟩:=hp its r
         exact SeqAt.notIn_listAt (eqRd s.heap px) pl.isList (fun w hw=>h2 w (by simpa using hw)) (zan I q (by simpa using congrArg (!·) h1.symm))
       · obtain⟨its,r,pl,hz⟩:=I.tuple hq
         obtain⟨h1,h2⟩:=hp its r
         exact SeqAt.notIn_tupleAt (eqRd s.heap px) pl (fun w hw=>h2 w (by simpa using hw)) (zan I q (by simpa using congrArg (!·) h1.symm))
   · split at hc
     · rename_i xs ys _
       cases e1:zby xs with
       |none=>rw[e1] at hc;cases hc
       | some ns =>
         cases e2:zby ys with
         |none=>rw[e1,e2] at hc;cases hc
         | some ms =>
           rw[e1,e2] at hc
           have hc:k=lexLt ns ms:=by simpa using hc.symm
           subst hc
           obtain⟨a,us,rfl,ha,r1⟩:=hd
           obtain⟨b,ws,rfl,hb,r2⟩:=he
           rw[zbO e1] at r1
           rw[zbO e2] at r2
           rw[r1.ints_eq] at ha
           rw[r2.ints_eq] at hb
           exact zl7 (by omega) pins s σ H _ _ v u Qv I rx ry ⟨a,b,ns,ms,rfl,rfl,SqT.of ha,SqT.of hb,by rw[<-zfa];exact q⟩
     · cases hc
   · cases hc
end
end R
end
section
namespace R
open PySem PySem.Spec PyProof.Rows L2
variable [Mks]
noncomputable def zam:Expr->Bool|.Starred _ _=>false|_=>true
noncomputable def zbh:Expr->Bool|.ListComp ..=>false|.SetComp ..=>false|.DictComp ..=>false|_=>true
noncomputable def zdi:Expr->Bool|.Slice ..=>false|_=>true
noncomputable def zaJ:Expr->Bool|.Set ..=>false|_=>true
noncomputable def zcs:Expr->Bool|.Call (.Name _ _) [] [] _=>false|_=>true
noncomputable def ze5:Expr->Bool|.UnaryOp .Not _ _=>false|.BoolOp ..=>false|.IfExp ..=>false|.Compare ..=>false|_=>true
noncomputable def zn7:Expr->Bool|.Tuple ..=>false|_=>true
theorem zal {e:Expr}(h:zam e=true)(es:List Expr)(env:Env):starEach (e::es) env=(false,eval e env)::starEach es env:=by
 cases e<;>first|rfl|cases h
theorem zcj {e:Expr}(h:zbh e=true)(t:Option Expr)(l:Nat)(env:Env):swapsWith e t l env=pure false:=by
 cases e<;>first|rfl|cases h
theorem znM {e:Expr}(h:zdi e=true):zhx e:=by
 intro o i
 cases e<;>first|rfl|cases h
theorem zdl {e:Expr}(h:zaJ e=true)(op:CmpOp):behindInMarks op e=false:=by
 cases e<;>first|rfl|cases h
theorem zeU {e:Expr}(h:zcs e=true)(x:Str)(env:Env)(w:Sem Value):attributeBase e x env w=w:=by
 unfold attributeBase
 split
 · cases h
 · rfl
theorem zk2 {e:Expr}(h:ze5 e=true)(env:Env)(w:Sem Value):isTrue e env w=(do let v <-w;standAt e.pos;holding [v] (truthy v)):=by
 cases e with
 |UnaryOp op x p=>cases op<;>first|rfl|cases h
 |_=>first|rfl|cases h
theorem zeD {e:Expr}(h:zaJ e=true)(env:Env)(x:Value):foldedSetIterable e env x=pure x:=by
 cases e<;>first|rfl|cases h
theorem za0 {pos:Pos}{env:Env}:∀{es:List Expr},es.all zam=true->(backTo pos (starEach es env)).any (·.1)=false
 | [],_=>rfl
 | e :: es, h => by
   rw[List.all_cons,Bool.and_eq_true] at h
   rw[zal h.1]
   exact za0 (es:=es) h.2
structure Tab where
 blt:List Str
 cons:List (Str × D)
 fns:List (Str × List Str × Nat)
 cls:List Str:=[]
 flds:List Str:=[]
 mts:List (Nat × Str × Nat):=[]
 inits:List (Nat × Nat × Nat):=[]
 cms:List (Str × Str × Nat):=[]
 isas:List (Str × List Nat):=[]
 xcs:List (Nat × Str × Str):=[]
 xflds:List Str:=[]
 xisas:List (Str × List Nat):=[]
 xisbs:List (Str × List Nat):=[]
 xfns:List Nat:=[]
 xtrs:List Str:=[]
noncomputable def zig (sc:Scope)(x:Str):Bool:=match sc.names.lookup x with|some .local=>true|some .cell=>true|some .free=>true|_=>false
noncomputable def zcc (sc:Scope)(x:Str):Bool:=match sc.names.lookup x with|some .local=>true|some .cell=>true|_=>false
noncomputable def isGl (sc:Scope)(x:Str):Bool:=match sc.names.lookup x with|some .globalImplicit=>true|_=>false
noncomputable def eqC:D->D->Bool
 |.non,.non=>true|.bl a,.bl b=>a == b|.int a,.int b=>a == b|.str a,.str b=>a == b|_,_=>false
theorem zmD:∀{d e:D},eqC d e=true->d=e:=by
 intro d e h
 cases d<;>cases e<;>first|rfl|(simp only[eqC,beq_iff_eq] at h;subst h;rfl)|cases h
noncomputable def sV:D->V
 |.non=>.non|.bl b=>.bl b|.int i=>.int i|.str x=>.str x|_=>.non
noncomputable def zjG:D->Bool
 |.non=>true|.bl _=>true|.int _=>true|.str _=>true|_=>false
theorem znn {K:PySem.W.Frag}{ι:List Addr}{H:Hp}{d:D}(h:zjG d=true):RV K ι H d (sV d):=by
 cases d<;>first|rfl|cases h
noncomputable def conB:D->Const->Bool
 |.non,.none=>true|.bl a,.bool b=>a == b|.int a,.int b=>a == b|.str a,.str b=>a == b|_,_=>false
noncomputable def bltB (T:Tab)(sc:Scope)(x:Str):Bool:=isGl sc x&&T.blt.contains x
noncomputable def spF (K:PySem.W.Frag)(cf:CF)(f:Nat):Sp:=fun vs H Qv _=>∃ι S ds,RVs K ι H ds vs/\RH K ι H S/\W (cf f ds S) (fun d T=>∀v H' ι',Ext ι H ι' H'->RV K ι' H' d v->RH K ι' H' T->Qv v H')
structure HasM (P:Program) (w:World) (K:PySem.W.Frag) (mg:Str->Option Value) (base:Heap) (k c:Nat) (m:Str) (sp:Sp):Prop where
 ex:∃(C fa:Addr) (fd:FuncData) (ps:List Str),Mks.cl[c]?=some C/\Cls K C/\Meth K C m fa/\FnOk P w K mg base CX0 k fa fd ps sp/\Binds K fd ps []
structure HasI (P:Program) (w:World) (K:PySem.W.Frag) (mg:Str->Option Value) (base:Heap) (k c j:Nat) (sp:Sp):Prop where
 ex:∃(C fa:Addr) (fd:FuncData) (ps:List Str),Mks.cl[c]?=some C/\Mk K C fa/\FnOk P w K mg base CX0 k fa fd ps sp/\Binds K fd ps (List.replicate j Value.none)
structure HasC (P:Program) (w:World) (K:PySem.W.Frag) (mg:Str->Option Value) (base:Heap) (k:Nat) (x m:Str) (sp:Sp):Prop where
 ex:∃(C fa:Addr) (fd:FuncData) (ps:List Str) (mc:Value),mg x=some (.ref C)/\PySem.W.specialIn K (.ref C) "__getattribute__"=some (some (.builtin "type.__getattribute__"))/\PySem.W.readsIn K C mc=true/\PySem.W.findCls K (.ref C) mc m=some (.val (.ref fa))/\
  PySem.W.keepIn K (.ref fa)=true/\FnOk P w K mg base CX0 k fa fd ps sp/\Binds K fd ps []
structure IsaOk (K:PySem.W.Frag) (C:Addr):Prop where
 ha:PySem.W.findIn K (.ref C) "__class__"=some (some (.builtin "object.__class__"))
 hn:PySem.W.specialIn K (.builtin "object.__class__") "__get__"=some (some (.builtin "getset_descriptor.__get__"))
 ht:PySem.W.takesIn K (.builtin "object.__class__")=some true
 hm:PySem.W.mroIn K C (.type "object")=some true
noncomputable def spX (K:PySem.W.Frag)(cf:CF)(f:Nat):Sp:=fun vs H Qv E=>∃ι S ds,RVs K ι H ds vs/\RH K ι H S/\(match cf f ds S with
 |.ok d T=>∀v H' ι',Ext ι H ι' H'->RV K ι' H' d v->RH K ι' H' T->Qv v H'
 |.err d T=>∀a H' ι',Ext ι H ι' H'->RV K ι' H' d (.ref a)->RH K ι' H' T->E (.ref a) none H'
 |.bad=>False)
structure XTabOk (T:Tab) (cf:CF) (k:Nat) (P:Program) (w:World) (K:PySem.W.Frag) (mg:Str->Option Value) (base:Heap):Prop where
 cl:∀(c:Nat) (x f:Str),T.xcs.contains (c,x,f)=true->∃(C fI:Addr) (fd:FuncData) (ps:List Str),Mks.xc[c]?=some C/\mg x=some (.ref C)/\PySem.W.keepIn K (.ref C)=true/\Xc K C fI f/\FnOk P w K mg base CX0 k fI fd ps (spI K fI f)/\Binds K fd ps []
 fl:∀f,T.xflds.contains f=true->∀(c:Nat) C,Mks.xc[c]?=some C->XGet K C/\zcH K C f
 is:∀(x:Str) (cs:List Nat),T.xisas.contains (x,cs)=true->∃D,mg x=some (.ref D)/\∀(c:Nat) C,Mks.xc[c]?=some C->XGet K C/\IsaOk K C/\PySem.W.kitOne K (.ref C) (.ref D)=some (cs.contains c)
 ib:∀(x:Str) (cs:List Nat),T.xisbs.contains (x,cs)=true->mg x=none/\x≠"__name__"/\∃t,bootBuiltins x=some (.type t)/\∀(c:Nat) C,Mks.xc[c]?=some C->XGet K C/\IsaOk K C/\PySem.W.kitOne K (.ref C) (.type t)=some (cs.contains c)
 fn:∀(f:Nat) (x:Str) (ps:List Str) (nd:Nat),T.xfns.contains f=true->T.fns[f]?=some (x,ps,nd)->∃fa fd,FnOk P w K mg base (CXe P w) k fa fd ps (spX K cf f)/\mg x=some (.ref fa)/\PySem.W.keepIn K (.ref fa)=true/\Binds K fd ps []
 tr:∀x,T.xtrs.contains x=true->∃CR,mg x=some (.ref CR)/\∀(c:Nat) C,Mks.xc[c]?=some C->PySem.W.exmOne K (.ref C) (.ref CR)=some true
structure TabOk (T:Tab) (cf:CF) (k:Nat) (P:Program) (w:World) (K:PySem.W.Frag) (mg:Str->Option Value) (base:Heap):Prop where
 blt:∀x,T.blt.contains x=true->mg x=none
 con:∀x d,T.cons.lookup x=some d->zjG d=true/\∃u,mg x=some u/\RelV (sV d) u
 fns:∀f x ps nd,T.fns[f]?=some (x,ps,nd)->∀j,j<=nd->Has P w K mg base k x ps (List.replicate j .non) (spF K cf f)
 frm:CFok cf
 cls:∀(c:Nat) (x:Str),T.cls[c]?=some x->∃C,Mks.cl[c]?=some C/\Cls K C/\mg x=some (.ref C)/\∀f,T.flds.contains f=true->zcH K C f
 mth:∀(c:Nat) (m:Str) (fi:Nat),T.mts.contains (c,m,fi)=true->HasM P w K mg base k c m (spF K cf fi)
 ini:∀(c fi j:Nat),T.inits.contains (c,fi,j)=true->HasI P w K mg base k c j (spF K cf fi)
 cmd:∀(x m:Str) (fi:Nat),T.cms.contains (x,m,fi)=true->HasC P w K mg base k x m (spF K cf fi)
 cln:(T.flds≠[]\/T.inits≠[]\/T.isas≠[])->Mks.cl.length<=T.cls.length
 isa:∀(x:Str) (cs:List Nat),T.isas.contains (x,cs)=true->∃D,mg x=some (.ref D)/\∀c C,Mks.cl[c]?=some C->IsaOk K C/\PySem.W.kitOne K (.ref C) (.ref D)=some (cs.contains c)
 xtb:XTabOk T cf k P w K mg base
structure Gd (T:Tab) (cf:CF) (k:Nat) (N:List Str) (sc:Scope) (X:Cx):Prop where
 nm:X.N=N
 nd:N.Nodup
 loc:∀x,sc.names.lookup x=some .local->X.env.scope.names.lookup x=some .local
 cell:∀x,sc.names.lookup x=some .cell->X.env.scope.names.lookup x=some .cell
 free:∀x,sc.names.lookup x=some .free->X.env.scope.names.lookup x=some .free\/X.env.scope.names.lookup x=some .cell
 glob:∀x,sc.names.lookup x=some .globalImplicit->X.env.scope.names.lookup x=some .globalImplicit
 fn:(∀x,X.fn x=true)\/∀x,sc.names.lookup x≠some .cell
 calm:X.calm=true
 xe:PassesOwn (model X.prog X.w) X.A X.env X.xe
 room':Room (k+1) X.A
 tab:TabOk T cf k X.prog X.w X.K X.mg X.base
section
variable {T:Tab} {cf:CF} {k:Nat} {N:List Str} {sc:Scope} {X:Cx}
theorem Gd.room (G:Gd T cf k N sc X):Room k X.A:=G.room'.mono (Nat.le_succ k)
theorem Gd.hu (G:Gd T cf k N sc X):X.A.units+128<cLine:=by have:=G.room.un;omega
theorem Gd.vis (G:Gd T cf k N sc X){x:Str}(h:zig sc x=true):Vis X.env.scope x:=by
 unfold zig at h
 split at h
 · rename_i e;exact .inl (G.loc x e)
 · rename_i e;exact .inr (.inl (G.cell x e))
 · rename_i e
   rcases G.free x e with q|q
   · exact .inr (.inr q)
   · exact .inr (.inl q)
 · cases h
theorem Gd.lc (G:Gd T cf k N sc X){x:Str}(h:zcc sc x=true):Loc X.env.scope x/\(X.fn x=true\/X.env.scope.names.lookup x=some .local):=by
 unfold zcc at h
 split at h
 · rename_i e;exact⟨.inl (G.loc x e),.inr (G.loc x e)⟩
 · rename_i e
   refine⟨.inr (G.cell x e),?_⟩
   rcases G.fn with q|q
   · exact .inl (q x)
   · exact absurd e (q x)
 · cases h
theorem Gd.gl (G:Gd T cf k N sc X){x:Str}(h:isGl sc x=true):Gl X x:=by
 unfold isGl at h
 split at h
 · rename_i e;exact G.glob x e
 · cases h
end
noncomputable def RS (K:PySem.W.Frag)(ι:List Addr)(H:Hp)(δ:Ev)(σ:L2.St):Prop:=δ.length=σ.length/\∀(i:Nat) (d:D),δ[i]?=some (some d)->∃v,σ[i]?=some (some v)/\RV K ι H d v
theorem RS.ext {K:PySem.W.Frag}{ι ι':List Addr}{H H':Hp}{δ:Ev}{σ:L2.St}(h:RS K ι H δ σ)(x:Ext ι H ι' H'):RS K ι' H' δ σ:=
 ⟨h.1,fun i d e=>let ⟨v,e1,r⟩:=h.2 i d e;⟨v,e1,r.ext x⟩⟩
theorem RS.set {K:PySem.W.Frag}{ι:List Addr}{H:Hp}{δ:Ev}{σ:L2.St}(h:RS K ι H δ σ){d:D}{v:V}(r:RV K ι H d v)(i:Nat):RS K ι H (δ.set i (some d)) (σ.set i (some v)):=by
 refine⟨by simp[h.1],fun j e hj=>?_⟩
 by_cases hij:i=j
 · subst hij
   have hl:i<δ.length:=by
    have:=(List.getElem?_eq_some_iff.mp hj).1
    simpa using this
   rw[List.getElem?_set_self hl] at hj
   cases hj
   exact⟨v,List.getElem?_set_self (by rw[<-h.1];exact hl),r⟩
 · rw[List.getElem?_set_ne hij] at hj
   obtain⟨v',e1,r'⟩:=h.2 j e hj
   exact⟨v',by rw[List.getElem?_set_ne hij];exact e1,r'⟩
noncomputable def tE (K:PySem.W.Frag)(cf:CF)(ce:CE):TE:=fun σ H Qv=>∃δ ι S Q,RS K ι H δ σ/\RH K ι H S/\W (evE cf ce δ S) Q/\∀v H',Lf K ι H Q v H'->Qv v H'
noncomputable def LfB (K:PySem.W.Frag)(ι:List Addr)(H:Hp)(Q:Bool->R.St->Prop):Bool->Hp->Prop:=fun b H'=>∃ι' S',Ext ι H ι' H'/\RH K ι' H' S'/\Q b S'
noncomputable def tT (K:PySem.W.Frag)(cf:CF)(ce:CE):TT:=fun σ H Qv=>∃δ ι S Q,RS K ι H δ σ/\RH K ι H S/\W (evT cf ce δ S) Q/\∀b H',LfB K ι H Q b H'->Qv b H'
noncomputable def LfA (K:PySem.W.Frag)(ι:List Addr)(H:Hp)(Q:List D->R.St->Prop):List V->Hp->Prop:=fun vs H'=>∃ds ι' S',Ext ι H ι' H'/\RVs K ι' H' ds vs/\RH K ι' H' S'/\Q ds S'
noncomputable def tAs (K:PySem.W.Frag)(cf:CF)(ces:CEs):TA:=fun σ H Qv=>∃δ ι S Q,RS K ι H δ σ/\RH K ι H S/\W (evEs cf ces δ S) Q/\∀vs H',LfA K ι H Q vs H'->Qv vs H'
inductive SqK (K:PySem.W.Frag) (ι:List Addr) (H:Hp) (S:R.St) (a:Addr) (xs:List V) (ds:List D) (lks:List Nat):Prop where
 |tmp (h:a∉ι) (e:H a=some (.lst xs)):SqK K ι H S a xs ds lks
 |tup (e:H a=some (.tup xs)):SqK K ι H S a xs ds lks
 |fix (e:FixL K H a xs):SqK K ι H S a xs ds lks
 |own (l:Nat) (hl:l∈lks) (hi:ι[l]?=some a) (hs:S.get l=some (.lst ds)) (e:H a=some (.lst xs)):SqK K ι H S a xs ds lks
noncomputable def Sq (K:PySem.W.Frag)(ι:List Addr)(H:Hp)(S:R.St)(v:V)(ds:List D)(lks:List Nat):Prop:=∃a xs,v=.ref a/\RVs K ι H ds xs/\SqK K ι H S a xs ds lks
noncomputable def LfL (K:PySem.W.Frag)(ι:List Addr)(H:Hp)(Q:List D × List Nat->R.St->Prop):VK:=fun v H'=>∃ds lks ι' S',Ext ι H ι' H'/\Sq K ι' H' S' v ds lks/\RH K ι' H' S'/\Q (ds,lks) S'
noncomputable def tL (K:PySem.W.Frag)(cf:CF)(cl:CL):TE:=fun σ H Qv=>∃δ ι S Q,RS K ι H δ σ/\RH K ι H S/\W (evL cf cl δ S) Q/\∀v H',LfL K ι H Q v H'->Qv v H'
noncomputable def LfT (K:PySem.W.Frag)(ι:List Addr)(H:Hp)(Q:List D × List Nat->R.St->Prop):VK:=fun v H'=>∃ds ι' S' a xs,Ext ι H ι' H'/\v=.ref a/\RVs K ι' H' ds xs/\a∉ι'/\H' a=some (.lst xs)/\RH K ι' H' S'/\H a=none/\Q (ds,[]) S'
noncomputable def tLt (K:PySem.W.Frag)(cf:CF)(cl:CL):TE:=fun σ H Qv=>∃δ ι S Q,RS K ι H δ σ/\RH K ι H S/\W (evL cf cl δ S) Q/\∀v H',LfT K ι H Q v H'->Qv v H'
theorem LfT.l {K:PySem.W.Frag}{ι:List Addr}{H:Hp}{Q:List D × List Nat->R.St->Prop}{v:V}{H':Hp}(h:LfT K ι H Q v H'):LfL K ι H Q v H':=by
 obtain⟨ds,ι',S',a,xs,x,rfl,r,ha,e,hh,_,q⟩:=h
 exact⟨ds,[],ι',S',x,⟨a,xs,rfl,r,.tmp ha e⟩,hh,q⟩
theorem PE.imp {X:Cx}{e:Expr}{t t':TE}(h:PE X e t)(i:∀σ H Q,t' σ H Q->t σ H Q):PE X e t':=fun pins s σ H Q I q=>h pins s σ H Q I (i σ H Q q)
theorem PT.imp {X:Cx}{e:Expr}{t t':TT}(h:PT X e t)(i:∀σ H Q,t' σ H Q->t σ H Q):PT X e t':=fun pins s σ H Q I q=>h pins s σ H Q I (i σ H Q q)
theorem PW.imp {X:Cx}{e:Expr}{t t':TT}(h:PW X e t)(i:∀σ H Q,t' σ H Q->t σ H Q):PW X e t':=fun wh pins s σ H Q I q=>h wh pins s σ H Q I (i σ H Q q)
theorem PA.imp {X:Cx}{es:List Expr}{t t':TA}(h:PA X es t)(i:∀σ H Q,t' σ H Q->t σ H Q):PA X es t':=fun pos pins s σ H Q I q=>h pos pins s σ H Q I (i σ H Q q)
theorem tE.run {K:PySem.W.Frag}{cf:CF}{a:CE}{δ:Ev}{σ:L2.St}{ι:List Addr}{H:Hp}{S:R.St}{Q:D->R.St->Prop}{Qv:VK}(hs:RS K ι H δ σ)(hh:RH K ι H S)(w:W (evE cf a δ S) Q)
  (h:∀d v ι' H' S',Ext ι H ι' H'->RS K ι' H' δ σ->RH K ι' H' S'->RV K ι' H' d v->Q d S'->Qv v H'):tE K cf a σ H Qv:=
 ⟨δ,ι,S,Q,hs,hh,w,fun v H' ⟨d,ι',S',x,r,hh',q⟩=>h d v ι' H' S' x (hs.ext x) hh' r q⟩
theorem tT.run {K:PySem.W.Frag}{cf:CF}{a:CE}{δ:Ev}{σ:L2.St}{ι:List Addr}{H:Hp}{S:R.St}{Q:Bool->R.St->Prop}{Qv:Bool->Hp->Prop}(hs:RS K ι H δ σ)(hh:RH K ι H S)(w:W (evT cf a δ S) Q)
  (h:∀b ι' H' S',Ext ι H ι' H'->RS K ι' H' δ σ->RH K ι' H' S'->Q b S'->Qv b H'):tT K cf a σ H Qv:=
 ⟨δ,ι,S,Q,hs,hh,w,fun b H' ⟨ι',S',x,hh',q⟩=>h b ι' H' S' x (hs.ext x) hh' q⟩
theorem tAs.run {K:PySem.W.Frag}{cf:CF}{a:CEs}{δ:Ev}{σ:L2.St}{ι:List Addr}{H:Hp}{S:R.St}{Q:List D->R.St->Prop}{Qv:List V->Hp->Prop}(hs:RS K ι H δ σ)(hh:RH K ι H S)(w:W (evEs cf a δ S) Q)
  (h:∀ds vs ι' H' S',Ext ι H ι' H'->RS K ι' H' δ σ->RH K ι' H' S'->RVs K ι' H' ds vs->Q ds S'->Qv vs H'):tAs K cf a σ H Qv:=
 ⟨δ,ι,S,Q,hs,hh,w,fun v H' ⟨d,ι',S',x,r,hh',q⟩=>h d v ι' H' S' x (hs.ext x) hh' r q⟩
theorem PE.ofT {X:Cx}{e:Expr}{cf:CF}{cl:CL}(h:PE X e (tLt X.K cf cl)):PE X e (tL X.K cf cl):=
 PE.imp h fun σ H Qv ⟨δ,ι,S,Q,hs,hh,w,q⟩=>⟨δ,ι,S,Q,hs,hh,w,fun v H' l=>q v H' l.l⟩
theorem tLt.run {K:PySem.W.Frag}{cf:CF}{a:CL}{δ:Ev}{σ:L2.St}{ι:List Addr}{H:Hp}{S:R.St}{Q:List D × List Nat->R.St->Prop}{Qv:VK}(hs:RS K ι H δ σ)(hh:RH K ι H S)(w:W (evL cf a δ S) Q)
  (h:∀ds p xs ι' H' S',Ext ι H ι' H'->RS K ι' H' δ σ->RH K ι' H' S'->RVs K ι' H' ds xs->p∉ι'->H' p=some (.lst xs)->H p=none->Q (ds,[]) S'->Qv (.ref p) H'):tLt K cf a σ H Qv:=
 ⟨δ,ι,S,Q,hs,hh,w,fun v H' ⟨ds,ι',S',p,xs,x,e,r,hp,hx,hh',hn,q⟩=>e▸h ds p xs ι' H' S' x (hs.ext x) hh' r hp hx hn q⟩
theorem tL.run {K:PySem.W.Frag}{cf:CF}{a:CL}{δ:Ev}{σ:L2.St}{ι:List Addr}{H:Hp}{S:R.St}{Q:List D × List Nat->R.St->Prop}{Qv:VK}(hs:RS K ι H δ σ)(hh:RH K ι H S)(w:W (evL cf a δ S) Q)
  (h:∀ds lks v ι' H' S',Ext ι H ι' H'->RS K ι' H' δ σ->RH K ι' H' S'->Sq K ι' H' S' v ds lks->Q (ds,lks) S'->Qv v H'):tL K cf a σ H Qv:=
 ⟨δ,ι,S,Q,hs,hh,w,fun v H' ⟨ds,lks,ι',S',x,r,hh',q⟩=>h ds lks v ι' H' S' x (hs.ext x) hh' r q⟩
end R
end
section
namespace R
open PySem PySem.Spec PyProof.Rows L2
variable [Mks]
section
variable {T:Tab} {cf:CF} {k:Nat} {N:List Str} {sc:Scope} {X:Cx} {pos:Pos}
theorem zhw {α:Type}{o:Out α}{Q:α->R.St->Prop}(h:W o Q):∃a S,o=.ok a S/\Q a S:=W.iff.mp h
theorem zaC {α:Type}{S:R.St}{o:Option α}{Q:α->R.St->Prop}(h:W (lift S o) Q):∃a,o=some a/\Q a S:=by
 cases o with
 |none=>exact h.elim
 |some a=>exact⟨a,rfl,h⟩
theorem zlo (G:Gd T cf k N sc X){i:Nat}{x:Str}(h1:N[i]?=some x)(h2:zig sc x=true)(h3:(x == ("__debug__":Str))=false)(h4:(x == ("__classdict__":Str))=false):PE X (.Name x pos) (tE X.K cf (.loc i)):=by
 refine PE.imp (zdP (i:=i) (by rw[G.nm];exact h1) (G.vis h2) h3 h4) fun σ H Qv ⟨δ,ι,S,Q,hs,hh,w,q⟩=>?_
 simp only[evE] at w
 obtain⟨d,e,hq⟩:=zaC w
 have e':δ[i]?=some (some d):=by
  cases z:δ[i]? with
  |none=>rw[z] at e;cases e
  |some o=>rw[z] at e;simp at e;rw[e]
 obtain⟨v,ev,r⟩:=hs.2 i d e'
 exact⟨v,ev,q v H (Lf.of hh r hq)⟩
theorem zlr {d:D}{c:Const}{j:Nat}(h:conB d c=true):PE X (.Constant c j pos) (tE X.K cf (.con d)):=by
 have key:∀{v:V},PE X (.Constant c j pos) (tC v)->(∀K ι H,RV K ι H d v)->PE X (.Constant c j pos) (tE X.K cf (.con d)):=fun {v} hp hr=>
  PE.imp hp fun σ H Qv ⟨δ,ι,S,Q,hs,hh,w,q⟩=>q v H (Lf.of hh (hr _ _ _) (by simpa[evE] using w))
 cases d<;>cases c<;>first
  |exact key zlT fun _ _ _=>rfl
  |cases h
  |(simp only[conB,beq_iff_eq] at h;subst h;exact key zlV fun _ _ _=>rfl)
  |(simp only[conB,beq_iff_eq] at h;subst h;exact key znw fun _ _ _=>rfl)
  |(simp only[conB,beq_iff_eq] at h;subst h;exact key ziY fun _ _ _=>rfl)
theorem zjC (G:Gd T cf k N sc X){d d':D}{x:Str}(h1:isGl sc x=true)(h2:T.cons.lookup x=some d')(h3:eqC d' d=true)(h4:(x == ("__debug__":Str))=false):PE X (.Name x pos) (tE X.K cf (.con d)):=by
 have e:=zmD h3
 subst e
 obtain⟨hsc,u,hu,r⟩:=G.tab.con x d' h2
 exact PE.imp (zex (G.gl h1) hu r h4) fun σ H Qv ⟨δ,ι,S,Q,hs,hh,w,q⟩=>q (sV d') H (Lf.of hh (znn hsc) (by simpa[evE] using w))
theorem zlt {ca cb:CE}{a b:Expr}{op:Operator}(ha:PE X a (tE X.K cf ca))(hb:PE X b (tE X.K cf cb)):PE X (.BinOp a op b pos) (tE X.K cf (.bin op ca cb)):=by
 refine PE.imp (zlR (zmK op) ha hb) fun σ H Qv ⟨δ,ι,S,Q,hs,hh,w,q⟩=>?_
 simp only[evE,zaa] at w
 refine tE.run hs hh w fun d v ι1 H1 S1 x1 hs1 hh1 r1 w1=>tE.run hs1 hh1 w1 fun e u ι2 H2 S2 x2 hs2 hh2 r2 w2=>?_
 exact⟨ι2,S2,d,e,Q,r1.ext x2,r2,hh2,w2,fun z H3 l=>q z H3 (Lf.up (x1.trans x2) l)⟩
theorem zlk {ca:CE}{a:Expr}(ha:PE X a (tE X.K cf ca)):PE X (.UnaryOp .USub a pos) (tE X.K cf (.neg ca)):=by
 refine PE.imp (zns zkY ha) fun σ H Qv ⟨δ,ι,S,Q,hs,hh,w,q⟩=>?_
 simp only[evE,zaa] at w
 refine tE.run hs hh w fun d v ι1 H1 S1 x1 hs1 hh1 r1 w1=>?_
 cases d with
 | int i =>
   obtain rfl:v=.int i:=r1
   exact⟨i,rfl,q _ _ (Lf.up x1 (Lf.of (d:=.int (-i)) hh1 rfl w1))⟩
 |_=>exact w1.elim
theorem znk {ca:CE}{a:Expr}(ha:PE X a (tE X.K cf ca)):PE X (.UnaryOp .Not a pos) (tE X.K cf (.nt ca)):=by
 refine PE.imp (zlS ha) fun σ H Qv ⟨δ,ι,S,Q,hs,hh,w,q⟩=>?_
 simp only[evE,zaa] at w
 refine tE.run hs hh w fun d v ι1 H1 S1 x1 hs1 hh1 r1 w1=>?_
 cases d with
 | bl i =>
   obtain rfl:v=.bl i:=r1
   exact⟨i,rfl,q _ _ (Lf.up x1 (Lf.of (d:=.bl (!i)) hh1 rfl w1))⟩
 |_=>exact w1.elim
theorem zls (G:Gd T cf k N sc X){ca cb:CE}{a b:Expr}{op:CmpOp}(ha:PE X a (tE X.K cf ca))(hb:PE X b (tE X.K cf cb))(hm:zaJ b=true):PE X (.Compare a [op] [b] pos) (tE X.K cf (.cmp op ca cb)):=by
 refine PE.imp (zj0 (zc0 G.hu op) ha hb (zdl hm op)) fun σ H Qv ⟨δ,ι,S,Q,hs,hh,w,q⟩=>?_
 simp only[evE,zaa] at w
 refine tE.run hs hh w fun d v ι1 H1 S1 x1 hs1 hh1 r1 w1=>tE.run hs1 hh1 w1 fun e u ι2 H2 S2 x2 hs2 hh2 r2 w2=>?_
 obtain⟨b,hb,w3⟩:=zaC w2
 exact⟨ι2,S2,d,e,b,r1.ext x2,r2,hh2,hb,q _ _ (Lf.up (x1.trans x2) (Lf.of (d:=.bl b) hh2 rfl w3))⟩
theorem zk9 (G:Gd T cf k N sc X){ca cb:CE}{a b:Expr}{op:CmpOp}(ha:PE X a (tE X.K cf ca))(hb:PE X b (tE X.K cf cb))(hm:zaJ b=true):PT X (.Compare a [op] [b] pos) (tT X.K cf (.cmp op ca cb)):=by
 refine PT.imp (zjS (zc0 G.hu op) ha hb (zdl hm op)) fun σ H Qv ⟨δ,ι,S,Q,hs,hh,w,q⟩=>?_
 simp only[evT,zaa] at w
 refine tE.run hs hh w fun d v ι1 H1 S1 x1 hs1 hh1 r1 w1=>tE.run hs1 hh1 w1 fun e u ι2 H2 S2 x2 hs2 hh2 r2 w2=>?_
 obtain⟨b,hb,w3⟩:=zaC w2
 exact⟨ι2,S2,d,e,b,r1.ext x2,r2,hh2,hb,b,rfl,q _ _ ⟨ι2,S2,x1.trans x2,hh2,w3⟩⟩
theorem zjE (G:Gd T cf k N sc X){ca cb cc:CE}{a b c:Expr}{op op':CmpOp}(ha:PE X a (tE X.K cf ca))(hb:PE X b (tE X.K cf cb))(hc:PE X c (tE X.K cf cc))(hm:zaJ b=true)(hm':zaJ c=true) :
  PE X (.Compare a [op,op'] [b,c] pos) (tE X.K cf (.cmp2 op op' ca cb cc)):=by
 refine PE.imp (zh5 (zc0 G.hu op) (zc0 G.hu op') ha hb hc (by simp[lastMarks,zdl hm'])) fun σ H Qv ⟨δ,ι,S,Q,hs,hh,w,q⟩=>?_
 simp only[evE,zaa] at w
 refine tE.run hs hh w fun d v ι1 H1 S1 x1 hs1 hh1 r1 w1=>tE.run hs1 hh1 w1 fun e u ι2 H2 S2 x2 hs2 hh2 r2 w2=>?_
 obtain⟨b,hb,w3⟩:=zaC w2
 refine⟨ι2,S2,d,e,b,r1.ext x2,r2,hh2,hb,b,rfl,?_⟩
 cases b with
 |false=>exact q _ _ (Lf.up (x1.trans x2) (Lf.of (d:=.bl false) hh2 rfl w3))
 | true =>
   simp only[if_true,zaa] at w3⊢
   refine tE.run hs2 hh2 w3 fun e' u' ι3 H3 S3 x3 hs3 hh3 r3 w4=>?_
   obtain⟨b,hb,w5⟩:=zaC w4
   exact⟨ι3,S3,e,e',b,r2.ext x3,r3,hh3,hb,q _ _ (Lf.up ((x1.trans x2).trans x3) (Lf.of (d:=.bl b) hh3 rfl w5))⟩
theorem zjp (G:Gd T cf k N sc X){ca cb cc:CE}{a b c:Expr}{op op':CmpOp}(ha:PE X a (tE X.K cf ca))(hb:PE X b (tE X.K cf cb))(hc:PE X c (tE X.K cf cc))(hm:zaJ b=true)(hm':zaJ c=true) :
  PT X (.Compare a [op,op'] [b,c] pos) (tT X.K cf (.cmp2 op op' ca cb cc)):=by
 refine PT.imp (zhS (zc0 G.hu op) (zc0 G.hu op') ha hb hc (by simp[lastMarks,zdl hm'])) fun σ H Qv ⟨δ,ι,S,Q,hs,hh,w,q⟩=>?_
 simp only[evT,zaa] at w
 refine tE.run hs hh w fun d v ι1 H1 S1 x1 hs1 hh1 r1 w1=>tE.run hs1 hh1 w1 fun e u ι2 H2 S2 x2 hs2 hh2 r2 w2=>?_
 obtain⟨b,hb,w3⟩:=zaC w2
 refine⟨ι2,S2,d,e,b,r1.ext x2,r2,hh2,hb,b,rfl,?_⟩
 cases b with
 |false=>exact⟨false,rfl,q _ _ ⟨ι2,S2,x1.trans x2,hh2,w3⟩⟩
 | true =>
   simp only[if_true,zaa] at w3⊢
   refine tE.run hs2 hh2 w3 fun e' u' ι3 H3 S3 x3 hs3 hh3 r3 w4=>?_
   obtain⟨b,hb,w5⟩:=zaC w4
   exact⟨ι3,S3,e,e',b,r2.ext x3,r3,hh3,hb,b,rfl,q _ _ ⟨ι3,S3,(x1.trans x2).trans x3,hh3,w5⟩⟩
theorem ziR {ca cb:CE}{a b:Expr}{rest:List Expr}(ha:PE X a (tE X.K cf ca))(hb:PE X (.BoolOp .And (b::rest) pos) (tE X.K cf cb)):PE X (.BoolOp .And (a::b::rest) pos) (tE X.K cf (.and ca cb)):=by
 refine PE.imp (zlY ha hb) fun σ H Qv ⟨δ,ι,S,Q,hs,hh,w,q⟩=>?_
 simp only[evE,zaa] at w
 refine tE.run hs hh w fun d v ι1 H1 S1 x1 hs1 hh1 r1 w1=>?_
 cases d with
 | bl c =>
   obtain rfl:v=.bl c:=r1
   refine⟨c,rfl,?_⟩
   cases c with
   |false=>exact q _ _ (Lf.up x1 (Lf.of (d:=.bl false) hh1 rfl w1))
   |true=>exact⟨δ,ι1,S1,Q,hs1,hh1,w1,fun z H3 l=>q z H3 (Lf.up x1 l)⟩
 |_=>exact w1.elim
theorem zlj {ca cb:CE}{a b:Expr}{rest:List Expr}(ha:PE X a (tE X.K cf ca))(hb:PE X (.BoolOp .Or (b::rest) pos) (tE X.K cf cb)):PE X (.BoolOp .Or (a::b::rest) pos) (tE X.K cf (.or ca cb)):=by
 refine PE.imp (znt ha hb) fun σ H Qv ⟨δ,ι,S,Q,hs,hh,w,q⟩=>?_
 simp only[evE,zaa] at w
 refine tE.run hs hh w fun d v ι1 H1 S1 x1 hs1 hh1 r1 w1=>?_
 cases d with
 | bl c =>
   obtain rfl:v=.bl c:=r1
   refine⟨c,rfl,?_⟩
   cases c with
   |true=>exact q _ _ (Lf.up x1 (Lf.of (d:=.bl true) hh1 rfl w1))
   |false=>exact⟨δ,ι1,S1,Q,hs1,hh1,w1,fun z H3 l=>q z H3 (Lf.up x1 l)⟩
 |_=>exact w1.elim
theorem LfB.up {K:PySem.W.Frag}{ι ι':List Addr}{H H':Hp}{Q:Bool->R.St->Prop}{b:Bool}{H2:Hp}(x:Ext ι H ι' H')(h:LfB K ι' H' Q b H2):LfB K ι H Q b H2:=by
 obtain⟨ι2,S2,x2,r⟩:=h
 exact⟨ι2,S2,x.trans x2,r⟩
theorem ziM {ca cb:CE}{a b:Expr}{rest:List Expr}(ha:PT X a (tT X.K cf ca))(hb:PW X (.BoolOp .And (b::rest) pos) (tT X.K cf cb)):PW X (.BoolOp .And (a::b::rest) pos) (tT X.K cf (.and ca cb)):=by
 refine PW.imp (zlH ha hb) fun σ H Qv ⟨δ,ι,S,Q,hs,hh,w,q⟩=>?_
 simp only[evT,zaa] at w
 refine tT.run hs hh w fun c ι1 H1 S1 x1 hs1 hh1 w1=>?_
 cases c with
 |false=>exact q _ _ ⟨ι1,S1,x1,hh1,w1⟩
 |true=>exact⟨δ,ι1,S1,Q,hs1,hh1,w1,fun z H3 l=>q z H3 (LfB.up x1 l)⟩
theorem zk8 {ca cb:CE}{a b:Expr}{rest:List Expr}(ha:PT X a (tT X.K cf ca))(hb:PW X (.BoolOp .Or (b::rest) pos) (tT X.K cf cb)):PW X (.BoolOp .Or (a::b::rest) pos) (tT X.K cf (.or ca cb)):=by
 refine PW.imp (znr ha hb) fun σ H Qv ⟨δ,ι,S,Q,hs,hh,w,q⟩=>?_
 simp only[evT,zaa] at w
 refine tT.run hs hh w fun c ι1 H1 S1 x1 hs1 hh1 w1=>?_
 cases c with
 |true=>exact q _ _ ⟨ι1,S1,x1,hh1,w1⟩
 |false=>exact⟨δ,ι1,S1,Q,hs1,hh1,w1,fun z H3 l=>q z H3 (LfB.up x1 l)⟩
theorem znh {ca:CE}{a:Expr}(ha:PT X a (tT X.K cf ca)):PT X (.UnaryOp .Not a pos) (tT X.K cf (.nt ca)):=by
 refine PT.imp (zlI ha) fun σ H Qv ⟨δ,ι,S,Q,hs,hh,w,q⟩=>?_
 simp only[evT,zaa] at w
 exact tT.run hs hh w fun c ι1 H1 S1 x1 hs1 hh1 w1=>q _ _ ⟨ι1,S1,x1,hh1,w1⟩
theorem zk3 {ι:List Addr}{H:Hp}{S:R.St}{d:D}{v:V}{b:Bool}(hh:RH X.K ι H S)(r:RV X.K ι H d v)(h:tru S d=some b):TruV X.K v H b:=by
 cases d with
 |non=>obtain rfl:v=.non:=r;cases h;rfl
 |bl c=>obtain rfl:v=.bl c:=r;cases h;rfl
 |int i=>obtain rfl:v=.int i:=r;cases h;rfl
 | tup ds =>
   obtain⟨a,xs,rfl,ha,rr⟩:=r
   cases h
   refine .inr (.inl ⟨xs,SqT.of ha,?_⟩)
   have:=rr.length
   cases ds<;>cases xs<;>first|rfl|simp at this
 | ref l =>
   simp only[tru] at h
   split at h
   · rename_i ds e
     cases h
     obtain⟨a,h1,rfl⟩:=r
     obtain⟨a2,h2,xs,ha,rr⟩:=hh.obj _ _ e
     rw[h1] at h2;cases h2
     refine .inl ⟨xs,SqL.of ha,?_⟩
     have:=rr.length
     cases ds<;>cases xs<;>first|rfl|simp at this
   · cases h
 |_=>cases h
theorem zk7 {ca:CE}{a:Expr}(ha:PE X a (tE X.K cf ca))(hp:ze5 a=true):PT X a (tT X.K cf (.tst ca)):=by
 refine PT.imp (zhR ha (zk2 hp X.env)) fun σ H Qv ⟨δ,ι,S,Q,hs,hh,w,q⟩=>?_
 simp only[evT,zaa] at w
 refine tE.run hs hh w fun d v ι1 H1 S1 x1 hs1 hh1 r1 w1=>?_
 obtain⟨b,hb,w2⟩:=zaC w1
 exact⟨b,zk3 hh1 r1 hb,q _ _ ⟨ι1,S1,x1,hh1,w2⟩⟩
theorem zlp {cc ca cb:CE}{c a b:Expr}(hc:PT X c (tT X.K cf cc))(ha:PE X a (tE X.K cf ca))(hb:PE X b (tE X.K cf cb)):PE X (.IfExp c a b pos) (tE X.K cf (.ite cc ca cb)):=by
 refine PE.imp (zh4 hc ha hb) fun σ H Qv ⟨δ,ι,S,Q,hs,hh,w,q⟩=>?_
 simp only[evE,zaa] at w
 refine tT.run hs hh w fun c ι1 H1 S1 x1 hs1 hh1 w1=>?_
 cases c with
 |true=>exact⟨δ,ι1,S1,Q,hs1,hh1,w1,fun z H3 l=>q z H3 (Lf.up x1 l)⟩
 |false=>exact⟨δ,ι1,S1,Q,hs1,hh1,w1,fun z H3 l=>q z H3 (Lf.up x1 l)⟩
theorem zgi:PA X [] (tAs X.K cf .nil):=PA.imp zb6 fun σ H Qv ⟨δ,ι,S,Q,hs,hh,w,q⟩=>q [] H ⟨[],ι,S,Ext.refl _ _,rfl,hh,by simpa[evEs] using w⟩
theorem zdc {ce:CE}{ces:CEs}{e:Expr}{es:List Expr}(he:PE X e (tE X.K cf ce))(hes:PA X es (tAs X.K cf ces))(hn:zam e=true):PA X (e::es) (tAs X.K cf (.cons ce ces)):=by
 refine PA.imp (zaO he hes (zal hn es X.env)) fun σ H Qv ⟨δ,ι,S,Q,hs,hh,w,q⟩=>?_
 simp only[evEs,zaa] at w
 refine tE.run hs hh w fun d v ι1 H1 S1 x1 hs1 hh1 r1 w1=>tAs.run hs1 hh1 w1 fun ds vs ι2 H2 S2 x2 hs2 hh2 r2 w2=>?_
 exact q _ _ ⟨d::ds,ι2,S2,x1.trans x2,⟨v,vs,rfl,r1.ext x2,r2⟩,hh2,w2⟩
theorem zlh {ces:CEs}{es:List Expr}{j:Nat}(h:PA X es (tAs X.K cf ces)):PE X (.Tuple es j pos) (tE X.K cf (.tup ces)):=by
 refine PE.imp (zlQ h) fun σ H Qv ⟨δ,ι,S,Q,hs,hh,w,q⟩=>?_
 simp only[evE,zaa] at w
 refine tAs.run hs hh w fun ds vs ι1 H1 S1 x1 hs1 hh1 r1 w1=>?_
 split at w1
 · rename_i c
   exact⟨by rw[r1.length,sizeLine_eq];exact c,fun p hp=>q _ _ (Lf.up x1 (Lf.tup hh1 hp r1 w1))⟩
 · exact w1.elim
theorem zln {ces:CEs}{es:List Expr}(h:PA X es (tAs X.K cf ces)):PE X (.List es pos) (tE X.K cf (.lst ces)):=by
 refine PE.imp (zlU h) fun σ H Qv ⟨δ,ι,S,Q,hs,hh,w,q⟩=>?_
 simp only[evE,zaa] at w
 refine tAs.run hs hh w fun ds vs ι1 H1 S1 x1 hs1 hh1 r1 w1=>?_
 obtain⟨c,w2⟩:=zcu w1
 exact⟨by rw[r1.length];exact c,fun p hp=>q _ _ (Lf.up x1 (Lf.lst hh1 hp r1 w2))⟩
theorem znL {ι:List Addr}{H:Hp}{S:R.St}{d:D}{v:V}{ds:List D}{i:Int}{e:D}(hh:RH X.K ι H S)(r:RV X.K ι H d v)(hq:zbH S d=some ds)(ha:R.atI ds i=some e):∃u,rIx X.K v (.int i) H (fun z H'=>z=u/\H'=H)/\RV X.K ι H e u:=by
 obtain⟨a,xs,rfl,hx,rr⟩:=ziP hh hq r
 have hl:=rr.length
 have key:∃u,L2.atI xs i=some u/\RV X.K ι H e u:=by
  unfold R.atI at ha
  cases e1:R.ixN ds.length i with
  |none=>rw[e1] at ha;cases ha
  | some j =>
    rw[e1] at ha
    obtain⟨u,h1,h2⟩:=rr.get (show ds[j]?=some e from ha)
    refine⟨u,?_,h2⟩
    unfold L2.atI
    have:L2.ixN xs.length i=some j:=by rw[hl];exact e1
    rw[this];exact h1
 obtain⟨u,h1,h2⟩:=key
 refine⟨u,?_,h2⟩
 rcases hx with hx|hx
 · exact .inl ⟨a,xs,i,u,rfl,rfl,hx,h1,rfl,rfl⟩
 · exact .inr (.inl ⟨a,xs,i,u,rfl,rfl,hx,h1,rfl,rfl⟩)
theorem zjN {K:PySem.W.Frag}{x y u:V}{H:Hp}{Q:VK}(h:rIx K x y H (fun z H'=>z=u/\H'=H))(q:Q u H):rIx K x y H Q:=by
 rcases h with ⟨p,xs,i,v,h1,h2,h3,h4,rfl,_⟩|⟨p,xs,i,v,h1,h2,h3,h4,rfl,_⟩|⟨z,i,c,h1,h2,h3,h4,h5,_⟩
 · exact .inl ⟨p,xs,i,v,h1,h2,h3,h4,q⟩
 · exact .inr (.inl ⟨p,xs,i,v,h1,h2,h3,h4,q⟩)
 · exact .inr (.inr ⟨z,i,c,h1,h2,h3,h4,by rw[h5];exact q⟩)
theorem znl {ca cb:CE}{a b:Expr}(ha:PE X a (tE X.K cf ca))(hb:PE X b (tE X.K cf cb))(hp:zdi b=true):PE X (.Subscript a b pos) (tE X.K cf (.ix ca cb)):=by
 refine PE.imp (znu zmr ha hb (znM hp)) fun σ H Qv ⟨δ,ι,S,Q,hs,hh,w,q⟩=>?_
 simp only[evE,zaa] at w
 refine tE.run hs hh w fun d v ι1 H1 S1 x1 hs1 hh1 r1 w1=>tE.run hs1 hh1 w1 fun e u ι2 H2 S2 x2 hs2 hh2 r2 w2=>?_
 split at w2
 · rename_i ds i eq
   obtain⟨z,hz,w3⟩:=zaC w2
   obtain rfl:u=.int i:=r2
   obtain⟨u,h1,h2⟩:=znL hh2 (r1.ext x2) eq hz
   exact zjN h1 (q _ _ (Lf.up (x1.trans x2) (Lf.of hh2 h2 w3)))
 · exact w2.elim
end
end R
end
section
namespace R
open PySem PySem.Spec PyProof.Rows L2
variable [Mks]
section
variable {K:PySem.W.Frag} {ι ι':List Addr} {H H':Hp} {S T:R.St} {d:D} {v:V}
theorem get_frz {l:Nat}{o:MO}(hf:T.frz=S.frz++S.new)(h:S.get l=some o):T.get l=some o:=by
 obtain⟨f,n,k⟩:=T
 have hf:f=S.frz++S.new:=hf
 subst hf
 exact zkr h n k
theorem RH.cut (hh:RH K ι H S)(x:Ext ι H ι' H')(hT:RH K ι' H' T)(hf:T.frz=S.frz++S.new):RH K ι H' S:=by
 refine⟨hh.len,hh.nd,fun l o e=>?_,hT.tab⟩
 obtain⟨a,h1,h2⟩:=hh.obj l o e
 obtain⟨b,h3,h4⟩:=hT.obj l o (get_frz hf e)
 rw[zbX x.pre h1] at h3;cases h3
 refine⟨a,h1,?_⟩
 cases o with
 | lst ds =>
   obtain⟨xs,_,r1⟩:=h2
   obtain⟨ys,e2,r2⟩:=h4
   exact⟨ys,e2,r2.restrict x.pre r1.flats⟩
 | dic kvs =>
   obtain⟨_,ws,_,r1⟩:=h2
   obtain⟨nd,ys,e2,r2⟩:=h4
   exact⟨nd,ys,e2,r2.restrict x.pre r1.flats⟩
 | ins c fs =>
   obtain⟨_,_,ws,_,_,r1⟩:=h2
   obtain⟨C,dx,ys,e0,e2,r2⟩:=h4
   exact⟨C,dx,ys,e0,e2,r2.restrict x.pre r1.flats⟩
 | dtp kvs =>
   obtain⟨_,ws,_,r1⟩:=h2
   obtain⟨nd,ys,e2,r2⟩:=h4
   exact⟨nd,ys,e2,r2.restrict x.pre r1.flats⟩
 | d3 kvs =>
   obtain⟨_,ws,_,r1⟩:=h2
   obtain⟨nd,ys,e2,r2⟩:=h4
   exact⟨nd,ys,e2,r2.restrict x.pre r1.flats⟩
 | exc c fs =>
   obtain⟨_,_,_,ws,_,_,_,r1⟩:=h2
   obtain⟨C,dx,od,ys,e0,e1,e2,r2⟩:=h4
   exact⟨C,dx,od,ys,e0,e1,e2,r2.restrict x.pre r1.flats⟩
theorem Ext.cut (x:Ext ι H ι' H'):Ext ι H ι H':=⟨List.prefix_refl _,x.kp,fun a o h e=>⟨(x.rest a o h e).1,h⟩⟩
theorem zjV {l:Nat}{a:Addr}(hp:ι <+: ι')(nd:ι'.Nodup)(hl:ι'[l]?=some a)(h:ι.length<=l):a∉ι:=fun hm=>by
 obtain⟨t,rfl⟩:=hp
 rw[List.getElem?_append_right h] at hl
 have h2:=List.mem_of_getElem? hl
 exact (List.nodup_append.mp nd).2.2 a hm a h2 rfl
theorem zeE {l:Nat}{a:Addr}(x:Ext ι H ι' H')(nd:ι'.Nodup)(hl:ι'[l]?=some a)(h:ι.length<=l):Ext ι H (ι++[a]) H':=by
 refine⟨List.prefix_append _ _,x.kp,fun b o hb e=>⟨(x.rest b o hb e).1,fun z=>?_⟩⟩
 rcases List.mem_append.mp z with z|z
 · exact hb z
 · simp at z
   subst z
   exact (x.rest b o hb e).2 (List.mem_of_getElem? hl)
theorem RH.one {l:Nat}{a:Addr}{o:MO}(hh:RH K ι H' S)(nd:a∉ι)(ho:RO K (ι++[a]) H' a o):RH K (ι++[a]) H' (S.push o):=by
 refine⟨by rw[List.length_append,hh.len,zcf];rfl,?_,fun l o' e=>?_,hh.tab⟩
 · rw[List.nodup_append]
   refine⟨hh.nd,by simp,fun b hb c hc=>?_⟩
   simp at hc;subst hc
   exact fun z=>nd (z▸hb)
 · by_cases hl:l<S.len
   · rw[zcx hl] at e
     obtain⟨b,h1,h2⟩:=hh.obj l o' e
     exact⟨b,zbX (List.prefix_append _ _) h1,h2.up (List.prefix_append _ _) (Kp.refl _) rfl⟩
   · have hl2:=zaw e
     rw[zcf] at hl2
     have:l=S.len:=by omega
     subst this
     rw[zff] at e;cases e
     exact⟨a,by rw[<-hh.len];simp,ho⟩
theorem RH.keep (hT:RH K ι' H' T)(hf:T.frz=S.frz++S.new):RH K ι' H' ⟨S.frz,S.new++T.new,S.lk⟩:=by
 have hg:∀l,(R.St.mk S.frz (S.new++T.new) S.lk).get l=T.get l:=fun l=>by
  unfold St.get
  rw[hf]
  simp only[List.length_append]
  by_cases h1:l<S.frz.length
  · rw[if_pos h1,if_pos (by omega),List.getElem?_append_left h1]
  · by_cases h2:l<S.frz.length+S.new.length
    · rw[if_neg h1,if_pos h2,List.getElem?_append_left (by omega),List.getElem?_append_right (by omega)]
    · rw[if_neg h1,if_neg h2,List.getElem?_append_right (by omega)]
      congr 1;omega
 refine⟨?_,hT.nd,fun l o e=>hT.obj l o (by rw[<-hg];exact e),hT.tab⟩
 rw[hT.len]
 unfold St.len
 rw[hf]
 simp only[List.length_append]
 omega
theorem zdp {Q:D->R.St->Prop}(hh:RH K ι H S)(x:Ext ι H ι' H')(r:RV K ι' H' d v)(hT:RH K ι' H' T)(hf:T.frz=S.frz++S.new)(w:W (zaU S d T) Q):Lf K ι H Q v H':=by
 have hc:=hh.cut x hT hf
 unfold zaU at w
 split at w
 · rename_i c
   rw[<-hh.len] at c
   exact⟨d,ι,S,x.cut,r.restrict x.pre c,hc,w⟩
 · rename_i c
   dsimp only at w
   split at w
   · rename_i l
     obtain⟨a,h1,rfl⟩:=id r
     have hl:ι.length<=l:=by
      simp only[R.flat,decide_eq_true_eq] at c
      rw[hh.len];omega
     have ha:=zjV x.pre hT.nd h1 hl
     split at w
     · rename_i ds e
       obtain⟨b,h2,h3⟩:=hT.obj l _ e
       rw[h1] at h2;cases h2
       split at w
       · rename_i c2
         rw[<-hh.len] at c2
         obtain⟨ys,e2,r2⟩:=h3
         refine⟨.ref S.len,ι++[a],S.push (.lst ds),zeE x hT.nd h1 hl,⟨a,by rw[<-hh.len];simp,rfl⟩,hc.one (l:=l) ha ⟨ys,e2,(r2.restrict x.pre c2).up (List.prefix_append _ _) (Kp.refl _)⟩,w⟩
       · exact⟨_,ι',_,x,r,hT.keep hf,w⟩
     · rename_i kvs e
       obtain⟨b,h2,h3⟩:=hT.obj l _ e
       rw[h1] at h2;cases h2
       split at w
       · rename_i c2
         rw[<-hh.len] at c2
         obtain⟨nd,ys,e2,r2⟩:=h3
         refine⟨.ref S.len,ι++[a],S.push (.dic kvs),zeE x hT.nd h1 hl,⟨a,by rw[<-hh.len];simp,rfl⟩,hc.one (l:=l) ha ⟨nd,ys,e2,(r2.restrict x.pre c2).up (List.prefix_append _ _) (Kp.refl _)⟩,w⟩
       · exact⟨_,ι',_,x,r,hT.keep hf,w⟩
     · rename_i kvs e
       obtain⟨b,h2,h3⟩:=hT.obj l _ e
       rw[h1] at h2;cases h2
       split at w
       · rename_i c2
         rw[<-hh.len] at c2
         obtain⟨nd,ys,e2,r2⟩:=h3
         refine⟨.ref S.len,ι++[a],S.push (.dtp kvs),zeE x hT.nd h1 hl,⟨a,by rw[<-hh.len];simp,rfl⟩,hc.one (l:=l) ha ⟨nd,ys,e2,(r2.restrict x.pre c2).up (List.prefix_append _ _) (Kp.refl _)⟩,w⟩
       · exact⟨_,ι',_,x,r,hT.keep hf,w⟩
     · exact⟨_,ι',_,x,r,hT.keep hf,w⟩
   · exact⟨_,ι',_,x,r,hT.keep hf,w⟩
end
section
variable {T:Tab} {cf:CF} {k:Nat} {N:List Str} {sc:Scope} {X:Cx} {pos p:Pos}
theorem RVs.nons {K:PySem.W.Frag}{ι:List Addr}{H:Hp}:∀j:Nat,RVs K ι H (List.replicate j .non) (List.replicate j .non)
 |0=>rfl
 |j+1=>⟨.non,List.replicate j .non,rfl,rfl,RVs.nons j⟩
theorem RH.enter {K:PySem.W.Frag}{ι:List Addr}{H:Hp}{S:R.St}(h:RH K ι H S):RH K ι H S.enter:=⟨by rw[enter_len];exact h.len,h.nd,fun l o e=>h.obj l o (by rw[zaH] at e;exact e),h.tab⟩
theorem zhr {f j:Nat}{ces:CEs}{σ:L2.St}{H:Hp}{Qv:VK}(hfr:CFok cf)(h:tE X.K cf (.call f j ces) σ H Qv) :
  zgf (spF X.K cf f) (List.replicate j .non) E0 (tAs X.K cf ces) σ H Qv:=by
 obtain⟨δ,ι,S,Q,hs,hh,w,q⟩:=h
 simp only[evE,zaa] at w
 refine tAs.run hs hh w fun ds vs ι1 H1 S1 x1 hs1 hh1 r1 w1=>?_
 unfold app at w1
 rw[zaa] at w1
 refine⟨ι1,S1.enter,ds++List.replicate j .non,r1.append (RVs.nons j),hh1.enter,?_⟩
 obtain⟨d,T',e,w2⟩:=zhw w1
 rw[e]
 exact fun v H' ι' x r hT=>q v H' (Lf.up x1 (zdp hh1 x r hT (hfr _ _ _ _ _ (.inl e)).frz w2))
theorem zhs {K:PySem.W.Frag}{ι ι1:List Addr}{H H1:Hp}{S1:R.St}{a:Addr}(hh:RH K ι1 H1 S1)(x:Ext ι H ι1 H1)(hn:H1 a=none):H a=none:=by
 cases e:H a with
 |none=>rfl
 | some o =>
   by_cases hm:a∈ι
   · have h2:a∈ι1:=by obtain⟨t,rfl⟩:=x.pre;exact List.mem_append_left _ hm
     exact absurd h2 (hh.fresh hn)
   · have:=(x.rest a o hm e).1
     rw[hn] at this
     rcases this with z|⟨_,_,z⟩<;>cases z
theorem zjF (G:Gd T cf k N sc X){f j:Nat}{x:Str}{ps:List Str}{nd:Nat}{ces:CEs}{e:Expr}{es:List Expr}(hf:T.fns[f]?=some (x,ps,nd))(hj:j<=nd)(hg:isGl sc x=true)(hd:(x == ("__debug__":Str))=false)(ha:PA X (e::es) (tAs X.K cf ces))(hst:(e::es).all zam=true) :
  PE X (.Call (.Name x p) (e::es) [] pos) (tE X.K cf (.call f j ces)):=by
 have Hs:=G.tab.fns f x ps nd hf j hj
 rw[List.all_cons,Bool.and_eq_true] at hst
 exact PE.imp (znv Hs G.room ha (G.gl hg) hd (zal hst.1 es X.env) (za0 hst.2)) fun σ H Qv h=>zhr G.tab.frm h
theorem zhH (G:Gd T cf k N sc X){f j:Nat}{x:Str}{ps:List Str}{nd:Nat}(hf:T.fns[f]?=some (x,ps,nd))(hj:j<=nd)(hg:isGl sc x=true)(hd:(x == ("__debug__":Str))=false) :
  PE X (.Call (.Name x p) [] [] pos) (tE X.K cf (.call f j .nil)):=by
 have Hs:=G.tab.fns f x ps nd hf j hj
 refine PE.imp (zlW Hs G.room (G.gl hg) hd) fun σ H Qv ⟨δ,ι,S,Q,hs,hh,w,q⟩=>?_
 simp only[evE,evEs,za8] at w
 unfold app at w
 rw[zaa] at w
 obtain⟨d,T',e,w2⟩:=zhw w
 refine⟨ι,S.enter,[]++List.replicate j .non,RVs.append rfl (RVs.nons j),hh.enter,?_⟩
 rw[e]
 exact fun v H' ι' x r hT=>q v H' (zdp hh x r hT (G.tab.frm _ _ _ _ _ (.inl e)).frz w2)
end
end R
end
section
namespace R
open PySem PySem.Spec PyProof.Rows L2
variable [Mks]
section
variable {prog:Program} {w:World} {A:Around} {E:Value->Shared->Prop} {s:Shared}
theorem zbE {t sl:Addr}{items:Array Value}{vl vu:Value}{lo hi:Option Int}{Q:Value->Shared->Prop}(ht:IsTup s.heap t items)(hs:s.heap.IsSliceOf sl vl vu .none)(pl:IsPart vl lo)(pu:IsPart vu hi)
  (hw:HT.sIx items.size 0 lo=0/\HT.sIx items.size items.size hi=items.size)
  (h:Q (.ref t) s):wpAny (model prog w) A (getItem (.ref t) (.ref sl)) Q E s:=by
 obtain⟨os,hos,hcs,hds⟩:=id hs
 have hTs:s.TypeIs (.ref sl) "slice":=⟨os,hos,hcs⟩
 unfold getItem
 try with_reducible refine wpAny_holding ?_
 first|refine wpAny_bind (wpAny_pure ?_)|skip
 refine wpAny_bind (wpAny_sequenceKey ht.typeIs (by decide) ?_)
 refine wpAny_bind (wpAny_callSpecial?_slot (name:=Str.ofString "__getitem__") ht.typeIs PyProof.Rows.slot_tuple_getitem
  (wpAny_call_entry PyProof.Rows.slot_tuple_getitem ht.typeIs entry_tuple_getitem ?_ (args_tuple_getitem _ _)))
 show wpAny _ _ (Builtin.Tuple.tupleItemsOf (.ref t) >>= _) _ _ s
 refine wpAny_bind (tupleItemsOf_ ht ?_)
 refine wpAny_bind (wpAny_typeOf hTs ?_)
 rw[if_pos (by decide)]
 refine wpAny_bind (HT.sliceApplied_gen hs pl pu ?_)
 have hyes:(((HT.sIx items.size 0 lo:Nat):Int) == 0&&(1:Int) == 1&&(HT.sIx items.size items.size hi - HT.sIx items.size 0 lo) == items.size)=true:=by
  rw[hw.1,hw.2]
  simp
 show wpAny _ _ (if (((HT.sIx items.size 0 lo:Nat):Int) == 0&&(1:Int) == 1&&(HT.sIx items.size items.size hi - HT.sIx items.size 0 lo) == items.size)=true then _ else _) _ _ s
 rw[if_pos hyes]
 unfold Builtin.Tuple.tupleIsExact
 refine wpAny_bind (wpAny_bind (wpAny_typeOf ht.typeIs (wpAny_pure ?_)))
 rw[if_pos (by decide)]
 exact wpAny_bind (wpAny_rule (wpAny_pure ⟨_,rfl,wpAny_pure h⟩))
end
section
variable {T:Tab} {cf:CF} {k:Nat} {N:List Str} {sc:Scope} {X:Cx} {pos p:Pos}
noncomputable def rSlW (K:PySem.W.Frag):V->Option Int->Option Int->Hp->VK->Prop:=fun x lo hi H Q=>∃a xs,x=.ref a/\SqT K H a xs/\
 (HT.sIx xs.length 0 lo=0/\HT.sIx xs.length xs.length hi=xs.length)/\Q (.ref a) H
theorem zhF:SlR X (rSlW X.K):=by
 intro pins s σ H x v vl vu lo hi sl Q I rx hs pl pu h
 obtain⟨a,xs,rfl,hx,hw,q⟩:=h
 cases rx
 obtain⟨its,r,ht,hz⟩:=I.tuple hx
 have hlen:its.toArray.size=xs.length:=by rw[List.size_toArray];exact r.length.symm
 exact⟨"tuple",_,PyProof.Rows.slot_tuple_getitem.lookup,ht.typeIs,zbE ht hs pl pu (by rw[hlen];exact hw) ⟨.ref a,H,I,rfl,q⟩⟩
theorem zeZ (n d:Nat)(o:Option Int):R.sIx n d o=HT.sIx n d o:=by
 cases o<;>rfl
theorem zhm {α:Type}{xs:List α}{lo hi:Option Int}(h:HT.sIx xs.length 0 lo=0/\HT.sIx xs.length xs.length hi=xs.length):cut xs lo hi=xs:=by
 unfold cut
 rw[zeZ,zeZ,h.1,h.2]
 simp
theorem RVs.cut {K:PySem.W.Frag}{ι:List Addr}{H:Hp}{ds:List D}{xs:List V}(r:RVs K ι H ds xs)(lo hi:Option Int):RVs K ι H (R.cut ds lo hi) (cutV xs lo hi):=by
 have hl:=r.length
 unfold R.cut cutV
 rw[zeZ,zeZ,hl]
 exact (r.drop _).take _
inductive PartOk (X:Cx) (cf:CF):Bool->CE->Option Expr->Prop where
 |no {c:CE} (h:∃d,c=.con d):PartOk X cf false c none
 |yes {c:CE} {e:Expr} (h:PE X e (tE X.K cf c)):PartOk X cf true c (some e)
theorem znj {ca clo chi:CE}{ml mh:Bool}{a:Expr}{lo hi:Option Expr}{p2:Pos}(ha:PE X a (tE X.K cf ca))(hlo:PartOk X cf ml clo lo)(hhi:PartOk X cf mh chi hi):PE X (.Subscript a (.Slice lo hi none p2) pos) (tE X.K cf (.sl ca ml mh clo chi)):=by
 have fin:∀{σ:L2.St} {δ:Ev} {ι ι1:List Addr} {H H1:Hp} {S1:R.St} {Q:D->R.St->Prop} {Qv:VK} {d:D} {v:V} {y z:Option Int},Ext ι H ι1 H1->RH X.K ι1 H1 S1->RV X.K ι1 H1 d v->(∀v H',Lf X.K ι H Q v H'->Qv v H')->
   W (match d with|.tup ds=>.ok (.tup (R.cut ds y z)) S1|.fix ds=>lay S1 (R.cut ds y z)|.ref p=>(match S1.get p with|some (.lst ds)=>lay S1 (R.cut ds y z)|_=>.bad)|_=>.bad) Q->
   (rSlL X.K v y z H1 Qv\/rSlT X.K v y z H1 Qv)\/rSlW X.K v y z H1 Qv:=by
  intro σ δ ι ι1 H H1 S1 Q Qv d v y z x hh r q w
  cases d with
  | tup ds =>
    obtain⟨a,xs,rfl,ha,rr⟩:=r
    by_cases hw:HT.sIx xs.length 0 y=0/\HT.sIx xs.length xs.length z=xs.length
    · refine .inr ⟨a,xs,rfl,SqT.of ha,hw,q _ _ (Lf.up x (Lf.of (d:=.tup ds) hh ⟨a,xs,rfl,ha,rr⟩ ?_))⟩
      have e:R.cut ds y z=ds:=zhm (by rw[<-rr.length];exact hw)
      dsimp only at w
      rw[e] at w
      exact w
    · exact .inl (.inr ⟨a,xs,rfl,SqT.of ha,hw,fun p hp=>q _ _ (Lf.up x (Lf.tup hh hp (rr.cut y z) w))⟩)
  | fix ds =>
    obtain⟨a,xs,rfl,ha,rr⟩:=r
    obtain⟨_,w2⟩:=zcu w
    exact .inl (.inl ⟨a,xs,rfl,ha.sq,fun p hp=>q _ _ (Lf.up x (Lf.lst hh hp (rr.cut y z) w2))⟩)
  | ref l =>
    dsimp only at w
    cases e:S1.get l with
    |none=>rw[e] at w;exact w.elim
    | some o =>
      rw[e] at w
      cases o with
      | lst ds =>
        obtain⟨a,h1,rfl⟩:=r
        obtain⟨b,h2,xs,ha,rr⟩:=hh.obj _ _ e
        rw[h1] at h2;cases h2
        obtain⟨_,w2⟩:=zcu w
        exact .inl (.inl ⟨a,xs,rfl,SqL.of ha,fun p hp=>q _ _ (Lf.up x (Lf.lst hh hp (rr.cut y z) w2))⟩)
      |_=>exact w.elim
  |_=>exact w.elim
 have part:∀{m:Bool} {c:CE} {o:Option Expr},PartOk X cf m c o->∃t,PO X o t/\∀{δ:Ev} {σ:L2.St} {ι:List Addr} {H:Hp} {S:R.St} {Q:D->R.St->Prop} {Qv:Option Int->Hp->Prop},RS X.K ι H δ σ->RH X.K ι H S->W (evE cf c δ S) Q->
   (∀d S',Q d S'->∃z,zbg m d=some z)->
   (∀d ι' H' S' z,Ext ι H ι' H'->RS X.K ι' H' δ σ->RH X.K ι' H' S'->Q d S'->zbg m d=some z->Qv z H')->t σ H Qv:=by
  intro m c o h
  cases h with
  | no h =>
    obtain⟨d,rfl⟩:=h
    refine⟨_,zjX,fun {δ σ ι H S Q Qv} hs hh w hp h=>?_⟩
    simp only[evE] at w
    exact h d ι H S none (Ext.refl _ _) hs hh w rfl
  | yes h =>
    refine⟨_,zjW h,fun {δ σ ι H S Q Qv} hs hh w hp h=>?_⟩
    refine tE.run hs hh w fun d v ι1 H1 S1 x1 hs1 hh1 r1 w1=>?_
    obtain⟨z,hz⟩:=hp d S1 w1
    cases d with
    | int i =>
      obtain rfl:v=.int i:=r1
      exact⟨i,rfl,h _ _ _ _ _ x1 hs1 hh1 w1 rfl⟩
    |_=>cases hz
 obtain⟨tl,pl,rl⟩:=part hlo
 obtain⟨th,ph,rh⟩:=part hhi
 refine PE.imp (zh1 (SlR.or (SlR.or zju zlg) zhF) ha pl ph) fun σ H Qv ⟨δ,ι,S,Q,hs,hh,w,q⟩=>?_
 simp only[evE,zaa] at w
 refine tE.run hs hh w fun d v ι1 H1 S1 x1 hs1 hh1 r1 w1=>?_
 have hz:∀(b:Bool) (y:D),zbg b y=none\/∃z,zbg b y=some z:=fun b y=>by cases zbg b y<;>simp
 refine rl hs1 hh1 w1 (fun y S2 w2=>?_) fun y ι2 H2 S2 zl x2 hs2 hh2 w2 hzl=>?_
 · rcases hz ml y with e|e
   · rw[W.iff] at w2
     obtain⟨u,S3,_,w3⟩:=w2
     rw[e] at w3;exact w3.elim
   · exact e
 · refine rh hs2 hh2 w2 (fun u S3 w3=>?_) fun u ι3 H3 S3 zh x3 hs3 hh3 w3 hzh=>?_
   · rcases hz mh u with e|e
     · rw[hzl,e] at w3;exact w3.elim
     · exact e
   · rw[hzl,hzh] at w3
     exact fin (σ:=σ) (δ:=δ) ((x1.trans x2).trans x3) hh3 (r1.ext (x2.trans x3)) q w3
end
end R
end
section
namespace R
open PySem PySem.Spec PyProof.Rows L2
variable [Mks]
noncomputable def rB (K:PySem.W.Frag)(f:R.St->List D->Out D):List V->Hp->VK->Prop:=fun xs H Qv=>∃ι S ds Qd,RVs K ι H ds xs/\RH K ι H S/\W (f S ds) Qd/\∀v H',Lf K ι H Qd v H'->Qv v H'
section
variable {T:Tab} {cf:CF} {k:Nat} {N:List Str} {sc:Scope} {X:Cx} {pos p:Pos}
theorem RVs.one {K:PySem.W.Frag}{ι:List Addr}{H:Hp}{d:D}{xs:List V}(r:RVs K ι H [d] xs):∃v,xs=[v]/\RV K ι H d v:=by
 obtain⟨v,w,rfl,r1,r2⟩:=r
 cases (show w=[] from r2)
 exact⟨v,rfl,r1⟩
theorem RVs.two {K:PySem.W.Frag}{ι:List Addr}{H:Hp}{d e:D}{xs:List V}(r:RVs K ι H [d,e] xs):∃v u,xs=[v,u]/\RV K ι H d v/\RV K ι H e u:=by
 obtain⟨v,w,rfl,r1,r2⟩:=r
 obtain⟨u,rfl,r3⟩:=RVs.one r2
 exact⟨v,u,rfl,r1,r3⟩
theorem zmf:zaV X (.builtin "len") (rB X.K fun S ds=>R.bi S .len ds):=by
 intro pins s σ H xs us Qv I rv ⟨ι,S,ds,Qd,r,hh,w,q⟩
 dsimp only at w
 unfold bi at w
 split at w
 case h_1 x=>
  obtain⟨v,rfl,rr⟩:=r.one
  split at w
  · obtain⟨a,xs,rfl,ha,r2⟩:=rr
    refine zbm pins s σ H _ us Qv I rv ⟨a,xs,rfl,.inr (SqT.of ha),?_⟩
    rw[r2.length]
    exact q _ _ (Lf.of (d:=.int _) hh rfl w)
  · obtain⟨a,xs,rfl,ha,r2⟩:=rr
    refine zbm pins s σ H _ us Qv I rv ⟨a,xs,rfl,.inl ha.sq,?_⟩
    rw[r2.length]
    exact q _ _ (Lf.of (d:=.int _) hh rfl w)
  · rename_i l
    obtain⟨a,h1,rfl⟩:=rr
    cases e:S.get l with
    |none=>rw[e] at w;exact w.elim
    | some o =>
      rw[e] at w
      obtain⟨b,h2,h3⟩:=hh.obj _ _ e
      rw[h1] at h2;cases h2
      cases o with
      | lst ds =>
        obtain⟨xs,ha,r2⟩:=h3
        refine zbm pins s σ H _ us Qv I rv ⟨a,xs,rfl,.inl (SqL.of ha),?_⟩
        rw[r2.length]
        exact q _ _ (Lf.of (d:=.int _) hh rfl w)
      | dic kvs =>
        obtain⟨_,ws,ha,rk⟩:=h3
        refine zhq pins s σ H _ us Qv I rv ⟨a,ws,rfl,ha,?_⟩
        rw[rk.length]
        exact q _ _ (Lf.of (d:=.int _) hh rfl w)
      |ins _ _=>exact w.elim
      |d3 _=>exact w.elim
      |exc _ _=>exact w.elim
      | dtp kvs =>
        obtain⟨_,ws,ha,rk⟩:=h3
        refine znG pins s σ H _ us Qv I rv ⟨a,ws,rfl,ha,?_⟩
        rw[rk.length]
        exact q _ _ (Lf.of (d:=.int _) hh rfl w)
  · exact w.elim
 all_goals first|exact w.elim|(rename_i h;cases h)
theorem zmZ:zaV X (.builtin "abs") (rB X.K fun S ds=>R.bi S .abs ds):=by
 intro pins s σ H xs us Qv I rv ⟨ι,S,ds,Qd,r,hh,w,q⟩
 dsimp only at w
 unfold bi at w
 split at w
 case h_2 i _=>
  obtain⟨v,rfl,rr⟩:=r.one
  obtain rfl:v=.int i:=rr
  exact ziD pins s σ H _ us Qv I rv ⟨i,rfl,q _ _ (Lf.of (d:=.int _) hh rfl w)⟩
 all_goals first|exact w.elim|(rename_i h;cases h)
theorem zmd (hc:X.calm=true):zaV X (.builtin "max") (rB X.K fun S ds=>R.bi S .max2 ds):=by
 intro pins s σ H xs us Qv I rv ⟨ι,S,ds,Qd,r,hh,w,q⟩
 dsimp only at w
 unfold bi at w
 split at w
 case h_3 i j _=>
  obtain⟨v,u,rfl,r1,r2⟩:=r.two
  obtain rfl:v=.int i:=r1
  obtain rfl:u=.int j:=r2
  exact zhp hc pins s σ H _ us Qv I rv ⟨i,j,rfl,q _ _ (Lf.of (d:=.int _) hh rfl w)⟩
 all_goals first|exact w.elim|(rename_i h;cases h)
theorem zmc (hc:X.calm=true):zaV X (.builtin "min") (rB X.K fun S ds=>R.bi S .min2 ds):=by
 intro pins s σ H xs us Qv I rv ⟨ι,S,ds,Qd,r,hh,w,q⟩
 dsimp only at w
 unfold bi at w
 split at w
 case h_4 i j _=>
  obtain⟨v,u,rfl,r1,r2⟩:=r.two
  obtain rfl:v=.int i:=r1
  obtain rfl:u=.int j:=r2
  exact zho hc pins s σ H _ us Qv I rv ⟨i,j,rfl,q _ _ (Lf.of (d:=.int _) hh rfl w)⟩
 all_goals first|exact w.elim|(rename_i h;cases h)
theorem zbe (G:Gd T cf k N sc X){x:Str}(h:bltB T sc x=true):Gl X x/\X.mg x=none:=by
 unfold bltB at h
 rw[Bool.and_eq_true] at h
 exact⟨G.gl h.1,G.tab.blt x h.2⟩
theorem znm {b:Bi}{id:String}{x:Str}{ces:CEs}{e:Expr}{es:List Expr}(hc:zaV X (.builtin id) (rB X.K fun S ds=>R.bi S b ds))(hg:Gl X x/\X.mg x=none)(hv:bootBuiltins x=some (.builtin id))(ha:PA X (e::es) (tAs X.K cf ces))(hst:(e::es).all zam=true)(hn:x≠"__name__")(hdb:(x == ("__debug__":Str))=false) :
  PE X (.Call (.Name x p) (e::es) [] pos) (tE X.K cf (.bi b ces)):=by
 rw[List.all_cons,Bool.and_eq_true] at hst
 refine PE.imp (zbN hc hg.1 hg.2 hv ha hn hdb (zal hst.1 es X.env) (za0 hst.2)) fun σ H Qv ⟨δ,ι,S,Q,hs,hh,w,q⟩=>?_
 simp only[evE,zaa] at w
 refine tAs.run hs hh w fun ds vs ι1 H1 S1 x1 hs1 hh1 r1 w1=>?_
 exact⟨ι1,S1,ds,Q,r1,hh1,w1,fun v H' l=>q v H' (Lf.up x1 l)⟩
theorem zjj {ι:List Addr}{H:Hp}{S:R.St}{d:D}{v:V}{a:String}(hh:RH X.K ι H S)(r:RV X.K ι H d v)(h:tyOf S d=some a):zb4 H v=some a:=by
 cases d with
 |non=>obtain rfl:v=.non:=r;exact h
 |bl b=>obtain rfl:v=.bl b:=r;exact h
 |int b=>obtain rfl:v=.int b:=r;exact h
 |str b=>obtain rfl:v=.str b:=r;exact h
 | tup ds =>
   obtain⟨p,xs,rfl,ha,_⟩:=r
   simp only[tyOf] at h
   simp only[zb4,ha]
   exact h
 | ref l =>
   obtain⟨p,h1,rfl⟩:=r
   simp only[tyOf] at h
   simp only[zb4]
   cases e:S.get l with
   |none=>rw[e] at h;cases h
   | some o =>
     rw[e] at h
     obtain⟨b,h2,h3⟩:=hh.obj _ _ e
     rw[h1] at h2;cases h2
     cases o with
     |lst ds=>obtain⟨xs,ha,_⟩:=h3;rw[ha];exact h
     |dic kvs=>obtain⟨_,ws,ha,_⟩:=h3;rw[ha];exact h
     |ins _ _=>cases h
     |d3 _=>cases h
     |exc _ _=>cases h
     |dtp kvs=>obtain⟨_,ws,ha,_⟩:=h3;rw[ha];exact h
 |fix ds=>cases h
 |clo ds=>cases h
theorem zjA (G:Gd T cf k N sc X){t:String}{y:Str}{p2:Pos}{ce:CE}{e:Expr}(hg:Gl X "isinstance"/\X.mg "isinstance"=none)(hy:Gl X y/\X.mg y=none)(hb:bootBuiltins y=some (.type t))(ht:t∈["bool","int","str","list","tuple","dict"])(hyn:y≠"__name__")(hyd:(y == ("__debug__":Str))=false)
  (he:PE X e (tE X.K cf ce)) (hst:zam e=true):PE X (.Call (.Name "isinstance" p) [e,.Name y p2] [] pos) (tE X.K cf (.bi (.isin t) (.cons ce .nil))):=by
 refine PE.imp (zbN zeK hg.1 hg.2 za9 (zaO he (zaO (zgy (v:=.ty t) hy.1 hy.2 hb rfl hyn hyd) zb6) (zal hst _ X.env)) (by decide) (by decide) (zal hst _ X.env)) fun σ H Qv ⟨δ,ι,S,Q,hs,hh,w,q⟩=>?_
 simp only[evE,evEs,zaa,W_ok] at w
 refine tE.run hs hh w fun d v ι1 H1 S1 x1 hs1 hh1 r1 w1=>?_
 simp only[bi] at w1
 cases e:tyOf S1 d with
 |none=>rw[e] at w1;exact w1.elim
 | some a =>
   rw[e] at w1
   exact⟨v,t,a,rfl,zjj hh1 r1 e,ht,q _ _ (Lf.up x1 (Lf.of (d:=.bl _) hh1 rfl w1))⟩
theorem zi1 {ι:List Addr}{H:Hp}{S:R.St}{d:D}{v:V}(hh:RH X.K ι H S)(r:RV X.K ι H d v)(h:isL S d=true):tyV X.K "list" v H:=by
 cases d with
 | ref l =>
   obtain⟨p,h1,rfl⟩:=r
   simp only[isL] at h
   cases e:S.get l with
   |none=>rw[e] at h;cases h
   | some o =>
     rw[e] at h
     obtain⟨b,h2,h3⟩:=hh.obj _ _ e
     rw[h1] at h2;cases h2
     cases o with
     |lst ds=>obtain⟨xs,ha,_⟩:=h3;exact .inl ⟨rfl,xs,SqL.of ha⟩
     |_=>cases h
 |_=>cases h
noncomputable def rM (K:PySem.W.Frag)(m:Mt):V->List V->Hp->VK->Prop:=fun x xs H Qv=>∃ι S d ds Qd,RV K ι H d x/\RVs K ι H ds xs/\RH K ι H S/\W (R.mt S m d ds) Qd/\∀v H',Lf K ι H Qd v H'->Qv v H'
theorem zht:MtR X "list.append" (rM X.K .append):=by
 intro pins s σ H x xs v us Qv I rx rv ⟨ι,S,d,ds,Qd,r,rs,hh,w,q⟩
 unfold R.mt at w
 split at w
 case h_1 l y _=>
  obtain⟨a,h1,rfl⟩:=r
  obtain⟨u,rfl,ru⟩:=rs.one
  cases e:S.get l with
  |none=>rw[e] at w;exact w.elim
  | some o =>
    rw[e] at w
    obtain⟨b,h2,h3⟩:=hh.obj _ _ e
    rw[h1] at h2;cases h2
    cases o with
    | lst ds =>
      obtain⟨zs,ha,r2⟩:=h3
      obtain⟨c,S',hp,w2⟩:=zjf w
      refine zdR pins s σ H _ _ v us Qv I rx rv ⟨a,zs,u,rfl,rfl,ha,?_,?_⟩
      · rw[r2.length]
        rw[List.length_append,List.length_singleton] at c
        omega
      · exact q _ _ (Lf.wr (d:=.non) hh e h1 hp (r2.append ⟨u,[],rfl,ru,rfl⟩) rfl w2)
    |_=>exact w.elim
 all_goals first|exact w.elim|(rename_i h;cases h)
theorem zhX:MtR X "list.pop" (rM X.K .popAt):=by
 intro pins s σ H x xs v us Qv I rx rv ⟨ι,S,d,ds,Qd,r,rs,hh,w,q⟩
 unfold R.mt at w
 split at w
 case h_2 l i _=>
  obtain⟨a,h1,rfl⟩:=r
  obtain⟨u,rfl,ru⟩:=rs.one
  obtain rfl:u=.int i:=ru
  cases e:S.get l with
  |none=>rw[e] at w;exact w.elim
  | some o =>
    rw[e] at w
    obtain⟨b,h2,h3⟩:=hh.obj _ _ e
    rw[h1] at h2;cases h2
    cases o with
    | lst ds =>
      obtain⟨zs,ha,r2⟩:=h3
      dsimp only at w
      split at w
      · rename_i c0
        cases ey:ds[i.toNat]? with
        |none=>rw[ey] at w;exact w.elim
        | some y =>
          rw[ey] at w
          obtain⟨c,S',hp,w2⟩:=zjf w
          obtain⟨u,eu,ru⟩:=r2.get ey
          have hlt:i.toNat<zs.length:=(List.getElem?_eq_some_iff.mp eu).1
          have hz:zs.length<=sizeLine:=(I.lstM ha).1
          rw[sizeLine_eq] at hz
          refine zia pins s σ H _ _ v us Qv I rx rv ⟨a,zs,i,i.toNat,u,rfl,rfl,ha,by omega,by omega,?_,eu,?_⟩
          · exact PySem.StrLaws.seqIndex_nonneg c0 (by omega)
          · exact q _ _ (Lf.wr (d:=y) hh e h1 hp (r2.erase _) ru w2)
      · exact w.elim
    |_=>exact w.elim
 all_goals first|exact w.elim|(rename_i h;cases h)
theorem zf4:∀{ds:List D} {os:List (Option Int)},zbA ds=some os->ds=os.map fun o=>match o with|some i=>D.int i|none=>D.non:=by
 intro ds
 unfold zbA
 induction ds with
 |nil=>intro os h;simp at h;subst h;rfl
 | cons d ds ih =>
   intro os h
   obtain⟨y,r,h1,h2,rfl⟩:=zaD h
   rw[ih h2]
   cases d<;>simp[zcO] at h1<;>subst h1<;>rfl
noncomputable def wV:Option Int->V
 |some i=>.int i
 |none=>.non
theorem zeP {K:PySem.W.Frag}{ι:List Addr}{H:Hp}:∀{os:List (Option Int)} {vs:List V},RVs K ι H (os.map fun o=>match o with|some i=>D.int i|none=>D.non) vs->vs=os.map wV
 | [],_,h=>h
 | o :: os, vs, h => by
   obtain⟨v,r,rfl,h1,h2⟩:=h
   rw[zeP h2]
   cases o<;>rw[show v=_ from h1]<;>rfl
noncomputable def isI (i:Int):Value->Bool
 |.int j _=>j == i
 |_=>false
theorem zcZ (i:Int):∀{os:List (Option Int)} {us:List Value},Vals (os.map wV) us->(∀y∈us,y=Value.none\/∃a u,y=Value.int a u)/\us.countP (isI i)=os.count (some i)
 | [],us,r=>by cases r;exact⟨fun y hy=>by simp at hy,rfl⟩
 | o :: os, us, r => by
   cases r with
   | @cons _ u _ us r1 r2 =>
     obtain⟨h1,h2⟩:=zcZ i r2
     cases o with
     | none =>
       obtain rfl:u=Value.none:=r1
       refine⟨fun y hy=>?_,?_⟩
       · rcases List.mem_cons.mp hy with rfl|hy
         · exact .inl rfl
         · exact h1 y hy
       · rw[List.countP_cons,List.count_cons,h2];simp[isI]
     | some j =>
       obtain⟨t,rfl⟩:∃t,u=Value.int j t:=r1
       refine⟨fun y hy=>?_,?_⟩
       · rcases List.mem_cons.mp hy with rfl|hy
         · exact .inr ⟨_,_,rfl⟩
         · exact h1 y hy
       · rw[List.countP_cons,List.count_cons,h2];simp[isI]
theorem ziA:MtR X "list.count" (rM X.K .count):=by
 intro pins s σ H x xs v us Qv I rx rv ⟨ι,S,d,ds,Qd,r,rs,hh,w,q⟩
 unfold R.mt at w
 split at w
 case h_3 l i _=>
  obtain⟨a,h1,rfl⟩:=r
  obtain⟨u,rfl,ru⟩:=rs.one
  obtain rfl:u=.int i:=ru
  cases e:S.get l with
  |none=>rw[e] at w;exact w.elim
  | some o =>
    rw[e] at w
    obtain⟨b,h2,h3⟩:=hh.obj _ _ e
    rw[h1] at h2;cases h2
    cases o with
    | lst ds =>
      obtain⟨zs,ha,r2⟩:=h3
      dsimp only at w
      cases e2:zbA ds with
      |none=>rw[e2] at w;exact w.elim
      | some os =>
        rw[e2] at w
        rw[zf4 e2] at r2
        cases zeP r2
        obtain⟨its,rz,pl,_⟩:=I.list (SqL.of ha)
        obtain⟨u1,rfl,ru1⟩:=Vals.one rv
        obtain⟨t,rfl⟩:=ru1
        cases rx
        obtain⟨c1,c2⟩:=zcZ i rz
        have hl:=pl.isList
        obtain⟨⟨cls,dd,data,sl⟩,ho,hc,n,hd⟩:=id hl
        simp only at hc hd
        subst hc hd
        refine call_meets PySem.F.slot_list_count ⟨_,ho,rfl⟩ PySem.F.entry_list_count (PySem.F.args_list_count_2 _ _) (PySem.SeqAt.list_countAt a its.toArray n dd sl (.int i t) (isI i)) ⟨ho,fun y hy=>?_,?_⟩
        · rcases c1 y (by simpa using hy) with rfl|⟨j,u,rfl⟩
          · exact PySem.SeqAt.EqAt.none_int i t
          · exact PySem.SeqAt.EqAt.int_int j u i t
        · rw[show its.toArray.toList=its from rfl,c2]
          exact⟨.int _,H,I.tok _,⟨_,rfl⟩,q _ _ (Lf.of (d:=.int _) hh rfl w)⟩
    |_=>exact w.elim
 all_goals first|exact w.elim|(rename_i h;cases h)
theorem zjy {m:Mt}{id:String}{name:Str}{co ce:CE}{o e:Expr}{apos cpos:Pos}(slot:Slot "list" name id)(hty:typeOf (.builtin id)=pure (.type "method_descriptor"))(hm:MtR X id (rM X.K m))(ho:PE X o (tE X.K cf co))(he:PE X e (tE X.K cf ce))(hst:zam e=true)(hsup:zcs o=true)(hl:(apos.endLine == cpos.line)=true) :
  PE X (.Call (.Attribute o name apos) [e] [] cpos) (tE X.K cf (.mt m co (.cons ce .nil))):=by
 refine PE.imp (zlX PySem.F.plainAttrs_list slot hty hm ho (zdc he zgi hst) (zeU hsup name X.env _) (by rw[zal hst];rfl) hl (zal hst [] X.env)) fun σ H Qv ⟨δ,ι,S,Q,hs,hh,w,q⟩=>?_
 simp only[evE,zaa] at w
 refine tE.run hs hh w fun d v ι1 H1 S1 x1 hs1 hh1 r1 w1=>?_
 split at w1
 · rename_i c
   refine⟨zi1 hh1 r1 c,?_⟩
   rw[zaa] at w1
   refine tAs.run hs1 hh1 w1 fun ds vs ι2 H2 S2 x2 hs2 hh2 r2 w2=>?_
   exact⟨ι2,S2,d,ds,Q,r1.ext x2,r2,hh2,w2,fun z H3 l=>q z H3 (Lf.up (x1.trans x2) l)⟩
 · exact w1.elim
noncomputable def rIns:V->List V->Hp->VK->Prop:=fun x vs H Q=>∃l xs i y,x=.ref l/\vs=[.int i,y]/\H l=some (.lst xs)/\0<=i/\i<=xs.length/\xs.length+1<=sizeLine/\Q .non (upd H l (.lst (xs.take i.toNat++y::xs.drop i.toNat)))
theorem zgD:MtM X "list.insert" rIns:=by
 intro pins s σ H x vs v us Q I rx rv h
 obtain⟨l,xs,i,y,rfl,rfl,hH,h1,h2,hz,q⟩:=h
 cases rx
 obtain⟨u1,u2,rfl,r1,r2⟩:=zfw rv
 obtain⟨t,rfl⟩:=r1
 obtain⟨z,its,n,r,hl,e⟩:=I.lstM hH
 rw[sizeLine_eq] at hz
 have hf:PySem.Builtin.List.listFitsIndex i=true:=fitsIndex_both (by omega) (by omega)
 refine call_meets PySem.F.slot_list_insert ⟨_,e,rfl⟩ PySem.F.entry_list_insert (PySem.F.args_list_insert_3 _ _ _) (PySem.AutoSeq1.list_insert_list_int_val_1 l its.toArray n i t u2 (by simp[hf]) (by rw[List.size_toArray,sizeLine_eq];omega)) ⟨e,?_⟩
 refine⟨.non,_,I.lset (its':=its.take i.toNat++u2::its.drop i.toNat) hH e ?_ ((r.take _).append (.cons r2 (r.drop _))) ?_,rfl,q⟩
 · have hm:min i.toNat its.length=i.toNat:=Nat.min_eq_left (by omega)
   show (its.toArray.extract 0 (if i<0 then _ else min i.toNat its.toArray.size)).push u2++its.toArray.extract (if i<0 then _ else min i.toNat its.toArray.size)=_
   rw[if_neg (by omega),List.size_toArray,hm]
   apply Array.toList_inj.mp
   simp[List.extract_eq_drop_take]
   exact List.take_of_length_le (by rw[List.length_drop];omega)
 · rw[List.length_append,List.length_cons,List.length_take,List.length_drop,sizeLine_eq]
   omega
noncomputable def rI (K:PySem.W.Frag):V->List V->Hp->VK->Prop:=fun x xs H Qv=>∃ι S d y z Qd v1 v2,xs=[v1,v2]/\RV K ι H d x/\RV K ι H y v1/\RV K ι H z v2/\RH K ι H S/\W (zcM S d y z) Qd/\∀v H',Lf K ι H Qd v H'->Qv v H'
theorem zmu:MtR X "list.insert" (rI X.K):=by
 intro pins s σ H x xs v us Qv I rx rv ⟨ι,S,d,y,z,Qd,v1,v2,ex,r,ry,rz,hh,w,q⟩
 subst ex
 unfold zcM at w
 split at w
 · rename_i l i
   obtain⟨a,h1,rfl⟩:=r
   obtain rfl:v1=.int i:=ry
   cases e:S.get l with
   |none=>rw[e] at w;exact w.elim
   | some o =>
     rw[e] at w
     obtain⟨b,h2,h3⟩:=hh.obj _ _ e
     rw[h1] at h2;cases h2
     cases o with
     | lst ds =>
       obtain⟨zs,ha,r2⟩:=h3
       dsimp only at w
       split at w
       · rename_i c0
         obtain⟨c,S',hp,w2⟩:=zjf w
         have hl:=r2.length
         rw[List.length_append,List.length_cons,List.length_take,List.length_drop] at c
         refine zgD pins s σ H _ _ v us Qv I rx rv ⟨a,zs,i,v2,rfl,rfl,ha,c0.1,by rw[hl];exact c0.2,by omega,?_⟩
         exact q _ _ (Lf.wr (d:=.non) hh e h1 hp ((r2.take _).append ⟨v2,_,rfl,rz,r2.drop _⟩) rfl w2)
       · exact w.elim
     |_=>exact w.elim
 · exact w.elim
theorem zlq {co ca cb:CE}{o e x:Expr}{apos cpos:Pos}(ho:PE X o (tE X.K cf co))(he:PE X e (tE X.K cf ca))(hx:PE X x (tE X.K cf cb))(hst:zam e=true)(hst2:zam x=true)(hsup:zcs o=true)(hl:(apos.endLine == cpos.line)=true) :
  PE X (.Call (.Attribute o "insert" apos) [e,x] [] cpos) (tE X.K cf (.insL co ca cb)):=by
 refine PE.imp (zlX PySem.F.plainAttrs_list PySem.F.slot_list_insert PySem.F.type_list_insert zmu ho (zdc he (zdc hx zgi hst2) hst) (zeU hsup "insert" X.env _) (by rw[zal hst,zal hst2];rfl) hl (zal hst [x] X.env) (by rw[zal hst2];rfl)) fun σ H Qv ⟨δ,ι,S,Q,hs,hh,w,q⟩=>?_
 simp only[evE,zaa] at w
 refine tE.run hs hh w fun d v ι1 H1 S1 x1 hs1 hh1 r1 w1=>?_
 split at w1
 · rename_i c
   refine⟨zi1 hh1 r1 c,?_⟩
   rw[zaa] at w1
   have w2:W (evEs cf (.cons ca (.cons cb .nil)) δ S1) fun ds T=>∃y z,ds=[y,z]/\W (zcM T d y z) Q:=by
    simp only[evEs,zaa,W_ok]
    refine w1.mono fun y S2 h2=>?_
    rw[zaa] at h2
    exact h2.mono fun z S3 h3=>⟨y,z,rfl,h3⟩
   refine tAs.run hs1 hh1 w2 fun ds vs ι2 H2 S2 x2 hs2 hh2 r2 ⟨y,z,ed,w3⟩=>?_
   subst ed
   obtain⟨v1,v',rfl,ry,r3⟩:=r2
   obtain⟨v2,v'',rfl,rz,r4⟩:=r3
   cases r4
   exact⟨ι2,S2,d,y,z,Q,v1,v2,rfl,r1.ext x2,ry,rz,hh2,w3,fun z H3 l=>q z H3 (Lf.up (x1.trans x2) l)⟩
 · exact w1.elim
end
end R
end
section
namespace R
open PySem PySem.Spec PyProof.Rows L2
variable [Mks]
section
variable {T:Tab} {cf:CF} {k:Nat} {N:List Str} {sc:Scope} {X:Cx} {pos p:Pos}
theorem SqK.seq {K:PySem.W.Frag}{ι:List Addr}{H:Hp}{S:R.St}{a:Addr}{xs:List V}{ds:List D}{lks:List Nat}(h:SqK K ι H S a xs ds lks):SqL K H a xs\/SqT K H a xs:=by
 cases h with
 |tmp h e=>exact .inl (SqL.of e)
 |tup e=>exact .inr (SqT.of e)
 |fix e=>exact .inl e.sq
 |own l hl hi hs e=>exact .inl (SqL.of e)
theorem zlf {ce:CE}{e:Expr}(he:PE X e (tE X.K cf ce)):PE X e (tL X.K cf (.val ce)):=by
 refine PE.imp he fun σ H Qv ⟨δ,ι,S,Q,hs,hh,w,q⟩=>?_
 simp only[evL,zaa] at w
 refine tE.run hs hh w fun d v ι1 H1 S1 x1 hs1 hh1 r1 w1=>?_
 obtain⟨ds,eq,w2⟩:=zaC w1
 refine q v H1 ⟨ds,lkOf S1 d,ι1,S1,x1,?_,hh1,w2⟩
 cases d with
 | tup es =>
   cases eq
   obtain⟨a,xs,rfl,ha,rr⟩:=r1
   exact⟨a,xs,rfl,rr,.tup ha⟩
 | fix es =>
   cases eq
   obtain⟨a,xs,rfl,ha,rr⟩:=r1
   exact⟨a,xs,rfl,rr,.fix ha⟩
 | ref l =>
   simp only[zbH] at eq
   split at eq
   · rename_i ds' e
     cases eq
     obtain⟨a,h1,rfl⟩:=r1
     obtain⟨a2,h2,xs,ha,rr⟩:=hh1.obj _ _ e
     rw[h1] at h2;cases h2
     exact⟨a,xs,rfl,rr,.own l (by simp[lkOf]) h1 e ha⟩
   · cases eq
 |_=>cases eq
theorem zbC {e:Expr}{te:TE}(he:PE X e te)(hst:zam e=true):PA X [e] (zhC te tNil):=zaO he zb6 (zal hst [] X.env)
theorem zlm (G:Gd T cf k N sc X){cl:CL}{e:Expr}(hg:Gl X "tuple"/\X.mg "tuple"=none)(he:PE X e (tL X.K cf cl))(hst:zam e=true):PE X (.Call (.Name "tuple" p) [e] [] pos) (tE X.K cf (.mkT cl)):=by
 refine PE.imp (zbM zdt hg.1 hg.2 zfs (zbC he hst) (by decide) (by decide) (zal hst [] X.env)) fun σ H Qv ⟨δ,ι,S,Q,hs,hh,w,q⟩=>?_
 simp only[evE,zaa] at w
 refine tL.run hs hh w fun ds lks v ι1 H1 S1 x1 hs1 hh1 sq w1=>?_
 split at w1
 · rename_i c
   obtain⟨a,xs,rfl,rr,kd⟩:=sq
   have fresh:SqL X.K H1 a xs->∃p ys,[V.ref a]=[V.ref p]/\((SqL X.K H1 p ys/\∀l,H1 l=none->Qv (.ref l) (upd H1 l (.tup ys)))\/(SqT X.K H1 p ys/\Qv (.ref p) H1)):=fun h=>
    ⟨a,xs,rfl,.inl ⟨h,fun l hl=>q _ _ (Lf.up x1 (Lf.tup hh1 hl rr w1))⟩⟩
   cases kd with
   |tmp h e=>exact fresh (SqL.of e)
   |fix e=>exact fresh e.sq
   |own l hl hi hs e=>exact fresh (SqL.of e)
   |tup e=>exact⟨a,xs,rfl,.inr ⟨SqT.of e,q _ _ (Lf.up x1 (Lf.of (d:=.tup ds) hh1 ⟨a,xs,rfl,e,rr⟩ w1))⟩⟩
 · exact w1.elim
theorem ziQ (G:Gd T cf k N sc X){cl:CL}{e:Expr}(hg:Gl X "list"/\X.mg "list"=none)(he:PE X e (tL X.K cf cl))(hst:zam e=true):PE X (.Call (.Name "list" p) [e] [] pos) (tE X.K cf (.mkL cl)):=by
 refine PE.imp (zbM zea hg.1 hg.2 zeM (zbC he hst) (by decide) (by decide) (zal hst [] X.env)) fun σ H Qv ⟨δ,ι,S,Q,hs,hh,w,q⟩=>?_
 simp only[evE,zaa] at w
 refine tL.run hs hh w fun ds lks v ι1 H1 S1 x1 hs1 hh1 sq w1=>?_
 obtain⟨c,w2⟩:=zcu w1
 obtain⟨a,xs,rfl,rr,kd⟩:=sq
 exact⟨a,xs,rfl,kd.seq,fun l hl=>q _ _ (Lf.up x1 (Lf.lst hh1 hl rr w2))⟩
theorem zgE {cl:CL}{σ:L2.St}{H:Hp}{Qv:VK}(h:tE X.K cf (.mkL cl) σ H Qv):tLt X.K cf cl σ H Qv:=by
 obtain⟨δ,ι,S,Q,hs,hh,w,q⟩:=h
 simp only[evE,zaa] at w
 refine tLt.run hs hh w fun ds p xs ι1 H1 S1 x1 hs1 hh1 r1 hp e hn w1=>?_
 obtain⟨c,w2⟩:=zcu w1
 refine q _ _ ⟨.ref S1.len,ι1++[p],S1.push (.lst ds),?_,⟨p,hh1.last p,rfl⟩,hh1.one (l:=0) hp ⟨xs,e,r1.up (List.prefix_append _ _) (Kp.refl _)⟩,w2⟩
 refine⟨x1.pre.trans (List.prefix_append _ _),x1.kp,fun b o hb eb=>⟨(x1.rest b o hb eb).1,fun z=>?_⟩⟩
 rcases List.mem_append.mp z with z|z
 · exact (x1.rest b o hb eb).2 z
 · simp at z
   subst z
   rw[hn] at eb;cases eb
end
end R
end
section
set_option maxHeartbeats 4000000
namespace R
open PySem PySem.Spec PyProof.Rows L2
variable [Mks]
section
variable {T:Tab} {cf:CF} {k:Nat} {N:List Str} {sc:Scope} {X:Cx} {pos p:Pos}
theorem ziE:bootBuiltins "range"=some (.type "range"):=by decide +kernel
theorem zgr:zaV X (.type "range") (fun xs H Q=>∃j,xs=[.int j]/\∀p,H p=none->Q (.ref p) (upd H p (.rng 0 j))):=by
 intro pins s σ H xs us Q I r h
 obtain⟨j,rfl,q⟩:=h
 obtain⟨u,rfl,ru⟩:=r.one
 obtain⟨t,rfl⟩:=ru
 refine call_range_1 ⟨.ref s.heap.objs.size,_,I.laid (o:=.rng 0 j) (fun b ob e=>Heap.get?_push_of_some _ e) (Nat.le_refl _) ?_,rfl,q _ (I.hok.fresh (Nat.le_refl _))⟩
 exact⟨_,_,_,Heap.get?_push_size _ rfl⟩
theorem zic (hc:X.calm=true):zaV X (.type "list") (fun xs H Q=>∃p hi,xs=[.ref p]/\H p=some (.rng 0 hi)/\-(2 ^ 62)<=hi/\hi<2 ^ 62/\hi.toNat<=16777216/\∀l,H l=none->Q (.ref l) (upd H l (.lst ((List.range hi.toNat).map fun (j:Nat)=>.int j)))):=by
 intro pins s σ H xs us Q I r h
 obtain⟨p,hi,rfl,hp,h1,h2,h3,q⟩:=h
 obtain⟨u,rfl,ru⟩:=r.one
 cases (show u=Value.ref p from ru)
 obtain⟨t,t2,t3,e⟩:=(show ObjOk X.prog X.w H s.heap p (.rng 0 hi) from I.hok p _ hp)
 have hn:Builtin.Range.rangeSize 0 hi 1=(hi.toNat:Nat):=by rw[rangeSize_one];split<;>omega
 refine call_list_range (I.ok.hd hc) e (small_one (by decide) (by decide) h1 h2) hn h3 fun h' tk acc c kp hg it=>?_
 refine⟨.ref s.heap.objs.size,_,I.laid (o:=.lst _) kp (Nat.le_refl _) ⟨?_,acc.toList,c,?_,?_⟩,rfl,q _ (I.hok.fresh (Nat.le_refl _))⟩
 · rw[List.length_map,List.length_range,sizeLine_eq];exact h3
 · have key:∀(n:Nat) (us:List Value),us.length=n->(∀(j:Nat) (v:Value),us[j]?=some v->∃t,v=Value.int (0+(j:Int) * 1) t)->Vals ((List.range n).map fun (j:Nat)=>V.int j) us:=by
    intro n
    induction n with
    | zero => intro us hl _; cases us with
      |nil=>exact .nil
      |cons _ _=>simp at hl
    | succ n ih =>
      intro us hl hv
      have hne:us≠[]:=by intro z;subst z;simp at hl
      have hd:us=us.dropLast++[us.getLast hne]:=(List.dropLast_concat_getLast hne).symm
      rw[List.range_succ,List.map_append,hd]
      have hdl:us.dropLast.length=n:=by simp[hl]
      refine Vals.append (ih _ hdl fun j v e=>hv j v ?_) (.cons ?_ .nil)
      · have hj:j<us.dropLast.length:=(List.getElem?_eq_some_iff.mp e).1
        rw[hd,List.getElem?_append_left hj];exact e
      · obtain⟨t,e⟩:=hv n (us.getLast hne) (by
         conv=>lhs;rw[hd]
         rw[List.getElem?_append_right (by omega)]
         simp[hdl])
        exact⟨t,by simpa using e⟩
   exact key _ _ (by simpa using it.1) fun j v e=>it.2 j v (by simpa using e)
 · simpa using hg
theorem zjz (G:Gd T cf k N sc X){ca:CE}{a:Expr}{p2:Pos}(hg:Gl X "list"/\X.mg "list"=none)(hr:Gl X "range"/\X.mg "range"=none)(ha:PE X a (tE X.K cf ca))(hst:zam a=true) :
  PE X (.Call (.Name "list" p) [.Call (.Name "range" p2) [a] [] pos'] [] pos) (tE X.K cf (.mkL (.rng1 ca))):=by
 have hin:=zbM (p:=p2) (pos:=pos') zgr hr.1 hr.2 ziE (zbC ha hst) (by decide) (by decide) (zal hst [] X.env)
 refine PE.imp (zbM (zic G.calm) hg.1 hg.2 zeM (zbC hin rfl) (by decide) (by decide) rfl) fun σ H Qv ⟨δ,ι,S,Q,hs,hh,w,q⟩=>?_
 simp only[evE,evL,zaa] at w
 refine tE.run hs hh w fun d v ι1 H1 S1 x1 hs1 hh1 r1 w1=>?_
 cases d with
 | int j =>
   obtain rfl:v=.int j:=r1
   dsimp only at w1
   split at w1
   · rename_i c
     obtain⟨c2,w2⟩:=zcu w1
     refine⟨j,rfl,fun pr hpr=>⟨pr,j,rfl,zak,c.1,c.2,by simpa[sizeLine_eq] using c2,fun l hl=>?_⟩⟩
     have hh2:=hh1.new hpr (.rng 0 j)
     refine q _ _ (Lf.up (x1.trans (Ext.new hpr _)) (Lf.lst hh2 hl ?_ w2))
     have:=RVs.ints (K:=X.K) (ι:=ι1) (H:=upd H1 pr (.rng 0 j)) ((List.range j.toNat).map fun (m:Nat)=>(m:Int))
     rw[List.map_map,List.map_map] at this
     exact this
   · exact w1.elim
 |_=>exact w1.elim
theorem zkH {ds:List D}{bs:List Bool}(h:ds.mapM zcF=some bs):ds=bs.map D.bl:=by
 induction ds generalizing bs with
 | nil =>
   have h:bs=[]:=by simpa using h.symm
   subst h;rfl
 | cons d ds ih =>
   obtain⟨y,r,h1,h2,rfl⟩:=zaD h
   cases d<;>simp[zcF] at h1
   subst h1
   rw[ih h2];rfl
theorem RVs.bls_eq {K:PySem.W.Frag}{ι:List Addr}{H:Hp}:∀{bs:List Bool} {vs:List V},RVs K ι H (bs.map D.bl) vs->vs=bs.map V.bl
 | [],_,h=>h
 | b :: bs, vs, h => by
   obtain⟨v,r,rfl,h1,h2⟩:=h
   rw[RVs.bls_eq h2,show v=.bl b from h1];rfl
theorem zf9 {bs:List Bool}{us:List Value}(r:Vals (bs.map V.bl) us):us=bs.map Value.bool:=by
 induction bs generalizing us with
 |nil=>cases r;rfl
 | cons b bs ih =>
   cases r with
   |cons r1 r2=>rw[ih r2,show _=Value.bool b from r1];rfl
theorem zhv (bs:List Bool):(List.range bs.length).all (fun i=>bs.getD i false)=bs.all id:=by
 rw[Bool.eq_iff_iff,List.all_eq_true,List.all_eq_true]
 constructor
 · intro h b hb
   obtain⟨i,hi,e⟩:=List.getElem_of_mem hb
   have:=h i (by simpa using hi)
   rw[List.getD_eq_getElem?_getD,List.getElem?_eq_getElem hi,e] at this
   exact this
 · intro h i hi
   have hi:i<bs.length:=by simpa using hi
   rw[List.getD_eq_getElem?_getD,List.getElem?_eq_getElem hi]
   exact h _ (List.getElem_mem hi)
theorem zkO (hc:X.calm=true):zaV X (.builtin "all") (fun xs H Q=>∃(a:Addr) (bs:List Bool),xs=[.ref a]/\(SqL X.K H a (bs.map V.bl)\/SqT X.K H a (bs.map V.bl))/\Q (.bl (bs.all id)) H):=by
 intro pins s σ H xs us Q I r h
 obtain⟨a,bs,rfl,hq,q⟩:=h
 obtain⟨u,rfl,ru⟩:=r.one
 cases (show u=Value.ref a from ru)
 have hA:X.A.in1.in1.handled=none:=I.ok.hd hc
 have hA1:X.A.in1.handled=none:=I.ok.hd hc
 have tr:∀(items:Array Value),items.toList=bs.map Value.bool->TruthOf X.prog X.w X.A.in1 (fun i v=>items[i]?=some v) (fun i=>bs.getD i false):=by
  intro items e i v s' Q' E' hv hQ
  have hv':items.toList[i]?=some v:=by rw[Array.getElem?_toList];exact hv
  rw[e,List.getElem?_map] at hv'
  cases z:bs[i]? with
  |none=>rw[z] at hv';cases hv'
  | some b =>
    rw[z] at hv'
    simp only[Option.map_some,Option.some.injEq] at hv'
    subst hv'
    dsimp only at hQ
    rw[List.getD_eq_getElem?_getD,z] at hQ
    exact wpAny_truthy_bool hQ
 have fin:∀(h':Heap) (tk n:Nat) (s2:Shared) (it:Addr),n=bs.length->s.heap.objs.size=it->Inv X pins σ H s2->s2.os=s.os->(∀b o,b∉[it]->s2.heap.get? b=some o->h'.get? b=some o)->
   EP X pins σ Q (.bool ((List.range n).all fun i=>bs.getD i false)) {s2 with heap:=h',toks:=tk}:=by
  intro h' tk n s2 it hn hit I2 ho kp
  subst hn
  rw[zhv]
  have fp:=I.fpOk (b:=it) (H':=H) (by omega) (I.hok.fresh (by omega))
  obtain⟨f0,f1,f2,f3,f4,f5⟩:=fp
  exact⟨.bl _,H,I2.turned (it:=it) (fun b o hb e=>kp b o (by simpa using hb) e) f0 f1 f3 f4 f5,rfl,q⟩
 rcases hq with hq|hq
 · obtain⟨its,rv,pl,hz⟩:=I.list hq
   have hits:=zf9 rv
   have hlen:=rv.length
   refine call_all_walk (wpAny_pyIter_list pl.isList ?_)
   have hne:a≠s.heap.objs.size:=by
    obtain⟨o,n,e,_⟩:=pl
    exact Nat.ne_of_lt (Heap.lt_size e)
   refine⟨s.heap.objs.size,_,_,_,_,_,_,rfl,Walks.list hA1 _ a hne its.toArray,⟨⟨_,Heap.get?_push_size _ rfl,rfl,rfl⟩,pl.isList.push _⟩,tr its.toArray (by simpa using hits),fun h' tk kp=>?_⟩
   exact fin h' tk _ _ _ (by simpa using hlen.symm) rfl (I.kept (t':=s.toks) fun b o e=>Heap.get?_push_of_some _ e) rfl kp
 · obtain⟨its,rv,pl,hz⟩:=I.tuple hq
   have hits:=zf9 rv
   have hlen:=rv.length
   refine call_all_walk (wpAny_pyIter_tuple (show s.heap.IsTuple a its.toArray from pl) ?_)
   have hne:a≠s.heap.objs.size:=by
    obtain⟨o,e,_⟩:=pl
    exact Nat.ne_of_lt (Heap.lt_size e)
   refine⟨s.heap.objs.size,_,_,_,_,_,_,rfl,Walks.tuple hA1 _ a hne its.toArray,⟨⟨_,Heap.get?_push_size _ rfl,rfl,rfl⟩,?_⟩,tr its.toArray (by simpa using hits),fun h' tk kp=>?_⟩
   · obtain⟨o,e,c⟩:=pl
     exact⟨o,Heap.get?_push_of_some _ e,c⟩
   · exact fin h' tk _ _ _ (by simpa using hlen.symm) rfl (I.kept (t':=s.toks) fun b o e=>Heap.get?_push_of_some _ e) rfl kp
theorem zlu (G:Gd T cf k N sc X){cl:CL}{e:Expr}(hg:Gl X "all"/\X.mg "all"=none)(he:PE X e (tL X.K cf cl))(hst:zam e=true):PE X (.Call (.Name "all" p) [e] [] pos) (tE X.K cf (.all cl)):=by
 refine PE.imp (zbN (zkO G.calm) hg.1 hg.2 zmT (zbC he hst) (by decide) (by decide) (zal hst [] X.env)) fun σ H Qv ⟨δ,ι,S,Q,hs,hh,w,q⟩=>?_
 simp only[evE,zaa] at w
 refine tL.run hs hh w fun ds lks v ι1 H1 S1 x1 hs1 hh1 sq w1=>?_
 obtain⟨b,hb,w2⟩:=zaC w1
 unfold allD at hb
 cases e:ds.mapM zcF with
 |none=>rw[e] at hb;cases hb
 | some bs =>
   rw[e] at hb
   have hb:b=bs.all id:=by simpa using hb.symm
   subst hb
   obtain⟨a,xs,rfl,rr,kd⟩:=sq
   rw[zkH e] at rr
   have:=rr.bls_eq
   subst this
   exact⟨a,bs,rfl,kd.seq,q _ _ (Lf.up x1 (Lf.of (d:=.bl _) hh1 rfl w2))⟩
theorem zml {ι:List Addr}{H:Hp}{y:D}{v:V}{k:List Int}(r:RV X.K ι H y v)(h:zdq y=some k):∃b,v=.ref b/\H b=some (.tup ((kI k).map kV)):=by
 cases y with
 | tup ds =>
   obtain⟨b,xs,rfl,hb,rr⟩:=r
   simp only[zdq] at h
   rw[zbO h] at rr
   rw[rr.ints_eq] at hb
   refine⟨b,rfl,?_⟩
   rw[hb]
   unfold kI
   rw[List.map_map];rfl
 |_=>cases h
end
end R
end
section
set_option maxHeartbeats 4000000
namespace R
open PySem PySem.Spec PyProof.Rows L2
variable [Mks]
section
variable {prog:Program} {w:World} {A:Around} {E:Value->Shared->Prop} {s:Shared}
end
section
variable {T:Tab} {cf:CF} {k:Nat} {N:List Str} {sc:Scope} {X:Cx} {pos p p2 pos':Pos}
end
end R
end
section
set_option maxHeartbeats 4000000
namespace R
open PySem PySem.Spec PyProof.Rows L2
section
variable [Mks] {X:Cx} {T:Tab} {cf:CF} {k:Nat} {N:List Str} {sc:Scope} {pos p:Pos}
end
end R
end
section
namespace R
open PySem PySem.Spec PyProof.Rows L2
variable [Mks]
structure Ltr (K:PySem.W.Frag) (ι:List Addr) (H:Hp) (S:R.St) (lks:List Nat) (ι2:List Addr) (H2:Hp) (S2:R.St):Prop where
 ext:Ext ι H ι2 H2
 rh:RH K ι2 H2 S2
 lck:∀l∈lks,S2.get l=S.get l
structure Wk (K:PySem.W.Frag) (J:It) (ds:List D) (lks:List Nat) (ι:List Addr) (H:Hp) (S:R.St):Prop where
 go:∀(i:Nat) (ι2:List Addr) (H2:Hp) (S2:R.St),Ltr K ι H S lks ι2 H2 S2->i<ds.length->J.go i H2
 yld:∀(i:Nat) (ι2:List Addr) (H2:Hp) (S2:R.St) (x:V) (H':Hp),Ltr K ι H S lks ι2 H2 S2->i<ds.length->J.yld i H2 x H'->Ext ι2 H2 ι2 H'/\RH K ι2 H' S2/\∃d,ds[i]?=some d/\RV K ι2 H' d x
 stop:∀(i:Nat) (ι2:List Addr) (H2:Hp) (S2:R.St),Ltr K ι H S lks ι2 H2 S2->ds.length<=i->J.stop i H2
 lks:∀l∈lks,l<S.len
noncomputable def LfI (K:PySem.W.Frag)(ι:List Addr)(H:Hp)(Q:List D × List Nat->R.St->Prop)(J:It)(H':Hp):Prop:=∃ds lks ι' S',Ext ι H ι' H'/\RH K ι' H' S'/\Q (ds,lks) S'/\Wk K J ds lks ι' H' S'
noncomputable def tI (K:PySem.W.Frag)(cf:CF)(cl:CL):TI:=fun σ H R=>∃δ ι S Q,RS K ι H δ σ/\RH K ι H S/\W (evL cf cl δ S) Q/\∀J H',LfI K ι H Q J H'->R J H'
theorem PI.imp {X:Cx}{tg e:Expr}{t t':TI}(h:PI X tg e t)(i:∀σ H Q,t' σ H Q->t σ H Q):PI X tg e t':=fun pins s σ H Q I q=>h pins s σ H Q I (i σ H Q q)
noncomputable def iSeq (K:PySem.W.Frag)(tl:TE):TI:=fun σ H R=>tl σ H fun x H1=>∃a,x=.ref a/\(((∃xs,SqL K H1 a xs)/\R (Itl K a) H1)\/((∃xs,SqT K H1 a xs)/\R (Itt K a) H1))
section
variable {T:Tab} {cf:CF} {k:Nat} {N:List Str} {sc:Scope} {X:Cx} {pos p:Pos} {tg:Expr}
theorem zlO {l:Expr}{tl:TE}(hl:PE X l tl):PI X tg l (iSeq X.K tl):=by
 intro pins s σ H R I h
 refine thn (hl pins s σ H _ I h) fun v s1 ⟨x,H1,I1,r1,q1⟩=>?_
 obtain⟨a,rfl,q1⟩:=q1
 cases r1
 rcases q1 with ⟨⟨xs,hq⟩,q⟩|⟨⟨xs,hq⟩,q⟩
 · obtain⟨its,rv,pl,hz⟩:=I1.list hq
   refine wpAny_pyIter_list pl.isList ?_
   refine⟨s1.heap.objs.size,[s1.heap.objs.size],_,_,H1,rfl,I1.kept (t':=s1.toks) fun b o e=>Heap.get?_push_of_some _ e,zgc a _,⟨_,Heap.get?_push_size _ rfl,rfl,rfl⟩,fun b hb=>?_,q⟩
   have e:b=s1.heap.objs.size:=by simpa using hb
   subst e
   exact I1.fpOk (Nat.le_refl _) (I1.hok.fresh (Nat.le_refl _))
 · obtain⟨its,rv,pl,hz⟩:=I1.tuple hq
   refine wpAny_pyIter_tuple (show s1.heap.IsTuple a its.toArray from pl) ?_
   refine⟨s1.heap.objs.size,[s1.heap.objs.size],_,_,H1,rfl,I1.kept (t':=s1.toks) fun b o e=>Heap.get?_push_of_some _ e,zfy a _,⟨_,Heap.get?_push_size _ rfl,rfl,rfl⟩,fun b hb=>?_,q⟩
   have e:b=s1.heap.objs.size:=by simpa using hb
   subst e
   exact I1.fpOk (Nat.le_refl _) (I1.hok.fresh (Nat.le_refl _))
theorem zei {K:PySem.W.Frag}{ι:List Addr}{H:Hp}{S:R.St}{a:Addr}{ds:List D}{lks:List Nat}(hl:∀l∈lks,l<S.len)
  (h:∀ι2 H2 S2,Ltr K ι H S lks ι2 H2 S2->∃xs,SqL K H2 a xs/\RVs K ι2 H2 ds xs/\∀ys,SqL K H2 a ys->True):Wk K (Itl K a) ds lks ι H S where
 go:=fun i ι2 H2 S2 lt hi=>by
  obtain⟨xs,hq,rr,_⟩:=h ι2 H2 S2 lt
  exact⟨xs,xs[i]'(by rw[rr.length];exact hi),hq,List.getElem?_eq_getElem _⟩
 yld:=fun i ι2 H2 S2 x H' lt hi y=>by
  obtain⟨xs,hq,rr,_⟩:=h ι2 H2 S2 lt
  obtain⟨rfl,y⟩:=y
  obtain⟨d,e,r⟩:=rr.get' (y xs hq)
  exact⟨Ext.refl _ _,lt.rh,d,e,r⟩
 stop:=fun i ι2 H2 S2 lt hi=>by
  obtain⟨xs,hq,rr,_⟩:=h ι2 H2 S2 lt
  exact⟨xs,hq,by rw[rr.length];exact hi⟩
 lks:=hl
theorem zkS {K:PySem.W.Frag}{ι:List Addr}{H:Hp}{S:R.St}{a:Addr}{ds:List D}{lks:List Nat}{xs:List V}(hl:∀l∈lks,l<S.len)(e:H a=some (.tup xs))(rr:RVs K ι H ds xs):Wk K (Itt K a) ds lks ι H S where
 go:=fun i ι2 H2 S2 lt hi=>⟨xs,xs[i]'(by rw[rr.length];exact hi),SqT.of (lt.ext.kp.tups _ _ e),List.getElem?_eq_getElem _⟩
 yld:=fun i ι2 H2 S2 x H' lt hi y=>by
  obtain⟨rfl,y⟩:=y
  obtain⟨d,e,r⟩:=(rr.ext lt.ext).get' (y xs (SqT.of (lt.ext.kp.tups _ _ e)))
  exact⟨Ext.refl _ _,lt.rh,d,e,r⟩
 stop:=fun i ι2 H2 S2 lt hi=>⟨xs,SqT.of (lt.ext.kp.tups _ _ e),by rw[rr.length];exact hi⟩
 lks:=hl
theorem ziN {cl:CL}{e:Expr}(he:PE X e (tL X.K cf cl))(hlk:∀{δ:Ev} {S:R.St} {Q:List D × List Nat->R.St->Prop},W (evL cf cl δ S) Q->W (evL cf cl δ S) fun r S'=>(∀l∈r.2,l<S'.len)/\Q r S'):PI X tg e (tI X.K cf cl):=by
 refine PI.imp (zlO he) fun σ H R ⟨δ,ι,S,Q,hs,hh,w,q⟩=>?_
 refine tL.run hs hh (hlk w) fun ds lks v ι1 H1 S1 x1 hs1 hh1 sq w1=>?_
 obtain⟨hl,w1⟩:=w1
 obtain⟨a,xs,rfl,rr,kd⟩:=sq
 refine⟨a,rfl,?_⟩
 cases kd with
 |tmp h e=>exact .inl ⟨⟨xs,SqL.of e⟩,q _ _ ⟨ds,lks,ι1,S1,x1,hh1,w1,zei hl fun ι2 H2 S2 lt=>⟨xs,SqL.of (lt.ext.keep h e (by simp)),rr.ext lt.ext,fun _ _=>trivial⟩⟩⟩
 |fix e=>exact .inl ⟨⟨xs,e.sq⟩,q _ _ ⟨ds,lks,ι1,S1,x1,hh1,w1,zei hl fun ι2 H2 S2 lt=>⟨xs,(e.kp lt.ext.kp).sq,rr.ext lt.ext,fun _ _=>trivial⟩⟩⟩
 |tup e=>exact .inr ⟨⟨xs,SqT.of e⟩,q _ _ ⟨ds,lks,ι1,S1,x1,hh1,w1,zkS hl e rr⟩⟩
 | own l hm hi hg e =>
   refine .inl ⟨⟨xs,SqL.of e⟩,q _ _ ⟨ds,lks,ι1,S1,x1,hh1,w1,zei hl fun ι2 H2 S2 lt=>?_⟩⟩
   obtain⟨b,h2,zs,hz,rz⟩:=lt.rh.obj l (.lst ds) ((lt.lck l hm).trans hg)
   rw[zbX lt.ext.pre hi] at h2;cases h2
   exact⟨zs,SqL.of hz,rz,fun _ _=>trivial⟩
theorem zme {ce:CE}{δ:Ev}{S:R.St}{Q:List D × List Nat->R.St->Prop}(h:W (evL cf (.val ce) δ S) Q):W (evL cf (.val ce) δ S) fun r S'=>(∀l∈r.2,l<S'.len)/\Q r S':=by
 simp only[evL,zaa] at h⊢
 refine h.mono fun x S1 h1=>?_
 obtain⟨ds,e,h2⟩:=zaC h1
 rw[e]
 refine⟨fun l hl=>?_,h2⟩
 cases x with
 | ref l' =>
   simp[lkOf] at hl
   subst hl
   simp only[zbH] at e
   split at e
   · rename_i e2;exact zaw e2
   · cases e
 |_=>simp[lkOf] at hl
theorem zka {n:Nat}{js g:List Nat}{it:CL}{c e:CE}{δ:Ev}{S:R.St}{Q:List D × List Nat->R.St->Prop}(h:W (evL cf (.comp n js g it c e) δ S) Q):W (evL cf (.comp n js g it c e) δ S) fun r S'=>(∀l∈r.2,l<S'.len)/\Q r S':=by
 simp only[evL,zaa] at h⊢
 refine h.mono fun ds S1 h1=>h1.mono fun r S2 h2=>?_
 split at h2
 · rename_i c;rw[if_pos c];exact⟨fun l hl=>by simp at hl,h2⟩
 · exact h2.elim
theorem zhA {K:PySem.W.Frag}{ι:List Addr}{H:Hp}{S:R.St}(lo:Int)(n:Nat):Wk K (Itr lo n) ((List.range n).map fun (j:Nat)=>D.int (lo+j)) [] ι H S where
 go:=fun i ι2 H2 S2 lt hi=>by show i<n;simpa using hi
 yld:=fun i ι2 H2 S2 x H' lt hi y=>by
  obtain⟨rfl,rfl⟩:=y
  have hi:i<n:=by simpa using hi
  exact⟨Ext.refl _ _,lt.rh,.int (lo+i),by simp[hi],rfl⟩
 stop:=fun i ι2 H2 S2 lt hi=>by show n<=i;simpa using hi
 lks:=fun l hl=>by simp at hl
theorem zjv {ca:CE}{a:Expr}(hg:Gl X "range"/\X.mg "range"=none)(ha:PE X a (tE X.K cf ca))(hst:zam a=true):PI X tg (.Call (.Name "range" p) [a] [] pos) (tI X.K cf (.rng1 ca)):=by
 refine PI.imp (zgw hg.1 hg.2 (zbC ha hst) (zal hst [] X.env)) fun σ H R ⟨δ,ι,S,Q,hs,hh,w,q⟩=>?_
 simp only[evL,zaa] at w
 refine tE.run hs hh w fun d v ι1 H1 S1 x1 hs1 hh1 r1 w1=>?_
 cases d with
 | int j =>
   obtain rfl:v=.int j:=r1
   dsimp only at w1
   split at w1
   · rename_i c
     have e:((List.range j.toNat).map fun (k:Nat)=>D.int k)=(List.range j.toNat).map fun (k:Nat)=>D.int (0+k):=by simp
     rw[e] at w1
     exact⟨j,rfl,c.1,c.2,q _ _ ⟨_,[],ι1,S1,x1,hh1,w1,zhA 0 j.toNat⟩⟩
   · exact w1.elim
 |_=>exact w1.elim
theorem zaS {X:Cx}{pins:List (Addr × Obj)}{σ:L2.St}{H:Hp}{s:Shared}{h':Heap}{t':Nat}{fp:List Addr}(I:Inv X pins σ H s)(k:∀b o,b∉fp->s.heap.get? b=some o->h'.get? b=some o)(hf:∀b∈fp,FpOk X pins H b):Inv X pins σ H {s with heap:=h',toks:=t'}:=by
 have nit:∀b u,H b=some u->b∉fp:=fun b u e z=>by rw[(hf b z).1] at e;cases e
 refine I.step (g':=s.gens) (d':=s.drawn) (ch:=fp) (fun b hb=>?_) (fun b o _ _ hc e _=>k b o hc e) (fun b o _ _ hc e _=>⟨o.slots,k b o hc e⟩) (fun _ _ _ _ n=>n)
  (fun b o hc e=>⟨o,k b o hc e⟩) (fun _ _ e=>e) (fun _ _ _ e=>e) (fun b ps e=>⟨#[],by rw[e];simp⟩) (fun m hm=>?_) (fun b u e=>?_) I.bare
 · obtain⟨f0,f1,f2,f3,f4,f5⟩:=hf b hb
   exact⟨f3,f1,f4,f5⟩
 · obtain⟨o,es,ep,ho,r⟩:=hm
   exact⟨o,es,ep,k _ o (fun z=>(hf _ z).2.1 rfl) ho,r⟩
 · refine (I.hok b u e).stay (fun c v hc q=>k c v ?_ q) (fun _ q=>q) fun _ _ q=>q
   rcases hc with z|z
   · rw[z];exact nit b u e
   · exact nit c _ z
noncomputable def tG (K:PySem.W.Frag)(is:List Nat):TG:=fun v σ H Qv=>∃δ ι d δ',RS K ι H δ σ/\RV K ι H d v/\asgG is d δ=some δ'/\∀σ',RS K ι H δ' σ'->Qv σ' H
noncomputable def tGs (K:PySem.W.Frag)(is:List Nat):TGs:=fun vs σ H Qv=>∃δ ι ds,RS K ι H δ σ/\RVs K ι H ds vs/\ds.length=is.length/\∀σ',RS K ι H (zc3 is ds δ) σ'->Qv σ' H
theorem PG.imp {t t':TG}(h:PG X tg t)(i:∀v σ H Q,t' v σ H Q->t v σ H Q):PG X tg t':=fun pins s σ H v u Q I r q=>h pins s σ H v u Q I r (i v σ H Q q)
theorem PGs.imp {es:List Expr}{t t':TGs}(h:PGs X es t)(i:∀v σ H Q,t' v σ H Q->t v σ H Q):PGs X es t':=fun pins s σ H v u Q I r q=>h pins s σ H v u Q I r (i v σ H Q q)
theorem zjx (G:Gd T cf k N sc X){i:Nat}{x:Str}(hi:N[i]?=some x)(hl:zcc sc x=true):PG X (.Name x pos) (tG X.K [i]):=by
 refine PG.imp (zgx (i:=i) (by rw[G.nm];exact G.nd) (by rw[G.nm];exact hi) (G.lc hl).1 (G.lc hl).2) fun v σ H Qv ⟨δ,ι,d,δ',hs,r,e,q⟩=>?_
 simp only[asgG] at e
 cases e
 exact q _ (hs.set r i)
noncomputable def zbx (sc:Scope)(N:List Str):List Nat->List Expr->Bool
 | [],[]=>true
 |i::is,.Name x _::es=>(N[i]? == some x)&&zcc sc x&&zbx sc N is es
 |_,_=>false
theorem zdA (G:Gd T cf k N sc X):∀{is:List Nat} {es:List Expr},zbx sc N is es=true->PGs X es (tGs X.K is)/\(assignEach es X.env).length=is.length/\(assignEach es X.env).findIdx? (·.1)=none
 | [],[],_=>⟨PGs.imp zjY fun v σ H Qv ⟨δ,ι,ds,hs,r,hl,q⟩=>by
  have:ds=[]:=by simpa using hl
  subst this
  exact⟨r,q σ (by simpa[zc3] using hs)⟩,rfl,rfl⟩
 | [],_::_,h=>by simp[zbx] at h
 |_::_,[],h=>by simp[zbx] at h
 | i :: is, e :: es, h => by
   cases e with
   | Name x pos =>
     simp only[zbx,Bool.and_eq_true,beq_iff_eq] at h
     obtain⟨h1,h2,h3⟩:=zdA G (is:=is) (es:=es) h.2
     refine⟨PGs.imp (zh0 (zgx (i:=i) (by rw[G.nm];exact G.nd) (by rw[G.nm];exact h.1.1) (G.lc h.1.2).1 (G.lc h.1.2).2) h1) fun v σ H Qv ⟨δ,ι,ds,hs,r,hl,q⟩=>?_,?_,?_⟩
     · cases ds with
       |nil=>simp at hl
       | cons d ds =>
         obtain⟨v1,vr,rfl,r1,r2⟩:=r
         refine⟨v1,vr,rfl,?_⟩
         exact⟨δ.set i (some d),ι,ds,hs.set r1 i,r2,by simpa using hl,fun σ' hs'=>q σ' (by simpa[zc3] using hs')⟩
     · show ((false,_)::assignEach es X.env).length=_
       simp[h2]
     · show ((false,_)::assignEach es X.env).findIdx? _=_
       simp[List.findIdx?_cons,h3]
   |_=>simp[zbx] at h
theorem ziF {is:List Nat}{d:D}{δ δ':Ev}(h2:2<=is.length)(e:asgG is d δ=some δ'):∃ds,d=.tup ds/\ds.length=is.length/\δ'=zc3 is ds δ:=by
 match is,h2 with
 | a :: b :: t, _ =>
   cases d with
   | tup ds =>
     simp only[asgG] at e
     split at e
     · rename_i c;cases e;exact⟨ds,rfl,c,rfl⟩
     · cases e
   |_=>cases e
theorem ziO (G:Gd T cf k N sc X){is:List Nat}{es:List Expr}{j:Nat}(h:zbx sc N is es=true)(h2:2<=is.length):PG X (.Tuple es j pos) (tG X.K is):=by
 obtain⟨h1,hn,hst⟩:=zdA G h
 refine PG.imp (zlP G.calm h1 hn hst) fun v σ H Qv ⟨δ,ι,d,δ',hs,r,e,q⟩=>?_
 obtain⟨ds,rfl,c,rfl⟩:=ziF h2 e
 obtain⟨a,xs,rfl,ha,rr⟩:=r
 exact⟨a,xs,rfl,SqT.of ha,by rw[rr.length];exact c,δ,ι,ds,hs,rr,c,q⟩
theorem Ext.tmp {ι ι':List Addr}{H H':Hp}{p:Addr}{vs us:List V}(x:Ext ι H ι' H')(hn:H p=none)(e:H' p=some (.lst vs)):Ext ι H ι' (upd H' p (.lst us)):=by
 refine⟨x.pre,x.kp.trans (.same (Tups.upd_lst e) (fun b o u h=>?_) fun b ps h=>?_),fun b o hb eb=>?_⟩
 · rw[zah];exact h
   rintro rfl
   rw[e] at h;cases h
 · rw[zah];exact h
   rintro rfl
   rw[e] at h;cases h
 · obtain⟨h1,h2⟩:=x.rest b o hb eb
   refine⟨?_,h2⟩
   rw[zah];exact h1
   rintro rfl
   rw[hn] at eb;cases eb
theorem Kp.tmp {H:Hp}{p:Addr}{vs us:List V}(e:H p=some (.lst vs)):Kp H (upd H p (.lst us)):=.same (Tups.upd_lst e) (fun b o u h=>by
 rw[zah];exact h
 rintro rfl
 rw[e] at h;cases h) fun b ps h=>by
 rw[zah];exact h
 rintro rfl
 rw[e] at h;cases h
theorem RH.tmp {K:PySem.W.Frag}{ι:List Addr}{H:Hp}{S:R.St}{p:Addr}{vs us:List V}(hh:RH K ι H S)(hp:p∉ι)(e:H p=some (.lst vs)):RH K ι (upd H p (.lst us)) S:=
 ⟨hh.len,hh.nd,fun l o q=>by
  obtain⟨a,h1,h2,hm⟩:=hh.mem q
  exact⟨a,h1,h2.up (List.prefix_refl _) (Kp.tmp e) (zah fun z=>hp (z▸hm))⟩,(Kp.tmp e).tab hh.tab⟩
theorem RS.up {K:PySem.W.Frag}{ι ι':List Addr}{H H':Hp}{δ:Ev}{σ:L2.St}(h:RS K ι H δ σ)(hp:ι <+: ι')(hk:Kp H H'):RS K ι' H' δ σ:=
 ⟨h.1,fun i d e=>let ⟨v,e1,r⟩:=h.2 i d e;⟨v,e1,r.up hp hk⟩⟩
theorem RH.lk {K:PySem.W.Frag}{ι:List Addr}{H:Hp}{S:R.St}(hh:RH K ι H S)(ks:List Nat):RH K ι H {S with lk:=ks}:=⟨hh.len,hh.nd,fun l o e=>hh.obj l o e,hh.tab⟩
theorem RS.csl {K:PySem.W.Frag}{ι:List Addr}{H:Hp}{δ:Ev}{σ:L2.St}(h:RS K ι H δ σ)(nt:Nat)(js:List Nat):RS K ι H (R.csl nt js δ) (L2.csl nt js σ):=by
 refine⟨by simp[R.csl,L2.csl],fun i d e=>?_⟩
 unfold R.csl at e
 unfold L2.csl
 by_cases hi:i<nt
 · rw[List.getElem?_append_left (by simpa using hi),List.getElem?_replicate] at e
   rw[if_pos hi] at e
   cases e
 · rw[List.getElem?_append_right (by simpa using hi)] at e⊢
   simp only[List.length_replicate,List.getElem?_map] at e⊢
   cases ej:js[i - nt]? with
   |none=>rw[ej] at e;cases e
   | some j =>
     rw[ej] at e
     simp only[Option.map_some,Option.some.injEq] at e⊢
     have e2:δ[j]?=some (some d):=by
      cases z:δ[j]? with
      |none=>rw[z] at e;cases e
      |some o=>rw[z] at e;simp at e;rw[e]
     obtain⟨v,ev,r⟩:=h.2 j d e2
     exact⟨v,by rw[ev];rfl,r⟩
theorem zd8 {α:Type}{xs:List α}{i:Nat}{x:α}(h:xs[i]?=some x):xs.drop i=x::xs.drop (i+1):=by
 obtain⟨h1,h2⟩:=List.getElem?_eq_some_iff.mp h
 rw[List.drop_eq_getElem_cons h1,h2]
noncomputable def CInv (K:PySem.W.Frag)(cf:CF)(g:List Nat)(c e:CE)(Q:List D × List Nat->R.St->Prop)(ds:List D)(lks:List Nat)(ι1:List Addr)(H1:Hp)(S1:R.St)(p:Addr)(i:Nat)(σ':L2.St)(H':Hp):Prop:=
 i<=ds.length/\∃δ' ι' S' acc vs,RS K ι' H' δ' σ'/\Ltr K ι1 H1 S1 lks ι' H' S'/\S'.lk=lks++S1.lk/\S1.len<=S'.len/\p∉ι'/\H' p=some (.lst vs)/\RVs K ι' H' acc vs/\
  W (zaX g (evT cf c) (evE cf e) (ds.drop i) δ' S') fun rest S2=>(acc++rest).length<=16777216/\Q (acc++rest,[]) {S2 with lk:=S1.lk}
theorem zfn {nt:Nat}{js is:List Nat}{it:CL}{c e:CE}{σ:L2.St}{H:Hp}{Qv:VK}(hcf:CFok cf)(h:tLt X.K cf (.comp nt js is it c e) σ H Qv):zjo nt js (tI X.K cf it) (tG X.K is) (tT X.K cf c) (tE X.K cf e) σ H Qv:=by
 obtain⟨δ,ι,S,Q,hs,hh,w,q⟩:=h
 simp only[evL,zaa] at w
 refine⟨δ,ι,S,_,hs,hh,w,fun J H1 ⟨ds,lks,ι1,S1,x1,hh1,w1,wk⟩=>?_⟩
 dsimp only at w1
 unfold zaZ at w1
 rw[zaa] at w1
 intro p hp
 have hpi:=hh1.fresh hp
 refine⟨fun i m σ' H'=>m=ds.length - i/\CInv X.K cf is c e Q ds lks ι1 H1 S1 p i σ' H',⟨_,rfl,Nat.zero_le _,R.csl nt js δ,ι1,{S1 with lk:=lks++S1.lk},[],[],((hs.ext x1).csl _ _).up (List.prefix_refl _) (Kp.new hp _),⟨Ext.new hp _,(hh1.lk _).new hp _,fun l _=>rfl⟩,rfl,Nat.le_refl _,hpi,zak,rfl,?_⟩,?_⟩
 · refine w1.mono fun rest S2 w2=>?_
   simp only[W_ok] at w2
   split at w2
   · rename_i c;exact⟨by simpa using c,by simpa using w2⟩
   · exact w2.elim
 rintro i m σ' H' ⟨rfl,hle,δ',ι',S',acc,vs,hs',lt,hlk,hln,hpn,hpv,ra,wt⟩
 rcases Nat.lt_or_eq_of_le hle with hlt|rfl
 · refine .inr ⟨wk.go i ι' H' S' lt hlt,CInv X.K cf is c e Q ds lks ι1 H1 S1 p (i+1),fun σ2 H2 h=>⟨_,by omega,rfl,h⟩,fun x H2 hy=>?_⟩
   obtain⟨x2,hh2,d,hd,rd⟩:=wk.yld i ι' H' S' x H2 lt hlt hy
   have hs2:=hs'.ext x2
   have hp2:=x2.keep hpn hpv (by simp)
   rw[zd8 hd] at wt
   simp only[zaX] at wt
   cases ea:asgG is d δ' with
   |none=>rw[ea] at wt;exact wt.elim
   | some δ2 =>
     rw[ea] at wt
     dsimp only at wt
     rw[zaa] at wt
     refine⟨δ',ι',d,δ2,hs2,rd,ea,fun σ2 hs3=>?_⟩
     refine tT.run hs3 hh2 (zcN hcf c δ2 S' _ wt) fun b ι3 H3 S3 x3 hs4 hh3 w3=>?_
     obtain⟨w3,f3⟩:=w3
     have hp3:=x3.keep hpn hp2 (by simp)
     have hpn3:=(x3.rest p _ hpn hp2).2
     have keep:∀{S4:R.St},Frm S' S4->S4.lk=lks++S1.lk/\S1.len<=S4.len/\∀l∈lks,S4.get l=S1.get l:=fun f=>⟨f.lk.trans hlk,Nat.le_trans hln f.lens,fun l hl=>
      (f.same l (by rw[hlk];exact List.mem_append_left _ hl) (Nat.lt_of_lt_of_le (wk.lks l hl) hln)).trans (lt.lck l hl)⟩
     cases b with
     | false =>
       simp only[Bool.false_eq_true,if_false] at w3⊢
       obtain⟨k1,k2,k3⟩:=keep f3
       exact⟨hlt,δ2,ι3,S3,acc,vs,hs4,⟨(lt.ext.trans x2).trans x3,hh3,k3⟩,k1,k2,hpn3,hp3,(ra.ext x2).ext x3,w3⟩
     | true =>
       simp only[if_true] at w3⊢
       rw[zaa] at w3
       refine tE.run hs4 hh3 (zar hcf e δ2 S3 _ w3) fun z v ι4 H4 S4 x4 hs5 hh4 rz w4=>?_
       obtain⟨w4,f4⟩:=w4
       obtain⟨k1,k2,k3⟩:=keep (f3.trans f4)
       have hp4:=x4.keep hpn3 hp3 (by simp)
       have hpn4:=(x4.rest p _ hpn3 hp3).2
       rw[zaa] at w4
       have ra4:=((ra.ext x2).ext x3).ext x4
       have hlen:acc.length<16777216:=by
        obtain⟨rest,S5,_,w5⟩:=zhw w4
        have:=w5.1
        simp at this
        omega
       refine⟨vs,hp4,by rw[ra4.length,sizeLine_eq];exact hlen,hlt,δ2,ι4,S4,acc++[z],vs++[v],hs5.up (List.prefix_refl _) (Kp.tmp hp4),⟨(((lt.ext.trans x2).trans x3).trans x4).tmp hp hp4,hh4.tmp hpn4 hp4,k3⟩,k1,k2,hpn4,zak,?_,?_⟩
       · exact (RVs.append (es:=[z]) (us:=[v]) ra4 ⟨v,[],rfl,rz,rfl⟩).up (List.prefix_refl _) (Kp.tmp hp4)
       · refine w4.mono fun rest S5 w5=>?_
         simp only[W_ok] at w5
         simpa using w5
 · refine .inl ⟨wk.stop _ ι' H' S' lt (Nat.le_refl _),?_⟩
   rw[List.drop_length] at wt
   simp only[zaX,W_ok,List.append_nil] at wt
   exact q _ _ ⟨acc,ι',{S' with lk:=S1.lk},p,vs,x1.trans lt.ext,rfl,ra,hpn,hpv,lt.rh.lk _,zhs hh1 x1 hp,wt.2⟩
end
end R
end
section
namespace R
open PySem PySem.Spec PyProof.Rows L2
variable [Mks]
section
variable {T:Tab} {cf:CF} {k:Nat} {N:List Str} {sc:Scope} {X:Cx} {pos p:Pos} {tg:Expr}
noncomputable def Ite (K:PySem.W.Frag)(a:Addr):It:=
 ⟨fun i H => ∃ xs x, SqL K H a xs ∧ xs[i]? = some x,
  fun i H v H'=>∃T x,H T=none/\v=.ref T/\H'=upd H T (.tup [.int i,x])/\∀xs,SqL K H a xs->xs[i]?=some x,
  fun i H=>∃xs,SqL K H a xs/\xs.length<=i⟩
theorem zgd {P:Program}{w:World}{K:PySem.W.Frag}{es:List Expr}{j:Nat}{pt:Pos}{e it a:Addr}(hne:e≠it):Turn P w K (.Tuple es j pt) (Ite K a) [e,it] e
  (fun i h=>(∃old,IsEnum h e it i old)/\h.IsListIter it a i) where
 mem:=by simp
 obj:=fun i h st c hc=>by
  obtain⟨⟨old,h1⟩,⟨o4,h4,_,d4⟩⟩:=st
  simp only[List.mem_cons,List.not_mem_nil,or_false] at hc
  rcases hc with rfl|rfl
  · exact⟨_,h1,fun v z=>by cases z⟩
  · exact⟨_,h4,fun v z=>by rw[d4] at z;cases z⟩
 keep:=fun i h h' st k=>by
  obtain⟨⟨old,h1⟩,h4⟩:=st
  exact⟨⟨old,k e (by simp) _ h1⟩,h4.at fun o x=>k it (by simp) o x⟩
 item:=by
  intro X hP hw hK hc i pins s σ H E I hf st hg
  subst hP hw hK
  obtain⟨xs,x,hq,hx⟩:=hg
  obtain⟨xv,rx,px,_⟩:=I.list hq
  obtain⟨u,hu,ru⟩:=rx.get hx
  obtain⟨⟨old,he⟩,h1⟩:=st
  refine wpAny_pyNext_enum_item he h1 px.isList (x:=u) (by simpa using hu) hne fun h' a1 a3 a5 a6 hk=>?_
  have hn:H s.heap.objs.size=none:=I.hok.fresh (Nat.le_refl _)
  have I1:Inv X pins σ (upd H s.heap.objs.size (.tup [.int i,x])) {s with heap:=s.heap.push {cls:=.type "tuple",data:=.seq #[.int i s.toks,u]},toks:=s.toks+1}:=
   I.laid (t':=s.toks+1) (fun b u e=>Heap.get?_push_of_some _ e) (Nat.le_refl _) ⟨by rw[sizeLine_eq];simp,[.int i s.toks,u],.cons ⟨_,rfl⟩ (.cons ru .nil),⟨_,Heap.get?_push_size _ rfl,rfl,_,rfl⟩⟩
  have lt:∀{c o},s.heap.get? c=some o->c≠s.heap.objs.size:=fun e=>Nat.ne_of_lt (Heap.lt_size e)
  have nf:∀c∈[e,it],c≠s.heap.objs.size:=by
   intro c hc
   simp only[List.mem_cons,List.not_mem_nil,or_false] at hc
   rcases hc with rfl|rfl
   · exact lt he
   · obtain⟨o,z,_⟩:=h1;exact lt z
  have hf1:∀c∈[e,it],FpOk X pins (upd H s.heap.objs.size (.tup [.int i,x])) c:=fun c hc=>by
   obtain⟨f0,f⟩:=hf c hc
   exact⟨by rw[zah (nf c hc)];exact f0,f⟩
  have two:∀{c:Addr},¬c∈[e,it]->c≠e/\c≠it:=fun {c} hc=>by
   simp only[List.mem_cons,List.not_mem_nil,or_false,not_or] at hc
   exact hc
  have k2:∀c o,¬c∈[e,it]->(s.heap.push {cls:=.type "tuple",data:=.seq #[.int i s.toks,u]}).get? c=some o->h'.get? c=some o:=fun c o hc z=>by
   by_cases hs:c=s.heap.objs.size
   · subst hs
     have e2:(s.heap.push {cls:=.type "tuple",data:=.seq #[.int i s.toks,u]}).get? s.heap.objs.size=_:=Heap.get?_push_size _ rfl
     rw[e2] at z
     cases z
     exact a5
   · exact hk c o (two hc).1 (two hc).2 ((Heap.get?_push_ne _ _ _ hs).symm.trans z)
  have I2:Inv X pins σ (upd H s.heap.objs.size (.tup [.int i,x])) {s with heap:=h',toks:=s.toks+1}:=zaS (s:={s with heap:=s.heap.push {cls:=.type "tuple",data:=.seq #[.int i s.toks,u]},toks:=s.toks+1}) (h':=h') (t':=s.toks+1) I1 k2 hf1
  refine⟨_,rfl,?_⟩
  refine wpAny_letOwnedTupleGo_enum a1 fun h2' hz' hs'=>?_
  refine⟨.ref s.heap.objs.size,upd H s.heap.objs.size (.tup [.int i,x]),zaS (t':=s.toks+1) I2 (fun c o hc z=>hs'.extBut _ _ (two hc).1 z) hf1,rfl,⟨_,x,hn,rfl,rfl,fun xs' hx'=>by rw[I.list_inj hx' hq];exact hx⟩,
   ⟨⟨_,hz'⟩,a3.extBut hs'.extBut (Ne.symm hne)⟩,fun c hc=>(hf1 c hc).1⟩
 done:=by
  intro X hP hw hK hc i pins s σ H E I hf st hg
  subst hP hw hK
  obtain⟨xs,hq,hl⟩:=hg
  obtain⟨xv,rx,px,_⟩:=I.list hq
  obtain⟨⟨old,he⟩,h1⟩:=st
  have l1:=rx.length
  refine wpAny_pyNext_enum_end (I.ok.hd hc) he h1 px.isList (by simp;omega) fun h' hk=>⟨rfl,zaS (t':=s.toks) I (fun c o hc z=>hk c o (fun q=>hc (by simp[q])) z) hf⟩
 self:=fun _ _ _ _ _ st h=>wpAny_pyIter_enum st.1.choose_spec h
theorem zjg {K:PySem.W.Frag}{ι:List Addr}{H:Hp}{S:R.St}{a:Addr}{l:Nat}{ds:List D}(hl:S.get l=some (.lst ds))(ha:ι[l]?=some a):Wk K (Ite K a) (ds.mapIdx fun i d=>zcr (.int i) d) [l] ι H S:=by
 have get:∀{ι2 H2 S2},Ltr K ι H S [l] ι2 H2 S2->∃xs,SqL K H2 a xs/\RVs K ι2 H2 ds xs:=fun {ι2 H2 S2} lt=>by
  obtain⟨a',h2,xs,hx,rx⟩:=lt.rh.obj l (.lst ds) ((lt.lck l (by simp)).trans hl)
  rw[zbX lt.ext.pre ha] at h2;cases h2
  exact⟨xs,SqL.of hx,rx⟩
 refine⟨fun i ι2 H2 S2 lt hi=>?_,fun i ι2 H2 S2 x H' lt hi y=>?_,fun i ι2 H2 S2 lt hi=>?_,fun k hk=>?_⟩
 · obtain⟨xs,hx,rx⟩:=get lt
   rw[List.length_mapIdx] at hi
   have h1:=rx.length
   exact⟨xs,xs[i]'(by omega),hx,List.getElem?_eq_getElem _⟩
 · obtain⟨xs,hx,rx⟩:=get lt
   obtain⟨T,u,hT,rfl,rfl,y1⟩:=y
   obtain⟨d,ed,rd⟩:=rx.get' (y1 xs hx)
   have x2:Ext ι2 H2 ι2 (upd H2 T (.tup [.int i,u])):=Ext.new hT _
   refine⟨x2,lt.rh.new hT _,zcr (.int i) d,by rw[List.getElem?_mapIdx,ed];rfl,?_⟩
   exact⟨T,[.int i,u],rfl,zak,.int i,[u],rfl,rfl,u,[],rfl,rd.ext x2,rfl⟩
 · obtain⟨xs,hx,rx⟩:=get lt
   rw[List.length_mapIdx] at hi
   have h1:=rx.length
   exact⟨xs,hx,by omega⟩
 · cases List.mem_singleton.mp hk
   exact zaw hl
end
end R
end
section
set_option maxHeartbeats 4000000
namespace R
open PySem PySem.Spec PyProof.Rows L2
open AutoSeq1 (wpAny_loadPart')
section
variable {prog:Program} {w:World} {A:Around} {E:Value->Shared->Prop} {s:Shared}
theorem zfL {it t:Addr}{i:Nat}{items:Array Value}{x:Value}{Q:Value->Shared->Prop}(hit:s.heap.IsTupleIter it t i)(ht:s.heap.IsTuple t items)(hx:items[i]?=some x)
  (hQ:∀h',h'.IsTupleIter it t (i+1)->Heap.SameBut it s.heap h'->Q x {s with heap:=h'}):wpAny (model prog w) A (Builtin.SmallTypes.nextOf (.ref it)) Q E s:=by
 obtain⟨o,ho,hc,hd⟩:=id hit
 obtain⟨ol,hol,_,nl,hdl⟩:=ht
 unfold Builtin.SmallTypes.nextOf
 refine wpAny_bind (wpAny_callSpecial?_slot (name:=Str.ofString "__next__") hit.typeIs PySem.F.slot_tuple_iterator_next
  (wpAny_call_entry PySem.F.slot_tuple_iterator_next hit.typeIs PySem.F.entry_tuple_iterator_next ?_ (PySem.F.args_tuple_iterator_next_1 _)))
 show wpAny _ _ (field (.ref it) 0 >>= _) _ _ s
 refine wpAny_bind (wpAny_field ho hd (x:=.ref t) rfl ?_)
 show wpAny _ _ (if (Value.ref t == Value.none)=true then _ else _) _ _ s
 rw[if_neg (show ¬((Value.ref t == Value.none)=true) from Bool.false_ne_true)]
 show wpAny _ _ (field (.ref it) 1 >>= _) _ _ s
 refine wpAny_bind (wpAny_field ho hd (x:=.int i 0) rfl ?_)
 show wpAny _ _ (seqItems? (.ref t) >>= _) _ _ s
 refine wpAny_bind (wpAny_seqItems hol hdl ?_)
 simp only[Int.toNat_natCast,hx]
 refine wpAny_bind (wpAny_setField ho hd (by simp) (wpAny_pure ⟨x,rfl,wpAny_pure (hQ _ ?_ (Heap.SameBut.update ..))⟩))
 exact⟨_,Heap.get?_update_self _ ho (Obj.isFreed_of_fields (Obj.data_mapFields hd _)),(Obj.cls_mapFields ..).trans hc,by
  rw[Obj.data_mapFields hd];simp[rawInt]⟩
theorem zdQ {it t:Addr}{i:Nat}{items:Array Value}{Q:Value->Shared->Prop}(hh:A.handled=none)(hit:s.heap.IsTupleIter it t i)(ht:s.heap.IsTuple t items)(hx:items[i]?=none)
  (hE:∀h' e,Heap.ExtBut it s.heap h'->(∃o,h'.get? e=some o/\o.cls=.type "StopIteration")->E (.ref e) {s with heap:=h'}):wpAny (model prog w) A (Builtin.SmallTypes.nextOf (.ref it)) Q E s:=by
 obtain⟨o,ho,hc,hd⟩:=id hit
 obtain⟨ol,hol,_,nl,hdl⟩:=ht
 unfold Builtin.SmallTypes.nextOf
 refine wpAny_bind (wpAny_callSpecial?_slot (name:=Str.ofString "__next__") hit.typeIs PySem.F.slot_tuple_iterator_next
  (wpAny_call_entry PySem.F.slot_tuple_iterator_next hit.typeIs PySem.F.entry_tuple_iterator_next ?_ (PySem.F.args_tuple_iterator_next_1 _)))
 show wpAny _ _ (field (.ref it) 0 >>= _) _ _ s
 refine wpAny_bind (wpAny_field ho hd (x:=.ref t) rfl ?_)
 show wpAny _ _ (if (Value.ref t == Value.none)=true then _ else _) _ _ s
 rw[if_neg (show ¬((Value.ref t == Value.none)=true) from Bool.false_ne_true)]
 show wpAny _ _ (field (.ref it) 1 >>= _) _ _ s
 refine wpAny_bind (wpAny_field ho hd (x:=.int i 0) rfl ?_)
 show wpAny _ _ (seqItems? (.ref t) >>= _) _ _ s
 refine wpAny_bind (wpAny_seqItems hol hdl ?_)
 simp only[Int.toNat_natCast,hx]
 first|refine wpAny_bind (wpAny_rule (wpAny_bind (wpAny_setField ho hd (by simp) ?_)))|refine wpAny_bind (wpAny_setField ho hd (by simp) ?_)
 show wpAny _ _ (newExc (.type "StopIteration") [] >>= _) _ _ _
 refine wpAny_bind ?_
 simp only[newExc,newTuple]
 refine wpAny_bind (wpAny_newObj_type ?_ (by size_fits))
 refine wpAny_bind (m:=firstArgMember _ _) (wpAny_of_eq (a:=Value.none) (by first|rfl|(simp only[firstArgMember];rfl)) ?_)
 refine wpAny_newObj_type ?_ (by size_fits)
 simp only[raiseNew]
 refine wpAny_bind (wpAny_handled ?_)
 first|rw[show A.in1.handled=none from hh]|rw[hh]
 refine wpAny_bind (wpAny_pure (wpAny_throw ?_))
 exact hE _ _ (((Heap.SameBut.update ..).extBut.push _).push _) ⟨_,Heap.get?_push_size _ rfl,rfl⟩
end
theorem zhd {prog:Program}{w:World}{A:Around}{E:Value->Shared->Prop}{s:Shared}{e it t:Addr}{i:Nat}{items:Array Value}{old:Value}{Q:Option Value->Shared->Prop}(hh:A.handled=none)(he:IsEnum s.heap e it i old)(hit:s.heap.IsTupleIter it t i)(ht:s.heap.IsTuple t items)(hx:items[i]?=none)
  (hQ:∀h',Heap.ExtBut it s.heap h'->Q none {s with heap:=h'}):wpAny (model prog w) A (pyNext (.ref e)) Q E s:=by
 have hT:s.TypeIs (.ref e) "enumerate":=⟨_,he,rfl⟩
 unfold pyNext
 refine wpAny_bind (wpAny_attempt (wpAny_callSpecial?_slot (name:=Str.ofString "__next__") hT PySem.F.slot_enumerate_next
  (wpAny_call_entry PySem.F.slot_enumerate_next hT PySem.F.entry_enumerate_next ?_ (PySem.F.args_enumerate_next_1 _))))
 show wpAny _ _ (field (.ref e) 2 >>= _) _ _ _
 refine wpAny_bind (wpAny_field he rfl (x:=.ref it) rfl ?_)
 refine wpAny_bind (zdQ hh hit ht hx fun h' x he' hx'=>?_)
 obtain⟨o,ho,hc⟩:=hx'
 refine wpAny_bind (wpAny_isInstance (T:="StopIteration") (b:=true) ⟨o,ho,hc⟩ isSubtype_stop ?_)
 exact wpAny_pure (hQ _ he')
theorem zmF {prog:Program}{w:World}{A:Around}(hh:A.handled=none)(it l:Addr)(hne:l≠it)(items:Array Value) :
  Draws prog w A it [it,l] items.size (fun i v=>items[i]?=some v) (fun i h=>h.IsTupleIter it l i/\h.IsTuple l items) where
 live:=fun _ _ st=>let ⟨o,ho,_⟩:=st.1;⟨o,ho⟩
 frame:=fun _ _ _ st hk=>⟨let ⟨o,ho,r⟩:=st.1;⟨o,hk it (by simp) o ho,r⟩,let ⟨o,ho,r⟩:=st.2;⟨o,hk l (by simp) o ho,r⟩⟩
 item:=fun i s Q E hi st hQ=>by
  refine zfL st.1 st.2 (x:=items[i]) (by simp[hi]) fun h' hit' hs'=>?_
  exact hQ _ h' s.toks (by simp[hi]) ⟨hit',st.2.extBut hs'.extBut hne⟩ hs'
 done:=fun s Q E st hE=>zdQ hh st.1 st.2 (by simp) hE
theorem zhc (l:Addr)(items:Array Value)(n:Nat)(dct:Option Addr)(sl:Array (Option Value)) :
  Meets (Builtin.«enumerate.__new__» ⟨[.type "enumerate",.ref l],[]⟩) (fun _ R s=>s.heap.get? l=some {cls:=.type "tuple",dict:=dct,data:=.seq items n,slots:=sl}/\
   R (.ok (.ret (.ref (s.heap.push {cls:=.type "tuple_iterator",data:=.fields #[.ref l,.int 0 0]}).objs.size)))
    {s with heap:=(s.heap.push {cls:=.type "tuple_iterator",data:=.fields #[.ref l,.int 0 0]}).push {cls:=.type "enumerate",data:=.fields #[.none,.bool false,.ref s.heap.objs.size,rawInt 0,.none,.none]}}):=
 .of_wp fun prog w A R s h=>by
  obtain⟨hp,g,d,tk,os⟩:=s;obtain⟨hl,h⟩:=h
  have hsub:=sub_enumerate
  have hL:Heap.IsTuple (Shared.heap ⟨hp,g,d,tk,os⟩) l items:=⟨_,hl,rfl,n,rfl⟩
  wp_walk using wpAny_loadPart' hl
  refine wpAny_stack_any fun st=>wpAny_pure ?_
  split
  · rename_i c _ _ _ _ _
    cases (c == Value.type "enumerate")
    · wp_walk using wpAny_loadPart' hl,wpAny_pyIter_tuple hL
      exact⟨_,rfl,h⟩
    · wp_walk using wpAny_loadPart' hl,wpAny_pyIter_tuple hL
      exact⟨_,rfl,h⟩
  · wp_walk using wpAny_loadPart' hl,wpAny_pyIter_tuple hL
    exact⟨_,rfl,h⟩
theorem zf0 {prog:Program}{w:World}{A:Around}{E:Value->Shared->Prop}{s:Shared}{l:Addr}{items:Array Value}{Q:Value->Shared->Prop}(hL:s.heap.IsTuple l items)
  (h:∀h',IsEnum h' (s.heap.objs.size+1) s.heap.objs.size 0 .none->h'.IsTupleIter s.heap.objs.size l 0->h'.objs.size=s.heap.objs.size+2->
   (∀b o,s.heap.get? b=some o->h'.get? b=some o)->Q (.ref (s.heap.objs.size+1)) {s with heap:=h'}) :
  wpAny (model prog w) A (call (.type "enumerate") [.ref l]) Q E s:=by
 obtain⟨⟨c,dct,dt,sl⟩,hl,hc,n,hd⟩:=hL
 replace hc:c=.type "tuple":=hc
 replace hd:dt=.seq items n:=hd
 subst hc hd
 refine callType_new PySem.F.called_enumerate (by decide) (PySem.F.typeCall_enumerate_1 _) (PySem.F.newCall_enumerate_1 _) (fun obj=>PySem.F.args_object_init_2 obj _) PySem.F.entry_enumerate_new
  (zhc l items n dct sl) ⟨hl,?_⟩
 have hz:(s.heap.push {cls:=.type "tuple_iterator",data:=.fields #[.ref l,.int 0 0]}).objs.size=s.heap.objs.size+1:=Heap.size_push ..
 show _/\_
 rw[hz]
 have he:IsEnum ((s.heap.push {cls:=.type "tuple_iterator",data:=.fields #[.ref l,.int 0 0]}).push
   {cls:=.type "enumerate",data:=.fields #[.none,.bool false,.ref s.heap.objs.size,rawInt 0,.none,.none]}) (s.heap.objs.size+1) s.heap.objs.size 0 .none:=by
  have:=Heap.get?_push_size (s.heap.push {cls:=.type "tuple_iterator",data:=.fields #[.ref l,.int 0 0]})
   (o:={cls:=.type "enumerate",data:=.fields #[.none,.bool false,.ref s.heap.objs.size,rawInt 0,.none,.none]}) rfl
  rw[hz] at this;exact this
 refine⟨⟨_,he,rfl⟩,h _ he ⟨_,Heap.get?_push_of_some _ (Heap.get?_push_size _ rfl),rfl,rfl⟩ (by rw[Heap.size_push,hz]) fun b o x=>Heap.get?_push_of_some _ (Heap.get?_push_of_some _ x)⟩
variable [Mks]
section
variable {T:Tab} {cf:CF} {k:Nat} {N:List Str} {sc:Scope} {X:Cx} {pos p:Pos} {tg:Expr}
noncomputable def IteT (K:PySem.W.Frag)(a:Addr):It:=
 ⟨fun i H => ∃ xs x, SqT K H a xs ∧ xs[i]? = some x,
  fun i H v H'=>∃T x,H T=none/\v=.ref T/\H'=upd H T (.tup [.int i,x])/\∀xs,SqT K H a xs->xs[i]?=some x,
  fun i H=>∃xs,SqT K H a xs/\xs.length<=i⟩
theorem zfA {P:Program}{w:World}{K:PySem.W.Frag}{es:List Expr}{j:Nat}{pt:Pos}{e it a:Addr}(hne:e≠it)(hai:a≠it)(hae:a≠e):Turn P w K (.Tuple es j pt) (IteT K a) [e,it] e
  (fun i h=>(∃old,IsEnum h e it i old)/\h.IsTupleIter it a i) where
 mem:=by simp
 obj:=fun i h st c hc=>by
  obtain⟨⟨old,h1⟩,⟨o4,h4,_,d4⟩⟩:=st
  simp only[List.mem_cons,List.not_mem_nil,or_false] at hc
  rcases hc with rfl|rfl
  · exact⟨_,h1,fun v z=>by cases z⟩
  · exact⟨_,h4,fun v z=>by rw[d4] at z;cases z⟩
 keep:=fun i h h' st k=>by
  obtain⟨⟨old,h1⟩,⟨o,h4,r⟩⟩:=st
  exact⟨⟨old,k e (by simp) _ h1⟩,⟨o,k it (by simp) o h4,r⟩⟩
 item:=by
  intro X hP hw hK hc i pins s σ H E I hf st hg
  subst hP hw hK
  obtain⟨xs,x,hq,hx⟩:=hg
  obtain⟨xv,rx,px,_⟩:=I.tuple hq
  obtain⟨u,hu,ru⟩:=rx.get hx
  obtain⟨⟨old,he⟩,h1⟩:=st
  have hlt:i<xv.length:=(List.getElem?_eq_some_iff.mp hu).1
  refine wpAny_pyNext_enum_itemD (n:=xv.toArray.size) (zmF (A:=X.A.in1) (I.ok.hd hc) it a hai xv.toArray) he ⟨h1,px⟩ (by simpa using hlt) hne (by simp[hne,Ne.symm hae]) fun x' h' tk0 hx' a1 a3 a5 a6 hk=>?_
  have ex:x'=u:=by
   have hu':xv.toArray[i]?=some u:=by simpa using hu
   rw[hu'] at hx';exact (Option.some.inj hx').symm
  subst ex
  have hn:H s.heap.objs.size=none:=I.hok.fresh (Nat.le_refl _)
  have I1:Inv X pins σ (upd H s.heap.objs.size (.tup [.int i,x])) {s with heap:=s.heap.push {cls:=.type "tuple",data:=.seq #[.int i tk0,x']},toks:=tk0+1}:=
   I.laid (t':=tk0+1) (fun b u e=>Heap.get?_push_of_some _ e) (Nat.le_refl _) ⟨by rw[sizeLine_eq];simp,[.int i tk0,x'],.cons ⟨_,rfl⟩ (.cons ru .nil),⟨_,Heap.get?_push_size _ rfl,rfl,_,rfl⟩⟩
  have lt:∀{c o},s.heap.get? c=some o->c≠s.heap.objs.size:=fun e=>Nat.ne_of_lt (Heap.lt_size e)
  have nf:∀c∈[e,it],c≠s.heap.objs.size:=by
   intro c hc
   simp only[List.mem_cons,List.not_mem_nil,or_false] at hc
   rcases hc with rfl|rfl
   · exact lt he
   · obtain⟨o,z,_⟩:=h1;exact lt z
  have hf1:∀c∈[e,it],FpOk X pins (upd H s.heap.objs.size (.tup [.int i,x])) c:=fun c hc=>by
   obtain⟨f0,f⟩:=hf c hc
   exact⟨by rw[zah (nf c hc)];exact f0,f⟩
  have two:∀{c:Addr},¬c∈[e,it]->c≠e/\c≠it:=fun {c} hc=>by
   simp only[List.mem_cons,List.not_mem_nil,or_false,not_or] at hc
   exact hc
  have k2:∀c o,¬c∈[e,it]->(s.heap.push {cls:=.type "tuple",data:=.seq #[.int i tk0,x']}).get? c=some o->h'.get? c=some o:=fun c o hc z=>by
   by_cases hs:c=s.heap.objs.size
   · subst hs
     have e2:(s.heap.push {cls:=.type "tuple",data:=.seq #[.int i tk0,x']}).get? s.heap.objs.size=_:=Heap.get?_push_size _ rfl
     rw[e2] at z
     cases z
     exact a5
   · exact hk c o (two hc).1 (two hc).2 ((Heap.get?_push_ne _ _ _ hs).symm.trans z)
  have I2:Inv X pins σ (upd H s.heap.objs.size (.tup [.int i,x])) {s with heap:=h',toks:=tk0+1}:=zaS (s:={s with heap:=s.heap.push {cls:=.type "tuple",data:=.seq #[.int i tk0,x']},toks:=tk0+1}) (h':=h') (t':=tk0+1) I1 k2 hf1
  refine⟨_,rfl,?_⟩
  refine wpAny_letOwnedTupleGo_enum a1 fun h2' hz' hs'=>?_
  refine⟨.ref s.heap.objs.size,upd H s.heap.objs.size (.tup [.int i,x]),zaS (t':=tk0+1) I2 (fun c o hc z=>hs'.extBut _ _ (two hc).1 z) hf1,rfl,⟨_,x,hn,rfl,rfl,fun xs' hx'=>by rw[I.tuple_inj hx' hq];exact hx⟩,
   ⟨⟨_,hz'⟩,(let ⟨o,ho,r⟩:=a3.1;⟨o,hs'.extBut _ _ (Ne.symm hne) ho,r⟩)⟩,fun c hc=>(hf1 c hc).1⟩
 done:=by
  intro X hP hw hK hc i pins s σ H E I hf st hg
  subst hP hw hK
  obtain⟨xs,hq,hl⟩:=hg
  obtain⟨xv,rx,px,_⟩:=I.tuple hq
  obtain⟨⟨old,he⟩,h1⟩:=st
  have l1:=rx.length
  refine zhd (I.ok.hd hc) he h1 px (by simp;omega) fun h' hk=>⟨rfl,zaS (t':=s.toks) I (fun c o hc z=>hk c o (fun q=>hc (by simp[q])) z) hf⟩
 self:=fun _ _ _ _ _ st h=>wpAny_pyIter_enum st.1.choose_spec h
noncomputable def zmw (K:PySem.W.Frag)(t:TA):TI:=fun σ H R=>t σ H fun vs H1=>∃a xs,vs=[.ref a]/\((SqL K H1 a xs/\R (Ite K a) H1)\/(SqT K H1 a xs/\R (IteT K a) H1))
theorem zhZ {a:Expr}{ta:TA}{p pos pt:Pos}{es:List Expr}{j:Nat}(hg:Gl X "enumerate")(hm:X.mg "enumerate"=none)(ha:PA X [a] ta)(hs:starEach [a] X.env=[(false,eval a X.env)]) :
  PI X (.Tuple es j pt) (.Call (.Name "enumerate" p) [a] [] pos) (zmw X.K ta):=by
 intro pins s σ H R I h
 refine Call_ (zdV I hg hm boot_enumerate (PyProof.Rows.callWith_type1 (thn (ha pos pins s σ H _ I h) fun us s1 ⟨vs,H1,I1,r1,q1⟩=>?_) hs rfl))
 obtain⟨l,xs,e,q1⟩:=q1
 subst e
 cases r1 with
 | cons r rr =>
   cases rr
   cases r
   rcases q1 with ⟨q1,q⟩|⟨q1,q⟩
   · obtain⟨xv,rx,px,_⟩:=I1.list q1
     refine call_enumerate_list px.isList fun h' he hi hsz hk=>?_
     refine wpAny_pyIter_enum he ?_
     refine⟨_,_,_,_,H1,rfl,I1.kept (t':=s1.toks) hk,zgd (Nat.succ_ne_self _),⟨⟨_,he⟩,hi⟩,fun c hc=>?_,q⟩
     simp only[List.mem_cons,List.not_mem_nil,or_false] at hc
     have:s1.heap.objs.size<=c:=by
      rcases hc with rfl|rfl
      · exact Nat.le_succ _
      · exact Nat.le_refl _
     exact I1.fpOk this (I1.hok.fresh this)
   · obtain⟨xv,rx,px,_⟩:=I1.tuple q1
     have hlt:l<s1.heap.objs.size:=px.lt
     refine zf0 (show s1.heap.IsTuple l xv.toArray from px) fun h' he hi hsz hk=>?_
     refine wpAny_pyIter_enum he ?_
     refine⟨_,_,_,_,H1,rfl,I1.kept (t':=s1.toks) hk,zfA (Nat.succ_ne_self _) (Nat.ne_of_lt hlt) (Nat.ne_of_lt (Nat.lt_succ_of_lt hlt)),⟨⟨_,he⟩,hi⟩,fun c hc=>?_,q⟩
     simp only[List.mem_cons,List.not_mem_nil,or_false] at hc
     have:s1.heap.objs.size<=c:=by
      rcases hc with rfl|rfl
      · exact Nat.le_succ _
      · exact Nat.le_refl _
     exact I1.fpOk this (I1.hok.fresh this)
theorem zhB {K:PySem.W.Frag}{ι:List Addr}{H:Hp}{S:R.St}{a:Addr}{ds:List D}{xs:List V}(ha:H a=some (.tup xs))(rx:RVs K ι H ds xs):Wk K (IteT K a) (ds.mapIdx fun i d=>zcr (.int i) d) [] ι H S:=by
 have get:∀{ι2 H2 S2},Ltr K ι H S [] ι2 H2 S2->SqT K H2 a xs/\RVs K ι2 H2 ds xs:=fun {ι2 H2 S2} lt=>⟨SqT.of (lt.ext.kp.tups _ _ ha),rx.ext lt.ext⟩
 refine⟨fun i ι2 H2 S2 lt hi=>?_,fun i ι2 H2 S2 x H' lt hi y=>?_,fun i ι2 H2 S2 lt hi=>?_,fun k hk=>by cases hk⟩
 · obtain⟨hx,rx⟩:=get lt
   rw[List.length_mapIdx] at hi
   have h1:=rx.length
   exact⟨xs,xs[i]'(by omega),hx,List.getElem?_eq_getElem _⟩
 · obtain⟨hx,rx⟩:=get lt
   obtain⟨T,u,hT,rfl,rfl,y1⟩:=y
   obtain⟨d,ed,rd⟩:=rx.get' (y1 xs hx)
   have x2:Ext ι2 H2 ι2 (upd H2 T (.tup [.int i,u])):=Ext.new hT _
   refine⟨x2,lt.rh.new hT _,zcr (.int i) d,by rw[List.getElem?_mapIdx,ed];rfl,?_⟩
   exact⟨T,[.int i,u],rfl,zak,.int i,[u],rfl,rfl,u,[],rfl,rd.ext x2,rfl⟩
 · obtain⟨hx,rx⟩:=get lt
   rw[List.length_mapIdx] at hi
   have h1:=rx.length
   exact⟨xs,hx,by omega⟩
theorem zfW {S:R.St}{x:D}{r:List D × List Nat}(h:zcB S x=some r):(∃l ds,x=.ref l/\S.get l=some (.lst ds)/\r=(ds.mapIdx fun i d=>zcr (.int i) d,[l]))\/∃ds,x=.tup ds/\r=(ds.mapIdx fun i d=>zcr (.int i) d,[]):=by
 unfold zcB at h
 cases x with
 | ref l =>
   dsimp only at h
   cases e:S.get l with
   |none=>rw[e] at h;cases h
   | some o =>
     rw[e] at h
     cases o with
     |lst ds=>cases h;exact .inl ⟨l,ds,rfl,e,rfl⟩
     |_=>cases h
 |tup ds=>cases h;exact .inr ⟨ds,rfl,rfl⟩
 |_=>cases h
theorem zjw {ca:CE}{a:Expr}{es:List Expr}{j:Nat}{pt:Pos}(hg:Gl X "enumerate"/\X.mg "enumerate"=none)(ha:PE X a (tE X.K cf ca))(hst:zam a=true):PI X (.Tuple es j pt) (.Call (.Name "enumerate" p) [a] [] pos) (tI X.K cf (.enum ca)):=by
 refine PI.imp (zhZ hg.1 hg.2 (zbC ha hst) (zal hst [] X.env)) fun σ H R ⟨δ,ι,S,Q,hs,hh,w,q⟩=>?_
 simp only[evL,zaa] at w
 refine tE.run hs hh w fun d v ι1 H1 S1 x1 hs1 hh1 r1 w1=>?_
 obtain⟨r,ez,w3⟩:=zaC w1
 rcases zfW ez with ⟨l,ds,rfl,hl,rfl⟩|⟨ds,rfl,rfl⟩
 · obtain⟨a,ea,rfl⟩:=r1
   obtain⟨a',h2,xs,hx,rx⟩:=hh1.obj l _ hl
   rw[ea] at h2;cases h2
   exact⟨a,xs,rfl,.inl ⟨SqL.of hx,q _ _ ⟨_,_,ι1,S1,x1,hh1,w3,zjg hl ea⟩⟩⟩
 · obtain⟨a,xs,rfl,hx,rx⟩:=r1
   exact⟨a,xs,rfl,.inr ⟨SqT.of hx,q _ _ ⟨_,_,ι1,S1,x1,hh1,w3,zhB hx rx⟩⟩⟩
end
end R
end
section
namespace R
open PySem PySem.Spec PyProof.Rows L2
variable [Mks]
section
variable {T:Tab} {cf:CF} {k:Nat} {N:List Str} {sc:Scope} {X:Cx} {pos p:Pos}
theorem zib {prog:Program}{w:World}{A:Around}{E:Value->Shared->Prop}{s:Shared}{env:Env}{o:Expr}{name:Str}{apos pos:Pos}{args:List Expr}{Q:Value->Shared->Prop}
  (hbase:attributeBase o name env (eval o env)=eval o env)
  (hfew:((backTo pos (starEach args env)).all (fun x=>!x.1)&&(backToKw pos (keywordEach [] env)).all (fun x=>x.1.isSome)
   && decide (args.length+([]:List Keyword).length+(if ([]:List Keyword).isEmpty then 0 else 1)<30))=true)
  (hline:(apos.endLine == pos.line)=true)
  (h:wpAny (model prog w) A (eval o env) (fun ov s₁=>∀pl,wpAny (model prog w) A (getMethod ov name pl) (fun fx s₂=>wpAny (model prog w) A (callWith pos fx.1 fx.2 (backTo pos (starEach args env)) (backToKw pos (keywordEach [] env))) Q E s₂) E s₁) E s) :
  wpAny (model prog w) A (eval (.Call (.Attribute o name apos) args [] pos) env) Q E s:=by
 rw[arm_eval_Call,hbase]
 refine wpAny_bind (wpAny_mono h (fun ov s₁ h₁=>?_) fun _ _ e=>e)
 refine wpAny_bind (wpAny_standAt ?_)
 have hform:methodCallForm (args.length+([]:List Keyword).length) (backTo pos (starEach args env)) (backToKw pos (keywordEach [] env))=true:=hfew
 have hpos:methodCallPos true o env apos pos=pure pos:=by unfold methodCallPos;simp[hline]
 unfold methodCall
 rw[hform]
 refine wpAny_bind (wpAny_holding (wpAny_mono (h₁ _) (fun fx s₂ h₂=>?_) fun _ _ e=>e))
 obtain⟨f,first⟩:=fx
 exact wpAny_bind (wpAny_of_eq hpos h₂)
theorem Vals.nons:∀j:Nat,Vals (List.replicate j .non) (List.replicate j Value.none)
 |0=>.nil
 |j+1=>.cons rfl (Vals.nons j)
theorem zmB {e:Expr}{es:List Expr}{env:Env}(hs:(e::es).all zam=true)(hn:(e::es).length<29):((backTo pos (starEach (e::es) env)).all (fun x=>!x.1)&&(backToKw pos (keywordEach [] env)).all (fun x=>x.1.isSome)
  && decide ((e::es).length+([]:List Keyword).length+(if ([]:List Keyword).isEmpty then 0 else 1)<30))=true:=by
 have h0:=za0 (pos:=pos) (env:=env) hs
 have h1:(backTo pos (starEach (e::es) env)).all (fun x=>!x.1)=true:=by
  rw[List.all_eq_true]
  intro x hx
  have:=List.any_eq_false.mp h0 x hx
  simpa using this
 have h2:decide ((e::es).length+([]:List Keyword).length+(if ([]:List Keyword).isEmpty then 0 else 1)<30)=true:=by
  rw[decide_eq_true_eq]
  show (e::es).length+0+0<30
  omega
 rw[h1,h2]
 rfl
end
end R
end
section
namespace R
open PySem PySem.Spec PyProof.Rows L2
variable [Mks]
noncomputable def LfS (X:Cx)(ι:List Addr)(H:Hp)(Q:Fl->R.St->Prop)(E:Ends):Prop:=∀f ι' H' S',Ext ι H ι' H'->RH X.K ι' H' S'->Q f S'->(match f with
 |.nx δ'=>∀σ',RS X.K ι' H' δ' σ'->E.nx σ' H'
 |.rt d=>∀v,RV X.K ι' H' d v->E.rt v H'
 |.ex d=>∀a σ' pins s',RV X.K ι' H' d (.ref a)->Inv X pins σ' H' s'->Fly X.s₀.heap.objs.size H' s'.heap a->X.xe (.ref a) s')
noncomputable def tS (X:Cx)(cf:CF)(cs:CS):TS:=fun E σ H=>∃δ ι S Q,RS X.K ι H δ σ/\RH X.K ι H S/\W (exS cf cs δ S) Q/\LfS X ι H Q E
theorem LfS.up {X:Cx}{ι ι1:List Addr}{H H1:Hp}{Q:Fl->R.St->Prop}{E:Ends}(h:LfS X ι H Q E)(x:Ext ι H ι1 H1):LfS X ι1 H1 Q E:=fun f ι' H' S' x' hh q=>h f ι' H' S' (x.trans x') hh q
theorem PSs.imp {X:Cx}{st:List Stmt}{t t':TS}(h:PSs X st t)(i:∀E σ H,t' E σ H->t E σ H):PSs X st t':=fun pins s σ H E I q=>h pins s σ H E I (i E σ H q)
section
variable {T:Tab} {cf:CF} {k:Nat} {N:List Str} {sc:Scope} {X:Cx} {pos p:Pos} {rest:List Stmt}
theorem zlc:PSs X [] (tS X cf .nil):=PSs.imp zbW fun E σ H ⟨δ,ι,S,Q,hs,hh,w,l⟩=>by
 simp only[exS,W_ok] at w
 exact l _ ι H S (Ext.refl _ _) hh w σ hs
theorem zle (G:Gd T cf k N sc X){i:Nat}{x:Str}{ce:CE}{e:Expr}{r:CS}(hi:N[i]?=some x)(hl:zcc sc x=true)(he:PE X e (tE X.K cf ce))(hc:zbh e=true)(hr:PSs X rest (tS X cf r)) :
  PSs X (.Assign [.Name x p] e pos::rest) (tS X cf (.asg i ce r)):=by
 refine PSs.imp (zas (ze4 (i:=i) (by rw[G.nm];exact G.nd) (by rw[G.nm];exact hi) (G.lc hl).1 he (zcj hc _ _ _) (G.lc hl).2) hr) fun E σ H ⟨δ,ι,S,Q,hs,hh,w,l⟩=>?_
 simp only[exS,zaa] at w
 refine tE.run hs hh w fun d v ι1 H1 S1 x1 hs1 hh1 r1 w1=>?_
 exact⟨δ.set i (some d),ι1,S1,Q,hs1.set r1 i,hh1,w1,l.up x1⟩
theorem zjt (G:Gd T cf k N sc X){i:Nat}{x:Str}{ce:CE}{e:Expr}{r:CS}(hi:N[i]?=some x)(hps:∃t,PS X (.Assign [.Name x p] e pos) (tAsg t (zg7 i))/\∀σ H Qv,tE X.K cf ce σ H Qv->t σ H Qv)(hr:PSs X rest (tS X cf r)) :
  PSs X (.Assign [.Name x p] e pos::rest) (tS X cf (.asg i ce r)):=by
 obtain⟨t,hp,ht⟩:=hps
 refine PSs.imp (zas hp hr) fun E σ H ⟨δ,ι,S,Q,hs,hh,w,l⟩=>?_
 simp only[exS,zaa] at w
 refine ht _ _ _ (tE.run hs hh w fun d v ι1 H1 S1 x1 hs1 hh1 r1 w1=>?_)
 exact⟨δ.set i (some d),ι1,S1,Q,hs1.set r1 i,hh1,w1,l.up x1⟩
theorem zjq {ce:CE}{e:Expr}{r:CS}(he:PE X e (tE X.K cf ce))(hc:zbh e=true)(hr:PSs X rest (tS X cf r)):PSs X (.Expr e pos::rest) (tS X cf (.expr ce r)):=by
 refine PSs.imp (zas (zew he (zcj hc _ _ _)) hr) fun E σ H ⟨δ,ι,S,Q,hs,hh,w,l⟩=>?_
 simp only[exS,zaa] at w
 refine tE.run hs hh w fun d v ι1 H1 S1 x1 hs1 hh1 r1 w1=>?_
 exact⟨δ,ι1,S1,Q,hs1,hh1,w1,l.up x1⟩
theorem zlb {ce:CE}{e:Expr}{r:CS}(he:PE X e (tE X.K cf ce))(hr:PSs X rest (tS X cf r)):PSs X (.Return (some e) pos::rest) (tS X cf (.ret ce r)):=by
 refine PSs.imp (zas (zlJ he) hr) fun E σ H ⟨δ,ι,S,Q,hs,hh,w,l⟩=>?_
 simp only[exS,zaa,W_ok] at w
 refine tE.run hs hh w fun d v ι1 H1 S1 x1 hs1 hh1 r1 w1=>?_
 exact l _ _ _ _ x1 hh1 w1 v r1
theorem zni {cc:CE}{c:Expr}{a b:List Stmt}{ca cb r:CS}(hc:PT X c (tT X.K cf cc))(ha:PSs X a (tS X cf ca))(hb:PSs X b (tS X cf cb))(hr:PSs X rest (tS X cf r)):PSs X (.If c a b pos::rest) (tS X cf (.ifS cc ca cb r)):=by
 refine PSs.imp (zas (zlK hc ha hb) hr) fun E σ H ⟨δ,ι,S,Q,hs,hh,w,l⟩=>?_
 simp only[exS,zaa] at w
 refine tT.run hs hh w fun z ι1 H1 S1 x1 hs1 hh1 w1=>?_
 have fin:LfS X ι1 H1 (fun f S2=>W (match f with|.nx δ'=>exS cf r δ' S2|.rt d=>.ok (.rt d) S2|.ex d=>.ok (.ex d) S2) Q) {E with nx:=tS X cf r E}:=by
  intro f ι2 H2 S2 x2 hh2 q
  cases f with
  |nx δ'=>exact fun σ' hs'=>⟨δ',ι2,S2,Q,hs',hh2,q,(l.up x1).up x2⟩
  |rt d=>exact fun v rv=>(l.up x1) _ _ _ _ x2 hh2 q v rv
  |ex d=>exact (l.up x1) _ _ _ _ x2 hh2 q
 cases z with
 |true=>exact⟨δ,ι1,S1,_,hs1,hh1,w1,fin⟩
 |false=>exact⟨δ,ι1,S1,_,hs1,hh1,w1,fin⟩
noncomputable def FInv (K:PySem.W.Frag)(cf:CF)(g:List Nat)(b:CS)(Qf:Fl->R.St->Prop)(ds:List D)(lks:List Nat)(ι1:List Addr)(H1:Hp)(S1:R.St)(i:Nat)(σ':L2.St)(H':Hp):Prop:=
 i<=ds.length/\∃δ' ι' S',RS K ι' H' δ' σ'/\Ltr K ι1 H1 S1 lks ι' H' S'/\S'.lk=lks++S1.lk/\S1.len<=S'.len/\W (zaW g (exS cf b) (ds.drop i) δ' S') fun f S2=>Qf f {S2 with lk:=S1.lk}
theorem zld (G:Gd T cf k N sc X){is:List Nat}{it:CL}{cb r:CS}{tg iter:Expr}{body:List Stmt}(hi:PI X tg iter (tI X.K cf it))(hg:PG X tg (tG X.K is))(hb:PSs X body (tS X cf cb))(hset:zaJ iter=true)(hr:PSs X rest (tS X cf r)) :
  PSs X (.For tg iter body [] pos::rest) (tS X cf (.forS is it cb r)):=by
 have hp:PassesOwn (model X.prog X.w) X.A X.env X.xe:=G.xe
 refine PSs.imp (zas (zlL hp G.calm hi hg hb (zeD hset X.env)) hr) fun E σ H ⟨δ,ι,S,Q,hs,hh,w,l⟩=>?_
 simp only[exS,zaa] at w
 refine⟨δ,ι,S,_,hs,hh,w,fun J H1 ⟨ds,lks,ι1,S1,x1,hh1,w1,wk⟩=>?_⟩
 dsimp only at w1
 unfold zaZ at w1
 rw[zaa] at w1
 simp only[W_ok] at w1
 refine⟨fun i m σ' H'=>m=ds.length - i/\FInv X.K cf is cb (fun f S2=>W (match f with|.nx δ'=>exS cf r δ' S2|.rt d=>.ok (.rt d) S2|.ex d=>.ok (.ex d) S2) Q) ds lks ι1 H1 S1 i σ' H',⟨_,rfl,Nat.zero_le _,δ,ι1,{S1 with lk:=lks++S1.lk},hs.ext x1,⟨Ext.refl _ _,hh1.lk _,fun l _=>rfl⟩,rfl,Nat.le_refl _,w1⟩,?_⟩
 rintro i m σ' H' ⟨rfl,hle,δ',ι',S',hs',lt,hlk,hln,wt⟩
 have l1:=l.up (x1.trans lt.ext)
 rcases Nat.lt_or_eq_of_le hle with hlt|rfl
 · refine .inr ⟨wk.go i ι' H' S' lt hlt,FInv X.K cf is cb _ ds lks ι1 H1 S1 (i+1),fun σ2 H2 h=>⟨_,by omega,rfl,h⟩,fun x H2 hy=>?_⟩
   obtain⟨x2,hh2,d,hd,rd⟩:=wk.yld i ι' H' S' x H2 lt hlt hy
   rw[zd8 hd] at wt
   simp only[zaW] at wt
   cases ea:asgG is d δ' with
   |none=>rw[ea] at wt;exact wt.elim
   | some δ2 =>
     rw[ea] at wt
     dsimp only at wt
     rw[zaa] at wt
     refine⟨δ',ι',d,δ2,hs'.ext x2,rd,ea,fun σ2 hs3=>⟨δ2,ι',S',_,hs3,hh2,zb2 G.tab.frm cb δ2 S' _ wt,?_⟩⟩
     rintro f ι3 H3 S3 x3 hh3 ⟨w3,f3⟩
     have k1:S3.lk=lks++S1.lk:=f3.lk.trans hlk
     have k3:∀l∈lks,S3.get l=S1.get l:=fun l hl=>(f3.same l (by rw[hlk];exact List.mem_append_left _ hl) (Nat.lt_of_lt_of_le (wk.lks l hl) hln)).trans (lt.lck l hl)
     cases f with
     |nx δ3=>exact fun σ3 hs4=>⟨hlt,δ3,ι3,S3,hs4,⟨(lt.ext.trans x2).trans x3,hh3,k3⟩,k1,Nat.le_trans hln f3.lens,w3⟩
     |rt z=>exact fun v rv=>l1 _ _ _ _ (x2.trans x3) (hh3.lk _) w3 v rv
     |ex z=>exact l1 _ _ _ _ (x2.trans x3) (hh3.lk _) w3
 · refine .inl ⟨wk.stop _ ι' H' S' lt (Nat.le_refl _),?_⟩
   rw[List.drop_length] at wt
   simp only[zaW,W_ok] at wt
   exact⟨δ',ι',{S' with lk:=S1.lk},Q,hs',lt.rh.lk _,wt,l1⟩
noncomputable def zn6 (H:Hp)(a:Addr)(y v:V)(H':Hp):Prop:=DPut H a y v H'\/(∃kxs k c,H a=some (.ext (TriO a kxs))/\TriK H kxs/\y=.ref c/\Key3 H k c/\kxs.length<sizeLine/\H'=upd H a (.ext (TriO a (put3 kxs k c v))))\/∃xs k j,H a=some (.lst xs)/\y=.int k/\L2.ixN xs.length k=some j/\H'=upd H a (.lst (xs.set j v))
noncomputable def zlB (td ty tv:TE):TS:=fun D σ H=>tv σ H fun v H1=>td σ H1 fun x H2=>ty σ H2 fun y H3=>∃a H4,x=.ref a/\zn6 H3 a y v H4/\D.nx σ H4
theorem zhU {o i value:Expr}{td ty tv:TE}{pos':Pos}(hu:X.A.units+5<cLine)(ho:PE X o td)(hi:PE X i ty)(hv:PE X value tv)(hs:swapsWith value (some (.Subscript o i pos')) pos.line X.env=pure false) :
  PS X (.Assign [.Subscript o i pos'] value pos) (zlB td ty tv):=by
 intro pins s σ H D I h
 refine wpAny_Assign_Subscript (thn (hv pins s σ H _ I h) fun r s1 ⟨v,H1,I1,rv,q1⟩=>thn (ho pins s1 σ H1 _ I1 q1) fun u s2 ⟨x,H2,I2,rx,q2⟩=>thn (hi pins s2 σ H2 _ I2 q2) fun iv s3 ⟨y,H3,I3,ry,a,H4,ex,g,q3⟩=>?_) hs
 subst ex
 obtain rfl:u=Value.ref a:=rx
 rcases g with g|⟨kxs,k,c,e,tk,rfl,ek,hl,rfl⟩|⟨xs,k,j,e,ey,ej,rfl⟩
 · exact zhk (by omega) I3 g ry rv fun s4 I4=>⟨σ,H4,I4,q3⟩
 · obtain rfl:iv=Value.ref c:=ry
   exact zfY hu I3 e tk ek hl rv fun s4 I4=>⟨σ,_,I4,q3⟩
 · exact wpAny_mono (zhG pins s3 σ H3 (.ref a) y v (.ref a) iv r (fun H'=>D.nx σ H') I3 rfl ry rv ⟨a,xs,k,j,rfl,ey,e,ej,q3⟩) (fun _ s4 ⟨H',I4,q⟩=>⟨σ,H',I4,q⟩) fun _ _ z=>z
theorem zhD (G:Gd T cf k N sc X){ca cb ce:CE}{a b e:Expr}{r:CS}(ha:PE X a (tE X.K cf ca))(hb:PE X b (tE X.K cf cb))(he:PE X e (tE X.K cf ce))(hc:zbh e=true)(hr:PSs X rest (tS X cf r)) :
  PSs X (.Assign [.Subscript a b p] e pos::rest) (tS X cf (.setIx ca cb ce r)):=by
 refine PSs.imp (zas (zhU (by have:=G.hu;omega) ha hb he (zcj hc _ _ _)) hr) fun E σ H ⟨δ,ι,S,Q,hs,hh,w,l⟩=>?_
 simp only[exS,zaa] at w
 refine tE.run hs hh w fun d v ι1 H1 S1 x1 hs1 hh1 r1 w1=>?_
 refine tE.run hs1 hh1 w1 fun x vx ι2 H2 S2 x2 hs2 hh2 r2 w2=>?_
 refine tE.run hs2 hh2 w2 fun y vy ι3 H3 S3 x3 hs3 hh3 r3 w3=>?_
 cases ed:dPut S3 x y d with
 |none=>rw[ed] at w3;exact w3.elim
 | some S4 =>
   rw[ed] at w3
   unfold dPut at ed
   cases x with
   | ref i =>
     obtain⟨p,h1,rfl⟩:=r2.ext x3
     dsimp only at ed
     cases e:S3.get i with
     |none=>rw[e] at ed;cases ed
     | some ob =>
       rw[e] at ed
       obtain⟨b,h2,h3⟩:=hh3.obj _ _ e
       rw[h1] at h2;cases h2
       cases ob with
       | dtp kvs =>
         obtain⟨nd,ws,ha,rk⟩:=h3
         dsimp only at ed
         cases ek:zdq y with
         |none=>rw[ek] at ed;cases ed
         | some k =>
           rw[ek] at ed
           dsimp only[Option.bind_some] at ed
           split at ed
           · rename_i c
             obtain⟨b,rfl,hb⟩:=zml r3 ek
             have rv:=r1.ext (x2.trans x3)
             have xw:=Ext.wr hh3 e h1 (.dT (putK ws (kI k) v))
             refine⟨p,_,rfl,.inl <| DPut.t ha hb (by rw[rk.length,sizeLine_eq];exact c),δ,ι3,S4,Q,hs3.ext xw,hh3.wr e h1 ed ⟨zfH nd,_,zak,?_⟩,w3,l.up (((x1.trans x2).trans x3).trans xw)⟩
             exact (rk.put k rv nd).up xw.pre xw.kp
           · cases ed
       | dic kvs =>
         obtain⟨nd,ws,ha,rk⟩:=h3
         dsimp only at ed
         cases y with
         | int k =>
           obtain rfl:vy=.int k:=r3
           dsimp only[zcd,Option.bind_some] at ed
           split at ed
           · rename_i c
             have rv:=r1.ext (x2.trans x3)
             have xw:=Ext.wr hh3 e h1 (.dK (putK ws (.inl k) v))
             refine⟨p,_,rfl,.inl <| DPut.k (k:=.inl k) ha (by rw[rk.length,sizeLine_eq];exact c),δ,ι3,S4,Q,hs3.ext xw,hh3.wr e h1 ed ⟨zfI nd,_,zak,?_⟩,w3,l.up (((x1.trans x2).trans x3).trans xw)⟩
             exact (rk.put k rv nd).up xw.pre xw.kp
           · cases ed
         |_=>cases ed
       | d3 kvs =>
         obtain⟨nd,ws,ha,rk⟩:=h3
         dsimp only at ed
         cases ek:key3 y with
         |none=>rw[ek] at ed;cases ed
         | some k =>
           rw[ek] at ed
           dsimp only[Option.bind_some] at ed
           split at ed
           · rename_i c
             obtain⟨b,rfl,hb⟩:=zgM r3 ek
             have rv:=r1.ext (x2.trans x3)
             have xw:=Ext.wr hh3 e h1 (.ext (TriO p (put3 ws k b v)))
             refine⟨p,_,rfl,.inr <| .inl ⟨ws,k,b,ha,rk.triK,rfl,hb,by rw[rk.length,sizeLine_eq];exact c,rfl⟩,δ,ι3,S4,Q,hs3.ext xw,hh3.wr e h1 ed ⟨zev nd,_,zak,?_⟩,w3,l.up (((x1.trans x2).trans x3).trans xw)⟩
             exact (rk.put rv hb).up xw.pre xw.kp
           · cases ed
       | lst ds =>
         obtain⟨xs,ha,rx⟩:=h3
         dsimp only at ed
         cases y with
         | int k =>
           obtain rfl:vy=.int k:=r3
           dsimp only[zcd,Option.bind_some] at ed
           cases ej:R.ixN ds.length k with
           |none=>rw[ej] at ed;cases ed
           | some j =>
             rw[ej,Option.bind_some] at ed
             have rv:=r1.ext (x2.trans x3)
             have xw:=Ext.wr hh3 e h1 (.lst (xs.set j v))
             refine⟨p,_,rfl,.inr <| .inr ⟨xs,k,j,ha,rfl,by rw[rx.length];exact ej,rfl⟩,δ,ι3,S4,Q,hs3.ext xw,hh3.wr e h1 ed ⟨_,zak,?_⟩,w3,l.up (((x1.trans x2).trans x3).trans xw)⟩
             exact (RVs.set rv j rx).up xw.pre xw.kp
         |_=>cases ed
       |_=>cases ed
   |_=>cases ed
theorem zjs (G:Gd T cf k N sc X){is:List Nat}{ce:CE}{e:Expr}{es:List Expr}{j:Nat}{r:CS}(hn:zbx sc N is es=true)(h2:2<=is.length)(he:PE X e (tE X.K cf ce))(hx:(∃x q,e=.Name x q)\/∃f as ks q,e=.Call f as ks q)(hr:PSs X rest (tS X cf r)) :
  PSs X (.Assign [.Tuple es j p] e pos::rest) (tS X cf (.asgT is ce r)):=by
 have hs:swapsWithSole [.Tuple es j p] e pos.line X.env=pure false:=by rcases hx with ⟨x,q,rfl⟩|⟨f,as,ks,q,rfl⟩<;>rfl
 have hw:swappedStores [.Tuple es j p] e X.env=pure none:=by rcases hx with ⟨x,q,rfl⟩|⟨f,as,ks,q,rfl⟩<;>rfl
 refine PSs.imp (zas (zlM he (ziO G hn h2) hs hw) hr) fun E σ H ⟨δ,ι,S,Q,hs,hh,w,l⟩=>?_
 simp only[exS,zaa] at w
 refine tE.run hs hh w fun d v ι1 H1 S1 x1 hs1 hh1 r1 w1=>?_
 obtain⟨δ2,ea,w2⟩:=zaC w1
 exact⟨δ,ι1,d,δ2,hs1,r1,ea,fun σ' hs'=>⟨δ2,ι1,S1,Q,hs',hh1,w2,l.up x1⟩⟩
end
end R
end
section
namespace R
open PySem PySem.Spec PyProof.Rows L2
variable [Mks]
theorem zeL {M:Model}{A:Around}{E:Value->Shared->Prop}{s:Shared}{K:PySem.W.Frag}{env:Env}{pos:Pos}{id:String}{e:Expr}{rest:List Expr}{Q:Value->Shared->Prop}
  (h:wpAny M A (spliced (backTo pos (starEach (e::rest) env))) (fun vs s1=>K.In s1.heap/\wpAny M A (call (.builtin id) ([]++vs)) Q E s1) E s)
  (he:starEach (e::rest) env=(false,eval e env)::starEach rest env) (hp:(backTo pos (starEach rest env)).any (·.1)=false) :
  wpAny M A (callWith pos (.builtin id) [] (backTo pos (starEach (e::rest) env)) []) Q E s:=by
 rw[he] at h⊢
 refine PySem.W.callWith_of (P:=fun h=>K.In h) (by show ((false || (backTo pos (starEach rest env)).any (·.1)) || false)=false;rw[hp];rfl) (fun _ _=>⟨.machine,.inr (.inl rfl),.now⟩) (Calls.evalArgs_plain h)
section
variable {X:Cx} {xR y f:Str} {fI:Addr}
theorem zjZ {txt:Str}{j:Nat}{p1 p2 p3 p4 p5:Pos}(u:XUp X.K X.mg xR)(hg:Gl X xR)(hdb:(xR == ("__debug__":Str))=false)(h0:X.N[0]?=some ("self":Str))(hv:Vis X.env.scope "self")(hl:(p2.endLine == p5.line)=true) :
  PE X (.Call (.Attribute (.Name xR p1) "__init__" p2) [.Name "self" p3,.Constant (.str txt) j p4] [] p5) (fun σ H Q=>∃e C,σ[0]?=some (some (.ref e))/\H e=some (XN e C)/\excJ X.K C fI=true/\Q .non H):=by
 obtain⟨CR,hm,h1,h2,h3⟩:=u.ex
 intro pins s σ H Q I ⟨e,C,he,hx,hc,q⟩
 refine zib (zeU rfl _ _ _) (zmB rfl (by show 2<29;decide)) hl (thn (zex (v:=.ref CR) hg hm rfl hdb pins s σ H (fun v H1=>v=.ref CR/\H1=H) I ⟨rfl,rfl⟩) fun u s1 ⟨xv,H1,I1,rx,ex,eH⟩ pl=>?_)
 subst ex eH
 obtain rfl:u=Value.ref CR:=rx
 refine PySem.W.method_cls I1.kIn h1 (PySem.W.cls_value I1.kIn h2 h3 rfl ?_)
 refine zeL (K:=X.K) (thn ((show PA X [.Name "self" p3,.Constant (.str txt) j p4] _ from zaO (zdP h0 hv) (zaO ziY zb6)) p5 pins _ σ H1 (fun vs H2=>vs=[V.ref e,V.str txt]/\H2=H1) (I1.tok _) ⟨_,he,rfl,rfl⟩) fun us s2 ⟨vs,H2,I2,r,ev,eH⟩=>⟨I2.kIn,?_⟩) rfl rfl
 subst ev eH
 obtain⟨u1,u2,rfl,r1,r2⟩:=zfw r
 obtain rfl:u1=Value.ref e:=r1
 exact zkl I2 hc hx fun s' I'=>⟨.non,H2,I',rfl,q⟩
theorem zhV {p7 p8 p9 p10:Pos}(h0:X.N[0]?=some ("self":Str))(h1:X.N[1]?=some y)(v0:Vis X.env.scope "self")(v1:Vis X.env.scope y)(n2:(y == ("__debug__":Str))=false/\(y == ("__classdict__":Str))=false) :
  PS X (.Assign [.Attribute (.Name "self" p7) f p8] (.Name y p9) p10) (fun D σ H=>∃e C v,σ[0]?=some (some (.ref e))/\σ[1]?=some (some v)/\H e=some (XN e C)/\Xc X.K C fI f/\∀dx od,H dx=none->dx≠e->D.nx σ (upd (upd H dx (.frz od (.xd [(f,v)]))) e (XD e C dx))):=by
 intro pins s σ H D I ⟨e,C,v,e0,e1,hx,hc,q⟩
 refine plainObj_wpAny_Assign_Attribute (thn ((show PE X (.Name y p9) _ from zdP h1 v1 n2.1 n2.2) pins s σ H (fun u H1=>u=v/\H1=H) I ⟨v,e1,rfl,rfl⟩) fun u s1 ⟨z,H1,I1,ry,ez,eH⟩=>thn ((show PE X (.Name "self" p7) _ from zdP h0 v0) pins s1 σ H1 (fun u H2=>u=.ref e/\H2=H1) I1 ⟨_,e0,rfl,rfl⟩) fun ov s2 ⟨x,H2,I2,rx,ex,eH2⟩=>?_) rfl
 subst ez eH ex eH2
 obtain rfl:ov=Value.ref e:=rx
 exact zkK I2 hc hx ry fun dx od s' k1 k2 I'=>⟨σ,_,I',q dx od k1 k2⟩
end
theorem zkm {P:Program}{w:World}{K:PySem.W.Frag}{mg:Str->Option Value}{base:Heap}{k:Nat}{qual:Str}{st:Stmt}{fI:Addr}{fd:FuncData}{xR y f:Str}(FV:FunV K "__init__" qual st .none fI fd)(S:XSt st xR y f)(u:XUp K mg xR) :
  FnOk P w K mg base CX0 (k+1) fI fd ["self",y] (spI K fI f):=by
 obtain⟨txt,j,p1,p2,p3,p4,p5,p6,p7,p8,p9,p10,eb,hl⟩:=S.body
 refine FV.ok S.sc (fun vs H Q E ⟨e,C,v,h,_⟩=>by rw[h];rfl) fun cdv A outer s H vs Q E hr h=>?_
 obtain⟨e,C,v,rfl,he,hc,q⟩:=h
 rw[eb]
 refine⟨_,zas (zew (zjZ (X:=(cxOf CX0 P w K mg base ["self",y] qual (zae st) fI cdv A outer s H E).nox) (fI:=fI) u S.gl S.n1 rfl (.inl S.v1) hl)) (zas (zhV (fI:=fI) rfl rfl (.inl S.v1) (.inl S.v2) S.n2) zbW),?_⟩
 exact⟨e,C,rfl,he,hc.ex,e,C,v,rfl,rfl,he,hc,fun dx od k1 k2=>q dx od k1 k2⟩
end R
end
section
namespace R
open PySem PySem.Spec PyProof.Rows L2
variable [Mks]
section
variable {X:Cx} {pins:List (Addr × Obj)} {σ:L2.St} {H:Hp} {s:Shared} {C fI:Addr} {f:Str} {k:Nat} {fd:FuncData} {ps:List Str}
theorem upd3 {H:Hp}{e dx:Addr}{o1 o2 o3:HO}(h:dx≠e):upd (upd (upd H e o1) dx o2) e o3=upd (upd H dx o2) e o3:=by
 funext b;unfold upd
 by_cases h1:b=e
 · simp[h1]
 · simp[h1]
theorem zdE {u:Value}{v:V}{Q:Value->Shared->Prop}(F:FnOk X.prog X.w X.K X.mg X.base CX0 k fI fd ps (spI X.K fI f))(hr:Room (k+1) X.A)(hb:Binds X.K fd ps [])(c:Xc X.K C fI f)(I:Inv X pins σ H s)(rv:RelV v u)
  (h:∀e dx od s',H e=none->H dx=none->dx≠e->s.heap.objs.size<=e->Inv X pins σ (upd (upd H dx (.frz od (.xd [(f,v)]))) e (XD e C dx)) s'->Q (.ref e) s'):wpAny (model X.prog X.w) X.A (call (.ref C) [u]) Q X.xe s:=by
 obtain⟨nm,q,N,bs,bm,hdct,sn,sub,ab,col,dd,k0,k1,k2,k3,k5,mN,hC,hn,hi,T⟩:=(zje I.kIn c.ex).ex
 obtain⟨oI,hfI,hfc⟩:∃oI,s.heap.get? fI=some oI/\oI.cls=.type "function":=by
  have z:=beq_iff_eq.mp c.fn
  unfold PySem.W.typeIn at z
  cases e:X.K.lookup fI with
  |none=>simp[e] at z
  |some o=>exact⟨o,I.kIn _ _ e,by simpa[e] using z⟩
 obtain⟨hh,g,d,t,os⟩:=s
 refine zis PySem.F.excBase_ValueError T hC hn hi hfI hfc (fun h' e m z=>?_) (by show 1<=sizeLine;rw[sizeLine_eq];omega)
 obtain⟨t0,e1,_⟩:=m.there
 have I1:Inv X pins σ (upd H e (XN e C)) ⟨h',g,d,t,os⟩:=I.laid (t':=t) m.keeps z (XN.ok e1)
 have r2:Vals [V.ref e,v] [Value.ref e,u]:=.cons rfl (.cons rv .nil)
 have he:H e=none:=I.hok.fresh z
 have hq:spI X.K fI f [.ref e,v] (upd H e (XN e C)) (fun v' H'=>v'=.non/\∃dx od,(upd H e (XN e C)) dx=none/\dx≠e/\H'=upd (upd (upd H e (XN e C)) dx (.frz od (.xd [(f,v)]))) e (XD e C dx)) E0:=
  ⟨e,C,v,rfl,zak,c,fun dx od k1 k2=>⟨rfl,dx,od,k1,k2,rfl⟩⟩
 refine wpAny_call (codeAny_mono (F.run _ X.stack _ _ ⟨[Value.ref e,u],[]⟩ [Value.ref e,u] _ _ E0 (hr.make C [u] []) (I1.env0.make C [u] []) (hb _ [Value.ref e,u] I1.kIn (by have:=r2.length;rw[F.len _ _ _ _ hq] at this;exact this.symm)) r2 hq) fun r s' hq'=>?_)
 cases r with
 |error x=>exact False.elim hq'
 | ok fl =>
   cases fl with
   | ret u' =>
     obtain⟨v',H',I3,rv',ev,dx,od,k1,k2,eH⟩:=I1.after hq'
     subst ev eH
     refine⟨rv',h e dx od s' he ?_ k2 z ?_⟩
     · rwa [zah k2] at k1
     · rw[upd3 k2] at I3;exact I3
   |next=>exact False.elim hq'
   |brk=>exact False.elim hq'
   |cont=>exact False.elim hq'
theorem zi2 {e dx:Addr}{H0:Hp}(I:Inv X pins σ (upd H0 e (XD e C dx)) s):Inv X pins σ (upd H0 e (XO e C dx)) s:=by
 obtain⟨⟨t,et⟩,_⟩:=(show ObjOk X.prog X.w _ s.heap e (XD e C dx) from I.hok e _ zak)
 have:=I.write (x:=e) (e:=e) (o:=XO e C dx) (t':=s.toks) (h':=s.heap) (by rw[zak];exact True.intro) (.inl rfl) (fun _ _ _ q=>q) ⟨_,et⟩ (XO.ok et (by show 1<6;decide))
 rw[zjh] at this
 exact this
end
section
variable {M:Model} {A:Around} {E:Value->Shared->Prop} {s:Shared} {env:Env}
variable {nm q:Str} {C N:Addr} {bs bm:List Value} {hdct:Bool} {sn:List Str} {sub:List Value} {ab:Bool} {col:Option Bool} {dd:Option Addr} {k0 k1 k2 k3 k5:Option Value} {newId:String}
theorem zhP {x:Sem Value}{Q:Flow->Shared->Prop}(hh:A.handled=none)
  (h:wpAny M A x (fun v s1=>∃e t dx nm q N bs bm hdct sn sub ab col dd k0 k1 k2 k3 k5 newId,v=.ref e/\s1.heap.get? C=some (excClassObj nm q C N bs bm hdct sn sub ab col dd k0 k1 k2 k3 k5 newId)/\bm.contains (.type "BaseException")=true/\
   s1.heap.get? e=some (newX (.ref C) dx t)/\E (.ref e) s1) E s):wpAny M A (raiseStmt env (some x) none) Q E s:=by
 unfold raiseStmt
 refine wpAny_bind (wpAny_mono h (fun v s1 h1=>?_) fun _ _ z=>z)
 obtain⟨e,t,dx,nm,q,N,bs,bm,hdct,sn,sub,ab,col,dd,k0,k1,k2,k3,k5,newId,rfl,hC,hb,he,hE⟩:=h1
 have hcB:(Value.ref C::bm).contains (.type "BaseException")=true:=by rw[List.contains_cons,hb,Bool.or_true]
 obtain⟨hp,g,d,tk,os⟩:=s1
 repeat (first|with_reducible refine wpAny_loadPart_at he ?_|with_reducible refine wpAny_loadPart_at hC ?_|(with_reducible refine wpAny_isSubtype_exc hC ?_;rw[hcB])|wp_step)
 exact wpAny_raiseNew_none hh hE
end
section
variable {X:Cx} {C fI:Addr} {f x:Str} {k:Nat} {fd:FuncData} {ps:List Str} {te:TE} {e:Expr} {np cpos pos:Pos}
theorem zh2 (F:FnOk X.prog X.w X.K X.mg X.base CX0 k fI fd ps (spI X.K fI f))(hr:Room (k+1) X.A)(hb:Binds X.K fd ps [])(c:Xc X.K C fI f)(hg:Gl X x)(hm:X.mg x=some (.ref C))(hk:PySem.W.keepIn X.K (.ref C)=true)(ha:PE X e te)(hst:zam e=true)(hdb:(x == ("__debug__":Str))=false) :
  PE X (.Call (.Name x np) [e] [] cpos) (fun σ H Q=>te σ H fun v H1=>∀a dx od,H1 a=none->H1 dx=none->dx≠a->Q (.ref a) (upd (upd H1 dx (.frz od (.xd [(f,v)]))) a (XO a C dx))):=by
 intro pins s σ H Q I h
 refine wpAny_Call_Name_kw (zbD I hg hm ?_ hdb)
 refine PySem.W.callWith_K (h₀:=X.base) I.ok.mod.kin hk (thn ((show PA X [e] _ from zaO ha zb6 (zal hst _ _)) cpos pins s σ H (fun vs H1=>match vs with | [v]=>∀a dx od,H1 a=none->H1 dx=none->dx≠a->Q (.ref a) (upd (upd H1 dx (.frz od (.xd [(f,v)]))) a (XO a C dx))|_=>False) I h) fun us s1 ⟨vs,H1,I1,r,q⟩=>⟨I1.kIn,?_⟩) (zal hst _ _) rfl
 cases r with
 |nil=>exact q.elim
 | cons ru rn =>
   cases rn with
   |nil=>exact zdE F hr hb c I1 ru fun a dx od s' k1 k2 k3 _ I'=>⟨.ref a,_,zi2 I',rfl,q a dx od k1 k2 k3⟩
   |cons _ _=>exact q.elim
theorem zjl {h:Heap}{a t:Addr}{lo:Nat}:Trc h a #[.ref t,.none,.none,.none,.bool false,.none] lo:=.inl rfl
theorem zhT (F:FnOk X.prog X.w X.K X.mg X.base CX0 k fI fd ps (spI X.K fI f))(hr:Room (k+1) X.A)(hb:Binds X.K fd ps [])(c:Xc X.K C fI f)(hg:Gl X x)(hm:X.mg x=some (.ref C))(hk:PySem.W.keepIn X.K (.ref C)=true)(ha:PE X e te)(hst:zam e=true)(hdb:(x == ("__debug__":Str))=false)(hc:X.calm=true) :
  PS X (.Raise (some (.Call (.Name x np) [e] [] cpos)) none pos) (fun D σ H=>te σ H fun v H1=>∀a dx od pins s',H1 a=none->H1 dx=none->dx≠a->Inv X pins σ (upd (upd H1 dx (.frz od (.xd [(f,v)]))) a (XO a C dx)) s'->Fly X.s₀.heap.objs.size (upd (upd H1 dx (.frz od (.xd [(f,v)]))) a (XO a C dx)) s'.heap a->X.xe (.ref a) s'):=by
 intro pins s σ H D I h
 rw[arm_exec_Raise]
 refine wpAny_bind (wpAny_standAt (zhP (C:=C) (I.ok.hd hc) ?_))
 show wpAny _ _ (do let v <-eval (.Call (.Name x np) [e] [] cpos) X.env;standAt pos;pure v) _ _ _
 refine wpAny_bind (wpAny_Call_Name_kw (zbD I hg hm ?_ hdb))
 refine PySem.W.callWith_K (h₀:=X.base) I.ok.mod.kin hk (thn ((show PA X [e] _ from zaO ha zb6 (zal hst _ _)) cpos pins s σ H (fun vs H1=>match vs with | [v]=>∀a dx od pins s',H1 a=none->H1 dx=none->dx≠a->Inv X pins σ (upd (upd H1 dx (.frz od (.xd [(f,v)]))) a (XO a C dx)) s'->Fly X.s₀.heap.objs.size (upd (upd H1 dx (.frz od (.xd [(f,v)]))) a (XO a C dx)) s'.heap a->X.xe (.ref a) s'|_=>False) I h) fun us s1 ⟨vs,H1,I1,r,q⟩=>⟨I1.kIn,?_⟩) (zal hst _ _) rfl
 cases r with
 |nil=>exact q.elim
 | cons ru rn =>
   cases rn with
   |cons _ _=>exact q.elim
   | nil =>
     refine zdE F hr hb c I1 ru fun a dx od s' k1 k2 k3 kz I'=>wpAny_bind (wpAny_standAt (wpAny_pure ?_))
     obtain⟨nm,q',N,bs,bm,hdct,sn,sub,ab,col,dd,k0,k1',k2',k3',k5,mN,hC,hn,hi,T⟩:=(zje I'.kIn c.ex).ex
     obtain⟨⟨t,et⟩,_⟩:=(show ObjOk X.prog X.w _ s'.heap a (XD a C dx) from I'.hok a _ zak)
     refine⟨a,t,some dx,nm,q',N,bs,bm,hdct,sn,sub,ab,col,dd,k0,k1',k2',k3',k5,_,rfl,hC,T.hasType rfl,et,?_⟩
     refine q a dx od pins s' k1 k2 k3 (zi2 I') ⟨⟨C,dx,_,_,zak,et,zjl,fun T hT=>?_⟩,Nat.le_trans I1.sz kz⟩
     cases hT
end
end R
end
section
namespace R
open PySem PySem.Spec PyProof.Rows L2
variable [Mks]
noncomputable abbrev mkC (X:Cx)(e:Value):Cx:={X with A:=X.A.mark (some e),calm:=false,xe:=fun _ _=>False}
section
variable {X:Cx} {pins:List (Addr × Obj)} {σ:L2.St} {H:Hp} {s:Shared}
theorem zfc (I:Inv X pins σ H s)(e:Value):Inv (mkC X e) pins σ H s:=
 ⟨⟨I.ok.mod,I.ok.kind,I.ok.glob,I.ok.blt,I.ok.above,I.ok.inj,I.ok.has,I.ok.cab,(fun z=>by cases z),I.ok.frames,I.ok.stk,I.ok.exf,I.ok.bs,I.ok.bsz,I.ok.noex,I.ok.exfs,I.ok.funs,I.ok.frf⟩,I.os,I.bare,I.base,I.loc,I.cell,I.free,I.freeC,I.pin,I.hok,I.len⟩
theorem zfU {e:Value}(ok:X.Ok)(I:Inv (mkC X e) pins σ H s):Inv X pins σ H s:=⟨ok,I.os,I.bare,I.base,I.loc,I.cell,I.free,I.freeC,I.pin,I.hok,I.len⟩
theorem zih {ie:Nat}{n:Str}{v:Option Value}{h':Heap}{t':Nat}{m:Str->Option Value}(I:Inv X pins σ H s)(nd:X.N.Nodup)(hi:X.N[ie]?=some n)
  (hm:∀(i:Nat) (x:Str) (v:V),X.N[i]?=some x->σ[i]?=some (some v)->Vis X.env.scope x->∃u,RelV v u/\Look X.env s.heap m x u) (hn:h'.Ns X.env.locals (fun x=>if x=n then v else m x)) (sb:Heap.SameBut X.env.locals s.heap h') :
  Inv X pins (σ.set ie none) H {s with heap:=h',toks:=t'}:=by
 have k:∀b o,b≠X.env.locals->s.heap.get? b=some o->h'.get? b=some o:=fun b o hb q=>(sb.2 b hb).trans q
 have neL:∀b o,X.s₀.heap.get? b=some o->b≠X.env.locals:=fun b o e=>Nat.ne_of_lt (Nat.lt_of_lt_of_le (Heap.lt_size e) I.ok.above)
 have cellK:∀x c,X.env.cells.lookup x=some c->∀v,s.heap.IsCell c v->h'.IsCell c v:=fun x c e v ⟨o,ho,hd⟩=>⟨o,k c o (I.cne x c e) ho,hd⟩
 refine⟨I.ok,I.os,I.bare,⟨fun b o e n hb hx=>k b o (neL b o e) (I.base.keep b o e n hb hx),fun b o e n hb hx=>?_,I.base.free,fun b o e hx=>?_,I.base.tups,I.base.frzs,I.base.tbls⟩,⟨_,hn,fun i x u h1 h2 h3=>?_⟩,fun x c e=>?_,I.free,I.freeC,fun p hp=>?_,fun b o e=>?_,by rw[List.length_set];exact I.len⟩
 · obtain⟨sl,q⟩:=I.base.slot b o e n hb hx
   exact⟨sl,k b _ (neL b o e) q⟩
 · obtain⟨o',q⟩:=I.base.there b o e hx
   exact⟨o',k b _ (neL b o e) q⟩
 · have hij:i≠ie:=fun z=>by
    subst z
    rw[List.getElem?_set] at h2
    simp only[if_true] at h2
    split at h2<;>cases h2
   rw[List.getElem?_set_ne (Ne.symm hij)] at h2
   obtain⟨w,r,l⟩:=hm i x u h1 h2 h3
   have hxn:x≠n:=fun z=>hij (by
    obtain⟨a1,e1⟩:=List.getElem?_eq_some_iff.mp h1
    obtain⟨a2,e2⟩:=List.getElem?_eq_some_iff.mp hi
    exact (List.getElem_inj nd).mp (e1.trans (z.trans e2.symm)))
   refine⟨w,r,?_⟩
   rcases l with ⟨a1,a2⟩|⟨a1,c,a2,a3⟩
   · exact .inl ⟨a1,by show (if x=n then v else m x)=_;rw[if_neg hxn];exact a2⟩
   · exact .inr ⟨a1,c,a2,cellK x c a2 _ a3⟩
 · obtain⟨v,z⟩:=I.cell x c e
   exact⟨v,cellK x c e v z⟩
 · obtain⟨e,n,ne,nf,d⟩:=I.pin p hp
   exact⟨k _ _ ne e,n,ne,nf,d⟩
 · refine (I.hok b o e).stay (fun c u hc q=>k c u (fun z=>?_) q) (fun _ q=>q) fun _ _ q=>q
   have:H c≠none:=by rcases hc with y|y<;>(first|(rw[y,e];simp)|(rw[y];simp))
   exact this (by rw[z];exact I.free)
end
section
variable {X:Cx} {pins:List (Addr × Obj)} {σ:L2.St} {H:Hp} {s:Shared} {a C dx CR:Addr} {lo ie ix:Nat} {xR n y:Str} {np p1 p2 p3 hp:Pos} {D:Ends}
theorem zd1 {A:Around}{E:Value->Shared->Prop}{Q:Unit->Shared->Prop}{M:Model}(I:Inv X pins σ H s)(f:Fly lo H s.heap a)(h:∀s',Inv X pins σ H s'->Fly lo H s'.heap a->Q () s'):wpAny M A (setFlight (.ref a) none) Q E s:=by
 obtain⟨C,dx,vs,sl,h1,h2,tr,h4⟩:=id f.ex
 unfold setFlight
 rcases tr with t|⟨T,oT,ts,t1,t2,t3,t4,t5,t6⟩
 · refine wpAny_bind (wpAny_field h2 rfl t ?_)
   rw[if_neg (by decide)]
   exact wpAny_pure (h s I f)
 · refine wpAny_bind (wpAny_field h2 rfl t1 ?_)
   rw[if_pos (show (Value.ref T != Value.none)=true from by simp)]
   refine wpAny_setField t3 t4 (Array.getElem?_eq_some_iff.mp t5).1 ?_
   have same:∀b o,s.heap.get? b=some o->(s.heap.update T (Obj.mapFields (·.setIfInBounds 3 ((none:Option Addr).elim Value.none fun f=>rawInt f)))).get? b=some o:=fun b o q=>by
    by_cases hb:b=T
    · subst hb
      rw[t3] at q;cases q
      rw[Heap.get?_update_self _ t3 (Obj.isFreed_of_fields (Obj.data_mapFields t4 _))]
      obtain⟨oc,od,dt,osl⟩:=oT
      dsimp only at t4
      subst t4
      have:ts.setIfInBounds 3 Value.none=ts:=by
       apply Array.ext
       · simp
       · intro i h1 h2
         rw[Array.getElem_setIfInBounds]
         split
         · rename_i z;subst z
           have:=Array.getElem?_eq_some_iff.mp t5
           exact this.2.symm
         · rfl
      show some (Obj.mk oc od (.fields (ts.setIfInBounds 3 Value.none)) osl)=_
      rw[this]
    · rw[Heap.get?_update_other _ _ (Ne.symm hb)];exact q
   exact h _ (I.kept (t':=s.toks) same) ⟨⟨C,dx,vs,sl,h1,same _ _ h2,.inr ⟨T,oT,ts,t1,t2,same _ _ t3,t4,t5,t6⟩,h4⟩,f.lo⟩
theorem ziB (I:Inv X pins σ H s)(stk:X.stack=X.env::X.outer)(fr:X.env.frame=some X.env.locals)(fl:Fly lo H s.heap a)(l:X.s₀.heap.objs.size<=lo)(lz:lo<=s.heap.objs.size)(hpn:∀p∈X.pn++pins,p.1<lo)(cl:H a=some (XO a C dx))
  (hx:PySem.W.exmOne X.K (.ref C) (.ref CR)=some true) (hg:Gl X xR) (hm:X.mg xR=some (.ref CR)) (hdb:(xR == ("__debug__":Str))=false) (nd:X.N.Nodup) (hn:X.N[ie]?=some n) (hy:X.N[ix]?=some y) (nl:X.env.scope.names.lookup n=some .local) (yl:Loc X.env.scope y)
  (yf:X.fn y=true\/X.env.scope.names.lookup y=some .local) (n1:(n == ("__debug__":Str))=false) (n2:(n == ("__classdict__":Str))=false) (hij:ie≠ix) (q:D.nx ((σ.set ie none).set ix (some (.ref a))) H) :
  wpAny (model X.prog X.w) X.A (noteFrame (.ref a) X.env) (fun _ s2=>wpAny (model X.prog X.w) X.A (setFlight (.ref a) none) (fun _ s3=>wpAny (model X.prog X.w) X.A (handleBy (.ref a) X.env [.ExceptHandler (some (.Name xR np)) (some n) [.Assign [.Name y p1] (.Name n p2) p3] hp]) (SP X pins D) X.xe s3) X.xe s2) X.xe s:=by
 obtain⟨C0,dx0,vs,sl,h1,h2,tr,h4⟩:=id fl.ex
 refine ze7 (lo:=lo) (by rw[I.ok.frames,stk]) (by rw[<-stk];exact I.stack) fr h2 rfl tr lz fun h' nt=>?_
 obtain⟨I1,f1⟩:=zdY I stk fr fl l hpn h2 rfl nt
 refine wpAny_handleBy_cons (codeAny_handlers_test (zbD (zfc I1 (.ref a)) hg hm ?_ hdb)) (by intro z;cases z)
 obtain⟨vs2,sl2,e2,_⟩:=(show ObjOk X.prog X.w H h' a (XO a C dx) from I1.hok a _ cl).1
 have LT:PySem.W.Looks (model X.prog X.w) h' (typeOf (.ref a)) (.ref C):=(PySem.W.Looks.ld e2).andThen .now
 refine (PySem.W.exm_one I1.kIn LT hx).here ?_
 show codeAny _ _ _ _ _
 refine codeAny_handlers_suite_as (zd1 I1 f1 fun s3 I3 f3=>zc9 I3 nd hn (.inl nl) (v:=.ref a) rfl (fun s4 I4=>?_) (.inr nl))
 have pv:PE (mkC X (.ref a)) (.Name n p2) (tVar ie):=zdP hn (.inl nl) n1 n2
 have hb:=zas (ze4 (X:=mkC X (.ref a)) (pos:=p3) (pos':=p1) nd hy yl pv (by rfl) yf) zbW pins s4 (σ.set ie (some (.ref a))) H {nx:=fun σ' H'=>σ'=(σ.set ie (some (.ref a))).set ix (some (.ref a))/\H'=H,rt:=fun _ _=>False} (zfc I4 _)
  ⟨.ref a,by rw[List.getElem?_set_self (by rw[I3.len];exact (List.getElem?_eq_some_iff.mp hn).1)],rfl,rfl⟩
 refine wpAny_mono hb (fun fl s5 z=>?_) fun _ _ z=>z.elim
 cases fl with
 | next =>
   obtain⟨σ',H',I5,rfl,rfl⟩:=z
   have I5:=zfU I.ok I5
   obtain⟨m,hm5,hl5⟩:=id I5.loc
   have hcls:(X.env.scope.kind == .class || (X.env.scope.kind == .module&&X.env.locals != X.env.globals))=false:=by rw[I.ok.kind];rfl
   refine wpAny_nameGoes_keeps (show X.env.kindOf n=some .local from nl) hm5 hcls fun h6 v hn6 sb=>?_
   have I6:=zih (t':=s5.toks+1) I5 nd hn hl5 hn6 sb
   refine⟨_,_,I6,?_⟩
   rw[List.set_comm _ _ (Ne.symm hij),List.set_set]
   exact q
 |ret u=>obtain⟨_,_,_,_,_,z⟩:=z;exact z.elim
 |brk=>obtain⟨_,_,_,z⟩:=z;exact z.elim
 |cont=>obtain⟨_,_,_,z⟩:=z;exact z.elim
end
end R
end
section
namespace R
open PySem PySem.Spec PyProof.Rows L2
variable [Mks]
section
variable {T:Tab} {cf:CF} {k:Nat} {N:List Str} {sc:Scope} {X:Cx} {pos p:Pos} {rest:List Stmt}
theorem zcA {S:R.St}{x:D}{c:Nat}{fs:List (Str × D)}(h:zbP S x=some (c,fs)):∃l,x=.ref l/\S.get l=some (.exc c fs):=by
 cases x with
 | ref l =>
   simp only[zbP] at h
   cases e:S.get l with
   |none=>rw[e] at h;cases h
   | some o =>
     rw[e] at h
     cases o with
     |exc c' fs'=>cases h;exact⟨l,rfl,e⟩
     |_=>cases h
 |_=>cases h
theorem zli {ca cb:CE}{a b:Expr}(ha:PE X a (tE X.K cf ca))(hb:PE X b (tE X.K cf cb)):PE X (.BinOp a .Mult b pos) (tE X.K cf (.rep ca cb)):=by
 refine PE.imp (zlR zl2 ha hb) fun σ H Qv ⟨δ,ι,S,Q,hs,hh,w,q⟩=>?_
 simp only[evE,zaa] at w
 refine tE.run hs hh w fun d v ι1 H1 S1 x1 hs1 hh1 r1 w1=>tE.run hs1 hh1 w1 fun e u ι2 H2 S2 x2 hs2 hh2 r2 w2=>?_
 cases d with
 | ref l =>
   cases e with
   | int k =>
     obtain rfl:u=.int k:=r2
     obtain⟨b,i1,rfl⟩:=r1.ext x2
     dsimp only at w2
     split at w2
     · rename_i c
       cases eg:S2.get l with
       |none=>rw[eg] at w2;exact w2.elim
       | some o =>
         rw[eg] at w2
         cases o with
         | lst ds =>
           obtain⟨b',i2,xs,hx,rs⟩:=hh2.obj l _ eg
           rw[i1] at i2;cases i2
           dsimp only at w2
           unfold lay at w2
           split at w2
           · rename_i hz
             refine⟨b,k,xs,rfl,rfl,hx,c.1,c.2,?_,fun p hp=>?_⟩
             · rw[zgG] at hz
               rw[rs.length,sizeLine_eq,Nat.mul_comm];exact hz
             · have rr:RVs X.K ι2 H2 (List.replicate k.toNat ds).flatten (List.replicate k.toNat xs).flatten:=by
                generalize k.toNat=m
                induction m with
                |zero=>rfl
                |succ m ih=>rw[List.replicate_succ,List.replicate_succ,List.flatten_cons,List.flatten_cons];exact RVs.append rs ih
               exact q _ _ ⟨.ref S2.len,ι2++[p],_,(x1.trans x2).trans (Ext.obj hh2 hp _),⟨p,hh2.last p,rfl⟩,hh2.lay hp rr,w2⟩
           · exact w2.elim
         |_=>exact w2.elim
     · exact w2.elim
   |_=>exact w2.elim
 |_=>exact w2.elim
theorem ziV {ι:List Addr}{H:Hp}{S:R.St}{d:D}{v:V}{c:Nat}{C a dx:Addr}{od:Obj}{f:Str}(hh:RH X.K ι H S)(r:RV X.K ι H d v)(hC:Mks.xc[c]?=some C)(k1:H a=none)(k2:H dx=none)(k3:dx≠a) :
  Ext ι H (ι++[a]) (upd (upd H dx (.frz od (.xd [(f,v)]))) a (XO a C dx))/\RH X.K (ι++[a]) (upd (upd H dx (.frz od (.xd [(f,v)]))) a (XO a C dx)) (S.push (.exc c [(f,d)])):=by
 have hh2:=hh.new k2 (.frz od (.xd [(f,v)]))
 have x2:Ext ι H ι (upd H dx (.frz od (.xd [(f,v)]))):=Ext.new k2 _
 have k4:(upd H dx (.frz od (.xd [(f,v)]))) a=none:=by rw[zah (Ne.symm k3)];exact k1
 have x3:=Ext.obj hh2 k4 (XO a C dx)
 refine⟨x2.trans x3,hh2.obj' k4 (XO a C dx) (.exc c [(f,d)]) ⟨C,dx,od,[(f,v)],hC,zak,?_,v,[],rfl,(r.ext x2).ext x3,rfl⟩⟩
 rw[zah k3,zak]
theorem zll (G:Gd T cf k N sc X){c:Nat}{x f:Str}{ce:CE}{e:Expr}(hc:T.xcs.contains (c,x,f)=true)(hx:isGl sc x=true)(hd:(x == ("__debug__":Str))=false)(ha:PE X e (tE X.K cf ce))(hst:zam e=true) :
  PE X (.Call (.Name x p) [e] [] pos) (tE X.K cf (.mkX c x f ce)):=by
 obtain⟨C,fI,fd,ps,hC,hm,hk,c',F,hb⟩:=G.tab.xtb.cl c x f hc
 refine PE.imp (zh2 F G.room' hb c' (G.gl hx) hm hk ha hst hd) fun σ H Qv ⟨δ,ι,S,Q,hs,hh,w,q⟩=>?_
 simp only[evE,zaa,W_ok] at w
 refine tE.run hs hh w fun d v ι1 H1 S1 x1 hs1 hh1 r1 w1=>?_
 intro a dx od k1 k2 k3
 obtain⟨x2,hh2⟩:=ziV (od:=od) (f:=f) hh1 r1 hC k1 k2 k3
 exact q _ _ ⟨.ref S1.len,ι1++[a],_,x1.trans x2,⟨a,hh1.last a,rfl⟩,hh2,w1⟩
theorem zi6 {pins:List (Addr × Obj)}{σ:L2.St}{H:Hp}{s:Shared}{a C dx:Addr}{od:Obj}{ws:List (Str × V)}(I:Inv X pins σ H s)(h1:H a=some (XO a C dx))(h2:H dx=some (.frz od (.xd ws))) :
  ∃ox,PySem.W.InstAt s.heap a ox C (some od)/\∃mA:Str->Option Value,(∀f,PySem.W.lookIn f od=some (mA f))/\∀f,RelO (ws.lookup f) (mA f):=by
 obtain⟨vs,sl,e,_⟩:=(show ObjOk X.prog X.w H s.heap a (XO a C dx) from I.hok a _ h1).1
 obtain⟨e2,mA,n,r⟩:=(show ObjOk X.prog X.w H s.heap dx (.frz od (.xd ws)) from I.hok dx _ h2)
 obtain⟨od',ho,hl⟩:=zdS n
 rw[e2] at ho;cases ho
 exact⟨_,⟨e,rfl,rfl,e2⟩,mA,hl,r⟩
theorem zjD (G:Gd T cf k N sc X){ca:CE}{a:Expr}{f:Str}(ha:PE X a (tE X.K cf ca))(hsup:zcs a=true)(hf:T.xflds.contains f=true):PE X (.Attribute a f pos) (tE X.K cf (.fldX ca f)):=by
 intro pins s σ H Qv I ⟨δ,ι,S,Q,hs,hh,w,q⟩
 simp only[evE,zaa] at w
 refine zkL (zeU hsup f X.env _) (thn (ha pins s σ H (fun v H1=>∃b C dx od ws u,v=.ref b/\XGet X.K C/\zcH X.K C f/\H1 b=some (XO b C dx)/\H1 dx=some (.frz od (.xd ws))/\ws.lookup f=some u/\Qv u H1) I (tE.run hs hh w fun d v ι1 H1 S1 x1 hs1 hh1 r1 w1=>?_)) fun u s1 ⟨x,H1,I1,rx,b,C,dx,od,ws,v,ex,g,n,e1,e2,e3,q1⟩=>?_)
 · obtain⟨u,eu,w2⟩:=zaC w1
   cases ei:zbP S1 d with
   |none=>rw[ei] at eu;cases eu
   | some pr =>
     obtain⟨c,fs⟩:=pr
     rw[ei] at eu
     have eu:fs.lookup f=some u:=eu
     obtain⟨l,rfl,hl⟩:=zcA ei
     obtain⟨b,i1,rfl⟩:=r1
     obtain⟨b',i2,C,dx,od,ws,hC,h1,h2,rf⟩:=hh1.obj l _ hl
     rw[i1] at i2;cases i2
     obtain⟨g,n⟩:=G.tab.xtb.fl f hf c C hC
     rcases rf.look f with ⟨z,_⟩|⟨d',v',z1,z2,z3⟩
     · rw[eu] at z;cases z
     · rw[eu] at z1;cases z1
       exact⟨b,C,dx,od,ws,v',rfl,g,n,h1,h2,z2,q _ _ (Lf.up x1 (Lf.of hh1 z3 w2))⟩
 · subst ex
   obtain rfl:u=Value.ref b:=rx
   obtain⟨ox,J,mA,hl,r⟩:=zi6 I1 e1 e2
   obtain⟨u',hu,ru⟩:=RelO.some_of (v:=v) (o:=mA f) (by rw[<-e3];exact r f)
   exact zit I1.kIn J g.ga g.gh g.sb (PySem.W.findObj_own g.hd n rfl (by rw[hl,hu])) (zg3 ru) ⟨v,H1,I1.tok _,ru,q1⟩
theorem zfr (D:Value)(dv:V)(rd:∀u,RelV dv u->u=D):zaV X (.builtin "isinstance") (fun xs H Q=>∃a C dx od ws b,xs=[.ref a,dv]/\H a=some (XO a C dx)/\H dx=some (.frz od (.xd ws))/\XGet X.K C/\IsaOk X.K C/\PySem.W.kitOne X.K (.ref C) D=some b/\Q (.bl b) H):=by
 intro pins s σ H xs us Q I r h
 obtain⟨a,C,dx,od,ws,b,rfl,h1,h2,g,ok,hk,q⟩:=h
 obtain⟨u,w',rfl,rx,rc⟩:=zfw r
 cases rd w' rc
 cases (show u=Value.ref a from rx)
 obtain⟨ox,J,_⟩:=zi6 I h1 h2
 exact PySem.W.kia_one (zku (ox:=ox) (od:=od) g.ga g.gh g.sb g.hd ok.ha ok.hn ok.ht ok.hm) I.kIn J hk (fun z=>nomatch z) fun tk=>⟨.bl b,H,I.tok tk,rfl,q⟩
theorem zgR {cs:List Nat}{x:Str}{ce:CE}{t:V}{D:Value}{σ:L2.St}{H:Hp}{Qv:VK}(hD:∀(c:Nat) C,Mks.xc[c]?=some C->XGet X.K C/\IsaOk X.K C/\PySem.W.kitOne X.K (.ref C) D=some (cs.contains c))(h:tE X.K cf (.iscX cs x ce) σ H Qv) :
  tCB (fun xs H Q=>∃a C dx od ws b,xs=[.ref a,t]/\H a=some (XO a C dx)/\H dx=some (.frz od (.xd ws))/\XGet X.K C/\IsaOk X.K C/\PySem.W.kitOne X.K (.ref C) D=some b/\Q (.bl b) H) (zhC (tE X.K cf ce) (zhC (tC t) tNil)) σ H Qv:=by
 obtain⟨δ,ι,S,Q,hs,hh,w,q⟩:=h
 simp only[evE,zaa] at w
 refine tE.run hs hh w fun d v ι1 H1 S1 x1 hs1 hh1 r1 w1=>?_
 obtain⟨pr,ei,w2⟩:=zaC w1
 obtain⟨c,fs⟩:=pr
 obtain⟨l,rfl,hl⟩:=zcA ei
 obtain⟨b,i1,rfl⟩:=r1
 obtain⟨b',i2,C,dx,od,ws,hC,h1,h2,rf⟩:=hh1.obj l _ hl
 rw[i1] at i2;cases i2
 obtain⟨g,ok,kit⟩:=hD c C hC
 exact⟨b,C,dx,od,ws,_,rfl,h1,h2,g,ok,kit,q _ _ (Lf.up x1 (Lf.of (d:=.bl _) hh1 rfl w2))⟩
theorem zjB (G:Gd T cf k N sc X){cs:List Nat}{x:Str}{p2:Pos}{ce:CE}{e:Expr}(hg:Gl X "isinstance"/\X.mg "isinstance"=none)(hx:isGl sc x=true)(hd:(x == ("__debug__":Str))=false)(hi:(T.xisas.contains (x,cs) || T.xisbs.contains (x,cs))=true)
  (he:PE X e (tE X.K cf ce)) (hst:zam e=true):PE X (.Call (.Name "isinstance" p) [e,.Name x p2] [] pos) (tE X.K cf (.iscX cs x ce)):=by
 rw[Bool.or_eq_true] at hi
 rcases hi with hi|hi
 · obtain⟨D,hm,hD⟩:=G.tab.xtb.is x cs hi
   exact PE.imp (zbN (zfr (.ref D) (.ref D) fun u z=>z) hg.1 hg.2 za9 (zaO he (zaO (zex (v:=.ref D) (G.gl hx) hm rfl hd) zb6) (zal hst _ X.env)) (by decide) (by decide) (zal hst _ X.env)) fun σ H Qv h=>zgR hD h
 · obtain⟨hm,hn,t,hv,hD⟩:=G.tab.xtb.ib x cs hi
   exact PE.imp (zbN (zfr (.type t) (.ty t) fun u z=>z) hg.1 hg.2 za9 (zaO he (zaO (zgy (v:=.ty t) (G.gl hx) hm hv rfl hn hd) zb6) (zal hst _ X.env)) (by decide) (by decide) (zal hst _ X.env)) fun σ H Qv h=>zgR hD h
theorem zhE (G:Gd T cf k N sc X){c:Nat}{x f:Str}{ce:CE}{e:Expr}{np cpos:Pos}(hc:T.xcs.contains (c,x,f)=true)(hx:isGl sc x=true)(hd:(x == ("__debug__":Str))=false)(ha:PE X e (tE X.K cf ce))(hst:zam e=true) :
  PSs X (.Raise (some (.Call (.Name x np) [e] [] cpos)) none pos::rest) (tS X cf (.rais c x f ce)):=by
 obtain⟨C,fI,fd,ps,hC,hm,hk,c',F,hb⟩:=G.tab.xtb.cl c x f hc
 refine PSs.imp (zas (zhT F G.room' hb c' (G.gl hx) hm hk ha hst hd G.calm) (show PSs X rest (fun _ _ _=>False) from fun _ _ _ _ _ _ h=>h.elim)) fun E σ H ⟨δ,ι,S,Q,hs,hh,w,l⟩=>?_
 simp only[exS,zaa,W_ok] at w
 refine tE.run hs hh w fun d v ι1 H1 S1 x1 hs1 hh1 r1 w1=>?_
 intro a dx od pins s' k1 k2 k3 I' f'
 obtain⟨x2,hh2⟩:=ziV (od:=od) (f:=f) hh1 r1 hC k1 k2 k3
 exact l _ _ _ _ (x1.trans x2) hh2 w1 a σ pins s' ⟨a,hh1.last a,rfl⟩ I' f'
noncomputable def ziL (X:Cx)(sp:Sp)(t:TA):TE:=fun σ H Q=>t σ H fun vs H1=>∃E,sp vs H1 Q E/\∀pins s1 a H' s',Inv X pins σ H1 s1->Inv X pins σ H' s'->Fly s1.heap.objs.size H' s'.heap a->E (.ref a) none H'->X.xe (.ref a) s'
theorem ze6 {fa:Addr}{fd:FuncData}{ps:List Str}{sp:Sp}{x:Str}{e:Expr}{es:List Expr}{t:TA}(F:FnOk X.prog X.w X.K X.mg X.base (CXe X.prog X.w) k fa fd ps sp)(hr:Room k X.A)(hg:Gl X x)(hm:X.mg x=some (.ref fa))(hk:PySem.W.keepIn X.K (.ref fa)=true)(hb:Binds X.K fd ps [])
  (ha:PA X (e::es) t) (hdb:(x == ("__debug__":Str))=false) (he:starEach (e::es) X.env=(false,eval e X.env)::starEach es X.env) (hpl:(backTo pos (starEach es X.env)).any (·.1)=false):PE X (.Call (.Name x p) (e::es) [] pos) (ziL X sp t):=by
 intro pins s σ H Q I h
 refine wpAny_Call_Name_kw (zbD I hg hm ?_ hdb)
 refine PySem.W.callWith_K (h₀:=X.base) I.ok.mod.kin hk (thn (ha pos pins s σ H _ I h) fun us s1 ⟨vs,H1,I1,r,E,q,qx⟩=>⟨I1.kIn,?_⟩) he hpl
 have hl:(us++[]).length=ps.length:=by rw[List.append_nil,<-r.length];exact F.len _ _ _ _ q
 have hbd:=hb s1 us I1.kIn hl
 rw[List.append_nil] at hbd
 refine wpAny_call (codeAny_mono (F.run X.A X.stack s1 H1 ⟨us,[]⟩ us vs Q E hr I1.env0 hbd r q) fun r s' hq=>?_)
 cases r with
 | error x =>
   obtain⟨a,H',rfl,os,bare,un,hok,fl,hE⟩:=hq
   exact qx pins s1 a H' s' I1 (I1.call' (ch:=[]) os un hok bare (fun b z=>absurd z (by simp))) fl hE
 | ok fl =>
   cases fl with
   |ret u=>exact I1.after hq
   |next=>exact False.elim hq
   |brk=>exact False.elim hq
   |cont=>exact False.elim hq
noncomputable def XErr (X:Cx)(σ:L2.St)(ι:List Addr)(H:Hp)(d:D)(S1:R.St):Prop:=∀a ι' H' s' lo pins,Ext ι H ι' H'->RV X.K ι' H' d (.ref a)->RH X.K ι' H' S1->Inv X pins σ H' s'->Fly lo H' s'.heap a->X.s₀.heap.objs.size<=lo->lo<=s'.heap.objs.size->(∀p∈X.pn++pins,p.1<lo)->X.xe (.ref a) s'
theorem zeb (hfr:CFok cf){f:Nat}{ces:CEs}{σ:L2.St}{δ:Ev}{ι:List Addr}{H:Hp}{S S1:R.St}{ds:List D}{Qv:VK}(hs:RS X.K ι H δ σ)(hh:RH X.K ι H S)(e:evEs cf ces δ S=.ok ds S1)
  (h:match appX cf f ds S1 with|.ok d S2=>∀v ι' H',Ext ι H ι' H'->RV X.K ι' H' d v->RH X.K ι' H' S2->Qv v H'|.err d S2=>XErr X σ ι H d S2|.bad=>False):ziL X (spX X.K cf f) (tAs X.K cf ces) σ H Qv:=by
 refine tAs.run hs hh (Q:=fun ds' S'=>ds'=ds/\S'=S1) (by rw[e];exact⟨rfl,rfl⟩) fun ds' vs ι1 H1 S1' x1 hs1 hh1 r1 ⟨z1,z2⟩=>?_
 subst z1 z2
 unfold appX at h
 cases e2:cf f ds' S1'.enter with
 | ok d T' =>
   rw[e2] at h
   dsimp only at h
   refine⟨fun _ _ _=>False,⟨ι1,S1'.enter,ds',r1,hh1.enter,?_⟩,fun _ _ _ _ _ _ _ _ z=>z.elim⟩
   rw[e2]
   intro v H' ι' x r hT
   cases e3:zaU S1' d T' with
   | ok d' S2 =>
     rw[e3] at h
     obtain⟨d2,ι2,S3,x2,r2,hh2,z1,z2⟩:=zdp (Q:=fun a S'=>a=d'/\S'=S2) hh1 x r hT (hfr _ _ _ _ _ (.inl e2)).frz (by rw[e3];exact⟨rfl,rfl⟩)
     subst z1 z2
     exact h v ι2 H' (x1.trans x2) r2 hh2
   | err d' S2 =>
     exfalso
     unfold zaU at e3
     split at e3
     · cases e3
     · dsimp only at e3
       split at e3
       · split at e3
         all_goals first|(split at e3<;>cases e3)|cases e3
       · cases e3
   |bad=>rw[e3] at h;exact h.elim
 | err d T' =>
   rw[e2] at h
   dsimp only at h
   refine⟨fun v _ H'=>∃a ι',v=.ref a/\Ext ι1 H1 ι' H'/\RV X.K ι' H' d (.ref a)/\RH X.K ι' H' T',⟨ι1,S1'.enter,ds',r1,hh1.enter,?_⟩,?_⟩
   · rw[e2]
     exact fun a H' ι' x r hT=>⟨a,ι',rfl,x,r,hT⟩
   · rintro pins s1 a H' s' I1 I' fl ⟨a',ι',z,x,r,hT⟩
     cases z
     have frz:=(hfr _ _ _ _ _ (.inr e2)).frz
     obtain⟨_,_,_,_,_,g,_⟩:=id fl.ex
     exact h a ι' H' s' s1.heap.objs.size pins (x1.trans x) r (hT.keep frz) I' fl I1.sz (Nat.le_of_lt (Nat.lt_of_le_of_lt fl.lo (Heap.lt_size g))) fun p hp=>Heap.lt_size (I1.pin p hp).1
 |bad=>rw[e2] at h;exact h.elim
noncomputable def tB (X:Cx)(cf:CF)(b:TrB):TS:=fun D σ H=>∃δ ι S,RS X.K ι H δ σ/\RH X.K ι H S/\(match exT cf b δ S with
 |.ok δ' S1=>∀ι' H' σ',Ext ι H ι' H'->RS X.K ι' H' δ' σ'->RH X.K ι' H' S1->D.nx σ' H'
 |.err d S1=>XErr X σ ι H d S1
 |.bad=>False)
theorem zlv (G:Gd T cf k N sc X){f nd:Nat}{x:Str}{ps:List Str}{ces:CEs}{e:Expr}{es:List Expr}{cp:Pos}(hf:T.xfns.contains f=true)(hn:T.fns[f]?=some (x,ps,nd))(hg:isGl sc x=true)(hd:(x == ("__debug__":Str))=false)(ha:PA X (e::es) (tAs X.K cf ces))(hst:(e::es).all zam=true) :
  PSs X [.Expr (.Call (.Name x p) (e::es) [] cp) pos] (tB X cf (.run f ces)):=by
 obtain⟨fa,fd,F,hm,hk,hb⟩:=G.tab.xtb.fn f x ps nd hf hn
 rw[List.all_cons,Bool.and_eq_true] at hst
 refine PSs.imp (zas (zew (ze6 F G.room (G.gl hg) hm hk hb ha hd (zal hst.1 es X.env) (za0 hst.2)) (zcj rfl _ _ _)) zbW) fun D σ H ⟨δ,ι,S,hs,hh,h⟩=>?_
 simp only[exT] at h
 cases e1:evEs cf ces δ S with
 | ok ds S1 =>
   rw[e1] at h
   dsimp only at h
   refine zeb G.tab.frm hs hh e1 ?_
   cases e2:appX cf f ds S1 with
   |ok d S2=>rw[e2] at h;exact fun v ι' H' x' r hT=>h ι' H' σ x' (hs.ext x') hT
   |err d S2=>rw[e2] at h;exact h
   |bad=>rw[e2] at h;exact h
 |err d S1=>rw[e1] at h;exact h.elim
 |bad=>rw[e1] at h;exact h.elim
theorem zlx (G:Gd T cf k N sc X){f nd i:Nat}{x y:Str}{ps:List Str}{ces:CEs}{e:Expr}{es:List Expr}{cp p1:Pos}(hi:N[i]?=some y)(hl:zcc sc y=true)(hf:T.xfns.contains f=true)(hn:T.fns[f]?=some (x,ps,nd))(hg:isGl sc x=true)(hd:(x == ("__debug__":Str))=false)(ha:PA X (e::es) (tAs X.K cf ces))(hst:(e::es).all zam=true) :
  PSs X [.Assign [.Name y p1] (.Call (.Name x p) (e::es) [] cp) pos] (tB X cf (.asg i f ces)):=by
 obtain⟨fa,fd,F,hm,hk,hb⟩:=G.tab.xtb.fn f x ps nd hf hn
 rw[List.all_cons,Bool.and_eq_true] at hst
 refine PSs.imp (zas (ze4 (i:=i) (by rw[G.nm];exact G.nd) (by rw[G.nm];exact hi) (G.lc hl).1 (ze6 F G.room (G.gl hg) hm hk hb ha hd (zal hst.1 es X.env) (za0 hst.2)) (zcj rfl _ _ _) (G.lc hl).2) zbW) fun D σ H ⟨δ,ι,S,hs,hh,h⟩=>?_
 simp only[exT] at h
 cases e1:evEs cf ces δ S with
 | ok ds S1 =>
   rw[e1] at h
   dsimp only at h
   refine zeb G.tab.frm hs hh e1 ?_
   cases e2:appX cf f ds S1 with
   |ok d S2=>rw[e2] at h;exact fun v ι' H' x' r hT=>h ι' H' _ x' ((hs.ext x').set r i) hT
   |err d S2=>rw[e2] at h;exact h
   |bad=>rw[e2] at h;exact h
 |err d S1=>rw[e1] at h;exact h.elim
 |bad=>rw[e1] at h;exact h.elim
theorem XErr.up {σ:L2.St}{ι ι1:List Addr}{H H1:Hp}{d:D}{S1:R.St}(h:XErr X σ ι H d S1)(x:Ext ι H ι1 H1):XErr X σ ι1 H1 d S1:=fun a ι' H' s' lo pins x'=>h a ι' H' s' lo pins (x.trans x')
theorem zlw {cc:CE}{c:Expr}{A B:List Stmt}{a b:TrB}(hc:PT X c (tT X.K cf cc))(ha:PSs X A (tB X cf a))(hb:PSs X B (tB X cf b)):PSs X [.If c A B pos] (tB X cf (.ite cc a b)):=by
 refine PSs.imp (zas (zlK hc ha hb) zbW) fun D σ H ⟨δ,ι,S,hs,hh,h⟩=>?_
 simp only[exT] at h
 cases e1:evT cf cc δ S with
 | ok z S1 =>
   rw[e1] at h
   dsimp only at h
   refine tT.run hs hh (Q:=fun z' S'=>z'=z/\S'=S1) (by rw[e1];exact⟨rfl,rfl⟩) fun z' ι1 H1 S1' x1 hs1 hh1 ⟨w1,w2⟩=>?_
   subst w1 w2
   cases z' with
   | true =>
     refine⟨δ,ι1,S1',hs1,hh1,?_⟩
     simp only[if_true] at h
     cases e2:exT cf a δ S1' with
     |ok δ' S2=>rw[e2] at h;exact fun ι' H' σ' x'=>h ι' H' σ' (x1.trans x')
     |err d S2=>rw[e2] at h;exact XErr.up h x1
     |bad=>rw[e2] at h;exact h
   | false =>
     refine⟨δ,ι1,S1',hs1,hh1,?_⟩
     simp only[Bool.false_eq_true,if_false] at h
     cases e2:exT cf b δ S1' with
     |ok δ' S2=>rw[e2] at h;exact fun ι' H' σ' x'=>h ι' H' σ' (x1.trans x')
     |err d S2=>rw[e2] at h;exact XErr.up h x1
     |bad=>rw[e2] at h;exact h
 |err d S1=>rw[e1] at h;exact h.elim
 |bad=>rw[e1] at h;exact h.elim
noncomputable abbrev pnC (X:Cx)(pn:List (Addr × Obj))(E:Value->Shared->Prop):Cx:={X with pn:=pn,xe:=E}
theorem zmt {pins pn pins':List (Addr × Obj)}{E:Value->Shared->Prop}{σ:L2.St}{H:Hp}{s:Shared}(I:Inv X pins σ H s)(h:∀p∈pn++pins',p∈X.pn++pins):Inv (pnC X pn E) pins' σ H s:=
 ⟨⟨I.ok.mod,I.ok.kind,I.ok.glob,I.ok.blt,I.ok.above,I.ok.inj,I.ok.has,I.ok.cab,I.ok.hd,I.ok.frames,I.ok.stk,I.ok.exf,I.ok.bs,I.ok.bsz,I.ok.noex,I.ok.exfs,I.ok.funs,I.ok.frf⟩,I.os,I.bare,I.base,I.loc,I.cell,I.free,I.freeC,fun p hp=>I.pin p (h p hp),I.hok,I.len⟩
theorem zfb {pins pn pins':List (Addr × Obj)}{E:Value->Shared->Prop}{σ:L2.St}{H:Hp}{s:Shared}(ok:X.Ok)(I:Inv (pnC X pn E) pins' σ H s)(h:∀p∈X.pn++pins,p∈pn++pins'):Inv X pins σ H s:=
 ⟨ok,I.os,I.bare,I.base,I.loc,I.cell,I.free,I.freeC,fun p hp=>I.pin p (h p hp),I.hok,I.len⟩
theorem RS.unset {K:PySem.W.Frag}{ι:List Addr}{H:Hp}{δ:Ev}{σ:L2.St}(h:RS K ι H δ σ)(i:Nat):RS K ι H (δ.set i none) (σ.set i none):=by
 refine⟨by simp[h.1],fun j e hj=>?_⟩
 by_cases hij:i=j
 · subst hij
   rw[List.getElem?_set] at hj
   simp only[if_true] at hj
   split at hj<;>cases hj
 · rw[List.getElem?_set_ne hij] at hj⊢
   exact h.2 j e hj
theorem zla (G:Gd T cf k N sc X){b:TrB}{body:List Stmt}{xR n y:Str}{ie ix:Nat}{np p1 p2 p3 hp:Pos}{r:CS}(hb:∀pn E,PassesOwn (model X.prog X.w) X.A X.env E->PSs (pnC X pn E) body (tB (pnC X pn E) cf b))(stk:X.stack=X.env::X.outer)(fr:X.env.frame=some X.env.locals)
  (ht:T.xtrs.contains xR=true) (hg:isGl sc xR=true) (hdb:(xR == ("__debug__":Str))=false) (hn:N[ie]?=some n) (hy:N[ix]?=some y) (nl:sc.names.lookup n=some .local) (yl:zcc sc y=true) (n1:(n == ("__debug__":Str))=false) (n2:(n == ("__classdict__":Str))=false) (hij:ie≠ix) (hr:PSs X rest (tS X cf r)) :
  PSs X (.Try body [.ExceptHandler (some (.Name xR np)) (some n) [.Assign [.Name y p1] (.Name n p2) p3] hp] [] [] pos::rest) (tS X cf (.tryS b xR ie ix r)):=by
 obtain⟨CR,hm,hx⟩:=G.tab.xtb.tr xR ht
 have ps:PS X (.Try body [.ExceptHandler (some (.Name xR np)) (some n) [.Assign [.Name y p1] (.Name n p2) p3] hp] [] [] pos) (fun D σ H=>∃δ ι S,RS X.K ι H δ σ/\RH X.K ι H S/\(match exT cf b δ S with
   |.ok δ' S1=>∀ι' H' σ',Ext ι H ι' H'->RS X.K ι' H' δ' σ'->RH X.K ι' H' S1->D.nx σ' H'
   |.err d S1=>∀a ι' H',Ext ι H ι' H'->RV X.K ι' H' d (.ref a)->RH X.K ι' H' S1->(∃c fs,zbP S1 d=some (c,fs))/\D.nx ((σ.set ie none).set ix (some (.ref a))) H'
   |.bad=>False)):=by
  intro pins s σ H D I ⟨δ,ι,S,hs,hh,h⟩
  refine wpAny_Try_except ?_
  refine wpAny_mono (hb (X.pn++pins) (fun e s1=>wpAny (model X.prog X.w) X.A (noteFrame e X.env) (fun _ s2=>wpAny (model X.prog X.w) X.A (setFlight e none) (fun _ s3=>wpAny (model X.prog X.w) X.A (handleBy e X.env [.ExceptHandler (some (.Name xR np)) (some n) [.Assign [.Name y p1] (.Name n p2) p3] hp]) (SP X pins D) X.xe s3) X.xe s2) X.xe s1) PassesOwn.looking [] s σ H {nx:=D.nx,rt:=fun _ _=>False} (zmt I (by simp)) ⟨δ,ι,S,hs,hh,?_⟩) (fun f s1 z=>?_) fun _ _ z=>z
  · cases e:exT cf b δ S with
    |ok δ' S1=>rw[e] at h;exact h
    |bad=>rw[e] at h;exact h
    | err d S1 =>
      rw[e] at h
      intro a ι' H' s' lo pins' x' rv hT I' fl l1 l2 l3
      have J:Inv X pins σ H' s':=zfb I.ok I' (fun p hp=>List.mem_append_left _ hp)
      obtain⟨⟨c,fs,ec⟩,q⟩:=h a ι' H' x' rv hT
      obtain⟨l,rfl,hl⟩:=zcA ec
      obtain⟨b',i1,z⟩:=rv
      obtain⟨b2,i2,C,dx,od,ws,hC,h1,h2,rf⟩:=hT.obj l _ hl
      rw[i1] at i2;cases i2
      cases z
      exact ziB J stk fr fl l1 l2 (fun p hp=>l3 p (List.mem_append_left _ hp)) h1 (hx c C hC) (G.gl hg) hm hdb (by rw[G.nm];exact G.nd) (by rw[G.nm];exact hn) (by rw[G.nm];exact hy) (G.loc n nl) (G.lc yl).1 (G.lc yl).2 n1 n2 hij q
  · cases f with
    | next =>
      obtain⟨σ',H',I',q⟩:=z
      exact wpAny_execs_nil ⟨σ',H',zfb I.ok I' (fun p hp=>List.mem_append_left _ hp),q⟩
    |ret u=>obtain⟨_,_,_,_,_,z⟩:=z;exact z.elim
    |brk=>obtain⟨_,_,_,z⟩:=z;exact z.elim
    |cont=>obtain⟨_,_,_,z⟩:=z;exact z.elim
 refine PSs.imp (zas ps hr) fun E σ H ⟨δ,ι,S,Q,hs,hh,w,l⟩=>⟨δ,ι,S,hs,hh,?_⟩
 simp only[exS] at w
 cases e:exT cf b δ S with
 |ok δ' S1=>rw[e] at w;exact fun ι' H' σ' x' hs' hT=>⟨δ',ι',S1,Q,hs',hT,w,l.up x'⟩
 |bad=>rw[e] at w;exact w.elim
 | err d S1 =>
   rw[e] at w
   intro a ι' H' x' rv hT
   dsimp only at w
   split at w
   · rename_i c
     obtain⟨⟨c,fs⟩,ec⟩:=Option.isSome_iff_exists.mp c
     exact⟨⟨c,fs,ec⟩,(δ.set ie none).set ix (some d),ι',S1,Q,((hs.ext x').unset ie).set rv ix,hT,w,l.up x'⟩
   · exact w.elim
end
end R
end
section
namespace R
open PySem PySem.Spec PyProof.Rows L2
variable [Mks]
noncomputable def zms:CL->Bool|.comp ..=>true|_=>false
noncomputable def isR1:CL->Bool|.rng1 _=>true|_=>false
noncomputable def zgU:CL->Bool|.rng1 _=>true|.enum _=>true|_=>false
noncomputable def zgQ:CL->Bool|.enum _=>true|_=>false
noncomputable def zgS:Expr->Bool|.Tuple _ _ _=>true|_=>false
noncomputable def zbu:Expr->List Str
 |.Name x _=>[x]
 |.Tuple es _ _=>es.filterMap fun|.Name x _=>some x|_=>none
 |_=>[]
noncomputable def zkF (sc scope:Scope)(N:List Str)(js:List Nat):Bool:=
 decide (scope.kind=.function)&&scope.names.all (fun y=>decide (y.2≠.cell))&&scope.names.all (fun y=>decide (y.2≠.local) || decide (scope.names.lookup y.1=some .local))
  && scope.names.all (fun y=>decide (y.2≠.free) || decide (sc.names.lookup y.1=some .cell) || decide (sc.names.lookup y.1=some .free))&&js.all (fun j=>decide (scope.names.lookup (N.getD j "")=some .free)&&decide (j<N.length))
noncomputable def nmB (x:Str):Bool:=!(x == ("__debug__":Str))&&!(x == ("__classdict__":Str))&&!(x == ("__name__":Str))
noncomputable def tyB (t:String)(y:Str):Bool:=(t == "bool"&&y == ("bool":Str)) || (t == "int"&&y == ("int":Str)) || (t == "str"&&y == ("str":Str)) || (t == "list"&&y == ("list":Str)) || (t == "tuple"&&y == ("tuple":Str)) || (t == "dict"&&y == ("dict":Str))
noncomputable def biB:Bi->Str->Nat->Bool
 |.len,x,n=>x == ("len":Str)&&n == 1
 |.abs,x,n=>x == ("abs":Str)&&n == 1
 |.max2,x,n=>x == ("max":Str)&&n == 2
 |.min2,x,n=>x == ("min":Str)&&n == 2
 |.isin _,_,_=>false
noncomputable def zaY:Expr->Option Str|.Name x _=>some x|_=>none
noncomputable def zco:Expr->Option Const|.Constant c _ _=>some c|_=>none
noncomputable def zfD:Expr->Option (Expr × Operator × Expr)|.BinOp l o r _=>some (l,o,r)|_=>none
noncomputable def rdUn:Expr->Option (UnaryOp × Expr)|.UnaryOp o x _=>some (o,x)|_=>none
noncomputable def zdI:Expr->Option (Expr × List CmpOp × List Expr)|.Compare l os rs _=>some (l,os,rs)|_=>none
noncomputable def zb5:Expr->Option (BoolOp × List Expr × Pos)|.BoolOp o vs p=>some (o,vs,p)|_=>none
noncomputable def rdIf:Expr->Option (Expr × Expr × Expr)|.IfExp t x y _=>some (t,x,y)|_=>none
noncomputable def zem:Expr->Option (List Expr)|.Tuple xs _ _=>some xs|_=>none
noncomputable def zdF:Expr->Option (List Expr)|.List xs _=>some xs|_=>none
noncomputable def zen:Expr->Option (Expr × Expr)|.Subscript x i _=>some (x,i)|_=>none
noncomputable def rdSl:Expr->Option (Option Expr × Option Expr)|.Slice l u st _=>(match st with|none=>some (l,u)|some _=>none)|_=>none
noncomputable def zbw:Expr->Option (Expr × List Expr × List Keyword × Pos)|.Call f as ks p=>some (f,as,ks,p)|_=>none
noncomputable def zbJ:Expr->Option (Expr × Str × Pos)|.Attribute o x p=>some (o,x,p)|_=>none
noncomputable def rdLC:Expr->Option (Expr × List Comprehension × Scope × Pos)|.ListComp e gs sc p=>some (e,gs,sc,p)|_=>none
section
variable {e l r x y i f:Expr} {xs rs as:List Expr} {ks:List Keyword} {p:Pos}
theorem zaA {n:Str}(h:zaY e=some n):∃p,e=.Name n p:=by cases e<;>first|(cases h;exact⟨_,rfl⟩)|cases h
theorem zeq {c:Const}(h:zco e=some c):∃j p,e=.Constant c j p:=by cases e<;>first|(cases h;exact⟨_,_,rfl⟩)|cases h
theorem zdJ {o:Operator}(h:zfD e=some (l,o,r)):∃p,e=.BinOp l o r p:=by cases e<;>first|(cases h;exact⟨_,rfl⟩)|cases h
theorem zdd {o:UnaryOp}(h:rdUn e=some (o,x)):∃p,e=.UnaryOp o x p:=by cases e<;>first|(cases h;exact⟨_,rfl⟩)|cases h
theorem zbI {os:List CmpOp}(h:zdI e=some (l,os,rs)):∃p,e=.Compare l os rs p:=by cases e<;>first|(cases h;exact⟨_,rfl⟩)|cases h
theorem zbp {o:BoolOp}(h:zb5 e=some (o,xs,p)):e=.BoolOp o xs p:=by cases e<;>first|(cases h;rfl)|cases h
theorem zhL (h:rdIf e=some (l,x,y)):∃p,e=.IfExp l x y p:=by cases e<;>first|(cases h;exact⟨_,rfl⟩)|cases h
theorem zcm (h:zem e=some xs):∃j p,e=.Tuple xs j p:=by cases e<;>first|(cases h;exact⟨_,_,rfl⟩)|cases h
theorem zfC (h:zdF e=some xs):∃p,e=.List xs p:=by cases e<;>first|(cases h;exact⟨_,rfl⟩)|cases h
theorem zcn (h:zen e=some (x,i)):∃p,e=.Subscript x i p:=by cases e<;>first|(cases h;exact⟨_,rfl⟩)|cases h
theorem zhK {a b:Option Expr}(h:rdSl e=some (a,b)):∃p,e=.Slice a b none p:=by
 cases e with
 | Slice l u st p =>
   cases st with
   |none=>cases h;exact⟨_,rfl⟩
   |some _=>cases h
 |_=>cases h
theorem zbU (h:zbw e=some (f,as,ks,p)):e=.Call f as ks p:=by cases e<;>first|(cases h;rfl)|cases h
theorem zbV {n:Str}(h:zbJ e=some (x,n,p)):e=.Attribute x n p:=by cases e<;>first|(cases h;rfl)|cases h
theorem ze3 {gs:List Comprehension}{sc:Scope}(h:rdLC e=some (x,gs,sc,p)):e=.ListComp x gs sc p:=by cases e<;>first|(cases h;rfl)|cases h
end
theorem zac {α:Type}{o:Option α}{f:α->Bool}(h:o.any f=true):∃x,o=some x/\f x=true:=by
 cases o with
 |none=>cases h
 |some x=>exact⟨x,rfl,h⟩
noncomputable def one {α:Type}:List α->Option α | [x]=>some x|_=>none
theorem zaG {α:Type}{xs:List α}{x:α}(h:one xs=some x):xs=[x]:=by
 match xs,h with
 | [y],h=>cases h;rfl
noncomputable def two {α:Type}:List α->Option (α × α) | [x,y]=>some (x,y)|_=>none
theorem two_inv {α:Type}{xs:List α}{x y:α}(h:two xs=some (x,y)):xs=[x,y]:=by
 match xs,h with
 | [a,b],h=>cases h;rfl
noncomputable def zaK (e:Expr):Option (Str × List Expr):=(zbw e).bind fun q=>if q.2.2.1.isEmpty then (zaY q.1).map fun x=>(x,q.2.1) else none
theorem zaF {e:Expr}{x:Str}{as:List Expr}(h:zaK e=some (x,as)):∃p2 p,e=.Call (.Name x p2) as [] p:=by
 unfold zaK at h
 cases q:zbw e with
 |none=>rw[q] at h;cases h
 | some z =>
   obtain⟨f,bs,ks,p⟩:=z
   rw[q] at h
   dsimp only[Option.bind_some] at h
   split at h
   · rename_i c
     cases q2:zaY f with
     |none=>rw[q2] at h;cases h
     | some y =>
       rw[q2] at h
       obtain⟨p2,rfl⟩:=zaA q2
       cases ks with
       |cons _ _=>cases c
       |nil=>cases h;exact⟨p2,p,zbU q⟩
   · cases h
noncomputable def zaL (e:Expr):Option (Str × Expr):=(zaK e).bind fun q=>(one q.2).map fun a=>(q.1,a)
theorem zaz {e a:Expr}{x:Str}(h:zaL e=some (x,a)):∃p2 p,e=.Call (.Name x p2) [a] [] p:=by
 unfold zaL at h
 cases q:zaK e with
 |none=>rw[q] at h;cases h
 | some z =>
   obtain⟨y,bs⟩:=z
   rw[q] at h
   dsimp only[Option.bind_some] at h
   cases q2:one bs with
   |none=>rw[q2] at h;cases h
   | some b =>
     rw[q2] at h
     cases h
     rw[zaG q2] at q
     exact zaF q
noncomputable def zcR (e:Expr):Option (Expr × Str × Pos × Expr × Pos):=(zbw e).bind fun q=>if q.2.2.1.isEmpty then (zbJ q.1).bind fun a=>(one q.2.1).map fun y=>(a.1,a.2.1,a.2.2,y,q.2.2.2) else none
theorem zfB {e o a:Expr}{x:Str}{ap cp:Pos}(h:zcR e=some (o,x,ap,a,cp)):e=.Call (.Attribute o x ap) [a] [] cp:=by
 unfold zcR at h
 cases q:zbw e with
 |none=>rw[q] at h;cases h
 | some z =>
   obtain⟨f,bs,ks,p⟩:=z
   rw[q] at h
   dsimp only[Option.bind_some] at h
   split at h
   · rename_i c
     cases q2:zbJ f with
     |none=>rw[q2] at h;cases h
     | some y =>
       obtain⟨o',x',ap'⟩:=y
       rw[q2] at h
       dsimp only[Option.bind_some] at h
       cases q3:one bs with
       |none=>rw[q3] at h;cases h
       | some b =>
         rw[q3] at h
         cases h
         cases ks with
         |cons _ _=>cases c
         |nil=>rw[zbU q,zbV q2,zaG q3]
   · cases h
noncomputable def zbT (e:Expr):Option (Expr × Str × Pos × List Expr × Pos):=(zbw e).bind fun q=>if q.2.2.1.isEmpty then (zbJ q.1).map fun a=>(a.1,a.2.1,a.2.2,q.2.1,q.2.2.2) else none
theorem zep {e o:Expr}{as:List Expr}{x:Str}{ap cp:Pos}(h:zbT e=some (o,x,ap,as,cp)):e=.Call (.Attribute o x ap) as [] cp:=by
 unfold zbT at h
 cases q:zbw e with
 |none=>rw[q] at h;cases h
 | some z =>
   obtain⟨f,bs,ks,p⟩:=z
   rw[q] at h
   dsimp only[Option.bind_some] at h
   split at h
   · rename_i c
     cases q2:zbJ f with
     |none=>rw[q2] at h;cases h
     | some y =>
       obtain⟨o',x',ap'⟩:=y
       rw[q2] at h
       cases h
       cases ks with
       |cons _ _=>cases c
       |nil=>rw[zbU q,zbV q2]
   · cases h
noncomputable def fnB (T:Tab)(f j:Nat)(x:Str):Bool:=match T.fns[f]? with|some (y,_,nd)=>(y == x)&&decide (j<=nd)|none=>false
noncomputable def conG (T:Tab)(d:D)(x:Str):Bool:=match T.cons.lookup x with|some d'=>eqC d' d|none=>false
noncomputable def zgV:CE->Bool|.con _=>true|_=>false
noncomputable def zki:CL->Bool|.comp ..=>true|_=>false
noncomputable def zgT:CE->Bool|.tst (.con (.bl true))=>true|_=>false
noncomputable def zj6:CEs->Bool|.cons _ .nil=>true|_=>false
noncomputable def znE:CEs->Bool|.nil=>true|_=>false
noncomputable def mtN:Mt->Str->Bool
 |.append,x=>x == ("append":Str)
 |.popAt,x=>x == ("pop":Str)
 |.count,x=>x == ("count":Str)
noncomputable def znN:Bi->Option String|.isin t=>some t|_=>none
noncomputable def tgB (sc:Scope)(N:List Str)(g:List Nat)(tg:Expr):Bool:=match zaY tg with
 |some x=>(match one g with|some i=>(N[i]? == some x)&&zcc sc x|none=>false)
 |none=>(zem tg).any fun es=>decide (2<=g.length)&&zbx sc N g es
mutual
noncomputable def chkE (T:Tab):CE->List Str->Scope->Expr->Bool
 |.loc i,N,sc,e=>(zaY e).any fun x=>(N[i]? == some x)&&zig sc x&&nmB x
 |.con d,_,sc,e=>(zco e).any (fun c=>conB d c) || (zaY e).any fun x=>isGl sc x&&conG T d x&&nmB x
 |.tst _,_,_,_=>false
 |.bin op a b,N,sc,e=>(zfD e).any fun q=>decide (q.2.1=op)&&chkE T a N sc q.1&&chkE T b N sc q.2.2
 |.neg a,N,sc,e=>(rdUn e).any fun q=>decide (q.1=.USub)&&chkE T a N sc q.2
 |.nt a,N,sc,e=>(rdUn e).any fun q=>decide (q.1=.Not)&&chkE T a N sc q.2
 |.cmp op a b,N,sc,e=>(zdI e).any fun q=>decide (q.2.1=[op])&&(one q.2.2).any fun r=>zaJ r&&chkE T a N sc q.1&&chkE T b N sc r
 |.cmp2 op op' a b c,N,sc,e=>(zdI e).any fun q=>decide (q.2.1=[op,op'])&&(two q.2.2).any fun r=>zaJ r.1&&zaJ r.2&&chkE T a N sc q.1&&chkE T b N sc r.1&&chkE T c N sc r.2
 |.and a b,N,sc,e=>(zb5 e).any fun q=>decide (q.1=.And)&&(match q.2.1 with
  |x::y::rest=>chkE T a N sc x&&(if rest.isEmpty then chkE T b N sc y else chkE T b N sc (.BoolOp .And (y::rest) q.2.2))
  |_=>false)
 |.or a b,N,sc,e=>(zb5 e).any fun q=>decide (q.1=.Or)&&(match q.2.1 with
  |x::y::rest=>chkE T a N sc x&&(if rest.isEmpty then chkE T b N sc y else chkE T b N sc (.BoolOp .Or (y::rest) q.2.2))
  |_=>false)
 |.ite c a b,N,sc,e=>(rdIf e).any fun q=>chkT T c N sc q.1&&chkE T a N sc q.2.1&&chkE T b N sc q.2.2
 |.tup es,N,sc,e=>(zem e).any fun xs=>zbl T es N sc xs
 |.lst es,N,sc,e=>(zdF e).any fun xs=>zbl T es N sc xs
 |.insL o a b,N,sc,e=>(zbT e).any fun q=>(two q.2.2.2.1).any fun z=>(q.2.1 == ("insert":Str))&&zam z.1&&zam z.2&&zcs q.1&&(q.2.2.1.endLine == q.2.2.2.2.line)&&chkE T o N sc q.1&&chkE T a N sc z.1&&chkE T b N sc z.2
 |.ix a b,N,sc,e=>(zen e).any fun q=>zdi q.2&&chkE T a N sc q.1&&chkE T b N sc q.2
 |.mkX c x f a,N,sc,e=>(zaL e).any fun q=>decide (q.1=x)&&isGl sc x&&nmB x&&T.xcs.contains (c,x,f)&&zam q.2&&chkE T a N sc q.2
 |.fldX a f,N,sc,e=>(zbJ e).any fun q=>decide (q.2.1=f)&&zcs q.1&&T.xflds.contains f&&chkE T a N sc q.1
 |.iscX cs x a,N,sc,e=>(zaK e).any fun q=>(two q.2).any fun z=>(zaY z.2).any fun y=>(q.1 == ("isinstance":Str))&&bltB T sc q.1&&decide (y=x)&&isGl sc x&&nmB x&&(T.xisas.contains (x,cs) || T.xisbs.contains (x,cs))&&zam z.1&&chkE T a N sc z.1
 |.rep a b,N,sc,e=>(zfD e).any fun q=>decide (q.2.1=.Mult)&&chkE T a N sc q.1&&chkE T b N sc q.2.2
 |.sl a ml mh lo hi,N,sc,e=>(zen e).any fun q=>(rdSl q.2).any fun s=>chkE T a N sc q.1
  && (match s.1 with|none=>!ml&&zgV lo|some e=>ml&&chkE T lo N sc e)
  && (match s.2 with|none=>!mh&&zgV hi|some e=>mh&&chkE T hi N sc e)
 |.call f j es,N,sc,e=>(zaK e).any fun q=>isGl sc q.1&&nmB q.1&&fnB T f j q.1&&(!q.2.isEmpty || znE es)&&zbl T es N sc q.2
 |.bi b es,N,sc,e=>(zaK e).any fun q=>bltB T sc q.1&&nmB q.1&&(match znN b with
  |some t=>(two q.2).any fun z=>(zaY z.2).any fun y=>(q.1 == ("isinstance":Str))&&tyB t y&&bltB T sc y&&nmB y&&zj6 es&&zbl T es N sc [z.1]
  |none=>biB b q.1 q.2.length&&!q.2.isEmpty&&zbl T es N sc q.2)
 |.mt m o es,N,sc,e=>(zcR e).any fun q=>mtN m q.2.1&&zcs q.1&&(q.2.2.1.endLine == q.2.2.2.2.line)&&zj6 es&&chkE T o N sc q.1&&zbl T es N sc [q.2.2.2.1]
 |.mkL l,N,sc,e=>if zki l then (if (rdLC e).isSome then chkL T l N sc e else (zaL e).any fun q=>(q.1 == ("list":Str))&&bltB T sc q.1&&zam q.2&&chkL T l N sc q.2)
  else (zaL e).any fun q=>(q.1 == ("list":Str))&&bltB T sc q.1&&zam q.2&&(!(zgU l) || isR1 l)&&chkL T l N sc q.2
 |.mkT l,N,sc,e=>(zaL e).any fun q=>(q.1 == ("tuple":Str))&&bltB T sc q.1&&zam q.2&&(!(zgU l))&&chkL T l N sc q.2
 |.all l,N,sc,e=>(zaL e).any fun q=>(q.1 == ("all":Str))&&bltB T sc q.1&&zam q.2&&!(zgU l)&&chkL T l N sc q.2
noncomputable def zbl (T:Tab):CEs->List Str->Scope->List Expr->Bool
 |.nil,_,_,es=>es.isEmpty
 |.cons a r,N,sc,es=>(match es with | []=>false|e::es=>zam e&&chkE T a N sc e&&zbl T r N sc es)
noncomputable def chkT (T:Tab):CE->List Str->Scope->Expr->Bool
 |.cmp op a b,N,sc,e=>(zdI e).any fun q=>decide (q.2.1=[op])&&(one q.2.2).any fun r=>zaJ r&&chkE T a N sc q.1&&chkE T b N sc r
 |.cmp2 op op' a b c,N,sc,e=>(zdI e).any fun q=>decide (q.2.1=[op,op'])&&(two q.2.2).any fun r=>zaJ r.1&&zaJ r.2&&chkE T a N sc q.1&&chkE T b N sc r.1&&chkE T c N sc r.2
 |.nt a,N,sc,e=>(rdUn e).any fun q=>decide (q.1=.Not)&&chkT T a N sc q.2
 |.and a b,N,sc,e=>(zb5 e).any fun q=>decide (q.1=.And)&&(match q.2.1 with
  |x::y::rest=>chkT T a N sc x&&(if rest.isEmpty then chkT T b N sc y else chkT T b N sc (.BoolOp .And (y::rest) q.2.2))
  |_=>false)
 |.or a b,N,sc,e=>(zb5 e).any fun q=>decide (q.1=.Or)&&(match q.2.1 with
  |x::y::rest=>chkT T a N sc x&&(if rest.isEmpty then chkT T b N sc y else chkT T b N sc (.BoolOp .Or (y::rest) q.2.2))
  |_=>false)
 |.tst a,N,sc,e=>ze5 e&&chkE T a N sc e
 |_,_,_,_=>false
noncomputable def chkL (T:Tab):CL->List Str->Scope->Expr->Bool
 |.val a,N,sc,e=>zaJ e&&chkE T a N sc e
 |.rng1 a,N,sc,e=>(zaL e).any fun q=>(q.1 == ("range":Str))&&bltB T sc q.1&&zam q.2&&chkE T a N sc q.2
 |.enum a,N,sc,e=>(zaL e).any fun q=>(q.1 == ("enumerate":Str))&&bltB T sc q.1&&zam q.2&&chkE T a N sc q.2
 |.comp nt js g it c e,N,sc,ex=>(rdLC ex).any fun q=>(one q.2.1).any fun z=>decide (z.is_async=0)&&zkF sc q.2.2.1 N js&&(zaJ z.iter&&(zgS z.target || !(zgQ it)))&&chkL T it N sc z.iter&&decide ((zbu z.target).length=nt)&&decide ((capN N (zbu z.target) js).Nodup)
  && tgB q.2.2.1 (capN N (zbu z.target) js) g z.target
  && (if z.ifs.isEmpty then zgT c else (one z.ifs).any fun t=>chkT T c (capN N (zbu z.target) js) q.2.2.1 t)
  && chkE T e (capN N (zbu z.target) js) q.2.2.1 q.1
end
noncomputable def zfE:Stmt->Option (Expr × Expr × Pos)|.Assign tgs v p=>(one tgs).map fun t=>(t,v,p)|_=>none
noncomputable def zjK:Stmt->Option (Expr × List Stmt × List Stmt)|.If e a b _=>some (e,a,b)|_=>none
noncomputable def zjL:Stmt->Option (Expr × Expr × List Stmt)|.For tg it b els _=>if els.isEmpty then some (tg,it,b) else none|_=>none
noncomputable def zjJ:Stmt->Option Expr|.Return v _=>v|_=>none
noncomputable def zjM:Stmt->Option Expr|.Expr v _=>some v|_=>none
section
variable {s:Stmt} {e v tg it:Expr} {a b:List Stmt} {p:Pos}
theorem zbK (h:zfE s=some (tg,v,p)):s=.Assign [tg] v p:=by
 cases s with
 | Assign tgs v p =>
   simp only[zfE] at h
   cases q:one tgs with
   |none=>rw[q] at h;cases h
   |some t=>rw[q] at h;cases h;rw[zaG q]
 |_=>cases h
theorem zdG (h:zjK s=some (e,a,b)):∃p,s=.If e a b p:=by cases s<;>first|(cases h;exact⟨_,rfl⟩)|cases h
theorem zgq (h:zjL s=some (tg,it,b)):∃p,s=.For tg it b [] p:=by
 cases s with
 | For tg it b els p =>
   simp only[zjL] at h
   cases els with
   |nil=>cases h;exact⟨_,rfl⟩
   |cons _ _=>cases h
 |_=>cases h
theorem zgn (h:zjJ s=some e):∃p,s=.Return (some e) p:=by
 cases s with
 |Return v p=>simp only[zjJ] at h;subst h;exact⟨_,rfl⟩
 |_=>cases h
theorem zdH (h:zjM s=some e):∃p,s=.Expr e p:=by cases s<;>first|(cases h;exact⟨_,rfl⟩)|cases h
end
noncomputable def zgo:Stmt->Option (Str × Expr)|.Raise (some e) none _=>zaL e|_=>none
theorem zeo {s:Stmt}{x:Str}{a:Expr}(h:zgo s=some (x,a)):∃np cp p,s=.Raise (some (.Call (.Name x np) [a] [] cp)) none p:=by
 cases s with
 | Raise e c p =>
   cases e with
   |none=>cases h
   | some e =>
     cases c with
     |none=>obtain⟨p1,p2,rfl⟩:=zaz h;exact⟨_,_,_,rfl⟩
     |some c=>cases h
 |_=>cases h
noncomputable def zhM:ExceptHandler->Option (Str × Str × Str)|.ExceptHandler (some (.Name xR _)) (some n) [.Assign [.Name y _] (.Name m _) _] _=>if m=n then some (xR,n,y) else none|_=>none
theorem zgp {h:ExceptHandler}{xR n y:Str}(e:zhM h=some (xR,n,y)):∃np p1 p2 p3 hp,h=.ExceptHandler (some (.Name xR np)) (some n) [.Assign [.Name y p1] (.Name n p2) p3] hp:=by
 unfold zhM at e
 split at e
 · split at e
   · rename_i z;subst z;cases e;exact⟨_,_,_,_,_,rfl⟩
   · cases e
 · cases e
noncomputable def zjI:Stmt->Option (List Stmt × Str × Str × Str)|.Try body hs els fin _=>if els.isEmpty&&fin.isEmpty then (one hs).bind fun h=>(zhM h).map fun q=>(body,q) else none|_=>none
theorem zgm {s:Stmt}{b:List Stmt}{xR n y:Str}(h:zjI s=some (b,xR,n,y)):∃np p1 p2 p3 hp p,s=.Try b [.ExceptHandler (some (.Name xR np)) (some n) [.Assign [.Name y p1] (.Name n p2) p3] hp] [] [] p:=by
 cases s with
 | Try body hs els fin p =>
   simp only[zjI] at h
   split at h
   · rename_i c
     rw[Bool.and_eq_true,List.isEmpty_iff,List.isEmpty_iff] at c
     obtain⟨c1,c2⟩:=c
     subst c1 c2
     cases e:one hs with
     |none=>rw[e] at h;cases h
     | some hd =>
       rw[e] at h
       cases zaG e
       cases e2:zhM hd with
       |none=>simp[e2] at h
       | some q =>
         obtain⟨a,b',c⟩:=q
         simp[e2] at h
         obtain⟨rfl,rfl,rfl,rfl⟩:=h
         obtain⟨np,p1,p2,p3,hp,rfl⟩:=zgp e2
         exact⟨np,p1,p2,p3,hp,p,rfl⟩
   · cases h
 |_=>cases h
noncomputable def chkB (T:Tab):TrB->List Str->Scope->List Stmt->Bool
 |.run f es,N,sc,st=>(one st).any fun s=>(zjM s).any fun e=>(zaK e).any fun q=>isGl sc q.1&&nmB q.1&&T.xfns.contains f&&fnB T f 0 q.1&&!q.2.isEmpty&&zbl T es N sc q.2
 |.asg i f es,N,sc,st=>(one st).any fun s=>(zfE s).any fun z=>(zaY z.1).any fun y=>(zaK z.2.1).any fun q=>(N[i]? == some y)&&zcc sc y&&isGl sc q.1&&nmB q.1&&T.xfns.contains f&&fnB T f 0 q.1&&!q.2.isEmpty&&zbl T es N sc q.2
 |.ite c a b,N,sc,st=>(one st).any fun s=>(zjK s).any fun q=>chkT T c N sc q.1&&chkB T a N sc q.2.1&&chkB T b N sc q.2.2
noncomputable def chkS (T:Tab):CS->List Str->Scope->List Stmt->Bool
 |.nil,_,_,st=>st.isEmpty
 |.stop,_,_,_=>true
 |.asg i e r,N,sc,st=>(match st with | []=>false|s::rest=>(zfE s).any fun q=>(zaY q.1).any fun x=>(N[i]? == some x)&&zcc sc x&&chkE T e N sc q.2.1&&chkS T r N sc rest)
 |.asgT g e r,N,sc,st=>(match st with | []=>false|s::rest=>(zfE s).any fun q=>(zem q.1).any fun es=>((zaY q.2.1).isSome || (zaK q.2.1).isSome)&&decide (2<=g.length)&&zbx sc N g es&&chkE T e N sc q.2.1&&chkS T r N sc rest)
 |.setIx a b e r,N,sc,st=>(match st with | []=>false|s::rest=>(zfE s).any fun q=>(zen q.1).any fun z=>zbh q.2.1&&chkE T a N sc z.1&&chkE T b N sc z.2&&chkE T e N sc q.2.1&&chkS T r N sc rest)
 |.ifS c t u r,N,sc,st=>(match st with | []=>false|s::rest=>(zjK s).any fun q=>chkT T c N sc q.1&&chkS T t N sc q.2.1&&chkS T u N sc q.2.2&&chkS T r N sc rest)
 |.forS g l b r,N,sc,st=>(match st with | []=>false|s::rest=>(zjL s).any fun q=>zaJ q.2.1&&chkL T l N sc q.2.1&&chkS T b N sc q.2.2&&chkS T r N sc rest&&(tgB sc N g q.1&&(zgS q.1 || !(zgQ l))))
 |.ret e r,N,sc,st=>(match st with | []=>false|s::rest=>(zjJ s).any fun v=>chkE T e N sc v&&chkS T r N sc rest)
 |.expr e r,N,sc,st=>(match st with | []=>false|s::rest=>(zjM s).any fun v=>zbh v&&chkE T e N sc v&&chkS T r N sc rest)
 |.rais c x f a,N,sc,st=>(match st with | []=>false|s::_=>(zgo s).any fun q=>decide (q.1=x)&&isGl sc x&&nmB x&&T.xcs.contains (c,x,f)&&zam q.2&&chkE T a N sc q.2)
 |.tryS b x ie ix r,N,sc,st=>(match st with | []=>false|s::rest=>(zjI s).any fun q=>decide (q.2.1=x)&&isGl sc x&&nmB x&&T.xtrs.contains x&&(N[ie]? == some q.2.2.1)&&(N[ix]? == some q.2.2.2)&&decide (sc.names.lookup q.2.2.1=some .local)&&zcc sc q.2.2.2&&nmB q.2.2.1&&decide (ie≠ix)&&chkB T b N sc q.1&&chkS T r N sc rest)
end R
end
section
set_option maxHeartbeats 8000000
namespace R
open PySem PySem.Spec PyProof.Rows L2
variable [Mks]
section
variable {T:Tab} {cf:CF} {k:Nat} {N:List Str} {sc:Scope} {X:Cx}
theorem zbi (env:Env)(x:Str):∀{names:List (Str × NameKind)} {k0:NameKind},names.lookup x=some k0->k0≠.free->(names.map (zbv env)).lookup x=some k0
 | [],_,h,_=>by simp at h
 | y :: r, k0, h, hk => by
   rw[List.map_cons]
   have f1:=zcl env y
   have f2:=zck env y
   obtain⟨n,k1⟩:=y
   generalize hz:zbv env (n,k1)=z at *
   obtain⟨zn,zk⟩:=z
   simp only at f1 f2
   subst f1
   rw[List.lookup_cons] at h⊢
   cases hx:x == zn with
   | true =>
     rw[hx] at h
     have e:k1=k0:=Option.some.inj h
     subst e
     rcases f2 with f2|⟨q,_⟩
     · show some zk=_;rw[f2]
     · exact absurd q hk
   | false =>
     rw[hx] at h
     exact zbi env x h hk
theorem zfo (G:Gd T cf k N sc X){scope:Scope}{js:List Nat}(h:zkF sc scope N js=true):CompOk X.env.scope scope X.N js:=by
 unfold zkF at h
 simp only[Bool.and_eq_true,List.all_eq_true,decide_eq_true_eq,Bool.or_eq_true] at h
 obtain⟨⟨⟨⟨h1,h2⟩,h3⟩,h4⟩,h5⟩:=h
 refine⟨h1,h2,fun y hy e=>?_,fun y hy e=>?_,fun j hj=>?_⟩
 · rcases h3 y hy with z|z
   · exact absurd e z
   · exact z
 · rcases h4 y hy with (z|z)|z
   · exact absurd e z
   · exact .inl (G.cell _ z)
   · exact (G.free _ z).symm
 · rw[G.nm];exact h5 j hj
theorem zg6 (G:Gd T cf k N sc X){scope:Scope}{tgs:List Str}{js:List Nat}(ok:CompOk X.env.scope scope X.N js)(hn:(capN N tgs js).Nodup)(cl:List (Str × Addr))(C:Addr)(fp:List Addr)(s:Shared)(H:Hp)(pn:List (Addr × Obj)) :
  Gd T cf k (capN N tgs js) scope (zax X (capN X.N tgs js) scope cl C fp s H pn):=by
 have names:(zax X (capN X.N tgs js) scope cl C fp s H pn).env.scope.names=scope.names.map (zbv X.env):=za5 scope X.env
 have noc:∀x,scope.names.lookup x≠some .cell:=fun x e=>ok.nocell _ (PySem.mem_of_lookup e) rfl
 refine⟨by rw[<-G.nm],hn,fun x e=>?_,fun x e=>absurd e (noc x),fun x e=>?_,fun x e=>?_,.inr noc,G.calm,PassesOwn.never,G.room',G.tab⟩
 · rw[names];exact zbi _ _ e (by decide)
 · rw[names];exact za6 _ _ _ e
 · rw[names];exact zbi _ _ e (by decide)
theorem za1 {x:Str}(h:nmB x=true):(x == ("__debug__":Str))=false/\(x == ("__classdict__":Str))=false/\x≠("__name__":Str):=by
 unfold nmB at h
 simp only[Bool.and_eq_true,Bool.not_eq_true'] at h
 exact⟨h.1.1,h.1.2,fun e=>by rw[e] at h;simp at h⟩
theorem zk0 {t:String}{y:Str}(h:tyB t y=true):t∈["bool","int","str","list","tuple","dict"]/\bootBuiltins y=some (.type t):=by
 unfold tyB at h
 simp only[Bool.or_eq_true,Bool.and_eq_true,beq_iff_eq] at h
 rcases h with ((((⟨rfl,rfl⟩|⟨rfl,rfl⟩)|⟨rfl,rfl⟩)|⟨rfl,rfl⟩)|⟨rfl,rfl⟩)|⟨rfl,rfl⟩
 · exact⟨by simp,zkJ⟩
 · exact⟨by simp,zmS⟩
 · exact⟨by simp,zmO⟩
 · exact⟨by simp,zeM⟩
 · exact⟨by simp,zfs⟩
 · exact⟨by simp,zkI⟩
theorem zg8 {f j:Nat}{x:Str}(h:fnB T f j x=true):∃ps nd,T.fns[f]?=some (x,ps,nd)/\j<=nd:=by
 unfold fnB at h
 cases e:T.fns[f]? with
 |none=>rw[e] at h;cases h
 | some q =>
   obtain⟨y,ps,nd⟩:=q
   rw[e] at h
   simp only[Bool.and_eq_true,beq_iff_eq,decide_eq_true_eq] at h
   obtain⟨rfl,h2⟩:=h
   exact⟨ps,nd,rfl,h2⟩
theorem zaM:∀{ces:CEs} {N:List Str} {sc:Scope} {es:List Expr},zbl T ces N sc es=true->es.all zam=true
 | .nil, N, sc, es, h => by
   simp only[zbl,List.isEmpty_iff] at h
   subst h;rfl
 | .cons a r, N, sc, es, h => by
   cases es with
   |nil=>simp[zbl] at h
   | cons e es =>
     simp only[zbl,Bool.and_eq_true] at h
     simp[h.1.1,zaM h.2]
theorem zfp {es:CEs}(h:zj6 es=true):∃a,es=.cons a .nil:=by
 cases es with
 |nil=>cases h
 | cons a r =>
   cases r with
   |nil=>exact⟨a,rfl⟩
   |cons _ _=>cases h
theorem zf1 (G:Gd T cf k N sc X){b:Bi}{x:Str}{n:Nat}(h:biB b x n=true):∃id,zaV X (.builtin id) (rB X.K fun S ds=>R.bi S b ds)/\bootBuiltins x=some (.builtin id):=by
 cases b with
 |len=>simp only[biB,Bool.and_eq_true,beq_iff_eq] at h;rw[h.1];exact⟨_,zmf,zmR⟩
 |abs=>simp only[biB,Bool.and_eq_true,beq_iff_eq] at h;rw[h.1];exact⟨_,zmZ,zmU⟩
 |max2=>simp only[biB,Bool.and_eq_true,beq_iff_eq] at h;rw[h.1];exact⟨_,zmd G.calm,zmQ⟩
 |min2=>simp only[biB,Bool.and_eq_true,beq_iff_eq] at h;rw[h.1];exact⟨_,zmc G.calm,zmP⟩
 |isin t=>simp[biB] at h
noncomputable def LOk (T:Tab)(cf:CF)(k:Nat)(cl:CL)(X:Cx)(e:Expr):Prop:=(zgU cl=false->PE X e (tL X.K cf cl))/\(zms cl=true->PE X e (tLt X.K cf cl))/\(∀tg,(zgS tg || !(zgQ cl))=true->PI X tg e (tI X.K cf cl))/\
 ∀a,cl=.rng1 a->∃a' p2 p,e=.Call (.Name "range" p2) [a'] [] p/\(Gl X "range"/\X.mg "range"=none)/\PE X a' (tE X.K cf a)/\zam a'=true
noncomputable def EsOk (cf:CF)(ces:CEs)(X:Cx)(es:List Expr):Prop:=PA X es (tAs X.K cf ces)/\∀a r e es',ces=.cons a r->es=e::es'->PE X e (tE X.K cf a)
theorem zjm {sc:Scope}{N:List Str}{X:Cx}{g:List Nat}{tg:Expr}(G:Gd T cf k N sc X)(h:tgB sc N g tg=true):PG X tg (tG X.K g):=by
 unfold tgB at h
 split at h
 · rename_i x q
   obtain⟨p,rfl⟩:=zaA q
   split at h
   · rename_i i q2
     rw[zaG q2]
     simp only[Bool.and_eq_true,beq_iff_eq] at h
     exact zjx G h.1 h.2
   · cases h
 · replace h:=zac h
   obtain⟨es,q,h⟩:=h
   obtain⟨j,p,rfl⟩:=zcm q
   simp only[Bool.and_eq_true,decide_eq_true_eq] at h
   exact ziO G h.2 h.1
theorem zeT {c:CE}{X:Cx}(h:zgT c=true):PTs X [] (tT X.K cf c):=by
 have hc:c=.tst (.con (.bl true)):=by
  cases c with
  | tst a =>
    cases a with
    | con d =>
      cases d with
      | bl b =>
        cases b with
        |true=>rfl
        |false=>cases h
      |_=>cases h
    |_=>cases h
  |_=>cases h
 subst hc
 intro pins s' σ H' Qv I q
 refine zjR pins s' σ H' Qv I ?_
 obtain⟨δ,ι,S,Q,hs,hh,w,q⟩:=q
 simp only[evT,evE,za8,tru,zbj,W_ok] at w
 exact q _ _ ⟨ι,S,Ext.refl _ _,hh,w⟩
theorem zgz {m:Bool}{ce:CE}{o:Option Expr}{X:Cx}(h1:o=none->m=false/\zgV ce=true)(h2:∀e,o=some e->m=true/\PE X e (tE X.K cf ce)):PartOk X cf m ce o:=by
 cases o with
 | none =>
   obtain⟨rfl,h⟩:=h1 rfl
   cases ce with
   |con d=>exact .no ⟨d,rfl⟩
   |_=>cases h
 | some e =>
   obtain⟨rfl,h⟩:=h2 e rfl
   exact .yes h
theorem zbb {x y:Str}(h:(x == y)=true):x=y:=by simpa using h
mutual
theorem zaf:∀(ce:CE) {N:List Str} {sc:Scope} {e:Expr} {X:Cx},Gd T cf k N sc X->chkE T ce N sc e=true->PE X e (tE X.K cf ce)
 | .loc i, N, sc, e, X, G, h => by
   simp only[chkE] at h
   replace h:=zac h
   obtain⟨x,q,h⟩:=h
   obtain⟨p,rfl⟩:=zaA q
   simp only[Bool.and_eq_true,beq_iff_eq] at h
   obtain⟨h1,h2,_⟩:=za1 h.2
   exact zlo G h.1.1 h.1.2 h1 h2
 | .con d, N, sc, e, X, G, h => by
   simp only[chkE] at h
   rw[Bool.or_eq_true] at h
   rcases h with h|h
   · replace h:=zac h
     obtain⟨c,q,h⟩:=h
     obtain⟨j,p,rfl⟩:=zeq q
     exact zlr h
   · replace h:=zac h
     obtain⟨x,q,h⟩:=h
     obtain⟨p,rfl⟩:=zaA q
     simp only[Bool.and_eq_true] at h
     obtain⟨h1,h2,_⟩:=za1 h.2
     have h3:=h.1.2
     unfold conG at h3
     split at h3
     · rename_i d' e'
       exact zjC G h.1.1 e' h3 h1
     · cases h3
 |.tst a,N,sc,e,X,G,h=>by simp only[chkE] at h;cases h
 | .bin op a b, N, sc, e, X, G, h => by
   simp only[chkE] at h
   replace h:=zac h
   obtain⟨⟨l,o,r⟩,q,h⟩:=h
   obtain⟨p,rfl⟩:=zdJ q
   simp only[Bool.and_eq_true,decide_eq_true_eq] at h
   obtain⟨⟨rfl,h1⟩,h2⟩:=h
   exact zlt (zaf a G h1) (zaf b G h2)
 | .neg a, N, sc, e, X, G, h => by
   simp only[chkE] at h
   replace h:=zac h
   obtain⟨⟨o,x⟩,q,h⟩:=h
   obtain⟨p,rfl⟩:=zdd q
   simp only[Bool.and_eq_true,decide_eq_true_eq] at h
   obtain⟨rfl,h1⟩:=h
   exact zlk (zaf a G h1)
 | .nt a, N, sc, e, X, G, h => by
   simp only[chkE] at h
   replace h:=zac h
   obtain⟨⟨o,x⟩,q,h⟩:=h
   obtain⟨p,rfl⟩:=zdd q
   simp only[Bool.and_eq_true,decide_eq_true_eq] at h
   obtain⟨rfl,h1⟩:=h
   exact znk (zaf a G h1)
 | .cmp op a b, N, sc, e, X, G, h => by
   simp only[chkE] at h
   replace h:=zac h
   obtain⟨⟨l,os,rs⟩,q,h⟩:=h
   obtain⟨p,rfl⟩:=zbI q
   rw[Bool.and_eq_true,decide_eq_true_eq] at h
   obtain⟨e1,h⟩:=h
   replace h:=zac h
   obtain⟨r,q2,h⟩:=h
   cases zaG q2
   cases e1
   simp only[Bool.and_eq_true] at h
   exact zls G (zaf a G h.1.2) (zaf b G h.2) h.1.1
 | .cmp2 op op' a b c, N, sc, e, X, G, h => by
   simp only[chkE] at h
   replace h:=zac h
   obtain⟨⟨l,os,rs⟩,q,h⟩:=h
   obtain⟨p,rfl⟩:=zbI q
   rw[Bool.and_eq_true,decide_eq_true_eq] at h
   obtain⟨e1,h⟩:=h
   replace h:=zac h
   obtain⟨⟨r,r'⟩,q2,h⟩:=h
   cases two_inv q2
   cases e1
   simp only[Bool.and_eq_true] at h
   obtain⟨⟨⟨⟨h1,h2⟩,h3⟩,h4⟩,h5⟩:=h
   exact zjE G (zaf a G h3) (zaf b G h4) (zaf c G h5) h1 h2
 | .and a b, N, sc, e, X, G, h => by
   simp only[chkE] at h
   replace h:=zac h
   obtain⟨⟨o,vs,p⟩,q,h⟩:=h
   cases zbp q
   rw[Bool.and_eq_true,decide_eq_true_eq] at h
   obtain⟨e1,h⟩:=h
   cases e1
   dsimp only at h
   split at h
   · rename_i x y rest
     rw[Bool.and_eq_true] at h
     obtain⟨h1,h2⟩:=h
     split at h2
     · rename_i c
       cases List.isEmpty_iff.mp c
       exact ziR (zaf a G h1) (ziZ (zaf b G h2))
     · exact ziR (zaf a G h1) (zaf b G h2)
   · cases h
 | .or a b, N, sc, e, X, G, h => by
   simp only[chkE] at h
   replace h:=zac h
   obtain⟨⟨o,vs,p⟩,q,h⟩:=h
   cases zbp q
   rw[Bool.and_eq_true,decide_eq_true_eq] at h
   obtain⟨e1,h⟩:=h
   cases e1
   dsimp only at h
   split at h
   · rename_i x y rest
     rw[Bool.and_eq_true] at h
     obtain⟨h1,h2⟩:=h
     split at h2
     · rename_i c
       cases List.isEmpty_iff.mp c
       exact zlj (zaf a G h1) (ziZ (zaf b G h2))
     · exact zlj (zaf a G h1) (zaf b G h2)
   · cases h
 | .ite c a b, N, sc, e, X, G, h => by
   simp only[chkE] at h
   replace h:=zac h
   obtain⟨⟨t,x,y⟩,q,h⟩:=h
   obtain⟨p,rfl⟩:=zhL q
   simp only[Bool.and_eq_true] at h
   exact zlp (zaI c G h.1.1).1 (zaf a G h.1.2) (zaf b G h.2)
 | .tup es, N, sc, e, X, G, h => by
   simp only[chkE] at h
   replace h:=zac h
   obtain⟨xs,q,h⟩:=h
   obtain⟨j,p,rfl⟩:=zcm q
   exact zlh (zaQ es G h).1
 | .lst es, N, sc, e, X, G, h => by
   simp only[chkE] at h
   replace h:=zac h
   obtain⟨xs,q,h⟩:=h
   obtain⟨p,rfl⟩:=zfC q
   exact zln (zaQ es G h).1
 | .insL o a b, N, sc, e, X, G, h => by
   simp only[chkE] at h
   replace h:=zac h
   obtain⟨⟨oe,x,ap,as,cp⟩,q,h⟩:=h
   cases zep q
   replace h:=zac h
   obtain⟨⟨e1,e2⟩,q2,h⟩:=h
   cases two_inv q2
   simp only[Bool.and_eq_true] at h
   obtain⟨⟨⟨⟨⟨⟨⟨hx,h1⟩,h2⟩,h3⟩,h4⟩,h5⟩,h6⟩,h7⟩:=h
   cases zbb hx
   exact zlq (zaf o G h5) (zaf a G h6) (zaf b G h7) h1 h2 h3 h4
 | .ix a b, N, sc, e, X, G, h => by
   simp only[chkE] at h
   replace h:=zac h
   obtain⟨⟨x,i⟩,q,h⟩:=h
   obtain⟨p,rfl⟩:=zcn q
   simp only[Bool.and_eq_true] at h
   exact znl (zaf a G h.1.2) (zaf b G h.2) h.1.1
 | .mkX c x f a, N, sc, e, X, G, h => by
   simp only[chkE] at h
   replace h:=zac h
   obtain⟨⟨x',arg⟩,q,h⟩:=h
   obtain⟨p2,p,rfl⟩:=zaz q
   simp only[Bool.and_eq_true,decide_eq_true_eq] at h
   obtain⟨⟨⟨⟨⟨rfl,h1⟩,h2⟩,h3⟩,h4⟩,h5⟩:=h
   exact zll G h3 h1 (za1 h2).1 (zaf a G h5) h4
 | .fldX a f, N, sc, e, X, G, h => by
   simp only[chkE] at h
   replace h:=zac h
   obtain⟨⟨o,f',p⟩,q,h⟩:=h
   cases zbV q
   simp only[Bool.and_eq_true,decide_eq_true_eq] at h
   obtain⟨⟨⟨rfl,h2⟩,h3⟩,h4⟩:=h
   exact zjD G (zaf a G h4) h2 h3
 | .iscX cs x a, N, sc, e, X, G, h => by
   simp only[chkE] at h
   replace h:=zac h
   obtain⟨⟨x',args⟩,q,h⟩:=h
   obtain⟨p2,p,rfl⟩:=zaF q
   replace h:=zac h
   obtain⟨⟨e1,e2⟩,q2,h⟩:=h
   cases two_inv q2
   replace h:=zac h
   obtain⟨y,q3,h⟩:=h
   obtain⟨p3,rfl⟩:=zaA q3
   rw[Bool.and_eq_true,Bool.and_eq_true,Bool.and_eq_true,Bool.and_eq_true,Bool.and_eq_true,Bool.and_eq_true,Bool.and_eq_true,decide_eq_true_eq] at h
   obtain⟨⟨⟨⟨⟨⟨⟨h0,h1⟩,rfl⟩,h2⟩,h3⟩,h4⟩,h5⟩,h6⟩:=h
   cases zbb h0
   exact zjB G (zbe G h1) h2 (za1 h3).1 h4 (zaf a G h6) h5
 | .rep a b, N, sc, e, X, G, h => by
   simp only[chkE] at h
   replace h:=zac h
   obtain⟨⟨l,o,r⟩,q,h⟩:=h
   obtain⟨p,rfl⟩:=zdJ q
   simp only[Bool.and_eq_true,decide_eq_true_eq] at h
   obtain⟨⟨rfl,h1⟩,h2⟩:=h
   exact zli (zaf a G h1) (zaf b G h2)
 | .sl a ml mh lo hi, N, sc, e, X, G, h => by
   simp only[chkE] at h
   replace h:=zac h
   obtain⟨⟨x,i⟩,q,h⟩:=h
   obtain⟨p,rfl⟩:=zcn q
   replace h:=zac h
   obtain⟨⟨l,u⟩,q2,h⟩:=h
   obtain⟨p2,rfl⟩:=zhK q2
   simp only[Bool.and_eq_true] at h
   obtain⟨⟨h1,h2⟩,h3⟩:=h
   refine znj (zaf a G h1) (zgz (fun z=>?_) fun e z=>?_) (zgz (fun z=>?_) fun e z=>?_)
   · subst z;simpa using h2
   · subst z
     simp only[Bool.and_eq_true] at h2
     exact⟨h2.1,zaf lo G h2.2⟩
   · subst z;simpa using h3
   · subst z
     simp only[Bool.and_eq_true] at h3
     exact⟨h3.1,zaf hi G h3.2⟩
 | .call f j es, N, sc, e, X, G, h => by
   simp only[chkE] at h
   replace h:=zac h
   obtain⟨⟨x,args⟩,q,h⟩:=h
   obtain⟨p2,p,rfl⟩:=zaF q
   simp only[Bool.and_eq_true,Bool.or_eq_true] at h
   obtain⟨⟨⟨⟨h1,h2⟩,h3⟩,h4⟩,h5⟩:=h
   obtain⟨n1,n2,n3⟩:=za1 h2
   obtain⟨ps,nd,hf,hj⟩:=zg8 h3
   have ha:=(zaQ es G h5).1
   cases args with
   | nil =>
     have:es=.nil:=by
      cases es with
      |nil=>rfl
      |cons _ _=>rcases h4 with z|z<;>cases z
     rw[this]
     exact zhH G hf hj h1 n1
   |cons a as=>exact zjF G hf hj h1 n1 ha (zaM h5)
 | .bi b es, N, sc, e, X, G, h => by
   simp only[chkE] at h
   replace h:=zac h
   obtain⟨⟨x,args⟩,q,h⟩:=h
   obtain⟨p2,p,rfl⟩:=zaF q
   rw[Bool.and_eq_true,Bool.and_eq_true] at h
   obtain⟨⟨h1,h2⟩,h3⟩:=h
   obtain⟨n1,n2,n3⟩:=za1 h2
   split at h3
   · rename_i t qt
     replace h3:=zac h3
     obtain⟨⟨e1,e2⟩,q2,h3⟩:=h3
     cases two_inv q2
     replace h3:=zac h3
     obtain⟨y,q3,h3⟩:=h3
     obtain⟨p3,rfl⟩:=zaA q3
     simp only[Bool.and_eq_true] at h3
     obtain⟨⟨⟨⟨⟨hx,h4⟩,h5⟩,h6⟩,h7⟩,h8⟩:=h3
     cases zbb hx
     obtain⟨m1,m2,m3⟩:=za1 h6
     obtain⟨t1,t2⟩:=zk0 h4
     obtain⟨a,ea⟩:=zfp h7
     have he:=(zaQ es G h8).2 a .nil e1 [] ea rfl
     have hst:=zaM h8
     have eb:b=.isin t:=by
      cases b with
      |isin _=>cases qt;rfl
      |_=>cases qt
     rw[ea,eb]
     exact zjA G (zbe G h1) (zbe G h5) t2 t1 m3 m1 he (by simpa using hst)
   · rw[Bool.and_eq_true,Bool.and_eq_true] at h3
     cases args with
     |nil=>cases h3.1.2
     | cons a as =>
       obtain⟨id,hc,hv⟩:=zf1 G h3.1.1
       exact znm hc (zbe G h1) hv (zaQ es G h3.2).1 (zaM h3.2) n3 n1
 | .mt m o es, N, sc, e, X, G, h => by
   simp only[chkE] at h
   replace h:=zac h
   obtain⟨⟨oe,x,ap,e1,cp⟩,q,h⟩:=h
   cases zfB q
   simp only[Bool.and_eq_true] at h
   obtain⟨⟨⟨⟨⟨h1,h2⟩,h3⟩,h4⟩,h5⟩,h6⟩:=h
   obtain⟨a,ea⟩:=zfp h4
   have he:=(zaQ es G h6).2 a .nil e1 [] ea rfl
   have hst:zam e1=true:=by simpa using zaM h6
   rw[ea]
   cases m with
   | append =>
     cases zbb h1
     exact zjy PySem.F.slot_list_append PySem.F.type_list_append zht (zaf o G h5) he hst h2 h3
   | popAt =>
     cases zbb h1
     exact zjy PySem.F.slot_list_pop PySem.F.type_list_pop zhX (zaf o G h5) he hst h2 h3
   | count =>
     cases zbb h1
     exact zjy PySem.F.slot_list_count PySem.F.type_list_count ziA (zaf o G h5) he hst h2 h3
 | .mkL l, N, sc, e, X, G, h => by
   simp only[chkE] at h
   split at h
   · rename_i c
     split at h
     · have ht:zms l=true:=by
        cases l with
        |comp=>rfl
        |_=>cases c
       exact PE.imp ((zbk l G h).2.1 ht) fun σ H Qv q=>zgE q
     · replace h:=zac h
       obtain⟨⟨x,e1⟩,q,h⟩:=h
       obtain⟨p2,p,rfl⟩:=zaz q
       simp only[Bool.and_eq_true] at h
       obtain⟨⟨⟨hx,h1⟩,h2⟩,h4⟩:=h
       cases zbb hx
       have hr:zgU l=false:=by
        cases l with
        |comp=>rfl
        |_=>cases c
       exact ziQ G (zbe G h1) ((zbk l G h4).1 hr) h2
   · replace h:=zac h
     obtain⟨⟨x,e1⟩,q,h⟩:=h
     obtain⟨p2,p,rfl⟩:=zaz q
     simp only[Bool.and_eq_true,Bool.or_eq_true,Bool.not_eq_true'] at h
     obtain⟨⟨⟨⟨hx,h1⟩,h2⟩,h3⟩,h4⟩:=h
     cases zbb hx
     have hl:=zbk l G h4
     rcases h3 with h3|h3
     · exact ziQ G (zbe G h1) (hl.1 h3) h2
     · have:∃a,l=.rng1 a:=by
        cases l with
        |rng1 a=>exact⟨a,rfl⟩
        |_=>cases h3
       obtain⟨a,ea⟩:=this
       obtain⟨a',p3,p4,rfl,hr,ha,hs⟩:=hl.2.2.2 a ea
       rw[ea]
       exact zjz G (zbe G h1) hr ha hs
 | .mkT l, N, sc, e, X, G, h => by
   simp only[chkE] at h
   replace h:=zac h
   obtain⟨⟨x,e1⟩,q,h⟩:=h
   obtain⟨p2,p,rfl⟩:=zaz q
   simp only[Bool.and_eq_true,Bool.not_eq_true'] at h
   obtain⟨⟨⟨⟨hx,h1⟩,h2⟩,h3⟩,h4⟩:=h
   cases zbb hx
   have hl:=zbk l G h4
   exact zlm G (zbe G h1) (hl.1 h3) h2
 | .all l, N, sc, e, X, G, h => by
   simp only[chkE] at h
   replace h:=zac h
   obtain⟨⟨x,e1⟩,q,h⟩:=h
   obtain⟨p2,p,rfl⟩:=zaz q
   simp only[Bool.and_eq_true,Bool.not_eq_true'] at h
   obtain⟨⟨⟨⟨hx,h1⟩,h2⟩,h3⟩,h4⟩:=h
   cases zbb hx
   exact zlu G (zbe G h1) ((zbk l G h4).1 h3) h2
theorem zaQ:∀(ces:CEs) {N:List Str} {sc:Scope} {es:List Expr} {X:Cx},Gd T cf k N sc X->zbl T ces N sc es=true->EsOk cf ces X es
 | .nil, N, sc, es, X, G, h => by
   simp only[zbl,List.isEmpty_iff] at h
   subst h
   exact⟨zgi,fun a r e es' z=>nomatch z⟩
 | .cons a r, N, sc, es, X, G, h => by
   cases es with
   |nil=>simp[zbl] at h
   | cons e es =>
     simp only[zbl,Bool.and_eq_true] at h
     have he:=zaf a G h.1.2
     exact⟨zdc he (zaQ r G h.2).1 h.1.1,fun a' r' e' es' z1 z2=>by cases z1;cases z2;exact he⟩
theorem zaI:∀(ce:CE) {N:List Str} {sc:Scope} {e:Expr} {X:Cx},Gd T cf k N sc X->chkT T ce N sc e=true->PT X e (tT X.K cf ce)/\((∃op v r p,e=.BoolOp op (v::r) p)->PW X e (tT X.K cf ce))
 | .cmp op a b, N, sc, e, X, G, h => by
   simp only[chkT] at h
   replace h:=zac h
   obtain⟨⟨l,os,rs⟩,q,h⟩:=h
   obtain⟨p,rfl⟩:=zbI q
   rw[Bool.and_eq_true,decide_eq_true_eq] at h
   obtain⟨e1,h⟩:=h
   replace h:=zac h
   obtain⟨r,q2,h⟩:=h
   cases zaG q2
   cases e1
   simp only[Bool.and_eq_true] at h
   exact⟨zk9 G (zaf a G h.1.2) (zaf b G h.2) h.1.1,fun⟨_,_,_,_,z⟩=>nomatch z⟩
 | .cmp2 op op' a b c, N, sc, e, X, G, h => by
   simp only[chkT] at h
   replace h:=zac h
   obtain⟨⟨l,os,rs⟩,q,h⟩:=h
   obtain⟨p,rfl⟩:=zbI q
   rw[Bool.and_eq_true,decide_eq_true_eq] at h
   obtain⟨e1,h⟩:=h
   replace h:=zac h
   obtain⟨⟨r,r'⟩,q2,h⟩:=h
   cases two_inv q2
   cases e1
   simp only[Bool.and_eq_true] at h
   obtain⟨⟨⟨⟨h1,h2⟩,h3⟩,h4⟩,h5⟩:=h
   exact⟨zjp G (zaf a G h3) (zaf b G h4) (zaf c G h5) h1 h2,fun⟨_,_,_,_,z⟩=>nomatch z⟩
 | .nt a, N, sc, e, X, G, h => by
   simp only[chkT] at h
   replace h:=zac h
   obtain⟨⟨o,x⟩,q,h⟩:=h
   obtain⟨p,rfl⟩:=zdd q
   simp only[Bool.and_eq_true,decide_eq_true_eq] at h
   obtain⟨rfl,h1⟩:=h
   exact⟨znh (zaI a G h1).1,fun⟨_,_,_,_,z⟩=>nomatch z⟩
 | .and a b, N, sc, e, X, G, h => by
   simp only[chkT] at h
   replace h:=zac h
   obtain⟨⟨o,vs,p⟩,q,h⟩:=h
   cases zbp q
   rw[Bool.and_eq_true,decide_eq_true_eq] at h
   obtain⟨e1,h⟩:=h
   cases e1
   dsimp only at h
   split at h
   · rename_i x y rest
     rw[Bool.and_eq_true] at h
     obtain⟨h1,h2⟩:=h
     split at h2
     · rename_i c
       cases List.isEmpty_iff.mp c
       have w:=ziM (pos:=p) (zaI a G h1).1 (zjP (zaI b G h2).1)
       exact⟨w.pt,fun _=>w⟩
     · have w:=ziM (zaI a G h1).1 ((zaI b G h2).2 ⟨_,_,_,_,rfl⟩)
       exact⟨w.pt,fun _=>w⟩
   · cases h
 | .or a b, N, sc, e, X, G, h => by
   simp only[chkT] at h
   replace h:=zac h
   obtain⟨⟨o,vs,p⟩,q,h⟩:=h
   cases zbp q
   rw[Bool.and_eq_true,decide_eq_true_eq] at h
   obtain⟨e1,h⟩:=h
   cases e1
   dsimp only at h
   split at h
   · rename_i x y rest
     rw[Bool.and_eq_true] at h
     obtain⟨h1,h2⟩:=h
     split at h2
     · rename_i c
       cases List.isEmpty_iff.mp c
       have w:=zk8 (pos:=p) (zaI a G h1).1 (zlG (zaI b G h2).1)
       exact⟨w.pt,fun _=>w⟩
     · have w:=zk8 (zaI a G h1).1 ((zaI b G h2).2 ⟨_,_,_,_,rfl⟩)
       exact⟨w.pt,fun _=>w⟩
   · cases h
 | .tst a, N, sc, e, X, G, h => by
   simp only[chkT,Bool.and_eq_true] at h
   exact⟨zk7 (zaf a G h.2) h.1,fun⟨_,_,_,_,z⟩=>by rw[z] at h;simp[ze5] at h⟩
 |.loc i,N,sc,e,X,G,h=>absurd h Bool.false_ne_true
 |.con d,N,sc,e,X,G,h=>absurd h Bool.false_ne_true
 |.bin op a b,N,sc,e,X,G,h=>absurd h Bool.false_ne_true
 |.neg a,N,sc,e,X,G,h=>absurd h Bool.false_ne_true
 |.ite c a b,N,sc,e,X,G,h=>absurd h Bool.false_ne_true
 |.tup es,N,sc,e,X,G,h=>absurd h Bool.false_ne_true
 |.lst es,N,sc,e,X,G,h=>absurd h Bool.false_ne_true
 |.insL o a b,N,sc,e,X,G,h=>absurd h Bool.false_ne_true
 |.ix a b,N,sc,e,X,G,h=>absurd h Bool.false_ne_true
 |.mkX c x f a,N,sc,e,X,G,h=>absurd h Bool.false_ne_true
 |.fldX a f,N,sc,e,X,G,h=>absurd h Bool.false_ne_true
 |.iscX cs x a,N,sc,e,X,G,h=>absurd h Bool.false_ne_true
 |.rep a b,N,sc,e,X,G,h=>absurd h Bool.false_ne_true
 |.sl a ml mh lo hi,N,sc,e,X,G,h=>absurd h Bool.false_ne_true
 |.call f j es,N,sc,e,X,G,h=>absurd h Bool.false_ne_true
 |.bi b es,N,sc,e,X,G,h=>absurd h Bool.false_ne_true
 |.mt m o es,N,sc,e,X,G,h=>absurd h Bool.false_ne_true
 |.mkL l,N,sc,e,X,G,h=>absurd h Bool.false_ne_true
 |.mkT l,N,sc,e,X,G,h=>absurd h Bool.false_ne_true
 |.all l,N,sc,e,X,G,h=>absurd h Bool.false_ne_true
theorem zbk:∀(cl:CL) {N:List Str} {sc:Scope} {e:Expr} {X:Cx},Gd T cf k N sc X->chkL T cl N sc e=true->LOk T cf k cl X e
 | .val a, N, sc, e, X, G, h => by
   simp only[chkL,Bool.and_eq_true] at h
   have hp:=zlf (zaf a G h.2)
   exact⟨fun _=>hp,fun z=>(by cases z),fun tg _=>ziN hp zme,fun a z=>nomatch z⟩
 | .rng1 a, N, sc, e, X, G, h => by
   simp only[chkL] at h
   replace h:=zac h
   obtain⟨⟨x,e1⟩,q,h⟩:=h
   obtain⟨p2,p,rfl⟩:=zaz q
   simp only[Bool.and_eq_true] at h
   obtain⟨⟨⟨hx,h1⟩,h2⟩,h3⟩:=h
   cases zbb hx
   have he:=zaf a G h3
   exact⟨fun z=>(by cases z),fun z=>(by cases z),fun tg _=>zjv (zbe G h1) he h2,fun a z=>by cases z;exact⟨e1,p2,p,rfl,zbe G h1,he,h2⟩⟩
 | .enum a, N, sc, e, X, G, h => by
   simp only[chkL] at h
   replace h:=zac h
   obtain⟨⟨x,e1⟩,q,h⟩:=h
   obtain⟨p2,p,rfl⟩:=zaz q
   simp only[Bool.and_eq_true] at h
   obtain⟨⟨⟨hx,h1⟩,h2⟩,h3⟩:=h
   cases zbb hx
   refine⟨fun z=>(by cases z),fun z=>(by cases z),fun tg ht=>?_,fun a z=>nomatch z⟩
   cases tg with
   |Tuple es j pt=>exact zjw (zbe G h1) (zaf a G h3) h2
   |_=>cases ht
 | .comp nt js g it c e, N, sc, ex, X, G, h => by
   simp only[chkL] at h
   replace h:=zac h
   obtain⟨⟨elt,gs,scope,p⟩,q,h⟩:=h
   cases ze3 q
   replace h:=zac h
   obtain⟨⟨tg,iter,ifs,asy⟩,q2,h⟩:=h
   cases zaG q2
   rw[Bool.and_eq_true,Bool.and_eq_true,Bool.and_eq_true,Bool.and_eq_true,Bool.and_eq_true,Bool.and_eq_true,Bool.and_eq_true,Bool.and_eq_true,decide_eq_true_eq,decide_eq_true_eq,decide_eq_true_eq] at h
   obtain⟨⟨⟨⟨⟨⟨⟨⟨h1,h2⟩,h3⟩,h4⟩,h5⟩,h6⟩,h7⟩,h8⟩,h9⟩:=h
   dsimp only at h1 h2 h3 h4 h5 h6 h7 h8 h9
   rw[Bool.and_eq_true] at h3
   subst h1 h5
   have ok:=zfo G h2
   have G':=zg6 G (tgs:=zbu tg) ok h6
   have ht:∀cl C fp s H pn,PTs (zax X (capN X.N (zbu tg) js) scope cl C fp s H pn) ifs (tT X.K cf c):=fun cl C fp s H pn=>by
    split at h8
    · rename_i ce
      cases List.isEmpty_iff.mp ce
      exact zeT (X:=zax X (capN X.N (zbu tg) js) scope cl C fp s H pn) h8
    · replace h8:=zac h8
      obtain⟨t,q3,h8⟩:=h8
      cases zaG q3
      exact zgt (zaI c (G' cl C fp s H pn) h8).1
   have hp:PE X (.ListComp elt [⟨tg,iter,ifs,0⟩] scope p) (tLt X.K cf (.comp (zbu tg).length js g it c e)):=
    PE.imp (zh3 X.env.scope (zbu tg) js G.calm rfl ok ((zbk it G h4).2.2.1 tg h3.2) (fun cl C fp s H pn=>zjm (G' cl C fp s H pn) h7) ht (fun cl C fp s H pn=>zaf e (G' cl C fp s H pn) h9) (zeD h3.1 X.env)) fun σ H Qv q=>zfn G.tab.frm q
   exact⟨fun _=>(PE.ofT hp),fun _=>hp,fun tg _=>ziN (PE.ofT hp) zka,fun a z=>nomatch z⟩
end
end
end R
end
section
set_option maxHeartbeats 4000000
namespace R
open PySem PySem.Spec PyProof.Rows L2
variable [Mks]
section
variable {T:Tab} {cf:CF} {k:Nat}
theorem zjr {N:List Str}{sc:Scope}{X:Cx}{rest:List Stmt}{p pos p2:Pos}(G:Gd T cf k N sc X){i:Nat}{x:Str}{l:CL}{elt:Expr}{gs:List Comprehension}{scope:Scope}{r:CS}(hi:N[i]?=some x)(hl:zcc sc x=true)(h:chkE T (.mkL l) N sc (.ListComp elt gs scope p2)=true)(hr:PSs X rest (tS X cf r)) :
  PSs X (.Assign [.Name x p] (.ListComp elt gs scope p2) pos::rest) (tS X cf (.asg i (.mkL l) r)):=by
 have hw:∃b,swapsWith (.ListComp elt gs scope p2) (some (.Name x p)) pos.line X.env=pure b:=⟨_,rfl⟩
 obtain⟨b,hw⟩:=hw
 cases b with
 | false =>
   refine PSs.imp (zas (ze4 (i:=i) (by rw[G.nm];exact G.nd) (by rw[G.nm];exact hi) (G.lc hl).1 (zaf (.mkL l) G h) hw (G.lc hl).2) hr) fun E σ H ⟨δ,ι,S,Q,hs,hh,w,lf⟩=>?_
   simp only[exS,zaa] at w
   refine tE.run hs hh w fun d v ι1 H1 S1 x1 hs1 hh1 r1 w1=>?_
   exact⟨δ.set i (some d),ι1,S1,Q,hs1.set r1 i,hh1,w1,lf.up x1⟩
 | true =>
   simp only[chkE] at h
   split at h
   · rename_i c0
     split at h
     · cases l with
       | comp nt js g it c e =>
         simp only[chkL] at h
         replace h:=zac h
         obtain⟨⟨elt',gs',scope',p'⟩,q,h⟩:=h
         cases ze3 q
         replace h:=zac h
         obtain⟨⟨tg,iter,ifs,asy⟩,q2,h⟩:=h
         cases zaG q2
         rw[Bool.and_eq_true,Bool.and_eq_true,Bool.and_eq_true,Bool.and_eq_true,Bool.and_eq_true,Bool.and_eq_true,Bool.and_eq_true,Bool.and_eq_true,decide_eq_true_eq,decide_eq_true_eq,decide_eq_true_eq] at h
         obtain⟨⟨⟨⟨⟨⟨⟨⟨h1,h2⟩,h3⟩,h4⟩,h5⟩,h6⟩,h7⟩,h8⟩,h9⟩:=h
         dsimp only at h1 h2 h3 h4 h5 h6 h7 h8 h9
         rw[Bool.and_eq_true] at h3
         subst h1 h5
         have ok:=zfo G h2
         have G':=zg6 G (tgs:=zbu tg) ok h6
         have ht:∀cl C fp s H pn,PTs (zax X (capN X.N (zbu tg) js) scope cl C fp s H pn) ifs (tT X.K cf c):=fun cl C fp s H pn=>by
          split at h8
          · rename_i ce
            cases List.isEmpty_iff.mp ce
            exact zeT (X:=zax X (capN X.N (zbu tg) js) scope cl C fp s H pn) h8
          · replace h8:=zac h8
            obtain⟨t,q3,h8⟩:=h8
            cases zaG q3
            exact zgt (zaI c (G' cl C fp s H pn) h8).1
         have he:∀cl C fp s H pn,PE (zax X (capN X.N (zbu tg) js) scope cl C fp s H pn) elt (tE X.K cf e):=fun cl C fp s H pn=>zaf e (G' cl C fp s H pn) h9
         have hg:∀cl C fp s H pn,PG (zax X (capN X.N (zbu tg) js) scope cl C fp s H pn) tg (tG X.K g):=fun cl C fp s H pn=>zjm (G' cl C fp s H pn) h7
         have hps:=zjT (spos:=pos) (py:=p) (pos:=p2) X.env.scope (zbu tg) js (i:=i) (y:=x) (by rw[G.nm];exact G.nd) (by rw[G.nm];exact hi) (G.lc hl).1 G.calm rfl ok ((zbk it G h4).2.2.1 tg h3.2) hg ht he hw (zeD h3.1 X.env) (G.lc hl).2
         exact zjt G hi ⟨_,hps,fun σ H Qv q=>zfn G.tab.frm (zgE q)⟩ hr
       |_=>cases c0
     · cases h
   · cases h
theorem zkE {v:Expr}(h:zbh v=false){e:CE}{N:List Str}{sc:Scope}(hc:chkE T e N sc v=true):∃l elt gs scope p,v=.ListComp elt gs scope p/\e=.mkL l:=by
 cases v with
 | ListComp elt gs scope p =>
   cases e with
   |mkL l=>exact⟨l,elt,gs,scope,p,rfl,rfl⟩
   |_=>simp[chkE,zaY,zco,zfD,rdUn,zdI,zb5,rdIf,zem,zdF,zen,zaK,zaL,zbw,zcR,zbT,zbJ] at hc
 |SetComp=>cases e<;>simp[chkE,zaY,zco,zfD,rdUn,zdI,zb5,rdIf,zem,zdF,zen,zaK,zaL,zbw,zcR,zbT,zbJ,rdLC,chkL] at hc
 |DictComp=>cases e<;>simp[chkE,zaY,zco,zfD,rdUn,zdI,zb5,rdIf,zem,zdF,zen,zaK,zaL,zbw,zcR,zbT,zbJ,rdLC,chkL] at hc
 |_=>cases h
theorem zeJ:∀(b:TrB) {N:List Str} {sc:Scope} {st:List Stmt} {X:Cx},Gd T cf k N sc X->chkB T b N sc st=true->PSs X st (tB X cf b)
 | .run f es, N, sc, st, X, G, h => by
   simp only[chkB] at h
   replace h:=zac h
   obtain⟨s,q0,h⟩:=h
   cases zaG q0
   replace h:=zac h
   obtain⟨v,q1,h⟩:=h
   obtain⟨p,rfl⟩:=zdH q1
   replace h:=zac h
   obtain⟨⟨x,args⟩,q,h⟩:=h
   obtain⟨p2,p,rfl⟩:=zaF q
   simp only[Bool.and_eq_true] at h
   obtain⟨⟨⟨⟨⟨h1,h2⟩,h3⟩,h4⟩,h5⟩,h6⟩:=h
   obtain⟨ps,nd,hf,hj⟩:=zg8 h4
   cases args with
   |nil=>cases h5
   |cons a as=>exact zlv G h3 hf h1 (za1 h2).1 (zaQ es G h6).1 (zaM h6)
 | .asg i f es, N, sc, st, X, G, h => by
   simp only[chkB] at h
   replace h:=zac h
   obtain⟨s,q0,h⟩:=h
   cases zaG q0
   replace h:=zac h
   obtain⟨⟨tg,v,pos⟩,q1,h⟩:=h
   cases zbK q1
   replace h:=zac h
   obtain⟨y,q2,h⟩:=h
   obtain⟨py,hy⟩:=zaA q2
   dsimp only at hy
   subst hy
   replace h:=zac h
   obtain⟨⟨x,args⟩,q,h⟩:=h
   obtain⟨p2,p,hv⟩:=zaF q
   dsimp only at hv
   subst hv
   simp only[Bool.and_eq_true,beq_iff_eq] at h
   obtain⟨⟨⟨⟨⟨⟨⟨h8,h9⟩,h1⟩,h2⟩,h3⟩,h4⟩,h5⟩,h6⟩:=h
   obtain⟨ps,nd,hf,hj⟩:=zg8 h4
   cases args with
   |nil=>cases h5
   |cons a as=>exact zlx G h8 h9 h3 hf h1 (za1 h2).1 (zaQ es G h6).1 (zaM h6)
 | .ite c a b, N, sc, st, X, G, h => by
   simp only[chkB] at h
   replace h:=zac h
   obtain⟨s,q0,h⟩:=h
   cases zaG q0
   replace h:=zac h
   obtain⟨⟨e,A,B⟩,q,h⟩:=h
   obtain⟨p,rfl⟩:=zdG q
   simp only[Bool.and_eq_true] at h
   exact zlw (zaI c G h.1.1).1 (zeJ a G h.1.2) (zeJ b G h.2)
theorem zaP:∀(cs:CS) {N:List Str} {sc:Scope} {st:List Stmt} {X:Cx},Gd T cf k N sc X->X.stack=X.env::X.outer/\X.env.frame=some X.env.locals->chkS T cs N sc st=true->PSs X st (tS X cf cs)
 | .nil, N, sc, st, X, G, F, h => by
   simp only[chkS,List.isEmpty_iff] at h
   subst h
   exact zlc
 |.stop,N,sc,st,X,G,F,h=>fun pins s σ H E I ⟨δ,ι,S,Q,hs,hh,w,l⟩=>(by simp only[exS] at w;exact w.elim)
 | .asg i e r, N, sc, st, X, G, F, h => by
   cases st with
   |nil=>simp[chkS] at h
   | cons s rest =>
     simp only[chkS] at h
     replace h:=zac h
     obtain⟨⟨tg,v,pos⟩,q,h⟩:=h
     cases zbK q
     replace h:=zac h
     obtain⟨x,q2,h⟩:=h
     obtain⟨p,hx⟩:=zaA q2
     dsimp only at hx
     subst hx
     simp only[Bool.and_eq_true,beq_iff_eq] at h
     obtain⟨⟨⟨h1,h2⟩,h3⟩,h4⟩:=h
     have hr:=zaP r G F h4
     cases hn:zbh v with
     |true=>exact zle G h1 h2 (zaf e G h3) hn hr
     | false =>
       obtain⟨l,elt,gs,scope,p2,rfl,rfl⟩:=zkE hn h3
       exact zjr G h1 h2 h3 hr
 | .asgT g e r, N, sc, st, X, G, F, h => by
   cases st with
   |nil=>simp[chkS] at h
   | cons s rest =>
     simp only[chkS] at h
     replace h:=zac h
     obtain⟨⟨tg,v,pos⟩,q,h⟩:=h
     cases zbK q
     replace h:=zac h
     obtain⟨es,q2,h⟩:=h
     obtain⟨j,p,hx⟩:=zcm q2
     dsimp only at hx
     subst hx
     simp only[Bool.and_eq_true,decide_eq_true_eq] at h
     obtain⟨⟨⟨⟨h1,h2⟩,h3⟩,h4⟩,h5⟩:=h
     refine zjs G h3 h2 (zaf e G h4) ?_ (zaP r G F h5)
     rw[Bool.or_eq_true] at h1
     rcases h1 with h1|h1
     · obtain⟨x,hx⟩:=Option.isSome_iff_exists.mp h1
       obtain⟨p2,hv⟩:=zaA hx
       exact .inl ⟨x,p2,hv⟩
     · obtain⟨⟨x,as⟩,hx⟩:=Option.isSome_iff_exists.mp h1
       obtain⟨p2,p3,hv⟩:=zaF hx
       exact .inr ⟨_,_,_,_,hv⟩
 | .setIx a b e r, N, sc, st, X, G, F, h => by
   cases st with
   |nil=>simp[chkS] at h
   | cons s rest =>
     simp only[chkS] at h
     replace h:=zac h
     obtain⟨⟨tg,v,pos⟩,q,h⟩:=h
     cases zbK q
     replace h:=zac h
     obtain⟨⟨o,i⟩,q2,h⟩:=h
     obtain⟨p,hx⟩:=zcn q2
     dsimp only at hx
     subst hx
     simp only[Bool.and_eq_true] at h
     obtain⟨⟨⟨⟨h1,h2⟩,h3⟩,h4⟩,h5⟩:=h
     exact zhD G (zaf a G h2) (zaf b G h3) (zaf e G h4) h1 (zaP r G F h5)
 | .ifS c t u r, N, sc, st, X, G, F, h => by
   cases st with
   |nil=>simp[chkS] at h
   | cons s rest =>
     simp only[chkS] at h
     replace h:=zac h
     obtain⟨⟨e,a,b⟩,q,h⟩:=h
     obtain⟨p,rfl⟩:=zdG q
     simp only[Bool.and_eq_true] at h
     exact zni (zaI c G h.1.1.1).1 (zaP t G F h.1.1.2) (zaP u G F h.1.2) (zaP r G F h.2)
 | .forS g l b r, N, sc, st, X, G, F, h => by
   cases st with
   |nil=>simp[chkS] at h
   | cons s rest =>
     simp only[chkS] at h
     replace h:=zac h
     obtain⟨⟨tg,it,body⟩,q,h⟩:=h
     obtain⟨p,rfl⟩:=zgq q
     simp only[Bool.and_eq_true] at h
     obtain⟨⟨⟨⟨h1,h2⟩,h3⟩,h4⟩,h5⟩:=h
     exact zld G ((zbk l G h2).2.2.1 tg h5.2) (zjm G h5.1) (zaP b G F h3) h1 (zaP r G F h4)
 | .ret e r, N, sc, st, X, G, F, h => by
   cases st with
   |nil=>simp[chkS] at h
   | cons s rest =>
     simp only[chkS] at h
     replace h:=zac h
     obtain⟨v,q,h⟩:=h
     obtain⟨p,rfl⟩:=zgn q
     simp only[Bool.and_eq_true] at h
     exact zlb (zaf e G h.1) (zaP r G F h.2)
 | .expr e r, N, sc, st, X, G, F, h => by
   cases st with
   |nil=>simp[chkS] at h
   | cons s rest =>
     simp only[chkS] at h
     replace h:=zac h
     obtain⟨v,q,h⟩:=h
     obtain⟨p,rfl⟩:=zdH q
     simp only[Bool.and_eq_true] at h
     exact zjq (zaf e G h.1.2) h.1.1 (zaP r G F h.2)
 | .rais c x f a, N, sc, st, X, G, F, h => by
   cases st with
   |nil=>simp[chkS] at h
   | cons s rest =>
     simp only[chkS] at h
     replace h:=zac h
     obtain⟨⟨x',arg⟩,q,h⟩:=h
     obtain⟨np,cp,p,rfl⟩:=zeo q
     simp only[Bool.and_eq_true,decide_eq_true_eq] at h
     obtain⟨⟨⟨⟨⟨rfl,h1⟩,h2⟩,h3⟩,h4⟩,h5⟩:=h
     exact zhE G h3 h1 (za1 h2).1 (zaf a G h5) h4
 | .tryS b x ie ix r, N, sc, st, X, G, F, h => by
   cases st with
   |nil=>simp[chkS] at h
   | cons s rest =>
     simp only[chkS] at h
     replace h:=zac h
     obtain⟨⟨body,xR,n,y⟩,q,h⟩:=h
     obtain⟨np,p1,p2,p3,hp,p,rfl⟩:=zgm q
     simp only[Bool.and_eq_true,decide_eq_true_eq,beq_iff_eq] at h
     obtain⟨⟨⟨⟨⟨⟨⟨⟨⟨⟨⟨rfl,h1⟩,h2⟩,h3⟩,h4⟩,h5⟩,h6⟩,h7⟩,h8⟩,h9⟩,h10⟩,h11⟩:=h
     exact zla G (fun pn E hE=>zeJ b (X:=pnC X pn E) ⟨G.nm,G.nd,G.loc,G.cell,G.free,G.glob,G.fn,G.calm,hE,G.room',G.tab⟩ h10) F.1 F.2 h3 h1 (za1 h2).1 h4 h5 h6 h7 (za1 h8).1 (za1 h8).2.1 h9 (zaP r G F h11)
theorem RS.start {K:PySem.W.Frag}{ι:List Addr}{H:Hp}{F:Fn}{N:List Str}{ds:List D}{vs:List V}(r:RVs K ι H ds vs)(hl:ds.length=F.np)(hn:F.nn=N.length):RS K ι H (zaB F ds) (L2.start N vs):=by
 have hlen:=r.length
 refine⟨by simp[zaB,L2.start,hlen,hl,hn],fun i d e=>?_⟩
 unfold zaB at e
 unfold L2.start
 by_cases hi:i<ds.length
 · rw[List.getElem?_append_left (by simpa using hi),List.getElem?_map] at e
   rw[List.getElem?_append_left (by simpa[hlen] using hi),List.getElem?_map]
   cases z:ds[i]? with
   |none=>rw[z] at e;cases e
   | some d' =>
     rw[z] at e
     simp only[Option.map_some,Option.some.injEq] at e
     subst e
     obtain⟨v,ev,rv⟩:=r.get z
     exact⟨v,by rw[ev];rfl,rv⟩
 · rw[List.getElem?_append_right (by simpa using hi),List.getElem?_replicate] at e
   split at e<;>cases e
structure DefOk (K:PySem.W.Frag) (mg:Str->Option Value) (T:Tab) (Pg:List Fn) (fi:Nat) (x:Str) (ps:List Str) (nd:Nat):Prop where
 ex:∃(F:Fn) (qual:Str) (st:Stmt) (dV:Value) (f:Addr) (fd:FuncData) (N:List Str),Pg[fi]?=some F/\F.prim=none/\FunV K x qual st dV f fd/\FnScope N ps (zae st)/\chkS T F.body N (zae st) (zap st)=true/\F.np=ps.length/\F.nn=N.length/\
  mg x=some (.ref f)/\∀j,j<=nd->Binds K fd ps (List.replicate j Value.none)
theorem zjU {S:R.St}{p:Prim}{ds:List D}{d:D}{T':R.St}(h:prm S p ds=.ok d T'):Frm S T':=by
 unfold prm at h
 split at h
 · split at h
   · split at h
     · split at h
       · injection h with _ h2;rw[<-h2];exact Frm.push _ _
       · cases h
     · cases h
   · cases h
 · split at h
   · split at h
     · injection h with _ h2;rw[<-h2];exact Frm.refl _
     · cases h
   · cases h
 · cases h
theorem zlN {S:R.St}{p:Prim}{ds:List D}{d:D}{T':R.St}(h:prm S p ds=.err d T'):False:=by
 unfold prm at h
 split at h
 · split at h
   · split at h
     · split at h<;>cases h
     · cases h
   · cases h
 · split at h
   · split at h<;>cases h
   · cases h
 · cases h
theorem zcy (Pg:List Fn):∀n:Nat,CFok (callF Pg n)
 |0,f,ds,S,d,T',h=>by rcases h with h|h<;>cases h
 | n + 1, f, ds, S, d, T', h => by
   simp only[callF] at h
   cases e:Pg[f]? with
   |none=>rw[e] at h;rcases h with h|h<;>cases h
   | some F =>
     rw[e] at h
     dsimp only at h
     split at h
     · cases ep:F.prim with
       | some p =>
         rw[ep] at h
         dsimp only at h
         split at h
         · rcases h with h|h
           · exact zjU h
           · exact (zlN h).elim
         · rcases h with h|h<;>cases h
       |none=>
       rw[ep] at h
       dsimp only at h
       cases ex:exS (callF Pg n) F.body (zaB F ds) S with
       | ok r T2 =>
         rw[ex] at h
         have hf:=zb2 (cf:=callF Pg n) (zcy Pg n) F.body (zaB F ds) S (fun r' T3=>r'=r/\T3=T2) (by rw[ex];exact⟨rfl,rfl⟩)
         rw[ex] at hf
         cases r with
         |nx δ=>rcases h with h|h<;>cases h;exact hf.2
         |rt z=>rcases h with h|h<;>cases h;exact hf.2
         |ex z=>rcases h with h|h<;>cases h;exact hf.2
       |err z T2=>rw[ex] at h;rcases h with h|h<;>cases h
       |bad=>rw[ex] at h;rcases h with h|h<;>cases h
     · rcases h with h|h<;>cases h
variable {P:Program} {w:World} {K:PySem.W.Frag} {mg:Str->Option Value} {base:Heap} {Pg:List Fn}
theorem zda {n fi:Nat}{F:Fn}{ps:List Str}(hP:Pg[fi]?=some F)(hp:F.np=ps.length){vs:List V}{H:Hp}{Q:VK}{E:XK}(h:spF K (callF Pg n) fi vs H Q E):vs.length=ps.length:=by
 obtain⟨ι,S,ds,r,hh,w⟩:=h
 rw[r.length]
 cases n with
 |zero=>exact w.elim
 | succ n =>
   simp only[callF,hP] at w
   split at w
   · rename_i c;rw[c,hp]
   · exact w.elim
theorem zgg {n fi:Nat}{F:Fn}{ps:List Str}(hP:Pg[fi]?=some F)(hp:F.np=ps.length){vs:List V}{H:Hp}{Q:VK}{E:XK}(h:spX K (callF Pg n) fi vs H Q E):vs.length=ps.length:=by
 obtain⟨ι,S,ds,r,hh,w⟩:=h
 rw[r.length]
 cases n with
 |zero=>exact w.elim
 | succ n =>
   simp only[callF,hP] at w
   by_cases c:ds.length=F.np
   · rw[c,hp]
   · rw[if_neg c] at w;exact w.elim
theorem zhf {n m fi:Nat}{x qual:Str}{st:Stmt}{dV:Value}{f:Addr}{fd:FuncData}{N ps:List Str}{F:Fn}(tab:TabOk T (callF Pg n) m P w K mg base)(FV:FunV K x qual st dV f fd)(hP:Pg[fi]?=some F)(S:FnScope N ps (zae st))(ck:chkS T F.body N (zae st) (zap st)=true)(hp:F.np=ps.length)(hn:F.nn=N.length)(hq:F.prim=none:=by rfl) :
  FnOk P w K mg base (CXe P w) (m+2) f fd ps (spX K (callF Pg (n+1)) fi):=by
 obtain⟨oc,od,kV,doc,pm,an,cdv,ct,osl,rfl,lk,hcd⟩:=FV.ex
 refine zmz lk hcd S (fun vs H Q E h=>zgg hP hp h) fun A outer s H vs Q E hr h=>?_
 obtain⟨ι,S0,ds,r,hh,hw⟩:=h
 have G:Gd T (callF Pg n) m N (zae st) (cxOf (CXe P w) P w K mg base N qual (zae st) f cdv A outer s H E):=
  ⟨rfl,S.nd,fun x e=>e,fun x e=>e,fun x e=>.inl e,fun x e=>e,.inl fun _=>rfl,rfl,PassesOwn.leaving,hr,tab⟩
 refine⟨_,zaP F.body G ⟨rfl,rfl⟩ ck,?_⟩
 simp only[callF,hP,hq] at hw
 by_cases c:ds.length=F.np
 · rw[if_pos c] at hw
   cases ex:exS (callF Pg n) F.body (zaB F ds) S0 with
   | ok fl T' =>
     rw[ex] at hw
     refine⟨zaB F ds,ι,S0,fun f' T2=>f'=fl/\T2=T',RS.start r c hn,hh,by rw[ex];exact⟨rfl,rfl⟩,?_⟩
     rintro f' ι' H' S' x' hh' ⟨rfl,rfl⟩
     cases f' with
     |nx δ'=>exact fun σ' hs'=>hw .non H' ι' x' rfl hh'
     |rt d=>exact fun v rv=>hw v H' ι' x' rv hh'
     |ex d=>exact fun a σ' pins s' rv I fl=>zgH I fl (hw a H' ι' x' rv hh')
   |err d T'=>rw[ex] at hw;exact hw.elim
   |bad=>rw[ex] at hw;exact hw.elim
 · rw[if_neg c] at hw;exact hw.elim
theorem zkt {k fi:Nat}{cf:CF}{f:Addr}{fd:FuncData}{ps:List Str}(F:FnOk P w K mg base (CXe P w) k f fd ps (spX K cf fi)):FnOk P w K mg base CX0 k f fd ps (spF K cf fi):=by
 have conv:∀vs H Q E,spF K cf fi vs H Q E->spX K cf fi vs H Q (fun _ _ _=>False):=fun vs H Q E ⟨ι,S,ds,r,hh,hw⟩=>by
  obtain⟨d,T',e,q⟩:=zhw hw
  exact⟨ι,S,ds,r,hh,by rw[e];exact q⟩
 refine⟨fun vs H Q E h=>F.len _ _ _ _ (conv vs H Q E h),fun A outer s H args us vs Q E hr e0 b v h=>codeAny_mono (F.run A outer s H args us vs Q _ hr e0 b v (conv vs H Q E h)) fun r s' q=>?_⟩
 cases r with
 |error e=>obtain⟨a,H',_,_,_,_,_,_,z⟩:=q;exact z.elim
 |ok fl=>cases fl<;>exact q
theorem zhg {n m fi:Nat}{x qual:Str}{st:Stmt}{dV:Value}{f:Addr}{fd:FuncData}{N ps:List Str}{F:Fn}(tab:TabOk T (callF Pg n) m P w K mg base)(FV:FunV K x qual st dV f fd)(hP:Pg[fi]?=some F)(S:FnScope N ps (zae st))(ck:chkS T F.body N (zae st) (zap st)=true)(hp:F.np=ps.length)(hn:F.nn=N.length)(hq:F.prim=none:=by rfl) :
 FnOk P w K mg base CX0 (m+2) f fd ps (spF K (callF Pg (n+1)) fi):=zkt (zhf tab FV hP S ck hp hn hq)
structure MOk (K:PySem.W.Frag) (T:Tab) (Pg:List Fn) (fi j:Nat) (Ex:Addr->Prop):Prop where
 ex:∃(F:Fn) (x qual:Str) (st:Stmt) (dV:Value) (f:Addr) (fd:FuncData) (N ps:List Str),Pg[fi]?=some F/\F.prim=none/\FunV K x qual st dV f fd/\FnScope N ps (zae st)/\chkS T F.body N (zae st) (zap st)=true/\F.np=ps.length/\F.nn=N.length/\
  Binds K fd ps (List.replicate j Value.none)/\Ex f
theorem zdj {fi j:Nat}{Ex:Addr->Prop}(z:MOk K T Pg fi j Ex):∃f fd ps,Ex f/\PySem.W.keepIn K (.ref f)=true/\Binds K fd ps (List.replicate j Value.none)/\FnOk P w K mg base CX0 1 f fd ps (spF K (callF Pg 0) fi):=by
 obtain⟨F,x,qual,st,dV,f,fd,N,ps,hP,hq,FV,S,ck,hp,hn,hb,e⟩:=z.ex
 refine⟨f,fd,ps,e,FV.kp,hb,⟨fun vs H Q E h=>zda hP hp h,fun A outer s H args us vs Q E hr e0 b v h=>?_⟩⟩
 obtain⟨ι,S,ds,r,hh,w⟩:=h
 exact w.elim
theorem zdk {n m fi j:Nat}{Ex:Addr->Prop}(tab:TabOk T (callF Pg n) m P w K mg base)(z:MOk K T Pg fi j Ex):∃f fd ps,Ex f/\PySem.W.keepIn K (.ref f)=true/\Binds K fd ps (List.replicate j Value.none)/\FnOk P w K mg base CX0 (m+2) f fd ps (spF K (callF Pg (n+1)) fi):=by
 obtain⟨F,x,qual,st,dV,f,fd,N,ps,hP,hq,FV,S,ck,hp,hn,hb,e⟩:=z.ex
 exact⟨f,fd,ps,e,FV.kp,hb,zhg tab FV hP S ck hp hn hq⟩
noncomputable def ExM (K:PySem.W.Frag)(c:Nat)(m:Str)(f:Addr):Prop:=∃C,Mks.cl[c]?=some C/\Cls K C/\Meth K C m f
noncomputable def ExI (K:PySem.W.Frag)(c:Nat)(f:Addr):Prop:=∃C,Mks.cl[c]?=some C/\Mk K C f
noncomputable def ExC (K:PySem.W.Frag)(mg:Str->Option Value)(x m:Str)(f:Addr):Prop:=∃(C:Addr) (mc:Value),mg x=some (.ref C)/\PySem.W.specialIn K (.ref C) "__getattribute__"=some (some (.builtin "type.__getattribute__"))/\PySem.W.readsIn K C mc=true/\PySem.W.findCls K (.ref C) mc m=some (.val (.ref f))
structure ClsOk (T:Tab) (K:PySem.W.Frag) (mg:Str->Option Value) (Pg:List Fn):Prop where
 cls:∀(c:Nat) (x:Str),T.cls[c]?=some x->∃C,Mks.cl[c]?=some C/\Cls K C/\mg x=some (.ref C)/\∀f,T.flds.contains f=true->zcH K C f
 mth:∀(c:Nat) (m:Str) (fi:Nat),T.mts.contains (c,m,fi)=true->MOk K T Pg fi 0 (ExM K c m)
 ini:∀(c fi j:Nat),T.inits.contains (c,fi,j)=true->MOk K T Pg fi j (ExI K c)
 cmd:∀(x m:Str) (fi:Nat),T.cms.contains (x,m,fi)=true->MOk K T Pg fi 0 (ExC K mg x m)
 cln:Mks.cl.length<=T.cls.length
 isa:∀(x:Str) (cs:List Nat),T.isas.contains (x,cs)=true->∃D,mg x=some (.ref D)/\∀c C,Mks.cl[c]?=some C->IsaOk K C/\PySem.W.kitOne K (.ref C) (.ref D)=some (cs.contains c)
theorem zg0 {k c fi:Nat}{m:Str}(h:∃f fd ps,ExM K c m f/\PySem.W.keepIn K (.ref f)=true/\Binds K fd ps []/\FnOk P w K mg base CX0 k f fd ps (spF K cf fi)):HasM P w K mg base k c m (spF K cf fi):=by
 obtain⟨f,fd,ps,⟨C,h1,h2,h3⟩,_,h4,h5⟩:=h
 exact⟨C,f,fd,ps,h1,h2,h3,h5,h4⟩
theorem zg1 {k c fi j:Nat}(h:∃f fd ps,ExI K c f/\PySem.W.keepIn K (.ref f)=true/\Binds K fd ps (List.replicate j Value.none)/\FnOk P w K mg base CX0 k f fd ps (spF K cf fi)):HasI P w K mg base k c j (spF K cf fi):=by
 obtain⟨f,fd,ps,⟨C,h1,h2⟩,_,h4,h5⟩:=h
 exact⟨C,f,fd,ps,h1,h2,h5,h4⟩
theorem zg2 {k fi:Nat}{x m:Str}(h:∃f fd ps,ExC K mg x m f/\PySem.W.keepIn K (.ref f)=true/\Binds K fd ps []/\FnOk P w K mg base CX0 k f fd ps (spF K cf fi)):HasC P w K mg base k x m (spF K cf fi):=by
 obtain⟨f,fd,ps,⟨C,mc,h1,h2,h3,h6⟩,h7,h4,h5⟩:=h
 exact⟨C,f,fd,ps,mc,h1,h2,h3,h6,h7,h5,h4⟩
structure PrimOk (P:Program) (w:World) (K:PySem.W.Frag) (mg:Str->Option Value) (base:Heap) (Pg:List Fn) (fi:Nat) (x:Str) (ps:List Str) (nd:Nat):Prop where
 ex:∃(F:Fn) (p:Prim) (f:Addr) (fd:FuncData),Pg[fi]?=some F/\F.prim=some p/\F.np=ps.length/\mg x=some (.ref f)/\PySem.W.keepIn K (.ref f)=true/\(∀j,j<=nd->Binds K fd ps (List.replicate j Value.none))/\
  ∀n,3<=n->FnOk P w K mg base CX0 (n+2) f fd ps (spF K (callF Pg (n+1)) fi)
structure XSOk (T:Tab) (K:PySem.W.Frag) (mg:Str->Option Value) (Pg:List Fn):Prop where
 cl:∀(c:Nat) (x f:Str),T.xcs.contains (c,x,f)=true->∃(C fI:Addr) (qual:Str) (st:Stmt) (fd:FuncData) (xR y:Str),Mks.xc[c]?=some C/\mg x=some (.ref C)/\PySem.W.keepIn K (.ref C)=true/\Xc K C fI f/\FunV K "__init__" qual st .none fI fd/\XSt st xR y f/\XUp K mg xR/\Binds K fd ["self",y] []
 fl:∀f,T.xflds.contains f=true->∀(c:Nat) C,Mks.xc[c]?=some C->XGet K C/\zcH K C f
 is:∀(x:Str) (cs:List Nat),T.xisas.contains (x,cs)=true->∃D,mg x=some (.ref D)/\∀(c:Nat) C,Mks.xc[c]?=some C->XGet K C/\IsaOk K C/\PySem.W.kitOne K (.ref C) (.ref D)=some (cs.contains c)
 ib:∀(x:Str) (cs:List Nat),T.xisbs.contains (x,cs)=true->mg x=none/\x≠"__name__"/\∃t,bootBuiltins x=some (.type t)/\∀(c:Nat) C,Mks.xc[c]?=some C->XGet K C/\IsaOk K C/\PySem.W.kitOne K (.ref C) (.type t)=some (cs.contains c)
 fn:∀(f:Nat) (x:Str) (ps:List Str) (nd:Nat),T.xfns.contains f=true->T.fns[f]?=some (x,ps,nd)->DefOk K mg T Pg f x ps nd
 tr:∀x,T.xtrs.contains x=true->∃CR,mg x=some (.ref CR)/\∀(c:Nat) C,Mks.xc[c]?=some C->PySem.W.exmOne K (.ref C) (.ref CR)=some true
theorem XSOk.tab {cf:CF}{k:Nat}(hx:XSOk T K mg Pg)(fn:∀(f:Nat) (x:Str) (ps:List Str) (nd:Nat),T.xfns.contains f=true->T.fns[f]?=some (x,ps,nd)->∃fa fd,FnOk P w K mg base (CXe P w) (k+1) fa fd ps (spX K cf f)/\mg x=some (.ref fa)/\PySem.W.keepIn K (.ref fa)=true/\Binds K fd ps []) :
  XTabOk T cf (k+1) P w K mg base:=by
 refine⟨fun c x f h=>?_,hx.fl,hx.is,hx.ib,fn,hx.tr⟩
 obtain⟨C,fI,qual,st,fd,xR,y,h1,h2,h3,h4,h5,h6,h7,h8⟩:=hx.cl c x f h
 exact⟨C,fI,fd,["self",y],h1,h2,h3,h4,zkm h5 h6 h7,h8⟩
theorem zk5 (hb:∀x,T.blt.contains x=true->mg x=none)(hc:∀x d,T.cons.lookup x=some d->zjG d=true/\∃u,mg x=some u/\RelV (sV d) u)(hd:∀fi x ps nd,T.fns[fi]?=some (x,ps,nd)->DefOk K mg T Pg fi x ps nd\/PrimOk P w K mg base Pg fi x ps nd)(hk:ClsOk T K mg Pg)(hx:XSOk T K mg Pg) :
  ∀n,TabOk T (callF Pg n) (2 * n+1) P w K mg base:=by
 intro n
 induction n with
 | zero =>
   refine⟨hb,hc,fun fi x ps nd hf j hj=>?_,zcy Pg 0,hk.cls,fun c m fi h=>zg0 (zdj (hk.mth c m fi h)),fun c fi j h=>zg1 (zdj (hk.ini c fi j h)),fun x m fi h=>zg2 (zdj (hk.cmd x m fi h)),fun _=>hk.cln,hk.isa,hx.tab (fun f x ps nd h1 h2=>?_)⟩
   rotate_left
   · obtain⟨F,qual,st,dV,fa,fd,N,hP,hq,FV,S,ck,hp,hn,hm,hbd⟩:=(hx.fn f x ps nd h1 h2).ex
     refine⟨fa,fd,⟨fun vs H Q E h=>zgg hP hp h,fun A outer s H args us vs Q E hr e0 b v h=>?_⟩,hm,FV.kp,hbd 0 (Nat.zero_le _)⟩
     obtain⟨ι,S,ds,r,hh,w⟩:=h
     exact w.elim
   rcases hd fi x ps nd hf with z|z
   · obtain⟨F,qual,st,dV,f,fd,N,hP,hq,FV,S,ck,hp,hn,hm,hbd⟩:=z.ex
     refine⟨f,fd,_,⟨fun vs H Q E h=>zda hP hp h,fun A outer s H args us vs Q E hr e0 b v h=>?_⟩,hm,FV.kp,hbd j hj,Vals.nons j⟩
     obtain⟨ι,S,ds,r,hh,w⟩:=h
     exact w.elim
   · obtain⟨F,p,f,fd,hP,hq,hp,hm,kp,hbd,ok⟩:=z.ex
     refine⟨f,fd,_,⟨fun vs H Q E h=>zda hP hp h,fun A outer s H args us vs Q E hr e0 b v h=>?_⟩,hm,kp,hbd j hj,Vals.nons j⟩
     obtain⟨ι,S,ds,r,hh,w⟩:=h
     exact w.elim
 | succ n ih =>
   refine⟨hb,hc,fun fi x ps nd hf j hj=>?_,zcy Pg (n+1),hk.cls,fun c m fi h=>zg0 (zdk ih (hk.mth c m fi h)),fun c fi j h=>zg1 (zdk ih (hk.ini c fi j h)),fun x m fi h=>zg2 (zdk ih (hk.cmd x m fi h)),fun _=>hk.cln,hk.isa,hx.tab (fun f x ps nd h1 h2=>?_)⟩
   rotate_left
   · obtain⟨F,qual,st,dV,fa,fd,N,hP,hq,FV,S,ck,hp,hn,hm,hbd⟩:=(hx.fn f x ps nd h1 h2).ex
     exact⟨fa,fd,zhf ih FV hP S ck hp hn hq,hm,FV.kp,hbd 0 (Nat.zero_le _)⟩
   rcases hd fi x ps nd hf with z|z
   · obtain⟨F,qual,st,dV,f,fd,N,hP,hq,FV,S,ck,hp,hn,hm,hbd⟩:=z.ex
     refine⟨f,fd,_,?_,hm,FV.kp,hbd j hj,Vals.nons j⟩
     exact zhg ih FV hP S ck hp hn hq
   · obtain⟨F,p,f,fd,hP,hq,hp,hm,kp,hbd,ok⟩:=z.ex
     refine⟨f,fd,_,?_,hm,kp,hbd j hj,Vals.nons j⟩
     by_cases c:3<=n
     · exact (ok n c).mono (by omega)
     · refine⟨fun vs H Q E h=>zda hP hp h,fun A outer s H args us vs Q E hr e0 b v h=>?_⟩
       obtain⟨ι,S,ds,r,hh,w⟩:=h
       simp only[callF,hP,hq,c,if_false] at w
       split at w<;>exact w.elim
noncomputable def AllAtG {α:Type}(P:Nat->α->Prop):Nat->List α->Prop
 |_,[]=>True
 |k,a::r=>P k a/\AllAtG P (k+1) r
theorem zjd {α:Type}{P:Nat->α->Prop}:∀{l:List α} {k:Nat},AllAtG P k l->∀(i:Nat) (a:α),l[i]?=some a->P (k+i) a
 | [],_,_,i,a,h=>by simp at h
 |b::r,k,q,0,a,h=>by cases h;exact q.1
 | b :: r, k, q, i + 1, a, h => by
   have:=zjd q.2 i a (by simpa using h)
   rwa [Nat.add_right_comm] at this
theorem AllAt.get {α:Type}{P:Nat->α->Prop}{l:List α}(q:AllAtG P 0 l)(i:Nat)(a:α)(h:l[i]?=some a):P i a:=Nat.zero_add i▸zjd q i a h
noncomputable def AllInG {α:Type}(P:α->Prop):List α->Prop
 | []=>True
 |a::r=>P a/\AllInG P r
theorem AllIn.get {α:Type}[BEq α][LawfulBEq α]{P:α->Prop}:∀{l:List α},AllInG P l->∀a,l.contains a=true->P a
 | [],_,a,h=>by simp at h
 | b :: r, q, a, h => by
   rw[List.contains_cons,Bool.or_eq_true] at h
   rcases h with h|h
   · rw[eq_of_beq h];exact q.1
   · exact AllIn.get q.2 a h
theorem zkb {k fi:Nat}{K:PySem.W.Frag}{H:Hp}{a:Addr}{ns:List Int}(hx:FixL K H a (ns.map V.int))(tb:TB H)
  (law:W (callF Pg k fi [.fix (ns.map .int)] ⟨[],[],[]⟩) fun d _=>d=.bl true):spF K (callF Pg k) fi [.ref a] H (fun v _=>v=.bl true) fun _ _ _=>False:=by
 refine⟨[],⟨[],[],[]⟩,[.fix (ns.map .int)],⟨.ref a,[],rfl,⟨a,_,rfl,hx,RVs.ints ns⟩,rfl⟩,⟨rfl,List.nodup_nil,fun l o e=>(by simp[St.get] at e),tb⟩,?_⟩
 obtain⟨d,T',e,q⟩:=zhw law
 rw[e]
 intro v H' ι' x r hT
 subst q
 exact r
theorem law_sp {k fi:Nat}{K:PySem.W.Frag}{H:Hp}{a:Addr}{ns:List Int}(h0:Mks.ts=[])(hO:Only H)(hS:SqL K H a (ns.map V.int))
  (law:W (callF Pg k fi [.fix (ns.map .int)] ⟨[],[],[]⟩) fun d _=>d=.bl true):spF K (callF Pg k) fi [.ref a] H (fun v _=>v=.bl true) fun _ _ _=>False:=by
 refine zkb ?_ (fun p hp=>by rw[h0] at hp;cases hp) law
 rcases hS with (h|⟨o,h⟩)|h
 · rcases hO a with z|⟨o,xs,z⟩
   · rw[z] at h;cases h
   · rw[z] at h;cases h
 · exact .inl ⟨o,h⟩
 · exact .inr h
end
end R
end
section
namespace R
open PySem PySem.Spec PyProof.Rows L2
variable [Mks]
section
variable {X:Cx} {pins:List (Addr × Obj)} {σ:L2.St} {H H':Hp} {s:Shared}
structure Own (X:Cx) (pins:List (Addr × Obj)) (b:Addr):Prop where
 new:X.s₀.heap.objs.size<=b
 loc:b≠X.env.locals
 cel:∀x c,X.env.cells.lookup x=some c->c≠b
 pin:∀p∈X.pn++pins,p.1≠b
end
section
variable {X:Cx} {pins:List (Addr × Obj)} {σ:L2.St} {H H':Hp} {s:Shared} {b:Addr} {o:HO}
end
structure StepT (P:Addr) (H H':Hp):Prop where
 rest:∀a o,a≠P->H a=some o->H' a=some o
 tab:∀ps,H P=some (.tbl ps)->∃more,H' P=some (.tbl (ps++more))
theorem StepT.ext {P:Addr}{H H':Hp}{ps:Array Value}(st:StepT P H H')(hP:H P=some (.tbl ps))(tb:TB H'):Ext [] H [] H':=by
 have nP:∀a o,H a=some o->(∀ps,o≠.tbl ps)->a≠P:=fun a o e n z=>by rw[z,hP] at e;cases e;exact n _ rfl
 refine⟨List.prefix_refl _,⟨fun a xs e=>st.rest a _ (nP a _ e (by simp)) e,fun a o u e=>st.rest a _ (nP a _ e (by simp)) e,fun _=>tb⟩,fun a o _ e=>⟨?_,by simp⟩⟩
 by_cases z:a=P
 · subst z
   obtain⟨more,e'⟩:=st.tab ps hP
   rw[hP] at e;cases e
   exact .inr ⟨⟨_,rfl⟩,_,e'⟩
 · exact .inl (st.rest a o z e)
section
variable {X:Cx} {pins:List (Addr × Obj)} {σ:L2.St} {H:Hp} {s:Shared} {c P:Addr} {params:Arguments} {scope:Scope} {lpos:Pos}
end
end R
end
section
namespace R
open PySem PySem.Spec PyProof.Rows L2
variable [Mks]
noncomputable def okD (T:Tab)(F:Fn)(N ps:List Str)(st:Stmt):Bool:=
 decide ((zae st).kind=.function)&&(!(zae st).isCoroutine&&(!(zae st).isGenerator&&(decide N.Nodup&&(decide (N.take ps.length=ps)&&(ps.all (fun x=>decide ((zae st).names.lookup x=some .local) || decide ((zae st).names.lookup x=some .cell)) &&
  ((zae st).names.all (fun y=>decide (y.2≠.free))&&(chkS T F.body N (zae st) (zap st)&&(decide (F.np=ps.length)&&(decide (F.nn=N.length)&&F.prim.isNone)))))))))
structure OkD (T:Tab) (Pg:List Fn) (fi:Nat) (x q:Str) (ps:List Str) (st:Stmt):Prop where
 ex:∃(F:Fn) (N:List Str),Pg[fi]?=some F/\F.prim=none/\FnScope N ps (zae st)/\chkS T F.body N (zae st) (zap st)=true/\F.np=ps.length/\F.nn=N.length
 bd:∀(kV doc pm:Value) (an:Option Addr) (cdv ct:Value) (us:List Value),us.length=ps.length->bindArgs (PySem.W.fnOf x q (zav st) (zap st) (zae st) .none kV doc pm an cdv ct) ⟨us,[]⟩=pure (ps.zip us)
theorem zbc {T:Tab}{Pg:List Fn}{fi:Nat}{x q:Str}{ps:List Str}{st:Stmt}{F:Fn}(N:List Str)(e:Pg[fi]?=some F)(h:okD T F N ps st=true)
  (b:∀(kV doc pm:Value) (an:Option Addr) (cdv ct:Value) (us:List Value),us.length=ps.length->bindArgs (PySem.W.fnOf x q (zav st) (zap st) (zae st) .none kV doc pm an cdv ct) ⟨us,[]⟩=pure (ps.zip us)):OkD T Pg fi x q ps st:=by
 simp only[okD,Bool.and_eq_true,Bool.not_eq_true',decide_eq_true_eq,List.all_eq_true,Bool.or_eq_true,Option.isNone_iff_eq_none] at h
 obtain⟨h1,h2,h3,h4,h5,h6,h7,h8,h9,h10,h11⟩:=h
 exact⟨⟨F,N,e,h11,⟨h1,h2,h3,h4,h5,h6,h7⟩,h8,h9,h10⟩,b⟩
theorem AllInG.cons {α:Type}{P:α->Prop}{a:α}{r:List α}(h:P a)(t:AllInG P r):AllInG P (a::r):=⟨h,t⟩
theorem AllAtG.cons {α:Type}{P:Nat->α->Prop}{k:Nat}{a:α}{r:List α}(h:P k a)(t:AllAtG P (k+1) r):AllAtG P k (a::r):=⟨h,t⟩
theorem AllInG.mem {α:Type}{P:α->Prop}:∀{l:List α},AllInG P l->∀a∈l,P a
 | b :: r, q, a, h => by
   rcases List.mem_cons.mp h with rfl|h
   · exact q.1
   · exact AllInG.mem q.2 a h
section
variable {P:Program} {w:World} {K:PySem.W.Frag} {h base:Heap} {mg:Str->Option Value} {T:Tab} {Pg:List Fn} {fi c:Nat} {x q m:Str} {ps:List Str} {st:Stmt} {f C:Addr} {oc kV dc pm cd ct:Value} {od an:Option Addr} {sl:Array (Option Value)}
theorem dOk (X:K.In h)(G:h.Ns mainGlobals mg)(o:OkD T Pg fi x x ps st)(a:PySem.W.nsIn K mainGlobals x=some (some (.ref f)))(l:K.lookup f=some ⟨oc,od,.func (PySem.W.fnOf x x (zav st) (zap st) (zae st) .none kV dc pm an cd ct),sl⟩)(c:PySem.W.codeIn K cd x=true)
  (k:PySem.W.keepIn K (.ref f)=true):DefOk K mg T Pg fi x ps 0\/PrimOk P w K mg base Pg fi x ps 0:=by
 obtain⟨F,N,h1,h2,h3,h4,h5,h6⟩:=o.ex
 have FV:=zeC (st:=st) l c k
 exact .inl ⟨⟨F,x,st,_,f,_,N,h1,h2,FV,h3,h4,h5,h6,PySem.W.mg_of X G a,fun j hj=>(Nat.le_zero.mp hj).symm▸FV.binds o.bd⟩⟩
noncomputable def ClAt (K:PySem.W.Frag)(mg:Str->Option Value)(T:Tab)(c:Nat)(x:Str):Prop:=∃C,Mks.cl[c]?=some C/\Cls K C/\mg x=some (.ref C)/\∀f,T.flds.contains f=true->zcH K C f
noncomputable def IsAt (K:PySem.W.Frag)(mg:Str->Option Value)(z:Str × List Nat):Prop:=∃D,mg z.1=some (.ref D)/\∀c C,Mks.cl[c]?=some C->IsaOk K C/\PySem.W.kitOne K (.ref C) (.ref D)=some (z.2.contains c)
noncomputable def CoAt (K:PySem.W.Frag)(z:Str × D):Prop:=∃i t,z.2=.int i/\PySem.W.nsIn K mainGlobals z.1=some (some (.int i t))
theorem coOk {i:Int}{t:Tok}(a:PySem.W.nsIn K mainGlobals x=some (some (.int i t))):CoAt K (x,.int i):=⟨i,t,rfl,a⟩
end
structure OkX (q:Str) (st:Stmt) (xR y f:Str):Prop where
 tx:XSt st xR y f
 bd:∀(kV doc pm:Value) (an:Option Addr) (cdv ct:Value) (us:List Value),us.length=2->bindArgs (PySem.W.fnOf "__init__" q (zav st) (zap st) (zae st) .none kV doc pm an cdv ct) ⟨us,[]⟩=pure ([("self":Str),y].zip us)
section
variable {P:Program} {w:World} {K:PySem.W.Frag} {h base:Heap} {mg:Str->Option Value} {T:Tab} {Pg:List Fn} {fi c:Nat} {x q f y xR:Str} {ps:List Str} {st:Stmt} {fI C CR:Addr} {oc kV dc pm cd ct:Value} {od an:Option Addr} {sl:Array (Option Value)}
noncomputable def ziG (K:PySem.W.Frag)(mg:Str->Option Value)(z:Nat × Str × Str):Prop:=∃(C fI:Addr) (qual:Str) (st:Stmt) (fd:FuncData) (xR y:Str),Mks.xc[z.1]?=some C/\mg z.2.1=some (.ref C)/\PySem.W.keepIn K (.ref C)=true/\Xc K C fI z.2.2/\FunV K "__init__" qual st .none fI fd/\XSt st xR y z.2.2/\XUp K mg xR/\Binds K fd ["self",y] []
theorem xcOk (X:K.In h)(G:h.Ns mainGlobals mg)(o:OkX q st xR y f)(e:Mks.xc[c]?=some C)(a:PySem.W.nsIn K mainGlobals x=some (some (.ref C)))(kc:PySem.W.keepIn K (.ref C)=true)(t:PySem.W.findIn K (.ref C) "__init__"=some (some (.ref fI)))(xj:excJ K C fI=true)(i:PySem.W.isFn K (.ref fI)=true)
  (sa:PySem.W.findIn K (.ref C) "__setattr__"=some (some (.builtin "object.__setattr__"))) (po:zgA K C=true) (hd:PySem.W.hasDictIn K C=true) (no:PySem.W.findIn K (.ref C) f=some none)
  (l:K.lookup fI=some ⟨oc,od,.func (PySem.W.fnOf "__init__" q (zav st) (zap st) (zae st) .none kV dc pm an cd ct),sl⟩) (cc:PySem.W.codeIn K cd q=true) (k:PySem.W.keepIn K (.ref fI)=true)
  (aR:PySem.W.nsIn K mainGlobals xR=some (some (.ref CR))) (r1:PySem.W.specialIn K (.ref CR) "__getattribute__"=some (some (.builtin "type.__getattribute__"))) (r2:PySem.W.readsIn K CR (.type "type")=true) (r3:PySem.W.findCls K (.ref CR) (.type "type") "__init__"=some (.val (.builtin "ValueError.__init__"))):ziG K mg (c,x,f):=by
 have FV:=zeC (st:=st) l cc k
 exact⟨C,fI,q,st,_,xR,y,e,PySem.W.mg_of X G a,kc,⟨xj,i,sa,po,hd,no⟩,FV,o.tx,⟨CR,PySem.W.mg_of X G aR,r1,r2,r3⟩,FV.binds o.bd⟩
noncomputable def ziI (K:PySem.W.Frag)(mg:Str->Option Value)(z:Str × List Nat):Prop:=∃D,mg z.1=some (.ref D)/\AllAtG (fun c C=>PySem.W.kitOne K (.ref C) (.ref D)=some (z.2.contains c)) 0 Mks.xc
theorem xisOk {D:Addr}{cs:List Nat}(X:K.In h)(G:h.Ns mainGlobals mg)(a:PySem.W.nsIn K mainGlobals x=some (some (.ref D)))(kt:AllAtG (fun c C=>PySem.W.kitOne K (.ref C) (.ref D)=some (cs.contains c)) 0 Mks.xc):ziI K mg (x,cs):=⟨D,PySem.W.mg_of X G a,kt⟩
noncomputable def ziJ (K:PySem.W.Frag)(mg:Str->Option Value)(z:Str × List Nat):Prop:=mg z.1=none/\z.1≠"__name__"/\∃t,bootBuiltins z.1=some (.type t)/\AllAtG (fun c C=>PySem.W.kitOne K (.ref C) (.type t)=some (z.2.contains c)) 0 Mks.xc
theorem xibOk {t:String}{cs:List Nat}(X:K.In h)(G:h.Ns mainGlobals mg)(hn:x≠"__name__")(hb:bootBuiltins x=some (.type t))(a:PySem.W.nsIn K mainGlobals x=some none)(kt:AllAtG (fun c C=>PySem.W.kitOne K (.ref C) (.type t)=some (cs.contains c)) 0 Mks.xc):ziJ K mg (x,cs):=⟨PySem.W.mg_none_of X G a,hn,t,hb,kt⟩
noncomputable def ziH (K:PySem.W.Frag)(mg:Str->Option Value)(x:Str):Prop:=∃CR,mg x=some (.ref CR)/\AllInG (fun C=>PySem.W.exmOne K (.ref C) (.ref CR)=some true) Mks.xc
theorem xtrOk (X:K.In h)(G:h.Ns mainGlobals mg)(a:PySem.W.nsIn K mainGlobals x=some (some (.ref CR)))(kt:AllInG (fun C=>PySem.W.exmOne K (.ref C) (.ref CR)=some true) Mks.xc):ziH K mg x:=⟨CR,PySem.W.mg_of X G a,kt⟩
theorem zm7 (hp:T.xfns.all (fun i=>match Pg[i]? with|some F=>F.prim.isNone|none=>true)=true)(hd:AllAtG (fun fi q=>DefOk K mg T Pg fi q.1 q.2.1 q.2.2\/PrimOk P w K mg base Pg fi q.1 q.2.1 q.2.2) 0 T.fns)(hg:AllInG (XGet K) Mks.xc)(hi:AllInG (IsaOk K) Mks.xc)(h1:AllInG (ziG K mg) T.xcs)(h2:AllInG (fun f=>AllInG (fun C=>PySem.W.findIn K (.ref C) f=some none) Mks.xc) T.xflds)
  (h3:AllInG (ziI K mg) T.xisas) (h4:AllInG (ziJ K mg) T.xisbs) (h5:AllInG (ziH K mg) T.xtrs):XSOk T K mg Pg:=by
 refine⟨fun c x f h=>AllIn.get h1 (c,x,f) h,fun f h c C e=>⟨hg.mem C (List.mem_of_getElem? e),(AllIn.get h2 f h).mem C (List.mem_of_getElem? e)⟩,fun x cs h=>?_,fun x cs h=>?_,fun f x ps nd h e=>?_,fun x h=>?_⟩
 · obtain⟨D,m,kt⟩:=AllIn.get h3 (x,cs) h
   exact⟨D,m,fun c C e=>⟨hg.mem C (List.mem_of_getElem? e),hi.mem C (List.mem_of_getElem? e),AllAt.get kt c C e⟩⟩
 · obtain⟨m,n,t,b,kt⟩:=AllIn.get h4 (x,cs) h
   exact⟨m,n,t,b,fun c C e=>⟨hg.mem C (List.mem_of_getElem? e),hi.mem C (List.mem_of_getElem? e),AllAt.get kt c C e⟩⟩
 · rcases AllAt.get hd f _ e with z|z
   · exact z
   · obtain⟨F,p,_,_,e1,e2,_⟩:=z.ex
     have:=List.all_eq_true.mp hp f (by simpa using h)
     simp[e1,e2] at this
 · obtain⟨CR,m,kt⟩:=AllIn.get h5 x h
   exact⟨CR,m,fun c C e=>kt.mem C (List.mem_of_getElem? e)⟩
end
theorem zmY {B:Heap->Prop}{l:PySem.W.OpenLaw}{w:World}{K:PySem.W.Frag}{h:Heap}{mg:Str->Option Value}{T:Tab}{Pg:List Fn}{n fi:Nat}{st:Stmt}{f fa:Addr}{oc kV dc pm cd ct:Value}{od an:Option Addr}{sl:Array (Option Value)}{sn:Str}(X:K.In h)(G:h.Ns mainGlobals mg)(hfa:mg "law"=some (.ref fa))
  (o:OkD T Pg fi "law" "law" [sn] st) (ln:Mks.cl.length<=T.cls.length) (hcl:AllAtG (ClAt K mg T) 0 T.cls) (hb:AllInG (fun x=>PySem.W.nsIn K mainGlobals x=some none) T.blt) (hc:AllInG (CoAt K) T.cons)
  (hd:∀base:Heap,B base->AllAtG (fun fi q=>DefOk K mg T Pg fi q.1 q.2.1 q.2.2\/PrimOk l.prog w K mg base Pg fi q.1 q.2.1 q.2.2) 0 T.fns)
  (hm:AllAtG (ClAt K mg T) 0 T.cls->AllInG (fun q=>MOk K T Pg q.2.2 0 (ExM K q.1 q.2.1)) T.mts) (hi:AllInG (fun q=>MOk K T Pg q.2.1 q.2.2 (ExI K q.1)) T.inits) (hx:AllInG (fun q=>MOk K T Pg q.2.2 0 (ExC K mg q.1 q.2.1)) T.cms) (hs:AllInG (IsAt K mg) T.isas) (hp:T.xfns.all (fun i=>match Pg[i]? with|some F=>F.prim.isNone|none=>true)=true) (hxg:AllInG (XGet K) Mks.xc) (hxi:AllInG (IsaOk K) Mks.xc) (hx1:AllInG (ziG K mg) T.xcs) (hx2:AllInG (fun f=>AllInG (fun C=>PySem.W.findIn K (.ref C) f=some none) Mks.xc) T.xflds) (hx3:AllInG (ziI K mg) T.xisas) (hx4:AllInG (ziJ K mg) T.xisbs) (hx5:AllInG (ziH K mg) T.xtrs)
  (a:PySem.W.nsIn K mainGlobals "law"=some (some (.ref f))) (l0:K.lookup f=some ⟨oc,od,.func (PySem.W.fnOf "law" "law" (zav st) (zap st) (zae st) .none kV dc pm an cd ct),sl⟩) (c:PySem.W.codeIn K cd "law"=true) (k:PySem.W.keepIn K (.ref f)=true) :
  ∃fd:FuncData,(∀(s:Shared) (v:Value),BindsTo s fd ⟨[v],[]⟩ [(sn,v)])/\∀base:Heap,K.In base->base.Ns mainGlobals mg->B base->FnOk l.prog w K mg base CX0 (2 * n+3) fa fd [sn] (spF K (callF Pg (n+1)) fi):=by
 have e:=hfa.symm.trans (PySem.W.mg_of X G a)
 cases e
 obtain⟨F,N,h1,h2,h3,h4,h5,h6⟩:=o.ex
 refine⟨PySem.W.fnOf "law" "law" (zav st) (zap st) (zae st) .none kV dc pm an cd ct,fun s v=>.of_eq (o.bd _ _ _ _ _ _ [v] rfl),fun base _ _ bm=>?_⟩
 refine zhg (zk5 (fun x hx=>PySem.W.mg_none_of X G (AllIn.get hb x hx)) (fun x d hx=>?_) (fun fi x ps nd hf=>AllAt.get (hd base bm) fi _ hf)
  ⟨AllAt.get hcl,fun c m fi hx=>AllIn.get (hm hcl) (c,m,fi) hx,fun c fi j hx=>AllIn.get hi (c,fi,j) hx,fun x m fi h=>AllIn.get hx (x,m,fi) h,ln,fun x cs hx=>AllIn.get hs (x,cs) hx⟩ (zm7 hp (hd base bm) hxg hxi hx1 hx2 hx3 hx4 hx5) n) (zeC (st:=st) l0 c k) h1 h3 h4 h5 h6 h2
 obtain⟨i,t,e,q⟩:=hc.mem (x,d) (PySem.mem_of_lookup hx)
 cases (show d=.int i from e)
 exact⟨rfl,_,PySem.W.mg_of X G q,⟨_,rfl⟩⟩
theorem all_of0 {l:PySem.W.OpenLaw}{w:World}{K:PySem.W.Frag}{h:Heap}{mg:Str->Option Value}{T:Tab}{Pg:List Fn}{n fi:Nat}{st:Stmt}{f fa:Addr}{oc kV dc pm cd ct:Value}{od an:Option Addr}{sl:Array (Option Value)}{sn:Str}(X:K.In h)(G:h.Ns mainGlobals mg)(hfa:mg "law"=some (.ref fa))
  (o:OkD T Pg fi "law" "law" [sn] st) (ln:Mks.cl.length<=T.cls.length) (hcl:AllAtG (ClAt K mg T) 0 T.cls) (hb:AllInG (fun x=>PySem.W.nsIn K mainGlobals x=some none) T.blt) (hc:AllInG (CoAt K) T.cons)
  (hd:∀base:Heap,AllAtG (fun fi q=>DefOk K mg T Pg fi q.1 q.2.1 q.2.2\/PrimOk l.prog w K mg base Pg fi q.1 q.2.1 q.2.2) 0 T.fns)
  (hm:AllAtG (ClAt K mg T) 0 T.cls->AllInG (fun q=>MOk K T Pg q.2.2 0 (ExM K q.1 q.2.1)) T.mts) (hi:AllInG (fun q=>MOk K T Pg q.2.1 q.2.2 (ExI K q.1)) T.inits) (hx:AllInG (fun q=>MOk K T Pg q.2.2 0 (ExC K mg q.1 q.2.1)) T.cms) (hs:AllInG (IsAt K mg) T.isas) (hp:T.xfns.all (fun i=>match Pg[i]? with|some F=>F.prim.isNone|none=>true)=true) (hxg:AllInG (XGet K) Mks.xc) (hxi:AllInG (IsaOk K) Mks.xc) (hx1:AllInG (ziG K mg) T.xcs) (hx2:AllInG (fun f=>AllInG (fun C=>PySem.W.findIn K (.ref C) f=some none) Mks.xc) T.xflds) (hx3:AllInG (ziI K mg) T.xisas) (hx4:AllInG (ziJ K mg) T.xisbs) (hx5:AllInG (ziH K mg) T.xtrs)
  (a:PySem.W.nsIn K mainGlobals "law"=some (some (.ref f))) (l0:K.lookup f=some ⟨oc,od,.func (PySem.W.fnOf "law" "law" (zav st) (zap st) (zae st) .none kV dc pm an cd ct),sl⟩) (c:PySem.W.codeIn K cd "law"=true) (k:PySem.W.keepIn K (.ref f)=true) :
  ∃fd:FuncData,(∀(s:Shared) (v:Value),BindsTo s fd ⟨[v],[]⟩ [(sn,v)])/\∀base:Heap,K.In base->base.Ns mainGlobals mg->FnOk l.prog w K mg base CX0 (2 * n+3) fa fd [sn] (spF K (callF Pg (n+1)) fi):=by
 obtain⟨fd,h1,h2⟩:=zmY (B:=fun _=>True) X G hfa o ln hcl hb hc (fun base _=>hd base) hm hi hx hs hp hxg hxi hx1 hx2 hx3 hx4 hx5 a l0 c k
 exact⟨fd,h1,fun base y z=>h2 base y z trivial⟩
end R
end
section
namespace R
open PySem (PyData)
theorem zdn {α β:Type}{f:α->Option β}:∀{xs:List α} {ys:List β},xs.mapM f=some ys->∀y∈ys,∃x∈xs,f x=some y
 | [],ys,h,y,hy=>by simp at h;subst h;cases hy
 | x :: xs, ys, h, y, hy => by
   rw[List.mapM_cons] at h
   cases e:f x with
   |none=>rw[e] at h;cases h
   | some z =>
     rw[e] at h
     cases e2:xs.mapM f with
     |none=>rw[e2] at h;cases h
     | some zs =>
       rw[e2] at h
       injection h with h
       subst h
       rcases List.mem_cons.mp hy with rfl|hy
       · exact⟨x,by simp,e⟩
       · obtain⟨u,hu,eu⟩:=zdn e2 y hy
         exact⟨u,by simp[hu],eu⟩
theorem zbF:∀{xs:List PyData},(∀x∈xs,PyData.eqv x x=true)->PyData.eqvAll xs xs=true
 | [],_=>by simp[PyData.eqvAll]
 |x::xs,h=>by simp[PyData.eqvAll,h x (by simp),zbF (xs:=xs) fun y hy=>h y (by simp[hy])]
theorem zj2 {S:St}:∀{n:Nat} {d:D} {a:PyData},pd S n d=some a->PyData.eqv a a=true:=by
 intro n
 induction n with
 | zero =>
   intro d a h
   cases d<;>simp only[pd] at h
   · cases h;simp[PyData.eqv]
   · cases h;simp[PyData.eqv]
   · cases h;simp[PyData.eqv]
   · split at h
     · cases h;simp[PyData.eqv]
     · cases h
   · cases h
   · cases h
   · cases h
   · cases h
 | succ n ih =>
   intro d a h
   cases d<;>simp only[pd] at h
   · cases h;simp[PyData.eqv]
   · cases h;simp[PyData.eqv]
   · cases h;simp[PyData.eqv]
   · split at h
     · cases h;simp[PyData.eqv]
     · cases h
   · rename_i ds
     cases e:ds.mapM (pd S n) with
     |none=>rw[e] at h;cases h
     | some xs =>
       rw[e] at h
       cases h
       rw[PyData.eqv]
       exact zbF fun x hx=>let ⟨d,_,hd⟩:=zdn e x hx;ih hd
   · split at h
     · rename_i ds _
       cases e:ds.mapM (pd S n) with
       |none=>rw[e] at h;cases h
       | some xs =>
         rw[e] at h
         cases h
         rw[PyData.eqv]
         exact zbF fun x hx=>let ⟨d,_,hd⟩:=zdn e x hx;ih hd
     · cases h
   · cases h
   · cases h
theorem zi7 {S:St}{x y:D}{a:PyData}(h1:pd S 60 x=some a)(h2:pd S 60 y=some a):eqD S x y=some true:=by
 unfold eqD
 rw[h1,h2]
 exact congrArg some (zj2 h1)
theorem zbY {S:St}{l n:Nat}{ds:List D}{xs:List PyData}(h:S.get l=some (.lst ds))(e:ds.mapM (pd S n)=some xs):pd S (n+1) (.ref l)=some (.list xs):=by
 simp only[pd,h,e];rfl
theorem zfl {S:St}{a:Nat}{ds:List D}(h:S.get a=some (.lst ds)):dKvs S (.ref a)=none:=by unfold dKvs;dsimp only;rw[h]
theorem zd4 {S:St}{a:Nat}{y:D}{ds:List D}(h:S.get a=some (.lst ds)):zd5 S (.ref a) y=eqD S (.ref a) y:=by unfold zd5;rw[zfl h]
theorem zeH {S:St}{a b:Nat}{ds:List D}{xs:List PyData}(h1:S.get a=some (.lst ds))(h2:S.get b=some (.lst ds))(e:ds.mapM (pd S 59)=some xs):cmpO S .Eq (.ref a) (.ref b)=some true:=(zd4 h1).trans (zi7 (zbY h1 e) (zbY h2 e))
theorem zcD {S:St}{a b:Nat}{ds:List D}{xs:List PyData}(h1:S.get a=some (.lst ds))(h2:S.get b=some (.lst ds))(e:ds.mapM (pd S 59)=some xs):cmpO S .NotEq (.ref a) (.ref b)=some false:=by
 show (zd5 S (.ref a) (.ref b)).map (!·)=_
 rw[zd4 h1,zi7 (zbY h1 e) (zbY h2 e)];rfl
theorem zai (S:St)(o:MO):(S.push o).get S.len=some o:=by
 have h:¬S.len<S.frz.length:=by unfold St.len;omega
 unfold St.get St.push
 simp only[h,if_false]
 unfold St.len
 simp
theorem zat {S:St}{l:Nat}{o u:MO}(e:S.get l=some u):(S.push o).get l=some u:=by
 have h:=zaw e
 unfold St.len at h
 unfold St.get at e⊢
 unfold St.push
 simp only
 split
 · rename_i c;rw[if_pos c] at e;exact e
 · rename_i c;rw[if_neg c] at e;rw[List.getElem?_append_left (by omega)];exact e
theorem zkC {α β:Type}(f:α->β)(xs:List α)(lo hi:Option Int):cut (xs.map f) lo hi=(cut xs lo hi).map f:=by
 unfold cut
 rw[List.length_map,List.map_take,List.map_drop]
theorem zja {α:Type}(xs:List α)(lo hi:Option Int):(cut xs lo hi).length<=xs.length:=by
 unfold cut
 rw[List.length_take,List.length_drop]
 omega
theorem za7 {S:St}{l:Nat}(o:MO)(h1:S.frz.length<=l)(h2:S.lk.contains l=false):∃S',S.put l o=some S'/\S'.frz=S.frz/\S'.lk=S.lk/\S'.len=S.len/\(∀m,m≠l->S'.get m=S.get m)/\(l<S.len->S'.get l=some o):=by
 refine⟨{S with new:=S.new.set (l - S.frz.length) o},?_,rfl,rfl,by simp[St.len],fun m hm=>?_,fun hl=>?_⟩
 · unfold St.put
   rw[if_neg (by omega),h2];rfl
 · unfold St.get
   simp only
   split
   · rfl
   · rw[List.getElem?_set_ne (by omega)]
 · unfold St.len at hl
   unfold St.get
   simp only[show ¬l<S.frz.length by omega,if_false]
   rw[List.getElem?_set_self (by omega)]
theorem zkx (S:St)(i j:Int):eqD S (.int i) (.int j)=some (i == j):=by
 unfold eqD
 have e:∀k,pd S 60 (.int k)=some (.int k):=fun k=>rfl
 rw[e,e]
 show some (PyData.eqv (.int i) (.int j))=_
 rw[L2.eqv_int]
theorem zij (S:St)(x:Int):∀ks:List Int,inD S (.int x) (ks.map .int)=some (decide (x∈ks)):=by
 intro ks
 have e:(ks.map D.int).mapM (fun z=>eqD S z (.int x))=some (ks.map fun k=>k == x):=by
  induction ks with
  |nil=>rfl
  |cons k ks ih=>rw[List.map_cons,List.mapM_cons,zkx,ih];rfl
 have f:∀ks:List Int,((ks.map fun k=>k == x).any id)=decide (x∈ks):=by
  intro ks
  induction ks with
  |nil=>rfl
  | cons k ks ih =>
    rw[List.map_cons,List.any_cons,ih]
    by_cases c:k=x
    · subst c;simp
    · have c':¬x=k:=fun z=>c z.symm
      have b:(k == x)=false:=beq_eq_false_iff_ne.mpr c
      simp only[b,id,Bool.false_or,List.mem_cons,c',false_or]
 unfold inD
 rw[e]
 exact congrArg some (f ks)
theorem zi3 {S:St}{l:Nat}{ks:List Int}(h:S.get l=some (.lst (ks.map .int)))(x:Int):cmpO S .In (.int x) (.ref l)=some (decide (x∈ks)):=by
 show zeB S (.int x) (.ref l)=_
 unfold zeB
 rw[zfl h]
 have h3:d3K S (.ref l)=none:=by unfold d3K;dsimp only;rw[h]
 dsimp only
 rw[h3]
 show ((match S.get l with|some (.lst ds)=>some ds|_=>none).bind fun ys=>inD S (.int x) ys)=_
 rw[h]
 exact zij S x ks
theorem zgC {S:St}{l:Nat}{ks:List Int}(h:S.get l=some (.lst (ks.map .int)))(x:Int):cmpO S .NotIn (.int x) (.ref l)=some (!decide (x∈ks)):=by
 show (cmpO S .In (.int x) (.ref l)).map (!·)=_
 rw[zi3 h];rfl
theorem zcG {α:Type}{xs:List α}{k:Nat}{x:α}(h:xs[k]?=some x):R.atI xs (k:Int)=some x:=by
 have hl:=(List.getElem?_eq_some_iff.mp h).1
 have e:R.ixN xs.length (k:Int)=some k:=by simp[R.ixN,hl]
 unfold R.atI
 rw[e];exact h
noncomputable def cellZ (ns:List Int)(k:Nat):Int:=match ns[k]? with|some v=>v % 10 ^ 64|none=>0
end R
end
section
namespace K61
section
open PySem R L2
noncomputable def za3:Fn:=⟨1,1,(.ret (.and (.bi (.isin "int") (.cons (.loc 0) .nil)) (.nt (.bi (.isin "bool") (.cons (.loc 0) .nil)))) .nil),none⟩
noncomputable def zed:Fn:=⟨2,2,(.ret (.and (.call 0 0 (.cons (.loc 0) .nil)) (.cmp2 .LtE .Lt (.con (D.int 0)) (.loc 0) (.loc 1))) .nil),none⟩
noncomputable def zec:Fn:=⟨1,1,(.ret (.and (.call 0 0 (.cons (.loc 0) .nil)) (.cmp2 .LtE .LtE (.con (D.int 1)) (.loc 0) (.con (D.int 30)))) .nil),none⟩
noncomputable def c_crashes_of:Fn:=⟨2,5,(.asg 2 (.lst .nil) (.forS [3,4] (.enum (.loc 1)) (.ifS (.or (.nt (.tst (.call 4 0 (.cons (.loc 4) (.cons (.loc 0) .nil))))) (.cmp .In (.ix (.loc 4) (.con (D.int 0))) (.mkL (.comp 1 [] [0] (.val (.loc 2)) (.tst (.con (D.bl true))) (.ix (.loc 0) (.con (D.int 0))))))) (.rais 3 "NoLetter" "place" (.loc 3)) .nil (.expr (.mt .append (.loc 2) (.cons (.loc 4) .nil)) .nil)) (.ret (.loc 2) .nil))),none⟩
noncomputable def zc2:Fn:=⟨2,2,(.ifS (.or (.nt (.tst (.bi (.isin "tuple") (.cons (.loc 0) .nil)))) (.cmp .NotEq (.bi .len (.cons (.loc 0) .nil)) (.con (D.int 3)))) (.ret (.con (D.bl false)) .nil) .nil (.ifS (.or (.nt (.tst (.call 1 0 (.cons (.ix (.loc 0) (.con (D.int 0))) (.cons (.loc 1) .nil))))) (.nt (.tst (.call 2 0 (.cons (.ix (.loc 0) (.con (D.int 1))) .nil))))) (.ret (.con (D.bl false)) .nil) .nil (.ret (.and (.bi (.isin "tuple") (.cons (.ix (.loc 0) (.con (D.int 2))) .nil)) (.all (.comp 1 [1] [0] (.val (.ix (.loc 0) (.con (D.int 2)))) (.tst (.con (D.bl true))) (.call 1 0 (.cons (.loc 0) (.cons (.loc 1) .nil)))))) .nil))),none⟩
noncomputable def zbR:Fn:=⟨2,2,(.ifS (.cmp .Lt (.loc 1) (.bi .len (.cons (.loc 0) .nil))) (.ret (.bin .Mod (.ix (.loc 0) (.loc 1)) (.bin .Pow (.con (D.int 10)) (.con (D.int 64)))) .nil) .nil (.ret (.con (D.int 0)) .nil)),none⟩
noncomputable def c_law_good:Fn:=⟨2,9,(.asg 2 (.lst .nil) (.forS [3] (.val (.loc 0)) (.asg 4 (.bin .Mod (.loc 3) (.bin .Pow (.con (D.int 10)) (.con (D.int 64)))) (.asg 5 (.bin .Mod (.loc 4) (.loc 1)) (.asg 6 (.lst .nil) (.asg 7 (.bin .FloorDiv (.loc 4) (.con (D.int 1680))) (.forS [8] (.rng1 (.bin .Mod (.bin .FloorDiv (.loc 4) (.con (D.int 210))) (.con (D.int 8)))) (.expr (.mt .append (.loc 6) (.cons (.bin .Mod (.loc 7) (.loc 1)) .nil)) (.asg 7 (.bin .FloorDiv (.loc 7) (.loc 1)) .nil)) (.ifS (.cmp .NotIn (.loc 5) (.mkL (.comp 1 [] [0] (.val (.loc 2)) (.tst (.con (D.bl true))) (.ix (.loc 0) (.con (D.int 0)))))) (.expr (.mt .append (.loc 2) (.cons (.tup (.cons (.loc 5) (.cons (.bin .Add (.con (D.int 1)) (.bin .Mod (.bin .FloorDiv (.loc 4) (.con (D.int 7))) (.con (D.int 30)))) (.cons (.mkT (.val (.loc 6))) .nil)))) .nil)) .nil) .nil .nil)))))) (.ret (.loc 2) .nil))),none⟩
noncomputable def c_law_turned:Fn:=⟨3,7,(.asgT [3,4,5] (.loc 0) (.asg 6 (.lst (.cons (.tup (.cons (.loc 3) (.cons (.con (D.int 0)) (.cons (.loc 5) .nil)))) (.cons (.tup (.cons (.loc 3) (.cons (.con (D.int 31)) (.cons (.loc 5) .nil)))) (.cons (.tup (.cons (.loc 3) (.cons (.bin .Sub (.con (D.int 0)) (.loc 4)) (.cons (.loc 5) .nil)))) (.cons (.tup (.cons (.loc 3) (.cons (.con D.non) (.cons (.loc 5) .nil)))) .nil))))) (.asg 6 (.bin .Add (.loc 6) (.lst (.cons (.tup (.cons (.loc 3) (.cons (.con (D.bl true)) (.cons (.loc 5) .nil)))) (.cons (.tup (.cons (.loc 3) (.cons (.con (D.str "1")) (.cons (.loc 5) .nil)))) (.cons (.tup (.cons (.loc 2) (.cons (.loc 4) (.cons (.loc 5) .nil)))) (.cons (.tup (.cons (.bin .Sub (.con (D.int 0)) (.con (D.int 1))) (.cons (.loc 4) (.cons (.loc 5) .nil)))) .nil)))))) (.asg 6 (.bin .Add (.loc 6) (.lst (.cons (.tup (.cons (.con D.non) (.cons (.loc 4) (.cons (.loc 5) .nil)))) (.cons (.tup (.cons (.con (D.bl true)) (.cons (.loc 4) (.cons (.loc 5) .nil)))) (.cons (.tup (.cons (.con (D.bl false)) (.cons (.loc 4) (.cons (.loc 5) .nil)))) (.cons (.tup (.cons (.tup (.cons (.loc 3) .nil)) (.cons (.loc 4) (.cons (.loc 5) .nil)))) .nil)))))) (.asg 6 (.bin .Add (.loc 6) (.lst (.cons (.tup (.cons (.loc 3) (.cons (.loc 4) (.cons (.mkL (.val (.loc 5))) .nil)))) (.cons (.tup (.cons (.loc 3) (.cons (.loc 4) (.cons (.con D.non) .nil)))) (.cons (.tup (.cons (.loc 3) (.cons (.loc 4) (.cons (.con (D.int 0)) .nil)))) (.cons (.tup (.cons (.loc 3) (.cons (.loc 4) (.cons (.bin .Add (.loc 5) (.tup (.cons (.loc 2) .nil))) .nil)))) .nil)))))) (.asg 6 (.bin .Add (.loc 6) (.lst (.cons (.tup (.cons (.loc 3) (.cons (.loc 4) (.cons (.bin .Add (.tup (.cons (.bin .Sub (.con (D.int 0)) (.con (D.int 1))) .nil)) (.loc 5)) .nil)))) (.cons (.tup (.cons (.loc 3) (.cons (.loc 4) (.cons (.bin .Add (.loc 5) (.tup (.cons (.con D.non) .nil))) .nil)))) (.cons (.tup (.cons (.loc 3) (.cons (.loc 4) (.cons (.bin .Add (.tup (.cons (.con (D.bl true)) .nil)) (.loc 5)) .nil)))) .nil))))) (.asg 6 (.bin .Add (.loc 6) (.lst (.cons (.tup (.cons (.loc 3) (.cons (.loc 4) (.cons (.bin .Add (.loc 5) (.tup (.cons (.tup (.cons (.con (D.int 0)) .nil)) .nil))) .nil)))) (.cons (.tup (.cons (.loc 3) (.cons (.loc 4) .nil))) (.cons (.tup (.cons (.loc 3) (.cons (.loc 4) (.cons (.loc 5) (.cons (.loc 5) .nil))))) .nil))))) (.asg 6 (.bin .Add (.loc 6) (.lst (.cons (.tup (.cons (.loc 3) (.cons (.loc 4) (.cons (.bin .Add (.bin .Add (.sl (.loc 5) false true (.con .non) (.con (D.int 1))) (.tup (.cons (.loc 2) .nil))) (.sl (.loc 5) true false (.con (D.int 1)) (.con .non))) .nil)))) (.cons (.tup (.cons (.loc 3) (.cons (.loc 4) (.cons (.bin .Add (.bin .Add (.sl (.loc 5) false true (.con .non) (.con (D.int 2))) (.tup (.cons (.neg (.con (D.int 1))) .nil))) (.sl (.loc 5) true false (.con (D.int 2)) (.con .non))) .nil)))) .nil)))) (.asg 6 (.bin .Add (.loc 6) (.lst (.cons (.lst (.cons (.loc 3) (.cons (.loc 4) (.cons (.loc 5) .nil)))) (.cons (.tup .nil) (.cons (.con D.non) (.cons (.con (D.int 5)) (.cons (.con (D.str "crash")) .nil))))))) (.ret (.ix (.loc 6) (.bin .Mod (.loc 1) (.bi .len (.cons (.loc 6) .nil)))) .nil)))))))))),none⟩
noncomputable def zb8:Fn:=⟨2,4,(.asg 2 (.con D.non) (.tryS (.run 3 (.cons (.loc 0) (.cons (.loc 1) .nil)))
 "RoundError" 3 2 (.ret (.loc 2) .nil))),none⟩
noncomputable def zbQ:Fn:=⟨2,2,(.ifS (.or (.nt (.tst (.iscX [3] "NoLetter" (.loc 0)))) (.nt (.tst (.iscX [0,1,2,3,4,5] "ValueError" (.loc 0))))) (.ret (.con (D.bl false)) .nil) .nil (.ifS (.or (.tst (.iscX [0] "NoCount" (.loc 0))) (.or (.tst (.iscX [1] "NoHand" (.loc 0))) (.tst (.iscX [2] "NoWord" (.loc 0))))) (.ret (.con (D.bl false)) .nil) .nil (.ifS (.or (.tst (.iscX [4] "NoWay" (.loc 0))) (.or (.tst (.iscX [5] "NoRow" (.loc 0))) (.tst (.bi (.isin "bool") (.cons (.fldX (.loc 0) "place") .nil))))) (.ret (.con (D.bl false)) .nil) .nil (.ret (.cmp .Eq (.fldX (.loc 0) "place") (.loc 1)) .nil)))),none⟩
noncomputable def zc1:Fn:=⟨2,3,(.asg 2 (.call 3 0 (.cons (.loc 0) (.cons (.mkL (.val (.loc 1))) .nil))) (.ifS (.or (.nt (.tst (.bi (.isin "list") (.cons (.loc 2) .nil)))) (.or (.cmp .NotEq (.loc 2) (.loc 1)) (.nt (.tst (.all (.comp 1 [] [0] (.val (.loc 2)) (.tst (.con (D.bl true))) (.bi (.isin "tuple") (.cons (.loc 0) .nil)))))))) (.ret (.con (D.bl false)) .nil) .nil (.expr (.mt .append (.loc 2) (.cons (.con (D.int 0)) .nil)) (.ret (.cmp .Eq (.call 3 0 (.cons (.loc 0) (.cons (.mkL (.val (.loc 1))) .nil))) (.loc 1)) .nil)))),none⟩
noncomputable def c_law:Fn:=⟨1,9,(.asg 1 (.bin .Add (.con (D.int 1)) (.bin .Mod (.call 5 0 (.cons (.loc 0) (.cons (.con (D.int 0)) .nil))) (.con (D.int 7)))) (.asg 2 (.call 6 0 (.cons (.sl (.loc 0) true true (.con (D.int 4)) (.con (D.int 62))) (.cons (.loc 1) .nil))) (.asg 3 (.mkL (.val (.loc 2))) (.asg 4 (.con D.non) (.asg 5 (.call 5 0 (.cons (.loc 0) (.cons (.con (D.int 1)) .nil))) (.asg 6 (.call 5 0 (.cons (.loc 0) (.cons (.con (D.int 2)) .nil))) (.ifS (.and (.cmp .Eq (.bin .Mod (.loc 5) (.con (D.int 3))) (.con (D.int 1))) (.cmp .Gt (.bi .len (.cons (.loc 2) .nil)) (.con (D.int 0)))) (.asg 4 (.bin .Mod (.bin .FloorDiv (.loc 5) (.con (D.int 3))) (.bi .len (.cons (.loc 2) .nil))) (.setIx (.loc 3) (.loc 4) (.call 7 0 (.cons (.ix (.loc 2) (.loc 4)) (.cons (.bin .FloorDiv (.loc 6) (.con (D.int 2))) (.cons (.loc 1) .nil)))) .nil)) .nil (.ifS (.and (.cmp .Eq (.bin .Mod (.loc 5) (.con (D.int 3))) (.con (D.int 2))) (.cmp .Gt (.bi .len (.cons (.loc 2) .nil)) (.con (D.int 0)))) (.asg 7 (.bin .Mod (.bin .FloorDiv (.loc 5) (.con (D.int 3))) (.bi .len (.cons (.loc 2) .nil))) (.asg 4 (.bin .Add (.bin .Add (.loc 7) (.con (D.int 1))) (.bin .Mod (.bin .FloorDiv (.loc 5) (.con (D.int 21))) (.bin .Sub (.bi .len (.cons (.loc 2) .nil)) (.loc 7)))) (.expr (.insL (.loc 3) (.loc 4) (.tup (.cons (.ix (.ix (.loc 2) (.loc 7)) (.con (D.int 0))) (.cons (.bin .Add (.con (D.int 1)) (.bin .Mod (.bin .FloorDiv (.loc 6) (.con (D.int 2))) (.con (D.int 30)))) (.cons (.tup .nil) .nil))))) .nil))) .nil (.ifS (.and (.cmp .IsNot (.loc 4) (.con D.non)) (.cmp .Eq (.bin .Mod (.loc 6) (.con (D.int 2))) (.con (D.int 1)))) (.expr (.mt .append (.loc 3) (.cons (.call 7 0 (.cons (.ix (.loc 2) (.con (D.int 0))) (.cons (.bin .FloorDiv (.loc 6) (.con (D.int 60))) (.cons (.loc 1) .nil)))) .nil)) .nil) .nil (.ifS (.cmp .Is (.loc 4) (.con D.non)) (.ret (.call 10 0 (.cons (.loc 1) (.cons (.loc 2) .nil))) .nil) .nil (.asg 8 (.mkL (.val (.loc 3))) (.ifS (.or (.nt (.tst (.call 9 0 (.cons (.call 8 0 (.cons (.loc 1) (.cons (.loc 8) .nil))) (.cons (.loc 4) .nil))))) (.cmp .NotEq (.loc 8) (.loc 3))) (.ret (.con (D.bl false)) .nil) .nil (.ret (.and (.call 9 0 (.cons (.call 8 0 (.cons (.loc 1) (.cons (.loc 3) .nil))) (.cons (.loc 4) .nil))) (.call 10 0 (.cons (.loc 1) (.cons (.loc 2) .nil)))) .nil))))))))))))),none⟩
noncomputable def prog:List Fn:=[za3,zed,zec,c_crashes_of,zc2,zbR,c_law_good,c_law_turned,zb8,zbQ,zc1,c_law]
noncomputable def top (i:Nat):Stmt:=PySem.Challenge.pw_traitorround_k61_crashes_told.main.body.getD i (.Pass ⟨0,0,0,0⟩)
noncomputable abbrev zet:Stmt:=top 9
noncomputable abbrev zfG:Stmt:=top 10
noncomputable abbrev zfF:Stmt:=top 13
noncomputable abbrev zdg:Stmt:=top 15
noncomputable abbrev zeu:Stmt:=top 16
noncomputable abbrev zcJ:Stmt:=top 18
noncomputable abbrev zes:Stmt:=top 19
noncomputable abbrev zde:Stmt:=top 20
noncomputable abbrev zdf:Stmt:=top 21
noncomputable abbrev zcI:Stmt:=top 22
noncomputable abbrev zer:Stmt:=top 23
noncomputable abbrev zlF:Stmt:=top 24
noncomputable def znP (s:Stmt)(j:Nat):Stmt:=match s with|.ClassDef _ _ _ b _ _ _ _ _ _ _=>b.getD j (.Pass ⟨0,0,0,0⟩)|s=>s
noncomputable abbrev zcb:Stmt:=znP (top 5) 0
theorem ox_NoLetter:OkX "NoLetter.__init__" zcb "RoundError" "place" "place":=⟨⟨⟨_,_,_,_,_,_,_,_,_,_,_,_,rfl,rfl⟩,⟨rfl,rfl,rfl,by decide +kernel,rfl,by decide +kernel,by decide +kernel⟩,rfl,rfl,rfl,rfl,⟨rfl,rfl⟩⟩,fun _ _ _ _ _ _ us hl=>match us,hl with | [_,_],_=>rfl⟩
noncomputable instance mks:R.Mks:={ts:=[],cl:=[],xc:=[44,63,82,101,120,139],rs:=none,ro:=trivial}
noncomputable def tab:Tab:=⟨["all","bool","enumerate","int","isinstance","len","list","range","tuple"],[("LAST_TURN",(D.int 30))],[("is_whole",["thing"],0),("is_hand",["thing","many"],0),("is_turn",["thing"],0),("crashes_of",["many","crashes"],0),("is_crash",["thing","many"],0),("_law_cell_at",["_law_script","_law_k"],0),("_law_good",["_law_cells","_law_many"],0),("_law_turned",["_law_crash","_law_way","_law_many"],0),("_law_caught",["_law_many","_law_crashes"],0),("_law_refusal",["_law_caught_here","_law_place"],0),("_law_told",["_law_many","_law_crashes"],0),("law",["_law_script"],0)],[],[],[],[],[],[],[(3,"NoLetter","place")],["place"],[("NoRow",[5]),("NoWay",[4]),("NoWord",[2]),("NoHand",[1]),("NoCount",[0]),("NoLetter",[3])],[("ValueError",[0,1,2,3,4,5])],[3],["RoundError"]⟩
theorem ok_is_whole:OkD tab prog 0 "is_whole" "is_whole" ["thing"] zet:=zbc ["thing"] rfl (by decide +kernel) fun _ _ _ _ _ _ us hl=>match us,hl with | [_],_=>rfl
theorem ok_is_hand:OkD tab prog 1 "is_hand" "is_hand" ["thing","many"] zfG:=zbc ["thing","many"] rfl (by decide +kernel) fun _ _ _ _ _ _ us hl=>match us,hl with | [_,_],_=>rfl
theorem ok_is_turn:OkD tab prog 2 "is_turn" "is_turn" ["thing"] zfF:=zbc ["thing"] rfl (by decide +kernel) fun _ _ _ _ _ _ us hl=>match us,hl with | [_],_=>rfl
theorem ok_crashes_of:OkD tab prog 3 "crashes_of" "crashes_of" ["many","crashes"] zdg:=zbc ["many","crashes","told","place","thing"] rfl (by decide +kernel) fun _ _ _ _ _ _ us hl=>match us,hl with | [_,_],_=>rfl
theorem ok_is_crash:OkD tab prog 4 "is_crash" "is_crash" ["thing","many"] zeu:=zbc ["thing","many"] rfl (by decide +kernel) fun _ _ _ _ _ _ us hl=>match us,hl with | [_,_],_=>rfl
theorem ok_law_cell_at:OkD tab prog 5 "_law_cell_at" "_law_cell_at" ["_law_script","_law_k"] zcJ:=zbc ["_law_script","_law_k"] rfl (by decide +kernel) fun _ _ _ _ _ _ us hl=>match us,hl with | [_,_],_=>rfl
theorem ok_law_good:OkD tab prog 6 "_law_good" "_law_good" ["_law_cells","_law_many"] zes:=zbc ["_law_cells","_law_many","_law_found","_law_cell","_law_number","_law_hand","_law_reached","_law_rest","_law_k"] rfl (by decide +kernel) fun _ _ _ _ _ _ us hl=>match us,hl with | [_,_],_=>rfl
theorem ok_law_turned:OkD tab prog 7 "_law_turned" "_law_turned" ["_law_crash","_law_way","_law_many"] zde:=zbc ["_law_crash","_law_way","_law_many","_law_hand","_law_turn","_law_reached","_law_some"] rfl (by decide +kernel) fun _ _ _ _ _ _ us hl=>match us,hl with | [_,_,_],_=>rfl
theorem ok_law_caught:OkD tab prog 8 "_law_caught" "_law_caught" ["_law_many","_law_crashes"] zdf:=zbc ["_law_many","_law_crashes","_law_caught_here","e"] rfl (by decide +kernel) fun _ _ _ _ _ _ us hl=>match us,hl with | [_,_],_=>rfl
theorem ok_law_refusal:OkD tab prog 9 "_law_refusal" "_law_refusal" ["_law_caught_here","_law_place"] zcI:=zbc ["_law_caught_here","_law_place"] rfl (by decide +kernel) fun _ _ _ _ _ _ us hl=>match us,hl with | [_,_],_=>rfl
theorem ok_law_told:OkD tab prog 10 "_law_told" "_law_told" ["_law_many","_law_crashes"] zer:=zbc ["_law_many","_law_crashes","_law_found"] rfl (by decide +kernel) fun _ _ _ _ _ _ us hl=>match us,hl with | [_,_],_=>rfl
theorem ok_law:OkD tab prog 11 "law" "law" ["_law_script"] zlF:=zbc ["_law_script","_law_many","_law_good_here","_law_told_here","_law_first","_law_cell","_law_more","_law_at","_law_handed"] rfl (by decide +kernel) fun _ _ _ _ _ _ us hl=>match us,hl with | [_],_=>rfl
end
section
open R
noncomputable abbrev Up (S T:R.St):Prop:=∀l o,S.get l=some o->T.get l=some o
theorem Up.push (S:R.St)(o:MO):Up S (S.push o):=fun _ _ e=>zat e
theorem Up.refl (S:R.St):Up S S:=fun _ _ e=>e
theorem Up.enter (S:R.St):Up S S.enter:=fun l o e=>by rw[zaH];exact e
theorem Up.trans {S T U:R.St}(a:Up S T)(b:Up T U):Up S U:=fun l o e=>b l o (a l o e)
theorem plen (S:R.St)(o:MO):(S.push o).len=S.len+1:=by simp[St.push,St.len];omega
noncomputable def Ty (S:R.St):D->Prop
 |.ref l=>∃ds,S.get l=some (.lst ds)
 |.fix _=>False
 |.clo _=>False
 |_=>True
theorem Ty.mono {S T:R.St}{d:D}(h:Ty S d)(g:Up S T):Ty T d:=by
 cases d with
 |ref l=>obtain⟨ds,e⟩:=h;exact⟨ds,g _ _ e⟩
 |_=>exact h
noncomputable def kI:D->Bool|.int _=>true|.bl _=>true|_=>false
noncomputable def kB:D->Bool|.bl _=>true|_=>false
noncomputable def kZ:D->Bool|.int _=>true|_=>false
theorem znK (d:D):(kI d&&!kB d)=kZ d:=by cases d<;>rfl
noncomputable def kT:D->String|.non=>"NoneType"|.bl _=>"bool"|.int _=>"int"|.str _=>"str"|.tup _=>"tuple"|_=>"list"
theorem Ty.ty {S:R.St}{d:D}(h:Ty S d):tyOf S d=some (kT d):=by
 cases d with
 |ref l=>obtain⟨ds,e⟩:=h;simp only[tyOf,e,kT]
 |fix _=>exact h.elim
 |clo _=>exact h.elim
 |_=>rfl
theorem zmp (d:D):(kT d == "int" || (kT d == "bool" && "int" == "int"))=kI d:=by cases d<;>rfl
theorem zkg (d:D):(kT d == "bool" || (kT d == "bool" && "bool" == "int"))=kB d:=by cases d<;>rfl
theorem zn2 {S:R.St}{d:D}(h:Ty S d):bi S (.isin "int") [d]=.ok (.bl (kI d)) S:=by
 unfold bi;simp only[h.ty];rw[zmp]
theorem zmV {S:R.St}{d:D}(h:Ty S d):bi S (.isin "bool") [d]=.ok (.bl (kB d)) S:=by
 unfold bi;simp only[h.ty];rw[zkg]
theorem zmC {cf:CF}{S:R.St}{δ:Ev}{i:Nat}{d:D}(e:δ[i]?=some (some d))(h:Ty S d):evE cf (.bi (.isin "int") (.cons (.loc i) .nil)) δ S=.ok (.bl (kI d)) S:=by
 simp only[evE,evEs,e,Option.join,Option.bind,id,zbj,za8,zn2 h]
theorem zkv {cf:CF}{S:R.St}{δ:Ev}{i:Nat}{d:D}(e:δ[i]?=some (some d))(h:Ty S d):evE cf (.bi (.isin "bool") (.cons (.loc i) .nil)) δ S=.ok (.bl (kB d)) S:=by
 simp only[evE,evEs,e,Option.join,Option.bind,id,zbj,za8,zmV h]
theorem zhu {P:List Fn}{F:Fn}{f n:Nat}{ds:List D}{S:R.St}{Q:D->R.St->Prop}(h:P[f]?=some F)(hl:ds.length=F.np)(w:W (exS (callF P n) F.body (zaB F ds) S.enter) fun r T=>wFin S r T Q)(hp:F.prim=none:=by rfl) :
  W (app (callF P (n+1)) f ds S) Q:=by
 rw[zjc h hl hp,zaa,W_ne]
 refine w.mono fun r T q=>?_
 unfold wFin at q;exact q
theorem zgj {n:Nat}{S:R.St}{d:D}(h:Ty S d):app (callF prog (n+1)) 0 [d] S=.ok (.bl (kZ d)) S:=by
 refine W.eq (zhu (F:=za3) rfl rfl ?_)
 have hE:=h.mono (.enter S)
 have e1:evE (callF prog n) (.bi (.isin "int") (.cons (.loc 0) .nil)) (zaB za3 [d]) S.enter=_:=zmC rfl hE
 have e2:evE (callF prog n) (.bi (.isin "bool") (.cons (.loc 0) .nil)) (zaB za3 [d]) S.enter=_:=zkv rfl hE
 have e:evE (callF prog n) (.and (.bi (.isin "int") (.cons (.loc 0) .nil)) (.nt (.bi (.isin "bool") (.cons (.loc 0) .nil)))) (zaB za3 [d]) S.enter=.ok (.bl (kZ d)) S.enter:=by
  rw[evE,e1,za8,<-znK]
  dsimp only
  cases kI d with
  |true=>rw[if_pos rfl,evE,e2];rfl
  |false=>rfl
 show W (exS (callF prog n) (.ret _ .nil) _ _) _
 rw[exS,e,za8]
 exact zaj rfl ⟨rfl,rfl⟩
theorem zmo (d:D):(∃z,d=.int z)\/kZ d=false:=by cases d<;>first|exact .inl ⟨_,rfl⟩|exact .inr rfl
noncomputable def gh (m:Int):D->Bool|.int z=>decide (0<=z)&&decide (z<m)|_=>false
noncomputable def gt:D->Bool|.int z=>decide (1<=z)&&decide (z<=30)|_=>false
theorem znT {m:Int}{d:D}(h:kZ d=false):gh m d=false:=by cases d<;>first|rfl|cases h
theorem znS {d:D}(h:kZ d=false):gt d=false:=by cases d<;>first|rfl|cases h
theorem ziT {n:Nat}{S:R.St}{d:D}{m:Int}(h:Ty S d):app (callF prog (n+2)) 1 [d,.int m] S=.ok (.bl (gh m d)) S:=by
 refine zc4 (F:=zed) rfl rfl ?_
 conv=>whnf
 refine zaE (zgj (h.mono (.enter S))) ?_
 conv=>whnf
 rcases zmo d with ⟨z,rfl⟩|hz
 · conv=>whnf
   refine zdv (fun c=>?_) (fun c=>?_)
   · conv=>whnf
     refine zaj rfl ⟨?_,rfl⟩
     simp[gh,c]
   · conv=>whnf
     refine zaj rfl ⟨?_,rfl⟩
     simp[gh,c]
 · rw[znT hz]
   refine zf8 hz ?_
   conv=>whnf
   exact zaj rfl ⟨rfl,rfl⟩
theorem zly {n:Nat}{S:R.St}{d:D}(h:Ty S d):app (callF prog (n+2)) 2 [d] S=.ok (.bl (gt d)) S:=by
 refine zc4 (F:=zec) rfl rfl ?_
 conv=>whnf
 refine zaE (zgj (h.mono (.enter S))) ?_
 conv=>whnf
 rcases zmo d with ⟨z,rfl⟩|hz
 · conv=>whnf
   refine zdv (fun c=>?_) (fun c=>?_)
   · conv=>whnf
     refine zaj rfl ⟨?_,rfl⟩
     simp[gt,c]
   · conv=>whnf
     refine zaj rfl ⟨?_,rfl⟩
     simp[gt,c]
 · rw[znS hz]
   refine zf8 hz ?_
   conv=>whnf
   exact zaj rfl ⟨rfl,rfl⟩
noncomputable def crB (m:Int):D->Bool
 |.tup [a,b,.tup rs]=>gh m a&&gt b&&rs.all (gh m)
 |_=>false
structure Tyy (S:R.St) (d:D):Prop where
 ty:Ty S d
 sub:∀ds,d=.tup ds->∀x∈ds,Ty S x
 sub2:∀ds,d=.tup ds->∀rs,D.tup rs∈ds->rs.length<=16777216/\∀y∈rs,Ty S y
theorem Tyy.mono {S T:R.St}{d:D}(h:Tyy S d)(g:Up S T):Tyy T d:=⟨h.ty.mono g,fun ds e x hx=>(h.sub ds e x hx).mono g,fun ds e rs hr=>⟨(h.sub2 ds e rs hr).1,fun y hy=>((h.sub2 ds e rs hr).2 y hy).mono g⟩⟩
theorem zkM {a b c:D}:R.atI [a,b,c] 0=some a:=rfl
theorem zn3 {a b c:D}:R.atI [a,b,c] 1=some b:=rfl
theorem zmW {a b c:D}:R.atI [a,b,c] 2=some c:=rfl
theorem zeO (p:D->Bool):∀rs:List D,allD (rs.map fun x=>.bl (p x))=some (rs.all p)
 | []=>rfl
 | r :: rs => by
   have h:((rs.map fun x=>D.bl (p x)).mapM zcF).map (fun bs=>bs.all id)=some (rs.all p):=zeO p rs
   unfold allD
   rw[List.map_cons,List.mapM_cons]
   cases e:(rs.map fun x=>D.bl (p x)).mapM zcF with
   |none=>rw[e] at h;cases h
   |some bs=>rw[e] at h;simp at h;simp[zcF,h]
theorem zjH {n:Nat}{S:R.St}{d:D}{m:Int}(h:Tyy S d):app (callF prog (n+3)) 4 [d,.int m] S=.ok (.bl (crB m d)) S:=by
 refine zc4 (F:=zc2) rfl rfl ?_
 have hE:=h.mono (.enter S)
 conv=>whnf
 refine zad hE.ty.ty ?_
 cases d with
 | tup ds =>
   conv=>whnf
   match ds,h with
   | [], _ | [_], _ | [_, _], _ =>
     conv=>whnf
     exact zaj rfl ⟨rfl,rfl⟩
   | a :: b :: c :: x :: r, _ =>
     have e3:(!decide (((a::b::c::x::r).length:Int)=3))=true:=by
      rw[decide_eq_false (by simp only[List.length_cons];omega)];rfl
     rw[e3]
     conv=>whnf
     exact zaj rfl ⟨by cases c<;>rfl,rfl⟩
   | [a, b, c], h =>
     have ha:Ty S.enter a:=hE.sub _ rfl a (by simp)
     have hb:Ty S.enter b:=hE.sub _ rfl b (by simp)
     have hc:Ty S.enter c:=hE.sub _ rfl c (by simp)
     conv=>whnf
     refine zad zkM ?_
     conv=>whnf
     refine zaE (ziT ha) ?_
     conv=>whnf
     cases ga:gh m a with
     | false =>
       conv=>whnf
       refine zaj rfl ⟨?_,rfl⟩
       cases c<;>simp[crB,ga]
     | true =>
       conv=>whnf
       refine zad zn3 ?_
       conv=>whnf
       refine zaE (zly hb) ?_
       conv=>whnf
       cases gb:gt b with
       | false =>
         conv=>whnf
         refine zaj rfl ⟨?_,rfl⟩
         cases c<;>simp[crB,gb]
       | true =>
         conv=>whnf
         refine zad zmW ?_
         conv=>whnf
         refine zad hc.ty ?_
         cases c with
         | tup rs =>
           conv=>whnf
           refine zad zmW ?_
           conv=>whnf
           refine za4 ?_
           have hr:∀y∈rs,Ty S.enter y:=(hE.sub2 _ rfl rs (by simp)).2
           refine W.of (zbo (fun x=>.bl (gh m x)) rs _ (fun x _=>rfl) (fun x hx=>?_)) ?_
           · show Out.bind (Out.bind (lift _ (some x)) _) _=_
             rw[zbj,za8]
             show app (callF prog (n+2)) 1 [x,.int m] _=_
             exact ziT (hr x hx)
           refine zab ?_ ?_
           · rw[List.length_map];exact (hE.sub2 _ rfl rs (by simp)).1
           conv=>whnf
           refine zad (zeO (gh m) rs) ?_
           conv=>whnf
           refine zaj rfl ⟨?_,rfl⟩
           simp[crB,ga,gb]
         | _ =>
           conv=>whnf
           exact zaj rfl ⟨rfl,rfl⟩
 |fix _=>exact hE.ty.elim
 |clo _=>exact hE.ty.elim
 | _ =>
   conv=>whnf
   exact zaj rfl ⟨rfl,rfl⟩
noncomputable def hdI:D->Int|.tup (.int h::_)=>h|_=>0
theorem zeG {m:Int}{d:D}(h:crB m d=true):∃a b rs,d=.tup [.int a,.int b,.tup rs]/\0<=a/\a<m:=by
 unfold crB at h
 split at h
 · rename_i a b rs
   simp only[Bool.and_eq_true] at h
   obtain⟨⟨ha,hb⟩,_⟩:=h
   cases a<;>simp[gh] at ha
   cases b<;>simp[gt] at hb
   exact⟨_,_,rs,rfl,ha.1,ha.2⟩
 · cases h
noncomputable def scan (m:Int):List Int->Nat->List D->Option Nat
 |_,_,[]=>none
 |hs,k,d::ds=>if crB m d=true/\hdI d∉hs then scan m (hs++[hdI d]) (k+1) ds else some k
structure Lp (S T:R.St) (l:Nat) (acc:List D):Prop where
 up:Up S T
 fz:T.frz=S.frz++S.new
 lk:T.lk.contains l=false
 at_:T.get l=some (.lst acc)
 nw:S.len<=l
theorem Lp.old {S T:R.St}{l:Nat}{acc:List D}(L:Lp S T l acc):T.frz.length<=l:=by rw[L.fz,zb0];exact L.nw
noncomputable def zfm:CS:=.ifS (.or (.nt (.tst (.call 4 0 (.cons (.loc 4) (.cons (.loc 0) .nil))))) (.cmp .In (.ix (.loc 4) (.con (D.int 0))) (.mkL (.comp 1 [] [0] (.val (.loc 2)) (.tst (.con (D.bl true))) (.ix (.loc 0) (.con (D.int 0))))))) (.rais 3 "NoLetter" "place" (.loc 3)) .nil (.expr (.mt .append (.loc 2) (.cons (.loc 4) .nil)) .nil)
noncomputable abbrev Ec (m:Int)(s l:Nat)(a b:Option D):Ev:=[some (.int m),some (.ref s),some (.ref l),a,b]
theorem zgZ (m:Int){acc:List D}(h:∀x∈acc,crB m x=true):acc.map (fun x=>D.int (hdI x))=(acc.map hdI).map D.int:=by rw[List.map_map];rfl
@[irreducible] noncomputable def Pt (S T:R.St)(m:Int)(s l k:Nat)(d:D)(acc:List D)(f:Fl)(U:R.St):Prop:=if crB m d=true/\hdI d∉acc.map hdI then f=.nx (Ec m s l (some (.int k)) (some d))/\Lp S U l (acc++[d])/\U.lk=T.lk
 else ∃e,f=.ex (.ref e)/\U.get e=some (.exc 3 [(("place":PySem.Str),.int k)])/\Up S U/\U.frz=S.frz++S.new
theorem zjk {n:Nat}{S T:R.St}{m:Int}{s l k:Nat}{d:D}{acc:List D}(L:Lp S T l acc)(hd:Tyy S d)(ha:∀x∈acc,crB m x=true)(hl:acc.length<16777216) :
  W (exS (callF prog (n+3)) zfm (Ec m s l (some (.int k)) (some d)) T) (Pt S T m s l k d acc):=by
 refine wS_W _ ?_
 conv=>whnf
 refine zaE (zjH (hd.mono L.up)) ?_
 conv=>whnf
 cases hb:crB m d with
 | false =>
   conv=>whnf
   unfold Pt
   rw[if_neg (by rw[hb];simp)]
   exact⟨_,rfl,zai _ _,L.up.trans (.push _ _),L.fz⟩
 | true =>
   obtain⟨a,b,rs,rfl,_,_⟩:=zeG hb
   conv=>whnf
   refine zad zkM ?_
   conv=>whnf
   refine zad L.at_ ?_
   conv=>whnf
   refine za4 ?_
   refine W.of (zbo (fun x=>.int (hdI x)) acc _ (fun x _=>rfl) (fun x hx=>?_)) ?_
   · obtain⟨a,b,rs,rfl,_,_⟩:=zeG (ha x hx)
     rfl
   refine zab (by rw[List.length_map];omega) ?_
   conv=>whnf
   refine zab (by rw[List.length_map];omega) ?_
   conv=>whnf
   have hT:(R.St.push T (.lst (acc.map fun x=>D.int (hdI x)))).get T.len=some (.lst ((acc.map hdI).map D.int)):=by rw[zai,zgZ m ha]
   refine zad (zi3 hT a) ?_
   have upT:Up S (R.St.push T (.lst (acc.map fun x=>D.int (hdI x)))):=L.up.trans (.push _ _)
   have ne:T.len≠l:=by have:=zaw L.at_;omega
   by_cases c:a∈acc.map hdI
   · rw[decide_eq_true c]
     conv=>whnf
     unfold Pt
     rw[if_neg (fun q=>q.2 c)]
     exact⟨_,rfl,zai _ _,upT.trans (.push _ _),L.fz⟩
   · rw[decide_eq_false c]
     conv=>whnf
     refine zad (zat L.at_) ?_
     conv=>whnf
     refine zad (zat L.at_) ?_
     conv=>whnf
     refine zab (by simp;omega) ?_
     obtain⟨U,e1,e2,e3,e4,e5,e6⟩:=za7 (S:=R.St.push T (.lst (acc.map fun x=>D.int (hdI x)))) (l:=l) (.lst (acc++[D.tup [.int a,.int b,.tup rs]])) L.old L.lk
     refine zad e1 ?_
     conv=>whnf
     unfold Pt
     rw[if_pos ⟨hb,c⟩]
     refine⟨rfl,⟨fun j o ho=>?_,by rw[e2];exact L.fz,by rw[e3];exact L.lk,e6 (zaw (zat L.at_)),L.nw⟩,e3⟩
     rw[e5 j (by have:=zaw ho;have:=L.nw;omega)]
     exact upT j o ho
noncomputable def en:Nat->List D->List D
 |_,[]=>[]
 |k,d::ds=>zcr (.int (k:Nat)) d::en (k+1) ds
theorem zi8:∀(ds:List D) (k:Nat),ds.mapIdx (fun i d=>zcr (.int ((i+k:Nat):Int)) d)=en k ds
 | [],_=>rfl
 | d :: ds, k => by
   rw[List.mapIdx_cons,en,<-zi8 ds (k+1),Nat.zero_add]
   congr 2
   funext i d
   rw[show i+1+k=i+(k+1) by omega]
theorem en_0 (ds:List D):ds.mapIdx (fun i d=>zcr (.int (i:Int)) d)=en 0 ds:=zi8 ds 0
@[irreducible] noncomputable def Rs (S : R.St) (m : Int) (s l : Nat) (all : List D) (o : Option Nat) (f : Fl) (U : R.St) : Prop := match o with
  |none=>(∃a b,f=.nx (Ec m s l a b))/\Lp S U l all
  |some p=>∃e,f=.ex (.ref e)/\U.get e=some (.exc 3 [(("place":PySem.Str),.int p)])/\Up S U/\U.frz=S.frz++S.new
theorem zgF {n:Nat}{S:R.St}{m:Int}{s l:Nat}:∀(ds acc:List D) (k:Nat) (T:R.St) (a b:Option D),Lp S T l acc->(∀d∈ds,Tyy S d)->(∀x∈acc,crB m x=true)->acc.length+ds.length<=16777216->
  W (zaW [3,4] (exS (callF prog (n+3)) zfm) (en k ds) (Ec m s l a b) T) (Rs S m s l (acc++ds) (scan m (acc.map hdI) k ds))
 | [], acc, k, T, a, b, L, _, _, _ => by
   show W (Out.ok (Fl.nx _) T) _
   rw[W_ok]
   unfold Rs scan
   exact⟨⟨a,b,rfl⟩,by rw[List.append_nil];exact L⟩
 | d :: ds, acc, k, T, a, b, L, ht, ha, hl => by
   simp only[List.length_cons] at hl
   show W (Out.bind (exS (callF prog (n+3)) zfm (Ec m s l (some (.int k)) (some d)) T) _) _
   rw[zaa]
   refine (zjk L (ht d (by simp)) ha (by omega)).mono fun f U q=>?_
   unfold Pt at q
   by_cases c:crB m d=true/\hdI d∉acc.map hdI
   · rw[if_pos c] at q
     obtain⟨rfl,L',_⟩:=q
     have ih:=zgF (n:=n) (s:=s) ds (acc++[d]) (k+1) U (some (.int k)) (some d) L' (fun x hx=>ht x (by simp[hx])) (fun x hx=>by
      rcases List.mem_append.mp hx with hx|hx
      · exact ha x hx
      · rw[List.mem_singleton.mp hx];exact c.1) (by simp;omega)
     dsimp only
     rw[scan,if_pos c]
     rw[List.append_assoc,List.map_append] at ih
     exact ih
   · rw[if_neg c] at q
     obtain⟨e,rfl,h1,h2,h3⟩:=q
     dsimp only
     rw[W_ok,scan,if_neg c]
     unfold Rs
     exact⟨e,rfl,h1,h2,h3⟩
theorem zkD:c_crashes_of.body=.asg 2 (.lst .nil) (.forS [3,4] (.enum (.loc 1)) zfm (.ret (.loc 2) .nil)):=rfl
@[irreducible] noncomputable def Rf (S : R.St) (ds : List D) (o : Option Nat) (f : Fl) (U : R.St) : Prop := match o with
  |none=>∃l,f=.rt (.ref l)/\U.get l=some (.lst ds)/\S.len<=l
  |some p=>∃e,f=.ex (.ref e)/\U.get e=some (.exc 3 [(("place":PySem.Str),.int p)])/\Up S U/\U.frz=S.frz++S.new
theorem zjb {n:Nat}{S:R.St}{m:Int}{s:Nat}{ds:List D}(hg:S.get s=some (.lst ds))(ht:∀d∈ds,Tyy S d)(hl:ds.length<=16777216) :
  W (exS (callF prog (n+3)) c_crashes_of.body (zaB c_crashes_of [.int m,.ref s]) S.enter) (Rf S ds (scan m [] 0 ds)):=by
 refine wS_W _ ?_
 rw[zkD]
 conv=>whnf
 refine zab (by decide) ?_
 conv=>whnf
 have hs:=zaw hg
 have up:Up S (S.enter.push (.lst [])):=(Up.enter S).trans (.push _ _)
 have en:zcB (S.enter.push (.lst [])) (.ref s)=some (en 0 ds,[s]):=by
  unfold zcB
  dsimp only
  rw[up _ _ hg,<-en_0]
 refine zad en ?_
 conv=>whnf
 refine za4 ?_
 have L0:Lp S {S.enter.push (.lst []) with lk:=[s]++(S.enter.push (.lst [])).lk} S.enter.len []:=by
  refine⟨fun l o e=>up l o e,?_,?_,?_,by rw[R.enter_len];exact Nat.le_refl _⟩
  · rfl
  · show ([s]:List Nat).contains _=false
    rw[R.enter_len]
    simp;omega
  · exact zai S.enter _
 refine (zgF (n:=n) (s:=s) ds [] 0 _ none none L0 ht (fun x hx=>nomatch hx) (by simpa using hl)).mono fun f U q=>?_
 rw[List.nil_append] at q
 unfold Rs at q
 rw[List.map_nil] at q
 cases e:scan m [] 0 ds with
 | none =>
   rw[e] at q
   obtain⟨⟨a,b,rfl⟩,L⟩:=q
   conv=>whnf
   unfold Rf
   exact⟨_,rfl,L.at_,L.nw⟩
 | some p =>
   rw[e] at q
   obtain⟨x,rfl,h1,h2,h3⟩:=q
   conv=>whnf
   unfold Rf
   exact⟨x,rfl,h1,h2,h3⟩
theorem zdD {n:Nat}{S:R.St}{m:Int}{s:Nat}{ds:List D}(hg:S.get s=some (.lst ds))(ht:∀d∈ds,Tyy S d)(hl:ds.length<=16777216)(hf:flats S.len ds=true)(hn:scan m [] 0 ds=none) :
  app (callF prog (n+4)) 3 [.int m,.ref s] S=.ok (.ref S.len) (S.push (.lst ds)):=by
 refine W.eq (zhu (F:=c_crashes_of) rfl rfl ?_)
 refine (zjb hg ht hl).mono fun f U q=>?_
 unfold Rf at q
 rw[hn] at q
 obtain⟨l,rfl,h1,h2⟩:=q
 exact zcg h2 h1 hf ⟨rfl,rfl⟩
theorem zbr {S T:R.St}{l:Nat}(hT:T.frz=S.frz++S.new):(R.St.mk S.frz (S.new++T.new) S.lk).get l=T.get l:=by
 unfold St.get
 rw[hT]
 dsimp only
 rw[List.length_append]
 by_cases h1:l<S.frz.length
 · rw[if_pos h1,if_pos (by omega),List.getElem?_append_left h1]
 · rw[if_neg h1]
   by_cases h2:l<S.frz.length+S.new.length
   · rw[if_pos h2,List.getElem?_append_left (by omega),List.getElem?_append_right (by omega)]
   · rw[if_neg h2,List.getElem?_append_right (by omega)]
     congr 1
     omega
theorem zmX {P:List Fn}{F:Fn}{f n:Nat}{ds:List D}{S U:R.St}{d:D}(h:P[f]?=some F)(hl:ds.length=F.np)(e:exS (callF P n) F.body (zaB F ds) S.enter=.ok (.ex d) U)(hp:F.prim=none:=by rfl):appX (callF P (n+1)) f ds S=.err d ⟨S.frz,S.new++U.new,S.lk⟩:=by
 unfold appX
 simp only[callF,h,hl,hp,if_true,e,Out.ne,za8]
theorem zf3 {n:Nat}{S:R.St}{m:Int}{s p:Nat}{ds:List D}(hg:S.get s=some (.lst ds))(ht:∀d∈ds,Tyy S d)(hl:ds.length<=16777216)(hn:scan m [] 0 ds=some p) :
  ∃e T,appX (callF prog (n+4)) 3 [.int m,.ref s] S=.err (.ref e) T/\T.get e=some (.exc 3 [(("place":PySem.Str),.int p)])/\Up S T/\T.frz=S.frz/\T.lk=S.lk/\S.len<=T.len:=by
 obtain⟨f,U,e,q⟩:=W.iff.mp (zjb (n:=n) (m:=m) hg ht hl)
 unfold Rf at q
 rw[hn] at q
 obtain⟨x,rfl,h1,h2,h3⟩:=q
 refine⟨x,⟨S.frz,S.new++U.new,S.lk⟩,?_,by rw[zbr h3];exact h1,fun l o g=>by rw[zbr h3];exact h2 l o g,rfl,rfl,by unfold St.len;simp⟩
 exact zmX (F:=c_crashes_of) rfl rfl e
theorem zd3 {S:R.St}{e c:Nat}{fs:List (PySem.Str × D)}(h:S.get e=some (.exc c fs)):zbP S (.ref e)=some (c,fs):=by
 unfold zbP;dsimp only;rw[h]
theorem get_frz {S T:R.St}(hT:T.frz=S.frz++S.new){l:Nat}(h:l<S.len):T.get l=S.get l:=by
 rw[<-zaH S]
 unfold St.get
 rw[hT,if_pos (by rw[zb0];exact h),if_pos (by rw[zd7,zb0];exact h)]
 rfl
theorem zeY {n:Nat}{S:R.St}{m:Int}{s p:Nat}{ds:List D}(hg:S.get s=some (.lst ds))(ht:∀d∈ds,Tyy S d)(hl:ds.length<=16777216)(hn:scan m [] 0 ds=some p) :
  W (app (callF prog (n+5)) 8 [.int m,.ref s] S) fun d T=>∃e,d=.ref e/\T.get e=some (.exc 3 [(("place":PySem.Str),.int p)])/\Up S T/\S.len<=T.len:=by
 obtain⟨e,T,ex,h1,h2,h3,h4,h5⟩:=zf3 (n:=n) (S:=S.enter) (by rw[zaH];exact hg) (fun d hd=>(ht d hd).mono (.enter S)) hl hn
 refine zhu (F:=zb8) rfl rfl ?_
 show W (exS (callF prog (n+4)) (.tryS (.run 3 (.cons (.loc 0) (.cons (.loc 1) .nil))) "RoundError" 3 2 (.ret (.loc 2) .nil)) [some (.int m),some (.ref s),some .non,none] S.enter) _
 have et:exT (callF prog (n+4)) (.run 3 (.cons (.loc 0) (.cons (.loc 1) .nil))) [some (.int m),some (.ref s),some .non,none] S.enter=.err (.ref e) T:=by
  show Out.bind (appX (callF prog (n+4)) 3 [.int m,.ref s] S.enter) _=_
  rw[ex];rfl
 rw[exS,et]
 dsimp only
 rw[zd3 h1]
 show wFin S (.rt (.ref e)) T _
 have hT:T.frz=S.frz++S.new:=h3
 by_cases hlt:e<S.len
 · have hb:T.get e=S.get e:=by
    exact get_frz hT hlt
   refine zaj (by simp[R.flat,hlt]) ⟨e,rfl,by rw[<-hb];exact h1,.refl _,Nat.le_refl _⟩
 · unfold wFin
   rw[zfh]
   unfold zaU
   have h0:R.flat S.len (.ref e)=false:=by simp[R.flat];omega
   simp only[h0,h1,Bool.false_eq_true,if_false,W_ok]
   exact⟨e,rfl,by rw[zbr hT];exact h1,fun l o g=>by rw[zbr hT];exact h2 l o (by rw[zaH];exact g),by simp[St.len]⟩
theorem zdC {n:Nat}{S:R.St}{e p:Nat}(h:S.get e=some (.exc 3 [(("place":PySem.Str),.int p)])):app (callF prog (n+1)) 9 [.ref e,.int p] S=.ok (.bl true) S:=by
 have x:zbP S.enter (.ref e)=some (3,[(("place":PySem.Str),.int p)]):=zd3 (by rw[zaH];exact h)
 refine zc4 (F:=zbQ) rfl rfl ?_
 conv=>whnf
 refine zad x ?_
 conv=>whnf
 refine zad x ?_
 conv=>whnf
 refine zad x ?_
 conv=>whnf
 refine zad x ?_
 conv=>whnf
 refine zad x ?_
 conv=>whnf
 refine zad x ?_
 conv=>whnf
 refine zad x ?_
 conv=>whnf
 refine zad x ?_
 conv=>whnf
 refine zad rfl ?_
 conv=>whnf
 refine zad rfl ?_
 conv=>whnf
 refine zad x ?_
 conv=>whnf
 refine zad rfl ?_
 conv=>whnf
 refine zaj rfl ⟨?_,rfl⟩
 rw[decide_eq_true rfl]
open PySem (PyData) in
theorem zdm {f g:D->Option PyData}(h:∀x a,f x=some a->g x=some a):∀{xs:List D} {as:List PyData},xs.mapM f=some as->xs.mapM g=some as
 | [],as,e=>by simpa using e
 | x :: xs, as, e => by
   rw[List.mapM_cons] at e⊢
   cases e1:f x with
   |none=>rw[e1] at e;cases e
   | some a =>
     rw[e1] at e
     cases e2:xs.mapM f with
     |none=>rw[e2] at e;cases e
     |some bs=>rw[e2] at e;rw[h x a e1,zdm h e2];exact e
open PySem (PyData) in
theorem znx {S T:R.St}(u:Up S T):∀{n:Nat} {d:D} {a:PyData},pd S n d=some a->pd T n d=some a:=by
 intro n
 induction n with
 | zero =>
   intro d a h
   cases d<;>simp only[pd] at h⊢<;> first|exact h|cases h
 | succ n ih =>
   intro d a h
   cases d with
   | tup ds =>
     simp only[pd] at h⊢
     cases e:ds.mapM (pd S n) with
     |none=>rw[e] at h;cases h
     |some xs=>rw[e] at h;rw[zdm (fun x a=>ih) e];exact h
   | ref l =>
     simp only[pd] at h⊢
     split at h
     · rename_i ds g
       rw[u _ _ g]
       cases e:ds.mapM (pd S n) with
       |none=>rw[e] at h;cases h
       |some xs=>rw[e] at h;simp only[zdm (fun x a=>ih) e];exact h
     · cases h
   |_=>simp only[pd] at h⊢;first|exact h|cases h
theorem ziq {a b:Nat}(hab:a<=b):∀{n:Nat} {ds:List D},sizeOf ds<n->flats a ds=true->flats b ds=true:=by
 intro n
 induction n with
 |zero=>intro ds h;omega
 | succ n ih =>
   intro ds h hf
   cases ds with
   |nil=>rfl
   | cons d ds =>
     rw[zb1,Bool.and_eq_true] at hf⊢
     have hs:sizeOf (d::ds)=1+sizeOf d+sizeOf ds:=rfl
     refine⟨?_,ih (by omega) hf.2⟩
     cases d with
     | tup es =>
       rw[zfg] at hf⊢
       have:sizeOf (D.tup es)=1+sizeOf es:=by simp
       exact ih (by omega) hf.1
     | fix es =>
       rw[zir] at hf⊢
       have:sizeOf (D.fix es)=1+sizeOf es:=by simp
       exact ih (by omega) hf.1
     | ref l =>
       have:=hf.1
       simp[R.flat] at this⊢
       omega
     |_=>simp[R.flat]
structure Gd (S:R.St) (ds:List D):Prop where
 ty:∀d∈ds,Tyy S d
 fl:flats S.len ds=true
 pd:∃xs,ds.mapM (pd S 59)=some xs
 len:ds.length<=1000
theorem Gd.mono {S T:R.St}{ds:List D}(h:Gd S ds)(u:Up S T)(l:S.len<=T.len):Gd T ds:=⟨fun d hd=>(h.ty d hd).mono u,ziq l (Nat.lt_succ_self _) h.fl,let ⟨xs,e⟩:=h.pd;⟨xs,zdm (fun x a=>znx u) e⟩,h.len⟩
theorem Gd.push {S:R.St}{ds:List D}(h:Gd S ds)(o:MO):Gd (S.push o) ds:=h.mono (.push S o) (by rw[plen];omega)
theorem Gd.enter {S:R.St}{ds:List D}(h:Gd S ds):Gd S.enter ds:=h.mono (.enter S) (by rw[R.enter_len];exact Nat.le_refl _)
theorem zeW {m:Int}:∀{ds:List D} {hs:List Int} {k:Nat},scan m hs k ds=none->∀d∈ds,crB m d=true
 | [],_,_,_,d,hd=>nomatch hd
 | x :: ds, hs, k, h, d, hd => by
   rw[scan] at h
   split at h
   · rename_i c
     rcases List.mem_cons.mp hd with rfl|hd
     · exact c.1
     · exact zeW h d hd
   · cases h
theorem zji {S:R.St}{l:Nat}{ds:List D}(h:S.get l=some (.lst ds)):tyOf S (.ref l)=some "list":=by simp only[tyOf,h]
theorem zkN {n:Nat}{S:R.St}{m:Int}{ds:List D}(o:Option D)(h:∀d∈ds,crB m d=true):zaX [0] (evT (callF prog n) (CE.con (D.bl true)).tst) (evE (callF prog n) (.bi (.isin "tuple") (.cons (.loc 0) .nil))) ds [o] S=.ok (ds.map fun _=>D.bl true) S:=by
 refine zbo _ ds o (fun x _=>rfl) (fun x hx=>?_)
 obtain⟨a,b,rs,rfl,_⟩:=zeG (h x hx)
 rfl
theorem ziS {n:Nat}{S:R.St}{m:Int}{s:Nat}{ds:List D}(hg:S.get s=some (.lst ds))(hd:Gd S ds)(hn:scan m [] 0 ds=none) :
  app (callF prog (n+5)) 10 [.int m,.ref s] S=.ok (.bl true) S:=by
 refine zc4 (F:=zc1) rfl rfl ?_
 have hl:=hd.len
 have hl':ds.length<=16777216:=by omega
 have gE:S.enter.get s=some (.lst ds):=by rw[zaH];exact hg
 have hE:=hd.enter
 conv=>whnf
 refine zad gE ?_
 conv=>whnf
 refine zab (show ds.length<=16777216 by omega) ?_
 conv=>whnf
 have h1:=hE.push (.lst ds)
 refine zaE (zdD (n:=n) (ds:=ds) (zai _ _) h1.ty hl' h1.fl hn) ?_
 have h2:=h1.push (.lst ds)
 generalize e1:S.enter.push (.lst ds)=S1 at *
 have g1:S1.get s=some (.lst ds):=by rw[<-e1];exact zat gE
 conv=>whnf
 refine zad (zji (zai _ _)) ?_
 conv=>whnf
 obtain⟨xs,ex⟩:=h2.pd
 refine zad (zcD (zai _ _) (zat g1) ex) ?_
 conv=>whnf
 refine zad (zai _ _) ?_
 conv=>whnf
 refine za4 ?_
 refine W.of (zkN none (zeW hn)) ?_
 refine zab (show (ds.map fun _=>D.bl true).length<=16777216 by rw[List.length_map];omega) ?_
 conv=>whnf
 refine zad (zeO (fun _=>true) ds) ?_
 have ea:(ds.all fun _=>true)=true:=by simp
 rw[ea]
 conv=>whnf
 refine zad (zai _ _) ?_
 conv=>whnf
 refine zad (zai _ _) ?_
 conv=>whnf
 refine zab (by simp;omega) ?_
 have ne:S1.len<(S1.push (.lst ds)).len:=by rw[plen];omega
 have fz:(S1.push (.lst ds)).frz.length<=S1.len:=by
  show S1.frz.length<=S1.len
  unfold St.len;omega
 have lk0:(S1.push (.lst ds)).lk.contains S1.len=false:=by
  rw[<-e1];rfl
 obtain⟨U,u1,u2,u3,u4,u5,u6⟩:=za7 (S:=S1.push (.lst ds)) (l:=S1.len) (.lst (ds++[D.int 0])) fz lk0
 refine zad u1 ?_
 conv=>whnf
 have upU:∀l o,l<S1.len->S1.get l=some o->U.get l=some o:=fun l o hl e=>by
  rw[u5 l (by omega)];exact zat e
 have gU:U.get s=some (.lst ds):=upU s _ (zaw g1) g1
 refine zad gU ?_
 conv=>whnf
 refine zab hl' ?_
 conv=>whnf
 have up1:Up S1 U:=fun l o e=>upU l o (zaw e) e
 have h1:=h1.mono up1 (by rw[u4,plen];omega)
 have h3:=h1.push (.lst ds)
 refine zaE (zdD (n:=n) (ds:=ds) (zai _ _) h3.ty hl' h3.fl hn) ?_
 conv=>whnf
 obtain⟨ys,ey⟩:=(h3.push (.lst ds)).pd
 refine zad (zeH (zai _ _) (zat (zat gU)) ey) ?_
 conv=>whnf
 exact zaj rfl ⟨rfl,rfl⟩
noncomputable def pr:Nat->D->Prop
 |_,.non=>True
 |_,.bl _=>True
 |_,.int _=>True
 |_,.str x=>PySem.PyData.strOk x=true
 |k+1,.tup ds=>ds.length<=1000/\∀x∈ds,pr k x
 |_,_=>False
theorem pr.ty {k:Nat}{d:D}(h:pr k d)(U:R.St):Ty U d:=by
 cases d with
 |ref l=>cases k<;>exact h.elim
 |fix l=>cases k<;>exact h.elim
 |clo l=>cases k<;>exact h.elim
 |_=>trivial
theorem pr.flat:∀{k:Nat} {d:D},pr k d->∀N,R.flat N d=true:=by
 intro k
 induction k with
 |zero=>intro d h N;cases d<;>first|exact h.elim|rfl
 | succ k ih =>
   intro d h N
   cases d with
   |tup ds=>rw[zfg,za2];exact fun x hx=>ih (h.2 x hx) N
   |ref l=>exact h.elim
   |fix l=>exact h.elim
   |clo l=>exact h.elim
   |_=>rfl
open PySem (PyData) in
theorem zbZ {f:D->Option PyData}:∀{xs:List D},(∀x∈xs,∃a,f x=some a)->∃as,xs.mapM f=some as
 | [],_=>⟨[],rfl⟩
 | x :: xs, h => by
   obtain⟨a,e⟩:=h x (by simp)
   obtain⟨as,es⟩:=zbZ (xs:=xs) fun y hy=>h y (by simp[hy])
   exact⟨a::as,by rw[List.mapM_cons,e,es];rfl⟩
open PySem (PyData) in
theorem pr.pd:∀{k:Nat} {d:D},pr k d->∀(U:R.St) (n:Nat),k<=n->∃a,R.pd U n d=some a:=by
 intro k
 induction k with
 |zero=>intro d h U n _;cases d<;>first|exact h.elim|(cases n<;>exact⟨_,rfl⟩)|(cases n<;>exact⟨_,if_pos h⟩)
 | succ k ih =>
   intro d h U n hn
   cases d with
   | tup ds =>
     cases n with
     |zero=>omega
     | succ n =>
       obtain⟨as,e⟩:=zbZ (f:=R.pd U n) (xs:=ds) fun x hx=>ih (h.2 x hx) U n (by omega)
       exact⟨.tuple as,by simp only[R.pd,e];rfl⟩
   |ref l=>exact h.elim
   |fix l=>exact h.elim
   |clo l=>exact h.elim
   |str x=>cases n<;>exact⟨_,if_pos h⟩
   |_=>cases n<;>exact⟨_,rfl⟩
theorem pr.tyy {k:Nat}{d:D}(h:pr k d)(U:R.St):Tyy U d:=by
 refine⟨h.ty U,fun ds e x hx=>?_,fun ds e rs hr=>?_⟩
 · subst e
   cases k with
   |zero=>exact h.elim
   |succ k=>exact (h.2 x hx).ty U
 · subst e
   cases k with
   |zero=>exact h.elim
   | succ k =>
     have h2:=h.2 _ hr
     cases k with
     |zero=>exact h2.elim
     |succ k=>exact⟨by have:=h2.1;omega,fun y hy=>(h2.2 y hy).ty U⟩
theorem zag {k:Nat}{z:Int}:pr k (.int z):=by cases k<;>trivial
theorem zdN {k:Nat}:pr k .non:=by cases k<;>trivial
theorem zhW {k:Nat}{b:Bool}:pr k (.bl b):=by cases k<;>trivial
theorem ziW {k:Nat}{x:PySem.Str}(h:PySem.PyData.strOk x=true):pr k (.str x):=by cases k<;>exact h
theorem zbL {k:Nat}{ds:List D}(hl:ds.length<=1000)(h:∀x∈ds,pr k x):pr (k+1) (.tup ds):=⟨hl,h⟩
theorem pr3 {k:Nat}{a b c:D}(ha:pr k a)(hb:pr k b)(hc:pr k c):pr (k+1) (.tup [a,b,c]):=zbL (show 3<=1000 by decide) (by simp[ha,hb,hc])
structure Bd (m:Int) (S:R.St) (d:D):Prop where
 bad:crB m d=false
 ty:Tyy S d
 fl:flat S.len d=true
 pd:∃a,pd S 59 d=some a
theorem pr.bd {k:Nat}{d:D}{m:Int}(h:pr k d)(hk:k<=59)(hb:crB m d=false)(S:R.St):Bd m S d:=⟨hb,h.tyy S,h.flat _,h.pd S 59 hk⟩
structure Cr where
 h:Int
 t:Int
 rs:List Int
noncomputable def crD (c:Cr):D:=.tup [.int c.h,.int c.t,.tup (c.rs.map .int)]
structure VC (m:Int) (c:Cr):Prop where
 h0:0<=c.h
 h1:c.h<m
 t0:1<=c.t
 t1:c.t<=30
 rs:∀r∈c.rs,0<=r/\r<m
 len:c.rs.length<=7
theorem zbG {m:Int}{a b x:D}{rs:List D}(hx:x∈rs)(hg:gh m x=false):crB m (.tup [a,b,.tup rs])=false:=by
 have:rs.all (gh m)=false:=by
  rw[List.all_eq_false];exact⟨x,hx,by rw[hg];simp⟩
 unfold crB
 dsimp only
 rw[this,Bool.and_false]
theorem zbt {m:Int}{a b:D}{rs:List D}(hg:gh m a=false):crB m (.tup [a,b,.tup rs])=false:=by unfold crB;dsimp only;rw[hg];rfl
theorem zbs {m:Int}{a b:D}{rs:List D}(hg:gt b=false):crB m (.tup [a,b,.tup rs])=false:=by unfold crB;dsimp only;rw[hg,Bool.and_false];rfl
theorem ziz {m:Int}{c:Cr}(h:VC m c):crB m (crD c)=true:=by
 unfold crB crD
 dsimp only
 have h1:=h.h0;have h2:=h.h1;have h3:=h.t0;have h4:=h.t1
 have hr:(c.rs.map D.int).all (gh m)=true:=by
  rw[List.all_eq_true]
  intro x hx
  obtain⟨r,hr,rfl⟩:=List.mem_map.mp hx
  have:=h.rs r hr
  simp[gh,this.1,this.2]
 simp[gh,gt,h1,h2,h3,h4,hr]
theorem zgu {k:Nat}{rs:List Int}(h:rs.length<=1000):pr (k+1) (.tup (rs.map .int)):=zbL (by rw[List.length_map];exact h) (fun x hx=>by obtain⟨r,_,rfl⟩:=List.mem_map.mp hx;exact zag)
theorem ziX {c:Cr}(h:c.rs.length<=1000):pr 2 (crD c):=pr3 zag zag (zgu h)
noncomputable def El (S:R.St)(m:Int)(c:Cr)(T:R.St)(d:D):Prop:=(∀U,Bd m U d)\/(∃l,S.len<=l/\d=.tup [.int c.h,.int c.t,.ref l]/\T.get l=some (.lst (c.rs.map .int)))\/∃l,S.len<=l/\d=.ref l/\T.get l=some (.lst [.int c.h,.int c.t,.tup (c.rs.map .int)])
theorem El.mono {S T T':R.St}{m:Int}{c:Cr}{d:D}(h:El S m c T d)(u:Up T T'):El S m c T' d:=by
 rcases h with h|⟨l,h1,h2,h3⟩|⟨l,h1,h2,h3⟩
 · exact .inl h
 · exact .inr (.inl ⟨l,h1,h2,u _ _ h3⟩)
 · exact .inr (.inr ⟨l,h1,h2,u _ _ h3⟩)
structure Tn (S:R.St) (m:Int) (c:Cr) (b:Nat) (T:R.St) (l:Nat) (xs:List D):Prop where
 fz:T.frz=S.frz++S.new
 at_:T.get l=some (.lst xs)
 el:∀d∈xs,El S m c T d
 ne:0<xs.length
 len:xs.length<=b
noncomputable abbrev Et (c:Cr)(w m:Int)(x:Option D):Ev:=[some (crD c),some (.int w),some (.int m),some (.int c.h),some (.int c.t),some (.tup (c.rs.map .int)),x]
theorem zba {cf:CF}{S T:R.St}{m w:Int}{c:Cr}{l b:Nat}{xs:List D}{es:CEs}{r:CS}{Q:Fl->R.St->Prop}(I:Tn S m c b T l xs)(hb:b<=500)(hw:wEs cf es (Et c w m (some (.ref l))) T fun ds T'=>Up T T'/\T'.frz=T.frz/\ds.length<=10/\∀d∈ds,El S m c T' d)
  (k:∀T' l' xs',Tn S m c (b+10) T' l' xs'->W (exS cf r (Et c w m (some (.ref l'))) T') Q):W (exS cf (.asg 6 (.bin .Add (.loc 6) (.lst es)) r) (Et c w m (some (.ref l))) T) Q:=by
 rw[exS,zaa,evE,zaa]
 have e6:evE cf (.loc 6) (Et c w m (some (.ref l))) T=.ok (.ref l) T:=by simp only[evE];rfl
 have hl:=I.len
 rw[e6,W_ok,zaa,evE,zaa]
 refine (zdw _ hw).mono fun ds T' ⟨u,f,h10,he⟩=>?_
 unfold lay
 rw[if_pos (by omega),W_ok]
 have g1:(T'.push (.lst ds)).get l=some (.lst xs):=zat (u _ _ I.at_)
 have g2:(T'.push (.lst ds)).get T'.len=some (.lst ds):=zai _ _
 show W (binD (T'.push (.lst ds)) .Add (.ref l) (.ref T'.len)) _
 unfold binD
 dsimp only
 rw[g1,g2]
 dsimp only
 unfold lay
 rw[if_pos (by rw[List.length_append];omega),W_ok]
 refine k _ _ (xs++ds) ⟨by show T'.frz=_;rw[f,I.fz],zai _ _,fun d hd=>?_,by rw[List.length_append];have:=I.ne;omega,by rw[List.length_append];omega⟩
 rcases List.mem_append.mp hd with hd|hd
 · exact (I.el d hd).mono ((u.trans (.push _ _)).trans (.push _ _))
 · exact (he d hd).mono ((Up.push _ _).trans (.push _ _))
theorem gh_m {m:Int}:gh m (.int m)=false:=by simp[gh]
theorem zi4 {m:Int}:gh m (.int (0 - 1))=false:=by simp[gh]
theorem zkq {m:Int}:gh m (.int (-1))=false:=by simp[gh]
section
variable {cf:CF} {S T:R.St} {m w:Int} {c:Cr} {l:Nat} (hc:VC m c)
theorem zao {k:Nat}{d:D}(h:pr k d)(hk:k<=59)(hb:crB m d=false):El S m c T d:=.inl fun U=>h.bd hk hb U
include hc
theorem rs7 {k:Nat}:pr (k+1) (.tup (c.rs.map .int)):=zgu (by have:=hc.len;omega)
theorem znJ:wEs cf (.cons (.tup (.cons (.loc 3) (.cons (.con (D.bl true)) (.cons (.loc 5) .nil)))) (.cons (.tup (.cons (.loc 3) (.cons (.con (D.str "1")) (.cons (.loc 5) .nil)))) (.cons (.tup (.cons (.loc 2) (.cons (.loc 4) (.cons (.loc 5) .nil)))) (.cons (.tup (.cons (.bin .Sub (.con (D.int 0)) (.con (D.int 1))) (.cons (.loc 4) (.cons (.loc 5) .nil)))) .nil)))) (Et c w m (some (.ref l))) T fun ds T'=>Up T T'/\T'.frz=T.frz/\ds.length<=10/\∀d∈ds,El S m c T' d:=by
 conv=>whnf
 repeat (refine zab (show 3<=16777216 by decide) ?_;conv=>whnf)
 refine⟨.refl _,rfl,by simp,fun d hd=>?_⟩
 simp only[List.mem_cons,List.not_mem_nil,or_false] at hd
 rcases hd with rfl|rfl|rfl|rfl
 · exact zao (k:=3) (pr3 zag zhW (rs7 hc)) (by decide) (zbs rfl)
 · exact zao (k:=3) (pr3 zag (ziW (by decide +kernel)) (rs7 hc)) (by decide) (zbs rfl)
 · exact zao (k:=3) (pr3 zag zag (rs7 hc)) (by decide) (zbt gh_m)
 · exact zao (k:=3) (pr3 zag zag (rs7 hc)) (by decide) (zbt zi4)
end
theorem zcp {k:Nat}{xs ys:List D}(hx:∀x∈xs,pr k x)(hy:∀x∈ys,pr k x)(hl:(xs++ys).length<=1000):pr (k+1) (.tup (xs++ys)):=zbL hl fun x h=>(List.mem_append.mp h).elim (hx x) (hy x)
theorem zkB {α:Type}{xs:List α}{a b:Option Int}{x:α}(h:x∈cut xs a b):x∈xs:=by
 unfold cut at h
 exact List.mem_of_mem_drop (List.mem_of_mem_take h)
noncomputable abbrev Okd (S:R.St)(m:Int)(c:Cr)(T:R.St)(ds:List D)(T':R.St):Prop:=Up T T'/\T'.frz=T.frz/\ds.length<=10/\∀d∈ds,El S m c T' d
theorem prs {k:Nat}{c:Cr}:∀x∈c.rs.map D.int,pr k x:=fun x hx=>by obtain⟨r,_,rfl⟩:=List.mem_map.mp hx;exact zag
section
variable {cf:CF} {S T:R.St} {m w:Int} {c:Cr} {l:Nat} (hc:VC m c)
include hc
theorem znH:wEs cf (.cons (.tup (.cons (.con D.non) (.cons (.loc 4) (.cons (.loc 5) .nil)))) (.cons (.tup (.cons (.con (D.bl true)) (.cons (.loc 4) (.cons (.loc 5) .nil)))) (.cons (.tup (.cons (.con (D.bl false)) (.cons (.loc 4) (.cons (.loc 5) .nil)))) (.cons (.tup (.cons (.tup (.cons (.loc 3) .nil)) (.cons (.loc 4) (.cons (.loc 5) .nil)))) .nil)))) (Et c w m (some (.ref l))) T fun ds T'=>Okd S m c T ds T':=by
 conv=>whnf
 repeat (refine zab (by first|exact (show 3<=16777216 by decide)|exact (show 1<=16777216 by decide)) ?_;conv=>whnf)
 refine⟨.refl _,rfl,by simp,fun d hd=>?_⟩
 simp only[List.mem_cons,List.not_mem_nil,or_false] at hd
 rcases hd with rfl|rfl|rfl|rfl
 · exact zao (k:=3) (pr3 zdN zag (rs7 hc)) (by decide) (zbt rfl)
 · exact zao (k:=3) (pr3 zhW zag (rs7 hc)) (by decide) (zbt rfl)
 · exact zao (k:=3) (pr3 zhW zag (rs7 hc)) (by decide) (zbt rfl)
 · exact zao (k:=3) (pr3 (zbL (show 1<=1000 by decide) (by simp;exact zag)) zag (rs7 hc)) (by decide) (zbt rfl)
theorem ze0:(c.rs.map D.int).length<=7:=by rw[List.length_map];exact hc.len
theorem zkc (hT:S.len<=T.len):wEs cf (.cons (.tup (.cons (.loc 3) (.cons (.loc 4) (.cons (.mkL (.val (.loc 5))) .nil)))) (.cons (.tup (.cons (.loc 3) (.cons (.loc 4) (.cons (.con D.non) .nil)))) (.cons (.tup (.cons (.loc 3) (.cons (.loc 4) (.cons (.con (D.int 0)) .nil)))) (.cons (.tup (.cons (.loc 3) (.cons (.loc 4) (.cons (.bin .Add (.loc 5) (.tup (.cons (.loc 2) .nil))) .nil)))) .nil)))) (Et c w m (some (.ref l))) T fun ds T'=>Okd S m c T ds T':=by
 have r7:=ze0 hc
 conv=>whnf
 repeat (refine zab (by first|exact (show 3<=16777216 by decide)|exact (show 1<=16777216 by decide)|exact (show (c.rs.map D.int).length<=16777216 by omega)|exact (show (c.rs.map D.int).length+1<=16777216 by omega)) ?_;conv=>whnf)
 refine⟨.push _ _,rfl,by simp,fun d hd=>?_⟩
 simp only[List.mem_cons,List.not_mem_nil,or_false] at hd
 rcases hd with rfl|rfl|rfl|rfl
 · exact .inr (.inl ⟨_,hT,rfl,zai _ _⟩)
 · exact zao (k:=3) (pr3 zag zag zdN) (by decide) rfl
 · exact zao (k:=3) (pr3 zag zag zag) (by decide) rfl
 · exact zao (k:=3) (pr3 zag zag (zcp prs (by simp;exact zag) (by simp at r7⊢;omega))) (by decide) (zbG (x:=.int m) (by simp) gh_m)
theorem zmh:wEs cf (.cons (.tup (.cons (.loc 3) (.cons (.loc 4) (.cons (.bin .Add (.tup (.cons (.bin .Sub (.con (D.int 0)) (.con (D.int 1))) .nil)) (.loc 5)) .nil)))) (.cons (.tup (.cons (.loc 3) (.cons (.loc 4) (.cons (.bin .Add (.loc 5) (.tup (.cons (.con D.non) .nil))) .nil)))) (.cons (.tup (.cons (.loc 3) (.cons (.loc 4) (.cons (.bin .Add (.tup (.cons (.con (D.bl true)) .nil)) (.loc 5)) .nil)))) .nil))) (Et c w m (some (.ref l))) T fun ds T'=>Okd S m c T ds T':=by
 have r7:=ze0 hc
 conv=>whnf
 repeat (refine zab (by first|exact (show 3<=16777216 by decide)|exact (show 1<=16777216 by decide)|exact (show (c.rs.map D.int).length+1<=16777216 by omega)|exact (show 1+(c.rs.map D.int).length<=16777216 by omega)) ?_;conv=>whnf)
 refine⟨.refl _,rfl,by simp,fun d hd=>?_⟩
 simp only[List.mem_cons,List.not_mem_nil,or_false] at hd
 rcases hd with rfl|rfl|rfl
 · exact zao (k:=3) (pr3 zag zag (zcp (by simp;exact zag) prs (by simp at r7⊢;omega))) (by decide) (zbG (x:=.int (0 - 1)) (by simp) zi4)
 · exact zao (k:=3) (pr3 zag zag (zcp prs (by simp;exact zdN) (by simp at r7⊢;omega))) (by decide) (zbG (x:=.non) (by simp) rfl)
 · exact zao (k:=3) (pr3 zag zag (zcp (by simp;exact zhW) prs (by simp at r7⊢;omega))) (by decide) (zbG (x:=.bl true) (by simp) rfl)
theorem zmi:wEs cf (.cons (.tup (.cons (.loc 3) (.cons (.loc 4) (.cons (.bin .Add (.loc 5) (.tup (.cons (.tup (.cons (.con (D.int 0)) .nil)) .nil))) .nil)))) (.cons (.tup (.cons (.loc 3) (.cons (.loc 4) .nil))) (.cons (.tup (.cons (.loc 3) (.cons (.loc 4) (.cons (.loc 5) (.cons (.loc 5) .nil))))) .nil))) (Et c w m (some (.ref l))) T fun ds T'=>Okd S m c T ds T':=by
 have r7:=ze0 hc
 conv=>whnf
 repeat (refine zab (by first|exact (show 3<=16777216 by decide)|exact (show 1<=16777216 by decide)|exact (show 2<=16777216 by decide)|exact (show 4<=16777216 by decide)|exact (show (c.rs.map D.int).length+1<=16777216 by omega)) ?_;conv=>whnf)
 refine⟨.refl _,rfl,by simp,fun d hd=>?_⟩
 simp only[List.mem_cons,List.not_mem_nil,or_false] at hd
 have t0:∀k,pr (k+1) (.tup [.int 0]):=fun k=>zbL (show 1<=1000 by decide) (by simp;exact zag)
 rcases hd with rfl|rfl|rfl
 · exact zao (k:=4) (pr3 zag zag (zcp prs (by simp;exact t0 _) (by simp at r7⊢;omega))) (by decide) (zbG (x:=.tup [.int 0]) (by simp) rfl)
 · exact zao (k:=3) (zbL (show 2<=1000 by decide) (by simp;exact⟨zag,zag⟩)) (by decide) rfl
 · exact zao (k:=3) (zbL (show 4<=1000 by decide) (by simp;exact⟨zag,zag,rs7 hc⟩)) (by decide) rfl
theorem znI:wEs cf (.cons (.tup (.cons (.loc 3) (.cons (.loc 4) (.cons (.bin .Add (.bin .Add (.sl (.loc 5) false true (.con .non) (.con (D.int 1))) (.tup (.cons (.loc 2) .nil))) (.sl (.loc 5) true false (.con (D.int 1)) (.con .non))) .nil)))) (.cons (.tup (.cons (.loc 3) (.cons (.loc 4) (.cons (.bin .Add (.bin .Add (.sl (.loc 5) false true (.con .non) (.con (D.int 2))) (.tup (.cons (.neg (.con (D.int 1))) .nil))) (.sl (.loc 5) true false (.con (D.int 2)) (.con .non))) .nil)))) .nil)) (Et c w m (some (.ref l))) T fun ds T'=>Okd S m c T ds T':=by
 have r7:=ze0 hc
 have cl:∀a b,(cut (c.rs.map D.int) a b).length<=7:=fun a b=>Nat.le_trans (zja _ _ _) r7
 have cp:∀k a b,∀x∈cut (c.rs.map D.int) a b,pr k x:=fun k a b x hx=>prs x (zkB hx)
 conv=>whnf
 refine zab (show 1<=16777216 by decide) ?_
 conv=>whnf
 refine zab (show (cut (c.rs.map D.int) none (some 1)).length+1<=16777216 by have:=cl none (some 1);omega) ?_
 conv=>whnf
 refine zab (show (cut (c.rs.map D.int) none (some 1)++[D.int m]).length+(cut (c.rs.map D.int) (some 1) none).length<=16777216 by rw[List.length_append];have:=cl none (some 1);have:=cl (some 1) none;simp only[List.length_cons,List.length_nil];omega) ?_
 conv=>whnf
 refine zab (show 3<=16777216 by decide) ?_
 conv=>whnf
 refine zab (show 1<=16777216 by decide) ?_
 conv=>whnf
 refine zab (show (cut (c.rs.map D.int) none (some 2)).length+1<=16777216 by have:=cl none (some 2);omega) ?_
 conv=>whnf
 refine zab (show (cut (c.rs.map D.int) none (some 2)++[D.int (-1)]).length+(cut (c.rs.map D.int) (some 2) none).length<=16777216 by rw[List.length_append];have:=cl none (some 2);have:=cl (some 2) none;simp only[List.length_cons,List.length_nil];omega) ?_
 conv=>whnf
 refine zab (show 3<=16777216 by decide) ?_
 conv=>whnf
 refine⟨.refl _,rfl,by simp,fun d hd=>?_⟩
 simp only[List.mem_cons,List.not_mem_nil,or_false] at hd
 rcases hd with rfl|rfl
 · exact zao (k:=3) (pr3 zag zag (zcp (fun x hx=>(List.mem_append.mp hx).elim (cp _ _ _ x) (fun h=>by rw[List.mem_singleton.mp h];exact zag)) (cp _ _ _) (by rw[List.length_append,List.length_append];have:=cl none (some 1);have:=cl (some 1) none;simp only[List.length_cons,List.length_nil];omega))) (by decide) (zbG (x:=.int m) (by simp) gh_m)
 · exact zao (k:=3) (pr3 zag zag (zcp (fun x hx=>(List.mem_append.mp hx).elim (cp _ _ _ x) (fun h=>by rw[List.mem_singleton.mp h];exact zag)) (cp _ _ _) (by rw[List.length_append,List.length_append];have:=cl none (some 2);have:=cl (some 2) none;simp only[List.length_cons,List.length_nil];omega))) (by decide) (zbG (x:=.int (-1)) (by simp) zkq)
theorem zkd (hT:S.len<=T.len):wEs cf (.cons (.lst (.cons (.loc 3) (.cons (.loc 4) (.cons (.loc 5) .nil)))) (.cons (.tup .nil) (.cons (.con D.non) (.cons (.con (D.int 5)) (.cons (.con (D.str "crash")) .nil))))) (Et c w m (some (.ref l))) T fun ds T'=>Okd S m c T ds T':=by
 conv=>whnf
 refine zab (show 3<=16777216 by decide) ?_
 conv=>whnf
 refine zab (show 0<=16777216 by decide) ?_
 conv=>whnf
 refine⟨.push _ _,rfl,by simp,fun d hd=>?_⟩
 simp only[List.mem_cons,List.not_mem_nil,or_false] at hd
 rcases hd with rfl|rfl|rfl|rfl|rfl
 · exact .inr (.inr ⟨_,hT,rfl,zai _ _⟩)
 · exact zao (k:=3) (zbL (show 0<=1000 by decide) (fun x hx=>nomatch hx)) (by decide) rfl
 · exact zao (k:=0) zdN (by decide) rfl
 · exact zao (k:=0) zag (by decide) rfl
 · exact zao (k:=0) (ziW (by decide +kernel)) (by decide) rfl
theorem zmg:wEs cf (.cons (.tup (.cons (.loc 3) (.cons (.con (D.int 0)) (.cons (.loc 5) .nil)))) (.cons (.tup (.cons (.loc 3) (.cons (.con (D.int 31)) (.cons (.loc 5) .nil)))) (.cons (.tup (.cons (.loc 3) (.cons (.bin .Sub (.con (D.int 0)) (.loc 4)) (.cons (.loc 5) .nil)))) (.cons (.tup (.cons (.loc 3) (.cons (.con D.non) (.cons (.loc 5) .nil)))) .nil)))) (Et c w m none) T fun ds T'=>T'=T/\0<ds.length/\ds.length<=10/\∀d∈ds,El S m c T' d:=by
 conv=>whnf
 repeat (refine zab (show 3<=16777216 by decide) ?_;conv=>whnf)
 refine⟨rfl,by simp,by simp,fun d hd=>?_⟩
 simp only[List.mem_cons,List.not_mem_nil,or_false] at hd
 have ht:=hc.t0
 rcases hd with rfl|rfl|rfl|rfl
 · exact zao (k:=3) (pr3 zag zag (rs7 hc)) (by decide) (zbs rfl)
 · exact zao (k:=3) (pr3 zag zag (rs7 hc)) (by decide) (zbs rfl)
 · exact zao (k:=3) (pr3 zag zag (rs7 hc)) (by decide) (zbs (by simp[gt];omega))
 · exact zao (k:=3) (pr3 zag zdN (rs7 hc)) (by decide) (zbs rfl)
end
theorem zi5 {S T:R.St}(h:T.frz=S.frz++S.new):S.len<=T.len:=by
 unfold St.len;rw[h,List.length_append];omega
@[irreducible] noncomputable def Tq (S:R.St)(m:Int)(c:Cr)(f:Fl)(T:R.St):Prop:=∃d,f=.rt d/\T.frz=S.frz++S.new/\El S m c T d
theorem zek {n:Nat}{S:R.St}{m w:Int}{c:Cr}(hc:VC m c):W (exS (callF prog n) c_law_turned.body (zaB c_law_turned [crD c,.int w,.int m]) S.enter) (Tq S m c):=by
 show W (exS (callF prog n) (.asgT [3,4,5] (.loc 0) _) _ _) _
 rw[exS,zaa]
 have e0:evE (callF prog n) (.loc 0) (zaB c_law_turned [crD c,.int w,.int m]) S.enter=.ok (crD c) S.enter:=by simp only[evE];rfl
 have e1:asgG [3,4,5] (crD c) (zaB c_law_turned [crD c,.int w,.int m])=some (Et c w m none):=rfl
 rw[e0,W_ok,zaa,e1,zbj,W_ok,exS,zaa,evE,zaa]
 refine (zdw _ (zmg (S:=S) hc)).mono fun ds T' q=>?_
 obtain⟨e,h0,h10,he⟩:=q
 subst e
 unfold lay
 rw[if_pos (by omega),W_ok]
 have I:Tn S m c 10 (S.enter.push (.lst ds)) S.enter.len ds:=⟨rfl,zai _ _,fun d hd=>(he d hd).mono (.push _ _),h0,h10⟩
 revert I
 generalize S.enter.push (.lst ds)=T
 generalize S.enter.len=l
 clear h0 h10 he
 intro I
 refine zba I (by decide) (znJ hc) ?_
 clear I;clear l ds T;intro T l xs I
 refine zba I (by decide) (znH hc) ?_
 clear I;clear l xs T;intro T l xs I
 refine zba I (by decide) (zkc hc (zi5 I.fz)) ?_
 clear I;clear l xs T;intro T l xs I
 refine zba I (by decide) (zmh hc) ?_
 clear I;clear l xs T;intro T l xs I
 refine zba I (by decide) (zmi hc) ?_
 clear I;clear l xs T;intro T l xs I
 refine zba I (by decide) (znI hc) ?_
 clear I;clear l xs T;intro T l xs I
 refine zba I (by decide) (zkd hc (zi5 I.fz)) ?_
 clear I;clear l xs T;intro T l xs I
 refine wS_W _ ?_
 conv=>whnf
 refine zad I.at_ ?_
 conv=>whnf
 have hn:=I.ne
 refine zab (show (0:Int)<(xs.length:Nat) by omega) ?_
 conv=>whnf
 refine zad I.at_ ?_
 conv=>whnf
 obtain⟨j,ej,hj⟩:∃j:Nat,w % (xs.length:Int)=j/\j<xs.length:=⟨(w % (xs.length:Int)).toNat,by have:=Int.emod_nonneg w (show (xs.length:Int)≠0 by omega);omega,by have:=Int.emod_nonneg w (show (xs.length:Int)≠0 by omega);have:=Int.emod_lt_of_pos w (show (0:Int)<xs.length by omega);omega⟩
 rw[ej]
 refine zad (zcG (List.getElem?_eq_getElem hj)) ?_
 conv=>whnf
 unfold Tq
 exact⟨_,rfl,I.fz,I.el _ (List.getElem_mem hj)⟩
theorem zmM {m:Int}{T:R.St}{c:Cr}{l:Nat}(hc:VC m c)(h:T.get l=some (.lst (c.rs.map .int))):Bd m T (.tup [.int c.h,.int c.t,.ref l]):=by
 refine⟨rfl,⟨trivial,fun ds e x hx=>?_,fun ds e rs hr=>?_⟩,?_,?_⟩
 · cases e
   simp only[List.mem_cons,List.not_mem_nil,or_false] at hx
   rcases hx with rfl|rfl|rfl
   · trivial
   · trivial
   · exact⟨_,h⟩
 · cases e
   simp at hr
 · have:=zaw h
   simp[R.flat,this]
 · obtain⟨as,e⟩:=zbZ (f:=R.pd T 57) (xs:=c.rs.map D.int) fun x hx=>by
    obtain⟨r,_,rfl⟩:=List.mem_map.mp hx
    exact⟨_,rfl⟩
   refine⟨.tuple [.int c.h,.int c.t,.list as],?_⟩
   have e3:R.pd T 58 (.ref l)=some (.list as):=zbY h e
   show ([D.int c.h,.int c.t,.ref l].mapM (R.pd T 58)).map _=_
   rw[List.mapM_cons,List.mapM_cons,List.mapM_cons,e3];rfl
theorem zmN {m:Int}{T:R.St}{c:Cr}{l:Nat}(hc:VC m c)(h:T.get l=some (.lst [.int c.h,.int c.t,.tup (c.rs.map .int)])):Bd m T (.ref l):=by
 refine⟨rfl,⟨⟨_,h⟩,(fun ds e=>nomatch e),(fun ds e=>nomatch e)⟩,?_,?_⟩
 · have:=zaw h
   simp[R.flat,this]
 · obtain⟨as,e⟩:=zbZ (f:=R.pd T 58) (xs:=[.int c.h,.int c.t,.tup (c.rs.map .int)]) fun x hx=>by
    simp only[List.mem_cons,List.not_mem_nil,or_false] at hx
    rcases hx with rfl|rfl|rfl
    · exact⟨_,rfl⟩
    · exact⟨_,rfl⟩
    · exact (rs7 (k:=0) hc).pd T 58 (by decide)
   exact⟨_,zbY h e⟩
theorem zeX {n:Nat}{S:R.St}{m w:Int}{c:Cr}(hc:VC m c):W (app (callF prog (n+1)) 7 [crD c,.int w,.int m] S) fun d T=>El S m c T d/\Up S T/\S.len<=T.len/\T.frz=S.frz/\T.lk=S.lk:=by
 refine zhu (F:=c_law_turned) rfl rfl ?_
 refine (zek hc).mono fun f T q=>?_
 unfold Tq at q
 obtain⟨d,rfl,fz,h⟩:=q
 rcases h with h|⟨l,h1,rfl,h3⟩|⟨l,h1,rfl,h3⟩
 · exact zaj (h S).fl ⟨.inl h,.refl _,Nat.le_refl _,rfl,rfl⟩
 · have h0:R.flat S.len (.tup [.int c.h,.int c.t,.ref l])=false:=by simp[R.flat];omega
   unfold wFin
   rw[zfh]
   unfold zaU
   simp only[h0,Bool.false_eq_true,if_false,W_ok]
   refine⟨.inr (.inl ⟨l,h1,rfl,by rw[zbr fz];exact h3⟩),fun j o e=>?_,?_,by simp⟩
   · rw[zbr fz,get_frz fz (zaw e)];exact e
   · unfold St.len;simp
 · refine zcg h1 h3 ?_ ⟨.inr (.inr ⟨_,Nat.le_refl _,rfl,zai _ _⟩),.push _ _,by rw[plen];omega,rfl,rfl⟩
   simp
theorem El.bd {S T:R.St}{m:Int}{c:Cr}{d:D}(hc:VC m c)(h:El S m c T d):Bd m T d:=by
 rcases h with h|⟨l,_,rfl,h3⟩|⟨l,_,rfl,h3⟩
 · exact h T
 · exact zmM hc h3
 · exact zmN hc h3
noncomputable abbrev Eg (s:Nat)(m:Int)(l:Nat)(a b c d e f:Option D):Ev:=[some (.ref s),some (.int m),some (.ref l),a,b,c,d,e,f]
noncomputable def zfe:CS:=.expr (.mt .append (.loc 6) (.cons (.bin .Mod (.loc 7) (.loc 1)) .nil)) (.asg 7 (.bin .FloorDiv (.loc 7) (.loc 1)) .nil)
noncomputable def zko:CS:=.asg 4 (.bin .Mod (.loc 3) (.bin .Pow (.con (D.int 10)) (.con (D.int 64)))) (.asg 5 (.bin .Mod (.loc 4) (.loc 1)) (.asg 6 (.lst .nil) (.asg 7 (.bin .FloorDiv (.loc 4) (.con (D.int 1680))) (.forS [8] (.rng1 (.bin .Mod (.bin .FloorDiv (.loc 4) (.con (D.int 210))) (.con (D.int 8))))
 zfe (.ifS (.cmp .NotIn (.loc 5) (.mkL (.comp 1 [] [0] (.val (.loc 2)) (.tst (.con (D.bl true))) (.ix (.loc 0) (.con (D.int 0)))))) (.expr (.mt .append (.loc 2) (.cons (.tup (.cons (.loc 5) (.cons (.bin .Add (.con (D.int 1)) (.bin .Mod (.bin .FloorDiv (.loc 4) (.con (D.int 7))) (.con (D.int 30)))) (.cons (.mkT (.val (.loc 6))) .nil)))) .nil)) .nil) .nil .nil)))))
theorem zg5:c_law_good.body=.asg 2 (.lst .nil) (.forS [3] (.val (.loc 0)) zko (.ret (.loc 2) .nil)):=rfl
structure Gs (S:R.St) (m:Int) (s l:Nat) (T:R.St) (gl:List Cr):Prop where
 fz:T.frz.length<=l
 lk:T.lk=[s]
 hs:s<l
 at_:T.get l=some (.lst (gl.map crD))
 vc:∀c∈gl,VC m c
 nd:(gl.map (·.h)).Nodup
structure Gi (m:Int) (s l l1:Nat) (T0 T:R.St) (rs:List Int):Prop where
 fz:T.frz=T0.frz
 lk:T.lk=T0.lk
 ne:l<l1
 s1:s<l1
 f1:T0.frz.length<=l1
 at_:T.get l1=some (.lst (rs.map .int))
 keep:T.get l=T0.get l
 rs:∀r∈rs,0<=r/\r<m
theorem znO {cf:CF}{T0 T:R.St}{m z:Int}{s l l1:Nat}{a b c f:Option D}{rs:List Int}(hm:0<m)(hm7:m<=7)(hl:rs.length<=100)(h0:T0.lk=[s])(I:Gi m s l l1 T0 T rs) :
  W (exS cf zfe (Eg s m l a b c (some (.ref l1)) (some (.int z)) f) T) fun r U=>∃z',r=.nx (Eg s m l a b c (some (.ref l1)) (some (.int z')) f)/\Gi m s l l1 T0 U (rs++[z % m]):=by
 refine wS_W _ ?_
 conv=>whnf
 refine zad I.at_ ?_
 conv=>whnf
 refine zab hm ?_
 conv=>whnf
 refine zad I.at_ ?_
 conv=>whnf
 refine zab (by rw[List.length_append,List.length_map];simp only[List.length_cons,List.length_nil];omega) ?_
 obtain⟨U,e1,e2,e3,e4,e5,e6⟩:=za7 (S:=T) (l:=l1) (.lst (rs.map D.int++[.int (z % m)])) (by rw[I.fz];exact I.f1) (by rw[I.lk,h0];simp;have:=I.s1;omega)
 refine zad e1 ?_
 conv=>whnf
 refine zab ⟨hm,by omega⟩ ?_
 conv=>whnf
 refine⟨_,rfl,⟨e2.trans I.fz,e3.trans I.lk,I.ne,I.s1,I.f1,by rw[e6 (zaw I.at_),List.map_append];rfl,by rw[e5 l (by have:=I.ne;omega)];exact I.keep,fun r hr=>?_⟩⟩
 rcases List.mem_append.mp hr with hr|hr
 · exact I.rs r hr
 · rw[List.mem_singleton.mp hr]
   exact⟨Int.emod_nonneg _ (by omega),Int.emod_lt_of_pos _ hm⟩
theorem zkn {cf:CF}{T0:R.St}{m z:Int}{s l l1 k:Nat}{a b c f:Option D}(hm:0<m)(hm7:m<=7)(hk:k<=7)(h0:T0.lk=[s])(I:Gi m s l l1 T0 T0 []) :
  W (zaW [8] (exS cf zfe) ((List.range k).map fun (k:Nat)=>D.int k) (Eg s m l a b c (some (.ref l1)) (some (.int z)) f) T0) fun r U=>∃z' f' rs,r=.nx (Eg s m l a b c (some (.ref l1)) (some (.int z')) f')/\Gi m s l l1 T0 U rs/\rs.length<=7:=by
 refine (zbS (g:=[8]) (b:=exS cf zfe) (fun i δ U=>∃z' f' rs,δ=Eg s m l a b c (some (.ref l1)) (some (.int z')) f'/\Gi m s l l1 T0 U rs/\rs.length=i) (fun _ _=>False) ((List.range k).map fun (k:Nat)=>D.int k) 0 _ T0 ⟨z,f,[],rfl,I,rfl⟩ ?_).mono fun r U q=>?_
 · rintro i y δ U hy ⟨z',f',rs,rfl,J,hrs⟩
   have hi:=(List.getElem?_eq_some_iff.mp hy).1
   simp at hi
   refine⟨_,rfl,?_⟩
   refine (znO (rs:=rs) hm hm7 (by omega) h0 J).mono fun r V q=>?_
   obtain⟨z2,rfl,K⟩:=q
   exact⟨z2,_,_,rfl,K,by simp;omega⟩
 · cases r with
   |rt _=>exact q.elim
   |ex _=>exact q.elim
   | nx δ =>
     obtain⟨z',f',rs,rfl,J,hrs⟩:=q
     exact⟨z',f',rs,rfl,J,by simp at hrs;omega⟩
theorem zmI (gl:List Cr):(gl.map crD).map (fun x=>D.int (hdI x))=(gl.map (·.h)).map D.int:=by
 rw[List.map_map,List.map_map];rfl
@[irreducible] noncomputable def Gq (m:Int)(s l:Nat)(k:Nat)(r:Fl)(U:R.St):Prop:=∃a b c d e f gl,r=.nx (Eg s m l a b c d e f)/\Gs U m s l U gl/\gl.length<=k
theorem zg4 {n:Nat}{T:R.St}{m z:Int}{s l:Nat}{gl:List Cr}{b c d e f:Option D}(hm:0<m)(hm7:m<=7)(I:Gs T m s l T gl)(hl:gl.length<=1000) :
  W (exS (callF prog n) zko (Eg s m l (some (.int z)) b c d e f) T) (Gq m s l (gl.length+1)):=by
 refine wS_W _ ?_
 conv=>whnf
 refine zab (by decide) ?_
 conv=>whnf
 refine zab (by decide) ?_
 conv=>whnf
 refine zab hm ?_
 conv=>whnf
 refine zab (show 0<=16777216 by decide) ?_
 conv=>whnf
 refine zab (by decide) ?_
 conv=>whnf
 refine zab (by decide) ?_
 conv=>whnf
 refine zab (by decide) ?_
 generalize hx:z % 10 ^ 64=x
 have hz:z % 10 ^ Int.toNat 64=x:=hx
 rw[hz]
 conv=>whnf
 refine zab (by have:=Int.emod_nonneg (x / 210) (show (8:Int)≠0 by decide);have:=Int.emod_lt_of_pos (x / 210) (show (0:Int)<8 by decide);omega) ?_
 conv=>whnf
 refine za4 ?_
 have I0:Gi m s l T.len (T.push (.lst [])) (T.push (.lst [])) []:=by
  have:=zaw I.at_
  have:=I.hs
  refine⟨rfl,rfl,by omega,by omega,?_,zai T _,rfl,fun r hr=>nomatch hr⟩
  show T.frz.length<=T.len
  unfold St.len;omega
 refine (zkn (cf:=callF prog n) (T0:=T.push (.lst [])) (a:=some (.int z)) (b:=some (.int x)) (c:=some (.int (x % m))) (f:=f) (k:=(x / 210 % 8).toNat) (z:=x / 1680) hm hm7 (by have:=Int.emod_lt_of_pos (x / 210) (show (0:Int)<8 by decide);omega) I.lk I0).mono fun r U q=>?_
 obtain⟨z',f',rs,rfl,J,hrs⟩:=q
 have gU:U.get l=some (.lst (gl.map crD)):=by rw[J.keep];exact zat I.at_
 have eU:({U with lk:=(T.push (.lst [])).lk}:R.St)=U:=by rw[<-J.lk]
 have hlen:(gl.map crD).length<=16777216:=by rw[List.length_map];omega
 rw[eU]
 conv=>whnf
 refine zad gU ?_
 conv=>whnf
 refine za4 ?_
 refine W.of (zbo (fun x=>.int (hdI x)) (gl.map crD) _ (fun x _=>rfl) (fun x hx=>?_)) ?_
 · obtain⟨c,_,rfl⟩:=List.mem_map.mp hx
   rfl
 refine zab (by rw[List.length_map];exact hlen) ?_
 conv=>whnf
 refine zab (by rw[List.length_map];exact hlen) ?_
 conv=>whnf
 generalize hV:(R.St.push U (.lst ((gl.map crD).map fun x=>D.int (hdI x))))=V
 have hT:V.get U.len=some (.lst ((gl.map (·.h)).map D.int)):=by rw[<-hV,zai,zmI]
 have upV:Up U V:=by rw[<-hV];exact .push _ _
 have fV:V.frz=U.frz:=by rw[<-hV];rfl
 have lV:V.lk=U.lk:=by rw[<-hV];rfl
 have IV:Gs V m s l V gl:=⟨by rw[fV,J.fz];exact I.fz,by rw[lV,J.lk];exact I.lk,I.hs,upV _ _ gU,I.vc,I.nd⟩
 have J1:=upV _ _ J.at_
 clear hV
 refine zad (zgC hT _) ?_
 by_cases c:x % m∈gl.map (·.h)
 · rw[decide_eq_true c]
   conv=>whnf
   unfold Gq
   exact⟨_,_,_,_,_,_,gl,rfl,IV,by omega⟩
 · rw[decide_eq_false c]
   conv=>whnf
   refine zad IV.at_ ?_
   conv=>whnf
   refine zab (by decide) ?_
   conv=>whnf
   refine zab (by decide) ?_
   conv=>whnf
   refine zad J1 ?_
   conv=>whnf
   refine zab (show (rs.map D.int).length<=16777216 by rw[List.length_map];omega) ?_
   conv=>whnf
   refine zab (show 3<=16777216 by decide) ?_
   conv=>whnf
   refine zad IV.at_ ?_
   conv=>whnf
   refine zab (show (gl.map crD++[_]).length<=16777216 by rw[List.length_append,List.length_map];simp only[List.length_cons,List.length_nil];omega) ?_
   have hp:=IV.hs
   obtain⟨X,e1,e2,e3,e4,e5,e6⟩:=za7 (S:=V) (l:=l) (.lst (gl.map crD++[crD ⟨x % m,1+x / 7 % 30,rs⟩])) IV.fz (by rw[IV.lk];simp;omega)
   refine zad e1 ?_
   conv=>whnf
   unfold Gq
   refine⟨_,_,_,_,_,_,gl++[⟨x % m,1+x / 7 % 30,rs⟩],rfl,⟨by rw[e2];exact IV.fz,e3.trans IV.lk,IV.hs,by rw[e6 (zaw IV.at_),List.map_append];rfl,fun y hy=>?_,?_⟩,by simp⟩
   · rcases List.mem_append.mp hy with hy|hy
     · exact I.vc y hy
     · rw[List.mem_singleton.mp hy]
       have h1:=Int.emod_nonneg (x / 7) (show (30:Int)≠0 by decide)
       have h2:=Int.emod_lt_of_pos (x / 7) (show (0:Int)<30 by decide)
       exact⟨Int.emod_nonneg _ (by omega),Int.emod_lt_of_pos _ hm,by show 1<=1+x / 7 % 30;omega,by show 1+x / 7 % 30<=30;omega,J.rs,hrs⟩
   · rw[List.map_append,List.nodup_append]
     refine⟨I.nd,by simp,fun a ha b hb=>?_⟩
     have hb':b=x % m:=by simpa using hb
     intro e
     rw[hb'] at e
     rw[e] at ha
     exact c ha
theorem zlz {n:Nat}{S:R.St}{m:Int}{s:Nat}{zs:List Int}(hg:S.get s=some (.lst (zs.map .int)))(hz:zs.length<=900)(hm:0<m)(hm7:m<=7) :
  W (app (callF prog (n+1)) 6 [.ref s,.int m] S) fun d T=>∃gl:List Cr,(∀c∈gl,VC m c)/\(gl.map (·.h)).Nodup/\gl.length<=900/\d=.ref S.len/\T=S.push (.lst (gl.map crD)):=by
 refine zhu (F:=c_law_good) rfl rfl ?_
 rw[zg5]
 refine wS_W _ ?_
 conv=>whnf
 refine zab (by decide) ?_
 conv=>whnf
 have gE:(S.enter.push (.lst [])).get s=some (.lst (zs.map .int)):=zat (by rw[zaH];exact hg)
 have hs:=zaw hg
 refine zad gE ?_
 conv=>whnf
 refine za4 ?_
 have eT:({S.enter.push (.lst []) with lk:=lkOf (S.enter.push (.lst [])) (.ref s)++(S.enter.push (.lst [])).lk}:R.St)=⟨S.frz++S.new,[.lst []],[s]⟩:=rfl
 refine (zbS (g:=[3]) (b:=exS (callF prog n) zko) (fun i δ U=>∃a b c d e f gl,δ=Eg s m S.enter.len a b c d e f/\Gs U m s S.enter.len U gl/\gl.length<=i) (fun _ _=>False) (zs.map D.int) 0 (Eg s m S.enter.len none none none none none none) ⟨S.frz++S.new,[.lst []],[s]⟩ ⟨none,none,none,none,none,none,[],rfl,?_,by simp⟩ ?_).mono fun r U q=>?_
 · refine⟨?_,rfl,?_,?_,(fun c hc=>nomatch hc),by simp⟩
   · show (S.frz++S.new).length<=_
     rw[zb0,R.enter_len];exact Nat.le_refl _
   · rw[R.enter_len];exact hs
   · rw[R.enter_len,<-zb0];exact zio _ _ _
 · rintro i y δ U hy ⟨a,b,c,d,e,f,gl,rfl,I,hl⟩
   have hi:=(List.getElem?_eq_some_iff.mp hy).1
   simp at hi
   rw[List.getElem?_map] at hy
   cases hzi:zs[i]? with
   |none=>rw[hzi] at hy;cases hy
   | some z =>
     rw[hzi] at hy
     cases hy
     refine⟨_,rfl,?_⟩
     refine (zg4 (n:=n) (z:=z) hm hm7 I (by omega)).mono fun r V q=>?_
     unfold Gq at q
     obtain⟨a,b,c,d,e,f,gl',rfl,I',hl'⟩:=q
     exact⟨a,b,c,d,e,f,gl',rfl,I',by omega⟩
 · cases r with
   |rt _=>exact q.elim
   |ex _=>exact q.elim
   | nx δ =>
     obtain⟨a,b,c,d,e,f,gl,rfl,I,hl⟩:=q
     conv=>whnf
     simp only[Nat.zero_add,List.length_map] at hl
     refine zcg (by rw[R.enter_len];exact Nat.le_refl _) (ds:=gl.map crD) I.at_ ?_ ⟨gl,I.vc,I.nd,by omega,rfl,rfl⟩
     rw[za2]
     intro x hx
     obtain⟨c,hc,rfl⟩:=List.mem_map.mp hx
     exact (ziX (by have:=(I.vc c hc).len;omega)).flat _
theorem zce {m:Int}:∀(gl:List Cr) (hs:List Int) (k:Nat) (rest:List D),(∀c∈gl,VC m c)->(hs++gl.map (·.h)).Nodup->scan m hs k (gl.map crD++rest)=scan m (hs++gl.map (·.h)) (k+gl.length) rest
 | [],hs,k,rest,_,_=>by simp
 | c :: gl, hs, k, rest, hv, hn => by
   have hh:hdI (crD c)=c.h:=rfl
   have hc:crB m (crD c)=true/\hdI (crD c)∉hs:=⟨ziz (hv c (by simp)),fun q=>by
    rw[List.nodup_append] at hn
    exact hn.2.2 _ q c.h (by simp) hh⟩
   rw[List.map_cons,List.cons_append,scan,if_pos hc,zce gl _ _ rest (fun x hx=>hv x (by simp[hx])) (by rw[hh,List.append_assoc];exact hn),hh]
   simp only[List.append_assoc,List.map_cons,List.length_cons]
   congr 1
   omega
theorem zeV {m:Int}{hs:List Int}{k:Nat}{x:D}{rest:List D}(h:crB m x=false\/hdI x∈hs):scan m hs k (x::rest)=some k:=by
 rw[scan,if_neg]
 rintro⟨h1,h2⟩
 rcases h with h|h
 · rw[h] at h1;cases h1
 · exact h2 h
theorem zdB {m:Int}{gl:List Cr}(hv:∀c∈gl,VC m c)(hn:(gl.map (·.h)).Nodup):scan m [] 0 (gl.map crD)=none:=by
 have:=zce gl [] 0 [] hv (by simpa using hn)
 rw[List.append_nil] at this
 rw[this];rfl
theorem zhz {m:Int}{S:R.St}{gl:List Cr}(hv:∀c∈gl,VC m c)(hl:gl.length<=900):Gd S (gl.map crD):=by
 have p:∀x∈gl.map crD,pr 2 x:=fun x hx=>by
  obtain⟨c,hc,rfl⟩:=List.mem_map.mp hx
  exact ziX (by have:=(hv c hc).len;omega)
 exact⟨fun d hd=>(p d hd).tyy S,by rw[za2];exact fun d hd=>(p d hd).flat _,zbZ fun x hx=>(p x hx).pd S 59 (by decide),by rw[List.length_map];omega⟩
noncomputable def Ok (t:Nat)(T:R.St)(d:D):Prop:=pr 3 d\/∃S0 m c,VC m c/\t<S0.len/\El S0 m c T d
theorem Ok.mono {t:Nat}{T U:R.St}{d:D}(h:Ok t T d)(u:∀l o,t<l->T.get l=some o->U.get l=some o):Ok t U d:=by
 rcases h with h|⟨S0,m,c,hc,ht,h⟩
 · exact .inl h
 · refine .inr ⟨S0,m,c,hc,ht,?_⟩
   rcases h with h|⟨l,h1,h2,h3⟩|⟨l,h1,h2,h3⟩
   · exact .inl h
   · exact .inr (.inl ⟨l,h1,h2,u _ _ (by omega) h3⟩)
   · exact .inr (.inr ⟨l,h1,h2,u _ _ (by omega) h3⟩)
theorem zm0 {t:Nat}{T:R.St}{tl:List D}(h:∀d∈tl,Ok t T d)(hl:tl.length<=1000):Gd T tl:=by
 have p:∀d∈tl,Tyy T d/\flat T.len d=true/\∃a,R.pd T 59 d=some a:=fun d hd=>by
  rcases h d hd with h|⟨S0,m,c,hc,ht,h⟩
  · exact⟨h.tyy T,h.flat _,h.pd T 59 (by decide)⟩
  · have b:=h.bd hc
    exact⟨b.ty,b.fl,b.pd⟩
 exact⟨fun d hd=>(p d hd).1,by rw[za2];exact fun d hd=>(p d hd).2.1,zbZ fun d hd=>(p d hd).2.2,hl⟩
theorem zhy {t:Nat}{T:R.St}{m:Int}{gl:List Cr}(hv:∀c∈gl,VC m c):∀d∈gl.map crD,Ok t T d:=fun d hd=>by
 obtain⟨c,hc,rfl⟩:=List.mem_map.mp hd
 exact .inl (pr3 zag zag (rs7 (hv c hc)))
noncomputable abbrev Ew (ns:List Int)(m:Int)(g t:Nat)(p:D)(z y:Int)(a h:Option D):Ev:=[some (.fix (ns.map .int)),some (.int m),some (.ref g),some (.ref t),some p,some (.int z),some (.int y),a,h]
@[irreducible] noncomputable def R3:CS:=.asg 8 (.mkL (.val (.loc 3))) (.ifS (.or (.nt (.tst (.call 9 0 (.cons (.call 8 0 (.cons (.loc 1) (.cons (.loc 8) .nil))) (.cons (.loc 4) .nil))))) (.cmp .NotEq (.loc 8) (.loc 3))) (.ret (.con (D.bl false)) .nil) .nil (.ret (.and (.call 9 0 (.cons (.call 8 0 (.cons (.loc 1) (.cons (.loc 3) .nil))) (.cons (.loc 4) .nil))) (.call 10 0 (.cons (.loc 1) (.cons (.loc 2) .nil)))) .nil))
theorem ph3 {S:R.St}{ns:List Int}{m z y:Int}{g t p:Nat}{a h:Option D}{gl:List Cr}{tl:List D}{Q:Fl->R.St->Prop}(hQ:∀T,Q (.rt (.bl true)) T)(hg:S.get g=some (.lst (gl.map crD)))(ht:S.get t=some (.lst tl))(hv:∀c∈gl,VC m c)(hn:(gl.map (·.h)).Nodup)(hl:gl.length<=900)(hd:Gd S tl)(hs:scan m [] 0 tl=some p) :
  wS (callF prog 5) R3 (Ew ns m g t (.int p) z y a h) S Q:=by
 unfold R3
 have hl1:=hd.len
 have hl2:tl.length<=16777216:=by omega
 conv=>whnf
 refine zad ht ?_
 conv=>whnf
 refine zab hl2 ?_
 conv=>whnf
 have d1:=hd.push (.lst tl)
 refine zdu ((zeY (n:=0) (ds:=tl) (zai _ _) d1.ty hl2 hs).mono fun d T q=>?_)
 obtain⟨e,rfl,h1,u,lT⟩:=q
 conv=>whnf
 refine zaE (zdC (n:=4) h1) ?_
 conv=>whnf
 have d2:=d1.mono u lT
 obtain⟨xs,ex⟩:=d2.pd
 refine zad (zcD (u _ _ (zai _ _)) (u _ _ (zat ht)) ex) ?_
 conv=>whnf
 refine zdu ((zeY (n:=0) (ds:=tl) (u _ _ (zat ht)) d2.ty hl2 hs).mono fun d V q=>?_)
 obtain⟨e',rfl,h2,v,lV⟩:=q
 conv=>whnf
 refine zaE (zdC (n:=4) h2) ?_
 conv=>whnf
 refine zaE (ziS (n:=0) (ds:=gl.map crD) (v _ _ (u _ _ (zat hg))) (zhz hv hl) (zdB hv hn)) ?_
 conv=>whnf
 exact hQ _
@[irreducible] noncomputable def R2:CS:=.ifS (.and (.cmp .IsNot (.loc 4) (.con D.non)) (.cmp .Eq (.bin .Mod (.loc 6) (.con (D.int 2))) (.con (D.int 1)))) (.expr (.mt .append (.loc 3) (.cons (.call 7 0 (.cons (.ix (.loc 2) (.con (D.int 0))) (.cons (.bin .FloorDiv (.loc 6) (.con (D.int 60))) (.cons (.loc 1) .nil)))) .nil)) .nil) .nil (.ifS (.cmp .Is (.loc 4) (.con D.non)) (.ret (.call 10 0 (.cons (.loc 1) (.cons (.loc 2) .nil))) .nil) .nil R3)
structure Lw (S:R.St) (m:Int) (g t:Nat) (gl:List Cr):Prop where
 fz:S.frz=[]
 lk:S.lk=[]
 hg:S.get g=some (.lst (gl.map crD))
 ne:g≠t
 hv:∀c∈gl,VC m c
 hn:(gl.map (·.h)).Nodup
 hl:gl.length<=900
theorem ph2n {S:R.St}{ns:List Int}{m z y:Int}{g t:Nat}{a h:Option D}{gl:List Cr}{Q:Fl->R.St->Prop}(hQ:∀T,Q (.rt (.bl true)) T)(L:Lw S m g t gl) :
  wS (callF prog 5) R2 (Ew ns m g t .non z y a h) S Q:=by
 unfold R2
 conv=>whnf
 refine zaE (ziS (n:=0) (ds:=gl.map crD) L.hg (zhz L.hv L.hl) (zdB L.hv L.hn)) ?_
 conv=>whnf
 exact hQ _
theorem ph2 {S:R.St}{ns:List Int}{m z y:Int}{g t p:Nat}{a h:Option D}{gl:List Cr}{tl:List D}{Q:Fl->R.St->Prop}(hQ:∀T,Q (.rt (.bl true)) T)(L:Lw S m g t gl)(h0:0<gl.length)(ht:S.get t=some (.lst tl))(hd:∀d∈tl,Ok t S d)(hl:tl.length<=950)(hs:∀rest,scan m [] 0 (tl++rest)=some p) :
  wS (callF prog 5) R2 (Ew ns m g t (.int p) z y a h) S Q:=by
 unfold R2
 conv=>whnf
 refine zab (by decide) ?_
 conv=>whnf
 refine zdv (fun c=>?_) (fun c=>?_)
 · conv=>whnf
   refine zad ht ?_
   conv=>whnf
   refine zad L.hg ?_
   conv=>whnf
   have g0:(gl.map crD)[0]?=some (crD gl[0]):=by simp[h0]
   refine zad (zcG (k:=0) g0) ?_
   conv=>whnf
   refine zab (by decide) ?_
   conv=>whnf
   refine zdu ((zeX (n:=4) (w:=y / 60) (L.hv _ (List.getElem_mem h0))).mono fun d T q=>?_)
   obtain⟨b,u,lT,fT,kT⟩:=q
   conv=>whnf
   refine zad (u _ _ ht) ?_
   conv=>whnf
   refine zab (by rw[List.length_append];simp only[List.length_cons,List.length_nil];omega) ?_
   obtain⟨U,e1,e2,e3,e4,e5,e6⟩:=za7 (S:=T) (l:=t) (.lst (tl++[d])) (by rw[fT,L.fz];exact Nat.zero_le _) (by rw[kT,L.lk];rfl)
   refine zad e1 ?_
   conv=>whnf
   refine ph3 hQ (gl:=gl) (tl:=tl++[d]) (by rw[e5 g L.ne];exact u _ _ L.hg) (e6 (zaw (u _ _ ht))) L.hv L.hn L.hl ?_ (hs _)
   refine zm0 (t:=t) (fun x hx=>?_) (by rw[List.length_append];simp only[List.length_cons,List.length_nil];omega)
   have w:∀l o,t<l->T.get l=some o->U.get l=some o:=fun l o hlt e=>by rw[e5 l (by omega)];exact e
   rcases List.mem_append.mp hx with hx|hx
   · exact ((hd x hx).mono fun l o _ e=>u l o e).mono w
   · rw[List.mem_singleton.mp hx]
     exact Ok.mono (.inr ⟨S,m,_,L.hv _ (List.getElem_mem h0),zaw ht,b⟩) w
 · conv=>whnf
   refine ph3 hQ L.hg ht L.hv L.hn L.hl (zm0 hd (by omega)) (by have:=hs [];rwa [List.append_nil] at this)
@[irreducible] noncomputable def R0:CS:=.ifS (.and (.cmp .Eq (.bin .Mod (.loc 5) (.con (D.int 3))) (.con (D.int 1))) (.cmp .Gt (.bi .len (.cons (.loc 2) .nil)) (.con (D.int 0)))) (.asg 4 (.bin .Mod (.bin .FloorDiv (.loc 5) (.con (D.int 3))) (.bi .len (.cons (.loc 2) .nil))) (.setIx (.loc 3) (.loc 4) (.call 7 0 (.cons (.ix (.loc 2) (.loc 4)) (.cons (.bin .FloorDiv (.loc 6) (.con (D.int 2))) (.cons (.loc 1) .nil)))) .nil)) .nil (.ifS (.and (.cmp .Eq (.bin .Mod (.loc 5) (.con (D.int 3))) (.con (D.int 2))) (.cmp .Gt (.bi .len (.cons (.loc 2) .nil)) (.con (D.int 0)))) (.asg 7 (.bin .Mod (.bin .FloorDiv (.loc 5) (.con (D.int 3))) (.bi .len (.cons (.loc 2) .nil))) (.asg 4 (.bin .Add (.bin .Add (.loc 7) (.con (D.int 1))) (.bin .Mod (.bin .FloorDiv (.loc 5) (.con (D.int 21))) (.bin .Sub (.bi .len (.cons (.loc 2) .nil)) (.loc 7)))) (.expr (.insL (.loc 3) (.loc 4) (.tup (.cons (.ix (.ix (.loc 2) (.loc 7)) (.con (D.int 0))) (.cons (.bin .Add (.con (D.int 1)) (.bin .Mod (.bin .FloorDiv (.loc 6) (.con (D.int 2))) (.con (D.int 30)))) (.cons (.tup .nil) .nil))))) .nil))) .nil R2)
theorem zey (x:Int){k:Nat}(hk:0<k):∃j:Nat,x % (k:Int)=j/\j<k:=⟨(x % (k:Int)).toNat,by have:=Int.emod_nonneg x (show (k:Int)≠0 by omega);omega,by have:=Int.emod_nonneg x (show (k:Int)≠0 by omega);have:=Int.emod_lt_of_pos x (show (0:Int)<k by omega);omega⟩
theorem zcU (gl:List Cr):((gl.map crD).length:Int)=(gl.length:Nat):=by rw[List.length_map]
theorem zhI {m:Int}{gl:List Cr}{p:Nat}{x:D}(hv:∀c∈gl,VC m c)(hn:(gl.map (·.h)).Nodup)(hp:p<gl.length)(hx:crB m x=false)(rest:List D):scan m [] 0 ((gl.map crD).set p x++rest)=some p:=by
 rw[List.set_eq_take_append_cons_drop,if_pos (by rw[List.length_map];exact hp),<-List.map_take,List.append_assoc,zce (gl.take p) [] 0 _ (fun c hc=>hv c (List.mem_of_mem_take hc)) ?_,List.cons_append,zeV (.inl hx),Nat.zero_add,List.length_take]
 · rw[Nat.min_eq_left (by omega)]
 · rw[List.nil_append,List.map_take]
   exact hn.sublist (List.take_sublist _ _)
theorem zhJ {m:Int}{gl:List Cr}{p i:Nat}{x:D}(hv:∀c∈gl,VC m c)(hn:(gl.map (·.h)).Nodup)(hp:p<=gl.length)(hi:i<p)(hx:hdI x=(gl[i]'(by omega)).h)(rest:List D):scan m [] 0 ((gl.map crD).take p++x::(gl.map crD).drop p++rest)=some p:=by
 rw[<-List.map_take,List.append_assoc,zce (gl.take p) [] 0 _ (fun c hc=>hv c (List.mem_of_mem_take hc)) ?_,List.cons_append,zeV (.inr ?_),Nat.zero_add,List.length_take]
 · rw[Nat.min_eq_left (by omega)]
 · rw[List.nil_append,hx]
   refine List.mem_map.mpr ⟨gl[i]'(by omega),?_,rfl⟩
   exact List.mem_take_iff_getElem.mpr ⟨i,by omega,rfl⟩
 · rw[List.nil_append,List.map_take]
   exact hn.sublist (List.take_sublist _ _)
theorem ph0 {S:R.St}{ns:List Int}{m z y:Int}{g t:Nat}{a h:Option D}{gl:List Cr}{Q:Fl->R.St->Prop}(hQ:∀T,Q (.rt (.bl true)) T)(L:Lw S m g t gl)(ht:S.get t=some (.lst (gl.map crD))) :
  wS (callF prog 5) R0 (Ew ns m g t .non z y a h) S Q:=by
 unfold R0
 have hl:=L.hl
 conv=>whnf
 refine zab (by decide) ?_
 conv=>whnf
 refine zdv (fun c=>?_) (fun c=>?_)
 · conv=>whnf
   refine zad L.hg ?_
   conv=>whnf
   refine zdv (fun c0=>?_) (fun c0=>?_)
   · have h0:0<gl.length:=by simpa using c0
     conv=>whnf
     refine zab (by decide) ?_
     conv=>whnf
     refine zad L.hg ?_
     conv=>whnf
     refine zab (by rw[List.length_map];omega) ?_
     conv=>whnf
     refine zad L.hg ?_
     obtain⟨p,ep,hp⟩:=zey (z / 3) h0
     have ep':z / 3 % ((gl.map crD).length:Int)=p:=by rw[zcU];exact ep
     rw[ep']
     conv=>whnf
     have gp:(gl.map crD)[p]?=some (crD gl[p]):=by simp[hp]
     refine zad (zcG gp) ?_
     conv=>whnf
     refine zab (by decide) ?_
     conv=>whnf
     refine zdu ((zeX (n:=4) (w:=y / 2) (L.hv _ (List.getElem_mem hp))).mono fun d T q=>?_)
     obtain⟨b,u,lT,fT,kT⟩:=q
     conv=>whnf
     obtain⟨U,e1,e2,e3,e4,e5,e6⟩:=za7 (S:=T) (l:=t) (.lst ((gl.map crD).set p d)) (by rw[fT,L.fz];exact Nat.zero_le _) (by rw[kT,L.lk];rfl)
     have ed:dPut T (.ref t) (.int p) d=some U:=by
      unfold dPut
      dsimp only
      rw[u _ _ ht]
      have ei:ixN (gl.map crD).length (p:Int)=some p:=by
       unfold ixN
       rw[if_pos (by omega),if_pos (by rw[zcU];omega)]
       simp
      simp only[zcd,Option.bind_some,ei]
      exact e1
     refine zad ed ?_
     conv=>whnf
     refine zab (by decide) ?_
     conv=>whnf
     refine zf8 (decide_eq_false (by omega)) ?_
     conv=>whnf
     have w:∀l o,t<l->T.get l=some o->U.get l=some o:=fun l o hlt e=>by rw[e5 l (by omega)];exact e
     refine ph2 hQ (gl:=gl) (tl:=(gl.map crD).set p d) ⟨by rw[e2,fT];exact L.fz,by rw[e3,kT];exact L.lk,by rw[e5 g L.ne];exact u _ _ L.hg,L.ne,L.hv,L.hn,L.hl⟩ h0 (e6 (zaw (u _ _ ht))) (fun x hx=>?_) (by rw[List.length_set,List.length_map];omega) (fun rest=>?_)
     · rcases List.mem_or_eq_of_mem_set hx with hx|rfl
       · exact zhy L.hv x hx
       · exact Ok.mono (.inr ⟨S,m,_,L.hv _ (List.getElem_mem hp),zaw ht,b⟩) w
     · exact zhI L.hv L.hn hp (El.bd (L.hv _ (List.getElem_mem hp)) b).bad rest
   · conv=>whnf
     refine zab (by decide) ?_
     conv=>whnf
     refine zf8 (decide_eq_false (by omega)) ?_
     conv=>whnf
     exact ph2n hQ L
 · conv=>whnf
   refine zab (by decide) ?_
   conv=>whnf
   refine zdv (fun c2=>?_) (fun c2=>?_)
   · conv=>whnf
     refine zad L.hg ?_
     conv=>whnf
     refine zdv (fun c0=>?_) (fun c0=>?_)
     · have h0:0<gl.length:=by simpa using c0
       conv=>whnf
       refine zab (by decide) ?_
       conv=>whnf
       refine zad L.hg ?_
       conv=>whnf
       refine zab (by rw[List.length_map];omega) ?_
       obtain⟨i,ei,hi⟩:=zey (z / 3) h0
       have ei':z / 3 % ((gl.map crD).length:Int)=i:=by rw[zcU];exact ei
       rw[ei']
       conv=>whnf
       refine zab (by decide) ?_
       conv=>whnf
       refine zad L.hg ?_
       conv=>whnf
       refine zab (by rw[zcU];omega) ?_
       obtain⟨j,ej,hj⟩:=zey (z / 21) (k:=gl.length - i) (by omega)
       have ej':z / 21 % (((gl.map crD).length:Int) - (i:Int))=j:=by rw[zcU,show ((gl.length:Nat):Int) - (i:Int)=((gl.length - i:Nat):Int) by omega];exact ej
       rw[ej']
       conv=>whnf
       refine zad ht ?_
       conv=>whnf
       refine zad L.hg ?_
       conv=>whnf
       have gi:(gl.map crD)[i]?=some (crD gl[i]):=by simp[hi]
       refine zad (zcG gi) ?_
       conv=>whnf
       refine zad zkM ?_
       conv=>whnf
       refine zab (by decide) ?_
       conv=>whnf
       refine zab (by decide) ?_
       conv=>whnf
       refine zab (show 0<=16777216 by decide) ?_
       conv=>whnf
       refine zab (show 3<=16777216 by decide) ?_
       conv=>whnf
       have eq:(i:Int)+1+(j:Int)=((i+1+j:Nat):Int):=by omega
       rw[eq]
       generalize hx:D.tup [D.int gl[i].h,D.int (1+y / 2 % 30),D.tup []]=x
       have hx':hdI x=gl[i].h:=by rw[<-hx];rfl
       generalize hp:i+1+j=p
       obtain⟨U,e1,e2,e3,e4,e5,e6⟩:=za7 (S:=S) (l:=t) (.lst ((gl.map crD).take p++x::(gl.map crD).drop p)) (by rw[L.fz];exact Nat.zero_le _) (by rw[L.lk];rfl)
       have hlen:((gl.map crD).take p++x::(gl.map crD).drop p).length=gl.length+1:=by
        rw[List.length_append,List.length_cons,List.length_take,List.length_drop,List.length_map];omega
       have ed:zcM S (.ref t) (.int (p:Nat)) x=.ok .non U:=by
        unfold zcM
        dsimp only
        rw[ht]
        dsimp only
        rw[if_pos ⟨by omega,by rw[zcU];omega⟩,show (p:Int).toNat=p by omega]
        unfold wr
        rw[if_pos (by rw[hlen];omega),e1]
       refine zaE ed ?_
       conv=>whnf
       refine ph2 hQ (gl:=gl) (tl:=(gl.map crD).take p++x::(gl.map crD).drop p) ⟨e2.trans L.fz,e3.trans L.lk,by rw[e5 g L.ne];exact L.hg,L.ne,L.hv,L.hn,L.hl⟩ h0 (e6 (zaw ht)) (fun y' hy=>?_) (by rw[hlen];omega) (fun rest=>?_)
       · rcases List.mem_append.mp hy with hy|hy
         · exact zhy L.hv _ (List.mem_of_mem_take hy)
         · rcases List.mem_cons.mp hy with rfl|hy
           · rw[<-hx]
             exact .inl (pr3 zag zag (zbL (show 0<=1000 by decide) (fun x hx=>nomatch hx)))
           · exact zhy L.hv _ (List.mem_of_mem_drop hy)
       · exact zhJ (i:=i) L.hv L.hn (by omega) (by omega) hx' rest
     · conv=>whnf
       exact ph2n hQ L
   · conv=>whnf
     exact ph2n hQ L
theorem zgk {n:Nat}{S:R.St}{ns:List Int}{k:Nat}:app (callF prog (n+1)) 5 [.fix (ns.map .int),.int k] S=.ok (.int (cellZ ns k)) S:=by
 refine zc4 (F:=zbR) rfl rfl ?_
 conv=>whnf
 refine zdv (fun c=>?_) (fun c=>?_)
 · have c:k<ns.length:=by simpa using c
   conv=>whnf
   refine zad (zcG (x:=D.int ns[k]) (by simp[c])) ?_
   conv=>whnf
   refine zab (by decide) ?_
   conv=>whnf
   refine zab (by decide) ?_
   conv=>whnf
   refine zaj rfl ⟨?_,rfl⟩
   unfold cellZ
   rw[List.getElem?_eq_getElem c]
   rfl
 · have c:¬k<ns.length:=by simpa using c
   conv=>whnf
   refine zaj rfl ⟨?_,rfl⟩
   unfold cellZ
   rw[List.getElem?_eq_none (by omega)]
theorem zie:c_law.body=.asg 1 (.bin .Add (.con (D.int 1)) (.bin .Mod (.call 5 0 (.cons (.loc 0) (.cons (.con (D.int 0)) .nil))) (.con (D.int 7)))) (.asg 2 (.call 6 0 (.cons (.sl (.loc 0) true true (.con (D.int 4)) (.con (D.int 62))) (.cons (.loc 1) .nil))) (.asg 3 (.mkL (.val (.loc 2))) (.asg 4 (.con D.non) (.asg 5 (.call 5 0 (.cons (.loc 0) (.cons (.con (D.int 1)) .nil))) (.asg 6 (.call 5 0 (.cons (.loc 0) (.cons (.con (D.int 2)) .nil)))
 R0))))):=by unfold R0 R2 R3;rfl
theorem law_true (ns:List Int)(h:ns.length<=63):W (callF prog 6 11 [.fix (ns.map .int)] ⟨[],[],[]⟩) fun d _=>d=.bl true:=by
 refine zmJ (F:=c_law) rfl rfl ?_
 rw[zie]
 conv=>whnf
 refine zaE (zgk (n:=4) (k:=0)) ?_
 conv=>whnf
 refine zab (by decide) ?_
 conv=>whnf
 generalize em:1+cellZ ns 0 % 7=m
 have hm:0<m/\m<=7:=by
  have h1:=Int.emod_nonneg (cellZ ns 0) (show (7:Int)≠0 by decide)
  have h2:=Int.emod_lt_of_pos (cellZ ns 0) (show (0:Int)<7 by decide)
  omega
 have hc:(R.cut (ns.map D.int) (some 4) (some 62)).length<=63:=Nat.le_trans (zja _ _ _) (by simpa using h)
 refine zab (Nat.le_trans hc (by decide)) ?_
 conv=>whnf
 rw[zkC] at hc⊢
 rw[List.length_map] at hc
 refine zdu ((zlz (n:=4) (zs:=R.cut ns (some 4) (some 62)) (zai _ _) (by omega) hm.1 hm.2).mono fun d T q=>?_)
 obtain⟨gl,hv,hn,hl,rfl,rfl⟩:=q
 conv=>whnf
 refine zad (zai _ _) ?_
 conv=>whnf
 refine zab (show (gl.map crD).length<=16777216 by rw[List.length_map];omega) ?_
 conv=>whnf
 refine zaE (zgk (n:=4) (k:=1)) ?_
 conv=>whnf
 refine zaE (zgk (n:=4) (k:=2)) ?_
 conv=>whnf
 refine ph0 (gl:=gl) (fun T=>rfl) ⟨rfl,rfl,zat (zai _ _),?_,hv,hn,hl⟩ (zai _ _)
 exact Nat.ne_of_lt (Nat.lt_of_lt_of_eq (Nat.lt_succ_self _) (plen _ _).symm)
end
section
open PySem R L2
end
end K61
open PySem PySem.W PyProof.Rows
set_option maxRecDepth 100000 in
set_option maxHeartbeats 0 in
theorem PySem.Challenge.cw_traitorround_k61_crashes_told_holds : PySem.Challenge.rw_traitorround_k61_crashes_told.Holds := by
 w_on;o_law;k_head;(case hw=>w_witness2)
 k_fill
 refine L2.walk_of (l:=PySem.Challenge.rw_traitorround_k61_crashes_told) (n:=63) (k:=13) (x:="_law_script") (CX:=fun _=>L2.CX0) (sp:=fun w=>R.spF _ (R.callF K61.prog 6) 11) rfl (by decide) rfl ⟨rfl,by decide,by decide⟩ (fun w h Y=>PySem.W.kIn_of Y) ?F (fun _ _ a ns hl hO hS=>R.law_sp rfl hO hS (K61.law_true ns hl)) fun _ _ _ _ _ z=>z
 case F=>
  intro w mg fa h KX G hmg
  apply R.all_of0 (n:=5) KX G hmg K61.ok_law (Nat.le_refl _)
  · (repeat' (first|exact trivial|apply R.AllAtG.cons|apply R.AllInG.cons))
  · (repeat' (first|exact trivial|apply R.AllAtG.cons|apply R.AllInG.cons))<;>k_is
  · (repeat' (first|exact trivial|apply R.AllAtG.cons|apply R.AllInG.cons))<;>(apply R.coOk;k_is)
  · intro base
    (repeat' (first|exact trivial|apply R.AllAtG.cons|apply R.AllInG.cons))
    · apply R.dOk KX G K61.ok_is_whole<;>k_is
    · apply R.dOk KX G K61.ok_is_hand<;>k_is
    · apply R.dOk KX G K61.ok_is_turn<;>k_is
    · apply R.dOk KX G K61.ok_crashes_of<;>k_is
    · apply R.dOk KX G K61.ok_is_crash<;>k_is
    · apply R.dOk KX G K61.ok_law_cell_at<;>k_is
    · apply R.dOk KX G K61.ok_law_good<;>k_is
    · apply R.dOk KX G K61.ok_law_turned<;>k_is
    · apply R.dOk KX G K61.ok_law_caught<;>k_is
    · apply R.dOk KX G K61.ok_law_refusal<;>k_is
    · apply R.dOk KX G K61.ok_law_told<;>k_is
    · apply R.dOk KX G K61.ok_law<;>k_is
  · intro hc
    (repeat' (first|exact trivial|apply R.AllAtG.cons|apply R.AllInG.cons))
  · (repeat' (first|exact trivial|apply R.AllAtG.cons|apply R.AllInG.cons))
  · (repeat' (first|exact trivial|apply R.AllAtG.cons|apply R.AllInG.cons))
  · (repeat' (first|exact trivial|apply R.AllAtG.cons|apply R.AllInG.cons))
  · decide +kernel
  · (repeat' (first|exact trivial|apply R.AllAtG.cons|apply R.AllInG.cons))<;>apply R.XGet.mk<;>k_is
  · (repeat' (first|exact trivial|apply R.AllAtG.cons|apply R.AllInG.cons))<;>apply R.IsaOk.mk<;>k_is
  · (repeat' (first|exact trivial|apply R.AllAtG.cons|apply R.AllInG.cons))
    · apply R.xcOk (c:=3) KX G K61.ox_NoLetter rfl<;>first|k_is|with_unfolding_all rfl
  · (repeat' (first|exact trivial|apply R.AllAtG.cons|apply R.AllInG.cons))<;>(repeat' (first|exact trivial|apply R.AllAtG.cons|apply R.AllInG.cons))<;>k_is
  · (repeat' (first|exact trivial|apply R.AllAtG.cons|apply R.AllInG.cons))
    · apply R.xisOk KX G<;>first|k_is|((repeat' (first|exact trivial|apply R.AllAtG.cons|apply R.AllInG.cons))<;>first|k_is|with_unfolding_all rfl)
    · apply R.xisOk KX G<;>first|k_is|((repeat' (first|exact trivial|apply R.AllAtG.cons|apply R.AllInG.cons))<;>first|k_is|with_unfolding_all rfl)
    · apply R.xisOk KX G<;>first|k_is|((repeat' (first|exact trivial|apply R.AllAtG.cons|apply R.AllInG.cons))<;>first|k_is|with_unfolding_all rfl)
    · apply R.xisOk KX G<;>first|k_is|((repeat' (first|exact trivial|apply R.AllAtG.cons|apply R.AllInG.cons))<;>first|k_is|with_unfolding_all rfl)
    · apply R.xisOk KX G<;>first|k_is|((repeat' (first|exact trivial|apply R.AllAtG.cons|apply R.AllInG.cons))<;>first|k_is|with_unfolding_all rfl)
    · apply R.xisOk KX G<;>first|k_is|((repeat' (first|exact trivial|apply R.AllAtG.cons|apply R.AllInG.cons))<;>first|k_is|with_unfolding_all rfl)
  · (repeat' (first|exact trivial|apply R.AllAtG.cons|apply R.AllInG.cons))
    · apply R.xibOk KX G (by decide) rfl<;>first|k_is|((repeat' (first|exact trivial|apply R.AllAtG.cons|apply R.AllInG.cons))<;>first|k_is|with_unfolding_all rfl)
  · (repeat' (first|exact trivial|apply R.AllAtG.cons|apply R.AllInG.cons))
    · apply R.xtrOk KX G<;>first|k_is|((repeat' (first|exact trivial|apply R.AllAtG.cons|apply R.AllInG.cons))<;>first|k_is|with_unfolding_all rfl)
  all_goals k_is
end

import PyProof.Rows.All
import Wide.All
import OpenK.AllK
import Wide.FinOn
import Lean
import PyProof.EqAt
import PyProof.EqKinds
import PyProof.TupleCall
import PyProof.P3Statements
import PyProof.Dict
import PySem.Syntax
import PyProof.StationsW
import PyProof.ExcClass3
import PyProof.ExcInit
import PyProof.ExcAttrAll.ValueError
import OpenK.KMake
import OpenK.KWalk
import KE.KIsAll
import OpenK.KOwn
import KE.KTryMore
import PyProof.RulesAs
import PyProof.NsDelKeeps
import PySem.Challenge.RW_traitorround_k22_settings_refused
set_option Elab.async false
set_option linter.all false
set_option maxRecDepth 100000
set_option bootstrap.genMatcherCode false
open Bool (and_eq_true not_eq_true' or_eq_true)
open Nat (le_of_eq le_of_lt le_refl le_succ le_trans lt_irrefl lt_of_lt_of_le lt_succ_of_lt lt_succ_self lt_trans ne_of_gt ne_of_lt zero_add zero_le)
open List (Pairwise all_cons all_eq_true any_cons append_nil getElem?_append_left getElem?_append_right getElem?_map getElem?_set_ne getElem?_set_self isEmpty_iff length_append length_cons length_map length_mapIdx length_replicate length_take lookup_cons mapM_cons map_cons map_map mem_append mem_append_left mem_append_right mem_cons mem_cons_of_mem mem_cons_self mem_map mem_of_getElem? mem_range mem_singleton nodup_append nodup_cons not_mem_nil pairwise_cons prefix_append prefix_refl size_toArray)
open PySem.W (callWith_K codeIn emptyDict findCls fnOf instObj isFn keepIn kia_one kitOne kitx_dict kitx_list lookIn makesIn methodObj mg_of nsIn plainGet plainOver readsIn specialIn takerIn takesIn)
open Option (bind_some)
open Array (length_toList)
open Int (emod_nonneg)
namespace PySem.W.Fast
def tw18443747232014118489:=0
def tw16162579840351987161:=0
def tw5036401114951410016:=0
def tw3335306255207421656:=0
def tw11838955196828462924:=0
def tw5956762221524499666:=0
def tw2363531523948060887:=0
def tw849783190908375203:=0
def tw3948238570282155192:=0
def tw5280670143659908130:=0
def tw9008853538743050395:=0
def tw8599527662934341098:=0
def tw11638947831478547839:=0
def tw9600938111553339322:=0
def tw17270309360826036714:=0
def tw6955173849463981057:=0
def tw92034559558615221:=0
def tw4578955561742472596:=0
def tw8403934845146436290:=0
def tw620350430331873243:=0
def tw7679724459752480654:=0
def tw3162361901344139066:=0
def tw2739957015278115651:=0
def tw1092145148307839784:=0
def tw4789493592217010495:=0
def tw10626420874422948002:=0
def tw1140206405872415257:=0
def tw7439413787269887571:=0
def tw12257319828915647943:=0
def tw12923373461534012483:=0
def tw15002076825777821190:=0
def tw12789148620775743206:=0
def tw10024072841527747171:=0
def tw18210948929972152756:=0
def tw11890080323978021157:=0
def tw15698594751446768572:=0
def tw12222397230240290689:=0
def tw6945822290196787218:=0
def tw17516948340628836078:=0
def tw7176035222774992401:=0
def tw5134918396700535346:=0
def tw2910693281539173182:=0
def tw10011718302799372804:=0
def tw17335880977395558798:=0
def tw1008097986510431084:=0
def tw8347437644897504649:=0
def tw5055549830008437250:=0
def tw2658709991705383119:=0
def tw6792838399655137602:=0
def tw3394835106890786639:=0
def tw3520425061939712834:=0
def tw7325409298254998705:=0
def tw4645454751515574683:=0
def tw8659507297488788591:=0
def tw16398254966058552184:=0
def tw13434326483218394169:=0
def tw9955988773729321518:=0
def tw5363699794715853774:=0
def tw12524003839436948621:=0
def tw11586236389873410793:=0
def tw6173196981382396020:=0
def tw16042369657885331058:=0
def tw9280876158564059199:=0
def tw13197248441535098475:=0
def tw12685204855407499679:=0
def tw12924500986348176140:=0
def tw9509904790071948020:=0
def tw692440960482450780:=0
def tw10981378227670655332:=0
def tw8835843865507351492:=0
def tw3862541949151455143:=0
def tw18047620831728983347:=0
def tw4915815000075345455:=0
def tw2512481239530310499:=0
def tw11661142634252585947:=0
def tw6211902780825735342:=0
def tw5854477616004208990:=0
def tw9011374784380722790:=0
def tw4240969550115380059:=0
def tw18241777555274576307:=0
def tw15720960044864529454:=0
def tw3040994081696400499:=0
def tw15576251121542520239:=0
def tw15953847425441523847:=0
def tw6860550884864041600:=0
def tw156554707730370900:=0
def tw12926731991133224414:=0
def tw17694945898802491170:=0
def tw13766955706357093114:=0
def tw2413455841145557312:=0
def tw14377360605314473429:=0
def tw13142643648420139519:=0
def tw14658075281296919686:=0
def tw1429251778500299837:=0
def tw3907356742835999580:=0
def tw15025463434151480487:=0
def tw16358197738248136430:=0
def tw8788902854034722129:=0
def tw9448908492283312371:=0
def tw12809666067147600644:=0
def tw17528468232644693892:=0
def tw4269342705848339804:=0
def tw16439612585225102438:=0
def tw2200272211871195877:=0
def tw8270328376209303540:=0
def tw15687541350596685028:=0
def tw1034703969137345695:=0
def tw8081541304678195760:=0
def tw7884799241167418540:=0
def tw9405065841687817756:=0
def tw748430054670232493:=0
def tw17463665544012544558:=0
def tw9342805369093455354:=0
def tw2175208084296085408:=0
def tw2693864723896441753:=0
def tw6286171081959558768:=0
def tw4894857245646342228:=0
def tw4122324970889048488:=0
def tw7032808654066293940:=0
def tw15894638271260333793:=0
def tw13699710058323568811:=0
def tw982326716814740747:=0
def tw586437771950119662:=0
def tw10134037237801424360:=0
def tw2298260756646103610:=0
def tw9598364157172366303:=0
def tw11857606433367643158:=0
def tw6963862842607276619:=0
def tw443548535279870703:=0
def tw11019908895918110040:=0
def tw7987818672661903613:=0
def tw2057433204306688244:=0
def tw11275418367935339643:=0
def tw11888050396841436192:=0
def tw4519466672825225979:=0
def tw8470167745518034344:=0
def tw82642648472999033:=0
def tw13603959905295223497:=0
def tw7862404828116264916:=0
def tw17263719914192555424:=0
def tw7597862545617252644:=0
def tw16164463966944717172:=0
def tw14604713254167766324:=0
def tw5074861385823684473:=0
def tw12409839342158720246:=0
def tw2290670282516205189:=0
def tw1744978125271652648:=0
def tw2779335434075769897:=0
def tw10146964496367699265:=0
def tw407192007525111807:=0
def tw16236028194141366760:=0
def tw16947603159065199834:=0
def tw14450685995414192106:=0
def tw1697713775297151004:=0
def tw15064111027109522795:=0
def tw3300085018463896845:=0
def tw2083816601187660037:=0
def tw11594911177361684678:=0
def tw2969165454645364235:=0
def tw8874231741493766435:=0
def tw1526109588015016567:=0
def tw6475295091427914788:=0
def tw8803773676399307321:=0
def tw6261690953372946069:=0
def tw10005903831414142883:=0
def tw11889429751726332142:=0
def tw18049123372880890631:=0
def tw10658498587196084054:=0
def tw11844455713102163668:=0
def tw3023095377951946911:=0
def tw18239192524426751611:=0
def tw10476410248621583249:=0
def tw14811070195979660538:=0
def tw11914223301005900399:=0
def tw3532043609631627549:=0
def tw15393739522008333888:=0
def tw2980771457140116899:=0
def tw4756194161191697972:=0
def tw16117810190354770770:=0
def tw15530825151445582530:=0
def tw15376464065272402039:=0
def tw2049084695050628974:=0
def tw291608045862329319:=0
def tw17804421482556271162:=0
def tw9090490218234096469:=0
def tw6482118067649512394:=0
def tw12737649867928862207:=0
def tw247607685033254669:=0
def tw1819730706072562603:=0
def tw11019174855868941260:=0
def tw10876040584175167076:=0
def tw1013897703408119585:=0
def tw1713168837885312154:=0
def tw1299921537721981691:=0
def tw6828729031652889273:=0
def tw7662452360455861386:=0
def tw9229748169214842003:=0
def tw16380988905750019720:=0
def tw1429375324872992007:=0
def tw14590885050696948284:=0
def tw9001503702083533547:=0
def tw14559792478792826064:=0
def tw16689707912229916931:=0
def tw1383361629898874563:=0
def tw16738889077582077896:=0
def tw17962427889820255587:=0
def tw8328323718780649178:=0
def tw5841870330949918973:=0
def tw2226708516715262938:=0
def tw13466263693934675066:=0
def tw9093805770391411441:=0
def tw10819616835795375605:=0
def tw2716809289467076806:=0
def tw15611784675814604488:=0
def tw4548362520197158264:=0
def tw9271129790322086614:=0
def tw17351825105159090682:=0
def tw12173167040083825938:=0
def tw865759022960606940:=0
def tw11163322634968737112:=0
def tw13845531275069297087:=0
def tw333180448417369178:=0
def tw16299860706181474465:=0
def tw10184225638382024035:=0
def tw12429071741222771618:=0
def tw9560147533875663873:=0
def tw17183529409877222878:=0
def tw16194687487904712402:=0
def tw1245352784295911514:=0
def tw2931242879898267782:=0
def tw5592885476201461134:=0
def tw8827227452028674268:=0
def tw18061739818871959809:=0
def tw7132380052612798836:=0
def tw3271092031283260416:=0
def tw14263637085008894202:=0
def tw9514656379712027643:=0
def tw16643499015777214873:=0
def tw17972970495780216014:=0
def tw10615172674878689267:=0
def tw7688299759423724119:=0
def tw7010631614246385405:=0
def tw3934418662865425735:=0
def tw5364534311917325305:=0
def tw18048999711506693010:=0
def tw14576515261468755427:=0
def tw3101849470079550297:=0
def tw2913163788988866974:=0
def tw15627834992194092545:=0
def tw16108354152575259359:=0
def tw4135567444722832087:=0
def tw1163299364423278251:=0
def tw3385285902641279493:=0
def tw7044564889589361223:=0
def tw5222456126095529559:=0
def tw9040524583130937454:=0
def tw3337842062470595328:=0
def tw18144724156416661465:=0
def tw4719970825374335110:=0
def tw2448060494035091651:=0
def tw11996504350356307171:=0
def tw18075924745350904915:=0
def tw1668533843537437626:=0
def tw4266029019940874732:=0
def tw18295437648168639007:=0
def tw3237639440324066799:=0
def tw2203795776757707553:=0
def tw6837398190239394924:=0
def tw366672032494697997:=0
def tw3882659562618561323:=0
def tw10860958946780691707:=0
def tw7140818878620145541:=0
def tw8394173068447880674:=0
def tw3964032527308571737:=0
def tw628989965876585353:=0
def tw12003788784839636347:=0
def tw14499138885641110583:=0
def tw12657494613331267651:=0
def tw4282983517429956417:=0
def tw9484428775989113259:=0
def tw107518970852169104:=0
def tw17495549882297585329:=0
def tw15450523267133733618:=0
def tw10709055998596283316:=0
def tw12414844859880191425:=0
def tw16381518711773809849:=0
def tw9306959193786540240:=0
def tw5949225133022456308:=0
def tw10641550962452818226:=0
def tw1495458931878291014:=0
def tw7721143890130418066:=0
def tw5640977259913265056:=0
def tw3870600556634121427:=0
def tw5294940294989064285:=0
def tw15199729220727749342:=0
def tw2754212234329110910:=0
def tw3276825263986345525:=0
def tw2485050984538447322:=0
def tw7648468862875071477:=0
def tw5847500005440198576:=0
def tw5481435337554495882:=0
def tw17235458071450863677:=0
def tw11369222328129218583:=0
def tw5809428429701349192:=0
def tw180507869064835645:=0
def tw4847696762673870899:=0
def tw18195558104733556232:=0
def tw3763711153984219196:=0
def tw11569814479410446980:=0
def tw14854251204276767879:=0
def tw8883421287594471112:=0
def tw15244513386033352169:=0
def tw14866857473039185693:=0
def tw17116781246068425215:=0
def tw18110781055120232309:=0
def tw7993447977741347160:=0
def tw14229967596774239194:=0
def tw11301141727924129197:=0
def tw1720666563740386888:=0
def tw6736398567175979258:=0
def tw15185244109644426635:=0
end PySem.W.Fast
section
namespace L2
open PySem PySem.Spec PyProof.Rows
abbrev Key:=Sum Int Str
noncomputable def znV:Key->Value->Bool
 |.inl k,v=>Value.isInt k v
 |.inr x,v=>Value.isStrOf x v
noncomputable def keyH (w:World):Key->Int
 |.inl k=>hashInt k
 |.inr x=>hashStr w x
theorem zay:∀{k:Key} {v:Value},znV k v=true->(∃i t,k=Sum.inl i/\v=Value.int i t)\/(∃x t,k=Sum.inr x/\v=Value.str x t)
 | .inl i,v,h=>by
   obtain⟨t,e⟩:=Value.isInt_shape h;exact .inl ⟨i,t,rfl,e⟩
 | .inr x,v,h=>by
   obtain⟨t,e⟩:=Value.isStrOf_shape h;exact .inr ⟨x,t,rfl,e⟩
theorem znU (a b:Int):decide ((Sum.inl a:Key)=Sum.inl b)=(a == b):=by grind
theorem znR (a b:Str):decide ((Sum.inr a:Key)=Sum.inr b)=decide (a=b):=by simp
theorem znT (a:Int)(b:Str):decide ((Sum.inl a:Key)=Sum.inr b)=false:=decide_eq_false (fun q=>nomatch q)
theorem znS (a:Str)(b:Int):decide ((Sum.inr a:Key)=Sum.inl b)=false:=decide_eq_false (fun q=>nomatch q)
noncomputable def ze6 (prog:Program)(w:World):PySem.KeyKind prog w Key where
 is:=znV
 hash:=keyH w
 inj:=fun v a b ha hb=>by
  rcases zay ha with ⟨i,t,rfl,rfl⟩|⟨x,t,rfl,rfl⟩
  . rcases zay hb with ⟨j,u,rfl,e⟩|⟨y,u,rfl,e⟩
    . injection e with e1 _;rw[e1]
    . exact nomatch e
  . rcases zay hb with ⟨j,u,rfl,e⟩|⟨y,u,rfl,e⟩
    . exact nomatch e
    . injection e with e1 _;rw[e1]
 byValue:=fun k v h=>by
  rcases zay h with ⟨i,t,rfl,rfl⟩|⟨x,t,rfl,rfl⟩<;>rfl
 pyHash:=fun hv h=>by
  rcases zay hv with ⟨i,t,rfl,rfl⟩|⟨x,t,rfl,rfl⟩
  . exact wpAny_pyHash_int h
  . exact wpAny_pyHash_str h
 eqBool:=fun hu hv h=>by
  rcases zay hu with ⟨i,t,rfl,rfl⟩|⟨x,t,rfl,rfl⟩
  . rcases zay hv with ⟨j,u,rfl,rfl⟩|⟨y,u,rfl,rfl⟩
    . rw[znU] at h;exact wpAny_eqBool_int h
    . rw[znT] at h;exact SeqAt.EqAt.int_str i t y u _ _ _ _ h
  . rcases zay hv with ⟨j,u,rfl,rfl⟩|⟨y,u,rfl,rfl⟩
    . rw[znS] at h;exact SeqAt.EqAt.str_int x t j u _ _ _ _ h
    . rw[znR] at h;exact wpAny_eqBool_str h
 «strs»:=fun k x t v h=>by
  rcases zay h with ⟨i,u,rfl,e⟩|⟨y,u,rfl,e⟩
  . exact nomatch e
  . injection e with e1 _;subst e1;cases v<;>rfl
end L2
namespace L2
open PySem PySem.Spec PyProof.Rows
inductive V where
 |non|bl (b:Bool)|int (i:Int)|str (x:Str)|byt (b:Array UInt8)|flt (b:UInt64)|ref (a:Addr)|ty (n:String)
 deriving DecidableEq
def RelV:V->Value->Prop
 |.non,u=>u=Value.none
 |.bl b,u=>u=Value.bool b
 |.int i,u=>∃t,u=Value.int i t
 |.str x,u=>∃t,u=Value.str x t
 |.byt b,u=>∃t,u=Value.bytes b t
 |.flt b,u=>∃t,u=Value.float b t
 |.ref a,u=>u=Value.ref a
 |.ty n,u=>u=Value.type n
abbrev Vals:List V->List Value->Prop:=Paired RelV
theorem Vals.length (r:Vals xs us):xs.length=us.length:=Paired.length r
theorem Vals.get:∀{xs:List V} {us:List Value} {i:Nat} {x:V},Vals xs us->xs[i]?=some x->∃u,us[i]?=some u/\RelV x u
 |_,_,_,_,.nil,e=>by simp at e
 |_,_,0,_,.cons r _,e=>by simp at e;subst e;exact⟨_,rfl,r⟩
 | _,_,i+1,x,.cons _ t,e=>by
   obtain⟨u,h1,h2⟩:=Vals.get t (by simpa using e);exact⟨u,by simpa using h1,h2⟩
theorem Vals.set (r:RelV x u):∀{xs:List V} {us:List Value} (i:Nat),Vals xs us->Vals (xs.set i x) (us.set i u)
 |_,_,_,.nil=>.nil
 |_,_,0,.cons _ t=>.cons r t
 |_,_,i+1,.cons q t=>.cons q (Vals.set r i t)
theorem Vals.append:∀{xs ys:List V} {us ws:List Value},Vals xs us->Vals ys ws->Vals (xs++ys) (us++ws)
 |_,_,_,_,.nil,s=>s
 |_,_,_,_,.cons r t,s=>.cons r (Vals.append t s)
theorem Vals.take:∀{xs:List V} {us:List Value} (n:Nat),Vals xs us->Vals (xs.take n) (us.take n)
 |_,_,0,_=>.nil
 |_,_,_+1,.nil=>.nil
 |_,_,n+1,.cons r t=>.cons r (Vals.take n t)
theorem Vals.drop:∀{xs:List V} {us:List Value} (n:Nat),Vals xs us->Vals (xs.drop n) (us.drop n)
 |_,_,0,r=>r
 |_,_,_+1,.nil=>.nil
 |_,_,n+1,.cons _ t=>Vals.drop n t
def RelO:Option V->Option Value->Prop
 |some v,some u=>RelV v u
 |none,none=>True
 |_,_=>False
def KV:List (κ × V)->List (κ × Value)->Prop:=Paired fun (p:κ × V) (q:κ × Value)=>p.1=q.1/\RelV p.2 q.2
noncomputable def kV:Key->V
 |.inl i=>.int i
 |.inr x=>.str x
inductive HO where
 |lst (xs:List V)
 |tup (xs:List V)
 |dK (kvs:List (Key × V))|dT (kvs:List (List Key × V))
 |set (S:Int->Bool) (n:Nat)
 |ins (C dx:Addr) (fs:List (Str × V))
 |own (x:Addr)
 |xd (fs:List (Str × V))
 |met (f x:Addr)
 |rng (lo hi:Int)
 |frz (o:Obj) (u:HO)
 |tbl (ps:Array Value)
 |ext (φ:Heap->Prop)
abbrev Hp:=Addr->Option HO
noncomputable def upd (H:Hp)(a:Addr)(o:HO):Hp:=fun b=>if b=a then some o else H b
theorem zai:upd H a o a=some o:=by unfold upd;rw[if_pos rfl]
theorem zah (h:b≠a):upd H a o b=H b:=by unfold upd;rw[if_neg h]
theorem zkJ:upd (upd H a o) a u=upd H a u:=by
 funext b;unfold upd;split<;>rfl
theorem zaA {H:Hp}(h:H a=some o)(h':H b=none):a≠b:=by
 intro e;subst e;rw[h] at h';cases h'
section
variable (P:Program) (w:World)
def ObjOk (H:Hp)(h:Heap)(a:Addr):HO->Prop
 |.lst xs=>xs.length<=sizeLine/\∃(its:List Value) (n:Nat),Vals xs its/\h.get? a=some {cls:=.type "list",data:=.seq its.toArray n}
 |.tup xs=>xs.length<=sizeLine/\∃its:List Value,Vals xs its/\IsTup h a its.toArray
 |.dK kvs=>kvs.length<=sizeLine/\(a == sysModules)=false/\∃vs,KV kvs vs/\h.DictOf (ze6 P w) a vs
 |.dT kvs=>kvs.length<=sizeLine/\(a == sysModules)=false/\∃xs:List (List Key × Addr × Value),
  Paired (fun (p:List Key × V) (q:List Key × Addr × Value)=>p.1=q.1/\H q.2.1=some (.tup (p.1.map kV))/\RelV p.2 q.2.2) kvs xs/\
  ∃o es ep,h.get? a=some o/\o.ExactDict/\o.data=.dict es ep/\es.toList=xs.map (entryOfKey (tupleKind (ze6 P w)))/\(xs.map (·.1)).Nodup
 |.set S n=>h.SetOf (intKind P w) a S n
 |.ins C dx fs=>H dx=some (.own a)/\fs.length<=1000/\dx≠a/\h.get? a=some (instObj C dx)/\
  ∃mA,h.Ns1 dx mA/\(∀f,RelO (fs.lookup f) (mA f))/\PySem.Within mA (fs.map (·.1))
 |.own _=>∃o,h.get? a=some o
 |.xd fs=>∃mA,h.Ns1 a mA/\∀f,RelO (fs.lookup f) (mA f)
 |.rng lo hi=>∃t u v,h.get? a=some {cls:=.type "range",data:=.fields #[.int lo t,.int hi u,.int 1 v]}
 |.frz o u=>h.get? a=some o/\ObjOk H h a u
 |.tbl ps=>h.get? a=some {cls:=.none,data:=.fields ps}
 |.met f x=>h.get? a=some (methodObj (.ref f) (.ref x))
 |.ext φ=>φ h/\(∃o,h.get? a=some o)/\∀h1 h2:Heap,φ h1->(∀o,h1.get? a=some o->h2.get? a=some o)->φ h2
def HOk (H:Hp)(h:Heap):Prop:=∀a o,H a=some o->ObjOk P w H h a o
end
section
variable {P:Program} {w:World} {H H':Hp} {h h':Heap} {a:Addr} {o:HO}
theorem ObjOk.lt (x:ObjOk P w H h a o):a<h.objs.size:=by
 cases o with
 |lst xs=>obtain⟨_,_,_,_,e⟩:=x;exact Heap.lt_size e
 |tup xs=>obtain⟨_,_,_,p⟩:=x;exact p.lt
 |dK kvs=>obtain⟨_,_,_,_,o,_,_,e,_⟩:=x;exact Heap.lt_size e
 |dT kvs=>obtain⟨_,_,_,_,o,_,_,e,_⟩:=x;exact Heap.lt_size e
 |set S n=>obtain⟨o,_,_,_,e,_⟩:=x;exact Heap.lt_size e
 |ins C dx fs=>obtain⟨_,_,_,e,_⟩:=x;exact Heap.lt_size e
 |own y=>obtain⟨_,e⟩:=x;exact Heap.lt_size e
 |xd fs=>obtain⟨_,⟨_,_,_,e,_⟩,_⟩:=x;exact Heap.lt_size e
 |rng lo hi=>obtain⟨_,_,_,e⟩:=x;exact Heap.lt_size e
 |frz ob u=>obtain⟨e,_⟩:=x;exact Heap.lt_size e
 |tbl ps=>exact Heap.lt_size x
 |met f y=>exact Heap.lt_size x
 |ext φ=>obtain⟨_,⟨_,e⟩,_⟩:=x;exact Heap.lt_size e
theorem Paired.mapP:∀{l₁:List α} {l₂:List β},Paired F l₁ l₂->(∀a b,F a b->G a b)->Paired G l₁ l₂
 |_,_,.nil,_=>.nil
 |_,_,.cons r t,f=>.cons (f _ _ r) (Paired.mapP t f)
theorem ObjOk.stay (x:ObjOk P w H h a o)(k:∀b u,(b=a\/H b=some (.own a))->h.get? b=some u->h'.get? b=some u)
  (ho:∀b,H b=some (.own a)->H' b=some (.own a)) (ht:∀b xs,H b=some (.tup xs)->H' b=some (.tup xs)):ObjOk P w H' h' a o:=by
 induction o with
 |lst xs=>obtain⟨z,its,n,r,e⟩:=x;exact⟨z,its,n,r,k _ _ (.inl rfl) e⟩
 |tup xs=>obtain⟨z,its,r,ob,e,c⟩:=x;exact⟨z,its,r,ob,k _ _ (.inl rfl) e,c⟩
 |dK kvs=>obtain⟨z,y,vs,r,ob,es,ep,e,c⟩:=x;exact⟨z,y,vs,r,ob,es,ep,k _ _ (.inl rfl) e,c⟩
 | dT kvs=>
   obtain⟨z,y,xs,r,ob,es,ep,e,c⟩:=x;exact⟨z,y,xs,Paired.mapP r fun p q z=>⟨z.1,ht _ _ z.2.1,z.2.2⟩,ob,es,ep,k _ _ (.inl rfl) e,c⟩
 |set S n=>obtain⟨ob,es,ep,t,e,c⟩:=x;exact⟨ob,es,ep,t,k _ _ (.inl rfl) e,c⟩
 | ins C dx fs=>
   obtain⟨d,z,ne,e,mA,⟨od,es,ep,e2,c⟩,r⟩:=x;exact⟨ho _ d,z,ne,k _ _ (.inl rfl) e,mA,⟨od,es,ep,k _ _ (.inr d) e2,c⟩,r⟩
 |own y=>obtain⟨ob,e⟩:=x;exact⟨ob,k _ _ (.inl rfl) e⟩
 |xd fs=>obtain⟨mA,⟨od,es,ep,e,c⟩,r⟩:=x;exact⟨mA,⟨od,es,ep,k _ _ (.inl rfl) e,c⟩,r⟩
 |rng lo hi=>obtain⟨t,u,v,e⟩:=x;exact⟨t,u,v,k _ _ (.inl rfl) e⟩
 |frz ob u ih=>obtain⟨e,q⟩:=x;exact⟨k _ _ (.inl rfl) e,ih q⟩
 | tbl ps=>
   have e:h.get? a=some {cls:=.none,data:=.fields ps}:=x;exact k a _ (.inl rfl) e
 | met f y=>
   have e:h.get? a=some (methodObj (.ref f) (.ref y)):=x;exact k a _ (.inl rfl) e
 |ext φ=>obtain⟨p,⟨o,e⟩,st⟩:=x;exact⟨st _ _ p fun o q=>k _ _ (.inl rfl) q,⟨o,k _ _ (.inl rfl) e⟩,st⟩
theorem HOk.lt (x:HOk P w H h)(e:H a=some o):a<h.objs.size:=(x a o e).lt
theorem HOk.fresh (x:HOk P w H h)(e:h.objs.size<=a):H a=none:=by
 cases q:H a with
 |none=>rfl
 |some u=>exact absurd (lt_of_lt_of_le (x.lt q) e) (lt_irrefl _)
theorem HOk.kept (x:HOk P w H h)(k:∀b u,h.get? b=some u->h'.get? b=some u):HOk P w H h':=fun a o e=>
 (x a o e).stay (fun b u _ q=>k b u q) (fun _ q=>q) fun _ _ q=>q
theorem HOk.laid (x:HOk P w H h)(k:∀b u,h.get? b=some u->h'.get? b=some u)(hp:h.objs.size<=a)(new:ObjOk P w (upd H a o) h' a o):HOk P w (upd H a o) h':=fun b u e=>by
 have hn:=x.fresh hp;by_cases hb:b=a
 . subst hb;rw[zai] at e;cases e;exact new
 . rw[zah hb] at e;exact (x b u e).stay (fun c v _ q=>k c v q) (fun c q=>by rw[zah (zaA q hn)];exact q) fun c xs q=>by rw[zah (zaA q hn)];exact q
end
def Rd (H:Hp)(a:Addr)(u:HO):Prop:=H a=some u\/∃o,H a=some (.frz o u)
theorem Rd.ok (r:Rd H a u)(x:HOk P w H h):ObjOk P w H h a u:=by
 rcases r with r|⟨o,r⟩
 . exact x a u r
 . obtain⟨_,q⟩:=x a _ r;exact q
def Mut:Option HO->Prop
 |some (.lst _)=>True
 |some (.dK _)=>True
 |some (.dT _)=>True
 |some (.set _ _)=>True
 |some (.ins _ _ _)=>True
 |some (.ext _)=>True
 |_=>False
section
variable {P:Program} {w:World} {H:Hp} {h h':Heap} {x e:Addr} {o':HO}
theorem HOk.write (ok:HOk P w H h)(mu:Mut (H x))(he:e=x\/H e=some (.own x))(k:∀b u,b≠e->h.get? b=some u->h'.get? b=some u)(heo:∃u,h'.get? e=some u)
  (new:ObjOk P w (upd H x o') h' x o'):HOk P w (upd H x o') h':=fun b u q=>by
 have nown:∀c y,H c=some (.own y)->c≠x:=fun c y r z=>by subst z;rw[r] at mu;exact mu
 have ntup:∀c xs,H c=some (.tup xs)->c≠x:=fun c xs r z=>by subst z;rw[r] at mu;exact mu
 by_cases hb:b=x
 . subst hb;rw[zai] at q;cases q;exact new
 . rw[zah hb] at q;by_cases hbe:b=e
   . have q':H b=some (.own x):=by
      rcases he with z|z
      . exact absurd (hbe.trans z) hb
      . rw[hbe];exact z
     rw[q] at q';cases q';obtain⟨v,hv⟩:=heo;exact⟨v,by rw[hbe];exact hv⟩
   . refine (ok b u q).stay (fun c v hc r=>k c v ?_ r) (fun c r=>by rw[zah (nown c b r)];exact r) fun c xs r=>by rw[zah (ntup c xs r)];exact r
     rcases hc with rfl|hc
     . exact hbe
     . rintro rfl;rcases he with z|z
       . exact nown c b hc z
       . rw[hc] at z;cases z;exact hb rfl
end
structure Un (fs ex:List Addr) (H H':Hp) (h h':Heap):Prop where
 keep:∀b o,h.get? b=some o->H b=none->b∉fs->b∉ex->h'.get? b=some o
 slot:∀b o,h.get? b=some o->H b=none->b∈fs->b∉ex->∃sl,h'.get? b=some {o with slots:=sl}
 free:∀b o,h.get? b=some o->H b=none->b∉ex->H' b=none
 there:∀b o,h.get? b=some o->b∉ex->∃o',h'.get? b=some o'
 tups:∀b xs,H b=some (.tup xs)->H' b=some (.tup xs)
 frzs:∀b o u,H b=some (.frz o u)->H' b=some (.frz o u)
 tbls:∀b ps,H b=some (.tbl ps)->∃more,H' b=some (.tbl (ps++more))
section
variable {fs fs' ex ex':List Addr} {H H1 H2:Hp} {h h1 h2 h':Heap} {a x e:Addr} {o:HO}
theorem Un.any (u:Un fs ex H H1 h h1)(q:h.get? b=some ob)(n:H b=none)(hx:b∉ex):∃sl,h1.get? b=some {ob with slots:=sl}:=by
 by_cases hb:b∈fs
 . exact u.slot b ob q n hb hx
 . exact⟨ob.slots,u.keep b ob q n hb hx⟩
theorem Un.kept (k:∀b u,h.get? b=some u->h'.get? b=some u):Un fs ex H H h h':=
 ⟨fun b ob q _ _ _=>k b ob q,fun b ob q _ _ _=>⟨ob.slots,k b ob q⟩,fun _ _ _ n _=>n,fun b ob q _=>⟨ob,k b ob q⟩,fun _ _ q=>q,fun _ _ _ q=>q,fun _ ps q=>⟨#[],by rw[q];simp⟩⟩
theorem Un.refl:Un fs ex H H h h:=Un.kept fun _ _ q=>q
theorem Un.laid (k:∀b u,h.get? b=some u->h'.get? b=some u)(hp:h.objs.size<=a)(hn:H a=none):Un fs ex H (upd H a o) h h' where
 keep:=fun b u q _ _ _=>k b u q
 slot:=fun b u q _ _ _=>⟨u.slots,k b u q⟩
 free:=fun b u q n _=>by rw[zah (ne_of_lt (lt_of_lt_of_le (Heap.lt_size q) hp))];exact n
 there:=fun b u q _=>⟨u,k b u q⟩
 tups:=fun b xs q=>by rw[zah (zaA q hn)];exact q
 frzs:=fun b u xs q=>by rw[zah (zaA q hn)];exact q
 tbls:=fun b ps q=>⟨#[],by rw[zah (zaA q hn),q];simp⟩
theorem Un.write (mu:Mut (H x))(he:e=x\/H e=some (.own x))(k:∀b u,b≠e->h.get? b=some u->h'.get? b=some u)(heo:∃u,h'.get? e=some u):Un fs ex H (upd H x o) h h':=by
 have hx:∀b,H b=none->b≠x:=fun b n z=>by subst z;rw[n] at mu;exact mu
 have hb:∀b,H b=none->b≠e:=fun b n z=>by
  subst z;rcases he with r|r
  . exact hx b n r
  . rw[n] at r;cases r
 have hm:∀b u,H b=some u->¬Mut (some u)->b≠x:=fun b u q nm z=>by subst z;rw[q] at mu;exact nm mu
 refine⟨fun b u q n _ _=>k b u (hb b n) q,fun b u q n _ _=>⟨u.slots,k b u (hb b n) q⟩,fun b u q n _=>by rw[zah (hx b n)];exact n,fun b u q _=>?_,
  fun b xs q=>by rw[zah (hm b _ q fun z=>z)];exact q,fun b u xs q=>by rw[zah (hm b _ q fun z=>z)];exact q,fun b ps q=>⟨#[],by rw[zah (hm b _ q fun z=>z),q];simp⟩⟩
 by_cases hbe:b=e
 . subst hbe;exact heo
 . exact⟨u,k b u hbe q⟩
end
noncomputable def trk (h:Heap)(H:Hp):List Addr:=(List.range h.objs.size).filter fun a=>(H a).isSome
noncomputable def hidT (h:Heap)(H:Hp):Heap:=PySem.W.hideAll h (trk h H)
theorem zif (h:Heap)(H:Hp):(hidT h H).objs.size=h.objs.size:=PySem.W.hideAll_size _ _
theorem zjO (e:h.get? b=some o)(n:H b=none):(hidT h H).get? b=some o:=
 PySem.W.hideAll_get _ e fun hm=>by
  have q:(H b).isSome=true:=(List.mem_filter.mp hm).2;rw[n] at q;simp at q
theorem zlE (e:(hidT h H).get? b=some o):h.get? b=some o/\H b=none:=by
 have e':h.get? b=some o:=PySem.W.of_hideAll (trk h H) e;refine⟨e',?_⟩;cases q:H b with
 |none=>rfl
 | some x=>
   have hm:b∈trk h H:=List.mem_filter.mpr ⟨mem_range.mpr (Heap.lt_size e'),by simp[q]⟩;have z:(hidT h H).get? b=none:=PySem.W.hideAll_none (trk h H) hm;rw[z] at e;cases e
end L2
namespace L2
open PySem PySem.Spec PyProof.Rows
structure Mod (K:PySem.W.Frag) (mg:Str->Option Value) (base:Heap):Prop where
 kin:K.In base
 glob:base.Ns mainGlobals mg
 blt:∃mb,base.Ns builtinsNs mb/\∀x:Str,x≠"__name__"->mb x=bootBuiltins x
 nolimit:base.NoLimit
structure Cx where
 prog:Program
 w:World
 K:PySem.W.Frag
 mg:Str->Option Value
 base:Heap
 A:Around
 N:List Str
 s₀:Shared
 H₀:Hp
 env:Env
 outer:List Env
 stack:List Env
 ex:List Addr
 fn:Str->Bool
 calm:Bool
 pn:List (Addr × Obj)
 xe:Value->Shared->Prop
noncomputable def frs (l:List Env):List Addr:=l.filterMap (·.frame)
noncomputable abbrev Cx.fs (X:Cx):List Addr:=frs X.outer
def Vis (sc:Scope)(x:Str):Prop:=sc.names.lookup x=some .local\/sc.names.lookup x=some .cell\/sc.names.lookup x=some .free
def Loc (sc:Scope)(x:Str):Prop:=sc.names.lookup x=some .local\/sc.names.lookup x=some .cell
def Look (env:Env)(h:Heap)(m:Str->Option Value)(x:Str)(u:Value):Prop:=
 (env.kindOf x=some .local/\m x=some u)\/((env.kindOf x=some .cell\/env.kindOf x=some .free)/\∃c,env.cells.lookup x=some c/\h.IsCell c (some u))
structure Cx.Ok (X:Cx):Prop where
 mod:Mod X.K X.mg X.base
 kind:X.env.scope.kind=.function
 glob:X.env.globals=mainGlobals
 blt:X.env.builtins=builtinsNs
 above:X.s₀.heap.objs.size<=X.env.locals
 inj:∀x y c,X.env.cells.lookup x=some c->X.env.cells.lookup y=some c->x=y
 has:∀x,(X.env.kindOf x=some .cell\/X.env.kindOf x=some .free)->∃c,X.env.cells.lookup x=some c
 cab:∀x c,X.fn x=true->X.env.cells.lookup x=some c->X.s₀.heap.objs.size<=c
 hd:X.calm=true->X.A.handled=none
 frames:X.A.frames=some X.stack
 stk:X.stack=X.outer\/(X.stack=X.env::X.outer/\X.env.frame=some X.env.locals)
 exf:∀b∈X.ex,b≠X.env.locals/\∀x c,X.env.cells.lookup x=some c->c≠b
 bs:∀b o,X.base.get? b=some o->X.s₀.heap.get? b=some o/\X.H₀ b=none
 bsz:X.base.objs.size<=X.s₀.heap.objs.size
 noex:∀b o,X.base.get? b=some o->b∉X.ex
 exfs:∀b∈X.ex,b∉X.fs
 funs:X.s₀.heap.FunFrames X.base X.outer
 frf:∀b∈X.fs,X.H₀ b=none
structure Inv (X:Cx) (pins:List (Addr × Obj)) (σ:List (Option V)) (H:Hp) (s:Shared):Prop where
 ok:X.Ok
 os:s.os=X.s₀.os
 bare:AllBare s.gens
 base:Un X.fs X.ex X.H₀ H X.s₀.heap s.heap
 loc:∃m,s.heap.Ns X.env.locals m/\∀(i:Nat) (x:Str) (v:V),X.N[i]?=some x->σ[i]?=some (some v)->Vis X.env.scope x->∃u,RelV v u/\Look X.env s.heap m x u
 cell:∀x c,X.env.cells.lookup x=some c->∃v,s.heap.IsCell c v
 free:H X.env.locals=none
 freeC:∀x c,X.env.cells.lookup x=some c->H c=none
 pin:∀p∈X.pn++pins,s.heap.get? p.1=some p.2/\H p.1=none/\p.1≠X.env.locals/\p.1∉X.fs/\∀v,p.2.data≠.cell v
 hok:HOk X.prog X.w H s.heap
 len:σ.length=X.N.length
section
variable {X:Cx} {pins:List (Addr × Obj)} {σ:List (Option V)} {H H':Hp} {s:Shared} {h':Heap}
theorem Cx.Ok.nofr (ok:X.Ok)(e:X.base.get? b=some o):b∉X.fs:=fun hb=>by
 have:=(ok.funs.mem hb).1;rw[e] at this;cases this
theorem Inv.bs (I:Inv X pins σ H s):∀b o,X.base.get? b=some o->s.heap.get? b=some o/\H b=none:=fun b o e=>
 ⟨I.base.keep b o (I.ok.bs b o e).1 (I.ok.bs b o e).2 (I.ok.nofr e) (I.ok.noex b o e),I.base.free b o (I.ok.bs b o e).1 (I.ok.bs b o e).2 (I.ok.noex b o e)⟩
theorem Inv.bk (I:Inv X pins σ H s):∀b o,X.base.get? b=some o->s.heap.get? b=some o:=fun b o e=>(I.bs b o e).1
theorem Inv.mod (I:Inv X pins σ H s):Mod X.K X.mg X.base:=I.ok.mod
theorem Inv.kIn (I:Inv X pins σ H s):X.K.In s.heap:=I.ok.mod.kin.keeps I.bk
theorem Inv.lt (I:Inv X pins σ H s):X.env.locals<s.heap.objs.size:=let ⟨_,hn,_⟩:=I.loc;hn.lt
theorem Inv.sz (I:Inv X pins σ H s):X.s₀.heap.objs.size<=s.heap.objs.size:=le_trans I.ok.above (le_of_lt I.lt)
theorem Inv.nofs (I:Inv X pins σ H s){a:Addr}(h:s.heap.objs.size<=a):a∉X.fs:=fun hb=>by
 obtain⟨_,o,ho,_⟩:=I.ok.funs.mem hb;exact absurd (lt_of_lt_of_le (Heap.lt_size ho) (le_trans I.sz h)) (lt_irrefl _)
theorem Inv.cne (I:Inv X pins σ H s):∀x c,X.env.cells.lookup x=some c->c≠X.env.locals:=fun x c e z=>by
 obtain⟨v,o,ho,hd⟩:=I.cell x c e;obtain⟨m,⟨o',es,ep,ho',hd',_⟩,_⟩:=I.loc;rw[z,ho'] at ho;cases ho;rw[hd'] at hd;cases hd
theorem Inv.funs (I:Inv X pins σ H s):s.heap.FunFrames X.base X.outer:=by
 have all:∀(l:List Env),(∀b∈frs l,b∈X.fs)->X.s₀.heap.FunFrames X.base l->s.heap.FunFrames X.base l:=by
  intro l;induction l with
  |nil=>intro _ _;trivial
  | cons env r ih=>
    intro hs hl;obtain⟨hk,⟨L,o,hf,hn,ho,hd⟩,hr⟩:=hl;have hL:L∈X.fs:=hs L (by unfold frs;rw[List.filterMap_cons,hf];exact mem_cons_self);obtain⟨sl,e⟩:=I.base.slot L o ho (I.ok.frf L hL) hL fun z=>I.ok.exfs L z hL;exact⟨hk,⟨L,_,hf,hn,e,hd⟩,ih (fun b hb=>hs b (by unfold frs;rw[List.filterMap_cons,hf];exact mem_cons_of_mem _ hb)) hr⟩
 exact all X.outer (fun _ hb=>hb) I.ok.funs
theorem Inv.stack (I:Inv X pins σ H s):s.heap.FunFrames X.base X.stack:=by
 rcases I.ok.stk with e|⟨e,hf⟩
 . rw[e];exact I.funs
 . rw[e];obtain⟨m,hn,_⟩:=I.loc;refine .cons (by rw[I.ok.kind];decide) hf hn ?_ I.funs;exact Heap.get?_none_of_le (le_trans I.ok.bsz I.ok.above)
theorem Inv.stkSub (I:Inv X pins σ H s):∀b∈frs X.stack,b∈X.env.locals::X.fs:=fun b hb=>by
 rcases I.ok.stk with e|⟨e,hf⟩
 . rw[e] at hb;exact mem_cons_of_mem _ hb
 . rw[e] at hb;unfold frs at hb;rw[List.filterMap_cons,hf] at hb;exact hb
theorem Inv.stkFree (I:Inv X pins σ H s):∀b∈frs X.stack,H b=none:=fun b hb=>by
 rcases mem_cons.mp (I.stkSub b hb) with e|hb
 . rw[e];exact I.free
 . obtain⟨_,o,ho,_⟩:=I.ok.funs.mem hb;exact I.base.free b o ho (I.ok.frf b hb) fun z=>I.ok.exfs b z hb
theorem Inv.step {ch:List Addr}(I:Inv X pins σ H s)
  (hch:∀b∈ch,(b∈X.ex\/X.s₀.heap.objs.size<=b)/\b≠X.env.locals/\(∀x c,X.env.cells.lookup x=some c->c≠b)/\∀p∈X.pn++pins,p.1≠b)
  (keep:∀b o,b≠X.env.locals->b∉X.fs->b∉ch->s.heap.get? b=some o->H b=none->h'.get? b=some o)
  (slot:∀b o,b≠X.env.locals->b∈X.fs->b∉ch->s.heap.get? b=some o->H b=none->∃sl,h'.get? b=some {o with slots:=sl}) (free:∀b o,b∉ch->s.heap.get? b=some o->H b=none->H' b=none)
  (there:∀b o,b∉ch->s.heap.get? b=some o->∃o',h'.get? b=some o')
  (tups:∀b xs,H b=some (.tup xs)->H' b=some (.tup xs)) (frzs:∀b o u,H b=some (.frz o u)->H' b=some (.frz o u)) (tbls:∀b ps,H b=some (.tbl ps)->∃more,H' b=some (.tbl (ps++more)))
  (ns:∀m,s.heap.Ns X.env.locals m->h'.Ns X.env.locals m) (hok:HOk X.prog X.w H' h') (hg:AllBare g') :
  Inv X pins σ H' {s with heap:=h',gens:=g',drawn:=d',toks:=t'}:=by
 have neL:∀b o,X.s₀.heap.get? b=some o->b≠X.env.locals:=fun b o e=>ne_of_lt (lt_of_lt_of_le (Heap.lt_size e) I.ok.above);have neC:∀b o,X.s₀.heap.get? b=some o->b∉X.ex->b∉ch:=fun b o e hx hb=>by
  rcases (hch b hb).1 with z|z
  . exact hx z
  . exact absurd (lt_of_lt_of_le (Heap.lt_size e) z) (lt_irrefl _)
 have cellK:∀x c,X.env.cells.lookup x=some c->∀v,s.heap.IsCell c v->h'.IsCell c v:=fun x c e v ⟨o,ho,hd⟩=>by
  have nch:c∉ch:=fun z=>(hch c z).2.2.1 x c e rfl;by_cases hc:c∈X.fs
  . obtain⟨sl,q⟩:=slot c o (I.cne x c e) hc nch ho (I.freeC x c e);exact⟨_,q,hd⟩
  . exact⟨o,keep c o (I.cne x c e) hc nch ho (I.freeC x c e),hd⟩
 refine⟨I.ok,I.os,hg,⟨fun b o e n hb hx=>?_,fun b o e n hb hx=>?_,fun b o e n hx=>?_,fun b o e hx=>?_,fun b xs e=>tups b xs (I.base.tups b xs e),fun b o xs e=>frzs b o xs (I.base.frzs b o xs e),fun b ps e=>?_⟩,?_,fun x c e=>?_,?_,fun x c e=>?_,fun p hp=>?_,hok,I.len⟩
 . exact keep b o (neL b o e) hb (neC b o e hx) (I.base.keep b o e n hb hx) (I.base.free b o e n hx)
 . obtain⟨sl,e1⟩:=I.base.slot b o e n hb hx;obtain⟨sl',e2⟩:=slot b _ (neL b o e) hb (neC b o e hx) e1 (I.base.free b o e n hx);exact⟨sl',e2⟩
 . obtain⟨o',e1⟩:=I.base.there b o e hx;exact free b o' (neC b o e hx) e1 (I.base.free b o e n hx)
 . obtain⟨o',e1⟩:=I.base.there b o e hx;exact there b o' (neC b o e hx) e1
 . obtain⟨m1,e1⟩:=I.base.tbls b ps e;obtain⟨m2,e2⟩:=tbls b _ e1;exact⟨m1++m2,by rw[e2,Array.append_assoc]⟩
 . obtain⟨m,hn,hl⟩:=I.loc;refine⟨m,ns m hn,fun i x v e1 e2 e3=>?_⟩;obtain⟨u,r,l⟩:=hl i x v e1 e2 e3;refine⟨u,r,?_⟩;rcases l with l|⟨k,c,e,z⟩
   . exact .inl l
   . exact .inr ⟨k,c,e,cellK x c e _ z⟩
 . obtain⟨v,z⟩:=I.cell x c e;exact⟨v,cellK x c e v z⟩
 . obtain⟨m,⟨o,_,_,ho,_⟩,_⟩:=I.loc;exact free _ o (fun z=>(hch _ z).2.1 rfl) ho I.free
 . obtain⟨v,o,ho,hd⟩:=I.cell x c e;exact free c o (fun z=>(hch c z).2.2.1 x c e rfl) ho (I.freeC x c e)
 . obtain⟨e,n,ne,nf,d⟩:=I.pin p hp;have nch:p.1∉ch:=fun z=>(hch p.1 z).2.2.2 p hp rfl;exact⟨keep p.1 p.2 ne nf nch e n,free p.1 p.2 nch e n,ne,nf,d⟩
theorem Inv.un (I:Inv X pins σ H s)(u:Un X.fs [] H H' s.heap h')(hok:HOk X.prog X.w H' h'):Inv X pins σ H' {s with heap:=h',toks:=t'}:=by
 obtain⟨m,⟨o,es,ep,ho,r⟩,_⟩:=id I.loc;obtain⟨sl,hL⟩:=u.any ho I.free (by simp);exact I.step (g':=s.gens) (d':=s.drawn) (ch:=[]) (fun _ z=>nomatch z) (fun b o _ hb _ e n=>u.keep b o e n hb (by simp)) (fun b o _ hb _ e n=>u.slot b o e n hb (by simp)) (fun b o _ e n=>u.free b o e n (by simp)) (fun b o _ e=>u.there b o e (by simp)) u.tups u.frzs u.tbls (fun m' hm=>by
  obtain⟨o',es',ep',ho',r'⟩:=hm;rw[ho] at ho';cases ho';exact⟨_,es',ep',hL,r'⟩) hok I.bare
theorem Inv.call (I:Inv X pins σ H s)(u:Un (frs X.stack) ch H H' s.heap h')(hok:HOk X.prog X.w H' h')(hg:AllBare g')
  (hch:∀b∈ch,(b∈X.ex\/X.s₀.heap.objs.size<=b)/\b≠X.env.locals/\(∀x c,X.env.cells.lookup x=some c->c≠b)/\∀p∈X.pn++pins,p.1≠b) :
  Inv X pins σ H' {s with heap:=h',gens:=g',drawn:=d',toks:=t'}:=by
 obtain⟨m,⟨o,es,ep,ho,r⟩,_⟩:=id I.loc;obtain⟨sl,hL⟩:=u.any ho I.free fun z=>(hch _ z).2.1 rfl;exact I.step hch (fun b o hL hb hc e n=>u.keep b o e n (fun z=>(mem_cons.mp (I.stkSub b z)).elim hL hb) hc) (fun b o _ _ hc e n=>u.any e n hc) (fun b o hc e n=>u.free b o e n hc) (fun b o hc e=>u.there b o e hc) u.tups u.frzs u.tbls (fun m' hm=>by
  obtain⟨o',es',ep',ho',r'⟩:=hm;rw[ho] at ho';cases ho';exact⟨_,es',ep',hL,r'⟩) hok hg
theorem Inv.turned (I:Inv X pins σ H s)(k:∀b o,b≠it->s.heap.get? b=some o->h'.get? b=some o)(hn:H it=none)(hL:it≠X.env.locals)
  (h1:it∈X.ex\/X.s₀.heap.objs.size<=it) (h2:∀x c,X.env.cells.lookup x=some c->c≠it) (h3:∀p∈X.pn++pins,p.1≠it):Inv X pins σ H {s with heap:=h',toks:=t'}:=by
 have nit:∀b u,H b=some u->b≠it:=fun b u e z=>by rw[z,hn] at e;cases e
 refine I.step (g':=s.gens) (d':=s.drawn) (ch:=[it]) (fun b hb=>?_) (fun b o _ _ hc e _=>k b o (fun z=>hc (by simp[z])) e) (fun b o _ _ hc e _=>⟨o.slots,k b o (fun z=>hc (by simp[z])) e⟩) (fun _ _ _ _ n=>n)
  (fun b o hc e=>⟨o,k b o (fun z=>hc (by simp[z])) e⟩) (fun _ _ e=>e) (fun _ _ _ e=>e) (fun b ps e=>⟨#[],by rw[e];simp⟩) (fun m hm=>?_) (fun b u e=>?_) I.bare
 . have e:b=it:=by simpa using hb
   subst e;exact⟨h1,hL,h2,h3⟩
 . obtain⟨o,es,ep,ho,r⟩:=hm;exact⟨o,es,ep,k _ o (Ne.symm hL) ho,r⟩
 . refine (I.hok b u e).stay (fun c v hc q=>k c v ?_ q) (fun _ q=>q) fun _ _ q=>q;rcases hc with z|z
   . rw[z];exact nit b u e
   . exact nit c _ z
theorem Inv.tok (I:Inv X pins σ H s)(t:Nat):Inv X pins σ H {s with toks:=t}:=I.un (h':=s.heap) (t':=t) Un.refl I.hok
theorem Inv.kept (I:Inv X pins σ H s)(k:∀b u,s.heap.get? b=some u->h'.get? b=some u):Inv X pins σ H {s with heap:=h',toks:=t'}:=I.un (Un.kept k) (I.hok.kept k)
theorem Inv.laid {a:Addr}(I:Inv X pins σ H s)(k:∀b u,s.heap.get? b=some u->h'.get? b=some u)(hp:s.heap.objs.size<=a)(new:ObjOk X.prog X.w (upd H a o) h' a o) :
 Inv X pins σ (upd H a o) {s with heap:=h',toks:=t'}:=I.un (Un.laid k hp (I.hok.fresh hp)) (I.hok.laid k hp new)
theorem Inv.write (I:Inv X pins σ H s)(mu:Mut (H x))(he:e=x\/H e=some (.own x))(k:∀b u,b≠e->s.heap.get? b=some u->h'.get? b=some u)(heo:∃u,h'.get? e=some u)
 (new:ObjOk X.prog X.w (upd H x o) h' x o):Inv X pins σ (upd H x o) {s with heap:=h',toks:=t'}:=I.un (Un.write mu he k heo) (I.hok.write mu he k heo new)
theorem Inv.pins_of (I:Inv X pins σ H s)(h:∀p∈pins',s.heap.get? p.1=some p.2/\H p.1=none/\p.1≠X.env.locals/\p.1∉X.fs/\∀v,p.2.data≠.cell v):Inv X pins' σ H s:=
 ⟨I.ok,I.os,I.bare,I.base,I.loc,I.cell,I.free,I.freeC,fun p hp=>(mem_append.mp hp).elim (fun z=>I.pin p (mem_append_left _ z)) (h p),I.hok,I.len⟩
theorem zfJ {N:List Str}(hN:N.Nodup){i j:Nat}(a:N[i]?=some x)(b:N[j]?=some x):i=j:=by
 obtain⟨h1,e1⟩:=List.getElem?_eq_some_iff.mp a;obtain⟨h2,e2⟩:=List.getElem?_eq_some_iff.mp b;exact (List.getElem_inj hN).mp (e1.trans e2.symm)
theorem zcB (I:Inv X pins σ H s)(hN:X.N.Nodup)(hi:X.N[i]?=some x)(hx:Loc X.env.scope x)(r:RelV v u)
  (h:∀s',Inv X pins (σ.set i (some v)) H s'->(∃a,Heap.SameBut a s.heap s'.heap/\(a=X.env.locals\/X.env.cells.lookup x=some a))->Q () s') (hf:X.fn x=true\/X.env.scope.names.lookup x=some .local:=by first|exact .inl rfl|exact .inr rfl|assumption):wpAny M A (storeName X.env x u) Q E s:=by
 obtain⟨m,hn,hl⟩:=id I.loc;have hcls:(X.env.scope.kind == .class || (X.env.scope.kind == .module&&X.env.locals != X.env.globals))=false:=by rw[I.ok.kind];rfl
 have hiσ:i<σ.length:=by rw[I.len];exact (List.getElem?_eq_some_iff.mp hi).1
 have cne:=I.cne;have tracked:∀{a:Addr} {h':Heap},(∃o,s.heap.get? a=some o/\H a=none)->Heap.SameBut a s.heap h'->HOk X.prog X.w H h':=fun {a h'} ha hs b ob e=>by
  obtain⟨_,_,hfree⟩:=ha;refine (I.hok b ob e).stay (fun c w' hc q=>(hs.2 c ?_).trans q) (fun _ q=>q) fun _ _ q=>q;rintro rfl;rcases hc with rfl|hc
  . rw[hfree] at e;cases e
  . rw[hfree] at hc;cases hc
 rcases hx with hk|hk
 . refine wpAny_storeName_local hk hn (fun h' hn' hs=>?_) hcls;obtain⟨oL,_,_,hoL,_⟩:=id hn;refine h _ ⟨I.ok,I.os,I.bare,⟨fun b o e n hb hx=>?_,fun b o e n hb hx=>?_,I.base.free,fun b o e hx=>?_,I.base.tups,I.base.frzs,I.base.tbls⟩,⟨_,hn',fun j y v' e1 e2 e3=>?_⟩,fun y c e=>?_,I.free,I.freeC,fun p hp=>?_,tracked ⟨oL,hoL,I.free⟩ hs,by simpa using I.len⟩ ⟨_,hs,.inl rfl⟩
   . exact (hs.2 b (ne_of_lt (lt_of_lt_of_le (Heap.lt_size e) I.ok.above))).trans (I.base.keep b o e n hb hx)
   . obtain⟨sl,e1⟩:=I.base.slot b o e n hb hx;exact⟨sl,(hs.2 b (ne_of_lt (lt_of_lt_of_le (Heap.lt_size e) I.ok.above))).trans e1⟩
   . obtain⟨o',e1⟩:=I.base.there b o e hx;exact⟨o',(hs.2 b (ne_of_lt (lt_of_lt_of_le (Heap.lt_size e) I.ok.above))).trans e1⟩
   . by_cases hj:j=i
     . subst hj;rw[hi] at e1;cases e1;rw[getElem?_set_self hiσ] at e2;cases e2;exact⟨u,r,.inl ⟨hk,by simp⟩⟩
     . rw[getElem?_set_ne (Ne.symm hj)] at e2;obtain⟨u',r',q⟩:=hl j y v' e1 e2 e3;refine⟨u',r',?_⟩;rcases q with ⟨k,e⟩|⟨k,c,e,z⟩
       . refine .inl ⟨k,?_⟩;have:y≠x:=fun e=>hj (zfJ hN e1 (e▸hi));simp[this,e]
       . exact .inr ⟨k,c,e,z.sameBut hs (cne y c e)⟩
   . obtain⟨w',z⟩:=I.cell y c e;exact⟨w',z.sameBut hs (cne y c e)⟩
   . obtain⟨e,n,ne,nf,d⟩:=I.pin p hp;exact⟨(hs.2 p.1 ne).trans e,n,ne,nf,d⟩
 . have hfn:X.fn x=true:=by
    rcases hf with z|z
    . exact z
    . rw[z] at hk;cases hk
   obtain⟨c,hc⟩:=I.ok.has x (.inl hk);obtain⟨w',z⟩:=I.cell x c hc;refine wpAny_storeName_cell I.ok.kind hk hc z (fun h' hc' hs=>?_);obtain⟨oc,hoc,hocd⟩:=id z;refine h {s with heap:=h'} ⟨I.ok,I.os,I.bare,⟨fun b o e n hb hx=>?_,fun b o e n hb hx=>?_,I.base.free,fun b o e hx=>?_,I.base.tups,I.base.frzs,I.base.tbls⟩,⟨m,hn.sameBut hs (Ne.symm (cne x c hc)),fun j y v' e1 e2 e3=>?_⟩,fun y c' e=>?_,I.free,I.freeC,fun p hp=>?_,tracked ⟨oc,hoc,I.freeC x c hc⟩ hs,by simpa using I.len⟩ ⟨c,hs,.inr hc⟩
   . exact (hs.2 b (ne_of_lt (lt_of_lt_of_le (Heap.lt_size e) (I.ok.cab x c hfn hc)))).trans (I.base.keep b o e n hb hx)
   . obtain⟨sl,e1⟩:=I.base.slot b o e n hb hx;exact⟨sl,(hs.2 b (ne_of_lt (lt_of_lt_of_le (Heap.lt_size e) (I.ok.cab x c hfn hc)))).trans e1⟩
   . obtain⟨o',e1⟩:=I.base.there b o e hx;exact⟨o',(hs.2 b (ne_of_lt (lt_of_lt_of_le (Heap.lt_size e) (I.ok.cab x c hfn hc)))).trans e1⟩
   . by_cases hj:j=i
     . subst hj;rw[hi] at e1;cases e1;rw[getElem?_set_self hiσ] at e2;cases e2;exact⟨u,r,.inr ⟨.inl hk,c,hc,hc'⟩⟩
     . rw[getElem?_set_ne (Ne.symm hj)] at e2;obtain⟨u',r',q⟩:=hl j y v' e1 e2 e3;refine⟨u',r',?_⟩;rcases q with q|⟨k,c',e,z'⟩
       . exact .inl q
       . refine .inr ⟨k,c',e,z'.sameBut hs ?_⟩;rintro rfl;exact hj (zfJ hN e1 (I.ok.inj _ _ _ e hc▸hi))
   . by_cases hcc:c'=c
     . subst hcc;exact⟨_,hc'⟩
     . obtain⟨w2,z2⟩:=I.cell y c' e;exact⟨w2,z2.sameBut hs hcc⟩
   . obtain⟨e,n,ne,nf,d⟩:=I.pin p hp;refine⟨(hs.2 p.1 ?_).trans e,n,ne,nf,d⟩;intro q;rw[q,hoc] at e;have q':oc=p.2:=Option.some.inj e;exact d w' (by rw[<-q'];exact hocd)
theorem zdr (I:Inv X pins σ H s)(hN:X.N.Nodup)(hi:X.N[i]?=some x)(hx:Loc X.env.scope x)(r:RelV v u)
  (h:∀s',Inv X pins (σ.set i (some v)) H s'->Q () s') (hf:X.fn x=true\/X.env.scope.names.lookup x=some .local:=by first|exact .inl rfl|exact .inr rfl|assumption):wpAny M A (storeName X.env x u) Q E s:=
 zcB I hN hi hx r (fun s' I' _=>h s' I') hf
theorem Inv.call' (I:Inv X pins σ H s)(ho:s'.os=s.os)(u:Un (frs X.stack) ch H H' s.heap s'.heap)(hok:HOk X.prog X.w H' s'.heap)(hg:AllBare s'.gens)
  (hch:∀b∈ch,(b∈X.ex\/X.s₀.heap.objs.size<=b)/\b≠X.env.locals/\(∀x c,X.env.cells.lookup x=some c->c≠b)/\∀p∈X.pn++pins,p.1≠b):Inv X pins σ H' s':=by
 obtain⟨h',g',d',t',o'⟩:=s';have e:o'=s.os:=ho;subst e;exact I.call (g':=g') (t':=t') (d':=d') u hok hg hch
end
abbrev XK:=Value->Option Addr->Hp->Prop
abbrev St:=List (Option V)
abbrev VK:=V->Hp->Prop
abbrev TE:=St->Hp->VK->Prop
abbrev TT:=St->Hp->(Bool->Hp->Prop)->Prop
abbrev TA:=St->Hp->(List V->Hp->Prop)->Prop
structure Ends where
 nx:St->Hp->Prop
 rt:VK
 bk:St->Hp->Prop:=fun _ _=>False
 ct:St->Hp->Prop:=fun _ _=>False
abbrev TS:=Ends->St->Hp->Prop
def EP (X:Cx)(pins:List (Addr × Obj))(σ:St)(Q:VK)(u:Value)(s':Shared):Prop:=∃v H',Inv X pins σ H' s'/\RelV v u/\Q v H'
def TP (X:Cx)(pins:List (Addr × Obj))(σ:St)(Q:Bool->Hp->Prop)(b:Bool)(s':Shared):Prop:=∃H',Inv X pins σ H' s'/\Q b H'
def AP (X:Cx)(pins:List (Addr × Obj))(σ:St)(Q:List V->Hp->Prop)(us:List Value)(s':Shared):Prop:=∃vs H',Inv X pins σ H' s'/\Vals vs us/\Q vs H'
def SP (X:Cx)(pins:List (Addr × Obj))(D:Ends)(f:Flow)(s':Shared):Prop:=
 match f with
 |.next=>∃σ' H',Inv X pins σ' H' s'/\D.nx σ' H'
 |.brk=>∃σ' H',Inv X pins σ' H' s'/\D.bk σ' H'
 |.cont=>∃σ' H',Inv X pins σ' H' s'/\D.ct σ' H'
 |.ret u=>∃v σ' H',Inv X pins σ' H' s'/\RelV v u/\D.rt v H'
def PE (X:Cx)(e:Expr)(t:TE):Prop:=
 ∀(pins:List (Addr × Obj)) (s:Shared) (σ:St) (H:Hp) (Q:VK),Inv X pins σ H s->t σ H Q->wpAny (model X.prog X.w) X.A (eval e X.env) (EP X pins σ Q) X.xe s
def PT (X:Cx)(e:Expr)(t:TT):Prop:=
 ∀(pins:List (Addr × Obj)) (s:Shared) (σ:St) (H:Hp) (Q:Bool->Hp->Prop),Inv X pins σ H s->t σ H Q->wpAny (model X.prog X.w) X.A (isTrue e X.env (eval e X.env)) (TP X pins σ Q) X.xe s
def PW (X:Cx)(e:Expr)(t:TT):Prop:=
 ∀(whole:Sem Value) (pins:List (Addr × Obj)) (s:Shared) (σ:St) (H:Hp) (Q:Bool->Hp->Prop),Inv X pins σ H s->t σ H Q->wpAny (model X.prog X.w) X.A (isTrue e X.env whole) (TP X pins σ Q) X.xe s
theorem PW.pt (h:PW X e t):PT X e t:=h _
def PA (X:Cx)(es:List Expr)(t:TA):Prop:=
 ∀(pos:Pos) (pins:List (Addr × Obj)) (s:Shared) (σ:St) (H:Hp) (Q:List V->Hp->Prop),Inv X pins σ H s->t σ H Q->wpAny (model X.prog X.w) X.A (spliced (backTo pos (starEach es X.env))) (AP X pins σ Q) X.xe s
def PS (X:Cx)(st:Stmt)(t:TS):Prop:=
 ∀(pins:List (Addr × Obj)) (s:Shared) (σ:St) (H:Hp) (D:Ends),Inv X pins σ H s->t D σ H->wpAny (model X.prog X.w) X.A (exec st X.env) (SP X pins D) X.xe s
def PSs (X:Cx)(st:List Stmt)(t:TS):Prop:=
 ∀(pins:List (Addr × Obj)) (s:Shared) (σ:St) (H:Hp) (D:Ends),Inv X pins σ H s->t D σ H->wpAny (model X.prog X.w) X.A (execs st X.env) (SP X pins D) X.xe s
theorem thn (h:wpAny M A t Q E s)(hQ:∀a s,Q a s->Q' a s):wpAny M A t Q' E s:=wpAny_mono h hQ fun _ _ x=>x
end L2
namespace L2
open PySem PySem.Spec PyProof.Rows
section
variable {X:Cx}
theorem bin (ha:PE X a ta)(hb:PE X b tb){σ:St}{R:V->V->Hp->Prop}(I:Inv X pins σ H s)(h:ta σ H fun x H1=>tb σ H1 fun y H2=>R x y H2)
 {Q:α->Shared->Prop} {f:Value->Value->Sem α}
   (hf:∀v u s2 x y H2,Inv X pins σ H2 s2->RelV x v->RelV y u->R x y H2->wpAny (model X.prog X.w) X.A (f v u) Q X.xe s2) :
   wpAny (model X.prog X.w) X.A (eval a X.env) (fun v s₁=>wpAny (model X.prog X.w) X.A (eval b X.env) (fun u s₂=>wpAny (model X.prog X.w) X.A (f v u) Q X.xe s₂) X.xe s₁) X.xe s:=by
  refine thn (ha pins s σ H _ I h) fun v s1 ⟨x,H1,I1,r1,q1⟩=>?_;refine thn (hb pins s1 σ H1 _ I1 q1) fun u s2 ⟨y,H2,I2,r2,q2⟩=>?_;exact hf v u s2 x y H2 I2 r1 r2 q2
def tVar (i:Nat):TE:=fun σ H Q=>∃v,σ[i]?=some (some v)/\Q v H
def tC (v:V):TE:=fun _ H Q=>Q v H
theorem zej {pos:Pos}(hN:X.N[i]?=some x)(hv:Vis X.env.scope x)(hd:(x == ("__debug__":Str))=false:=by decide)(hcd:(x == ("__classdict__":Str))=false:=by decide):PE X (.Name x pos) (tVar i):=by
 intro pins s σ H Q I h;obtain⟨v,e,h⟩:=h;obtain⟨m,hn,hl⟩:=I.loc;obtain⟨u,r,l⟩:=hl i x v hN e hv;have fin:EP X pins σ Q u s:=⟨v,H,I,r,h⟩;rcases l with ⟨hk,hm⟩|⟨hk,c,hc,hcell⟩
 . exact wpAny_Name (wpAny_loadName_local I.ok.kind hk hn hm fin) hd
 . rcases hk with hk|hk
   . exact wpAny_Name (wpAny_loadName_cell I.ok.kind hk hc hcell fin) hd
   . exact wpAny_Name (wpAny_loadName_free I.ok.kind hk hc hcell fin hcd) hd
theorem znu {i j pos}:PE X (.Constant (.int i) j pos) (tC (.int i)):=fun _ _ _ H _ I h=>wpAny_Constant_int ⟨.int i,H,I.tok _,⟨_,rfl⟩,h⟩
theorem zo9 {b j pos}:PE X (.Constant (.bool b) j pos) (tC (.bl b)):=fun _ _ _ H _ I h=>Constant_bool ⟨.bl b,H,I,rfl,h⟩
theorem zns {j pos}:PE X (.Constant .none j pos) (tC .non):=fun _ _ _ H _ I h=>Constant_none ⟨.non,H,I,rfl,h⟩
theorem zkn {x j pos}:PE X (.Constant (.str x) j pos) (tC (.str x)):=fun _ _ _ H _ I h=>Calls.Constant_str ⟨.str x,H,I.tok _,⟨_,rfl⟩,h⟩
def Gl (X:Cx)(x:Str):Prop:=X.env.kindOf x=some .globalImplicit
theorem zbf {σ:St}(I:Inv X pins σ H s)(hg:Gl X x)(hm:X.mg x=some u)(h:Q u s)
  (hd:(x == ("__debug__":Str))=false:=by decide):wpAny (model X.prog X.w) X.A (eval (.Name x pos) X.env) Q E s:=
 Calls.Name_function_global I.ok.kind hg (Calls.loadGlobal_global (by rw[I.ok.glob];exact I.mod.glob.keeps I.bk) hm h) hd
theorem zeo {E:Value->Shared->Prop}{σ:St}{pos:Pos}(I:Inv X pins σ H s)(hg:Gl X x)(hm:X.mg x=none)(hv:bootBuiltins x=some u)(h:Q u s)
  (hn:x≠"__name__":=by decide) (hd:(x == ("__debug__":Str))=false:=by decide):wpAny (model X.prog X.w) X.A (eval (.Name x pos) X.env) Q E s:=by
 obtain⟨mb,h1,h2⟩:=I.mod.blt;exact Calls.Name_function_global I.ok.kind hg (Calls.loadGlobal_builtin (by rw[I.ok.glob];exact I.mod.glob.keeps I.bk) hm (by rw[I.ok.blt];exact h1.keeps I.bk) ((h2 x hn).trans hv) h) hd
theorem ze5 (hg:Gl X x)(hm:X.mg x=some u)(r:RelV v u)(hd:(x == ("__debug__":Str))=false:=by decide):PE X (.Name x pos) (tC v):=
 fun _ _ _ H _ I h=>zbf I hg hm ⟨v,H,I,r,h⟩ hd
theorem zhH {pos:Pos}(hg:Gl X x)(hm:X.mg x=none)(hv:bootBuiltins x=some u)(r:RelV v u)(hn:x≠"__name__":=by decide)(hd:(x == ("__debug__":Str))=false:=by decide):PE X (.Name x pos) (tC v):=
 fun _ _ _ H _ I h=>zeo I hg hm hv ⟨v,H,I,r,h⟩ hn hd
variable {a b:Expr} {ta tb:TE} {pos:Pos}
theorem RelV.none_iff (r:RelV x v):(v == Value.none)=decide (x=.non):=by
 cases x with
 |non=>cases r;rfl
 |bl _=>cases r;rfl
 |int _=>obtain⟨t,rfl⟩:=r;rfl
 |str _=>obtain⟨t,rfl⟩:=r;rfl
 |byt _=>obtain⟨t,rfl⟩:=r;rfl
 |flt _=>obtain⟨t,rfl⟩:=r;rfl
 |ref _=>cases r;rfl
 |ty _=>cases r;rfl
variable {tA tB':TT} {rest:List Expr}
def tAnd (t u:TT):TT:=fun σ H Q=>t σ H fun c H1=>if c=true then u σ H1 Q else Q false H1
def tOr (t u:TT):TT:=fun σ H Q=>t σ H fun c H1=>if c=true then Q true H1 else u σ H1 Q
def tNot (t:TT):TT:=fun σ H Q=>t σ H fun c H1=>Q (!c) H1
theorem zln (ha:PT X a tA):PW X (.BoolOp .And [a] pos) tA:=by
 intro wh pins s σ H Q I h;refine isTrue_and (thn (ha pins s σ H Q I h) fun c s1 e=>?_);cases c with
 |true=>exact isTrue_and_nil e
 |false=>exact e
theorem zng (ha:PT X a tA):PW X (.BoolOp .Or [a] pos) tA:=by
 intro wh pins s σ H Q I h;refine isTrue_or (thn (ha pins s σ H Q I h) fun c s1 e=>?_);cases c with
 |false=>exact isTrue_or_nil e
 |true=>exact e
theorem znh (ha:PT X a tA)(hb:PW X (.BoolOp .And (b::rest) pos) tB'):PW X (.BoolOp .And (a::b::rest) pos) (tAnd tA tB'):=by
 intro wh pins s σ H Q I h;refine isTrue_and (thn (ha pins s σ H _ I h) fun c s1 ⟨H1,I1,q1⟩=>?_);cases c with
 |true=>exact hb wh pins s1 σ H1 Q I1 q1
 |false=>exact⟨H1,I1,q1⟩
theorem zo3 (ha:PT X a tA)(hb:PW X (.BoolOp .Or (b::rest) pos) tB'):PW X (.BoolOp .Or (a::b::rest) pos) (tOr tA tB'):=by
 intro wh pins s σ H Q I h;refine isTrue_or (thn (ha pins s σ H _ I h) fun c s1 ⟨H1,I1,q1⟩=>?_);cases c with
 |true=>exact⟨H1,I1,q1⟩
 |false=>exact hb wh pins s1 σ H1 Q I1 q1
theorem zni (ha:PT X a tA):PT X (.UnaryOp .Not a pos) (tNot tA):=by
 intro pins s σ H Q I h;exact isTrue_not (ha pins s σ H (fun c H1=>Q (!c) H1) I h)
def zoQ (ta tb:TE):TE:=fun σ H Q=>ta σ H fun x H1=>∃c,x=.bl c/\if c=true then tb σ H1 Q else Q (.bl false) H1
def tOrV (ta tb:TE):TE:=fun σ H Q=>ta σ H fun x H1=>∃c,x=.bl c/\if c=true then Q (.bl true) H1 else tb σ H1 Q
def zoN (ta:TE):TE:=fun σ H Q=>ta σ H fun x H1=>∃c,x=.bl c/\Q (.bl (!c)) H1
theorem zko {op}(h:PE X a t):PE X (.BoolOp op [a] pos) t:=fun pins s σ H Q I hw=>BoolOp_one (h pins s σ H Q I hw)
theorem znx (ha:PE X a ta)(hb:PE X (.BoolOp .And (b::rest) pos) tb):PE X (.BoolOp .And (a::b::rest) pos) (zoQ ta tb):=by
 intro pins s σ H Q I h;refine BoolOp_and (thn (ha pins s σ H _ I h) fun v s1 ⟨x,H1,I1,r1,q1⟩=>?_);obtain⟨c,rfl,q1⟩:=q1;cases r1;apply wpAny_truthy_bool;cases c with
 |true=>exact hb pins s1 σ H1 Q I1 q1
 |false=>exact⟨.bl false,H1,I1,rfl,q1⟩
theorem zo5 (ha:PE X a ta)(hb:PE X (.BoolOp .Or (b::rest) pos) tb):PE X (.BoolOp .Or (a::b::rest) pos) (tOrV ta tb):=by
 intro pins s σ H Q I h;refine BoolOp_or (thn (ha pins s σ H _ I h) fun v s1 ⟨x,H1,I1,r1,q1⟩=>?_);obtain⟨c,rfl,q1⟩:=q1;cases r1;apply wpAny_truthy_bool;cases c with
 |false=>exact hb pins s1 σ H1 Q I1 q1
 |true=>exact⟨.bl true,H1,I1,rfl,q1⟩
theorem znr (ha:PE X a ta):PE X (.UnaryOp .Not a pos) (zoN ta):=by
 intro pins s σ H Q I h;refine UnaryOp_ (thn (ha pins s σ H _ I h) fun v s1 ⟨x,H1,I1,r1,q1⟩=>?_);obtain⟨c,rfl,q1⟩:=q1;cases r1;exact not_of (wpAny_truthy_bool ⟨.bl (!c),H1,I1,rfl,q1⟩)
def tIf (t:TT)(ta tb:TE):TE:=fun σ H Q=>t σ H fun c H1=>if c=true then ta σ H1 Q else tb σ H1 Q
theorem zjv (hc:PT X c tA)(ha:PE X a ta)(hb:PE X b tb):PE X (.IfExp c a b pos) (tIf tA ta tb):=by
 intro pins s σ H Q I h;refine wpAny_IfExp (thn (hc pins s σ H _ I h) fun d s1 ⟨H1,I1,q1⟩=>?_);cases d with
 |true=>exact ha pins s1 σ H1 Q I1 q1
 |false=>exact hb pins s1 σ H1 Q I1 q1
end
end L2
namespace L2
open PySem PySem.Spec PyProof.Rows
def SqL (K:PySem.W.Frag)(H:Hp)(a:Addr)(xs:List V):Prop:=
 Rd H a (.lst xs)\/
  ∃(o:Obj) (its:Array Value) (n:Nat),K.lookup a=some o/\o.cls=.type "list"/\o.dict=none/\o.data=.seq its n/\its.size<=sizeLine/\Vals xs its.toList
def SqT (K:PySem.W.Frag)(H:Hp)(a:Addr)(xs:List V):Prop:=
 Rd H a (.tup xs)\/
  ∃(o:Obj) (its:Array Value) (n:Nat),K.lookup a=some o/\o.cls=.type "tuple"/\o.data=.seq its n/\its.size<=sizeLine/\Vals xs its.toList
noncomputable def absV:Value->Option V
 |.none=>some .non
 |.bool b=>some (.bl b)
 |.int i _=>some (.int i)
 |.str x _=>some (.str x)
 |.bytes b _=>some (.byt b)
 |.float b _=>some (.flt b)
 |.ref a=>some (.ref a)
 |.type n=>some (.ty n)
 |_=>none
theorem RelV.abs (r:RelV x u):absV u=some x:=by
 cases x with
 |non=>cases r;rfl
 |bl _=>cases r;rfl
 |int _=>obtain⟨t,rfl⟩:=r;rfl
 |str _=>obtain⟨t,rfl⟩:=r;rfl
 |byt _=>obtain⟨t,rfl⟩:=r;rfl
 |flt _=>obtain⟨t,rfl⟩:=r;rfl
 |ref _=>cases r;rfl
 |ty _=>cases r;rfl
theorem RelV.inj (r:RelV x u)(q:RelV y u):x=y:=Option.some.inj (r.abs.symm.trans q.abs)
theorem Vals.inj:∀{xs ys:List V} {us:List Value},Vals xs us->Vals ys us->xs=ys
 |_,_,_,.nil,.nil=>rfl
 |_,_,_,.cons r t,.cons r' t'=>by rw[r.inj r',Vals.inj t t']
section
variable {X:Cx} {pins:List (Addr × Obj)} {σ:St} {H:Hp} {s:Shared} {a:Addr} {xs ys:List V}
theorem SqL.of {K:PySem.W.Frag}(h:H a=some (.lst xs)):SqL K H a xs:=.inl (.inl h)
theorem SqT.of {K:PySem.W.Frag}(h:H a=some (.tup xs)):SqT K H a xs:=.inl (.inl h)
theorem Inv.list (I:Inv X pins σ H s)(h:SqL X.K H a xs):∃its:List Value,Vals xs its/\PlainL s.heap a its.toArray/\xs.length<=sizeLine:=by
 rcases h with h|⟨o,its,n,hk,hc,hd,hs,hz,r⟩
 . obtain⟨z,its,n,r,e⟩:=h.ok I.hok;exact⟨its,r,⟨_,n,e,rfl,rfl,rfl⟩,z⟩
 . refine⟨its.toList,r,⟨o,n,I.kIn a o hk,hc,hd,by simpa using hs⟩,?_⟩;have e:=r.length;simp at e;omega
theorem Inv.tuple (I:Inv X pins σ H s)(h:SqT X.K H a xs):∃its:List Value,Vals xs its/\IsTup s.heap a its.toArray/\xs.length<=sizeLine:=by
 rcases h with h|⟨o,its,n,hk,hc,hs,hz,r⟩
 . obtain⟨z,its,r,p⟩:=h.ok I.hok;exact⟨its,r,p,z⟩
 . refine⟨its.toList,r,⟨o,I.kIn a o hk,hc,n,by simpa using hs⟩,?_⟩;have e:=r.length;simp at e;omega
theorem Inv.list_inj (I:Inv X pins σ H s)(h:SqL X.K H a xs)(h':SqL X.K H a ys):xs=ys:=by
 obtain⟨its,r,⟨o,n,e,_,_,d⟩,_⟩:=I.list h;obtain⟨its',r',⟨o',n',e',_,_,d'⟩,_⟩:=I.list h';rw[e] at e';cases e';rw[d] at d';injection d' with d1 _;have:its=its':=by simpa using congrArg Array.toList d1
 subst this;exact r.inj r'
theorem Inv.tuple_inj (I:Inv X pins σ H s)(h:SqT X.K H a xs)(h':SqT X.K H a ys):xs=ys:=by
 obtain⟨its,r,⟨o,e,_,n,d⟩,_⟩:=I.tuple h;obtain⟨its',r',⟨o',e',_,n',d'⟩,_⟩:=I.tuple h';rw[e] at e';cases e';rw[d] at d';injection d' with d1 _;have:its=its':=by simpa using congrArg Array.toList d1
 subst this;exact r.inj r'
end
noncomputable abbrev Cx.wish (X:Cx)(E:Value->Shared->Prop):Cx:={X with xe:=E}
noncomputable abbrev Cx.nox (X:Cx):Cx:=X.wish fun _ _=>False
theorem Cx.Ok.wish {X:Cx}(ok:X.Ok)(E:Value->Shared->Prop):(X.wish E).Ok:=
 ⟨ok.mod,ok.kind,ok.glob,ok.blt,ok.above,ok.inj,ok.has,ok.cab,ok.hd,ok.frames,ok.stk,ok.exf,ok.bs,ok.bsz,ok.noex,ok.exfs,ok.funs,ok.frf⟩
theorem Cx.Ok.unwish {X:Cx}(ok:(X.wish E).Ok):X.Ok:=
 ⟨ok.mod,ok.kind,ok.glob,ok.blt,ok.above,ok.inj,ok.has,ok.cab,ok.hd,ok.frames,ok.stk,ok.exf,ok.bs,ok.bsz,ok.noex,ok.exfs,ok.funs,ok.frf⟩
section
variable {X:Cx} {pins:List (Addr × Obj)} {σ:St} {H:Hp} {s:Shared} {E:Value->Shared->Prop}
theorem Inv.wish (I:Inv X pins σ H s)(E:Value->Shared->Prop):Inv (X.wish E) pins σ H s:=⟨I.ok.wish E,I.os,I.bare,I.base,I.loc,I.cell,I.free,I.freeC,I.pin,I.hok,I.len⟩
theorem Inv.unwish (I:Inv (X.wish E) pins σ H s):Inv X pins σ H s:=⟨I.ok.unwish,I.os,I.bare,I.base,I.loc,I.cell,I.free,I.freeC,I.pin,I.hok,I.len⟩
theorem SP.unwish (h:SP (X.wish E) pins D f s'):SP X pins D f s':=by
 cases f with
 |next=>obtain⟨σ',H',I,q⟩:=h;exact⟨σ',H',I.unwish,q⟩
 |brk=>obtain⟨σ',H',I,q⟩:=h;exact⟨σ',H',I.unwish,q⟩
 |cont=>obtain⟨σ',H',I,q⟩:=h;exact⟨σ',H',I.unwish,q⟩
 |ret u=>obtain⟨v,σ',H',I,r,q⟩:=h;exact⟨v,σ',H',I.unwish,r,q⟩
theorem PSs.nox {st:List Stmt}(h:PSs X.nox st t):PSs X st t:=fun pins s σ H D I hw=>
 wpAny_mono (h pins s σ H D (I.wish _) hw) (fun _ _ q=>q.unwish) fun _ _ z=>False.elim z
end
section
variable {X:Cx} {st:Stmt} {rest:List Stmt} {t u:TS} {e:Expr} {te:TE} {pos:Pos}
def zoO:TS:=fun D σ H=>D.nx σ H
def tSeq (t u:TS):TS:=fun D σ H=>t {D with nx:=u D} σ H
theorem zdG:PSs X [] zoO:=fun _ _ σ H _ I h=>wpAny_execs_nil ⟨σ,H,I,h⟩
theorem zat (h1:PS X st t)(h2:PSs X rest u):PSs X (st::rest) (tSeq t u):=by
 intro pins s σ H D I h;refine wpAny_execs_cons (thn (h1 pins s σ H {D with nx:=u D} I h) fun f s1 q=>?_);cases f with
 | next=>
   obtain⟨σ',H',I',q⟩:=q;exact h2 pins s1 σ' H' D I' q
 |ret v=>exact q
 |brk=>exact q
 |cont=>exact q
theorem Inv.quiet {σ:St}(I:Inv X pins σ H s):interactive X.env=false:=by simp[interactive,I.ok.kind]
def zoP (te:TE):TS:=fun D σ H=>te σ H fun _ H1=>D.nx σ H1
theorem ze4 (he:PE X e te)(hs:swapsWith e none pos.line X.env=pure false:=by rfl):PS X (.Expr e pos) (zoP te):=by
 intro pins s σ H D I h;exact wpAny_Expr_any (thn (he pins s σ H _ I h) fun v s1 ⟨x,H1,I1,r1,q1⟩=>⟨σ,H1,I1,q1⟩) I.quiet hs
def tRet (te:TE):TS:=fun D σ H=>te σ H D.rt
theorem znj (he:PE X e te):PS X (.Return (some e) pos) (tRet te):=by
 intro pins s σ H D I h;exact wpAny_Return_some (thn (he pins s σ H _ I h) fun v s1 ⟨x,H1,I1,r1,q1⟩=>⟨x,σ,H1,I1,r1,q1⟩)
def tIfS (c:TT)(t u:TS):TS:=fun D σ H=>c σ H fun b H1=>if b=true then t D σ H1 else u D σ H1
theorem znk (hc:PT X c tc)(ha:PSs X a t)(hb:PSs X b u):PS X (.If c a b pos) (tIfS tc t u):=by
 intro pins s σ H D I h;refine wpAny_If (thn (hc pins s σ H _ I h) fun d s1 ⟨H1,I1,q1⟩=>?_);cases d with
 |true=>exact ha pins s1 σ H1 D I1 q1
 |false=>exact hb pins s1 σ H1 D I1 q1
end
abbrev TG:=V->St->Hp->(St->Hp->Prop)->Prop
abbrev TGs:=List V->St->Hp->(St->Hp->Prop)->Prop
def PG (X:Cx)(target:Expr)(t:TG):Prop:=
 ∀(pins:List (Addr × Obj)) (s:Shared) (σ:St) (H:Hp) (v:V) (u:Value) (Q:St->Hp->Prop),Inv X pins σ H s->RelV v u->t v σ H Q->
  wpAny (model X.prog X.w) X.A (assign target X.env u) (fun _ s'=>∃σ' H',Inv X pins σ' H' s'/\Q σ' H') X.xe s
def PGs (X:Cx)(ts:List Expr)(t:TGs):Prop:=
 ∀(pins:List (Addr × Obj)) (s:Shared) (σ:St) (H:Hp) (vs:List V) (us:List Value) (Q:St->Hp->Prop),Inv X pins σ H s->Vals vs us->t vs σ H Q->
  wpAny (model X.prog X.w) X.A (assignInOrder ((assignEach ts X.env).map (·.2)) us) (fun _ s'=>∃σ' H',Inv X pins σ' H' s'/\Q σ' H') X.xe s
abbrev TSet:=V->V->V->Hp->(Hp->Prop)->Prop
def PSet (X:Cx)(t:TSet):Prop:=
 ∀(pins:List (Addr × Obj)) (s:Shared) (σ:St) (H:Hp) (o i v:V) (ov iv u:Value) (Q:Hp->Prop),Inv X pins σ H s->RelV o ov->RelV i iv->RelV v u->t o i v H Q->
  wpAny (model X.prog X.w) X.A (setItem ov iv u) (fun _ s'=>∃H',Inv X pins σ H' s'/\Q H') X.xe s
section
variable {X:Cx} {pos:Pos}
def zeq (i:Nat):TG:=fun v σ H Q=>Q (σ.set i (some v)) H
theorem zhF (hN:X.N.Nodup)(hi:X.N[i]?=some x)(hx:Loc X.env.scope x)(hf:X.fn x=true\/X.env.scope.names.lookup x=some .local:=by first|exact .inl rfl|exact .inr rfl|assumption):PG X (.Name x pos) (zeq i):=by
 intro pins s σ H v u Q I r h;exact wpAny_assign_Name (zdr I hN hi hx r (fun s' I'=>⟨_,H,I',h⟩) hf)
def gNil:TGs:=fun vs σ H Q=>vs=[]/\Q σ H
def zps (t:TG)(u:TGs):TGs:=fun vs σ H Q=>∃v r,vs=v::r/\t v σ H fun σ' H'=>u r σ' H' Q
theorem zlv:PGs X [] gNil:=by
 intro pins s σ H vs us Q I r h;obtain⟨e,h⟩:=h;exact assignInOrder_nil ⟨σ,H,I,h⟩
theorem zjp (h1:PG X e t)(h2:PGs X es u)
  (hs:(assignEach (e::es) X.env).map (·.2)=assign e X.env::(assignEach es X.env).map (·.2):=by rfl):PGs X (e::es) (zps t u):=by
 intro pins s σ H vs us Q I r h;obtain⟨v,vr,e1,h⟩:=h;subst e1;cases r with
 | cons r rr=>
   rw[hs];refine assignInOrder_cons (thn (h1 pins s σ H _ _ _ I r h) fun _ s1 ⟨σ1,H1,I1,q1⟩=>?_);exact h2 pins s1 σ1 H1 _ _ Q I1 rr q1
def gTup (K:PySem.W.Frag)(n:Nat)(t:TGs):TG:=fun v σ H Q=>∃a xs,v=.ref a/\SqT K H a xs/\xs.length=n/\t xs σ H Q
theorem znp {k:Nat}(hc:X.calm=true)(h:PGs X es t)
  (hn:(assignEach es X.env).length=n:=by rfl) (hst:(assignEach es X.env).findIdx? (·.1)=none:=by rfl):PG X (.Tuple es k pos) (gTup X.K n t):=by
 intro pins s σ H v u Q I r hw;obtain⟨a,xs,e1,hq,hl,hw⟩:=hw;subst e1;cases r;obtain⟨its,rv,ht,hz⟩:=I.tuple hq;refine assign_Tuple_tuple (I.ok.hd hc) ht (by simp[hn,<-hl,rv.length]) hst fun h' hx=>?_;have I1:Inv X pins σ H {s with heap:=h'}:=I.kept (t':=s.toks) fun b o e=>hx b o (ne_of_lt (Heap.lt_size e)) e;exact h pins _ σ H xs _ Q I1 (by simpa using rv) hw
def tAsg (te:TE)(g:TG):TS:=fun D σ H=>te σ H fun x H1=>g x σ H1 D.nx
theorem znm (he:PE X e te)(hg:PG X tg g)(hs:swapsWithSole [tg] e pos.line X.env=pure false:=by rfl)(hw:swappedStores [tg] e X.env=pure none:=by rfl)
  (h1:(assignEach [tg] X.env).map (·.2)=[assign tg X.env]:=by rfl):PS X (.Assign [tg] e pos) (tAsg te g):=by
 intro pins s σ H D I h;refine wpAny_Assign_stores (thn (he pins s σ H _ I h) fun v s1 ⟨x,H1,I1,r1,q1⟩=>?_) hs hw;rw[h1];exact thn (hg pins s1 σ H1 x v _ I1 r1 q1) fun _ s2 q=>q
theorem zeg (hN:X.N.Nodup)(hi:X.N[i]?=some x)(hx:Loc X.env.scope x)(he:PE X e te)(hs:swapsWith e (some (.Name x pos')) pos.line X.env=pure false:=by rfl)(hf:X.fn x=true\/X.env.scope.names.lookup x=some .local:=by first|exact .inl rfl|exact .inr rfl|assumption) :
  PS X (.Assign [.Name x pos'] e pos) (tAsg te (zeq i)):=by
 intro pins s σ H D I h;refine wpAny_Assign_Name (thn (he pins s σ H _ I h) fun v s1 ⟨y,H1,I1,r1,q1⟩=>?_) hs;exact zdr I1 hN hi hx r1 (fun s2 I2=>⟨_,H1,I2,q1⟩) hf
end
section
variable {X:Cx} {pos:Pos}
end
structure It where
 go:Nat->Hp->Prop
 yld:Nat->Hp->V->Hp->Prop
 stop:Nat->Hp->Prop
def FpOk (X:Cx)(pins:List (Addr × Obj))(H:Hp)(b:Addr):Prop:=
 H b=none/\b≠X.env.locals/\b∉X.fs/\(b∈X.ex\/X.s₀.heap.objs.size<=b)/\(∀x c,X.env.cells.lookup x=some c->c≠b)/\∀p∈X.pn++pins,p.1≠b
theorem Inv.fpOk {σ:St}{b:Addr}(I:Inv X pins σ H s)(hb:s.heap.objs.size<=b)(hn:H' b=none):FpOk X pins H' b:=by
 refine⟨hn,ne_of_gt (lt_of_lt_of_le I.lt hb),I.nofs hb,.inr (le_trans I.sz hb),fun x c e z=>?_,fun p hp z=>?_⟩
 . obtain⟨v,q⟩:=I.cell x c e;exact absurd (lt_of_lt_of_le q.lt (by rw[z];exact hb)) (lt_irrefl _)
 . exact absurd (lt_of_lt_of_le (Heap.lt_size (I.pin p hp).1) (by rw[z];exact hb)) (lt_irrefl _)
structure Turn (P:Program) (w:World) (K:PySem.W.Frag) (tg:Expr) (J:It) (fp:List Addr) (it:Addr) (tn:Nat->Heap->Prop):Prop where
 mem:it∈fp
 obj:∀i h,tn i h->∀b∈fp,∃o,h.get? b=some o/\∀v,o.data≠.cell v
 keep:∀i h h',tn i h->(∀b∈fp,∀o,h.get? b=some o->h'.get? b=some o)->tn i h'
 item:∀(X:Cx),X.prog=P->X.w=w->X.K=K->X.calm=true->∀(i:Nat) (pins:List (Addr × Obj)) (s:Shared) (σ:St) (H:Hp) (E:Value->Shared->Prop),Inv X pins σ H s->(∀b∈fp,FpOk X pins H b)->tn i s.heap->J.go i H->
  wpAny (model P w) X.A (pyNext (.ref it)) (fun r s1=>∃u,r=some u/\
   wpAny (model P w) X.A (letOwnedTupleGo tg (.ref it) u) (fun _ s2=>∃x H',Inv X pins σ H' s2/\RelV x u/\J.yld i H x H'/\tn (i+1) s2.heap/\∀b∈fp,H' b=none) E s1) E s
 done:∀(X:Cx),X.prog=P->X.w=w->X.K=K->X.calm=true->∀(i:Nat) (pins:List (Addr × Obj)) (s:Shared) (σ:St) (H:Hp) (E:Value->Shared->Prop),Inv X pins σ H s->(∀b∈fp,FpOk X pins H b)->tn i s.heap->J.stop i H->
  wpAny (model P w) X.A (pyNext (.ref it)) (fun r s1=>r=none/\Inv X pins σ H s1) E s
 self:∀(A:Around) (i:Nat) (s:Shared) (Q:Value->Shared->Prop) (E:Value->Shared->Prop),tn i s.heap->Q (.ref it) s->wpAny (model P w) A (pyIter (.ref it)) Q E s
abbrev TI:=St->Hp->(It->Hp->Prop)->Prop
def PIE (X:Cx)(pins:List (Addr × Obj))(σ:St)(tg:Expr)(R:It->Hp->Prop)(itv:Value)(s2:Shared):Prop:=
 ∃(it:Addr) (fp:List Addr) (tn:Nat->Heap->Prop) (J:It) (H':Hp),itv=.ref it/\Inv X pins σ H' s2/\Turn X.prog X.w X.K tg J fp it tn/\tn 0 s2.heap/\(∀b∈fp,FpOk X pins H' b)/\R J H'
def PI (X:Cx)(tg iter:Expr)(wi:TI):Prop:=
 ∀(pins:List (Addr × Obj)) (s:Shared) (σ:St) (H:Hp) (R:It->Hp->Prop),Inv X pins σ H s->wi σ H R->
  wpAny (model X.prog X.w) X.A (eval iter X.env) (fun v s1=>wpAny (model X.prog X.w) X.A (pyIter v) (PIE X pins σ tg R) X.xe s1) X.xe s
theorem zlT (ho:s.heap.get? it=some o)(hc:o.cls=.type n)(hd:o.data=.fields vs)
  (hn:["enumerate","zip","dict_itemiterator","dict_reverseitemiterator","odict_iterator","itertools.zip_longest","itertools.pairwise"].contains n=false) (hQ:Q () s):wpAny M A (letOwnedTupleGo tg (.ref it) u) Q E s:=by
 cases tg<;>first
  |exact wpAny_pure hQ
  |(cases u<;>first
   |exact wpAny_pure hQ
   | (refine wpAny_bind (wpAny_load ho ?_)
      rw[hc,hd];show wpAny M A (if (["enumerate","zip","dict_itemiterator","dict_reverseitemiterator","odict_iterator","itertools.zip_longest","itertools.pairwise"].contains n&&vs[0]? == some (rawInt _))=true then _ else _) Q E s;rw[if_neg (by intro h;rw[hn,Bool.false_and] at h;cases h)];exact wpAny_pure hQ))
noncomputable def Itl (K:PySem.W.Frag)(a:Addr):It:=
 ⟨fun i H=>∃xs x,SqL K H a xs/\xs[i]?=some x,fun i H x H'=>H'=H/\∀xs,SqL K H a xs->xs[i]?=some x,fun i H=>∃xs,SqL K H a xs/\xs.length<=i⟩
noncomputable def Itt (K:PySem.W.Frag)(a:Addr):It:=
 ⟨fun i H=>∃xs x,SqT K H a xs/\xs[i]?=some x,fun i H x H'=>H'=H/\∀xs,SqT K H a xs->xs[i]?=some x,fun i H=>∃xs,SqT K H a xs/\xs.length<=i⟩
noncomputable def Itr (lo:Int)(n:Nat):It:=⟨fun i _=>i<n,fun i H x H'=>H'=H/\x=.int (lo+i),fun i _=>n<=i⟩
theorem zha {K:PySem.W.Frag}(a it:Addr):Turn P w K tg (Itl K a) [it] it (fun i h=>h.IsListIter it a i) where
 mem:=by simp
 obj:=fun i h st b hb=>by
  have e:b=it:=by simpa using hb
  subst e;obtain⟨o,e,c,d⟩:=st;exact⟨o,e,fun v z=>by rw[d] at z;cases z⟩
 keep:=fun i h h' st k=>st.at fun o e=>k it (by simp) o e
 item:=by
  intro X hP hw hK hc i pins s σ H E I hf st hg;subst hP hw hK;obtain⟨xs,x,hq,hx⟩:=hg;obtain⟨its,rv,p,hz⟩:=I.list hq;obtain⟨u,hu,ru⟩:=rv.get hx;obtain⟨f0,f1,f2,f3,f4,f5⟩:=hf it (by simp);refine wpAny_pyNext_list_item st p.isList (by simpa using hu) fun h' st' sb=>?_;have I1:Inv X pins σ H {s with heap:=h'}:=I.turned (t':=s.toks) (fun b o hb e=>(sb.2 b hb).trans e) f0 f1 f3 f4 f5;obtain⟨o,e,c,d⟩:=id st';exact⟨u,rfl,zlT e c d (by decide) ⟨x,H,I1,ru,⟨rfl,fun ys hy=>by rw[I.list_inj hy hq];exact hx⟩,st',fun b hb=>(hf b hb).1⟩⟩
 done:=by
  intro X hP hw hK hc i pins s σ H E I hf st hg;subst hP hw hK;obtain⟨xs,hq,hx⟩:=hg;obtain⟨its,rv,p,hz⟩:=I.list hq;obtain⟨f0,f1,f2,f3,f4,f5⟩:=hf it (by simp);have hl:=rv.length;exact wpAny_pyNext_list_end (I.ok.hd hc) st p.isList (by simp;omega) fun h' eb=>⟨rfl,I.turned (t':=s.toks) (fun b o hb e=>eb b o hb e) f0 f1 f3 f4 f5⟩
 self:=fun _ _ _ _ _ st h=>wpAny_pyIter_listiter st h
theorem zgl {K:PySem.W.Frag}(a it:Addr):Turn P w K tg (Itt K a) [it] it (fun i h=>h.IsTupleIter it a i) where
 mem:=by simp
 obj:=fun i h st b hb=>by
  have e:b=it:=by simpa using hb
  subst e;obtain⟨o,e,c,d⟩:=st;exact⟨o,e,fun v z=>by rw[d] at z;cases z⟩
 keep:=fun i h h' st k=>st.at fun o e=>k it (by simp) o e
 item:=by
  intro X hP hw hK hc i pins s σ H E I hf st hg;subst hP hw hK;obtain⟨xs,x,hq,hx⟩:=hg;obtain⟨its,rv,p,hz⟩:=I.tuple hq;obtain⟨u,hu,ru⟩:=rv.get hx;obtain⟨f0,f1,f2,f3,f4,f5⟩:=hf it (by simp);refine wpAny_pyNext_tuple_item st p (by simpa using hu) fun h' st' sb=>?_;have I1:Inv X pins σ H {s with heap:=h'}:=I.turned (t':=s.toks) (fun b o hb e=>(sb.2 b hb).trans e) f0 f1 f3 f4 f5;obtain⟨o,e,c,d⟩:=id st';exact⟨u,rfl,zlT e c d (by decide) ⟨x,H,I1,ru,⟨rfl,fun ys hy=>by rw[I.tuple_inj hy hq];exact hx⟩,st',fun b hb=>(hf b hb).1⟩⟩
 done:=by
  intro X hP hw hK hc i pins s σ H E I hf st hg;subst hP hw hK;obtain⟨xs,hq,hx⟩:=hg;obtain⟨its,rv,p,hz⟩:=I.tuple hq;obtain⟨f0,f1,f2,f3,f4,f5⟩:=hf it (by simp);have hl:=rv.length;exact wpAny_pyNext_tuple_end (I.ok.hd hc) st p (by simp;omega) fun h' eb=>⟨rfl,I.turned (t':=s.toks) (fun b o hb e=>eb b o hb e) f0 f1 f3 f4 f5⟩
 self:=fun _ _ _ _ _ st h=>wpAny_pyIter_tupleiter st h
theorem zgm {K:PySem.W.Frag}(it:Addr)(lo:Int)(n:Nat):Turn P w K tg (Itr lo n) [it] it (fun i h=>IsRangeIter h it (lo+(i:Nat) * 1) ((n:Int) - (i:Nat)) 1) where
 mem:=by simp
 obj:=fun i h st b hb=>by
  have e:b=it:=by simpa using hb
  subst e;exact⟨_,st,fun v z=>by
   have z':Data.fields _=Data.cell v:=z;cases z'⟩
 keep:=fun i h h' st k=>k it (by simp) _ st
 item:=by
  intro X hP hw hK hc i pins s σ H E I hf st hg;subst hP hw hK;obtain⟨f0,f1,f2,f3,f4,f5⟩:=hf it (by simp);have W:=Walks.range (prog:=X.prog) (w:=X.w) (I.ok.hd hc) it lo 1 n;refine W.item i s _ _ hg st fun v h' tk hv st' kk=>?_;obtain⟨t,rfl⟩:=hv;have I1:Inv X pins σ H {s with heap:=h',toks:=tk}:=I.turned (fun b o hb e=>kk b o (by simpa using hb) e) f0 f1 f3 f4 f5;refine⟨_,rfl,zlT st' rfl rfl (by decide) ⟨.int (lo+i),H,I1,⟨t,?_⟩,⟨rfl,rfl⟩,st',fun b hb=>(hf b hb).1⟩⟩;rw[Int.mul_one]
 done:=by
  intro X hP hw hK hc i pins s σ H E I hf st hg;obtain⟨f0,f1,f2,f3,f4,f5⟩:=hf it (by simp);exact wpAny_pyNext_range_end (I.ok.hd hc) st (by have:n<=i:=hg;omega) fun h' eb=>⟨rfl,I.turned (t':=s.toks) (fun b o hb e=>eb b o hb e) f0 f1 f3 f4 f5⟩
 self:=fun _ _ _ _ _ st h=>wpAny_pyIter_rangeiter st h
end L2
namespace L2
open PySem PySem.Spec PyProof.Rows
section
variable {X:Cx} {tg:Expr}
theorem zjd {σ:St}{lo hi:Int}(I:Inv X pins σ H s)(h1:-(2 ^ 62)<=lo)(h2:lo<2 ^ 62)(h3:-(2 ^ 62)<=hi)(h4:hi<2 ^ 62)
  (q:R (Itr lo (hi - lo).toNat) H):wpAny (model X.prog X.w) X.A (pyIter (.ref s.heap.objs.size)) (PIE X pins σ tg R) E {s with heap:=s.heap.push {cls:=.type "range",data:=.fields #[.int lo t,.int hi u,.int 1 v]},toks:=tk}:=by
 apply wpAny_pyIter_range (IsRange.new ..) (small_one h1 h2 h3 h4);have I1:Inv X pins σ H {s with heap:=s.heap.push {cls:=.type "range",data:=.fields #[.int lo t,.int hi u,.int 1 v]},toks:=tk}:=I.kept fun b o e=>Heap.get?_push_of_some _ e;refine⟨(s.heap.push {cls:=.type "range",data:=.fields #[.int lo t,.int hi u,.int 1 v]}).objs.size,[(s.heap.push {cls:=.type "range",data:=.fields #[.int lo t,.int hi u,.int 1 v]}).objs.size],_,_,H,rfl,
  I1.kept (t':=tk) fun b o e=>Heap.get?_push_of_some _ e,zgm _ lo (hi - lo).toNat,?_,fun b hb=>?_,q⟩
 . have e1:lo+((0:Nat):Int) * 1=lo:=by simp
   have e2:(((hi - lo).toNat:Nat):Int) - ((0:Nat):Int)=Builtin.Range.rangeSize lo hi 1:=by rw[rangeSize_one];split<;>omega
   rw[e1,e2];exact Heap.get?_push_size _ rfl
 . have e:b=(s.heap.push {cls:=.type "range",data:=.fields #[.int lo t,.int hi u,.int 1 v]}).objs.size:=by simpa using hb
   subst e;exact I1.fpOk (le_refl _) (I1.hok.fresh (le_refl _))
def zpo (ta:TA):TI:=fun σ H R=>ta σ H fun vs H1=>∃j:Int,vs=[.int j]/\-(2 ^ 62)<=j/\j<2 ^ 62/\R (Itr 0 j.toNat) H1
theorem zhE (hg:Gl X "range")(hm:X.mg "range"=none)(ha:PA X [a] ta)(hs:starEach [a] X.env=[(false,eval a X.env)]:=by rfl):PI X tg (.Call (.Name "range" p) [a] [] pos) (zpo ta):=by
 intro pins s σ H R I h;refine Call_ (zeo I hg hm boot_range (PyProof.Rows.callWith_type1 (thn (ha pos pins s σ H _ I h) fun us s1 ⟨vs,H1,I1,r1,q1⟩=>?_) hs rfl));obtain⟨j,e,q1,q2,q⟩:=q1;subst e;cases r1 with
 | cons r rr=>
   cases rr;obtain⟨t,rfl⟩:=r;exact call_range_1 (zjd I1 (by omega) (by omega) q1 q2 (by simpa using q))
def tFor (wi:TI)(g:TG)(tb:TS):TS:=fun D σ H=>wi σ H fun J H1=>∃W:Nat->Nat->St->Hp->Prop,(∃m,W 0 m σ H1)/\∀i m σ H,W i m σ H->
 (J.stop i H/\D.nx σ H)\/(J.go i H/\∃N:St->Hp->Prop,(∀σ' H',N σ' H'->∃m',m'<m/\W (i+1) m' σ' H')/\∀x H',J.yld i H x H'->g x σ H' fun σ2 H2=>tb {D with nx:=N,ct:=N,bk:=D.nx} σ2 H2)
noncomputable def zei (fp:List Addr)(h:Heap):List (Addr × Obj):=fp.filterMap fun b=>(h.get? b).map fun o=>(b,o)
theorem zbI (hb:b∈fp)(e:h.get? b=some o):(b,o)∈zei fp h:=List.mem_filterMap.mpr ⟨b,hb,by rw[e];rfl⟩
theorem zhN (hp:p∈zei fp h):p.1∈fp/\h.get? p.1=some p.2:=by
 obtain⟨b,hb,e⟩:=List.mem_filterMap.mp hp;cases q:h.get? b with
 |none=>rw[q] at e;cases e
 | some o=>
   rw[q] at e;have e':(b,o)=p:=Option.some.inj e;subst e';exact⟨hb,q⟩
theorem Inv.pinned {σ:St}(I:Inv X pins σ H s)(hf:∀b∈fp,FpOk X pins H b)(ho:∀b∈fp,∃o,s.heap.get? b=some o/\∀v,o.data≠.cell v):Inv X (pins++zei fp s.heap) σ H s:=
 I.pins_of fun p hp=>(mem_append.mp hp).elim (fun z=>I.pin p (mem_append_right _ z)) fun z=>by
  obtain⟨hb,e⟩:=zhN z;obtain⟨f0,f1,f2,_⟩:=hf p.1 hb;obtain⟨o,e',d⟩:=ho p.1 hb;rw[e] at e';cases e';exact⟨e,f0,f1,f2,d⟩
theorem Inv.unpinned {σ:St}(I:Inv X (pins++pl) σ H s):Inv X pins σ H s:=I.pins_of fun p hp=>I.pin p (mem_append_right _ (mem_append_left _ hp))
theorem znl (hp:PassesOwn (model X.prog X.w) X.A X.env X.xe)(hc:X.calm=true)(hi:PI X tg iter wi)(hg:PG X tg g)(hb:PSs X body tb)
  (hs:∀x,foldedSetIterable iter X.env x=pure x:=by intro _;rfl):PS X (.For tg iter body [] pos) (tFor wi g tb):=by
 intro pins s σ H D I h;refine wpAny_For (thn (hi pins s σ H _ I h) fun v s1 h1=>thn h1 fun itv s2 h2=>?_) hs;obtain⟨it,fp,tn,J,H2,e,I2,T,st2,f2,W,⟨m0,w0⟩,turn⟩:=h2;subst e;have stat:∀{H':Hp},(∀b∈fp,H' b=none)->∀b∈fp,FpOk X pins H' b:=fun hn b hb=>⟨hn b hb,(f2 b hb).2⟩;refine codeAny_forLoop_any (fun n s'=>∃i σ' H',Inv X pins σ' H' s'/\tn i s'.heap/\(∀b∈fp,H' b=none)/\W i n σ' H') ?_ m0 ⟨0,σ,H2,I2,st2,fun b hb=>(f2 b hb).1,w0⟩;rintro n s3 ⟨i,σ3,H3,I3,st3,fr3,w3⟩;rcases turn i n σ3 H3 w3 with ⟨stop,qn⟩|⟨go,N,hN,step⟩
 . refine wpAny_passesOwn hp (thn (T.done X rfl rfl rfl hc i pins s3 σ3 H3 X.xe I3 (stat fr3) st3 stop) fun r s4 ⟨hr,I4⟩=>?_);subst hr;exact wpAny_execs_nil ⟨σ3,H3,I4,qn⟩
 . refine wpAny_passesOwn hp (thn (T.item X rfl rfl rfl hc i pins s3 σ3 H3 X.xe I3 (stat fr3) st3 go) fun r s4 ⟨u,hr,h4⟩=>?_);subst hr;refine wpAny_passesOwn hp (thn h4 fun _ s5 ⟨x,H5,I5,r5,y5,st5,fr5⟩=>?_);have I5':=I5.pinned (stat fr5) (T.obj _ _ st5);refine wpAny_passesOwn hp (thn (hg _ s5 σ3 H5 x u _ I5' r5 (step x H5 y5)) fun _ s6 ⟨σ6,H6,I6,q6⟩=>?_);refine wpAny_passesOwn hp (thn (hb _ s6 σ6 H6 _ I6 q6) fun f s7 q7=>?_);have again:∀{σ7:St} {H7:Hp},Inv X (pins++zei fp s5.heap) σ7 H7 s7->N σ7 H7->∃m,m<n/\∃i σ' H',Inv X pins σ' H' s7/\tn i s7.heap/\(∀b∈fp,H' b=none)/\W i m σ' H':=fun {σ7 H7} I7 n7=>by
    obtain⟨m',hm,w7⟩:=hN σ7 H7 n7;refine⟨m',hm,i+1,σ7,H7,I7.unpinned,T.keep _ _ _ st5 fun b hb o e=>(I7.pin (b,o) (mem_append_right _ (mem_append_right _ (zbI hb e)))).1,fun b hb=>?_,w7⟩;obtain⟨o,e,d⟩:=T.obj _ _ st5 b hb;exact (I7.pin (b,o) (mem_append_right _ (mem_append_right _ (zbI hb e)))).2.1
   cases f with
   |next=>obtain⟨σ7,H7,I7,n7⟩:=q7;exact again I7 n7
   |cont=>obtain⟨σ7,H7,I7,n7⟩:=q7;exact again I7 n7
   |brk=>obtain⟨σ7,H7,I7,q7⟩:=q7;exact⟨σ7,H7,I7.unpinned,q7⟩
   |ret v=>obtain⟨x7,σ7,H7,I7,r7,q7⟩:=q7;exact⟨x7,σ7,H7,I7.unpinned,r7,q7⟩
end
end L2
namespace L2
open PySem PySem.Spec PyProof.Rows
abbrev R2:=V->V->Hp->VK->Prop
def OpR (X:Cx)(f:Value->Value->Sem Value)(r:R2):Prop:=
 ∀(pins:List (Addr × Obj)) (s:Shared) (σ:St) (H:Hp) (x y:V) (v u:Value) (Q:VK),Inv X pins σ H s->RelV x v->RelV y u->r x y H Q->
  wpAny (model X.prog X.w) X.A (f v u) (EP X pins σ Q) X.xe s
def UnR (X:Cx)(f:Value->Sem Value)(r:V->Hp->VK->Prop):Prop:=
 ∀(pins:List (Addr × Obj)) (s:Shared) (σ:St) (H:Hp) (x:V) (v:Value) (Q:VK),Inv X pins σ H s->RelV x v->r x H Q->
  wpAny (model X.prog X.w) X.A (f v) (EP X pins σ Q) X.xe s
def zbt (X:Cx)(f:Value)(r:List V->Hp->VK->Prop):Prop:=
 ∀(pins:List (Addr × Obj)) (s:Shared) (σ:St) (H:Hp) (xs:List V) (us:List Value) (Q:VK),Inv X pins σ H s->Vals xs us->r xs H Q->
  wpAny (model X.prog X.w) X.A (call f us) (EP X pins σ Q) X.xe s
def TruR (X:Cx)(r:V->Hp->(Bool->Hp->Prop)->Prop):Prop:=
 ∀(pins:List (Addr × Obj)) (s:Shared) (σ:St) (H:Hp) (x:V) (v:Value) (Q:Bool->Hp->Prop),Inv X pins σ H s->RelV x v->r x H Q->
  wpAny (model X.prog X.w) X.A (truthy v) (TP X pins σ Q) X.xe s
def tOp (r:R2)(ta tb:TE):TE:=fun σ H Q=>ta σ H fun x H1=>tb σ H1 fun y H2=>r x y H2 Q
def tUn (r:V->Hp->VK->Prop)(ta:TE):TE:=fun σ H Q=>ta σ H fun x H1=>r x H1 Q
def rI (C:Int->Int->Prop)(g:Int->Int->V):R2:=fun x y H Q=>∃i j,x=.int i/\y=.int j/\C i j/\Q (g i j) H
def rI0 (g:Int->Int->V):R2:=fun x y H Q=>∃i j,x=.int i/\y=.int j/\Q (g i j) H
def rU (g:Int->V):V->Hp->VK->Prop:=fun x H Q=>∃i,x=.int i/\Q (g i) H
section
variable {X:Cx} {a b c:Expr} {ta tb tc:TE} {pos:Pos}
theorem binT (ha:PE X a ta)(hb:PE X b tb){σ:St}{R:V->V->Hp->Prop}(I:Inv X pins σ H s)
  (h:ta σ H fun x H1=>tb σ H1 fun y H2=>R x y H2) {f:Value->Value->Sem Value}
  (hf:∀v u s2 x y H2,Inv X pins σ H2 s2->RelV x v->RelV y u->R x y H2->wpAny (model X.prog X.w) X.A (f v u) Q X.xe s2) :
  wpAny (model X.prog X.w) X.A (eval a X.env) (fun v s₁=>wpAny (model X.prog X.w) X.A (eval b X.env) (fun u s₂=>wpAny (model X.prog X.w) X.A (f v u) Q X.xe s₂) X.xe s₁) X.xe s:=by
 refine thn (ha pins s σ H _ I h) fun v s1 ⟨x,H1,I1,r1,q1⟩=>?_;refine thn (hb pins s1 σ H1 _ I1 q1) fun u s2 ⟨y,H2,I2,r2,q2⟩=>?_;exact hf v u s2 x y H2 I2 r1 r2 q2
theorem zo6 (ho:OpR X (binaryOp op) r)(ha:PE X a ta)(hb:PE X b tb):PE X (.BinOp a op b pos) (tOp r ta tb):=by
 intro pins s σ H Q I h;exact wpAny_BinOp (binT ha hb I h fun v u s2 x y H2 I2 rx ry q=>ho pins s2 σ H2 x y v u Q I2 rx ry q)
theorem zo4 (ho:UnR X (unaryOp op) r)(ha:PE X a ta):PE X (.UnaryOp op a pos) (tUn r ta):=by
 intro pins s σ H Q I h;exact UnaryOp_ (thn (ha pins s σ H _ I h) fun v s1 ⟨x,H1,I1,r1,q1⟩=>ho pins s1 σ H1 x v Q I1 r1 q1)
theorem opI {g:Int->Int->Int}
  (rule:∀(i j:Int) (t u:Tok) (s:Shared) (Q:Value->Shared->Prop) (E:Value->Shared->Prop),C i j->Q (.int (g i j) s.toks) {s with toks:=s.toks+1}->wpAny (model X.prog X.w) X.A (f (.int i t) (.int j u)) Q E s) :
  OpR X f (rI C fun i j=>.int (g i j)):=by
 intro pins s σ H x y v u Q I rx ry h;obtain⟨i,j,rfl,rfl,hc,q⟩:=h;obtain⟨t,rfl⟩:=rx;obtain⟨t',rfl⟩:=ry;exact rule i j t t' s _ _ hc ⟨.int (g i j),H,I.tok _,⟨_,rfl⟩,q⟩
theorem opI0 {g:Int->Int->Int}
  (rule:∀(i j:Int) (t u:Tok) (s:Shared) (Q:Value->Shared->Prop) (E:Value->Shared->Prop),Q (.int (g i j) s.toks) {s with toks:=s.toks+1}->wpAny (model X.prog X.w) X.A (f (.int i t) (.int j u)) Q E s) :
  OpR X f (rI0 fun i j=>.int (g i j)):=by
 intro pins s σ H x y v u Q I rx ry h;obtain⟨i,j,rfl,rfl,q⟩:=h;obtain⟨t,rfl⟩:=rx;obtain⟨t',rfl⟩:=ry;exact rule i j t t' s _ _ ⟨.int (g i j),H,I.tok _,⟨_,rfl⟩,q⟩
theorem opB0 {g:Int->Int->Bool}
  (rule:∀(i j:Int) (t u:Tok) (s:Shared) (Q:Value->Shared->Prop) (E:Value->Shared->Prop),Q (.bool (g i j)) s->wpAny (model X.prog X.w) X.A (f (.int i t) (.int j u)) Q E s) :
  OpR X f (rI0 fun i j=>.bl (g i j)):=by
 intro pins s σ H x y v u Q I rx ry h;obtain⟨i,j,rfl,rfl,q⟩:=h;obtain⟨t,rfl⟩:=rx;obtain⟨t',rfl⟩:=ry;exact rule i j t t' s _ _ ⟨.bl (g i j),H,I,rfl,q⟩
def CDiv (i j:Int):Prop:=0<j/\j<1073741824
def CPow (i j:Int):Prop:=0<=j/\j<=1000000/\i.natAbs<2 ^ 64
def CMul (i j:Int):Prop:=(-(2 ^ 64)<i/\i<2 ^ 64)\/(-(2 ^ 64)<j/\j<2 ^ 64)
theorem CMul.ok (h:CMul i j):IntMulOk i j:=by
 rcases h with ⟨h1,h2⟩|⟨h1,h2⟩
 . exact .of_left (intBits_le_64 h1 h2)
 . exact .of_right (intBits_le_64 h1 h2)
theorem znG:OpR X (binaryOp .Add) (rI0 fun i j=>.int (i+j)):=opI0 fun _ _ _ _ _ _ _ q=>add_int q
theorem znz:OpR X (binaryOp .Sub) (rI0 fun i j=>.int (i - j)):=opI0 fun _ _ _ _ _ _ _ q=>sub_int q
theorem znC:OpR X (binaryOp .Mult) (rI CMul fun i j=>.int (i * j)):=opI fun _ _ _ _ _ _ _ hc q=>mul_int q hc.ok
theorem zlB:OpR X (binaryOp .FloorDiv) (rI CDiv fun i j=>.int (i / j)):=opI fun i j _ _ _ _ _ hc q=>by
 have h1:(0:Int)<j:=hc.1;have h2:j<1073741824:=hc.2;exact floordiv_int (by omega) (by rw[Int.fdiv_eq_ediv_of_nonneg i (by omega)];exact q) (.inl (PyProof.noPylong_small (by omega)))
theorem znD:OpR X (binaryOp .Mod) (rI (fun _ j=>0<j) fun i j=>.int (i % j)):=opI fun i j _ _ _ _ _ hc q=>by
 exact mod_int' (by omega) (by rw[Int.fmod_eq_emod_of_nonneg i (by omega)];exact q)
theorem znA:OpR X (binaryOp .Pow) (rI CPow fun i j=>.int (i ^ j.toNat)):=opI fun _ _ _ _ _ _ _ hc q=>pow_int_small hc.1 hc.2.1 hc.2.2 q
theorem unI {g:Int->Int}
  (rule:∀(i:Int) (t:Tok) (s:Shared) (Q:Value->Shared->Prop) (E:Value->Shared->Prop),Q (.int (g i) s.toks) {s with toks:=s.toks+1}->wpAny (model X.prog X.w) X.A (f (.int i t)) Q E s) :
  UnR X f (rU fun i=>.int (g i)):=by
 intro pins s σ H x v Q I rx h;obtain⟨i,rfl,q⟩:=h;obtain⟨t,rfl⟩:=rx;exact rule i t s _ _ ⟨.int (g i),H,I.tok _,⟨_,rfl⟩,q⟩
theorem zmt:UnR X (unaryOp .USub) (rU fun i=>.int (-i)):=unI fun _ _ _ _ _ q=>neg_int q
end
noncomputable def scal:V->V->Bool
 |.non,.non=>true|.non,.int _=>true|.int _,.non=>true|.non,.bl _=>true|.bl _,.non=>true|.non,.str _=>true|.str _,.non=>true
 |.int _,.int _=>true|.bl _,.bl _=>true|.str _,.str _=>true|.byt _,.byt _=>true
 |.int _,.str _=>true|.str _,.int _=>true|.bl _,.str _=>true|.str _,.bl _=>true
 |_,_=>false
def rEq:R2:=fun x y H Q=>scal x y=true/\Q (.bl (decide (x=y))) H
def rNe:R2:=fun x y H Q=>scal x y=true/\Q (.bl (!decide (x=y))) H
theorem ziw:decide (V.int i=V.int j)=(i == j):=by
 rw[Bool.eq_iff_iff];simp
theorem zkz:decide (V.bl i=V.bl j)=(i == j):=by
 rw[Bool.eq_iff_iff];simp
theorem ziv:decide (V.str i=V.str j)=(i == j):=by
 rw[Bool.eq_iff_iff];simp
theorem zix:decide (V.byt i=V.byt j)=(i.toList == j.toList):=by
 rw[Bool.eq_iff_iff];cases i;cases j;simp
section
variable {X:Cx} {a b c:Expr} {ta tb tc:TE} {pos:Pos}
theorem zan {σ:St}(I:Inv X pins σ H s)(q:Q (.bl k) H)(e:k=k'):EP X pins σ Q (.bool k') s:=by
 subst e;exact⟨.bl k,H,I,rfl,q⟩
theorem zph:OpR X (compareOp .Eq) rEq:=by
 intro pins s σ H x y v u Q I rx ry h;obtain⟨hs,q⟩:=h;cases x with
 | non=>
   cases rx;cases y with
   |non=>cases ry;exact PySem.EqNone.eq_none_none (zan I q (by simp))
   |bl j=>cases ry;exact PySem.EqNone.eq_none_bool (zan I q (by simp))
   |int j=>obtain⟨t',rfl⟩:=ry;exact PySem.EqNone.eq_none_int (zan I q (by simp))
   |str j=>obtain⟨t',rfl⟩:=ry;exact PySem.EqNone.eq_none_str (zan I q (by simp))
   |_=>exact absurd (show false=true from hs) Bool.false_ne_true
 | bl i=>
   cases rx;cases y with
   |non=>cases ry;exact PySem.EqNone.eq_bool_none (zan I q (by simp))
   |bl j=>cases ry;exact eq_bool (zan I q zkz)
   |str j=>obtain⟨t',rfl⟩:=ry;exact PySem.EqMixed.eq_bool_str (zan I q (by simp))
   |_=>exact absurd (show false=true from hs) Bool.false_ne_true
 | int i=>
   obtain⟨t,rfl⟩:=rx;cases y with
   |non=>cases ry;exact PySem.EqNone.eq_int_none (zan I q (by simp))
   |int j=>obtain⟨t',rfl⟩:=ry;exact eq_int (zan I q ziw)
   |str j=>obtain⟨t',rfl⟩:=ry;exact PySem.EqMixed.eq_int_str (zan I q (by simp))
   |_=>exact absurd (show false=true from hs) Bool.false_ne_true
 | str i=>
   obtain⟨t,rfl⟩:=rx;cases y with
   |non=>cases ry;exact PySem.EqNone.eq_str_none (zan I q (by simp))
   |bl j=>cases ry;exact PySem.EqMixed.eq_str_bool (zan I q (by simp))
   |int j=>obtain⟨t',rfl⟩:=ry;exact PySem.EqMixed.eq_str_int (zan I q (by simp))
   |str j=>obtain⟨t',rfl⟩:=ry;exact eq_str (zan I q ziv)
   |_=>exact absurd (show false=true from hs) Bool.false_ne_true
 | byt i=>
   obtain⟨t,rfl⟩:=rx;cases y with
   |byt j=>obtain⟨t',rfl⟩:=ry;exact PySem.W.eq_bytes (zan I q zix)
   |_=>exact absurd (show false=true from hs) Bool.false_ne_true
 |_=>cases y<;>exact absurd (show false=true from hs) Bool.false_ne_true
theorem zpc:OpR X (compareOp .NotEq) rNe:=by
 intro pins s σ H x y v u Q I rx ry h;obtain⟨hs,q⟩:=h;cases x with
 | non=>
   cases rx;cases y with
   |non=>cases ry;exact PySem.EqNone.ne_none_none (zan I q (by simp))
   |bl j=>cases ry;exact PySem.EqNone.ne_none_bool (zan I q (by simp))
   |int j=>obtain⟨t',rfl⟩:=ry;exact PySem.EqNone.ne_none_int (zan I q (by simp))
   |str j=>obtain⟨t',rfl⟩:=ry;exact PySem.EqNone.ne_none_str (zan I q (by simp))
   |_=>exact absurd (show false=true from hs) Bool.false_ne_true
 | bl i=>
   cases rx;cases y with
   |non=>cases ry;exact PySem.EqNone.ne_bool_none (zan I q (by simp))
   |bl j=>cases ry;exact ne_bool (zan I q (congrArg not zkz))
   |str j=>obtain⟨t',rfl⟩:=ry;exact PySem.EqMixed.ne_bool_str (zan I q (by simp))
   |_=>exact absurd (show false=true from hs) Bool.false_ne_true
 | int i=>
   obtain⟨t,rfl⟩:=rx;cases y with
   |non=>cases ry;exact PySem.EqNone.ne_int_none (zan I q (by simp))
   |int j=>obtain⟨t',rfl⟩:=ry;exact ne_int (zan I q (congrArg not ziw))
   |str j=>obtain⟨t',rfl⟩:=ry;exact PySem.EqMixed.ne_int_str (zan I q (by simp))
   |_=>exact absurd (show false=true from hs) Bool.false_ne_true
 | str i=>
   obtain⟨t,rfl⟩:=rx;cases y with
   |non=>cases ry;exact PySem.EqNone.ne_str_none (zan I q (by simp))
   |bl j=>cases ry;exact PySem.EqMixed.ne_str_bool (zan I q (by simp))
   |int j=>obtain⟨t',rfl⟩:=ry;exact PySem.EqMixed.ne_str_int (zan I q (by simp))
   |str j=>obtain⟨t',rfl⟩:=ry;exact ne_str (zan I q (congrArg not ziv))
   |_=>exact absurd (show false=true from hs) Bool.false_ne_true
 | byt i=>
   obtain⟨t,rfl⟩:=rx;cases y with
   |byt j=>obtain⟨t',rfl⟩:=ry;exact PySem.W.ne_bytes (zan I q (congrArg not zix))
   |_=>exact absurd (show false=true from hs) Bool.false_ne_true
 |_=>cases y<;>exact absurd (show false=true from hs) Bool.false_ne_true
theorem zpd:OpR X (compareOp .Lt) (rI0 fun i j=>.bl (decide (i<j))):=opB0 fun _ _ _ _ _ _ _ q=>lt_int q
theorem zpe:OpR X (compareOp .LtE) (rI0 fun i j=>.bl (decide (i<=j))):=opB0 fun _ _ _ _ _ _ _ q=>le_int q
theorem zpf:OpR X (compareOp .Gt) (rI0 fun i j=>.bl (decide (j<i))):=opB0 fun _ _ _ _ _ _ _ q=>gt_int q
theorem zpg:OpR X (compareOp .GtE) (rI0 fun i j=>.bl (decide (j<=i))):=opB0 fun _ _ _ _ _ _ _ q=>ge_int q
theorem zly (ho:OpR X (compareOp op) r)(ha:PE X a ta)(hb:PE X b tb)(hm:behindInMarks op b=false):PE X (.Compare a [op] [b] pos) (tOp r ta tb):=by
 intro pins s σ H Q I h;exact wpAny_Compare1 (binT ha hb I h fun v u s2 x y H2 I2 rx ry q=>ho pins s2 σ H2 x y v u Q I2 rx ry q) hm
def zmD (t:TE):TT:=fun σ H Q=>t σ H fun x H'=>∃k,x=.bl k/\Q k H'
theorem zlp (ho:OpR X (compareOp op) r)(ha:PE X a ta)(hb:PE X b tb)(hm:behindInMarks op b=false):PT X (.Compare a [op] [b] pos) (zmD (tOp r ta tb)):=by
 intro pins s σ H Q I h;refine wpAny_isTrue_Compare1 (thn (ha pins s σ H _ I h) fun v s1 ⟨x,H1,I1,r1,q1⟩=>thn (hb pins s1 σ H1 _ I1 q1) fun u s2 ⟨y,H2,I2,r2,q2⟩=>
  thn (ho pins s2 σ H2 x y v u _ I2 r1 r2 q2) fun c s3 ⟨z,H3,I3,r3,k,e,q3⟩=>?_) hm
 subst e;cases r3;exact wpAny_truthy_bool ⟨H3,I3,q3⟩
def zka (r r':R2)(ta tb tc:TE):TE:=fun σ H Q=>ta σ H fun x H1=>tb σ H1 fun y H2=>r x y H2 fun z H3=>∃k,z=.bl k/\
 (if k=true then tc σ H3 fun w' H4=>r' y w' H4 Q else Q (.bl false) H3)
theorem zjw (ho:OpR X (compareOp op) r)(ho':OpR X (compareOp op') r')(ha:PE X a ta)(hb:PE X b tb)(hc:PE X c tc)
  (hm:lastMarks [op,op'] [b,c]=false:=by with_unfolding_all rfl):PE X (.Compare a [op,op'] [b,c] pos) (zka r r' ta tb tc):=by
 intro pins s σ H Q I h;refine Compare_chain (thn (ha pins s σ H _ I h) fun v s1 ⟨x,H1,I1,r1,q1⟩=>chain_link (thn (hb pins s1 σ H1 _ I1 q1) fun u s2 ⟨y,H2,I2,r2,q2⟩=>
  thn (ho pins s2 σ H2 x y v u _ I2 r1 r2 q2) fun d s3 ⟨z,H3,I3,r3,k,e,q3⟩=>?_)) hm
 subst e;cases r3;apply wpAny_truthy_bool;cases k with
 |false=>exact ite_ff ⟨.bl false,H3,I3,rfl,q3⟩
 |true=>exact ite_tt (chain_last (thn (hc pins s3 σ H3 _ I3 q3) fun w' s4 ⟨z',H4,I4,r4,q4⟩=>ho' pins s4 σ H4 y z' u w' Q I4 r2 r4 q4))
theorem zjg (ho:OpR X (compareOp op) r)(ho':OpR X (compareOp op') r')(ha:PE X a ta)(hb:PE X b tb)(hc:PE X c tc)
  (hm:lastMarks [op,op'] [b,c]=false:=by with_unfolding_all rfl):PT X (.Compare a [op,op'] [b,c] pos) (zmD (zka r r' ta tb tc)):=by
 intro pins s σ H Q I h;refine isTrue_chain (thn (ha pins s σ H _ I h) fun v s1 ⟨x,H1,I1,r1,q1⟩=>test_link (thn (hb pins s1 σ H1 _ I1 q1) fun u s2 ⟨y,H2,I2,r2,q2⟩=>
  thn (ho pins s2 σ H2 x y v u _ I2 r1 r2 q2) fun d s3 ⟨z,H3,I3,r3,k,e,q3⟩=>?_)) hm
 subst e;cases r3;apply wpAny_truthy_bool;cases k with
 | false=>
   obtain⟨k',e',q'⟩:=q3;cases e';exact ite_ff ⟨H3,I3,q'⟩
 | true=>
   refine ite_tt (test_last (thn (hc pins s3 σ H3 _ I3 q3) fun w' s4 ⟨z',H4,I4,r4,q4⟩=>thn (ho' pins s4 σ H4 y z' u w' _ I4 r2 r4 q4) fun d' s5 ⟨z2,H5,I5,r5,k2,e2,q5⟩=>?_));subst e2;cases r5;exact wpAny_truthy_bool ⟨H5,I5,q5⟩
def TruV (K:PySem.W.Frag)(x:V)(H:Hp)(k:Bool):Prop:=
 match x with
 |.non=>k=false
 |.bl b=>k=b
 |.int i=>k=(i != 0)
 |.str y=>y.length<=sizeLine/\k=((y.length:Int) != 0)
 |.byt y=>y.size<=sizeLine/\k=((y.size:Int) != 0)
 |.ref p=>(∃xs,SqL K H p xs/\k = !xs.isEmpty)\/(∃xs,SqT K H p xs/\k = !xs.isEmpty)\/∃kvs,H p=some (.dK kvs)/\k = !kvs.isEmpty
 |_=>False
theorem zgJ {kvs:List (κ × V)}{vs:List (κ × Value)}(r:KV kvs vs):(!vs.isEmpty) = !kvs.isEmpty:=by
 cases r<;>rfl
theorem zdk (r:Vals xs its):(!its.toArray.isEmpty) = !xs.isEmpty:=by
 cases r<;>simp
theorem zen:(sizeLine:Nat)<2 ^ 63:=by rw[sizeLine_eq];decide
theorem zmy:TruR X (fun x H Q=>∃k,TruV X.K x H k/\Q k H):=by
 intro pins s σ H x v Q I rx h;obtain⟨k,e,q⟩:=h;have hs:sizeLine=16777216:=sizeLine_eq;cases x with
 | non=>
   cases rx;have e':k=false:=e;subst e';exact truthy_none ⟨H,I,q⟩
 | bl b=>
   cases rx;have e':k=b:=e;subst e';exact wpAny_truthy_bool ⟨H,I,q⟩
 | int i=>
   obtain⟨t,rfl⟩:=rx;have e':k=(i != 0):=e;subst e';exact PySem.P.truthy_int ⟨H,I,q⟩
 | str y=>
   obtain⟨t,rfl⟩:=rx;obtain⟨hy,e'⟩:y.length<=sizeLine/\k=((y.length:Int) != 0):=e;subst e';exact PySem.P.truthy_str (by omega) ⟨H,I.tok _,q⟩
 | byt y=>
   obtain⟨t,rfl⟩:=rx;obtain⟨hy,e'⟩:y.size<=sizeLine/\k=((y.size:Int) != 0):=e;subst e';exact PySem.W.truthy_bytes (by omega) ⟨H,I.tok _,q⟩
 | ref p=>
   cases rx;have e':(∃xs,SqL X.K H p xs/\k = !xs.isEmpty)\/(∃xs,SqT X.K H p xs/\k = !xs.isEmpty)\/∃kvs,H p=some (.dK kvs)/\k = !kvs.isEmpty:=e;rcases e' with ⟨xs,hx,e'⟩|⟨xs,hx,e'⟩|⟨kvs,hx,e'⟩
   . subst e';obtain⟨its,r,pl,hz⟩:=I.list hx;have hlen:=r.length;exact wpAny_truthy_list pl.isList (by simp only[size_toArray];omega) ⟨H,I.tok _,by rw[zdk r];exact q⟩
   . subst e';obtain⟨its,r,pl,hz⟩:=I.tuple hx;have hlen:=r.length;exact truthy_tuple pl (by simp only[size_toArray];omega) ⟨H,I.tok _,by rw[zdk r];exact q⟩
   . subst e';obtain⟨hz,hS,vs,r,m⟩:kvs.length<=sizeLine/\(p == sysModules)=false/\∃vs,KV kvs vs/\s.heap.DictOf (ze6 X.prog X.w) p vs:=I.hok p _ hx;have hlen:kvs.length=vs.length:=Paired.length r;exact wpAny_truthy_dict hS m (by omega) ⟨H,I.tok _,by rw[zgJ r];exact q⟩
 |_=>exact (show False from e).elim
theorem zjf (ha:PE X a ta)(he:∀whole,isTrue a X.env whole=(do let v <-whole;standAt a.pos;holding [v] (truthy v))) :
  PT X a (fun σ H Q=>ta σ H fun x H'=>∃k,TruV X.K x H' k/\Q k H'):=by
 intro pins s σ H Q I h;exact isTrue_plain (thn (ha pins s σ H _ I h) fun v s1 ⟨x,H1,I1,r1,q1⟩=>zmy pins s1 σ H1 x v Q I1 r1 q1) (he _)
theorem ziU (r:Vals [x] us):∃u,us=[u]/\RelV x u:=by
 cases r with
 |cons r1 r2=>cases r2;exact⟨_,rfl,r1⟩
theorem ziT (r:Vals [x,y] us):∃u w',us=[u,w']/\RelV x u/\RelV y w':=by
 cases r with
 | cons r1 r2=>
   cases r2 with
   |cons r3 r4=>cases r4;exact⟨_,_,rfl,r1,r3⟩
theorem zj0:zbt X (.builtin "abs") (fun xs H Q=>∃i,xs=[.int i]/\Q (.int (if i<0 then -i else i)) H):=by
 intro pins s σ H xs us Q I r h;obtain⟨i,rfl,q⟩:=h;obtain⟨u,rfl,t,rfl⟩:=ziU r;exact call_abs_int fun u tk=>⟨.int (if i<0 then -i else i),H,I.tok _,⟨_,rfl⟩,q⟩
end
end L2
namespace L2
open PySem PySem.Spec PyProof.Rows
structure ObjM (h:Heap) (x dx C:Addr) (mA:Str->Option Value):Prop where
 obj:h.get? x=some (instObj C dx)
 ns:h.Ns1 dx mA
 ne:dx≠x
theorem zem {h:Heap}(n:h.Ns1 dx mA):∃od,h.get? dx=some od/\∀name,lookIn name od=some (mA name):=by
 obtain⟨o,es,ep,ho,hd,hk,_,hm⟩:=n;refine⟨o,ho,fun name=>?_⟩;have e:=hm name;unfold nsFind findBy at e;rw[<-Array.find?_toList] at e;unfold lookIn;rw[hd];dsimp only;split
 . rename_i y q;rw[q] at e;exact congrArg some e
 . rename_i q;rw[q] at e;have a:es.toList.any (·.refKey)=false:=by
    rw[List.any_eq_false];intro y hy;obtain⟨z,t,hkey⟩:=hk y (Array.mem_toList_iff.mp hy);simp[DictEntry.refKey,hkey]
   have a':¬es.toList.any (·.refKey)=true:=by rw[a];exact Bool.false_ne_true
   rw[if_neg a'];exact congrArg some e
theorem ObjM.look (I:ObjM h x dx C mA):∃od,PySem.W.InstAt h x (instObj C dx) C (some od)/\∀name,lookIn name od=some (mA name):=
 let ⟨od,ho,hl⟩:=zem I.ns
 ⟨od,⟨I.obj,rfl,rfl,ho⟩,hl⟩
section
variable {prog:Program} {w:World} {A:Around} {E:Value->Shared->Prop} {s:Shared} {K:PySem.W.Frag} {x dx C f:Addr} {mA:Str->Option Value} {name:Str} {v:Value}
theorem zkZ (X:K.In s.heap)(I:ObjM s.heap x dx C mA)
  (hs:PySem.W.findIn K (.ref C) "__setattr__"=some (some (.builtin "object.__setattr__"))) (hp:plainOver K C=true) (ht:takerIn K C name=some none) (hh:PySem.W.hasDictIn K C=true)
  (hw:PySem.Within mA ns) (hsz:ns.length<=sizeLine)
  (h:∀h',ObjM h' x dx C (fun y=>if y=name then some v else mA y)->Heap.SameBut dx s.heap h'->Q () {s with heap:=h',toks:=s.toks+2}) :
  wpAny (model prog w) A (setAttr (.ref x) name v) Q E s:=by
 obtain⟨od,J,hl⟩:=I.look;refine PySem.W.set_plain X J hs (PySem.W.osa_open X J hp ht fun b=>?_);obtain⟨cd,hc,hd'⟩:=PySem.W.any_some hh;have hx:s.heap.get? x=some ⟨.ref C,some dx,.plain,#[]⟩:=I.obj;refine wpAny_bind (wpAny_pure (wpAny_bind (wpAny_bind (wpAny_loadPart hx (wpAny_bind (PySem.W.Looks.here (PySem.W.looks_clsIn X hc) ?_))))));rw[hd'];refine wpAny_pure (wpAny_bind (wpAny_pure (wpAny_bind ?_)));refine wpAny_nsSet1 I.ns fun h' hn2 hs2=>?_;obtain⟨oD,esD,epD,hoD,hdD,hcD⟩:=hn2.count (PySem.Within.cons name v hw);refine wpAny_bind (wpAny_lookBehind hoD (by rw[hdD];exact pastItsLine_dict (le_trans hcD (by rw[length_cons];omega))) ?_);exact wpAny_pure (h _ ⟨(hs2.2 _ (Ne.symm I.ne)).trans I.obj,hn2,I.ne⟩ hs2)
theorem zfM (X:K.In s.heap)(hm:makesIn K C=true)
 (hi:PySem.W.findIn K (.ref C) "__init__"=some (some (.ref f))) (hf:PySem.W.typeIn K (.ref f)=some (.type "function"))
 (h:codeAny (model prog w) (A.under (.builtin "type.__call__" ⟨.ref C::vs,kw⟩)) (.call (.ref f) ⟨.ref (s.heap.objs.size+1)::vs,kw⟩) (PySem.W.InitBack (s.heap.objs.size+1) R)
  {s with heap:=(s.heap.push emptyDict).push (instObj C s.heap.objs.size)}) :
 codeAny (model prog w) A (.call (.ref C) ⟨vs,kw⟩) R s:=PySem.W.make_core (PySem.W.makes_of X hm) (PySem.W.looks_findIn X hi) (fun self=>PySem.W.bind_fn X self hf) (.inl rfl) h
end
noncomputable def putF (f:Str)(v:V):List (Str × V)->List (Str × V)
 | []=>[(f,v)]
 |(g,x)::r=>if g=f then (g,v)::r else (g,x)::putF f v r
theorem zcN (f g:Str)(v:V):∀fs:List (Str × V),(putF f v fs).lookup g=if g=f then some v else fs.lookup g
 | []=>by
   show List.lookup g [(f,v)]=_;by_cases h:g=f
   . have hb:(g == f)=true:=beq_iff_eq.mpr h;simp[List.lookup,hb,if_pos h]
   . have hb:(g == f)=false:=beq_eq_false_iff_ne.mpr h;simp[List.lookup,hb,if_neg h]
 | (k,x)::r=>by
   have ih:=zcN f g v r;rw[show putF f v ((k,x)::r)=(if k=f then (k,v)::r else (k,x)::putF f v r) from rfl];by_cases hk:k=f
   . rw[if_pos hk];by_cases h:g=k
     . have hb:(g == k)=true:=beq_iff_eq.mpr h;simp[List.lookup,hb,if_pos (h.trans hk)]
     . have hb:(g == k)=false:=beq_eq_false_iff_ne.mpr h;simp[List.lookup,hb,if_neg (fun e:g=f=>h (e.trans hk.symm))]
   . rw[if_neg hk];by_cases h:g=k
     . have hb:(g == k)=true:=beq_iff_eq.mpr h;simp[List.lookup,hb,if_neg (fun e:g=f=>hk (h.symm.trans e))]
     . have hb:(g == k)=false:=beq_eq_false_iff_ne.mpr h;simp[List.lookup,hb];exact ih
theorem zcP (f:Str)(v:V):∀fs:List (Str × V),f∈(putF f v fs).map (·.1)/\∀g,g∈fs.map (·.1)->g∈(putF f v fs).map (·.1)
 | []=>⟨by simp[putF],fun g h=>by simp at h⟩
 | (k,x)::r=>by
   obtain⟨i1,i2⟩:=zcP f v r;rw[show putF f v ((k,x)::r)=(if k=f then (k,v)::r else (k,x)::putF f v r) from rfl];by_cases hk:k=f
   . rw[if_pos hk];subst hk;exact⟨by simp,fun g h=>by simpa using h⟩
   . rw[if_neg hk];refine⟨?_,fun g h=>?_⟩
     . rw[map_cons];exact mem_cons_of_mem _ i1
     . rw[map_cons] at h⊢;rcases mem_cons.mp h with e|e
       . exact mem_cons.mpr (.inl e)
       . exact mem_cons_of_mem _ (i2 g e)
theorem zcO (f:Str)(v:V):∀fs:List (Str × V),(putF f v fs).length<=fs.length+1
 | []=>by simp[putF]
 | (k,x)::r=>by
   have ih:=zcO f v r;rw[show putF f v ((k,x)::r)=(if k=f then (k,v)::r else (k,x)::putF f v r) from rfl];by_cases hk:k=f
   . rw[if_pos hk,length_cons,length_cons];omega
   . rw[if_neg hk,length_cons,length_cons];omega
theorem RelO.some_of (r:RelO (some v) o):∃u,o=some u/\RelV v u:=by
 cases o with
 |none=>exact r.elim
 |some u=>exact⟨u,rfl,r⟩
theorem zij (r:RelV v u):PySem.W.handedIn u=true:=by
 cases v with
 |non=>cases r;rfl
 |bl b=>cases r;rfl
 |int i=>obtain⟨t,e⟩:=r;cases e;rfl
 |str x=>obtain⟨t,e⟩:=r;cases e;rfl
 |byt b=>obtain⟨t,e⟩:=r;cases e;rfl
 |flt b=>obtain⟨t,e⟩:=r;cases e;rfl
 |ref a=>cases r;rfl
 |ty n=>cases r;rfl
section
variable {P:Program} {w:World} {H H':Hp} {h h':Heap} {a C dx:Addr} {fs fs':List (Str × V)}
theorem zic (hok:HOk P w H h)(e:H a=some (.ins C dx fs)):∃mA,ObjM h a dx C mA/\(∀f,RelO (fs.lookup f) (mA f))/\PySem.Within mA (fs.map (·.1))/\fs.length<=1000/\H dx=some (.own a):=by
 obtain⟨d,z,ne,ob,mA,n,r,q⟩:=(hok a _ e);exact⟨mA,⟨ob,n,ne⟩,r,q,z,d⟩
end
structure Cls (K:PySem.W.Frag) (C:Addr):Prop where
 pg:plainGet K C Str.empty=true
 hd:PySem.W.hasDictIn K C=true
 po:plainOver K C=true
 sa:PySem.W.findIn K (.ref C) "__setattr__"=some (some (.builtin "object.__setattr__"))
theorem Cls.get {K:PySem.W.Frag}(c:Cls K C)(f:Str):plainGet K C f=true:=c.pg
def NoAttr (K:PySem.W.Frag)(C:Addr)(f:Str):Prop:=PySem.W.findIn K (.ref C) f=some none
theorem NoAttr.taker {K:PySem.W.Frag}(n:NoAttr K C f):takerIn K C f=some none:=by
 unfold takerIn;rw[show PySem.W.findIn K (.ref C) f=some none from n];rfl
structure Con (K:PySem.W.Frag) (C:Addr) (f:Str) (v:V) (u:Value):Prop where
 at_:PySem.W.findIn K (.ref C) f=some (some u)
 rel:RelV v u
 get:specialIn K u "__get__"=some none
 cp:PySem.W.copiedNames.contains f=false
structure Meth (K:PySem.W.Frag) (C:Addr) (m:Str) (f:Addr):Prop where
 at_:PySem.W.findIn K (.ref C) m=some (some (.ref f))
 fn:isFn K (.ref f)=true
 kp:keepIn K (.ref f)=true
section
variable {X:Cx} {pins:List (Addr × Obj)} {σ:St} {H:Hp} {s:Shared} {a C dx:Addr} {fs:List (Str × V)} {f:Str} {v:V} {A:Around} {E:Value->Shared->Prop}
theorem zgp (I:Inv X pins σ H s)(e:H a=some (.ins C dx fs))(c:Cls X.K C)(n:NoAttr X.K C f)(hl:fs.length<1000)(ry:RelV y u)
  (h:∀s',Inv X pins σ (upd H a (.ins C dx (putF f y fs))) s'->Q () s'):wpAny (model X.prog X.w) A (setAttr (.ref a) f u) Q E s:=by
 obtain⟨mA,O,r,wi,_,ho⟩:=zic I.hok e;have hz:(fs.map (·.1)).length<=sizeLine:=by rw[length_map,sizeLine_eq];omega
 refine zkZ I.kIn O c.sa c.po n.taker c.hd wi hz fun h' O' sb=>h _ ?_;have hd:∃o,h'.get? dx=some o:=let ⟨o,_,_,e',_⟩:=O'.ns;⟨o,e'⟩;apply I.write (by rw[e];exact True.intro) (.inr ho) (fun b q hb z=>(sb.2 b hb).trans z) hd;refine⟨by rw[zah O.ne];exact ho,?_,O.ne,O'.obj,_,O'.ns,fun g=>?_,fun g hg=>?_⟩
 . have:=zcO f y fs;omega
 . show RelO ((putF f y fs).lookup g) (if g=f then some u else mA g);rw[zcN];by_cases q:g=f
   . rw[if_pos q,if_pos q];exact ry
   . rw[if_neg q,if_neg q];exact r g
 . by_cases q:g=f
   . rw[q];exact (zcP f y fs).1
   . refine (zcP f y fs).2 g (wi g fun z=>hg ?_);show (if g=f then some u else mA g)=none;rw[if_neg q];exact z
theorem Inv.made (I:Inv X pins σ H s):Inv X pins σ (upd (upd H s.heap.objs.size (.own (s.heap.objs.size+1))) (s.heap.objs.size+1) (.ins C s.heap.objs.size []))
  {s with heap:=(s.heap.push emptyDict).push (instObj C s.heap.objs.size)}:=by
 have e1:(s.heap.push emptyDict).get? s.heap.objs.size=some emptyDict:=Heap.get?_push_size s.heap rfl;have e2:((s.heap.push emptyDict).push (instObj C s.heap.objs.size)).get? (s.heap.objs.size+1)=some (instObj C s.heap.objs.size):=by
  have:=Heap.get?_push_size (s.heap.push emptyDict) (o:=instObj C s.heap.objs.size) rfl
  rwa [Heap.size_push] at this
 have e3:(s.heap.push emptyDict).Ns s.heap.objs.size (fun _=>none):=⟨emptyDict,#[],_,e1,rfl,(fun e he=>absurd he (by simp)),fun _=>rfl⟩;have I1:=I.laid (o:=.own (s.heap.objs.size+1)) (h':=s.heap.push emptyDict) (t':=s.toks) (fun b u q=>Heap.get?_push_of_some _ q) (le_refl _) ⟨_,e1⟩;refine I1.laid (t':=s.toks) (fun b u q=>Heap.get?_push_of_some _ q) (le_of_eq (Heap.size_push _ _)) ?_;have ne:s.heap.objs.size≠s.heap.objs.size+1:=ne_of_lt (lt_succ_self _);refine⟨by rw[zah ne,zai],zero_le _,ne,e2,fun _=>none,(Heap.Ns1.of_empty e3).at fun o q=>Heap.get?_push_of_some _ q,fun _=>True.intro,fun y hy=>absurd rfl hy⟩
theorem zmc (hb:attributeBase e f env (eval e env)=eval e env)
  (h:wpAny (model prog w) A (eval e env) (fun o s₁=>wpAny (model prog w) A (getAttr o f true) Q E s₁) E s):wpAny (model prog w) A (eval (.Attribute e f pos) env) Q E s:=
 Attribute_any_ h (by rw[arm_eval_Attribute,hb])
end
def sFld (K:PySem.W.Frag)(ta tv:TE)(f:Str):TS:=fun D σ H=>tv σ H fun y H1=>ta σ H1 fun x H2=>∃a C dx fs,x=.ref a/\H2 a=some (.ins C dx fs)/\Cls K C/\NoAttr K C f/\fs.length<1000/\
 D.nx σ (upd H2 a (.ins C dx (putF f y fs)))
section
variable {X:Cx} {o e value:Expr} {f:Str} {pos pos' tpos:Pos} {ta tv:TE}
theorem zkm (ha:PE X o ta)(hv:PE X value tv)(hs:swapsWith value (some (.Attribute o f pos')) pos.line X.env=pure false):PS X (.Assign [.Attribute o f pos'] value pos) (sFld X.K ta tv f):=by
 intro pins s σ H D I h;refine plainObj_wpAny_Assign_Attribute (thn (hv pins s σ H _ I h) fun u s1 ⟨y,H1,I1,ry,q⟩=>thn (ha pins s1 σ H1 _ I1 q) fun ov s2 ⟨x,H2,I2,rx,a,C,dx,fs,ex,ea,c,n,l,q2⟩=>?_) hs;subst ex;obtain rfl:ov=Value.ref a:=rx;exact zgp I2 ea c n l ry fun s3 I3=>⟨σ,_,I3,q2⟩
end
section
variable {X:Cx} {pins:List (Addr × Obj)} {σ:St} {H:Hp} {s:Shared} {A:Around} {E:Value->Shared->Prop} {Q:Value->Shared->Prop} {c:Value} {b:Bool}
inductive TyOf (K:PySem.W.Frag) (H:Hp):V->Value->Prop where
 |non:TyOf K H .non (.type "NoneType")
 |bl (x:Bool):TyOf K H (.bl x) (.type "bool")
 |int (i:Int):TyOf K H (.int i) (.type "int")
 |str (x:Str):TyOf K H (.str x) (.type "str")
 |flt (x:UInt64):TyOf K H (.flt x) (.type "float")
 |lst {a:Addr} {xs:List V} (e:H a=some (.lst xs)):TyOf K H (.ref a) (.type "list")
 |frz {a:Addr} {o:Obj} {xs:List V} (e:H a=some (.frz o (.lst xs))):TyOf K H (.ref a) (.type "list")
 |tup {a:Addr} {xs:List V} (e:H a=some (.tup xs)):TyOf K H (.ref a) (.type "tuple")
 |dK {a:Addr} {kvs:List (Key × V)} (e:H a=some (.dK kvs)):TyOf K H (.ref a) (.type "dict")
 |dT {a:Addr} {kvs:List (List Key × V)} (e:H a=some (.dT kvs)):TyOf K H (.ref a) (.type "dict")
 |ins {a C dx:Addr} {fs:List (Str × V)} (e:H a=some (.ins C dx fs)) (cl:Cls K C) (ha:PySem.W.findIn K (.ref C) "__class__"=some (some (.builtin "object.__class__")))
  (hn:specialIn K (.builtin "object.__class__") "__get__"=some (some (.builtin "getset_descriptor.__get__"))) (htk:takesIn K (.builtin "object.__class__")=some true)
  (hm:PySem.W.mroIn K C (.type "object")=some true):TyOf K H (.ref a) (.ref C)
theorem zh1 (I:Inv X pins σ H s)(rx:RelV x u)(ty:TyOf X.K H x t)(e:kitOne X.K t c=some b)(h:∀tk,Q (.bool b) {s with toks:=tk}) :
  wpAny (model X.prog X.w) A (call (.builtin "isinstance") [u,c]) Q E s:=by
 cases ty with
 |non=>cases rx;exact kia_one PySem.W.kitx_none I.kIn True.intro e (fun z=>nomatch z) h
 |bl y=>cases rx;exact kia_one PySem.W.kitx_bool I.kIn True.intro e (fun z=>nomatch z) h
 |int i=>obtain⟨t,q⟩:=rx;cases q;exact kia_one PySem.W.kitx_int I.kIn True.intro e (fun z=>nomatch z) h
 |str y=>obtain⟨t,q⟩:=rx;cases q;exact kia_one PySem.W.kitx_str I.kIn True.intro e (fun z=>nomatch z) h
 |flt y=>obtain⟨t,q⟩:=rx;cases q;exact kia_one PySem.W.kitx_float I.kIn True.intro e (fun z=>nomatch z) h
 | @lst a xs ea=>
   cases rx;obtain⟨_,_,n,_,h1⟩:=(I.hok a _ ea);exact kia_one kitx_list I.kIn ⟨_,h1,rfl⟩ e (fun z=>nomatch z) h
 | @frz a ob xs ea=>
   cases rx;obtain⟨_,_,_,n,_,h1⟩:=(I.hok a _ ea);exact kia_one kitx_list I.kIn ⟨_,h1,rfl⟩ e (fun z=>nomatch z) h
 | @tup a xs ea=>
   cases rx;obtain⟨_,_,_,p⟩:=(I.hok a _ ea);obtain⟨o,h1,h2,_⟩:=p;exact kia_one PySem.W.kitx_tuple I.kIn ⟨o,h1,h2⟩ e (fun z=>nomatch z) h
 | @dK a kvs ea=>
   cases rx;obtain⟨_,_,vs,_,p⟩:=(I.hok a _ ea);obtain⟨o,es,ep,h1,h2,_⟩:=p;exact kia_one kitx_dict I.kIn ⟨o,h1,h2.1⟩ e (fun z=>nomatch z) h
 | @dT a kvs ea=>
   cases rx;obtain⟨_,_,xs,_,o,es,ep,h1,h2,_⟩:=(I.hok a _ ea);exact kia_one kitx_dict I.kIn ⟨o,h1,h2.1⟩ e (fun z=>nomatch z) h
 | @ins a C dx fs ea cl ha hn htk hm=>
   cases rx;obtain⟨mA,O,_⟩:=zic I.hok ea;obtain⟨od,J,_⟩:=O.look;exact kia_one (PySem.W.kitx_own (cl.get _) cl.hd ha hn htk hm) I.kIn J e (fun z=>nomatch z) h
end
end L2
namespace L2
open PySem PySem.Spec PyProof.Rows
structure Room (k:Nat) (A:Around):Prop where
 hd:A.handled=none
 dp:A.depth+3 * k+5<recursionLimit
 un:A.units+16 * k+200<cLine
theorem Room.mono (r:Room k A)(h:j<=k):Room j A:=⟨r.hd,by have:=r.dp;omega,by have:=r.un;omega⟩
theorem Room.deeper (r:Room (k+1) A)(env:Env):Room k (A.deeper env):=
 ⟨r.hd,by have:=r.dp;show A.depth+1+3 * k+5<_;omega,by have:=r.un;show A.units+3+16 * k+200<_;omega⟩
theorem zgF {A:Around}:(A.under (.builtin "type.__call__" ⟨.ref C::us,kw⟩)).depth=A.depth+1:=by
 first|rfl|simp
theorem zgE {A:Around}:(A.under (.builtin "type.__call__" ⟨.ref C::us,kw⟩)).units=A.units+1:=rfl
theorem Room.make (r:Room (k+1) A)(C:Addr)(us:List Value)(kw:List (Str × Value)):Room k (A.under (.builtin "type.__call__" ⟨.ref C::us,kw⟩)):=
 ⟨r.hd,by have:=r.dp;rw[zgF];omega,by have:=r.un;rw[zgE];omega⟩
theorem Room.depth (r:Room k A):A.depth<recursionLimit:=by have:=r.dp;omega
def tNil:TA:=fun _ H Q=>Q [] H
def ziW (ta:TE)(tr:TA):TA:=fun σ H Q=>ta σ H fun x H1=>tr σ H1 fun xs H2=>Q (x::xs) H2
section
variable {X:Cx} {e:Expr} {es:List Expr} {te:TE} {t:TA} {pos:Pos}
theorem zcn:PA X [] tNil:=fun _ _ _ _ H Q I h=>Calls.spliced_nil ⟨[],H,I,.nil,h⟩
theorem zaV (ha:PE X e te)(hr:PA X es t)(hs:starEach (e::es) X.env=(false,eval e X.env)::starEach es X.env:=by rfl):PA X (e::es) (ziW te t):=by
 intro pos pins s σ H Q I h;rw[hs];refine Calls.spliced_cons (thn (ha pins s σ H _ I h) fun u s1 ⟨x,H1,I1,r1,q1⟩=>?_);exact thn (hr pos pins s1 σ H1 _ I1 q1) fun us s2 ⟨xs,H2,I2,r2,q2⟩=>⟨x::xs,H2,I2,.cons r1 r2,q2⟩
def tTup (t:TA):TE:=fun σ H Q=>t σ H fun xs H1=>xs.length<=sizeLine/\∀p,H1 p=none->Q (.ref p) (upd H1 p (.tup xs))
def tLst (t:TA):TE:=fun σ H Q=>t σ H fun xs H1=>xs.length<=sizeLine/\∀p,H1 p=none->Q (.ref p) (upd H1 p (.lst xs))
theorem znq {x1}(h:PA X es t):PE X (.Tuple es x1 pos) (tTup t):=by
 intro pins s σ H Q I hq;refine wpAny_Tuple_spliced (thn (h pos pins s σ H _ I hq) fun us s1 ⟨xs,H1,I1,r,z,q⟩=>⟨by rw[<-r.length];exact z,?_⟩);have hf:H1 s1.heap.objs.size=none:=I1.hok.fresh (le_refl _);refine⟨.ref s1.heap.objs.size,upd H1 s1.heap.objs.size (.tup xs),I1.laid (t':=s1.toks) (fun b u e=>Heap.get?_push_of_some _ e) (le_refl _) ?_,rfl,q _ hf⟩;exact⟨z,us,r,⟨_,Heap.get?_push_size _ rfl,rfl,_,rfl⟩⟩
theorem znt (h:PA X es t):PE X (.List es pos) (tLst t):=by
 intro pins s σ H Q I hq;refine wpAny_List_spliced (thn (h pos pins s σ H _ I hq) fun us s1 ⟨xs,H1,I1,r,z,q⟩=>⟨by rw[<-r.length];exact z,?_⟩);have hf:H1 s1.heap.objs.size=none:=I1.hok.fresh (le_refl _);refine⟨.ref s1.heap.objs.size,upd H1 s1.heap.objs.size (.lst xs),I1.laid (t':=s1.toks) (fun b u e=>Heap.get?_push_of_some _ e) (le_refl _) ?_,rfl,q _ hf⟩;exact⟨z,us,0,r,Heap.get?_push_size _ rfl⟩
end
abbrev Sp:=List V->Hp->VK->XK->Prop
abbrev CXT:=List Env->Hp->Shared->XK->Value->Shared->Prop
structure Env0 (P:Program) (w:World) (K:PySem.W.Frag) (mg:Str->Option Value) (base:Heap) (A:Around) (outer:List Env) (s:Shared) (H:Hp):Prop where
 frames:A.frames=some outer
 mod:Mod K mg base
 bs:∀b o,base.get? b=some o->s.heap.get? b=some o/\H b=none
 bsz:base.objs.size<=s.heap.objs.size
 funs:s.heap.FunFrames base outer
 frf:∀b∈frs outer,H b=none
 hok:HOk P w H s.heap
 bare:AllBare s.gens
def CE (outer:List Env)(P:Program)(w:World)(H:Hp)(s:Shared)(Q:VK)(u:Value)(s':Shared):Prop:=
 ∃v H',s'.os=s.os/\AllBare s'.gens/\Un (frs outer) [] H H' s.heap s'.heap/\HOk P w H' s'.heap/\RelV v u/\Q v H'
def CR (CX:CXT)(outer:List Env)(P:Program)(w:World)(H:Hp)(s:Shared)(Q:VK)(E:XK)(r:Result)(s':Shared):Prop:=
 match r with
 |.ok (.ret u)=>CE outer P w H s Q u s'
 |.ok _=>False
 |.error e=>CX outer H s E e s'
structure FnOk (P:Program) (w:World) (K:PySem.W.Frag) (mg:Str->Option Value) (base:Heap) (CX:CXT) (k:Nat) (f:Addr) (fd:FuncData) (ps:List Str) (sp:Sp):Prop where
 len:∀vs H Q E,sp vs H Q E->vs.length=ps.length
 run:∀(A:Around) (outer:List Env) (s:Shared) (H:Hp) (args:Args) (us:List Value) (vs:List V) (Q:VK) (E:XK),Room k A->Env0 P w K mg base A outer s H->BindsTo s fd args (ps.zip us)->Vals vs us->sp vs H Q E->
  codeAny (model P w) A (.call (.ref f) args) (CR CX outer P w H s Q E) s
theorem FnOk.mono {K:PySem.W.Frag}(F:FnOk P w K mg base CX j f fd ps sp)(h:j<=k) :
 FnOk P w K mg base CX k f fd ps sp:=⟨F.len,fun A outer s H args us vs Q E hr=>F.run A outer s H args us vs Q E (hr.mono h)⟩
theorem Env0.make {K:PySem.W.Frag}(e:Env0 P w K mg base A outer s H)(C:Addr)(us:List Value)(kw:List (Str × Value)) :
 Env0 P w K mg base (A.under (.builtin "type.__call__" ⟨.ref C::us,kw⟩)) outer s H:=⟨by first|exact e.frames|(simpa[Around.under,Code.envs,Code.isFrame,pushEnvs] using e.frames),e.mod,e.bs,e.bsz,e.funs,e.frf,e.hok,e.bare⟩
section
variable {X:Cx} {pins:List (Addr × Obj)} {σ:St} {H:Hp} {s s':Shared}
theorem Inv.env0 (I:Inv X pins σ H s):Env0 X.prog X.w X.K X.mg X.base X.A X.stack s H:=
 ⟨I.ok.frames,I.ok.mod,I.bs,le_trans I.ok.bsz I.sz,I.stack,I.stkFree,I.hok,I.bare⟩
theorem Inv.after (I:Inv X pins σ H s)(h:CE X.stack X.prog X.w H s Q u s'):EP X pins σ Q u s':=by
 obtain⟨v,H',os,bare,un,hok,r,q⟩:=h;obtain⟨hh,g,d,t,os'⟩:=s';obtain rfl:os'=s.os:=os;exact⟨v,H',I.call (h':=hh) (g':=g) (d':=d) (t':=t) un hok bare (fun b z=>absurd z (by simp)),r,q⟩
end
def zhc (sp:Sp)(dvs:List V)(E:XK)(t:TA):TE:=fun σ H Q=>t σ H fun vs H1=>sp (vs++dvs) H1 Q E
def zkO (C:Addr)(sp:Sp)(dvs:List V)(E:XK)(t:TA):TE:=fun σ H Q=>t σ H fun vs H1=>∀x dx,H1 x=none->H1 dx=none->dx≠x->
 sp (.ref x::(vs++dvs)) (upd (upd H1 dx (.own x)) x (.ins C dx [])) (fun v H2=>v=.non/\Q (.ref x) H2) E
def Binds (K:PySem.W.Frag)(fd:FuncData)(ps:List Str)(ds:List Value):Prop:=
 ∀(s:Shared) (us:List Value),K.In s.heap->(us++ds).length=ps.length->BindsTo s fd ⟨us,[]⟩ (ps.zip (us++ds))
theorem Binds.all {K:PySem.W.Frag}(h:∀us:List Value,us.length=ps.length->bindArgs fd ⟨us,[]⟩=pure (ps.zip us)):Binds K fd ps []:=fun s us _ hl=>by
 rw[append_nil] at hl⊢;exact .of_eq (h us hl)
def zc2 (CX:CXT)(X:Cx)(E:XK):Prop:=∀(pins:List (Addr × Obj)) (σ:St) (H:Hp) (s:Shared) (e:Value) (s':Shared),Inv X pins σ H s->CX X.stack H s E e s'->X.xe e s'
section
variable {X:Cx} {CX:CXT} {k:Nat} {f C:Addr} {fd:FuncData} {ps:List Str} {sp:Sp} {dvs:List V} {ds:List Value} {E:XK} {x m:Str} {p pos apos:Pos} {e o:Expr} {es:List Expr} {ta:TE} {t:TA}
theorem zkj {σ:St}(F:FnOk X.prog X.w X.K X.mg X.base CX k f fd ps sp)(hr:Room k X.A)(hb:Binds X.K fd ps ds)(hd:Vals dvs ds)(hx:zc2 CX X E)
  (I:Inv X pins σ H s) (r:Vals vs us) (h:sp (vs++dvs) H Q E):wpAny (model X.prog X.w) X.A (call (.ref f) us) (EP X pins σ Q) X.xe s:=by
 have r2:Vals (vs++dvs) (us++ds):=r.append hd;have hl:(us++ds).length=ps.length:=by rw[<-r2.length];exact F.len _ _ _ _ h
 refine wpAny_call (codeAny_mono (F.run X.A X.stack s H ⟨us,[]⟩ (us++ds) (vs++dvs) Q E hr I.env0 (hb s us I.kIn hl) r2 h) fun r s' hq=>?_);cases r with
 |error e=>exact hx pins σ H s e s' I hq
 | ok fl=>
   cases fl with
   |ret u=>exact I.after hq
   |next=>exact False.elim hq
   |brk=>exact False.elim hq
   |cont=>exact False.elim hq
theorem zlz (F:FnOk X.prog X.w X.K X.mg X.base CX k f fd ps sp)(hr:Room k X.A)(hg:Gl X x)(hm:X.mg x=some (.ref f))(hk:keepIn X.K (.ref f)=true)(hb:Binds X.K fd ps ds)(hd:Vals dvs ds)(hx:zc2 CX X E)
  (ha:PA X (e::es) t) (hdb:(x == ("__debug__":Str))=false:=by decide) (he:starEach (e::es) X.env=(false,eval e X.env)::starEach es X.env:=by rfl) (hpl:(backTo pos (starEach es X.env)).any (·.1)=false:=by rfl) :
  PE X (.Call (.Name x p) (e::es) [] pos) (zhc sp dvs E t):=by
 intro pins s σ H Q I h;refine wpAny_Call_Name_kw (zbf I hg hm ?_ hdb);refine callWith_K I.ok.mod.kin hk (thn (ha pos pins s σ H _ I h) fun us s1 ⟨vs,H1,I1,r,q⟩=>⟨I1.kIn,?_⟩) he hpl;exact zkj F hr hb hd hx I1 r q
theorem zjy (F:FnOk X.prog X.w X.K X.mg X.base CX k f fd ps sp)(hr:Room k X.A)(hg:Gl X x)(hm:X.mg x=some (.ref f))(hk:keepIn X.K (.ref f)=true)(hb:Binds X.K fd ps ds)(hd:Vals dvs ds)(hx:zc2 CX X E)
  (hdb:(x == ("__debug__":Str))=false:=by decide):PE X (.Call (.Name x p) [] [] pos) (zhc sp dvs E tNil):=by
 intro pins s σ H Q I h;refine wpAny_Call_Name_kw (zbf I hg hm ?_ hdb);exact PySem.W.callWith_K0 I.kIn hk (zkj F hr hb hd hx I .nil h)
structure Mk (K:PySem.W.Frag) (C f:Addr):Prop where
 makes:makesIn K C=true
 init:PySem.W.findIn K (.ref C) "__init__"=some (some (.ref f))
 fn:isFn K (.ref f)=true
 kp:keepIn K (.ref C)=true
theorem zfD {σ:St}(M:Mk X.K C f)(F:FnOk X.prog X.w X.K X.mg X.base CX k f fd ps sp)(hr:Room (k+1) X.A)(hb:Binds X.K fd ps ds)(hd:Vals dvs ds)
  (hx:zc2 CX X E) (I:Inv X pins σ H s) (r:Vals vs us)
  (h:∀x dx,H x=none->H dx=none->dx≠x->sp (.ref x::(vs++dvs)) (upd (upd H dx (.own x)) x (.ins C dx [])) (fun v H2=>v=.non/\Q (.ref x) H2) E) :
  wpAny (model X.prog X.w) X.A (call (.ref C) us) (EP X pins σ Q) X.xe s:=by
 have hq:=h (s.heap.objs.size+1) s.heap.objs.size (I.hok.fresh (le_succ _)) (I.hok.fresh (le_refl _)) (ne_of_lt (lt_succ_self _));have I2:=Inv.made (C:=C) I;have r2:Vals (V.ref (s.heap.objs.size+1)::(vs++dvs)) (Value.ref (s.heap.objs.size+1)::(us++ds)):=.cons rfl (r.append hd);have hl:(Value.ref (s.heap.objs.size+1)::us++ds).length=ps.length:=by
  have e:=r2.length;rw[F.len _ _ _ _ hq] at e;exact e.symm
 refine wpAny_call (zfM I.kIn M.makes M.init (beq_iff_eq.mp M.fn) (codeAny_mono (F.run _ X.stack _ _ ⟨Value.ref (s.heap.objs.size+1)::us,[]⟩ (Value.ref (s.heap.objs.size+1)::(us++ds)) _ _ E (hr.make C us [])
  (I2.env0.make C us []) (hb _ (Value.ref (s.heap.objs.size+1)::us) I2.kIn hl) r2 hq) fun r s' hq'=>?_))
 cases r with
 |error e=>exact hx pins σ _ _ e s' I2 hq'
 | ok fl=>
   cases fl with
   | ret u=>
     obtain⟨v,H',I3,rv,ev,q3⟩:=I2.after hq';subst ev;exact⟨rv,⟨V.ref (s.heap.objs.size+1),H',I3,rfl,q3⟩⟩
   |next=>exact False.elim hq'
   |brk=>exact False.elim hq'
   |cont=>exact False.elim hq'
theorem zlw (M:Mk X.K C f)(F:FnOk X.prog X.w X.K X.mg X.base CX k f fd ps sp)(hr:Room (k+1) X.A)(hg:Gl X x)(hm:X.mg x=some (.ref C))(hb:Binds X.K fd ps ds)(hd:Vals dvs ds)(hx:zc2 CX X E)
  (ha:PA X (e::es) t) (hdb:(x == ("__debug__":Str))=false:=by decide) (he:starEach (e::es) X.env=(false,eval e X.env)::starEach es X.env:=by rfl) (hpl:(backTo pos (starEach es X.env)).any (·.1)=false:=by rfl) :
  PE X (.Call (.Name x p) (e::es) [] pos) (zkO C sp dvs E t):=by
 intro pins s σ H Q I h;refine wpAny_Call_Name_kw (zbf I hg hm ?_ hdb);refine callWith_K I.ok.mod.kin M.kp (thn (ha pos pins s σ H _ I h) fun us s1 ⟨vs,H1,I1,r,q⟩=>⟨I1.kIn,?_⟩) he hpl;exact zfD M F hr hb hd hx I1 r q
theorem zjt (M:Mk X.K C f)(F:FnOk X.prog X.w X.K X.mg X.base CX k f fd ps sp)(hr:Room (k+1) X.A)(hg:Gl X x)(hm:X.mg x=some (.ref C))(hb:Binds X.K fd ps ds)(hd:Vals dvs ds)(hx:zc2 CX X E)
  (hdb:(x == ("__debug__":Str))=false:=by decide):PE X (.Call (.Name x p) [] [] pos) (zkO C sp dvs E tNil):=by
 intro pins s σ H Q I h;refine wpAny_Call_Name_kw (zbf I hg hm ?_ hdb);exact PySem.W.callWith_K0 I.kIn M.kp (zfD M F hr hb hd hx I .nil h)
end
section
variable {X:Cx} {CX:CXT} {k:Nat} {f C:Addr} {fd:FuncData} {ps ks:List Str} {sp:Sp} {E:XK} {x m:Str} {p pos apos kpos:Pos} {e o:Expr} {es:List Expr} {kws:List Keyword} {te ta:TE} {t tk:TA} {nm:Option Str}
structure KBinds (K:PySem.W.Frag) (fd:FuncData) (ps ks:List Str) (g:List Value->List Value->List Value) (gV:List V->List V->List V):Prop where
 to:∀(s:Shared) (us ws:List Value),K.In s.heap->(g us ws).length=ps.length->BindsTo s fd ⟨us,ks.zip ws⟩ (ps.zip (g us ws))
 rel:∀{vs:List V} {us:List Value} {zs:List V} {ws:List Value},Vals vs us->Vals zs ws->Vals (gV vs zs) (g us ws)
variable {g:List Value->List Value->List Value} {gV:List V->List V->List V}
end
structure FnScope (N P:List Str) (sc:Scope):Prop where
 kind:sc.kind=.function
 co:sc.isCoroutine=false
 gen:sc.isGenerator=false
 nd:N.Nodup
 pre:N.take P.length=P
 par:∀x∈P,sc.names.lookup x=some .local\/sc.names.lookup x=some .cell
 nofree:∀y∈sc.names,y.2≠.free
theorem zeF {kindOf:Str->Option NameKind}:∀{binds:List (Str × Value)} {m:Str->Option Value},(∀v,(x,v)∉binds)->bindL kindOf binds m x=m x
 | [],_,_=>rfl
 | (n,v)::r,m,h=>by
   unfold bindL;rw[zeF fun w hw=>h w (mem_cons_of_mem _ hw)];split
   . have:x≠n:=by rintro rfl;exact h v mem_cons_self
     simp[this]
   . rfl
theorem zeH {kindOf:Str->Option NameKind}:∀{binds:List (Str × Value)} {m:Str->Option Value},(∀v,(x,v)∉binds)->bindC kindOf binds m x=m x
 | [],_,_=>rfl
 | (n,v)::r,m,h=>by
   unfold bindC;rw[zeH fun w hw=>h w (mem_cons_of_mem _ hw)];split
   . rfl
   . have:x≠n:=by rintro rfl;exact h v mem_cons_self
     simp[this]
theorem zeG {kindOf:Str->Option NameKind}:∀{P:List Str} {vs:List Value} {i:Nat} {m:Str->Option Value},P.Nodup->P[i]?=some x->vs[i]?=some v->kindOf x=some .local->
  bindL kindOf (P.zip vs) m x=some v
 | [],_,_,_,_,h,_,_=>by simp at h
 |_::_,[],_,_,_,_,h,_=>by simp at h
 | p::P,w::vs,0,m,nd,h1,h2,hk=>by
   simp at h1 h2;subst h1;subst h2;show bindL kindOf ((p,w)::P.zip vs) m p=_;unfold bindL;rw[zeF fun v hv=>(nodup_cons.mp nd).1 (List.of_mem_zip hv).1,if_pos hk];simp
 | p::P,w::vs,i+1,m,nd,h1,h2,hk=>by
   show bindL kindOf ((p,w)::P.zip vs) m x=_;exact zeG (nodup_cons.mp nd).2 (by simpa using h1) (by simpa using h2) hk
theorem zeI {kindOf:Str->Option NameKind}:∀{P:List Str} {vs:List Value} {i:Nat} {m:Str->Option Value},P.Nodup->P[i]?=some x->vs[i]?=some v->kindOf x≠some .local->
  bindC kindOf (P.zip vs) m x=some v
 | [],_,_,_,_,h,_,_=>by simp at h
 |_::_,[],_,_,_,_,h,_=>by simp at h
 | p::P,w::vs,0,m,nd,h1,h2,hk=>by
   simp at h1 h2;subst h1;subst h2;show bindC kindOf ((p,w)::P.zip vs) m p=_;unfold bindC;rw[zeH fun v hv=>(nodup_cons.mp nd).1 (List.of_mem_zip hv).1,if_neg hk];simp
 | p::P,w::vs,i+1,m,nd,h1,h2,hk=>by
   show bindC kindOf ((p,w)::P.zip vs) m x=_;exact zeI (nodup_cons.mp nd).2 (by simpa using h1) (by simpa using h2) hk
noncomputable def start (N:List Str)(vs:List V):St:=vs.map some++List.replicate (N.length - vs.length) none
noncomputable def cxOf (CX:CXT)(P:Program)(w:World)(K:PySem.W.Frag)(mg:Str->Option Value)(base:Heap)(N:List Str)(qual:Str)(scope:Scope)(f:Addr)(cd:Value)(A:Around)(outer:List Env)(s:Shared)(H:Hp)(E:XK):Cx where
 prog:=P
 w:=w
 K:=K
 mg:=mg
 base:=base
 A:=A.deeper (envOfC qual scope s.heap.objs.size f cd)
 N:=N
 s₀:=s
 H₀:=H
 env:=envOfC qual scope s.heap.objs.size f cd
 outer:=outer
 stack:=envOfC qual scope s.heap.objs.size f cd::outer
 ex:=[]
 calm:=true
 fn:=fun _=>true
 pn:=[]
 xe:=fun e s'=>wpAny (model P w) (A.deeper (envOfC qual scope s.heap.objs.size f cd)) (leaving (envOfC qual scope s.heap.objs.size f cd) e) (fun _ s''=>CX outer H s E e s'') (fun e' s''=>CX outer H s E e' s'') s'
theorem zgc {sc:Scope}(h:sc.names.lookup x=some .cell):∃c,(cellsFrom n sc.names []).lookup x=some c:=by
 have q:=PySem.W.cellsFrom_some sc.names n [] (.inl h);exact Option.isSome_iff_exists.mp q
theorem zh7 {K:PySem.W.Frag}
  (S:FnScope N ps scope) (hd:A.handled=none) (e0:Env0 P w K mg base A outer s H) (hl:vs.length=ps.length) (r:Vals vs us)
  (x:InCallC s s.heap.objs.size (bindL (envOfC qual scope s.heap.objs.size f cd).kindOf (ps.zip us) fun _=>none) (cellsFrom (s.heap.objs.size+1) scope.names []) (bindC (envOfC qual scope s.heap.objs.size f cd).kindOf (ps.zip us) fun _=>none) s1) :
  Inv (cxOf CX P w K mg base N qual scope f cd A outer s H E) [] (start N vs) H s1:=by
 have hpl:ps.length<=N.length:=by have:=congrArg List.length S.pre;rw[length_take] at this;omega
 obtain⟨h1,tk,rfl,hk⟩:=x.done;have noA:∀b:Addr,b∉(cxOf CX P w K mg base N qual scope f cd A outer s H E).ex:=fun b z=>absurd (show b∈([]:List Addr) from z) (by simp);refine⟨⟨e0.mod,S.kind,rfl,rfl,le_refl _,fun y z c h1 h2=>?_,fun y hy=>?_,fun y c _ h=>?_,fun _=>hd,Around.frames_deeper e0.frames,.inr ⟨rfl,rfl⟩,fun b z=>absurd z (noA b),e0.bs,e0.bsz,fun b _ _=>noA b,fun b z=>absurd z (noA b),e0.funs,e0.frf⟩,
  rfl,e0.bare,Un.kept hk,⟨_,x.toInCall.ns,fun i y v h1 h2 h3=>?_⟩,fun y c h=>⟨_,x.cell y c h⟩,e0.hok.fresh (le_refl _),fun y c h=>?_,fun p hp=>absurd (show p∈([]:List (Addr × Obj)) from hp) (by simp),e0.hok.kept hk,?_⟩
 . exact name_of_addr x.apart (PySem.mem_of_lookup h1) (PySem.mem_of_lookup h2)
 . have hy:scope.names.lookup y=some .cell\/scope.names.lookup y=some .free:=hy;rcases hy with hy|hy
   . exact zgc hy
   . exact absurd rfl (S.nofree _ (PySem.mem_of_lookup hy))
 . exact le_of_lt (x.above y c (PySem.mem_of_lookup h))
 . have hi:i<vs.length:=by
    unfold start at h2;by_cases hi:i<vs.length
    . exact hi
    . rw[getElem?_append_right (by simpa using hi)] at h2;rw[List.getElem?_replicate] at h2;split at h2<;>cases h2
   have ha:vs[i]?=some v:=by
    unfold start at h2;rw[getElem?_append_left (by simpa using hi),getElem?_map] at h2;cases e:vs[i]? with
    |none=>rw[e] at h2;cases h2
    |some a=>rw[e] at h2;cases h2;rfl
   obtain⟨u,hu,rv⟩:=r.get ha;have hp:ps[i]?=some y:=by
    rw[<-S.pre,List.getElem?_take_of_lt (by omega)];exact h1
   have ndP:ps.Nodup:=by rw[<-S.pre];exact S.nd.sublist (List.take_sublist _ _)
   refine⟨u,rv,?_⟩;rcases S.par y (mem_of_getElem? hp) with k|k
   . exact .inl ⟨k,zeG ndP hp hu k⟩
   . obtain⟨c,e⟩:=zgc k;refine .inr ⟨.inl k,c,e,?_⟩;have q:=x.cell y c e;rw[zeI ndP hp hu (by show scope.names.lookup y≠_;rw[k];decide)] at q;exact q
 . exact e0.hok.fresh (le_of_lt (x.above y c (PySem.mem_of_lookup h)))
 . unfold start;show _=N.length;rw[length_append,length_map,length_replicate];omega
theorem zn7 {K:PySem.W.Frag}{dV kV doc pm cdv ct oc:Value}
 (lk:K.lookup f=some ⟨oc,od,.func (fnOf name qual params body scope dV kV doc pm an cdv ct),osl⟩) (hcd:codeIn K cdv qual=true) (S:FnScope N ps scope)
   (len:∀vs H Q E,sp vs H Q E->vs.length=ps.length)
   (hbody:∀(A:Around) (outer:List Env) (s:Shared) (H:Hp) (vs:List V) (Q:VK) (E:XK),Room k (A.deeper (envOfC qual scope s.heap.objs.size f cdv))->sp vs H Q E->
    ∃t,PSs (cxOf CX P w K mg base N qual scope f cdv A outer s H E) body t/\t {nx:=fun _ H'=>Q .non H',rt:=Q} (start N vs) H) :
   FnOk P w K mg base CX (k+1) f (fnOf name qual params body scope dV kV doc pm an cdv ct) ps sp:=by
  refine⟨len,fun A outer s H args us vs Q E hr e0 hb r hsp=>?_⟩;have hl:=len _ _ _ _ hsp;have KX:K.In s.heap:=e0.mod.kin.keeps fun b o e=>(e0.bs b o e).1;have lim:s.heap.NoLimit:=e0.mod.nolimit.keeps fun b o e=>(e0.bs b o e).1;have hkind:∀y∈ps.zip us,scope.names.lookup y.1=some .local\/(scope.names.lookup y.1=some .cell/\((cellsFrom (s.heap.objs.size+1) scope.names []).lookup y.1).isSome=true):=fun⟨n,v⟩ hy=>by
   rcases S.par n (List.of_mem_zip hy).1 with q|q
   . exact .inl q
   . exact .inr ⟨q,PySem.W.cellsFrom_some _ _ _ (.inl q)⟩
  refine codeAny_call_function hr.depth (KX _ _ lk) rfl S.co S.gen rfl (PySem.W.codeRec_of KX hcd) (hb _ _ _ _ ?_);refine wpAny_newFunctionEnv_cells S.kind hkind fun env he s1 x=>?_;subst he;refine⟨lim.keeps x.toInCall.keep,codeAny_func ?_⟩;obtain⟨t,ht,hq⟩:=hbody A outer s H vs Q E (hr.deeper _) hsp;have I:Inv (cxOf CX P w K mg base N qual scope f cdv A outer s H E) [] (start N vs) H s1:=zh7 S hr.hd e0 hl r x;refine wpAny_mono (ht [] s1 (start N vs) H _ I hq) (fun fl s' hs=>?_) fun e s' hs=>hs;have fin:∀{σ':St} {H':Hp} {v:V} {u:Value},Inv (cxOf CX P w K mg base N qual scope f cdv A outer s H E) [] σ' H' s'->RelV v u->Q v H'->CE outer P w H s Q u s':=
   fun {σ' H' v u} J rv q=>⟨v,H',J.os,J.bare,J.base,J.hok,rv,q⟩
  cases fl with
  | ret u=>
    obtain⟨v,σ',H',J,rv,q⟩:=hs;exact fin J rv q
  | next=>
    obtain⟨σ',H',J,q⟩:=hs;exact fin (v:=V.non) J rfl q
  | brk=>
    obtain⟨_,_,_,q⟩:=hs;exact False.elim q
  | cont=>
    obtain⟨_,_,_,q⟩:=hs;exact False.elim q
end L2
namespace L2
open PySem PySem.Spec PyProof.Rows
section
variable {X:Cx} {x:Str} {p pos:Pos} {e:Expr} {es:List Expr} {t:TA} {id T:String} {r:List V->Hp->VK->Prop}
def tCB (r:List V->Hp->VK->Prop)(t:TA):TE:=fun σ H Q=>t σ H fun vs H1=>r vs H1 Q
theorem zbo (hc:zbt X (.builtin id) r)(hg:Gl X x)(hm:X.mg x=none)(hv:bootBuiltins x=some (.builtin id))(ha:PA X (e::es) t)(hn:x≠"__name__":=by decide)(hdb:(x == ("__debug__":Str))=false:=by decide)
  (he:starEach (e::es) X.env=(false,eval e X.env)::starEach es X.env:=by rfl) (hpl:(backTo pos (starEach es X.env)).any (·.1)=false:=by rfl):PE X (.Call (.Name x p) (e::es) [] pos) (tCB r t):=by
 intro pins s σ H Q I h;refine wpAny_Call_Name_kw (zeo I hg hm hv ?_ hn hdb);exact PyProof.Rows.callWith_builtin1 (thn (ha pos pins s σ H _ I h) fun us s1 ⟨vs,H1,I1,r1,q1⟩=>hc pins s1 σ H1 vs us Q I1 r1 q1) he hpl
theorem zbk (hc:zbt X (.type T) r)(hg:Gl X x)(hm:X.mg x=none)(hv:bootBuiltins x=some (.type T))(ha:PA X (e::es) t)(hn:x≠"__name__":=by decide)(hdb:(x == ("__debug__":Str))=false:=by decide)
  (he:starEach (e::es) X.env=(false,eval e X.env)::starEach es X.env:=by rfl) (hpl:(backTo pos (starEach es X.env)).any (·.1)=false:=by rfl):PE X (.Call (.Name x p) (e::es) [] pos) (tCB r t):=by
 intro pins s σ H Q I h;refine wpAny_Call_Name_kw (zeo I hg hm hv ?_ hn hdb);exact PyProof.Rows.callWith_type1 (thn (ha pos pins s σ H _ I h) fun us s1 ⟨vs,H1,I1,r1,q1⟩=>hc pins s1 σ H1 vs us Q I1 r1 q1) he hpl
end
end L2
namespace L2
open PySem PySem.Spec PyProof.Rows
section
variable {κ:Type} [DecidableEq κ]
noncomputable def valV (kvs:List (κ × V))(k:κ):Option V:=(kvs.find? fun kv=>decide (kv.1=k)).map (·.2)
noncomputable def putK (kvs:List (κ × V))(k:κ)(v:V):List (κ × V):=
 if (kvs.any fun kv=>decide (kv.1=k))=true then kvs.map (fun kv=>if kv.1=k then (kv.1,v) else kv) else kvs++[(k,v)]
theorem KV.any (r:KV kvs vs)(k:κ):(kvs.any fun kv=>decide (kv.1=k))=vs.any fun kv=>decide (kv.1=k):=by
 induction r with
 |nil=>rfl
 |cons h t ih=>rw[any_cons,any_cons,ih,h.1]
end
section
variable {P:Program} {w:World} {H:Hp} {h:Heap} {a:Addr}
end
def DGet (H:Hp)(a:Addr)(y:V)(r:Option V):Prop:=
 (∃kvs k,Rd H a (.dK kvs)/\y=kV k/\r=valV kvs k)\/∃kvs k b,Rd H a (.dT kvs)/\y=.ref b/\H b=some (.tup (k.map kV))/\r=valV kvs k
def DPut (H:Hp)(a:Addr)(y v:V)(H':Hp):Prop:=
 (∃kvs k,H a=some (.dK kvs)/\y=kV k/\kvs.length<sizeLine/\H'=upd H a (.dK (putK kvs k v)))\/
 ∃kvs k b,H a=some (.dT kvs)/\y=.ref b/\H b=some (.tup (k.map kV))/\kvs.length<sizeLine/\H'=upd H a (.dT (putK kvs k v))
theorem DGet.k {k:Key}(e:H a=some (.dK kvs)):DGet H a (kV k) (valV kvs k):=.inl ⟨kvs,k,.inl e,rfl,rfl⟩
theorem DPut.k {k:Key}(e:H a=some (.dK kvs))(hl:kvs.length<sizeLine):DPut H a (kV k) v (upd H a (.dK (putK kvs k v))):=.inl ⟨kvs,k,e,rfl,hl,rfl⟩
section
variable {X:Cx} {pins:List (Addr × Obj)} {σ:St} {H:Hp} {s:Shared} {a:Addr} {y v:V} {u r:Value} {o:Option V} {A:Around} {E:Value->Shared->Prop}
end
section
variable {X:Cx} {pins:List (Addr × Obj)} {σ:St} {H:Hp} {s:Shared} {a:Addr} {kvs:List (Key × V)} {k:Key} {u:Value} {A:Around} {E:Value->Shared->Prop}
end
section
variable {X:Cx} {o i e value:Expr} {pos pos' tpos:Pos} {td ty tv:TE}
end
section
variable {X:Cx} {pos:Pos}
end
structure M1 (X:Cx) (o:Expr) (m:Str) (apos:Pos) (e:Expr) (cpos:Pos):Prop where
 base:attributeBase o m X.env (eval o X.env)=eval o X.env
 few:((backTo cpos (starEach [e] X.env)).all (fun x=>!x.1)&&(backToKw cpos (keywordEach [] X.env)).all (fun x=>x.1.isSome)
  && decide (([e]:List Expr).length+([]:List Keyword).length+(if ([]:List Keyword).isEmpty then 0 else 1)<30))=true
 line:(apos.endLine == cpos.line)=true
 trees:backTo cpos (starEach [e] X.env)=[(false,eval e X.env)]
structure M2 (X:Cx) (o:Expr) (m:Str) (apos:Pos) (e f:Expr) (cpos:Pos):Prop where
 base:attributeBase o m X.env (eval o X.env)=eval o X.env
 few:((backTo cpos (starEach [e,f] X.env)).all (fun x=>!x.1)&&(backToKw cpos (keywordEach [] X.env)).all (fun x=>x.1.isSome)
  && decide (([e,f]:List Expr).length+([]:List Keyword).length+(if ([]:List Keyword).isEmpty then 0 else 1)<30))=true
 line:(apos.endLine == cpos.line)=true
 trees:backTo cpos (starEach [e,f] X.env)=[(false,eval e X.env),(false,eval f X.env)]
section
variable {X:Cx} {pins:List (Addr × Obj)} {σ:St} {H:Hp} {s:Shared} {a:Addr} {y d:V} {u r:Value} {o:Option V} {A:Around} {E:Value->Shared->Prop}
end
section
variable {X:Cx} {o e f:Expr} {apos cpos:Pos} {td ty tx:TE}
end
section
variable {X:Cx} {pins:List (Addr × Obj)} {σ:St} {H:Hp} {s:Shared} {a:Addr} {kvs:List (Key × V)} {A:Around} {E:Value->Shared->Prop}
end
section
variable {X:Cx} {pins:List (Addr × Obj)} {σ:St} {H:Hp} {s:Shared} {a:Addr} {y:V} {u:Value} {A:Around} {E:Value->Shared->Prop}
end
end L2
namespace HT
open PySem PyProof.Rows
section
open PySem.SeqAt
open PySem.AutoSeq1 (wpAny_loadPart')
open PySem.MeetsSeq PySem.MeetsSeq2 PySem.MeetsSeq3
end
section
variable {prog:Program} {w:World} {A:Around} {E:Value->Shared->Prop} {s:Shared}
theorem cat_tup (ht:IsTup s.heap t vs.toArray)(hb:IsTup s.heap b ws.toArray)(hv:vs≠[])
  (h1:ws=[]->Q (.ref t) s) (h2:ws≠[]->Q (.ref s.heap.objs.size) {s with heap:=s.heap.push {cls:=.type "tuple",data:=.seq (vs++ws).toArray}})
  (hsz:vs.length+ws.length<=sizeLine):wpAny (model prog w) A (binaryOp .Add (.ref t) (.ref b)) Q E s:=by
 obtain⟨⟨cls,dd,data,sl⟩,ho,hc,n,hd⟩:=id ht;obtain⟨⟨cls2,dd2,data2,sl2⟩,ho2,hc2,n2,hd2⟩:=id hb;subst hc hd hc2 hd2;have e:vs.toArray++ws.toArray=(vs++ws).toArray:=by simp
 by_cases hw:ws=[]
 . exact concat_meets ⟨_,ho,rfl⟩ ⟨_,ho2,rfl⟩ noFill_tuple_add seq_tuple_add PySem.F.slot_tuple_add PySem.F.entry_tuple_add (PySem.F.args_tuple_add_2 _ _)
    (tuple_addW1 t b vs.toArray ws.toArray n n2 dd dd2 sl sl2 (by simpa using hv) (by simp[hw])) ⟨ho,ho2,h1 hw⟩
 . refine concat_meets ⟨_,ho,rfl⟩ ⟨_,ho2,rfl⟩ noFill_tuple_add seq_tuple_add PySem.F.slot_tuple_add PySem.F.entry_tuple_add (PySem.F.args_tuple_add_2 _ _)
    (tuple_addW2 t b vs.toArray ws.toArray n n2 dd dd2 sl sl2 (by simpa using hv) (by simpa using hw) (by rw[size_toArray,size_toArray];exact hsz)) ⟨ho,ho2,?_⟩
   rw[e];exact h2 hw
noncomputable def sIx (n d:Nat):Option Int->Nat
 |none=>d
 |some v=>if v<0 then (v+(n:Int)).toNat else min v.toNat n
theorem ziA (v:Int)(n d:Nat):(if v<0 then max (v+(n:Int)) 0 else min v (n:Int))=((sIx n d (some v):Nat):Int):=by
 show (if v<0 then max (v+(n:Int)) 0 else min v (n:Int))=(((if v<0 then (v+(n:Int)).toNat else min v.toNat n):Nat):Int);by_cases hv:v<0
 . simp only[if_pos hv];omega
 . simp[if_neg hv];omega
theorem zg0 (lo hi:Option Int)(n:Nat):Builtin.Slice.sliceAdjust lo hi 1 (n:Int)=(((sIx n 0 lo:Nat):Int),((sIx n n hi:Nat):Int)):=by
 refine Prod.ext ?_ ?_
 . cases lo with
   |none=>rfl
   |some v=>exact ziA v n 0
 . cases hi with
   |none=>rfl
   |some v=>exact ziA v n n
theorem zgy (i j:Nat):Builtin.Slice.slicePlaces (i:Int) (j:Int) 1=j - i:=by
 unfold Builtin.Slice.slicePlaces;split<;>omega
theorem zdf (p:IsPart v o)(h:Q o s):wpAny (model prog w) A (Builtin.Slice.slicePartIndex v) Q E s:=by
 cases p with
 |none=>exact slicePart_none h
 |int i t=>exact slicePart_int h
theorem sliceApplied_gen {lo hi:Option Int}{n:Nat}(hs:s.heap.IsSliceOf sl vl vu .none)(pl:IsPart vl lo)(pu:IsPart vu hi)
  (h:Q (((sIx n 0 lo:Nat):Int),1,sIx n n hi - sIx n 0 lo) s):wpAny (model prog w) A (Builtin.Slice.sliceApplied (.ref sl) (pure (n:Int))) Q E s:=by
 obtain⟨os,hos,hcs,hds⟩:=id hs;refine wpAny_bind (wpAny_bind (wpAny_field hos hds rfl (wpAny_bind (wpAny_field hos hds rfl (wpAny_bind (wpAny_field hos hds rfl (wpAny_pure ?_)))))));refine wpAny_bind (slicePart_none ?_);refine wpAny_bind (zdf pl (wpAny_bind (zdf pu (wpAny_bind (wpAny_pure ?_)))));show wpAny _ _ (match Builtin.Slice.sliceAdjust lo hi 1 (n:Int) with|(lo,hi)=>pure (lo,(1:Int),Builtin.Slice.slicePlaces lo hi 1)) _ _ s;rw[zg0 lo hi n];show wpAny _ _ (pure (((sIx n 0 lo:Nat):Int),(1:Int),Builtin.Slice.slicePlaces ((sIx n 0 lo:Nat):Int) ((sIx n n hi:Nat):Int) 1)) _ _ s;rw[zgy];exact wpAny_pure h
theorem zjm (xs:Array Value)(i k:Nat):((List.range k).filterMap fun (m:Nat)=>xs[((i:Int)+(m:Int) * 1).toNat]?).toArray=((xs.toList.drop i).take k).toArray:=by
 have e:(fun (m:Nat)=>xs[((i:Int)+(m:Int) * 1).toNat]?)=fun m=>xs[i+m]?:=by
  funext m;have:((i:Int)+(m:Int) * 1).toNat=i+m:=by omega
  rw[this]
 rw[e];have:=pick_run xs i k;rw[List.filterMap_map] at this;have e2:((fun x=>xs[x]?)∘fun x=>i+x)=fun m=>xs[i+m]?:=rfl;rw[e2] at this;rw[this]
theorem getItem_tuple_cut {lo hi:Option Int}(ht:IsTup s.heap t items)(hs:s.heap.IsSliceOf sl vl vu .none)(pl:IsPart vl lo)(pu:IsPart vu hi)
  (hw:¬(sIx items.size 0 lo=0/\sIx items.size items.size hi=items.size))
  (h:Q (.ref s.heap.objs.size) {s with heap:=s.heap.push {cls:=.type "tuple",data:=.seq ((items.toList.drop (sIx items.size 0 lo)).take (sIx items.size items.size hi - sIx items.size 0 lo)).toArray}})
  (hsz:items.size<=sizeLine):wpAny (model prog w) A (getItem (.ref t) (.ref sl)) Q E s:=by
 have htake:sizeOk (.seq ((items.toList.drop (sIx items.size 0 lo)).take (sIx items.size items.size hi - sIx items.size 0 lo)).toArray):=by
  show ((items.toList.drop (sIx items.size 0 lo)).take (sIx items.size items.size hi - sIx items.size 0 lo)).toArray.size<=sizeLine;rw[size_toArray,length_take,List.length_drop,length_toList];omega
 obtain⟨os,hos,hcs,hds⟩:=id hs;have hTs:s.TypeIs (.ref sl) "slice":=⟨os,hos,hcs⟩;unfold getItem
 try with_reducible apply wpAny_holding
 refine wpAny_bind (wpAny_sequenceKey ht.typeIs (by decide) ?_);refine wpAny_bind (wpAny_callSpecial?_slot ht.typeIs PyProof.Rows.slot_tuple_getitem
  (wpAny_call_entry PyProof.Rows.slot_tuple_getitem ht.typeIs entry_tuple_getitem ?_ (args_tuple_getitem _ _)))
 show wpAny _ _ (Builtin.Tuple.tupleItemsOf (.ref t) >>= _) _ _ s;refine wpAny_bind (tupleItemsOf_ ht ?_);refine wpAny_bind (wpAny_typeOf hTs ?_);refine wpAny_bind (sliceApplied_gen hs pl pu ?_);have hno:¬((((sIx items.size 0 lo:Nat):Int) == 0&&(1:Int) == 1&&(sIx items.size items.size hi - sIx items.size 0 lo) == items.size)=true):=by
  intro q;rw[and_eq_true,and_eq_true] at q;have q1:((sIx items.size 0 lo:Nat):Int)=0:=eq_of_beq q.1.1;have q2:sIx items.size items.size hi - sIx items.size 0 lo=items.size:=eq_of_beq q.2;exact hw ⟨by omega,by omega⟩
 show wpAny _ _ (if (((sIx items.size 0 lo:Nat):Int) == 0&&(1:Int) == 1&&(sIx items.size items.size hi - sIx items.size 0 lo) == items.size)=true then _ else _) _ _ s;rw[if_neg hno,zjm]
 first
  |exact wpAny_bind (wpAny_newObj_type (wpAny_pure ⟨_,rfl,wpAny_pure h⟩) htake)
  |exact wpAny_bind (wpAny_newObj_type (wpAny_bind (wpAny_pure (wpAny_pure ⟨_,rfl,wpAny_pure h⟩))) htake)
  |exact wpAny_bind (wpAny_bind (wpAny_newObj_type (wpAny_pure (wpAny_pure ⟨_,rfl,wpAny_pure h⟩)) htake))
  |exact wpAny_bind (wpAny_bind (wpAny_newObj_type (wpAny_pure ⟨_,rfl,wpAny_pure h⟩) htake))
end
end HT
namespace L2
open PySem PySem.Spec PyProof.Rows
abbrev TO:=St->Hp->(Option Int->Hp->Prop)->Prop
def PO (X:Cx)(e:Option Expr)(t:TO):Prop:=
 ∀(pins:List (Addr × Obj)) (s:Shared) (σ:St) (H:Hp) (Q:Option Int->Hp->Prop),Inv X pins σ H s->t σ H Q->
  wpAny (model X.prog X.w) X.A (evalPart e X.env) (fun u s'=>∃o H',Inv X pins σ H' s'/\IsPart u o/\Q o H') X.xe s
def zkN:TO:=fun _ H Q=>Q none H
def zoM (t:TE):TO:=fun σ H Q=>t σ H fun x H1=>∃i,x=.int i/\Q (some i) H1
theorem zcg:∀{us:List Value},Vals (ns.map V.int) us->IntsAre us ns:=by
 induction ns with
 |nil=>intro us r;rw[List.map_nil] at r;cases r;exact .nil
 | cons n ns ih=>
   intro us r;cases r with
   | cons r1 r2=>
     obtain⟨t,e⟩:=r1;subst e;exact .cons n t (ih r2)
section
variable {X:Cx} {e:Expr} {te:TE} {lo hi:Option Expr} {tl th:TO} {pos p2:Pos}
theorem zlt:PO X none zkN:=by
 intro pins s σ H Q I h;exact wpAny_pure ⟨none,H,I,.none,h⟩
theorem zls (h:PE X e te):PO X (some e) (zoM te):=by
 intro pins s σ H Q I hw;refine thn (h pins s σ H _ I hw) fun u s1 ⟨x,H1,I1,r1,q1⟩=>?_;obtain⟨i,rfl,q⟩:=q1;obtain⟨t,rfl⟩:=r1;exact⟨some i,H1,I1,.int i t,q⟩
def SlR (X:Cx)(r:V->Option Int->Option Int->Hp->VK->Prop):Prop:=
 ∀(pins:List (Addr × Obj)) (s:Shared) (σ:St) (H:Hp) (x:V) (v vl vu:Value) (lo hi:Option Int) (sl:Addr) (Q:VK),Inv X pins σ H s->RelV x v->s.heap.IsSliceOf sl vl vu .none->IsPart vl lo->IsPart vu hi->r x lo hi H Q->
  ∃T id,typeLookup (.type T) "__getitem__"=pure (some (.builtin id))/\s.TypeIs v T/\wpAny (model X.prog X.w) X.A (getItem v (.ref sl)) (EP X pins σ Q) X.xe s
theorem SlR.or (h:SlR X r)(h':SlR X r'):SlR X (fun x lo hi H Q=>r x lo hi H Q\/r' x lo hi H Q):=by
 intro pins s σ H x v vl vu lo hi sl Q I rx hs pl pu q;rcases q with q|q
 . exact h pins s σ H x v vl vu lo hi sl Q I rx hs pl pu q
 . exact h' pins s σ H x v vl vu lo hi sl Q I rx hs pl pu q
def tSl (r:V->Option Int->Option Int->Hp->VK->Prop)(te:TE)(tl th:TO):TE:=fun σ H Q=>te σ H fun x H1=>tl σ H1 fun l H2=>th σ H2 fun u H3=>r x l u H3 Q
theorem zjq (hr:SlR X r)(he:PE X e te)(hl:PO X lo tl)(hu:PO X hi th):PE X (.Subscript e (.Slice lo hi none p2) pos) (tSl r te tl th):=by
 intro pins s σ H Q I h;refine Subscript_ (thn (he pins s σ H _ I h) fun v s1 ⟨x,H1,I1,r1,q1⟩=>?_);refine wpAny_Slice (thn (hl pins s1 σ H1 _ I1 q1) fun vl s2 ⟨l,H2,I2,pl,q2⟩=>thn (hu pins s2 σ H2 _ I2 q2) fun vu s3 ⟨u,H3,I3,pu,q3⟩=>?_);apply wpAny_pure;have I4:Inv X pins σ H3 {s3 with heap:=s3.heap.push {cls:=.type "slice",data:=.fields #[vl,vu,.none]}}:=I3.kept (t':=s3.toks) fun b ob q=>Heap.get?_push_of_some _ q;obtain⟨T,id,hT,ht,hg⟩:=hr pins {s3 with heap:=s3.heap.push {cls:=.type "slice",data:=.fields #[vl,vu,.none]}} σ H3 x v vl vu l u s3.heap.objs.size Q I4 r1 (Heap.IsSliceOf.new ..) pl pu q3;exact tail_any ht hT hg (by with_unfolding_all rfl)
noncomputable def cutV (xs:List V)(lo hi:Option Int):List V:=(xs.drop (HT.sIx xs.length 0 lo)).take (HT.sIx xs.length xs.length hi - HT.sIx xs.length 0 lo)
theorem zcX (xs:List V)(lo hi:Option Int):(cutV xs lo hi).length<=xs.length:=by
 unfold cutV;rw[length_take,List.length_drop];omega
def rSlT (K:PySem.W.Frag):V->Option Int->Option Int->Hp->VK->Prop:=fun x lo hi H Q=>∃a xs,x=.ref a/\SqT K H a xs/\
 ¬(HT.sIx xs.length 0 lo=0/\HT.sIx xs.length xs.length hi=xs.length)/\∀p,H p=none->Q (.ref p) (upd H p (.tup (cutV xs lo hi)))
theorem zmP:SlR X (rSlT X.K):=by
 intro pins s σ H x v vl vu lo hi sl Q I rx hs pl pu h;obtain⟨a,xs,rfl,hx,hw,q⟩:=h;cases rx;obtain⟨its,r,ht,hz⟩:=I.tuple hx;have hlen:its.toArray.size=xs.length:=by rw[size_toArray];exact r.length.symm
 refine⟨"tuple",_,PyProof.Rows.slot_tuple_getitem.lookup,ht.typeIs,?_⟩;refine HT.getItem_tuple_cut ht hs pl pu (by rw[hlen];exact hw) ?_ (by rw[hlen];exact hz);rw[hlen];refine⟨.ref s.heap.objs.size,_,I.laid (t':=s.toks) (fun b ob q=>Heap.get?_push_of_some _ q) (le_refl _) ?_,rfl,q _ (I.hok.fresh (le_refl _))⟩;exact⟨le_trans (zcX xs lo hi) hz,_,(r.drop (HT.sIx xs.length 0 lo)).take (HT.sIx xs.length xs.length hi - HT.sIx xs.length 0 lo),IsTup.new _ _⟩
def zo2 (K:PySem.W.Frag):R2:=fun x y H Q=>∃a b xs ys,x=.ref a/\y=.ref b/\SqT K H a xs/\SqT K H b ys/\xs≠[]/\xs.length+ys.length<=sizeLine/\
 (ys=[]->Q (.ref a) H)/\(ys≠[]->∀p,H p=none->Q (.ref p) (upd H p (.tup (xs++ys))))
theorem Vals.nil_iff (r:Vals xs us):us=[]↔xs=[]:=by
 cases r with
 |nil=>simp
 |cons _ _=>simp
theorem zlC:OpR X (binaryOp .Add) (zo2 X.K):=by
 intro pins s σ H x y v u Q I rx ry h;obtain⟨a,b,xs,ys,rfl,rfl,ha,hb,hx,hz,q1,q2⟩:=h;cases rx;cases ry;obtain⟨its,r1,p1,_⟩:=I.tuple ha;obtain⟨its2,r2,p2,_⟩:=I.tuple hb;refine HT.cat_tup p1 p2 (fun z=>hx (r1.nil_iff.mp z)) (fun z=>⟨.ref a,H,I,rfl,q1 (r2.nil_iff.mp z)⟩) (fun z=>?_) (by rw[<-r1.length,<-r2.length];exact hz);refine⟨.ref s.heap.objs.size,_,I.laid (t':=s.toks) (fun b ob q=>Heap.get?_push_of_some _ q) (le_refl _) ?_,rfl,q2 (fun w=>z (r2.nil_iff.mpr w)) _ (I.hok.fresh (le_refl _))⟩;exact⟨by rw[length_append];exact hz,_,r1.append r2,IsTup.new _ _⟩
end
end L2
namespace L2
open PySem PySem.Spec PyProof.Rows
noncomputable def ixN (n:Nat)(i:Int):Option Nat:=if 0<=i then (if i<n then some i.toNat else none) else if -(n:Int)<=i then some (i+n).toNat else none
noncomputable def atI {α:Type}(xs:List α)(i:Int):Option α:=(ixN xs.length i).bind fun j=>xs[j]?
theorem zh0 (h:ixN n i=some j):seqIndex? i n=some j/\j<n/\-(n:Int)<=i/\i<n:=by
 unfold ixN at h;by_cases h0:0<=i
 . rw[if_pos h0] at h;by_cases h1:i<n
   . rw[if_pos h1] at h;have e:i.toNat=j:=Option.some.inj h;exact⟨by rw[seqIndex_of h0 h1,e],by omega,by omega,h1⟩
   . rw[if_neg h1] at h;cases h
 . rw[if_neg h0] at h;by_cases h1:-(n:Int)<=i
   . rw[if_pos h1] at h;have e:(i+n).toNat=j:=Option.some.inj h;exact⟨by rw[seqIndex_neg (by omega) h1,e],by omega,h1,by omega⟩
   . rw[if_neg h1] at h;cases h
theorem zfk (h:atI xs i=some v):∃j,seqIndex? i xs.length=some j/\xs[j]?=some v/\j<xs.length/\-(xs.length:Int)<=i/\i<xs.length:=by
 unfold atI at h;cases e:ixN xs.length i with
 |none=>rw[e] at h;cases h
 | some j=>
   rw[e] at h;obtain⟨h1,h2,h3,h4⟩:=zh0 e;exact⟨j,h1,h,h2,h3,h4⟩
def ziP (b:Expr):Prop:=∀o i,subscripted b false o i=operate [o,i] (getItem o i)
def IxR (X:Cx)(r:R2):Prop:=
 ∀(value slice:Expr) (pins:List (Addr × Obj)) (s:Shared) (σ:St) (H:Hp) (x y:V) (v u:Value) (Q:VK),Inv X pins σ H s->RelV x v->RelV y u->r x y H Q->
  subscripted slice false v u=operate [v,u] (getItem v u)->wpAny (model X.prog X.w) X.A (subscriptTail value slice v u) (EP X pins σ Q) X.xe s
def MtR (X:Cx)(id:String)(r:V->List V->Hp->VK->Prop):Prop:=
 ∀(pins:List (Addr × Obj)) (s:Shared) (σ:St) (H:Hp) (x:V) (xs:List V) (v:Value) (us:List Value) (Q:VK),Inv X pins σ H s->RelV x v->Vals xs us->r x xs H Q->
  wpAny (model X.prog X.w) X.A (call (.builtin id) (v::us)) (EP X pins σ Q) X.xe s
section
variable {X:Cx} {a b:Expr} {ta tb:TE} {pos:Pos}
theorem IxR.or (h:IxR X r)(h':IxR X r'):IxR X (fun x y H Q=>r x y H Q\/r' x y H Q):=by
 intro value slice pins s σ H x y v u Q I rx ry q hs;rcases q with q|q
 . exact h value slice pins s σ H x y v u Q I rx ry q hs
 . exact h' value slice pins s σ H x y v u Q I rx ry q hs
theorem zo7 (hr:IxR X r)(ha:PE X a ta)(hb:PE X b tb)(hs:ziP b):PE X (.Subscript a b pos) (tOp r ta tb):=by
 intro pins s σ H Q I h;exact Subscript_ (binT ha hb I h fun v u s2 x y H2 I2 rx ry q=>hr a b pins s2 σ H2 x y v u Q I2 rx ry q (hs _ _))
def rIxL (K:PySem.W.Frag):R2:=fun x y H Q=>∃p xs i v,x=.ref p/\y=.int i/\SqL K H p xs/\atI xs i=some v/\Q v H
def rIxT (K:PySem.W.Frag):R2:=fun x y H Q=>∃p xs i v,x=.ref p/\y=.int i/\SqT K H p xs/\atI xs i=some v/\Q v H
def rIxS:R2:=fun x y H Q=>∃z i c,x=.str z/\y=.int i/\z.length<=sizeLine/\atI z.cps.toList i=some c/\Q (.str ⟨#[c]⟩) H
theorem ix_list:IxR X (rIxL X.K):=by
 intro value slice pins s σ H x y v u Q I rx ry h hs;obtain⟨p,xs,i,z,rfl,rfl,hq,he,q⟩:=h;cases rx;obtain⟨t,rfl⟩:=ry;obtain⟨its,r,pl,hz⟩:=I.list hq;obtain⟨j,h1,h2,h3,h4,h5⟩:=zfk he;obtain⟨w,ew,rw'⟩:=r.get h2;have hl:=r.length;have hn:=zen;have fin:EP X pins σ Q w s:=⟨z,H,I,rw',q⟩;by_cases h0:0<=i
 . have hj:i.toNat=j:=by
    rw[seqIndex_of h0 h5] at h1;exact Option.some.inj h1
   exact item_listR pl.isList h0 (by omega) (by rw[hj];simpa using ew) fin hs
 . have hj:(i+(its.toArray.size:Int)).toNat=j:=by
    rw[seqIndex_neg (by omega) h4] at h1;rw[size_toArray,<-hl];exact Option.some.inj h1
   exact subscriptTail_builtinR pl.isList.typeIs slot_list_getitem.lookup
    (wpAny_getItem_list_neg pl.isList (by omega) (by rw[size_toArray]<;>omega) (by omega) (by rw[hj];simpa using ew) ⟨rfl,fin⟩) hs
theorem ix_tup:IxR X (rIxT X.K):=by
 intro value slice pins s σ H x y v u Q I rx ry h hs;obtain⟨p,xs,i,z,rfl,rfl,hq,he,q⟩:=h;cases rx;obtain⟨t,rfl⟩:=ry;obtain⟨its,r,pl,hz⟩:=I.tuple hq;obtain⟨j,h1,h2,h3,h4,h5⟩:=zfk he;obtain⟨w,ew,rw'⟩:=r.get h2;have hl:=r.length;have hn:=zen;have fin:EP X pins σ Q w s:=⟨z,H,I,rw',q⟩;exact subscriptTail_builtinR pl.typeIs slot_tuple_getitem.lookup
  (getItem_tuple pl (by omega) (by omega) (by rw[size_toArray,<-hl];exact h1) (by simpa using ew) ⟨rfl,fin⟩) hs
theorem znX:IxR X rIxS:=by
 intro value slice pins s σ H x y v u Q I rx ry h hs;obtain⟨z,i,c,rfl,rfl,hz,he,q⟩:=h;obtain⟨t,rfl⟩:=rx;obtain⟨t',rfl⟩:=ry;obtain⟨j,h1,h2,h3,h4,h5⟩:=zfk he;have hl:z.cps.toList.length=z.length:=by simp[Str.length]
 rw[hl] at h1 h4 h5;have hn:=zen;exact tail_any (typeIs_str s z t) slot_str_getitem.lookup (getItem_str (by
  have e1:decide (i < -(2 ^ 63:Int))=false:=decide_eq_false (by omega);have e2:decide (i≥2 ^ 63)=false:=decide_eq_false (by omega);rw[e1,e2,Bool.or_false]) (by rw[h1];simpa using h2) ⟨.str ⟨#[c]⟩,H,I.tok _,⟨_,rfl⟩,q⟩) hs
def rIx (K:PySem.W.Frag):R2:=fun x y H Q=>rIxL K x y H Q\/rIxT K x y H Q\/rIxS x y H Q
theorem znY:IxR X (rIx X.K):=ix_list.or (ix_tup.or znX)
theorem zgD (its:List Value)(n j:Nat)(u:Value):Obj.mapSeq (·.setIfInBounds j u) {cls:=.type "list",data:=.seq its.toArray n}={cls:=.type "list",data:=.seq (its.set j u).toArray n}:=by
 simp[Obj.mapSeq]
theorem Inv.lst {σ:St}(I:Inv X pins σ H s)(h:H p=some (.lst xs)) :
  ∃(its:List Value) (n:Nat),Vals xs its/\s.heap.get? p=some {cls:=.type "list",data:=.seq its.toArray n}/\xs.length<=sizeLine:=by
 obtain⟨z,its,n,r,e⟩:=I.hok p _ h;exact⟨its,n,r,e,z⟩
theorem Inv.lstUpd {σ:St}{its its':List Value}(I:Inv X pins σ H s)(h:H p=some (.lst xs))
  (ho:s.heap.get? p=some {cls:=.type "list",data:=.seq its.toArray n}) (hf:f {cls:=.type "list",data:=.seq its.toArray n}={cls:=.type "list",data:=.seq its'.toArray n'}) (r:Vals ys its') (hz:ys.length<=sizeLine) (t:Nat) :
  Inv X pins σ (upd H p (.lst ys)) {s with heap:=s.heap.update p f,toks:=t}:=by
 have e:(s.heap.update p f).get? p=some {cls:=.type "list",data:=.seq its'.toArray n'}:=by
  rw[Heap.get?_update_self f ho (by rw[hf]<;>rfl),hf]
 refine I.write (by rw[h];trivial) (.inl rfl) (fun b u hb q=>(Heap.get?_update_other _ _ (Ne.symm hb)).trans q) ⟨_,e⟩ ?_;exact⟨hz,its',n',r,e⟩
def zo1:V->V->V->Hp->(Hp->Prop)->Prop:=fun o i v H Q=>∃p xs k j,o=.ref p/\i=.int k/\H p=some (.lst xs)/\ixN xs.length k=some j/\Q (upd H p (.lst (xs.set j v)))
theorem zi2:PSet X zo1:=by
 intro pins s σ H o i v ov iv u Q I ro ri rv h;obtain⟨p,xs,k,j,rfl,rfl,hp,hj,q⟩:=h;cases ro;obtain⟨t,rfl⟩:=ri;obtain⟨its,n,r,ho,hz⟩:=I.lst hp;obtain⟨h1,h2,h3,h4⟩:=zh0 hj;have hl:=r.length;have hn:=zen;have I':Inv X pins σ (upd H p (.lst (xs.set j v))) {s with heap:=s.heap.update p (Obj.mapSeq (·.setIfInBounds j u))}:=
  I.lstUpd hp ho (zgD its n j u) (r.set rv j) (by rw[List.length_set];exact hz) s.toks
 by_cases h0:0<=k
 . have hk:k.toNat=j:=by
    rw[seqIndex_of h0 h4] at h1;exact Option.some.inj h1
   exact PySem.W.ki_setAt ho h0 (by omega) (by rw[size_toArray,<-hl];exact h4) (by rw[hk];exact⟨_,I',q⟩)
 . have hk:(k+(its.toArray.size:Int)).toNat=j:=by
    rw[seqIndex_neg (by omega) h3] at h1;rw[size_toArray,<-hl];exact Option.some.inj h1
   exact PySem.W.ki_setBack ho (by omega) (by rw[size_toArray,<-hl];exact h3) (by omega) (by rw[hk];exact⟨_,I',q⟩)
theorem zd7 (lo hi:Option Int)(n:Nat):(sliceBounds lo hi none n).1=((HT.sIx n 0 lo:Nat):Int)/\(sliceBounds lo hi none n).2.1=((HT.sIx n n hi:Nat):Int)/\(sliceBounds lo hi none n).2.2=1:=by
 refine⟨?_,?_,rfl⟩
 . cases lo with
   |none=>simp[sliceBounds,HT.sIx]
   | some i=>
     simp[sliceBounds,HT.sIx,Option.getD_none,if_true];by_cases h:i<0
     . simp[h,if_true]<;>omega
     . simp[h,if_false]<;>omega
 . cases hi with
   |none=>simp[sliceBounds,HT.sIx]
   | some i=>
     simp[sliceBounds,HT.sIx,Option.getD_none,if_true];by_cases h:i<0
     . simp[h,if_true]<;>omega
     . simp[h,if_false]<;>omega
theorem zdt (its:List Value)(lo hi:Option Int):slicePick its.toArray lo hi none=((its.drop (HT.sIx its.length 0 lo)).take (HT.sIx its.length its.length hi - HT.sIx its.length 0 lo)).toArray:=by
 obtain⟨h1,h2,h3⟩:=zd7 lo hi its.toArray.size;unfold slicePick;rw[h1,h2,h3];simp only[sliceRange_one,pick_run]<;>rfl
def rSlL (K:PySem.W.Frag):V->Option Int->Option Int->Hp->VK->Prop:=fun x lo hi H Q=>∃a xs,x=.ref a/\SqL K H a xs/\∀p,H p=none->Q (.ref p) (upd H p (.lst (cutV xs lo hi)))
theorem zkV:SlR X (rSlL X.K):=by
 intro pins s σ H x v vl vu lo hi sl Q I rx hs pl pu h;obtain⟨a,xs,rfl,hx,q⟩:=h;cases rx;obtain⟨its,r,ht,hz⟩:=I.list hx;have hlen:=r.length;refine⟨"list",_,slot_list_getitem.lookup,ht.isList.typeIs,?_⟩;refine wpAny_getItem_list_slice ht.isList hs pl pu .none (by simp) ?_ (by rw[size_toArray]<;>omega);rw[zdt,<-hlen];refine⟨.ref s.heap.objs.size,_,I.laid (t':=s.toks) (fun b ob q=>Heap.get?_push_of_some _ q) (le_refl _) ?_,rfl,q _ (I.hok.fresh (le_refl _))⟩;exact⟨le_trans (zcX xs lo hi) hz,_,0,(r.drop (HT.sIx xs.length 0 lo)).take (HT.sIx xs.length xs.length hi - HT.sIx xs.length 0 lo),Heap.get?_push_size _ rfl⟩
theorem zbE:zbt X (.builtin "len") (fun xs H Q=>∃p ys,xs=[.ref p]/\(SqL X.K H p ys\/SqT X.K H p ys)/\Q (.int ys.length) H):=by
 intro pins s σ H xs us Q I r h;obtain⟨p,ys,rfl,hq,q⟩:=h;obtain⟨u,rfl,rx⟩:=ziU r;cases rx;have hn:=zen;rcases hq with hq|hq
 . obtain⟨its,r',pl,hz⟩:=I.list hq;have hlen:=r'.length;exact Calls.call_len_list pl.isList (by simp<;>omega) ⟨.int ys.length,H,I.tok _,⟨s.toks+1,by rw[size_toArray,hlen]⟩,q⟩
 . obtain⟨its,r',pl,hz⟩:=I.tuple hq;have hlen:=r'.length;exact len_tuple pl (by simp<;>omega) ⟨.int ys.length,H,I.tok _,⟨s.toks+1,by rw[size_toArray,hlen]⟩,q⟩
theorem zeA:zbt X (.type "list") (fun xs H Q=>∃p ys,xs=[.ref p]/\(SqL X.K H p ys\/SqT X.K H p ys)/\∀l,H l=none->Q (.ref l) (upd H l (.lst ys))):=by
 intro pins s σ H xs us Q I r h;obtain⟨p,ys,rfl,hq,q⟩:=h;obtain⟨u,rfl,rx⟩:=ziU r;cases rx;have fin:∀(its:List Value),Vals ys its->ys.length<=sizeLine->∀(h':Heap) (c':Nat),(∀b o',s.heap.get? b=some o'->h'.get? b=some o')->
   h'.get? s.heap.objs.size=some {cls:=.type "list",dict:=none,data:=.seq its.toArray c',slots:=#[]}->EP X pins σ Q (.ref s.heap.objs.size) {s with heap:=h'}:=fun its r' hz h' c' kp e=>
  ⟨.ref s.heap.objs.size,_,I.laid (t':=s.toks) kp (le_refl _) (show ObjOk X.prog X.w _ h' _ (.lst ys) from⟨hz,its,c',r',e⟩),rfl,q _ (I.hok.fresh (le_refl _))⟩
 rcases hq with hq|hq
 . obtain⟨its,r',pl,hz⟩:=I.list hq;have hlen:=r'.length;obtain⟨o,ho,hc,n,hd⟩:=pl.isList;exact call_list_seq p (.inl rfl) ho hc hd (fun h' c' kp e=>fin its r' hz h' c' kp e) (by simp<;>omega)
 . obtain⟨its,r',pl,hz⟩:=I.tuple hq;have hlen:=r'.length;obtain⟨o,ho,hc,n,hd⟩:=pl;exact call_list_seq p (.inr rfl) ho hc hd (fun h' c' kp e=>fin its r' hz h' c' kp e) (by simp<;>omega)
theorem zdX:zbt X (.type "tuple") (fun xs H Q=>∃p ys,xs=[.ref p]/\((SqL X.K H p ys/\∀l,H l=none->Q (.ref l) (upd H l (.tup ys)))\/(SqT X.K H p ys/\Q (.ref p) H))):=by
 intro pins s σ H xs us Q I r h;obtain⟨p,ys,rfl,h⟩:=h;obtain⟨u,rfl,rx⟩:=ziU r;cases rx;rcases h with ⟨hq,q⟩|⟨hq,q⟩
 . obtain⟨its,r',pl,hz⟩:=I.list hq;have hlen:=r'.length;refine call_tuple_list pl.isList (fun h' kp=>?_) (by simp<;>omega);have I1:Inv X pins σ H {s with heap:=h'}:=I.kept (t':=s.toks) kp;have I2:Inv X pins σ (upd H h'.objs.size (.tup ys)) {s with heap:=h'.push {cls:=.type "tuple",data:=.seq its.toArray}}:=
    I1.laid (t':=s.toks) (fun b o e=>Heap.get?_push_of_some _ e) (le_refl _) (⟨hz,its,r',IsTup.new _ _⟩)
   exact⟨.ref h'.objs.size,_,I2,rfl,q _ (I1.hok.fresh (le_refl _))⟩
 . obtain⟨its,r',pl,hz⟩:=I.tuple hq;exact call_tuple_same pl ⟨.ref p,H,I,rfl,q⟩
def tyV (K:PySem.W.Frag)(T:String)(x:V)(H:Hp):Prop:=match x with
 |.str _=>T="str"
 |.int _=>T="int"
 |.ref p=>(T="list"/\∃xs,SqL K H p xs)\/(T="tuple"/\∃o,K.lookup p=some o/\o.cls=.type "tuple"/\o.dict=none)\/
  (T="dict"/\((∃kvs,H p=some (.dK kvs))\/∃kvs,H p=some (.dT kvs)))\/(T="set"/\∃S n,H p=some (.set S n))
 |_=>False
theorem zmv {σ:St}(I:Inv X pins σ H s)(r:RelV x v)(ty:tyV X.K T x H) :
  s.TypeIs v T/\∀a,v=.ref a->∃ob,s.heap.get? a=some ob/\ob.dict=none:=by
 cases x with
 | str z=>
   obtain⟨t,rfl⟩:=r;cases ty;exact⟨typeIs_str s z t,fun _ e=>nomatch e⟩
 | int i=>
   obtain⟨t,rfl⟩:=r;cases ty;exact⟨typeIs_int s i t,fun _ e=>nomatch e⟩
 | ref p=>
   cases r;rcases ty with ⟨rfl,xs,hq⟩|⟨rfl,o,hk,hc,hd⟩|⟨rfl,hk⟩|⟨rfl,S,n,hk⟩
   . obtain⟨its,_,pl,_⟩:=I.list hq;refine⟨pl.isList.typeIs,fun a e=>?_⟩;cases e;obtain⟨o,n,e,c,hd,_⟩:=pl;exact⟨o,e,hd⟩
   . refine⟨⟨o,I.kIn p o hk,hc⟩,fun a e=>?_⟩;cases e;exact⟨o,I.kIn _ o hk,hd⟩
   . have z:∃o,s.heap.get? p=some o/\o.ExactDict:=by
      rcases hk with ⟨kvs,hk⟩|⟨kvs,hk⟩
      . obtain⟨_,_,_,_,o,_,_,e,ex,_⟩:=I.hok p _ hk;exact⟨o,e,ex⟩
      . obtain⟨_,_,_,_,o,_,_,e,ex,_⟩:=I.hok p _ hk;exact⟨o,e,ex⟩
     obtain⟨o,e,ex⟩:=z;refine⟨⟨o,e,ex.1⟩,fun a e2=>?_⟩;cases e2;exact⟨o,e,ex.2.1⟩
   . obtain⟨o,_,_,_,e,ex,_⟩:=I.hok p _ hk;refine⟨⟨o,e,ex.1⟩,fun a e2=>?_⟩;cases e2;exact⟨o,e,ex.2.1⟩
 |_=>exact False.elim ty
def tBM (K:PySem.W.Frag)(T:String)(r:V->List V->Hp->VK->Prop)(to:TE)(t:TA):TE:=fun σ H Q=>to σ H fun x H1=>tyV K T x H1/\t σ H1 fun xs H2=>r x xs H2 Q
variable {o e:Expr} {es:List Expr} {to:TE} {t:TA} {name:Str} {apos cpos:Pos} {T id:String} {r:V->List V->Hp->VK->Prop}
theorem znw (pa:PlainAttrs T)(slot:Slot T name id)(hty:typeOf (.builtin id)=pure (.type "method_descriptor"))(hm:MtR X id r)(ho:PE X o to)(ha:PA X (e::es) t)
  (hbase:attributeBase o name X.env (eval o X.env)=eval o X.env:=by rfl)
  (hfew:((backTo cpos (starEach (e::es) X.env)).all (fun x=>!x.1)&&(backToKw cpos (keywordEach [] X.env)).all (fun x=>x.1.isSome)
   && decide ((e::es).length+([]:List Keyword).length+(if ([]:List Keyword).isEmpty then 0 else 1)<30))=true:=by rfl)
  (hline:(apos.endLine == cpos.line)=true:=by rfl) (hs:starEach (e::es) X.env=(false,eval e X.env)::starEach es X.env:=by rfl) (hplain:(backTo cpos (starEach es X.env)).any (·.1)=false:=by rfl) :
  PE X (.Call (.Attribute o name apos) (e::es) [] cpos) (tBM X.K T r to t):=by
 intro pins s σ H Q I h;refine wpAny_Call_method_late hbase hfew hline rfl (thn (ho pins s σ H _ I h) fun v s1 ⟨x,H1,I1,r1,ty,q1⟩=>?_);obtain⟨h1,h2⟩:=zmv I1 r1 ty;refine⟨T,id,pa,slot,hty,h1,h2,?_⟩;have hA:=ha cpos pins s1 σ H1 _ I1 q1;rw[hs] at hA⊢;refine Calls.callWith_builtin (by show (false || (backTo cpos (starEach es X.env)).any (·.1))=false;rw[hplain]<;>rfl) (Calls.evalArgs_plain ?_);exact thn hA fun us s2 ⟨vs,H2,I2,r2,q2⟩=>hm pins s2 σ H2 x vs v us Q I2 r1 r2 q2
/- xs.append(e),list.index on a module's tuple .. are MtR facts of 06m -/
end
end L2
namespace L2
open PySem PySem.Spec PyProof.Rows
def MtM (X:Cx)(id:String)(r:V->List V->Hp->VK->Prop):Prop:=
 ∀(pins:List (Addr × Obj)) (s:Shared) (σ:St) (H:Hp) (x:V) (xs:List V) (v:Value) (us:List Value) (Q:VK),Inv X pins σ H s->RelV x v->Vals xs us->r x xs H Q->
  wpAny (model X.prog X.w) X.A (call (.builtin id) (v::us)) (EP X pins σ Q) X.xe s
theorem Vals.one:∀{x:V} {us:List Value},Vals [x] us->∃u,us=[u]/\RelV x u
 |_,_,.cons r .nil=>⟨_,rfl,r⟩
section
variable {X:Cx} {pins:List (Addr × Obj)} {σ:St} {H:Hp} {s:Shared} {l b:Addr} {xs ys zs:List V}
theorem Inv.lset {its its':List Value}(I:Inv X pins σ H s)(hH:H l=some (.lst xs))
  (e:s.heap.get? l=some {cls:=.type "list",data:=.seq its.toArray n}) (hf:f its.toArray=its'.toArray) (hv:Vals ys its') (hz:ys.length<=sizeLine) :
  Inv X pins σ (upd H l (.lst ys)) {s with heap:=s.heap.update l (Obj.mapSeq f),toks:=t'}:=by
 have q:=PySem.IsL.update e f;rw[hf] at q;refine I.write (by rw[hH];exact trivial) (.inl rfl) (fun b' u hb hu=>(Heap.get?_update_other s.heap (Obj.mapSeq f) (Ne.symm hb)).trans hu) ⟨_,q⟩ ?_;exact⟨hz,its',_,hv,q⟩
theorem Inv.lnew (I:Inv X pins σ H s)(hv:Vals ys its)(hz:ys.length<=sizeLine) :
  Inv X pins σ (upd H s.heap.objs.size (.lst ys)) {s with heap:=s.heap.push {cls:=.type "list",data:=.seq its.toArray},toks:=t'}:=
 I.laid (fun _ _ q=>Heap.get?_push_of_some _ q) (le_refl _) ⟨hz,its,0,hv,Heap.get?_push_size _ rfl⟩
theorem Inv.fresh (I:Inv X pins σ H s):H s.heap.objs.size=none:=I.hok.fresh (le_refl _)
theorem Inv.lstM (I:Inv X pins σ H s)(hH:H l=some (.lst xs)):xs.length<=sizeLine/\∃(its:List Value) (n:Nat),Vals xs its/\xs.length=its.length/\s.heap.get? l=some {cls:=.type "list",data:=.seq its.toArray n}:=by
 obtain⟨z,its,n,r,e⟩:=I.hok l _ hH;exact⟨z,its,n,r,r.length,e⟩
end
section
variable {X:Cx}
def zll:V->List V->Hp->VK->Prop:=fun x vs H Q=>∃l xs y,x=.ref l/\vs=[y]/\H l=some (.lst xs)/\xs.length<sizeLine/\Q .non (upd H l (.lst (xs++[y])))
theorem zel:MtM X "list.append" zll:=by
 intro pins s σ H x vs v us Q I rx rv h;obtain⟨l,xs,y,rfl,rfl,hH,hz,q⟩:=h;cases rx;obtain⟨u,rfl,ru⟩:=rv.one;obtain⟨z,its,n,r,hl,e⟩:=I.lstM hH;refine call_meets F.slot_list_append ⟨_,e,rfl⟩ F.entry_list_append (F.args_list_append_2 _ _) (PySem.list_append l its.toArray n u (by rw[size_toArray];omega)) ⟨e,?_⟩;refine⟨.non,_,I.lset (its':=its++[u]) hH e (by simp) (r.append (.cons ru .nil)) ?_,rfl,q⟩;rw[length_append,List.length_singleton];omega
def rCat:R2:=fun x y H Q=>∃l b xs zs,x=.ref l/\y=.ref b/\H l=some (.lst xs)/\H b=some (.lst zs)/\xs.length+zs.length<=sizeLine/\∀p,H p=none->Q (.ref p) (upd H p (.lst (xs++zs)))
theorem znF:OpR X (binaryOp .Add) rCat:=by
 intro pins s σ H x y v u Q I rx ry h;obtain⟨l,b,xs,zs,rfl,rfl,hH,hB,hz,q⟩:=h;cases rx;cases ry;obtain⟨z,its,n,r,hl,e⟩:=I.lstM hH;obtain⟨z2,its2,n2,r2,hl2,e2⟩:=I.lstM hB;refine PySem.P.add_list e e2 ?_ (by rw[size_toArray,size_toArray];omega);have ea:its.toArray++its2.toArray=(its++its2).toArray:=by simp
 rw[ea];exact⟨.ref _,_,I.lnew (t':=s.toks) (r.append r2) (by rw[length_append];omega),rfl,q _ I.fresh⟩
end
section
variable {prog:Program} {w:World} {A:Around} {E:Value->Shared->Prop} {s:Shared}
end
section
variable {X:Cx}
end
end L2
namespace Att
open PySem PySem.W PySem.Calls PyProof.Rows
theorem zcQ:∀(ns:List Int) (vs:List Value),WellAll P h vs (ns.map WData.int)->IntsAre vs ns:=by
 intro ns;induction ns with
 | nil=>
   intro vs w;cases w;exact .nil
 | cons n ns ih=>
   intro vs w;cases w with
   | cons a b=>
     cases a;exact .cons _ _ (ih _ b)
theorem zhj {l:OpenLaw}(hn:l.most=some n)
  (hpre:l.row.toRowW.claim.pre args=true) (hwl:WellAll P h vals args) :
  ∃a vs ns,vals=[Value.ref a]/\args=[WData.list (ns.map WData.int)]/\h.get? a=some {cls:=.type "list",data:=.seq vs.toArray}/\IntsAre vs ns/\ns.length<=n:=by
 have hsh:WShape.hasAll [] args [.list .int]=true:=(pre_splitW hpre).1;have hc:l.pre.holds [] {args:=args}=true:=(pre_splitW hpre).2;obtain⟨d,r,rfl,h1,h2⟩:=hasAllW_cons hsh;obtain rfl:=hasAllW_nil h2;obtain⟨xs,rfl,h3⟩:=hasW_list h1;obtain⟨ns,rfl⟩:=items_int h3;have hlen:ns.length<=n:=by
  have h4:(WTm.not (.lt (.lit (.int (n:Int))) (.len (.arg 0)))).holds [] {args:=[.list (ns.map .int)]}=true:=by
   have h4:=(holds_andW hc).1;rw[hn] at h4;exact h4
  have h5:=condW_of h4 (w_not (w_lt w_lit (w_len_list (w_arg rfl))))
  first
   |(rw[decide_eq_true q'] at h5;exact absurd h5 (by decide))
   |(simp at h5;omega)
 cases hwl with
 | cons w1 w2=>
   cases w2;cases w1 with
   |list ho hall=>exact⟨_,_,ns,rfl,rfl,ho,zcQ ns _ hall,hlen⟩
theorem zhB (l:OpenLaw)(args:List WData):l.row.toRowW.claim.post args (.bool true) args=true:=
 postW_of
  (by first|rfl|decide|simp)
  (w_eq_bool (w_res rfl) w_lit) rfl
theorem attach_call {l:OpenLaw}
  (hn:l.most=some n) (hdf:d.params.defaults=[])
  (call:∀(w:World) (s₀ s₁:Shared) (mg mb:Str->Option Value) (fa:Addr) (o:Obj) (pm cd doc:Value) (a:Addr) (vs:List Value) (ns:List Int),
   Ground q loose [] XP w s₀ mg mb s₁.heap->YP w s₁.heap->
   s₁.heap.get? fa=some o->o.data=.func (docDef d.name d.params d.body d.scope pm cd doc)->s₁.heap.CodeRec cd d.name->mg d.name=some (.ref fa)->
   s₁.heap.get? a=some {cls:=.type "list",data:=.seq vs.toArray}->IntsAre vs ns->ns.length<=n->s₁.gens = #[]->
   codeAny (model l.prog w) callerA (.call (.ref fa) ⟨[.ref a],[]⟩) (fun r s'=>r=.ok (.ret (.bool true))/\OldK s₁.heap s'.heap/\s'.os=s₁.os/\AllBare s'.gens) s₁) :
  WalkO q loose XP YP l.row.toRowW d [] (fun f vs=>PySem.call f vs):=by
 intro w s₀ s₁ mg mb G Y fa o pm cd doc dV kV ho hd hcd hD hmg hg args vals as hpre hlay hrd hwl hlo;obtain rfl:dV=.none:=Dflts.none hD hdf;obtain rfl:kV=.none:=Dflts.noKw hD;obtain⟨a,vs,ns,rfl,rfl,hobj,hints,hlen⟩:=zhj hn hpre hwl;refine enter_call (codeAny_mono (call w s₀ s₁ mg mb fa o pm cd doc a vs ns G Y ho (fd_plain hd) hcd hmg hobj hints hlen hg) fun r s' hq=>?_);obtain⟨rfl,h2,h3,h4⟩:=hq;exact⟨.inl ⟨.bool true,.bool true,[],rfl,fun _=>rfl,.bool true,zhB l _,fun _=>⟨Pairwise.nil,fun _ hm=>(nomatch hm)⟩⟩,h2,h3,h4⟩
section
variable {prog:Program} {w:World} {A:Around} {E:Value->Shared->Prop} {s:Shared} {K:Frag}
end
end Att
namespace L2
open PySem PySem.Spec PyProof.Rows
theorem zcA:∀{vs:List Value} {ns:List Int},IntsAre vs ns->Vals (ns.map V.int) vs
 |_,_,.nil=>.nil
 |_,_,.cons n t h=>.cons ⟨t,rfl⟩ (zcA h)
def Only (H:Hp):Prop:=∀b,H b=none\/∃o xs,H b=some (.frz o (.lst xs))
theorem zjJ {K:PySem.W.Frag}
  (KX:K.In s₁.heap) (hns:s₁.heap.Ns mainGlobals mg) (hb:s₁.heap.Ns builtinsNs mb) (hbb:∀x:Str,x≠"__name__"->mb x=bootBuiltins x) (hlim:s₁.heap.NoLimit) (hg:s₁.gens = #[])
  (ha:s₁.heap.get? a=some {cls:=.type "list",data:=.seq vs.toArray}) (hi:IntsAre vs ns) (hl:ns.length<=sizeLine) (hr:Room k callerA)
  (F:∀base:Heap,K.In base->base.Ns mainGlobals mg->FnOk P w K mg base CX k fa fd [x] sp) (hbind:∀(s:Shared) (u:Value),BindsTo s fd ⟨[u],[]⟩ [(x,u)])
  (hsp:∀H:Hp,Only H->SqL K H a (ns.map V.int)->sp [.ref a] H (fun v _=>v=.bl true) fun _ _ _=>False)
  (hCX:∀H e s',CX [] H s₁ (fun _ _ _=>False) e s'->False) :
  codeAny (model P w) callerA (.call (.ref fa) ⟨[.ref a],[]⟩) (fun r s'=>r=.ok (.ret (.bool true))/\OldK s₁.heap s'.heap/\s'.os=s₁.os/\AllBare s'.gens) s₁:=by
 have rv:=zcA hi;have lenV:=hi.length;have core:∀H:Hp,Only H->SqL K H a (ns.map V.int)->HOk P w H s₁.heap->(∀b,H b≠none->b=a)->(H a≠none->K.lookup a=none)->
   codeAny (model P w) callerA (.call (.ref fa) ⟨[.ref a],[]⟩) (fun r s'=>r=.ok (.ret (.bool true))/\OldK s₁.heap s'.heap/\s'.os=s₁.os/\AllBare s'.gens) s₁:=by
  intro H hO hS hok hA hK;have base_of:∀{b:Addr} {o:Obj},s₁.heap.get? b=some o->H b=none->(hidT s₁.heap H).get? b=some o:=fun e n=>zjO e n;have noA:∀{b:Addr} {o:Obj} {es:Array DictEntry} {ep:Nat},s₁.heap.get? b=some o->o.data=.dict es ep->H b=none:=fun {b o es ep} e d=>by
   cases q:H b with
   |none=>rfl
   | some u=>
     have e':b=a:=hA b (by rw[q];simp);subst e';rw[ha] at e;cases e;have d':Data.seq vs.toArray _=Data.dict es ep:=d;cases d'
  have nsK:∀{b:Addr} {m:Str->Option Value},s₁.heap.Ns b m->(hidT s₁.heap H).Ns b m:=fun {b m} ⟨o,es,ep,e,d,r⟩=>⟨o,es,ep,base_of e (noA e d),d,r⟩;have hKb:K.In (hidT s₁.heap H):=fun b o e=>base_of (KX b o e) (by
   cases q:H b with
   |none=>rfl
   | some u=>
     have e':b=a:=hA b (by rw[q];simp);subst e';rw[hK (by rw[q];simp)] at e;cases e)
  have hM:Mod K mg (hidT s₁.heap H):=⟨hKb,nsK hns,⟨mb,nsK hb,hbb⟩,let ⟨mc,h1,h2⟩:=hlim;⟨mc,nsK h1,h2⟩⟩;have e0:Env0 P w K mg (hidT s₁.heap H) callerA [] s₁ H:=⟨rfl,hM,fun b o e=>zlE e,le_of_eq (zif _ _),trivial,fun b hb=>absurd (show b∈([]:List Addr) from hb) (by simp),hok,.of_eq hg⟩;refine codeAny_mono ((F _ hKb (nsK hns)).run callerA [] s₁ H ⟨[.ref a],[]⟩ [.ref a] [.ref a] _ _ hr e0 (hbind s₁ (.ref a)) (.cons rfl .nil) (hsp H hO hS)) fun r s' h=>?_;cases r with
  |error e=>exact (hCX H e s' h).elim
  | ok fl=>
    cases fl with
    |next=>exact False.elim h
    |brk=>exact False.elim h
    |cont=>exact False.elim h
    | ret u=>
      obtain⟨v,H',os,bare,un,hok',r',q⟩:=h;have q':v=.bl true:=q;subst q';obtain rfl:u=Value.bool true:=r';refine⟨rfl,OldK.of_keep fun b o e=>?_,os,bare⟩;cases q:H b with
      |none=>exact un.keep b o e q (by intro z;exact absurd (show b∈([]:List Addr) from z) (by simp)) (by simp)
      | some u=>
        rcases hO b with z|⟨ob,xs,z⟩
        . rw[q] at z;cases z
        . have z2:=un.frzs b ob _ z;obtain⟨e1,_⟩:=hok b _ z;obtain⟨e2,_⟩:=hok' b _ z2;rw[e] at e1;cases e1;exact e2
 cases hk:K.lookup a with
 | some o=>
   have e:=KX a o hk;rw[ha] at e;cases e;refine core (fun _=>none) (fun _=>.inl rfl) (.inr ⟨_,vs.toArray,_,hk,rfl,rfl,rfl,by rw[size_toArray,lenV];exact hl,by simpa using rv⟩) (fun b u z=>by have z':(none:Option HO)=some u:=z;cases z') (fun b z=>absurd rfl z) fun z=>absurd rfl z
 | none=>
   refine core (fun b=>if b=a then some (.frz {cls:=.type "list",data:=.seq vs.toArray} (.lst (ns.map V.int))) else none) (fun b=>?_) (.inl (.inr ⟨{cls:=.type "list",data:=.seq vs.toArray},if_pos rfl⟩)) (fun b u z=>?_) (fun b z=>?_) fun _=>hk
   . by_cases hb:b=a
     . exact .inr ⟨_,_,if_pos hb⟩
     . exact .inl (if_neg hb)
   . by_cases hb:b=a
     . have z':=(if_pos hb).symm.trans z;cases z';subst hb;exact⟨ha,by rw[length_map];exact hl,vs,_,rv,ha⟩
     . have z':=(if_neg hb).symm.trans z;cases z'
   . by_cases hb:b=a
     . exact hb
     . exact absurd (if_neg hb) z
end L2
namespace L2
open PySem PySem.Spec PyProof.Rows
theorem walk_of {l:PySem.W.OpenLaw}{K:Params->PySem.W.Frag}{CX:World->CXT}{sp:World->Sp}
  (hn:l.most=some n) (hn2:n<=sizeLine) (hdf:d.params.defaults=[]) (hr:Room k callerA)
  (hY:∀(w:World) (h:Heap),YP w h->(K w.params).In h)
  (F:∀(w:World) (mg:Str->Option Value) (fa:Addr) (h:Heap),(K w.params).In h->h.Ns mainGlobals mg->mg d.name=some (.ref fa)->
   ∃fd:FuncData,(∀(s:Shared) (u:Value),BindsTo s fd ⟨[u],[]⟩ [(x,u)])/\
    ∀base:Heap,(K w.params).In base->base.Ns mainGlobals mg->FnOk l.prog w (K w.params) mg base (CX w) k fa fd [x] (sp w))
  (hsp:∀(w:World) (H:Hp) (a:Addr) (ns:List Int),ns.length<=n->Only H->SqL (K w.params) H a (ns.map V.int)->sp w [.ref a] H (fun v _=>v=.bl true) fun _ _ _=>False)
  (hCX:∀(w:World) (H:Hp) (s:Shared) (e:Value) (s':Shared),CX w [] H s (fun _ _ _=>False) e s'->False) :
  PySem.W.WalkO q loose XP YP l.row.toRowW d [] (fun f vs=>PySem.call f vs):=by
 refine Att.attach_call hn hdf fun w s₀ s₁ mg mb fa o pm cd doc a vs ns G Y ho hd hcd hmg hobj hints hlen hg=>?_;have KX:=hY w _ Y;obtain⟨fd,hb,hF⟩:=F w mg fa _ KX G.T.g hmg;exact zjJ KX G.T.g G.T.b G.T.builtins G.T.nolimit hg hobj hints (le_trans hlen hn2) hr hF hb (fun H hO hS=>hsp w H a ns hlen hO hS) fun H e s'=>hCX w H s₁ e s'
end L2
/- THE LAST THEOREM (shape;LID,My.* are yours):
 My.Adr: a structure of the addresses that your layer names (classes,functions);My.Txt K t: a structure (Prop) of the equations over K;
 My.txt_mk:{K} {implicit addresses ..} (e1:nsIn K mainGlobals "law"=some (some (.ref f))) (e2:K.lookup f=some ⟨oc,od,.func (fnOf "law" "law" params body scope dV kV doc pm an cdv ct),sl⟩) (e3:codeIn K cdv "law"=true) ..:∃t,My.Txt K t
set_option maxRecDepth 100000 in
set_option maxHeartbeats 0 in
theorem PySem.Challenge.cw_LID_holds : PySem.Challenge.rw_LID.Holds := by
 w_on;o_law;k_head;(case hw=>w_witness2)
 k_fill
 refine L2.walk_of (l:=PySem.Challenge.rw_LID) (n:=63) (k:=40) (x:="script") (CX:=fun w=>..) (sp:=fun _=>My.sp_law) rfl (by decide) rfl ⟨rfl,by decide,by decide⟩ (fun w h Y=>PySem.W.kIn_of Y) ?F ?S ?C
 case F=>
  intro w mg fa h KX G hmg;have T:∃t,My.Txt (L2.KOf KX) t:=by
   dsimp only[L2.KOf] -- K must stand as «<heap const> w.params» for k_is
   refine' My.txt_mk ?e1 ?e2 ?e3 ..
   (case e1=>PySem.W.k_is) -- in the order: a name -> its address -> its object -> its parts
   (case e2=>PySem.W.k_is)
   ..
  obtain⟨t,T⟩:=T;have e0:=hmg.symm.trans (mg_of KX G T.law);cases e0 -- fa is the law's own address;exact⟨_,fun s u=>.of_eq rfl,fun base kb nb=>My.law_fn T kb nb⟩ -- if «.of_eq rfl» comes too early: refine'⟨_,?b,fun base kb nb=>My.law_fn T kb nb⟩;exact fun s u=>.of_eq rfl
 case S=>exact fun w H a ns hl hO hS=>..
 case C=>exact ..
(the tactic k_is has no namespace: write k_is) -/
namespace L2
open PySem PySem.Spec PyProof.Rows
noncomputable def zaJ (s:Stmt):Arguments:=match s with
 |.FunctionDef _ a _ _ _ _ _ _ _ _=>a
 |_=>{posonlyargs:=[],args:=[],vararg:=none,kwonlyargs:=[],kw_defaults:=[],kwarg:=none,defaults:=[]}
noncomputable def zas (s:Stmt):List Stmt:=match s with
 |.FunctionDef _ _ b _ _ _ _ _ _ _=>b
 |_=>[]
noncomputable def zae (s:Stmt):Scope:=match s with
 |.FunctionDef _ _ _ _ _ _ sc _ _ _=>sc
 |_=>{kind:=.function,names:=[],isGenerator:=false,isCoroutine:=false}
abbrev CX0:CXT:=fun _ _ _ _ _ _=>False
abbrev E0:XK:=fun _ _ _=>False
theorem zjz:zc2 CX0 X E0:=fun _ _ _ _ _ _ _ h=>h.elim
structure Fun (K:PySem.W.Frag) (x qual:Str) (st:Stmt) (f:Addr) (fd:FuncData):Prop where
 ex:∃(oc:Value) (od:Option Addr) (kV doc pm:Value) (an:Option Addr) (cdv ct:Value) (osl:Array (Option Value)),
  fd=fnOf x qual (zaJ st) (zas st) (zae st) .none kV doc pm an cdv ct/\K.lookup f=some ⟨oc,od,.func fd,osl⟩/\codeIn K cdv qual=true
 kp:keepIn K (.ref f)=true
section
variable {P:Program} {w:World} {K:PySem.W.Frag} {mg:Str->Option Value} {base:Heap}
end
section
variable {X:Cx}
end
def Same (H H':Hp):Prop:=∀b o,H b=some o->H' b=some o
end L2
namespace L2
open PySem PySem.Spec PyProof.Rows
section
variable {X:Cx}
end
section
variable {κ:Type} [DecidableEq κ]
end
end L2
end
section
namespace L2
open PySem PySem.Spec PyProof.Rows
noncomputable def za1 (cells:List (Str × Addr))(y:Str × NameKind)(acc:List (Str × Addr)):List (Str × Addr):=
 if (y.2 == NameKind.free)=true then (match cells.lookup y.1 with|some c=>(y.1,c)::acc|none=>acc) else acc
noncomputable def zez (cells:List (Str × Addr))(names:List (Str × NameKind))(acc:List (Str × Addr)):List (Str × Addr):=names.foldl (fun a y=>za1 cells y a) acc
theorem zcT {α β:Type}(f:α->β->Sem (ForInStep β))(g:α->β->β):∀(l:List α) (b:β),(∀x∈l,∀b,f x b=pure (.yield (g x b)))->forIn l b f=(pure (l.foldl (fun b x=>g x b) b):Sem β)
 | [],b,_=>rfl
 | x::l,b,h=>by
   rw[List.forIn_cons,h x mem_cons_self,pure_bind];exact zcT f g l _ fun y hy=>h y (mem_cons_of_mem _ hy)
theorem zaK (h:∀y∈scope.names,y.2=.free->∃c,env.cells.lookup y.1=some c) :
  closureFor scope env=pure (zez env.cells scope.names []):=by
 unfold closureFor zez;dsimp only;rw[zcT _ (fun y a=>za1 env.cells y a)]
 . simp
 . intro y hy a;obtain⟨n,k⟩:=y;by_cases hk:k=.free
   . obtain⟨c,hc⟩:=h _ hy hk;subst hk;simp[cellOf,hc,za1]
   . have:(k == NameKind.free)=false:=by simpa using hk
     simp[this,za1]
theorem zey:∀(names:List (Str × NameKind)) (acc:List (Str × Addr)),(∀x c,acc.lookup x=some c->cells.lookup x=some c)->
  ∀x c,(zez cells names acc).lookup x=some c->cells.lookup x=some c
 | [],acc,h=>h
 | y::r,acc,h=>by
   apply zey r (za1 cells y acc);intro x c e;unfold za1 at e;split at e
   . split at e
     . rename_i c' hc';rw[lookup_cons] at e;cases hx:x == y.1 with
       | true=>
         rw[hx] at e;have q:x=y.1:=beq_iff_eq.mp hx;have e':c'=c:=Option.some.inj e;rw[q,<-e'];exact hc'
       |false=>rw[hx] at e;exact h x c e
     . exact h x c e
   . exact h x c e
theorem zcY:∀(names:List (Str × NameKind)) (acc:List (Str × Addr)) (x:Str),(∀y∈names,y.2=.free->∃c,cells.lookup y.1=some c)->
  ((∃c,acc.lookup x=some c)\/(x,NameKind.free)∈names)->∃c,(zez cells names acc).lookup x=some c
 | [],acc,x,_,h=>by
   rcases h with h|h
   . exact h
   . cases h
 | y::r,acc,x,hf,h=>by
   apply zcY r (za1 cells y acc) x (fun z hz=>hf z (mem_cons_of_mem _ hz));rcases h with ⟨c,h⟩|h
   . left;unfold za1;split
     . split
       . rename_i c' hc';rw[lookup_cons];cases hx:x == y.1 with
         |true=>exact⟨c',rfl⟩
         |false=>exact⟨c,h⟩
       . exact⟨c,h⟩
     . exact⟨c,h⟩
   . rcases mem_cons.mp h with h|h
     . left;subst h;obtain⟨c,hc⟩:=hf _ mem_cons_self rfl;simp[za1,hc]
     . exact .inr h
noncomputable def zbL (env:Env)(y:Str × NameKind):Str × NameKind:=if (y.2 == .free&&env.scope.kind == .function&&env.kindOf y.1 == some .cell)=true then (y.1,.cell) else y
theorem zb2 (scope:Scope)(env:Env):(relabel scope env).names=scope.names.map (zbL env):=rfl
theorem zcE (env:Env)(y:Str × NameKind):(zbL env y).1=y.1:=by unfold zbL;split<;>rfl
theorem zcD (env:Env)(y:Str × NameKind):(zbL env y).2=y.2\/(y.2=.free/\(zbL env y).2=.cell):=by
 unfold zbL;split
 . rename_i h;simp at h;exact .inr ⟨h.1.1,rfl⟩
 . exact .inl rfl
theorem zbw (env:Env)(x:Str):∀names:List (Str × NameKind),∀k,(names.map (zbL env)).lookup x=some k->∃k0,(x,k0)∈names/\names.lookup x=some k0/\(k=k0\/(k0=.free/\k=.cell))
 | [],k,h=>by simp at h
 | y::r,k,h=>by
   rw[map_cons] at h;have f1:=zcE env y;have f2:=zcD env y;obtain⟨n,k1⟩:=y;generalize hz:zbL env (n,k1)=z at *;obtain⟨zn,zk⟩:=z;subst f1;rw[lookup_cons] at h;rw[lookup_cons];cases hx:x == zn with
   | true=>
     rw[hx] at h;have q:x=zn:=beq_iff_eq.mp hx;subst q;have e:zk=k:=Option.some.inj h;subst e;exact⟨k1,mem_cons_self,rfl,f2⟩
   | false=>
     rw[hx] at h;obtain⟨k0,m,l,q⟩:=zbw env x r k h;exact⟨k0,mem_cons_of_mem _ m,l,q⟩
theorem zbn (env:Env)(x:Str):∀names:List (Str × NameKind),names.lookup x=some .free->(names.map (zbL env)).lookup x=some .free\/(names.map (zbL env)).lookup x=some .cell
 | [],h=>by simp at h
 | y::r,h=>by
   rw[map_cons];have f1:=zcE env y;have f2:=zcD env y;obtain⟨n,k1⟩:=y;generalize hz:zbL env (n,k1)=z at *;obtain⟨zn,zk⟩:=z;simp only at f1 f2;subst f1;rw[lookup_cons] at h;rw[lookup_cons];cases hx:x == zn with
   | true=>
     rw[hx] at h;have e:k1=.free:=Option.some.inj h;subst e;rcases f2 with f2|⟨_,f2⟩
     . left;show some zk=_;rw[f2]
     . right;show some zk=_;rw[f2]
   | false=>
     rw[hx] at h;exact zbn env x r h
structure CompOk (sc scope:Scope) (N0:List Str) (js:List Nat):Prop where
 kind:scope.kind=.function
 nocell:∀y∈scope.names,y.2≠.cell
 locs:∀y∈scope.names,y.2=.local->scope.names.lookup y.1=some .local
 frees:∀y∈scope.names,y.2=.free->sc.names.lookup y.1=some .cell\/sc.names.lookup y.1=some .free
 caps:∀j∈js,scope.names.lookup (N0.getD j "")=some .free/\j<N0.length
noncomputable abbrev zax (X:Cx)(N':List Str)(scope:Scope)(cl:List (Str × Addr))(C:Addr)(fp:List Addr)(s:Shared)(H:Hp)(pn:List (Addr × Obj)):Cx:=
 {X with N:=N',s₀:=s,H₀:=H,env:=compEnvC scope cl C X.env,outer:=X.stack,stack:=X.stack,ex:=fp,fn:=fun _=>false,pn:=pn,xe:=fun _ _=>False}
noncomputable abbrev cxX (XE:Cx->Value->Shared->Prop)(X:Cx)(N':List Str)(scope:Scope)(cl:List (Str × Addr))(C:Addr)(fp:List Addr)(s:Shared)(H:Hp)(pn:List (Addr × Obj)):Cx:=
 {zax X N' scope cl C fp s H pn with xe:=XE (zax X N' scope cl C fp s H pn)}
noncomputable def csl (nt:Nat)(js:List Nat)(σ:St):St:=List.replicate nt none++js.map fun j=>(σ[j]?).join
noncomputable abbrev capN (N0:List Str)(tgs:List Str)(js:List Nat):List Str:=tgs++js.map fun j=>N0.getD j ""
def PTs (X:Cx)(ifs:List Expr)(t:TT):Prop:=
 ∀(pins:List (Addr × Obj)) (s:Shared) (σ:St) (H:Hp) (Q:Bool->Hp->Prop),Inv X pins σ H s->t σ H Q->
  wpAny (model X.prog X.w) X.A (forIn ifs true fun c r=>if r=true then do let ok <-isTrue c X.env (eval c X.env);pure (ForInStep.yield ok) else pure (ForInStep.yield r)) (TP X pins σ Q) X.xe s
def tYes:TT:=fun _ H Q=>Q true H
theorem ze3:PTs X [] tYes:=fun pins s σ H Q I h=>wpAny_tests_nil ⟨H,I,h⟩
theorem zhz (h:PT X c t):PTs X [c] t:=fun pins s σ H Q I q=>wpAny_tests_one (h pins s σ H Q I q)
def zeN (nt:Nat)(js:List Nat)(wi:TI)(g:TG)(tt:TT)(te:TE):TE:=fun σ H Q=>wi σ H fun J H1=>∀p,H1 p=none->
 ∃W:Nat->Nat->St->Hp->Prop,(∃m,W 0 m (csl nt js σ) (upd H1 p (.lst [])))/\∀i m σ' H',W i m σ' H'->
  (J.stop i H'/\Q (.ref p) H')\/(J.go i H'/\∃N:St->Hp->Prop,(∀σ2 H2,N σ2 H2->∃m',m'<m/\W (i+1) m' σ2 H2)/\
   ∀x H2,J.yld i H' x H2->g x σ' H2 fun σ2 H3=>tt σ2 H3 fun b H4=>if b=true then te σ2 H4 fun v H5=>∃acc,H5 p=some (.lst acc)/\acc.length<sizeLine/\N σ2 (upd H5 p (.lst (acc++[v]))) else N σ2 H4)
section
variable {prog:Program} {w:World} {A:Around} {R:Result->Shared->Prop} {s:Shared}
theorem zgP (J:Nat->Shared->Prop)(hE:∀e s',E e s'->notedBy (model prog w) A env (fun x s''=>R (.error x) s'') e s')
  (turn:∀n s,J n s->wpAny (model prog w) A (pyNext it) (fun r s₁=>(r=none/\R (.ok .next) s₁)\/∃v,r=some v/\
   wpAny (model prog w) A (letOwnedTupleGo tg it v) (fun _ s₀=>wpAny (model prog w) A (assign tg env v) (fun _ s₂=>
    wpAny (model prog w) A (forIn ifs true fun c r=>if r=true then do let ok <-isTrue c env (eval c env);pure (ForInStep.yield ok) else pure (ForInStep.yield r)) (fun ok s₃=>
     if ok=true then wpAny (model prog w) A (eval elt env) (fun x s₄=>wpAny (model prog w) A (call (.builtin "list.append") [acc,x]) (fun _ s₅=>∃m,m<n/\J m s₅) E s₄) E s₃
     else ∃m,m<n/\J m s₃) E s₂) E s₀) E s₁) E s)
  (n:Nat) (h:J n s):codeAny (model prog w) A (.compLoop (.ListComp elt [⟨tg,iter,ifs,0⟩] scope pos) 0 it acc env) R s:=by
 refine codeAny_loop rfl J (fun n s hI=>?_) n h;apply wpAny_noted;refine wpAny_bind (wpAny_standAt (wpAny_bind (wpAny_mono (turn n s hI) (fun r s₁ h₁=>?_) hE)));rcases h₁ with ⟨rfl,h₁⟩|⟨v,rfl,h₁⟩
 . exact wpAny_pure h₁
 . refine wpAny_bind (wpAny_mono h₁ (fun _ s₀ h₀=>?_) hE);refine wpAny_bind (wpAny_mono h₀ (fun _ s₂ h₂=>?_) hE);refine wpAny_bind (wpAny_mono h₂ (fun ok s₃ h₃=>?_) hE);cases ok with
   |false=>exact wpAny_pure ⟨rfl,h₃⟩
   | true=>
     refine wpAny_bind (wpAny_bind (wpAny_mono h₃ (fun x s₄ h₄=>?_) hE));exact wpAny_bind (wpAny_mono h₄ (fun _ s₅ h₅=>wpAny_pure (wpAny_pure ⟨rfl,h₅⟩)) hE)
end
section
variable {X:Cx} {sc scope:Scope} {tgs:List Str} {js:List Nat} {elt tg iter:Expr} {ifs:List Expr} {pos:Pos} {wi:TI} {g:TG} {tt:TT} {te:TE}
theorem zbW (XE:Cx->Value->Shared->Prop)(hc:X.calm=true)(hsc:X.env.scope=sc)(ok:CompOk sc scope X.N js)
  (hg:∀cl C fp s H pn,PG (cxX XE X (capN X.N tgs js) scope cl C fp s H pn) tg g)
  (ht:∀cl C fp s H pn,PTs (cxX XE X (capN X.N tgs js) scope cl C fp s H pn) ifs tt)
  (he:∀cl C fp s H pn,PE (cxX XE X (capN X.N tgs js) scope cl C fp s H pn) elt te)
 {σ:St} {RR:Value->Addr->Result->Shared->Prop} {Q:VK}
   (I2:Inv X pins σ H2 s2) (T:Turn X.prog X.w X.K tg J fp it tn) (st2:tn 0 s2.heap) (f2:∀b∈fp,FpOk X pins H2 b)
   (rd:∀p,H2 p=none->∃W:Nat->Nat->St->Hp->Prop,(∃m,W 0 m (csl tgs.length js σ) (upd H2 p (.lst [])))/\∀i m σ' H',W i m σ' H'->
    (J.stop i H'/\Q (.ref p) H')\/(J.go i H'/\∃N:St->Hp->Prop,(∀σ2 H2,N σ2 H2->∃m',m'<m/\W (i+1) m' σ2 H2)/\
     ∀x H2,J.yld i H' x H2->g x σ' H2 fun σ2 H3=>tt σ2 H3 fun b H4=>if b=true then te σ2 H4 fun v H5=>∃acc,H5 p=some (.lst acc)/\acc.length<sizeLine/\N σ2 (upd H5 p (.lst (acc++[v]))) else N σ2 H4))
   (fin:∀p C H' s',Inv X pins σ H' s'->(∃m,s'.heap.Ns C m)->s2.heap.objs.size<C->H' C=none->Q (.ref p) H'->RR (.ref p) C (.ok .next) s')
   (err:∀(Y:Cx) (p C:Addr),Y.env.frame=X.env.frame->X.s₀.heap.objs.size<=Y.s₀.heap.objs.size->(∀pins' σ' H' s',Inv Y pins' σ' H' s'->Inv X pins σ H' s'/\(∃m,s'.heap.Ns C m)/\H' C=none)->s2.heap.objs.size<C->(∀q∈X.pn++pins,q.1<Y.s₀.heap.objs.size)->∀e s',XE Y e s'->notedBy (model X.prog X.w) X.A Y.env (fun x s''=>RR (.ref p) C (.error x) s'') e s') :
   wpAny (model X.prog X.w) X.A (newList []) (fun acc s₃=>wpAny (model X.prog X.w) X.A (newFunctionEnv scope X.env.globals (zez X.env.cells scope.names []) [] X.env.qual none .none (some X.env)) (fun cenv s₄=>
    codeAny (model X.prog X.w) X.A (.compStart (.ListComp elt [⟨tg,iter,ifs,0⟩] scope pos) 0 (.ref it) acc {cenv with scope:=relabel scope X.env}) (RR acc cenv.locals) s₄) E s₃) E s2:=by
  subst hsc;refine wpAny_newObj_type (wpAny_newFunctionEnv ok.nocell (by intro y hy;simp at hy) (fun h₁ hns₁ hsb₁=>?_) ok.kind);have I3:Inv X pins σ (upd H2 s2.heap.objs.size (.lst [])) {s2 with heap:=s2.heap.push {cls:=.type "list",data:=.seq ([]:List Value).toArray}}:=
   I2.lnew (t':=s2.toks) .nil (zero_le _)
  obtain⟨W,⟨m0,w0⟩,turn⟩:=rd _ I2.fresh;generalize hp:s2.heap.objs.size=p at *;generalize hs3:({s2 with heap:=s2.heap.push {cls:=.type "list",data:=.seq ([]:List Value).toArray}}:Shared)=s3 at I3;have e3:s3.heap=s2.heap.push {cls:=.type "list",data:=.seq ([]:List Value).toArray}:=by rw[<-hs3]
  have sz3:s3.heap.objs.size=p+1:=by rw[e3,Heap.size_push,hp]
  generalize hH3:upd H2 p (.lst [])=H3 at *;have hns:h₁.Ns s3.heap.objs.size (fun x=>([]:List (Str × Value)).reverse.lookup x):=by rw[e3];exact hns₁
  have hsb:Heap.SameBut s3.heap.objs.size (s3.heap.push {cls:=.type "dict",data:=.dict #[]}) h₁:=by rw[e3];exact hsb₁
  have old:∀b o,s3.heap.get? b=some o->h₁.get? b=some o:=fun b o e=>
   (hsb.2 b (ne_of_lt (Heap.lt_size e))).trans (Heap.get?_push_of_some _ e)
  have frees:∀y∈scope.names,y.2=.free->∃c,X.env.cells.lookup y.1=some c:=fun y hy hk=>I2.ok.has y.1 (ok.frees y hy hk);have cellX:∀x c,(zez X.env.cells scope.names []).lookup x=some c->X.env.cells.lookup x=some c:=zey scope.names [] (fun x c e=>by simp at e);generalize hcl:zez X.env.cells scope.names []=cl at *;have okX:(cxX XE X (capN X.N tgs js) scope cl s3.heap.objs.size fp s3 H3 (X.pn++pins)).Ok:=
   { mod:=I3.ok.mod,kind:=ok.kind,glob:=I3.ok.glob,blt:=I3.ok.blt,above:=le_refl _,
     inj:=fun x y c e1 e2=>I3.ok.inj x y c (cellX x c e1) (cellX y c e2),
     has:=fun x hk=>by
      have hk':(scope.names.map (zbL X.env)).lookup x=some .cell\/(scope.names.map (zbL X.env)).lookup x=some .free:=by
       rw[<-zb2];exact hk
      rw[<-hcl];refine zcY scope.names [] x frees (.inr ?_);rcases hk' with q|q
      . obtain⟨k0,m,_,e⟩:=zbw X.env x _ _ q;rcases e with e|⟨e,_⟩
        . subst e;exact absurd rfl (ok.nocell _ m)
        . subst e;exact m
      . obtain⟨k0,m,_,e⟩:=zbw X.env x _ _ q;rcases e with e|⟨e,z⟩
        . subst e;exact m
        . exact absurd z (fun h=>(nomatch h)),
     cab:=fun x c e=>absurd e Bool.false_ne_true,hd:=I3.ok.hd,frames:=I3.ok.frames,stk:=.inl rfl,
     exf:=fun b hb=>⟨ne_of_lt (by
      obtain⟨o,ho,_⟩:=T.obj 0 _ st2 b hb;rw[sz3,<-hp];exact lt_succ_of_lt (Heap.lt_size ho)),fun x c e=>(f2 b hb).2.2.2.2.1 x c (cellX x c e)⟩,
     bs:=I3.bs,bsz:=le_trans I3.ok.bsz I3.sz,
     noex:=fun b o e hb=>by
      rcases (f2 b hb).2.2.2.1 with z|z
      . exact I3.ok.noex b o e z
      . exact absurd (lt_of_lt_of_le (Heap.lt_size e) (le_trans I3.ok.bsz z)) (lt_irrefl _),
     exfs:=fun b hb hx=>by
      rcases mem_cons.mp (I3.stkSub b hx) with z|z
      . exact (f2 b hb).2.1 z
      . exact (f2 b hb).2.2.1 z,
     funs:=I3.stack,frf:=I3.stkFree}
  have I4:Inv (cxX XE X (capN X.N tgs js) scope cl s3.heap.objs.size fp s3 H3 (X.pn++pins)) [] (csl tgs.length js σ) H3 {s3 with heap:=h₁}:=
   { ok:=okX,os:=rfl,bare:=I3.bare,base:=Un.kept old,
     loc:=⟨_,hns,fun i x v e1 e2 e3=>by
      have e2:(List.replicate tgs.length none++js.map fun j=>(σ[j]?).join)[i]?=some (some v):=e2;by_cases hi:i<tgs.length
      . rw[getElem?_append_left (by rw[length_replicate];exact hi),List.getElem?_replicate,if_pos hi] at e2;cases e2
      . rw[getElem?_append_right (by omega),getElem?_map] at e1;rw[getElem?_append_right (by rw[length_replicate];omega),length_replicate,getElem?_map] at e2;cases hj:js[i - tgs.length]? with
        |none=>rw[hj] at e1;cases e1
        | some j=>
          rw[hj] at e1 e2;have e1:X.N.getD j ""=x:=Option.some.inj e1;have e2:(σ[j]?).join=some v:=Option.some.inj e2;have hjm:j∈js:=mem_of_getElem? hj;obtain⟨hfr,hjl⟩:=ok.caps j hjm;rw[e1] at hfr;have hNj:X.N[j]?=some x:=by
           rw[List.getElem?_eq_getElem hjl];rw[List.getD_eq_getElem?_getD,List.getElem?_eq_getElem hjl] at e1;exact congrArg some e1
          have hσ:σ[j]?=some (some v):=by
           cases q:σ[j]? with
           |none=>rw[q] at e2;cases e2
           | some o=>
             rw[q] at e2;have e2:o=some v:=e2;rw[e2]
          have hmem:(x,NameKind.free)∈scope.names:=by
           obtain⟨l1,l2,h3,_⟩:=List.lookup_eq_some_iff.mp hfr;rw[h3];simp
          have hkX:=ok.frees _ hmem rfl;have hvis:Vis X.env.scope x:=hkX.elim (fun z=>.inr (.inl z)) fun z=>.inr (.inr z);obtain⟨m,hn,hl⟩:=I3.loc;obtain⟨u,r,lk⟩:=hl j x v hNj hσ hvis;refine⟨u,r,.inr ⟨?_,?_⟩⟩
          . have q:=zbn X.env x scope.names hfr;exact q.symm
          . rcases lk with ⟨k,_⟩|⟨_,c,ec,z⟩
            . exfalso;have k:X.env.scope.names.lookup x=some .local:=k;rcases hkX with q|q<;>(rw[k] at q;cases q)
            . obtain⟨c',hc'⟩:∃c',cl.lookup x=some c':=by
               rw[<-hcl];exact zcY scope.names [] x frees (.inr hmem)
              have q:=cellX x c' hc';rw[ec] at q;cases q;obtain⟨o,ho,hd⟩:=z;exact⟨c,hc',o,old _ _ ho,hd⟩⟩,
     cell:=fun x c e=>by
      obtain⟨v,o,ho,hd⟩:=I3.cell x c (cellX x c e);exact⟨v,o,old _ _ ho,hd⟩,
     free:=I3.fresh,
     freeC:=fun x c e=>I3.freeC x c (cellX x c e),
     pin:=fun q hq=>by
      have hq:q∈X.pn++pins:=by simpa using hq
      obtain⟨e,n,ne,nf,d⟩:=I3.pin q hq;refine⟨old _ _ e,n,ne_of_lt (Heap.lt_size e),fun z=>?_,d⟩;rcases mem_cons.mp (I3.stkSub _ z) with z|z
      . exact ne z
      . exact nf z,
     hok:=I3.hok.kept old,
     len:=by
      show (List.replicate tgs.length none++js.map fun j=>(σ[j]?).join).length=(tgs++js.map fun j=>X.N.getD j "").length;simp}
  have stat:∀{H':Hp},(∀b∈fp,H' b=none)->∀b∈fp,FpOk (cxX XE X (capN X.N tgs js) scope cl s3.heap.objs.size fp s3 H3 (X.pn++pins)) [] H' b:=fun hn b hb=>
   ⟨hn b hb,(okX.exf b hb).1,okX.exfs b hb,.inl hb,(okX.exf b hb).2,fun q hq=>by
    have hq:q∈X.pn++pins:=by simpa using hq
    exact (f2 b hb).2.2.2.2.2 q hq⟩
  have fr3:∀b∈fp,H3 b=none:=fun b hb=>by
   obtain⟨o,ho,_⟩:=T.obj 0 _ st2 b hb;rw[<-hH3,zah (ne_of_lt (hp▸Heap.lt_size ho))];exact (f2 b hb).1
  have st4:tn 0 h₁:=T.keep 0 _ _ st2 fun b hb o e=>old b o (by rw[e3];exact Heap.get?_push_of_some _ e);have loop:codeAny (model X.prog X.w) X.A (.compLoop (.ListComp elt [⟨tg,iter,ifs,0⟩] scope pos) 0 (.ref it) (.ref p) (compEnvC scope cl s3.heap.objs.size X.env)) (RR (.ref p) s3.heap.objs.size) {s3 with heap:=h₁}:=by
   refine zgP (hE:=fun e s' z=>err (zax X (capN X.N tgs js) scope cl s3.heap.objs.size fp s3 H3 (X.pn++pins)) p s3.heap.objs.size rfl I3.sz (fun pins' σ' H' s' J=>?_) (by rw[sz3];exact lt_succ_self _) (fun q hq=>Heap.lt_size (I3.pin q hq).1) e s' z) (fun n s'=>∃i σ' H',Inv (cxX XE X (capN X.N tgs js) scope cl s3.heap.objs.size fp s3 H3 (X.pn++pins)) [] σ' H' s'/\tn i s'.heap/\(∀b∈fp,H' b=none)/\W i n σ' H') ?_ m0 ⟨0,_,H3,I4,st4,fr3,w0⟩
   . have hX:Inv X pins σ H' s':=I3.call' J.os J.base J.hok J.bare fun b hb=>⟨(f2 b hb).2.2.2.1,(f2 b hb).2.1,(f2 b hb).2.2.2.2.1,(f2 b hb).2.2.2.2.2⟩;obtain⟨m,hm,_⟩:=J.loc;exact⟨hX,⟨m,hm⟩,J.free⟩
   rintro n s4 ⟨i,σ4,H4,J4,st4,fr4,w4⟩;rcases turn i n σ4 H4 w4 with ⟨stop,qn⟩|⟨go,N,hN,step⟩
   . refine thn (T.done (cxX XE X (capN X.N tgs js) scope cl s3.heap.objs.size fp s3 H3 (X.pn++pins)) rfl rfl rfl hc i [] s4 σ4 H4 _ J4 (stat fr4) st4 stop) fun r s5 ⟨hr,J5⟩=>.inl ⟨hr,?_⟩;have hX:Inv X pins σ H4 s5:=I3.call' J5.os J5.base J5.hok J5.bare fun b hb=>⟨(f2 b hb).2.2.2.1,(f2 b hb).2.1,(f2 b hb).2.2.2.2.1,(f2 b hb).2.2.2.2.2⟩;obtain⟨m,hm,_⟩:=J5.loc;exact fin p _ H4 s5 hX ⟨m,hm⟩ (by rw[sz3];exact lt_succ_self _) J5.free qn
   . refine thn (T.item (cxX XE X (capN X.N tgs js) scope cl s3.heap.objs.size fp s3 H3 (X.pn++pins)) rfl rfl rfl hc i [] s4 σ4 H4 _ J4 (stat fr4) st4 go) fun r s5 ⟨u,hr,h5⟩=>.inr ⟨u,hr,?_⟩;refine thn h5 fun _ s6 ⟨x,H6,J6,r6,y6,st6,fr6⟩=>?_;have J6':=J6.pinned (stat fr6) (T.obj _ _ st6);refine thn (hg _ _ _ _ _ _ _ s6 σ4 H6 x u _ J6' r6 (step x H6 y6)) fun _ s7 ⟨σ7,H7,J7,q7⟩=>?_;refine thn (ht _ _ _ _ _ _ _ s7 σ7 H7 _ J7 q7) fun ok8 s8 ⟨H8,J8,q8⟩=>?_;have again:∀{s9:Shared} {H9:Hp},Inv (cxX XE X (capN X.N tgs js) scope cl s3.heap.objs.size fp s3 H3 (X.pn++pins)) ([]++zei fp s6.heap) σ7 H9 s9->N σ7 H9->
       ∃m,m<n/\∃i σ' H',Inv (cxX XE X (capN X.N tgs js) scope cl s3.heap.objs.size fp s3 H3 (X.pn++pins)) [] σ' H' s9/\tn i s9.heap/\(∀b∈fp,H' b=none)/\W i m σ' H':=fun {s9 H9} J9 n9=>by
      obtain⟨m',hm,w9⟩:=hN σ7 H9 n9;refine⟨m',hm,i+1,σ7,H9,J9.unpinned,T.keep _ _ _ st6 fun b hb o e=>(J9.pin (b,o) (mem_append_right _ (mem_append_right _ (zbI hb e)))).1,fun b hb=>?_,w9⟩;obtain⟨o,e,d⟩:=T.obj _ _ st6 b hb;exact (J9.pin (b,o) (mem_append_right _ (mem_append_right _ (zbI hb e)))).2.1
     cases ok8 with
     |false=>exact again J8 q8
     | true=>
       refine thn (he _ _ _ _ _ _ _ s8 σ7 H8 _ J8 q8) fun y s9 ⟨v,H9,J9,r9,acc,ha,hl,q9⟩=>?_;refine thn (zel _ s9 σ7 H9 (.ref p) [v] (.ref p) [y] (fun _ H=>N σ7 H) J9 rfl (.cons r9 .nil) ⟨p,acc,v,rfl,rfl,ha,hl,q9⟩) fun _ s10 ⟨_,H10,J10,_,q10⟩=>?_;exact again J10 q10
  exact codeAny_compStart_list loop (T.self _ 0 _ _ _ st4 loop)
theorem zdj (hc:X.calm=true)(hsc:X.env.scope=sc)(ok:CompOk sc scope X.N js)
  (hg:∀cl C fp s H pn,PG (zax X (capN X.N tgs js) scope cl C fp s H pn) tg g)
  (ht:∀cl C fp s H pn,PTs (zax X (capN X.N tgs js) scope cl C fp s H pn) ifs tt)
  (he:∀cl C fp s H pn,PE (zax X (capN X.N tgs js) scope cl C fp s H pn) elt te)
 {σ:St} {RR:Value->Addr->Result->Shared->Prop} {Q:VK}
   (I2:Inv X pins σ H2 s2) (T:Turn X.prog X.w X.K tg J fp it tn) (st2:tn 0 s2.heap) (f2:∀b∈fp,FpOk X pins H2 b)
   (rd:∀p,H2 p=none->∃W:Nat->Nat->St->Hp->Prop,(∃m,W 0 m (csl tgs.length js σ) (upd H2 p (.lst [])))/\∀i m σ' H',W i m σ' H'->
    (J.stop i H'/\Q (.ref p) H')\/(J.go i H'/\∃N:St->Hp->Prop,(∀σ2 H2,N σ2 H2->∃m',m'<m/\W (i+1) m' σ2 H2)/\
     ∀x H2,J.yld i H' x H2->g x σ' H2 fun σ2 H3=>tt σ2 H3 fun b H4=>if b=true then te σ2 H4 fun v H5=>∃acc,H5 p=some (.lst acc)/\acc.length<sizeLine/\N σ2 (upd H5 p (.lst (acc++[v]))) else N σ2 H4))
   (fin:∀p C H' s',Inv X pins σ H' s'->(∃m,s'.heap.Ns C m)->s2.heap.objs.size<C->H' C=none->Q (.ref p) H'->RR (.ref p) C (.ok .next) s') :
   wpAny (model X.prog X.w) X.A (newList []) (fun acc s₃=>wpAny (model X.prog X.w) X.A (newFunctionEnv scope X.env.globals (zez X.env.cells scope.names []) [] X.env.qual none .none (some X.env)) (fun cenv s₄=>
    codeAny (model X.prog X.w) X.A (.compStart (.ListComp elt [⟨tg,iter,ifs,0⟩] scope pos) 0 (.ref it) acc {cenv with scope:=relabel scope X.env}) (RR acc cenv.locals) s₄) E s₃) E s2:=
  zbW (fun _ _ _=>False) hc hsc ok hg ht he I2 T st2 f2 rd fin fun _ _ _ _ _ _ _ _ _ _ z=>z.elim
theorem zju (sc:Scope)(tgs:List Str)(js:List Nat)(hc:X.calm=true)(hsc:X.env.scope=sc)(ok:CompOk sc scope X.N js)(hi:PI X tg iter wi)
  (hg:∀cl C fp s H pn,PG (zax X (capN X.N tgs js) scope cl C fp s H pn) tg g)
  (ht:∀cl C fp s H pn,PTs (zax X (capN X.N tgs js) scope cl C fp s H pn) ifs tt)
  (he:∀cl C fp s H pn,PE (zax X (capN X.N tgs js) scope cl C fp s H pn) elt te)
  (hs:∀x,foldedSetIterable iter X.env x=pure x:=by intro _;rfl) :
  PE X (.ListComp elt [⟨tg,iter,ifs,0⟩] scope pos) (zeN tgs.length js wi g tt te):=by
 intro pins s σ H Q I h;have frees:∀y∈scope.names,y.2=.free->∃c,X.env.cells.lookup y.1=some c:=fun y hy hk=>I.ok.has y.1 (by
  have q:=ok.frees y hy hk;rw[<-hsc] at q;exact q)
 refine wpAny_comprehension_free rfl hs (zaK frees) ok.kind ok.locs (thn (hi pins s σ H _ I h) fun v s1 h1=>thn h1 fun itv s2 h2=>?_);obtain⟨it,fp,tn,J,H2,e,I2,T,st2,f2,rd⟩:=h2;subst e;refine zdj hc hsc ok hg ht he I2 T st2 f2 rd fun p C H' s' I' hm hC hn q=>?_;obtain⟨m,hm⟩:=hm;refine⟨m,hm,fun h' hs'=>⟨.ref p,H',?_,rfl,q⟩⟩;exact I'.turned (t':=s'.toks) (fun b o hb e=>(hs'.2 b hb).trans e) hn (ne_of_gt (lt_trans I2.lt hC)) (.inr (le_trans I2.sz (le_of_lt hC))) (fun x c e=>by
  obtain⟨v,o,ho,_⟩:=I2.cell x c e;exact ne_of_lt (lt_trans (Heap.lt_size ho) hC)) fun q hq=>ne_of_lt (lt_trans (Heap.lt_size (I2.pin q hq).1) hC)
theorem zlq (sc:Scope)(tgs:List Str)(js:List Nat){py spos:Pos}(hN:X.N.Nodup)(hi':X.N[i]?=some y)(hy:Loc X.env.scope y)(hc:X.calm=true)(hsc:X.env.scope=sc)(ok:CompOk sc scope X.N js)(hi:PI X tg iter wi)
  (hg:∀cl C fp s H pn,PG (zax X (capN X.N tgs js) scope cl C fp s H pn) tg g)
  (ht:∀cl C fp s H pn,PTs (zax X (capN X.N tgs js) scope cl C fp s H pn) ifs tt)
  (he:∀cl C fp s H pn,PE (zax X (capN X.N tgs js) scope cl C fp s H pn) elt te)
  (hsw:swapsWith (.ListComp elt [⟨tg,iter,ifs,0⟩] scope pos) (some (.Name y py)) spos.line X.env=pure true:=by rfl)
  (hs:∀x,foldedSetIterable iter X.env x=pure x:=by intro _;rfl)
  (hf:X.fn y=true\/X.env.scope.names.lookup y=some .local:=by first|exact .inl rfl|exact .inr rfl|assumption) :
  PS X (.Assign [.Name y py] (.ListComp elt [⟨tg,iter,ifs,0⟩] scope pos) spos) (tAsg (zeN tgs.length js wi g tt te) (zeq i)):=by
 intro pins s σ H D I h;have frees:∀y∈scope.names,y.2=.free->∃c,X.env.cells.lookup y.1=some c:=fun y hy hk=>I.ok.has y.1 (by
  have q:=ok.frees y hy hk;rw[<-hsc] at q;exact q)
 rw[exec_Assign_Name_used _ _ _ _ hsw];refine wpAny_bind (wpAny_standAt (wpAny_bind ?_));refine wpAny_bind (wpAny_mono (wpAny_comprehension_free rfl hs (zaK frees) ok.kind ok.locs
  (thn (hi pins s σ H _ I h) fun v s1 h1=>thn h1 fun itv s2 h2=>?_)) (fun _ s' hq=>wpAny_pure (wpAny_pure hq)) fun _ _ e=>e)
 obtain⟨it,fp,tn,J,H2,e,I2,T,st2,f2,rd⟩:=h2;subst e;refine zdj hc hsc ok hg ht he I2 T st2 f2 rd (Q:=fun x H1=>zeq i x σ H1 D.nx) fun p C H' s' I' hm hC hn q=>?_;obtain⟨m,hm⟩:=hm;have hL:C≠X.env.locals:=ne_of_gt (lt_trans I2.lt hC);have hCc:∀x c,X.env.cells.lookup x=some c->c≠C:=fun x c e=>by
  obtain⟨v,o,ho,_⟩:=I2.cell x c e;exact ne_of_lt (lt_trans (Heap.lt_size ho) hC)
 refine wpAny_assign_Name (zcB I' hN hi' hy (v:=.ref p) rfl (fun s'' I'' hch=>?_) hf);obtain⟨a,hsb,ha⟩:=hch;have hCa:C≠a:=by
  rcases ha with z|z
  . rw[z];exact hL
  . exact fun e=>hCc y a z e.symm
 refine⟨m,hm.sameBut hsb hCa,fun h' hs'=>⟨σ.set i (some (.ref p)),H',?_,q⟩⟩;exact I''.turned (t':=s''.toks) (fun b o hb e=>(hs'.2 b hb).trans e) hn hL (.inr (le_trans I2.sz (le_of_lt hC))) hCc fun q hq=>ne_of_lt (lt_trans (Heap.lt_size (I2.pin q hq).1) hC)
end
end L2
end
section
namespace L2
open PySem PySem.Spec PyProof.Rows
structure FunV (K:PySem.W.Frag) (x qual:Str) (st:Stmt) (dV:Value) (f:Addr) (fd:FuncData):Prop where
 ex:∃(oc:Value) (od:Option Addr) (kV doc pm:Value) (an:Option Addr) (cdv ct:Value) (osl:Array (Option Value)),
  fd=fnOf x qual (zaJ st) (zas st) (zae st) dV kV doc pm an cdv ct/\K.lookup f=some ⟨oc,od,.func fd,osl⟩/\codeIn K cdv qual=true
 kp:keepIn K (.ref f)=true
theorem zdT {K:PySem.W.Frag}{st:Stmt}{dV kV doc pm cdv ct:Value}(l:K.lookup f=some ⟨oc,od,.func (fnOf x qual (zaJ st) (zas st) (zae st) dV kV doc pm an cdv ct),osl⟩)
 (c:codeIn K cdv qual=true) (k:keepIn K (.ref f)=true):FunV K x qual st dV f (fnOf x qual (zaJ st) (zas st) (zae st) dV kV doc pm an cdv ct):=⟨⟨oc,od,kV,doc,pm,an,cdv,ct,osl,rfl,l,c⟩,k⟩
section
variable {P:Program} {w:World} {K:PySem.W.Frag} {mg:Str->Option Value} {base:Heap}
theorem FunV.ok {st:Stmt}(F:FunV K x qual st dV f fd)(S:FnScope N ps (zae st))(len:∀vs H Q E,sp vs H Q E->vs.length=ps.length)
  (hbody:∀(cdv:Value) (A:Around) (outer:List Env) (s:Shared) (H:Hp) (vs:List V) (Q:VK) (E:XK),Room k (A.deeper (envOfC qual (zae st) s.heap.objs.size f cdv))->sp vs H Q E->
   ∃t,PSs (cxOf CX0 P w K mg base N qual (zae st) f cdv A outer s H E).nox (zas st) t/\t {nx:=fun _ H'=>Q .non H',rt:=Q} (start N vs) H):FnOk P w K mg base CX0 (k+1) f fd ps sp:=by
 obtain⟨oc,od,kV,doc,pm,an,cdv,ct,osl,rfl,lk,hcd⟩:=F.ex;refine zn7 lk hcd S len fun A outer s H vs Q E hr hsp=>?_;obtain⟨t,h,q⟩:=hbody cdv A outer s H vs Q E hr hsp;exact⟨t,h.nox,q⟩
theorem FunV.binds {st:Stmt}(F:FunV K x qual st dV f fd)
  (h:∀(kV doc pm:Value) (an:Option Addr) (cdv ct:Value) (us:List Value),us.length=ps.length->bindArgs (fnOf x qual (zaJ st) (zas st) (zae st) dV kV doc pm an cdv ct) ⟨us,[]⟩=pure (ps.zip us)):Binds K fd ps []:=by
 obtain⟨oc,od,kV,doc,pm,an,cdv,ct,osl,rfl,lk,hcd⟩:=F.ex;exact .all (h kV doc pm an cdv ct)
structure Has (P:Program) (w:World) (K:PySem.W.Frag) (mg:Str->Option Value) (base:Heap) (k:Nat) (x:Str) (ps:List Str) (dvs:List V) (sp:Sp):Prop where
 ex:∃(f:Addr) (fd:FuncData) (ds:List Value),FnOk P w K mg base CX0 k f fd ps sp/\mg x=some (.ref f)/\keepIn K (.ref f)=true/\Binds K fd ps ds/\Vals dvs ds
end
theorem zo8 {p pos:Pos}(G:Has X.prog X.w X.K X.mg X.base k x ps dvs sp)(hr:Room k X.A)(ha:PA X (e::es) t)(hg:Gl X x:=by rfl)
  (hdb:(x == ("__debug__":Str))=false:=by decide) (he:starEach (e::es) X.env=(false,eval e X.env)::starEach es X.env:=by rfl) (hpl:(backTo pos (starEach es X.env)).any (·.1)=false:=by rfl) :
  PE X (.Call (.Name x p) (e::es) [] pos) (zhc sp dvs E0 t):=by
 obtain⟨f,fd,ds,F,hm,hk,hb,hd⟩:=G.ex;exact zlz F hr hg hm hk hb hd zjz ha hdb he hpl
theorem znv {p pos:Pos}(G:Has X.prog X.w X.K X.mg X.base k x ps dvs sp)(hr:Room k X.A)(hg:Gl X x:=by rfl)
  (hdb:(x == ("__debug__":Str))=false:=by decide):PE X (.Call (.Name x p) [] [] pos) (zhc sp dvs E0 tNil):=by
 obtain⟨f,fd,ds,F,hm,hk,hb,hd⟩:=G.ex;exact zjy F hr hg hm hk hb hd zjz hdb
mutual
def Rep (H:Hp):PyData->V->Prop
 |.none,v=>v=.non
 |.bool b,v=>v=.bl b
 |.int i,v=>v=.int i
 |.str x,v=>v=.str x
 |.list ds,v=>∃a vs,v=.ref a/\H a=some (.lst vs)/\RepAll H ds vs
 |.tuple ds,v=>∃a vs,v=.ref a/\H a=some (.tup vs)/\RepAll H ds vs
 |.dict _,_=>False
def RepAll (H:Hp):List PyData->List V->Prop
 | [],vs=>vs=[]
 |d::ds,vs=>∃v r,vs=v::r/\Rep H d v/\RepAll H ds r
end
mutual
noncomputable def imm:PyData->Bool
 |.none=>true
 |.bool _=>true
 |.int _=>true
 |.str _=>true
 |.list _=>false
 |.tuple ds=>zep ds
 |.dict _=>false
noncomputable def zep:List PyData->Bool
 | []=>true
 |d::ds=>imm d&&zep ds
end
def Tups (H H':Hp):Prop:=∀b xs,H b=some (.tup xs)->H' b=some (.tup xs)
theorem Tups.refl (H:Hp):Tups H H:=fun _ _ h=>h
theorem Tups.trans (a:Tups H H1)(b:Tups H1 H2):Tups H H2:=fun c xs h=>b c xs (a c xs h)
theorem Tups.upd (h:∀xs,H p≠some (.tup xs)):Tups H (upd H p o):=fun b xs e=>by
 have hb:b≠p:=fun z=>by subst z;exact h xs e
 rw[zah hb];exact e
theorem Tups.upd_lst (h:H p=some (.lst xs)):Tups H (L2.upd H p o):=Tups.upd fun ys e=>by rw[h] at e;cases e
theorem Tups.upd_new (h:H p=none):Tups H (L2.upd H p o):=Tups.upd fun ys e=>by rw[h] at e;cases e
mutual
theorem Rep.same {H H':Hp}(hs:Same H H'):∀{d:PyData} {v:V},Rep H d v->Rep H' d v
 |.none,_,h=>h
 |.bool _,_,h=>h
 |.int _,_,h=>h
 |.str _,_,h=>h
 | .list ds,v,h=>by
   obtain⟨a,vs,e,ha,r⟩:=h;exact⟨a,vs,e,hs _ _ ha,RepAll.same hs r⟩
 | .tuple ds,v,h=>by
   obtain⟨a,vs,e,ha,r⟩:=h;exact⟨a,vs,e,hs _ _ ha,RepAll.same hs r⟩
 |.dict _,_,h=>h
theorem RepAll.same {H H':Hp}(hs:Same H H'):∀{ds:List PyData} {vs:List V},RepAll H ds vs->RepAll H' ds vs
 | [],_,h=>h
 | d::ds,vs,h=>by
   obtain⟨v,r,e,h1,h2⟩:=h;exact⟨v,r,e,Rep.same hs h1,RepAll.same hs h2⟩
end
mutual
theorem Rep.tups {H H':Hp}(hs:Tups H H'):∀{d:PyData} {v:V},imm d=true->Rep H d v->Rep H' d v
 |.none,_,_,h=>h
 |.bool _,_,_,h=>h
 |.int _,_,_,h=>h
 |.str _,_,_,h=>h
 |.list ds,v,i,h=>by simp[imm] at i
 | .tuple ds,v,i,h=>by
   obtain⟨a,vs,e,ha,r⟩:=h;exact⟨a,vs,e,hs _ _ ha,RepAll.tups hs (by simpa[imm] using i) r⟩
 |.dict _,_,_,h=>h
theorem RepAll.tups {H H':Hp}(hs:Tups H H'):∀{ds:List PyData} {vs:List V},zep ds=true->RepAll H ds vs->RepAll H' ds vs
 | [],_,_,h=>h
 | d::ds,vs,i,h=>by
   obtain⟨v,r,e,h1,h2⟩:=h;have i':imm d=true/\zep ds=true:=by simpa[zep] using i
   exact⟨v,r,e,Rep.tups hs i'.1 h1,RepAll.tups hs i'.2 h2⟩
end
mutual
theorem Rep.reads {X:Cx}{pins:List (Addr × Obj)}{σ:St}{H:Hp}{s:Shared}(I:Inv X pins σ H s):∀(d:PyData) (v:V) (u:Value),Rep H d v->RelV v u->∃as,Reads s.heap u d as
 | .none,v,u,h,r=>by
   cases (show v=.non from h);cases (show u=Value.none from r);exact⟨_,.none⟩
 | .bool b,v,u,h,r=>by
   cases (show v=.bl b from h);cases (show u=Value.bool b from r);exact⟨_,.bool b⟩
 | .int i,v,u,h,r=>by
   cases (show v=.int i from h);obtain⟨t,rfl⟩:=(show ∃t,u=Value.int i t from r);exact⟨_,.int i t⟩
 | .str x,v,u,h,r=>by
   cases (show v=.str x from h);obtain⟨t,rfl⟩:=(show ∃t,u=Value.str x t from r);exact⟨_,.str x t⟩
 | .list ds,v,u,h,r=>by
   obtain⟨a,vs,rfl,ha,hr⟩:=h;cases (show u=Value.ref a from r);obtain⟨its,n,rv,e,_⟩:=I.lst ha;obtain⟨as,q⟩:=RepAll.reads I ds vs its hr rv;exact⟨_,.list e rfl rfl q⟩
 | .tuple ds,v,u,h,r=>by
   obtain⟨a,vs,rfl,ha,hr⟩:=h;cases (show u=Value.ref a from r);obtain⟨its,rv,⟨o,e1,e2,n,e3⟩,_⟩:=I.tuple (SqT.of (K:=X.K) ha);obtain⟨as,q⟩:=RepAll.reads I ds vs its hr rv;exact⟨_,.tuple e1 e2 e3 q⟩
 |.dict _,_,_,h,_=>False.elim h
theorem RepAll.reads {X:Cx}{pins:List (Addr × Obj)}{σ:St}{H:Hp}{s:Shared}(I:Inv X pins σ H s):∀(ds:List PyData) (vs:List V) (us:List Value),RepAll H ds vs->Vals vs us->∃as,ReadsAll s.heap us ds as
 | [],vs,us,h,r=>by
   cases (show vs=[] from h);cases r;exact⟨_,.nil⟩
 | d::ds,vs,us,h,r=>by
   obtain⟨v,vr,rfl,h1,h2⟩:=h;cases r with
   | cons r1 r2=>
     obtain⟨as,q1⟩:=Rep.reads I d v _ h1 r1;obtain⟨bs,q2⟩:=RepAll.reads I ds vr _ h2 r2;exact⟨_,.cons q1 q2⟩
end
section
variable {X:Cx}
def rEqD (g:Bool->Bool):R2:=fun x y H Q=>∃da db,Rep H da x/\Rep H db y/\da.canLay0=true/\db.canLay0=true/\min da.depth db.depth<=60/\Q (.bl (g (PyData.eqv da db))) H
theorem znE (hu:X.A.units+64<cLine):OpR X (compareOp .Eq) (rEqD id):=by
 intro pins s σ H x y v u Q I rx ry h;obtain⟨da,db,h1,h2,l1,l2,hd,q⟩:=h;obtain⟨as,r1⟩:=Rep.reads I da x v h1 rx;obtain⟨bs,r2⟩:=Rep.reads I db y u h2 ry;exact SeqAt.compareEq_reads r1 r2 l1 l2 (by omega) (zan I q rfl)
theorem znB (hu:X.A.units+64<cLine):OpR X (compareOp .NotEq) (rEqD not):=by
 intro pins s σ H x y v u Q I rx ry h;obtain⟨da,db,h1,h2,l1,l2,hd,q⟩:=h;obtain⟨as,r1⟩:=Rep.reads I da x v h1 rx;obtain⟨bs,r2⟩:=Rep.reads I db y u h2 ry;exact SeqAt.compareNe_reads r1 r2 l1 l2 (by omega) (zan I q rfl)
noncomputable def zcj (H:Hp):V->Option String
 |.non=>some "NoneType"
 |.bl _=>some "bool"
 |.int _=>some "int"
 |.str _=>some "str"
 | .ref a=>match H a with
   |some (.lst _)=>some "list"
   |some (.frz _ (.lst _))=>some "list"
   |some (.tup _)=>some "tuple"
   |some (.dK _)=>some "dict"
   |some (.dT _)=>some "dict"
   |_=>none
 |_=>none
theorem zg9 {K:PySem.W.Frag}(h:zcj H x=some a):TyOf K H x (.type a):=by
 cases x with
 |non=>cases h;exact .non
 |bl b=>cases h;exact .bl b
 |int i=>cases h;exact .int i
 |str y=>cases h;exact .str y
 |byt _=>cases h
 |flt _=>cases h
 |ty _=>cases h
 | ref p=>
   unfold zcj at h;cases e:H p with
   |none=>simp[e] at h
   | some o=>
     cases o with
     |lst xs=>simp[e] at h;subst h;exact .lst e
     |tup xs=>simp[e] at h;subst h;exact .tup e
     |dK kvs=>simp[e] at h;subst h;exact .dK e
     |dT kvs=>simp[e] at h;subst h;exact .dT e
     | frz ob q=>
       cases q with
       |lst xs=>simp[e] at h;subst h;exact .frz e
       |_=>simp[e] at h
     |_=>simp[e] at h
noncomputable def subT (a b:String):Bool:=a == b || (a == "bool"&&b == "int")
theorem zlK (K:PySem.W.Frag)(ha:a∈["NoneType","bool","int","str","list","tuple","dict"])(hb:b∈["bool","int","str","list","tuple","dict"]):kitOne K (.type a) (.type b)=some (subT a b):=by
 simp at ha hb;rcases ha with rfl|rfl|rfl|rfl|rfl|rfl|rfl<;>rcases hb with rfl|rfl|rfl|rfl|rfl|rfl<;>rfl
theorem zgk (h:zcj H x=some a):a∈["NoneType","bool","int","str","list","tuple","dict"]:=by
 cases x with
 |non=>cases h;simp
 |bl b=>cases h;simp
 |int i=>cases h;simp
 |str y=>cases h;simp
 |byt _=>cases h
 |flt _=>cases h
 |ty _=>cases h
 | ref p=>
   unfold zcj at h;simp only at h;split at h<;>first|(cases h;simp)|cases h
theorem zfh:zbt X (.builtin "isinstance") (fun xs H Q=>∃x c a,xs=[x,.ty c]/\zcj H x=some a/\c∈["bool","int","str","list","tuple","dict"]/\Q (.bl (subT a c)) H):=by
 intro pins s σ H xs us Q I r h;obtain⟨x,c,a,rfl,hx,hc,q⟩:=h;obtain⟨u,w',rfl,rx,rc⟩:=ziT r;cases rc;exact zh1 I rx (zg9 hx) (zlK X.K (zgk hx) hc) fun tk=>⟨.bl (subT a c),H,I.tok tk,rfl,q⟩
end
end L2
namespace L2
open PySem PySem.Spec PyProof.Rows
section
variable {X:Cx} {scope:Scope} {elt tg iter:Expr} {ifs:List Expr} {pos:Pos} {wi:TI} {g:TG} {tt:TT} {te:TE}
end
end L2
namespace L2
open PySem PySem.Spec PyProof.Rows
section
variable {X:Cx} (K:PySem.W.Frag) (hK:X.K=K)
include hK
end
end L2
end
section
namespace TM
structure Good (m:Nat) (wo:Option Int) (s:Int) (n:Nat) (p:List Int):Prop where
 len:p.length=n
 head:p.head?=some s
 nd:p.Nodup
 rng:∀h∈p,0<=h/\h<m/\wo≠some h
end TM
end
section
namespace L2
open PySem PySem.Spec PyProof.Rows
theorem zkB:bootBuiltins "len"=some (.builtin "len"):=by decide +kernel
theorem zor:bootBuiltins "abs"=some (.builtin "abs"):=by decide +kernel
theorem zoq:bootBuiltins "all"=some (.builtin "all"):=by decide +kernel
theorem zbq:bootBuiltins "isinstance"=some (.builtin "isinstance"):=by decide +kernel
theorem zop:bootBuiltins "int"=some (.type "int"):=by decide +kernel
theorem zma:bootBuiltins "bool"=some (.type "bool"):=by decide +kernel
theorem zoo:bootBuiltins "str"=some (.type "str"):=by decide +kernel
theorem zfj:bootBuiltins "list"=some (.type "list"):=by decide +kernel
theorem zgg:bootBuiltins "tuple"=some (.type "tuple"):=by decide +kernel
theorem zl9:bootBuiltins "dict"=some (.type "dict"):=by decide +kernel
theorem zkA:bootBuiltins "set"=some (.type "set"):=by decide +kernel
theorem zol {K:PySem.W.Frag}{st:Stmt}(n:Nat)(hn:ps.length=n+ds.length)(F:FunV K x qual st (.ref d) f fd)
  (e:K.lookup d=some ⟨xc,xd,.seq items xn,xs⟩)
  (h:∀(kV doc pm:Value) (an:Option Addr) (cdv ct:Value) (us:List Value),us.length=n->∃k,bindArgs (fnOf x qual (zaJ st) (zas st) (zae st) (.ref d) kV doc pm an cdv ct) ⟨us,[]⟩=seqItems? (.ref d) >>= k/\k (some items)=pure (ps.zip (us++ds))) :
  Binds K fd ps ds:=by
 obtain⟨oc,od,kV,doc,pm,an,cdv,ct,osl,rfl,lk,hcd⟩:=F.ex;intro s us KX hl;obtain⟨k,h1,h2⟩:=h kV doc pm an cdv ct us (by rw[length_append] at hl;omega);exact BindsTo.of_defaults rfl (KX _ _ e) rfl h1 h2
end L2
end
section
namespace R
end R
end
section
namespace R
end R
end
section
namespace R
open PySem (Str PyData Operator CmpOp)
inductive D where
 |non|bl (b:Bool)|int (i:Int)|str (x:Str)|tup (ds:List D)|ref (l:Nat)
 |fix (ds:List D)
inductive MO where
 |lst (ds:List D)|ins (c:Nat) (fs:List (Str × D))
 |exc (c:Nat) (fs:List (Str × D))
structure St where
 frz:List MO
 new:List MO
 lk:List Nat
inductive Out (α:Type) where
 |ok (a:α) (S:St)
 |err (d:D) (S:St)
 |bad
noncomputable def Out.bind (o:Out α)(f:α->St->Out β):Out β:=match o with
 |.ok a S=>f a S
 |.err d S=>.err d S
 |.bad=>.bad
noncomputable def Out.ne:Out α->Out α
 |.ok a S=>.ok a S
 |_=>.bad
noncomputable def lift (S:St):Option α->Out α
 |some a=>.ok a S
 |none=>.bad
namespace St
noncomputable def get (S:St)(l:Nat):Option MO:=if l<S.frz.length then S.frz[l]? else S.new[l - S.frz.length]?
noncomputable def len (S:St):Nat:=S.frz.length+S.new.length
noncomputable def push (S:St)(o:MO):St:={S with new:=S.new++[o]}
noncomputable def put (S:St)(l:Nat)(o:MO):Option St:=if l<S.frz.length then none else if S.lk.contains l then none else some {S with new:=S.new.set (l - S.frz.length) o}
noncomputable def enter (S:St):St:=⟨S.frz++S.new,[],[]⟩
end St
noncomputable def lay (S:St)(ds:List D):Out D:=if ds.length<=16777216 then .ok (.ref S.len) (S.push (.lst ds)) else .bad
noncomputable def wr (S:St)(l:Nat)(ds:List D)(d:D):Out D:=if ds.length<=16777216 then (match S.put l (.lst ds) with|some S'=>.ok d S'|none=>.bad) else .bad
noncomputable def pd (S:St):Nat->D->Option PyData
 |_,.non=>some .none
 |_,.bl b=>some (.bool b)
 |_,.int i=>some (.int i)
 |_,.str x=>if PySem.PyData.strOk x then some (.str x) else none
 |n+1,.tup ds=>(ds.mapM (pd S n)).map PyData.tuple
 | n+1,.ref l=>match S.get l with
   |some (.lst ds)=>(ds.mapM (pd S n)).map PyData.list
   |_=>none
 |_,.fix _=>none
 |0,_=>none
mutual
noncomputable def flat (n:Nat):D->Bool
 |.tup ds=>flats n ds
 |.ref l=>decide (l<n)
 |.fix ds=>flats n ds
 |_=>true
noncomputable def flats (n:Nat):List D->Bool
 | []=>true
 |d::ds=>flat n d&&flats n ds
end
noncomputable def zbK (S:St):D->Option (List D)
 |.tup ds=>some ds
 |.fix ds=>some ds
 | .ref l=>match S.get l with
   |some (.lst ds)=>some ds
   |_=>none
 |_=>none
noncomputable def lkOf (S:St):D->List Nat
 |.ref l=>[l]
 |_=>[]
noncomputable def tru (S:St):D->Option Bool
 |.non=>some false
 |.bl b=>some b
 |.int i=>some (i != 0)
 |.tup ds=>some (!ds.isEmpty)
 | .ref l=>match S.get l with
   |some (.lst ds)=>some (!ds.isEmpty)
   |_=>none
 |_=>none
noncomputable def tyOf (S:St):D->Option String
 |.non=>some "NoneType"
 |.bl _=>some "bool"
 |.int _=>some "int"
 |.str _=>some "str"
 |.tup _=>some "tuple"
 | .ref l=>match S.get l with
   |some (.lst _)=>some "list"
   |_=>none
 |.fix _=>none
noncomputable def ixN (n:Nat)(i:Int):Option Nat:=if 0<=i then (if i<n then some i.toNat else none) else if -(n:Int)<=i then some (i+n).toNat else none
noncomputable def atI {α:Type}(xs:List α)(i:Int):Option α:=(ixN xs.length i).bind fun j=>xs[j]?
noncomputable def sIx (n d:Nat):Option Int->Nat
 |none=>d
 |some i=>if i<0 then (i+n).toNat else min i.toNat n
noncomputable def cut {α:Type}(xs:List α)(lo hi:Option Int):List α:=(xs.drop (sIx xs.length 0 lo)).take (sIx xs.length xs.length hi - sIx xs.length 0 lo)
noncomputable def zdR:D->Option Int
 |.int i=>some i
 |_=>none
noncomputable def zby (m:Bool)(d:D):Option (Option Int):=if m then (match d with|.int i=>some (some i)|_=>none) else some none
noncomputable def zdL (i j:Int):Bool:=decide (-(2 ^ 64)<i/\i<2 ^ 64) || decide (-(2 ^ 64)<j/\j<2 ^ 64)
noncomputable def binI (S:St)(op:Operator)(i j:Int):Out D:=match op with
 |.Add=>.ok (.int (i+j)) S
 |.Sub=>.ok (.int (i - j)) S
 |.Mult=>if zdL i j then .ok (.int (i * j)) S else .bad
 |.FloorDiv=>if 0<j/\j<1073741824 then .ok (.int (i / j)) S else .bad
 |.Mod=>if 0<j then .ok (.int (i % j)) S else .bad
 |.Pow=>if 0<=j/\j<=1000000/\-18446744073709551616<i/\i<18446744073709551616 then .ok (.int (i ^ j.toNat)) S else .bad
 |_=>.bad
noncomputable def binD (S:St)(op:Operator)(x y:D):Out D:=match x,y with
 |.int i,.int j=>binI S op i j
 |.tup xs,.tup ys=>(match op with|.Add=>if xs.length+ys.length<=16777216 then .ok (.tup (xs++ys)) S else .bad|_=>.bad)
 |.ref a,.ref b=>(match op,S.get a,S.get b with|.Add,some (.lst xs),some (.lst ys)=>lay S (xs++ys)|_,_,_=>.bad)
 |_,_=>.bad
noncomputable def eqD (S:St)(x y:D):Option Bool:=(pd S 60 x).bind fun a=>(pd S 60 y).map fun b=>PyData.eqv a b
noncomputable def inD (S:St)(x:D)(ys:List D):Option Bool:=(ys.mapM fun z=>eqD S z x).map fun bs=>bs.any id
noncomputable def zbR (ds:List D):Option (List Int):=ds.mapM zdR
noncomputable def cmpI (op:CmpOp)(i j:Int):Option Bool:=match op with
 |.Eq=>some (decide (i=j))
 |.NotEq=>some (!decide (i=j))
 |.Lt=>some (decide (i<j))
 |.LtE=>some (decide (i<=j))
 |.Gt=>some (decide (j<i))
 |.GtE=>some (decide (j<=i))
 |_=>none
noncomputable def zlM:D->Bool|.non=>true|_=>false
noncomputable def cmpO (S:St)(op:CmpOp)(x y:D):Option Bool:=match op with
 |.Eq=>eqD S x y
 |.NotEq=>(eqD S x y).map (!·)
 |.Is=>(match y with|.non=>some (zlM x)|_=>none)
 |.IsNot=>(match y with|.non=>some (!zlM x)|_=>none)
 |.In=>(zbK S y).bind fun ys=>inD S x ys
 |.NotIn=>((zbK S y).bind fun ys=>inD S x ys).map (!·)
 |_=>none
noncomputable def cmpD (S:St)(op:CmpOp)(x y:D):Option Bool:=match x,y with
 |.int i,.int j=>cmpI op i j
 |_,_=>cmpO S op x y
inductive Bi where
 |len|abs|isin (t:String)
inductive Mt where
 |append
noncomputable def bi (S:St):Bi->List D->Out D
 | .len,[x]=>(match x with
   |.tup ds=>.ok (.int ds.length) S
   |.fix ds=>.ok (.int ds.length) S
   |.ref l=>(match S.get l with|some (.lst ds)=>.ok (.int ds.length) S|_=>.bad)
   |_=>.bad)
 |.abs,[.int i]=>.ok (.int (if i<0 then -i else i)) S
 |.isin t,[x]=>(match tyOf S x with|some a=>.ok (.bl (a == t || (a == "bool"&&t == "int"))) S|none=>.bad)
 |_,_=>.bad
noncomputable def isL (S:St):D->Bool
 |.ref l=>(match S.get l with|some (.lst _)=>true|_=>false)
 |_=>false
noncomputable def mt (S:St):Mt->D->List D->Out D
 |.append,.ref l,[y]=>(match S.get l with|some (.lst ds)=>wr S l (ds++[y]) .non|_=>.bad)
 |_,_,_=>.bad
noncomputable def zc8 (S:St)(x y z:D):Out D:=match x,y with
 | .ref l,.int i=>(match S.get l with
   |some (.lst ds)=>if 0<=i/\i<=ds.length then wr S l (ds.take i.toNat++z::ds.drop i.toNat) .non else .bad
   |_=>.bad)
 |_,_=>.bad
noncomputable def dPut (S:St)(x y v:D):Option St:=match x with
 | .ref l=>(match S.get l with
   |some (.lst ds)=>(zdR y).bind fun i=>(ixN ds.length i).bind fun j=>S.put l (.lst (ds.set j v))
   |_=>none)
 |_=>none
noncomputable def zpG (S:St):D->Option (Nat × List (Str × D))
 |.ref l=>(match S.get l with|some (.ins c fs)=>some (c,fs)|_=>none)
 |_=>none
noncomputable def zc7 (f:Str)(v:D):List (Str × D)->List (Str × D)
 | []=>[(f,v)]
 |(g,x)::r=>if g=f then (g,v)::r else (g,x)::zc7 f v r
noncomputable def zbd (S:St)(x:D)(f:Str)(v:D):Option St:=match x with
 |.ref l=>(match S.get l with|some (.ins c fs)=>if fs.length<1000 then S.put l (.ins c (zc7 f v fs)) else none|_=>none)
 |_=>none
noncomputable def zbM (S:St):D->Option (Nat × List (Str × D))
 |.ref l=>(match S.get l with|some (.exc c fs)=>some (c,fs)|_=>none)
 |_=>none
noncomputable def zh4:D->Bool|.non=>true|_=>false
mutual
inductive CE where
 |loc (i:Nat)|con (d:D)
 |tst (a:CE)
 |bin (op:Operator) (a b:CE)|neg (a:CE)|nt (a:CE)
 |cmp (op:CmpOp) (a b:CE)|cmp2 (op op':CmpOp) (a b c:CE)
 |and (a b:CE)|or (a b:CE)|ite (c a b:CE)
 |tup (es:CEs)|lst (es:CEs)
 |ix (a b:CE)
 |mk (c f:Nat) (x:Str) (j:Nat) (es:CEs)
 |mkX (c:Nat) (x f:Str) (a:CE)|fldX (a:CE) (f:Str)|iscX (cs:List Nat) (x:Str) (a:CE)
 |sl (a:CE) (ml mh:Bool) (lo hi:CE)|insL (o a b:CE)
 |call (f j:Nat) (es:CEs)|bi (b:Bi) (es:CEs)|mt (m:Mt) (o:CE) (es:CEs)
 |mkL (l:CL)|mkT (l:CL)|all (l:CL)|lenset (l:CL)|sset (a:CE)
inductive CEs where
 |nil|cons (e:CE) (r:CEs)
inductive CL where
 |val (e:CE)|rng1 (a:CE)|enum (a:CE)
 |comp (nt:Nat) (js:List Nat) (g:List Nat) (it:CL) (c:CE) (e:CE)
end
inductive TrB where
 |asg (i f:Nat) (es:CEs)|ite (c:CE) (a b:TrB)
 |setF (a:CE) (f:Str) (g:Nat) (es:CEs)|mk (c f:Nat) (x:Str) (j:Nat) (es:CEs)|comp (i nt:Nat) (js g:List Nat) (it:CL) (f:Nat) (es:CEs)
inductive CS where
 |nil|stop|asg (i:Nat) (e:CE) (r:CS)|asgT (g:List Nat) (e:CE) (r:CS)|setIx (a b e:CE) (r:CS)|setF (a:CE) (f:Str) (e:CE) (r:CS)
 |ifS (c:CE) (t u:CS) (r:CS)|forS (g:List Nat) (l:CL) (b:CS) (r:CS)|ret (e:CE) (r:CS)|expr (e:CE) (r:CS)
 |rais (c:Nat) (x f:Str) (a:CE)|tryS (b:TrB) (x:Str) (ie ix:Nat) (r:CS)
 |blk (b:TrB) (r:CS)
abbrev Ev:=List (Option D)
noncomputable def zdn:List Nat->List D->Ev->Ev
 |i::is,d::ds,δ=>zdn is ds (δ.set i (some d))
 |_,_,δ=>δ
noncomputable def asgG (g:List Nat)(x:D)(δ:Ev):Option Ev:=match g with
 | [i]=>some (δ.set i (some x))
 |is=>(match x with|.tup ds=>if ds.length=is.length then some (zdn is ds δ) else none|_=>none)
noncomputable def zcL (x y:D):D:=.tup [x,y]
noncomputable def zcV (S:St):D->Option (List D × List Nat)
 |.ref l=>(match S.get l with|some (.lst xs)=>some (xs.mapIdx fun i d=>zcL (.int i) d,[l])|_=>none)
 |.tup xs=>some (xs.mapIdx fun i d=>zcL (.int i) d,[])
 |_=>none
abbrev CF:=Nat->List D->St->Out D
noncomputable def zaZ (S:St)(d:D)(T:St):Out D:=
 if flat S.len d then .ok d S else
 let keep:Out D:=.ok d ⟨S.frz,S.new++T.new,S.lk⟩
 match d with
  | .ref l=>(match T.get l with
    |some (.lst ds)=>if flats S.len ds then .ok (.ref S.len) (S.push (.lst ds)) else keep
    |_=>keep)
  |_=>keep
noncomputable def zhZ (S:St)(d:D)(T:St):Out (List D):=match d with
 |.ref l=>if l<S.len then .bad else (match T.get l with|some (.lst ds)=>if flats S.len ds then .ok ds S else .bad|_=>.bad)
 |_=>.bad
@[irreducible] noncomputable def app (cf:CF)(f:Nat)(ds:List D)(S:St):Out D:=(cf f ds S.enter).bind fun d T=>zaZ S d T
@[irreducible] noncomputable def appL (cf:CF)(f:Nat)(ds:List D)(S:St):Out (List D):=(cf f ds S.enter).bind fun d T=>zhZ S d T
@[irreducible] noncomputable def appW (cf:CF)(f:Nat)(ds:List D)(S:St):Out D:=cf f ds S
noncomputable def csl (nt:Nat)(js:List Nat)(δ:Ev):Ev:=List.replicate nt none++js.map fun j=>(δ[j]?).join
noncomputable def za4 (g:List Nat)(c:Ev->St->Out Bool)(e:Ev->St->Out D):List D->Ev->St->Out (List D)
 | [],_,S=>.ok [] S
 | x::xs,δ,S=>match asgG g x δ with
   |none=>.bad
   |some δ'=>(c δ' S).bind fun b S1=>if b then (e δ' S1).bind fun d S2=>(za4 g c e xs δ' S2).bind fun ds S3=>.ok (d::ds) S3 else za4 g c e xs δ' S1
noncomputable def zbB (ls:List Nat)(S:St)(f:St->Out α):Out α:=
 (f {S with lk:=ls++S.lk}).bind fun a S'=>.ok a {S' with lk:=S.lk}
noncomputable def zc0:D->Option Bool
 |.bl b=>some b
 |_=>none
noncomputable def allD (ds:List D):Option Bool:=(ds.mapM zc0).map fun bs=>bs.all id
noncomputable def insZ (x:Int):List Int->List Int
 | []=>[x]
 |y::l=>if x<=y then x::y::l else y::insZ x l
noncomputable def zcr:List Int->List Int
 | []=>[]
 |x::l=>insZ x (zcr l)
noncomputable def lstI (S:St)(x:D):Option (List Int):=match x with
 |.ref p=>(match S.get p with|some (.lst ds)=>zbR ds|_=>none)
 |_=>none
noncomputable def dedup (xs:List Int):List Int:=xs.foldl (fun acc x=>if acc.contains x then acc else acc++[x]) []
section
variable (cf:CF)
mutual
noncomputable def evE:CE->Ev->St->Out D
 |.loc i,δ,S=>lift S (δ[i]?).join
 |.con d,_,S=>.ok d S
 |.tst _,_,_=>.bad
 |.bin op a b,δ,S=>(evE a δ S).bind fun x S1=>(evE b δ S1).bind fun y S2=>binD S2 op x y
 |.neg a,δ,S=>(evE a δ S).bind fun x S1=>match x with|.int i=>.ok (.int (-i)) S1|_=>.bad
 |.nt a,δ,S=>(evE a δ S).bind fun x S1=>match x with|.bl b=>.ok (.bl (!b)) S1|_=>.bad
 |.cmp op a b,δ,S=>(evE a δ S).bind fun x S1=>(evE b δ S1).bind fun y S2=>(lift S2 (cmpD S2 op x y)).bind fun k S3=>.ok (.bl k) S3
 |.cmp2 op op' a b c,δ,S=>(evE a δ S).bind fun x S1=>(evE b δ S1).bind fun y S2=>(lift S2 (cmpD S2 op x y)).bind fun k S3=>
  if k then (evE c δ S3).bind fun z S4=>(lift S4 (cmpD S4 op' y z)).bind fun k' S5=>.ok (.bl k') S5 else .ok (.bl false) S3
 |.and a b,δ,S=>(evE a δ S).bind fun x S1=>match x with|.bl k=>if k then evE b δ S1 else .ok (.bl false) S1|_=>.bad
 |.or a b,δ,S=>(evE a δ S).bind fun x S1=>match x with|.bl k=>if k then .ok (.bl true) S1 else evE b δ S1|_=>.bad
 |.ite c a b,δ,S=>(evT c δ S).bind fun k S1=>if k then evE a δ S1 else evE b δ S1
 |.tup es,δ,S=>(evEs es δ S).bind fun ds S1=>if ds.length<=16777216 then .ok (.tup ds) S1 else .bad
 |.lst es,δ,S=>(evEs es δ S).bind fun ds S1=>lay S1 ds
 |.mk c f _ j es,δ,S=>(evEs es δ S).bind fun ds S1=>(appW cf f (.ref S1.len::(ds++List.replicate j .non)) (S1.push (.ins c []))).bind fun d S2=>if zh4 d then .ok (.ref S1.len) S2 else .bad
 |.mkX c _ f a,δ,S=>(evE a δ S).bind fun d S1=>.ok (.ref S1.len) (S1.push (.exc c [(f,d)]))
 |.fldX a f,δ,S=>(evE a δ S).bind fun x S1=>lift S1 ((zbM S1 x).bind fun p=>p.2.lookup f)
 |.iscX cs _ a,δ,S=>(evE a δ S).bind fun x S1=>(lift S1 (zbM S1 x)).bind fun p S1=>.ok (.bl (cs.contains p.1)) S1
 |.ix a b,δ,S=>(evE a δ S).bind fun x S1=>(evE b δ S1).bind fun y S2=>match zbK S2 x,y with|some ds,.int i=>lift S2 (atI ds i)|_,_=>.bad
 |.insL o a b,δ,S=>(evE o δ S).bind fun x S1=>if isL S1 x then (evE a δ S1).bind fun y S2=>(evE b δ S2).bind fun z S3=>zc8 S3 x y z else .bad
 |.sl a ml mh lo hi,δ,S=>(evE a δ S).bind fun x S1=>(evE lo δ S1).bind fun y S2=>(evE hi δ S2).bind fun z S3=>match zby ml y,zby mh z with
  | some l,some h=>(match x with
    |.tup ds=>.ok (.tup (cut ds l h)) S3
    |.fix ds=>lay S3 (cut ds l h)
    |.ref p=>(match S3.get p with|some (.lst ds)=>lay S3 (cut ds l h)|_=>.bad)
    |_=>.bad)
  |_,_=>.bad
 |.call f j es,δ,S=>(evEs es δ S).bind fun ds S1=>app cf f (ds++List.replicate j .non) S1
 |.bi b es,δ,S=>(evEs es δ S).bind fun ds S1=>R.bi S1 b ds
 |.mt m o es,δ,S=>(evE o δ S).bind fun x S1=>if isL S1 x then (evEs es δ S1).bind fun ds S2=>R.mt S2 m x ds else .bad
 |.mkL l,δ,S=>(evL l δ S).bind fun r S1=>lay S1 r.1
 |.mkT l,δ,S=>(evL l δ S).bind fun r S1=>if r.1.length<=16777216 then .ok (.tup r.1) S1 else .bad
 |.all l,δ,S=>(evL l δ S).bind fun r S1=>(lift S1 (allD r.1)).bind fun b S2=>.ok (.bl b) S2
 |.lenset l,δ,S=>(evL l δ S).bind fun r S1=>(lift S1 (zbR r.1)).bind fun is S2=>if is.length<4000 then .ok (.int (dedup is).length) S2 else .bad
 |.sset a,δ,S=>(evE a δ S).bind fun x S1=>(lift S1 (lstI S1 x)).bind fun is S2=>if is.length<64 then lay S2 ((zcr (dedup is)).map .int) else .bad
noncomputable def evEs:CEs->Ev->St->Out (List D)
 |.nil,_,S=>.ok [] S
 |.cons e r,δ,S=>(evE e δ S).bind fun d S1=>(evEs r δ S1).bind fun ds S2=>.ok (d::ds) S2
noncomputable def evT:CE->Ev->St->Out Bool
 |.cmp op a b,δ,S=>(evE a δ S).bind fun x S1=>(evE b δ S1).bind fun y S2=>lift S2 (cmpD S2 op x y)
 |.cmp2 op op' a b c,δ,S=>(evE a δ S).bind fun x S1=>(evE b δ S1).bind fun y S2=>(lift S2 (cmpD S2 op x y)).bind fun k S3=>
  if k then (evE c δ S3).bind fun z S4=>lift S4 (cmpD S4 op' y z) else .ok false S3
 |.nt a,δ,S=>(evT a δ S).bind fun k S1=>.ok (!k) S1
 |.and a b,δ,S=>(evT a δ S).bind fun k S1=>if k then evT b δ S1 else .ok false S1
 |.or a b,δ,S=>(evT a δ S).bind fun k S1=>if k then .ok true S1 else evT b δ S1
 |.tst e,δ,S=>(evE e δ S).bind fun x S1=>lift S1 (tru S1 x)
 |_,_,_=>.bad
noncomputable def evL:CL->Ev->St->Out (List D × List Nat)
 |.val e,δ,S=>(evE e δ S).bind fun x S1=>(lift S1 (zbK S1 x)).bind fun ds S2=>.ok (ds,lkOf S2 x) S2
 |.rng1 a,δ,S=>(evE a δ S).bind fun x S1=>match x with|.int j=>if -(2 ^ 62)<=j/\j<2 ^ 62 then .ok ((List.range j.toNat).map fun (k:Nat)=>.int k,[]) S1 else .bad|_=>.bad
 |.enum a,δ,S=>(evE a δ S).bind fun x S1=>lift S1 (zcV S1 x)
 |.comp n js g it c e,δ,S=>(evL it δ S).bind fun r S1=>(zbB r.2 S1 fun S2=>za4 g (evT c) (evE e) r.1 (csl n js δ) S2).bind fun ds S3=>if ds.length<=16777216 then .ok (ds,[]) S3 else .bad
end
inductive Fl where
 |nx (δ:Ev)|rt (d:D)|ex (d:D)
noncomputable def zbi (g:List Nat)(b:Ev->St->Out Fl):List D->Ev->St->Out Fl
 | [],δ,S=>.ok (.nx δ) S
 | x::xs,δ,S=>match asgG g x δ with
   |none=>.bad
   | some δ'=>(b δ' S).bind fun f S1=>match f with
     |.nx δ2=>zbi g b xs δ2 S1
     |.rt d=>.ok (.rt d) S1
     |.ex d=>.ok (.ex d) S1
@[irreducible] noncomputable def appX (f:Nat) (ds:List D) (S:St):Out D:=match cf f ds S.enter with
  |.ok d T=>zaZ S d T
  |.err d T=>.err d ⟨S.frz,S.new++T.new,S.lk⟩
  |.bad=>.bad
noncomputable def zaR (g:List Nat)(f:Nat)(es:CEs):List D->Ev->St->Out (List D)
 | [],_,S=>.ok [] S
 | x::xs,δ,S=>match asgG g x δ with
   |none=>.bad
   | some δ'=>match evEs cf es δ' S with
     | .ok ds S1=>(match appX cf f ds S1 with
       |.ok d S2=>(zaR g f es xs δ' S2).bind fun r S3=>.ok (d::r) S3
       |.err d S2=>.err d S2
       |.bad=>.bad)
     |_=>.bad
noncomputable def exT:TrB->Ev->St->Out Ev
 |.asg i f es,δ,S=>match evEs cf es δ S with|.ok ds S1=>(appX cf f ds S1).bind fun d S2=>.ok (δ.set i (some d)) S2|_=>.bad
 |.ite c a b,δ,S=>match evT cf c δ S with|.ok k S1=>if k then exT a δ S1 else exT b δ S1|_=>.bad
 | .setF a f g es,δ,S=>match evEs cf es δ S with
   | .ok ds S1=>(match appX cf g ds S1 with
     | .ok v S2=>(match evE cf a δ S2 with
       |.ok x S3=>(match zbd S3 x f v with|some S4=>.ok δ S4|none=>.bad)
       |_=>.bad)
     |.err d S2=>.err d S2
     |.bad=>.bad)
   |_=>.bad
 | .mk c f _ j es,δ,S=>match evEs cf es δ S with
   | .ok ds S1=>(match appW cf f (.ref S1.len::(ds++List.replicate j .non)) (S1.push (.ins c [])) with
     |.ok d S2=>if zh4 d then .ok δ S2 else .bad
     |.err d S2=>.err d S2
     |.bad=>.bad)
   |_=>.bad
 | .comp i nt js g it f es,δ,S=>match evL cf it δ S with
   | .ok r S1=>if r.1.length<=16777216 then (match zaR cf g f es r.1 (csl nt js δ) {S1 with lk:=r.2++S1.lk} with
     |.ok ds S3=>.ok (δ.set i (some (.ref S3.len))) (St.push {S3 with lk:=S1.lk} (.lst ds))
     |.err d S3=>.err d {S3 with lk:=S1.lk}
     |.bad=>.bad) else .bad
   |_=>.bad
noncomputable def exS:CS->Ev->St->Out Fl
 |.nil,δ,S=>.ok (.nx δ) S
 |.stop,_,_=>.bad
 |.asg i e r,δ,S=>(evE cf e δ S).bind fun x S1=>exS r (δ.set i (some x)) S1
 |.asgT g e r,δ,S=>(evE cf e δ S).bind fun x S1=>(lift S1 (asgG g x δ)).bind fun δ' S2=>exS r δ' S2
 |.setIx a b e r,δ,S=>(evE cf e δ S).bind fun v S1=>(evE cf a δ S1).bind fun x S2=>(evE cf b δ S2).bind fun y S3=>match dPut S3 x y v with|some S4=>exS r δ S4|none=>.bad
 |.setF a f e r,δ,S=>(evE cf e δ S).bind fun v S1=>(evE cf a δ S1).bind fun x S2=>match zbd S2 x f v with|some S3=>exS r δ S3|none=>.bad
 |.ifS c t u r,δ,S=>(evT cf c δ S).bind fun k S1=>(if k then exS t δ S1 else exS u δ S1).bind fun f S2=>match f with
  |.nx δ'=>exS r δ' S2
  |.rt d=>.ok (.rt d) S2
  |.ex d=>.ok (.ex d) S2
 |.forS g l b r,δ,S=>(evL cf l δ S).bind fun q S1=>(zbB q.2 S1 fun S2=>zbi g (exS b) q.1 δ S2).bind fun f S3=>match f with
  |.nx δ'=>exS r δ' S3
  |.rt d=>.ok (.rt d) S3
  |.ex d=>.ok (.ex d) S3
 |.ret e _,δ,S=>(evE cf e δ S).bind fun x S1=>.ok (.rt x) S1
 |.expr e r,δ,S=>(evE cf e δ S).bind fun _ S1=>exS r δ S1
 |.rais c _ f a,δ,S=>(evE cf a δ S).bind fun d S1=>.ok (.ex (.ref S1.len)) (S1.push (.exc c [(f,d)]))
 |.blk b r,δ,S=>match exT cf b δ S with
  |.ok δ' S1=>exS r δ' S1
  |.err d S1=>.ok (.ex d) S1
  |.bad=>.bad
 |.tryS b _ ie ix r,δ,S=>match exT cf b δ S with
  |.ok δ' S1=>exS r δ' S1
  |.err d S1=>if (zbM S1 d).isSome then exS r ((δ.set ie none).set ix (some d)) S1 else .bad
  |.bad=>.bad
end
inductive Prim where
 |one
structure Fn where
 np:Nat
 nn:Nat
 body:CS
 prim:Option Prim
noncomputable def zap (F:Fn)(ds:List D):Ev:=ds.map some++List.replicate (F.nn - F.np) none
noncomputable def callF (P:List Fn):Nat->CF
 |0,_,_,_=>.bad
 | n+1,f,ds,S=>match P[f]? with
   | some F=>if ds.length=F.np then (match F.prim with
      |some _=>.bad
      | none=>(exS (callF P n) F.body (zap F ds) S).ne.bind fun r T=>match r with
        |.nx _=>.ok .non T
        |.rt d=>.ok d T
        |.ex d=>.err d T)
     else .bad
   |none=>.bad
end R
end
section
namespace R
open PySem (Str PyData Operator CmpOp)
@[simp] theorem zao (a:α)(S:St)(f:α->St->Out β):(Out.ok a S).bind f=f a S:=rfl
@[simp] theorem zoG {α β:Type}(f:α->St->Out β):(Out.bad:Out α).bind f=.bad:=rfl
@[simp] theorem zoF {α β:Type}(d:D)(S:St)(f:α->St->Out β):(Out.err d S:Out α).bind f=.err d S:=rfl
@[simp] theorem zaO (S:St)(a:α):lift S (some a)=.ok a S:=rfl
theorem zau (S:St):S.enter.get=S.get:=by
 funext l;simp only[St.get,St.enter,length_append,List.getElem?_append];by_cases h:l<S.frz.length
 . simp[lt_of_lt_of_le h (Nat.le_add_right _ _)]
 . simp only[h];split
   . rfl
   . simp only[List.getElem?_nil];exact (List.getElem?_eq_none (by omega)).symm
@[simp] theorem zeu (S:St):S.enter.frz=S.frz++S.new:=rfl
@[simp] theorem zod (S:St):S.enter.new=[]:=rfl
@[simp] theorem zoE (S:St):S.enter.lk=[]:=rfl
@[simp] theorem enter_len (S:St):S.enter.len=S.len:=by simp[St.len]
theorem ze8 (S:St):(S.frz++S.new).length=S.len:=by simp[St.len]
theorem za9 {S:St}(h:S.get l=some o):l<S.len:=by
 unfold St.get at h;unfold St.len;split at h
 . omega
 . have:=(List.getElem?_eq_some_iff.mp h).1;omega
theorem zlU {S:St}(h:S.get l=some o)(nw:List MO)(lk:List Nat):(St.mk (S.frz++S.new) nw lk).get l=some o:=by
 have hl:=za9 h;rw[<-zau] at h;unfold St.get at h⊢;have e:l<(S.frz++S.new).length:=by rw[ze8];exact hl
 simp only[zeu,e] at h⊢;exact h
theorem zlV (F nw:List MO)(lk:List Nat)(i:Nat):(St.mk F nw lk).get (F.length+i)=nw[i]?:=by
 have:¬F.length+i<F.length:=by omega
 simp[St.get,this]
@[simp] theorem zoB (n:Nat):flat n .non=true:=by simp[flat]
@[simp] theorem zpt (n:Nat)(b:Bool):flat n (.bl b)=true:=by simp[flat]
@[simp] theorem zoC (n:Nat)(i:Int):flat n (.int i)=true:=by simp[flat]
@[simp] theorem zoA (n:Nat)(x:Str):flat n (.str x)=true:=by simp[flat]
@[simp] theorem za0 (n:Nat)(ds:List D):flat n (.tup ds)=flats n ds:=by simp[flat]
@[simp] theorem zoD (n:Nat)(ds:List D):flat n (.fix ds)=flats n ds:=by simp[flat]
@[simp] theorem zn8 (n:Nat):flats n []=true:=by simp[flats]
@[simp] theorem zgM (n:Nat)(d:D)(ds:List D):flats n (d::ds)=(flat n d&&flats n ds):=by simp[flats]
@[simp] theorem zer (n:Nat):∀ds es:List D,flats n (ds++es)=(flats n ds&&flats n es)
  | [],es=>by simp
  |d::ds,es=>by simp[zer n ds es,Bool.and_assoc]
theorem zaG (n:Nat):∀ds:List D,flats n ds=true↔∀d∈ds,flat n d=true
 | []=>by simp
 |d::ds=>by simp[zaG n ds]
@[simp] theorem zmh (n:Nat)(ns:List Int):flats n (ns.map D.int)=true:=by rw[zaG];simp
@[simp] theorem zdi (S:St)(d:D)(T:St)(h:flat S.len d=true):zaZ S d T=.ok d S:=by simp[zaZ,h]
def W (o:Out α)(Q:α->St->Prop):Prop:=match o with
 |.ok a S=>Q a S
 |_=>False
@[simp] theorem W_ok (a:α)(S:St)(Q:α->St->Prop):W (.ok a S) Q=Q a S:=rfl
@[simp] theorem zpI {α:Type}(Q:α->St->Prop):W (.bad:Out α) Q=False:=rfl
@[simp] theorem zpH {α:Type}(d:D)(S:St)(Q:α->St->Prop):W (.err d S:Out α) Q=False:=rfl
@[simp] theorem zaa (o:Out α) (f:α->St->Out β) (Q:β->St->Prop):W (o.bind f) Q=W o fun a S=>W (f a S) Q:=by
  cases o<;>rfl
theorem W.mono (h:W o Q)(hq:∀a S,Q a S->Q' a S):W o Q':=by
 cases o with
 |ok a S=>exact hq a S h
 |err d S=>exact h
 |bad=>exact h
theorem W.eq (h:W o fun a T=>a=d/\T=S):o=.ok d S:=by
 cases o with
 |ok a T=>obtain⟨rfl,rfl⟩:=h;rfl
 |err d S=>exact False.elim h
 |bad=>exact False.elim h
theorem W.of (h:o=.ok d S)(q:Q d S):W o Q:=by rw[h];exact q
theorem W.iff:W o Q↔∃a S,o=.ok a S/\Q a S:=by
 cases o with
 |ok a S=>exact⟨fun h=>⟨a,S,rfl,h⟩,fun⟨_,_,e,h⟩=>by cases e;exact h⟩
 |err d S=>exact⟨fun h=>h.elim,fun⟨_,_,e,_⟩=>nomatch e⟩
 |bad=>exact⟨fun h=>h.elim,fun⟨_,_,e,_⟩=>nomatch e⟩
@[simp] theorem W_ne:W o.ne Q=W o Q:=by cases o<;>rfl
noncomputable def fin (S:St)(r:Fl)(T:St):Out D:=match r with
 |.nx _=>zaZ S .non T
 |.rt d=>zaZ S d T
 |.ex d=>.err d T
@[simp] theorem zf2 (S T:St)(d:D):fin S (.rt d) T=zaZ S d T:=rfl
@[simp] theorem zpE (S T:St)(δ:Ev):fin S (.nx δ) T=.ok .non S:=by simp[fin]
theorem zkD (h:P[f]?=some F)(hl:ds.length=F.np)(hp:F.prim=none:=by rfl) :
  app (callF P (n+1)) f ds S=(exS (callF P n) F.body (zap F ds) S.enter).ne.bind fun r T=>fin S r T:=by
 simp[app,callF,h,hl,hp];generalize exS (callF P n) F.body (zap F ds) S.enter=o;cases o with
 |ok r T=>cases r<;>rfl
 |err d S=>rfl
 |bad=>rfl
noncomputable def finL (S:St)(r:Fl)(T:St):Out (List D):=match r with
 |.nx _=>.bad
 |.rt d=>zhZ S d T
 |.ex d=>.err d T
@[simp] theorem zpu (S T:St)(d:D):finL S (.rt d) T=zhZ S d T:=rfl
theorem zca (I:Nat->Ev->St->Prop)(Rt:D->St->Prop):∀(xs:List D) (k:Nat) (δ:Ev) (S:St),I k δ S->
  (∀i x δ S,xs[i]?=some x->I (k+i) δ S->∃δ',asgG g x δ=some δ'/\W (b δ' S) fun f S'=>match f with|.nx δ2=>I (k+i+1) δ2 S'|.rt d=>Rt d S'|.ex _=>False)->
  W (zbi g b xs δ S) fun f S'=>match f with|.nx δ'=>I (k+xs.length) δ' S'|.rt d=>Rt d S'|.ex _=>False
 | [],k,δ,S,h,_=>by simpa[zbi] using h
 | x::xs,k,δ,S,h,step=>by
   obtain⟨δ',e,w⟩:=step 0 x δ S rfl h;simp[zbi,e,zaa];refine w.mono fun f S1 hf=>?_;cases f with
   |rt d=>exact hf
   |ex d=>exact hf.elim
   | nx δ2=>
     have ih:=zca I Rt xs (k+1) δ2 S1 hf (fun i y δ S hy hi=>by
      have:=step (i+1) y δ S (by simpa using hy) (by rw[show k+(i+1)=k+1+i by omega];exact hi);rw[show k+(i+1)+1=k+1+i+1 by omega] at this;exact this)
     rw[show k+1+xs.length=k+(x::xs).length by simp;omega] at ih;exact ih
theorem zbT {rest:Ev}(p:D->Bool)(f:D->D):∀(xs:List D) (o:Option D),
  (∀x∈xs,c (some x::rest) S=.ok (p x) S)->(∀x∈xs,p x=true->e (some x::rest) S=.ok (f x) S)->za4 [0] c e xs (o::rest) S=.ok ((xs.filter p).map f) S
 | [],o,_,_=>rfl
 | x::xs,o,hc,he=>by
   have ih:=zbT p f xs (some x) (fun y hy=>hc y (mem_cons_of_mem _ hy)) (fun y hy=>he y (mem_cons_of_mem _ hy));simp[za4,asgG,List.set_cons_zero,hc x mem_cons_self];cases hp:p x with
   |false=>simp[ih,hp]
   |true=>simp[ih,hp,he x mem_cons_self hp]
theorem zdb {rest:Ev}(f:D->D)(xs:List D)(o:Option D)
  (hc:∀x∈xs,c (some x::rest) S=.ok true S) (he:∀x∈xs,e (some x::rest) S=.ok (f x) S):za4 [0] c e xs (o::rest) S=.ok (xs.map f) S:=by
 have:=zbT (fun _=>true) f xs o hc (fun x hx _=>he x hx);rw[List.filter_eq_self.mpr (fun _ _=>rfl)] at this;exact this
@[simp] theorem zmg {α:Type}(S:St)(f:St->Out α):zbB [] S f=(f S).bind fun a S'=>.ok a {S' with lk:=S.lk}:=rfl
end R
end
section
namespace R
open PySem (Str PyData Operator CmpOp)
def wIf (c:Bool)(P Q:Prop):Prop:=match c with|true=>P|false=>Q
@[irreducible] def wOpt {α:Type}(o:Option α)(k:α->Prop):Prop:=match o with|some a=>k a|none=>False
@[irreducible] def zaS (p k:Prop):Prop:=p/\k
@[irreducible] def wOut (o:Out α)(Q:α->St->Prop):Prop:=W o Q
theorem zoK (h:c=true)(k:P):wIf c P Q:=by subst h;exact k
theorem ziS (h:c=false)(k:Q):wIf c P Q:=by subst h;exact k
theorem zkI (h1:c=true->P)(h2:c=false->Q):wIf c P Q:=by
 cases c with
 |true=>exact zoK rfl (h1 rfl)
 |false=>exact ziS rfl (h2 rfl)
theorem zbS [Decidable p](h1:p->P)(h2:¬p->Q):wIf (decide p) P Q:=zkI (fun h=>h1 (of_decide_eq_true h)) (fun h=>h2 (of_decide_eq_false h))
theorem wOpt_of (h:o=some a)(q:k a):wOpt o k:=by unfold wOpt;rw[h];exact q
theorem wNeed_of (h:p)(q:k):zaS p k:=by unfold zaS;exact⟨h,q⟩
theorem wOut_of (h:o=.ok a S)(q:Q a S):wOut o Q:=by unfold wOut;rw[h];exact q
theorem zcz (h:W o Q):wOut o Q:=by unfold wOut;exact h
abbrev wGet (S:St)(l:Nat)(k:MO->Prop):Prop:=wOpt (S.get l) k
abbrev wPut (S:St)(l:Nat)(o:MO)(k:St->Prop):Prop:=wOpt (S.put l o) k
theorem zbb (h:nw[i]?=some o)(q:k o):wGet (St.mk F nw lk) (F.length+i) k:=wOpt_of ((zlV F nw lk i).trans h) q
def wLay (S:St)(ds:List D)(Q:D->St->Prop):Prop:=zaS (ds.length<=16777216) (Q (.ref S.len) (S.push (.lst ds)))
theorem zda (h:wLay S ds Q):W (lay S ds) Q:=by
 unfold wLay zaS at h;unfold lay;rw[if_pos h.1];exact h.2
def wWr (S:St)(l:Nat)(ds:List D)(d:D)(Q:D->St->Prop):Prop:=zaS (ds.length<=16777216) (wPut S l (.lst ds) fun S'=>Q d S')
theorem zoI (h:wWr S l ds d Q):W (wr S l ds d) Q:=by
 unfold wWr zaS wPut wOpt at h;unfold wr;rw[if_pos h.1];have h2:=h.2;cases e:S.put l (.lst ds) with
 |none=>rw[e] at h2;exact h2.elim
 |some S'=>rw[e] at h2;exact h2
def zmr (S:St)(op:Operator)(i j:Int)(Q:D->St->Prop):Prop:=match op with
 |.Add=>Q (.int (i+j)) S
 |.Sub=>Q (.int (i - j)) S
 |.Mult=>zaS (zdL i j=true) (Q (.int (i * j)) S)
 |.FloorDiv=>zaS (0<j/\j<1073741824) (Q (.int (i / j)) S)
 |.Mod=>zaS (0<j) (Q (.int (i % j)) S)
 |.Pow=>zaS (0<=j/\j<=1000000/\-18446744073709551616<i/\i<18446744073709551616) (Q (.int (i ^ j.toNat)) S)
 |_=>False
def wBin (S:St)(op:Operator)(x y:D)(Q:D->St->Prop):Prop:=match x,y with
 |.int i,.int j=>zmr S op i j Q
 |.tup xs,.tup ys=>(match op with|.Add=>zaS (xs.length+ys.length<=16777216) (Q (.tup (xs++ys)) S)|_=>False)
 |.ref a,.ref b=>(match op with|.Add=>wGet S a fun o=>wGet S b fun u=>(match o,u with|.lst xs,.lst ys=>wLay S (xs++ys) Q|_,_=>False)|_=>False)
 |_,_=>False
theorem zmq (h:wBin S op x y Q):W (binD S op x y) Q:=by
 unfold wBin at h;unfold binD;split at h
 . unfold zmr zaS at h;unfold binI;split at h<;>(try dsimp only)<;>first|exact h|(rw[if_pos h.1];exact h.2)|exact False.elim h
 . split at h
   . unfold zaS at h
     (try simp only)
     rw[if_pos h.1];exact h.2
   . exact h.elim
 . split at h
   . unfold wGet wOpt at h
     (try simp only)
     cases ea:S.get _ with
     |none=>simp[ea] at h
     | some o=>
       simp[ea] at h;cases eb:S.get _ with
       |none=>simp[eb] at h
       | some u=>
         simp[eb] at h;cases o<;>cases u<;>first|exact zda h|exact h.elim
   . exact h.elim
 . exact h.elim
def wCmp (S:St)(op:CmpOp)(x y:D)(Q:Bool->Prop):Prop:=match x,y with
 |.int i,.int j=>(match cmpI op i j with|some k=>Q k|none=>False)
 | _,_=>(match op with
   |.Is=>(match cmpO S .Is x y with|some k=>Q k|none=>False)
   |.IsNot=>(match cmpO S .IsNot x y with|some k=>Q k|none=>False)
   |_=>wOpt (cmpO S op x y) Q)
theorem ziz (h:∀i j,x=.int i->y=.int j->False):cmpD S op x y=cmpO S op x y:=by
 unfold cmpD;split
 . rename_i i j;exact (h i j rfl rfl).elim
 . rfl
theorem zeM (h:wCmp S op x y Q):∃k,cmpD S op x y=some k/\Q k:=by
 have fin:∀o:Option Bool,(match o with|some k=>Q k|none=>False)->∃k,o=some k/\Q k:=fun o q=>by
  cases o with
  |none=>exact q.elim
  |some k=>exact⟨k,rfl,q⟩
 unfold wCmp at h;split at h
 . exact fin _ h
 . rename_i hn;rw[ziz hn];split at h
   . exact fin _ h
   . exact fin _ h
   . unfold wOpt at h;cases e:cmpO S op x y with
     |none=>rw[e] at h;exact h.elim
     |some k=>rw[e] at h;exact⟨k,rfl,h⟩
theorem zfn (h:wCmp S op x y fun k=>Q k S):W (lift S (cmpD S op x y)) Q:=by
 obtain⟨k,e,q⟩:=zeM h;rw[e];exact q
def wBi (S:St)(b:Bi)(ds:List D)(Q:D->St->Prop):Prop:=match b,ds with
 | .len,[x]=>(match x with
   |.tup ds=>Q (.int ds.length) S
   |.fix ds=>Q (.int ds.length) S
   |.ref l=>wGet S l fun o=>(match o with|.lst ds=>Q (.int ds.length) S|_=>False)
   |_=>False)
 |.abs,[.int i]=>Q (.int (if i<0 then -i else i)) S
 |.isin t,[x]=>wOpt (tyOf S x) fun a=>Q (.bl (a == t || (a == "bool"&&t == "int"))) S
 |_,_=>False
theorem zoL (h:wBi S b ds Q):W (bi S b ds) Q:=by
 unfold wBi at h;split at h
 . split at h
   . exact h
   . exact h
   . rename_i l;unfold wGet wOpt at h;simp[bi];cases e:S.get l with
     |none=>rw[e] at h;exact h.elim
     |some o=>rw[e] at h;cases o<;>first|exact h|exact h.elim
   . exact h.elim
 . exact h
 . rename_i t x;unfold wOpt at h;simp[bi];cases e:tyOf S x with
   |none=>rw[e] at h;exact h.elim
   |some a=>rw[e] at h;exact h
 . exact h.elim
def wIsL (S:St)(x:D)(P:Prop):Prop:=match x with
 |.ref l=>wGet S l fun o=>(match o with|.lst _=>P|_=>False)
 |_=>False
theorem zg5 (h:wIsL S x P):isL S x=true/\P:=by
 unfold wIsL at h;split at h
 . rename_i l;unfold wGet wOpt at h;unfold isL;cases e:S.get l with
   |none=>rw[e] at h;exact h.elim
   | some o=>
     rw[e] at h;cases o with
     |lst ds=>exact⟨by simp[e],h⟩
     |_=>exact False.elim h
 . exact h.elim
def wMt (S:St)(m:Mt)(x:D)(ds:List D)(Q:D->St->Prop):Prop:=match m,x,ds with
 |.append,.ref l,[y]=>wGet S l fun o=>(match o with|.lst ds=>wWr S l (ds++[y]) .non Q|_=>False)
 |_,_,_=>False
theorem zoJ (h:wMt S m x ds Q):W (mt S m x ds) Q:=by
 unfold wMt at h;split at h
 . rename_i l y;unfold wGet wOpt at h;simp[mt];cases e:S.get l with
   |none=>rw[e] at h;exact h.elim
   |some o=>rw[e] at h;cases o<;>first|exact zoI h|exact h.elim
 . exact h.elim
def wSeq (S:St)(x:D)(k:List D->Prop):Prop:=match x with
 |.tup ds=>k ds
 |.fix ds=>k ds
 |.ref l=>wGet S l fun o=>(match o with|.lst ds=>k ds|_=>False)
 |_=>False
theorem zg3 (h:wSeq S x k):∃ds,zbK S x=some ds/\k ds:=by
 unfold wSeq at h;unfold zbK;split at h
 . exact⟨_,rfl,h⟩
 . exact⟨_,rfl,h⟩
 . rename_i l;unfold wGet wOpt at h;cases e:S.get l with
   |none=>rw[e] at h;exact h.elim
   | some o=>
     rw[e] at h;cases o with
     |lst ds=>exact⟨ds,by simp[e],h⟩
     |ins _ _=>exact False.elim h
     |exc _ _=>exact False.elim h
 . exact h.elim
def wTru (S:St)(x:D)(Q:Bool->Prop):Prop:=match x with
 |.bl b=>Q b
 |.non=>Q false
 |.int i=>Q (i != 0)
 |.tup ds=>Q (!ds.isEmpty)
 |.ref l=>wGet S l fun o=>(match o with|.lst ds=>Q (!ds.isEmpty)|_=>False)
 |_=>False
theorem zmp (h:wTru S x fun k=>Q k S):W (lift S (tru S x)) Q:=by
 unfold wTru at h;unfold tru;split at h
 . exact h
 . exact h
 . exact h
 . exact h
 . rename_i l;unfold wGet wOpt at h;simp only;cases e:S.get l with
   |none=>rw[e] at h;exact h.elim
   |some o=>rw[e] at h;cases o<;>first|exact h|exact h.elim
 . exact h.elim
@[irreducible] def zgj (ls:List Nat)(S:St)(f:St->Out α)(Q:α->St->Prop):Prop:=W (zbB ls S f) Q
theorem zg4 (h:zgj ls S f Q):W (zbB ls S f) Q:=by unfold zgj at h;exact h
theorem zaY (h:W (f {S with lk:=ls++S.lk}) fun a T=>Q a {T with lk:=S.lk}):zgj ls S f Q:=by
 unfold zgj zbB;rw[zaa];exact h
section
variable (cf:CF)
mutual
def wE:CE->Ev->St->(D->St->Prop)->Prop
 |.loc i,δ,S,Q=>(match (δ[i]?).join with|some d=>Q d S|none=>False)
 |.con d,_,S,Q=>Q d S
 |.tst _,_,_,_=>False
 |.bin op a b,δ,S,Q=>wE a δ S fun x S1=>wE b δ S1 fun y S2=>wBin S2 op x y Q
 |.neg a,δ,S,Q=>wE a δ S fun x S1=>(match x with|.int i=>Q (.int (-i)) S1|_=>False)
 |.nt a,δ,S,Q=>wE a δ S fun x S1=>(match x with|.bl b=>Q (.bl (!b)) S1|_=>False)
 |.cmp op a b,δ,S,Q=>wE a δ S fun x S1=>wE b δ S1 fun y S2=>wCmp S2 op x y fun k=>Q (.bl k) S2
 |.cmp2 op op' a b c,δ,S,Q=>wE a δ S fun x S1=>wE b δ S1 fun y S2=>wCmp S2 op x y fun k=>wIf k (wE c δ S2 fun z S4=>wCmp S4 op' y z fun k'=>Q (.bl k') S4) (Q (.bl false) S2)
 |.and a b,δ,S,Q=>wE a δ S fun x S1=>(match x with|.bl k=>wIf k (wE b δ S1 Q) (Q (.bl false) S1)|_=>False)
 |.or a b,δ,S,Q=>wE a δ S fun x S1=>(match x with|.bl k=>wIf k (Q (.bl true) S1) (wE b δ S1 Q)|_=>False)
 |.ite c a b,δ,S,Q=>wT c δ S fun k S1=>wIf k (wE a δ S1 Q) (wE b δ S1 Q)
 |.tup es,δ,S,Q=>wEs es δ S fun ds S1=>zaS (ds.length<=16777216) (Q (.tup ds) S1)
 |.lst es,δ,S,Q=>wEs es δ S fun ds S1=>wLay S1 ds Q
 |.mk c f _ j es,δ,S,Q=>wEs es δ S fun ds S1=>wOut (appW cf f (.ref S1.len::(ds++List.replicate j .non)) (S1.push (.ins c []))) fun d S2=>zaS (zh4 d=true) (Q (.ref S1.len) S2)
 |.mkX c _ f a,δ,S,Q=>wE a δ S fun d S1=>Q (.ref S1.len) (S1.push (.exc c [(f,d)]))
 |.fldX a f,δ,S,Q=>wE a δ S fun x S1=>wOpt (zbM S1 x) fun p=>wOpt (p.2.lookup f) fun d=>Q d S1
 |.iscX cs _ a,δ,S,Q=>wE a δ S fun x S1=>wOpt (zbM S1 x) fun p=>Q (.bl (cs.contains p.1)) S1
 |.ix a b,δ,S,Q=>wE a δ S fun x S1=>wE b δ S1 fun y S2=>wSeq S2 x fun ds=>(match y with|.int i=>wOpt (atI ds i) fun d=>Q d S2|_=>False)
 |.insL o a b,δ,S,Q=>wE o δ S fun x S1=>wIsL S1 x (wE a δ S1 fun y S2=>wE b δ S2 fun z S3=>wOut (zc8 S3 x y z) Q)
 |.sl a ml mh lo hi,δ,S,Q=>wE a δ S fun x S1=>wE lo δ S1 fun y S2=>wE hi δ S2 fun z S3=>(match zby ml y,zby mh z with
  | some l,some h=>(match x with
    |.tup ds=>Q (.tup (cut ds l h)) S3
    |.fix ds=>wLay S3 (cut ds l h) Q
    |.ref p=>wGet S3 p fun o=>(match o with|.lst ds=>wLay S3 (cut ds l h) Q|_=>False)
    |_=>False)
  |_,_=>False)
 |.call f j es,δ,S,Q=>wEs es δ S fun ds S1=>wOut (app cf f (ds++List.replicate j .non) S1) Q
 |.bi b es,δ,S,Q=>wEs es δ S fun ds S1=>wBi S1 b ds Q
 |.mt m o es,δ,S,Q=>wE o δ S fun x S1=>wIsL S1 x (wEs es δ S1 fun ds S2=>wMt S2 m x ds Q)
 |.mkL l,δ,S,Q=>wL l δ S fun r S1=>wLay S1 r.1 Q
 |.mkT l,δ,S,Q=>wL l δ S fun r S1=>zaS (r.1.length<=16777216) (Q (.tup r.1) S1)
 |.all l,δ,S,Q=>wL l δ S fun r S1=>wOpt (allD r.1) fun b=>Q (.bl b) S1
 |.lenset l,δ,S,Q=>wL l δ S fun r S1=>wOpt (zbR r.1) fun is=>zaS (is.length<4000) (Q (.int (dedup is).length) S1)
 |.sset a,δ,S,Q=>wE a δ S fun r S1=>wOpt (lstI S1 r) fun is=>zaS (is.length<64) (wLay S1 ((zcr (dedup is)).map .int) Q)
def wEs:CEs->Ev->St->(List D->St->Prop)->Prop
 |.nil,_,S,Q=>Q [] S
 |.cons e r,δ,S,Q=>wE e δ S fun d S1=>wEs r δ S1 fun ds S2=>Q (d::ds) S2
def wT:CE->Ev->St->(Bool->St->Prop)->Prop
 |.cmp op a b,δ,S,Q=>wE a δ S fun x S1=>wE b δ S1 fun y S2=>wCmp S2 op x y fun k=>Q k S2
 |.cmp2 op op' a b c,δ,S,Q=>wE a δ S fun x S1=>wE b δ S1 fun y S2=>wCmp S2 op x y fun k=>wIf k (wE c δ S2 fun z S4=>wCmp S4 op' y z fun k'=>Q k' S4) (Q false S2)
 |.nt a,δ,S,Q=>wT a δ S fun k S1=>Q (!k) S1
 |.and a b,δ,S,Q=>wT a δ S fun k S1=>wIf k (wT b δ S1 Q) (Q false S1)
 |.or a b,δ,S,Q=>wT a δ S fun k S1=>wIf k (Q true S1) (wT b δ S1 Q)
 |.tst e,δ,S,Q=>wE e δ S fun x S1=>wTru S1 x fun k=>Q k S1
 |_,_,_,_=>False
def wL:CL->Ev->St->(List D × List Nat->St->Prop)->Prop
 |.val e,δ,S,Q=>wE e δ S fun x S1=>wSeq S1 x fun ds=>Q (ds,lkOf S1 x) S1
 |.rng1 a,δ,S,Q=>wE a δ S fun x S1=>(match x with|.int j=>zaS (-(2 ^ 62)<=j/\j<2 ^ 62) (Q ((List.range j.toNat).map fun (k:Nat)=>.int k,[]) S1)|_=>False)
 |.enum a,δ,S,Q=>wE a δ S fun x S1=>wOpt (zcV S1 x) fun r=>Q r S1
 |.comp n js g it c e,δ,S,Q=>wL it δ S fun r S1=>zgj r.2 S1 (fun S2=>za4 g (evT cf c) (evE cf e) r.1 (csl n js δ) S2) fun ds S3=>zaS (ds.length<=16777216) (Q (ds,[]) S3)
end
def wS:CS->Ev->St->(Fl->St->Prop)->Prop
 |.nil,δ,S,Q=>Q (.nx δ) S
 |.stop,_,_,_=>False
 |.asg i e r,δ,S,Q=>wE cf e δ S fun x S1=>wS r (δ.set i (some x)) S1 Q
 |.asgT g e r,δ,S,Q=>wE cf e δ S fun x S1=>wOpt (asgG g x δ) fun δ'=>wS r δ' S1 Q
 |.setIx a b e r,δ,S,Q=>wE cf e δ S fun v S1=>wE cf a δ S1 fun x S2=>wE cf b δ S2 fun y S3=>wOpt (dPut S3 x y v) fun S4=>wS r δ S4 Q
 |.setF a f e r,δ,S,Q=>wE cf e δ S fun v S1=>wE cf a δ S1 fun x S2=>wOpt (zbd S2 x f v) fun S3=>wS r δ S3 Q
 |.ifS c t u r,δ,S,Q=>wT cf c δ S fun k S1=>wIf k (wS t δ S1 fun f S2=>(match f with|.nx δ'=>wS r δ' S2 Q|.rt d=>Q (.rt d) S2|.ex d=>Q (.ex d) S2)) (wS u δ S1 fun f S2=>(match f with|.nx δ'=>wS r δ' S2 Q|.rt d=>Q (.rt d) S2|.ex d=>Q (.ex d) S2))
 |.forS g l b r,δ,S,Q=>wL cf l δ S fun q S1=>zgj q.2 S1 (fun S2=>zbi g (exS cf b) q.1 δ S2) fun f S3=>(match f with|.nx δ'=>wS r δ' S3 Q|.rt d=>Q (.rt d) S3|.ex d=>Q (.ex d) S3)
 |.ret e _,δ,S,Q=>wE cf e δ S fun x S1=>Q (.rt x) S1
 |.expr e r,δ,S,Q=>wE cf e δ S fun _ S1=>wS r δ S1 Q
 |.rais c _ f a,δ,S,Q=>wE cf a δ S fun d S1=>Q (.ex (.ref S1.len)) (S1.push (.exc c [(f,d)]))
 |.tryS b x ie ix r,δ,S,Q=>wOut (exS cf (.tryS b x ie ix r) δ S) Q
 |.blk b r,δ,S,Q=>wOut (exS cf (.blk b r) δ S) Q
end
section
variable {cf:CF}
mutual
theorem wE_W:∀(e:CE) {δ:Ev} {S:St} {Q:D->St->Prop},wE cf e δ S Q->W (evE cf e δ S) Q
 | .loc i,δ,S,Q,h=>by
   simp only[wE] at h;simp only[evE];cases e:(δ[i]?).join with
   |none=>rw[e] at h;exact h.elim
   |some d=>rw[e] at h;exact h
 |.con d,δ,S,Q,h=>by simp only[wE] at h;simp only[evE];exact h
 |.tst _,δ,S,Q,h=>by simp only[wE] at h
 | .bin op a b,δ,S,Q,h=>by
   simp only[wE] at h;simp only[evE,zaa];exact (wE_W a h).mono fun x S1 h1=>(wE_W b h1).mono fun y S2 h2=>zmq h2
 | .neg a,δ,S,Q,h=>by
   simp only[wE] at h;simp only[evE,zaa];refine (wE_W a h).mono fun x S1 h1=>?_;cases x<;>first|exact h1|exact h1.elim
 | .nt a,δ,S,Q,h=>by
   simp only[wE] at h;simp only[evE,zaa];refine (wE_W a h).mono fun x S1 h1=>?_;cases x<;>first|exact h1|exact h1.elim
 | .cmp op a b,δ,S,Q,h=>by
   simp only[wE] at h;simp only[evE,zaa,W_ok];exact (wE_W a h).mono fun x S1 h1=>(wE_W b h1).mono fun y S2 h2=>zfn (Q:=fun k S=>Q (.bl k) S) h2
 | .cmp2 op op' a b c,δ,S,Q,h=>by
   simp only[wE] at h;simp only[evE,zaa];refine (wE_W a h).mono fun x S1 h1=>(wE_W b h1).mono fun y S2 h2=>?_;obtain⟨k,e,hk⟩:=zeM h2;rw[e];unfold wIf at hk;cases k with
   |false=>exact hk
   | true=>
     simp only[if_true,lift,W_ok,zaa] at hk⊢;exact (wE_W c hk).mono fun z S4 h4=>zfn (Q:=fun k S=>Q (.bl k) S) h4
 | .and a b,δ,S,Q,h=>by
   simp only[wE] at h;simp only[evE,zaa];refine (wE_W a h).mono fun x S1 h1=>?_;cases x with
   | bl k=>
     unfold wIf at h1;cases k with
     |false=>exact h1
     |true=>exact wE_W b h1
   |_=>exact h1.elim
 | .or a b,δ,S,Q,h=>by
   simp only[wE] at h;simp only[evE,zaa];refine (wE_W a h).mono fun x S1 h1=>?_;cases x with
   | bl k=>
     unfold wIf at h1;cases k with
     |true=>exact h1
     |false=>exact wE_W b h1
   |_=>exact h1.elim
 | .ite c a b,δ,S,Q,h=>by
   simp only[wE] at h;simp only[evE,zaa];refine (wT_W c h).mono fun k S1 h1=>?_;unfold wIf at h1;cases k with
   |true=>exact wE_W a h1
   |false=>exact wE_W b h1
 | .tup es,δ,S,Q,h=>by
   simp only[wE] at h;simp only[evE,zaa];refine (zdo es h).mono fun ds S1 h1=>?_;unfold zaS at h1;rw[if_pos h1.1];exact h1.2
 | .lst es,δ,S,Q,h=>by
   simp only[wE] at h;simp only[evE,zaa];exact (zdo es h).mono fun ds S1 h1=>zda h1
 | .mk c f _ j es,δ,S,Q,h=>by
   simp only[wE] at h;simp only[evE,zaa];refine (zdo es h).mono fun ds S1 h1=>?_;unfold wOut at h1;refine h1.mono fun d S2 h2=>?_;unfold zaS at h2;rw[if_pos h2.1];exact h2.2
 | .mkX c _ f a,δ,S,Q,h=>by
   simp only[wE] at h;simp only[evE,zaa];exact (wE_W a h).mono fun d S1 h1=>h1
 | .fldX a f,δ,S,Q,h=>by
   simp only[wE] at h;simp only[evE,zaa];refine (wE_W a h).mono fun x S1 h1=>?_;unfold wOpt at h1;cases e:zbM S1 x with
   |none=>rw[e] at h1;exact h1.elim
   | some p=>
     rw[e] at h1;dsimp only at h1;rw[bind_some];cases e2:p.2.lookup f with
     |none=>rw[e2] at h1;exact h1.elim
     |some d=>rw[e2] at h1;exact h1
 | .iscX cs _ a,δ,S,Q,h=>by
   simp only[wE] at h;simp only[evE,zaa];refine (wE_W a h).mono fun x S1 h1=>?_;unfold wOpt at h1;cases e:zbM S1 x with
   |none=>rw[e] at h1;exact h1.elim
   |some p=>rw[e] at h1;exact h1
 | .ix a b,δ,S,Q,h=>by
   simp only[wE] at h;simp only[evE,zaa];refine (wE_W a h).mono fun x S1 h1=>(wE_W b h1).mono fun y S2 h2=>?_;obtain⟨ds,e,h3⟩:=zg3 h2;rw[e];cases y with
   | int i=>
     unfold wOpt at h3;simp only at h3⊢;cases e2:atI ds i with
     |none=>rw[e2] at h3;exact h3.elim
     |some d=>rw[e2] at h3;exact h3
   |_=>exact h3.elim
 | .insL o a b,δ,S,Q,h=>by
   simp only[wE] at h;simp only[evE,zaa];refine (wE_W o h).mono fun x S1 h1=>?_;obtain⟨c,h2⟩:=zg5 h1;rw[if_pos c,zaa];refine (wE_W a h2).mono fun y S2 h3=>?_;rw[zaa];refine (wE_W b h3).mono fun z S3 h4=>?_;unfold wOut at h4;exact h4
 | .sl a ml mh lo hi,δ,S,Q,h=>by
   simp only[wE] at h;simp only[evE,zaa];refine (wE_W a h).mono fun x S1 h1=>(wE_W lo h1).mono fun y S2 h2=>(wE_W hi h2).mono fun z S3 h3=>?_;cases ey:zby ml y with
   |none=>rw[ey] at h3;exact h3.elim
   | some l=>
     cases ez:zby mh z with
     |none=>rw[ey,ez] at h3;exact h3.elim
     | some u=>
       rw[ey,ez] at h3;cases x with
       |tup ds=>exact h3
       |fix ds=>exact zda h3
       | ref p=>
         unfold wGet wOpt at h3;simp only at h3⊢;cases e:S3.get p with
         |none=>rw[e] at h3;exact h3.elim
         |some o=>rw[e] at h3;cases o<;>first|exact zda h3|exact h3.elim
       |_=>exact h3.elim
 | .call f j es,δ,S,Q,h=>by
   simp only[wE] at h;simp only[evE,zaa];refine (zdo es h).mono fun ds S1 h1=>?_;unfold wOut at h1;exact h1
 | .bi b es,δ,S,Q,h=>by
   simp only[wE] at h;simp only[evE,zaa];exact (zdo es h).mono fun ds S1 h1=>zoL h1
 | .mt m o es,δ,S,Q,h=>by
   simp only[wE] at h;simp only[evE,zaa];refine (wE_W o h).mono fun x S1 h1=>?_;obtain⟨c,h2⟩:=zg5 h1;rw[if_pos c,zaa];exact (zdo es h2).mono fun ds S2 h3=>zoJ h3
 | .mkL l,δ,S,Q,h=>by
   simp only[wE] at h;simp only[evE,zaa];exact (wL_W l h).mono fun ds S1 h1=>zda h1
 | .mkT l,δ,S,Q,h=>by
   simp only[wE] at h;simp only[evE,zaa];refine (wL_W l h).mono fun r S1 h1=>?_;unfold zaS at h1;rw[if_pos h1.1];exact h1.2
 | .all l,δ,S,Q,h=>by
   simp only[wE] at h;simp only[evE,zaa];refine (wL_W l h).mono fun r S1 h1=>?_;unfold wOpt at h1;cases e:allD r.1 with
   |none=>rw[e] at h1;exact h1.elim
   |some d=>rw[e] at h1;exact h1
 | .lenset l,δ,S,Q,h=>by
   simp only[wE] at h;simp only[evE,zaa];refine (wL_W l h).mono fun r S1 h1=>?_;unfold wOpt at h1;cases e:zbR r.1 with
   |none=>rw[e] at h1;exact h1.elim
   | some d=>
     rw[e] at h1;unfold zaS at h1;simp only[lift,W_ok];rw[if_pos h1.1];exact h1.2
 | .sset a,δ,S,Q,h=>by
   simp only[wE] at h;simp only[evE,zaa];refine (wE_W a h).mono fun r S1 h1=>?_;unfold wOpt at h1;cases e:lstI S1 r with
   |none=>rw[e] at h1;exact h1.elim
   | some d=>
     rw[e] at h1;unfold zaS at h1;simp only[lift,W_ok];rw[if_pos h1.1];exact zda h1.2
theorem zdo:∀(es:CEs) {δ:Ev} {S:St} {Q:List D->St->Prop},wEs cf es δ S Q->W (evEs cf es δ S) Q
 |.nil,δ,S,Q,h=>by simp only[wEs] at h;simp only[evEs];exact h
 | .cons e r,δ,S,Q,h=>by
   simp only[wEs] at h;simp only[evEs,zaa];exact (wE_W e h).mono fun d S1 h1=>(zdo r h1).mono fun ds S2 h2=>h2
theorem wT_W:∀(e:CE) {δ:Ev} {S:St} {Q:Bool->St->Prop},wT cf e δ S Q->W (evT cf e δ S) Q
 | .cmp op a b,δ,S,Q,h=>by
   simp only[wT] at h;simp only[evT,zaa];exact (wE_W a h).mono fun x S1 h1=>(wE_W b h1).mono fun y S2 h2=>zfn h2
 | .cmp2 op op' a b c,δ,S,Q,h=>by
   simp only[wT] at h;simp only[evT,zaa];refine (wE_W a h).mono fun x S1 h1=>(wE_W b h1).mono fun y S2 h2=>?_;obtain⟨k,e,hk⟩:=zeM h2;rw[e];unfold wIf at hk;cases k with
   |false=>exact hk
   | true=>
     simp only[if_true,lift,W_ok,zaa] at hk⊢;exact (wE_W c hk).mono fun z S4 h4=>zfn h4
 | .nt a,δ,S,Q,h=>by
   simp only[wT] at h;simp only[evT,zaa];exact (wT_W a h).mono fun k S1 h1=>h1
 | .and a b,δ,S,Q,h=>by
   simp only[wT] at h;simp only[evT,zaa];refine (wT_W a h).mono fun k S1 h1=>?_;unfold wIf at h1;cases k with
   |false=>exact h1
   |true=>exact wT_W b h1
 | .or a b,δ,S,Q,h=>by
   simp only[wT] at h;simp only[evT,zaa];refine (wT_W a h).mono fun k S1 h1=>?_;unfold wIf at h1;cases k with
   |true=>exact h1
   |false=>exact wT_W b h1
 | .tst e,δ,S,Q,h=>by
   simp only[wT] at h;simp only[evT,zaa];exact (wE_W e h).mono fun x S1 h1=>zmp h1
 |.loc i,δ,S,Q,h=>by simp only[wT] at h
 |.con d,δ,S,Q,h=>by simp only[wT] at h
 |.bin op a b,δ,S,Q,h=>by simp only[wT] at h
 |.neg a,δ,S,Q,h=>by simp only[wT] at h
 |.ite c a b,δ,S,Q,h=>by simp only[wT] at h
 |.tup es,δ,S,Q,h=>by simp only[wT] at h
 |.lst es,δ,S,Q,h=>by simp only[wT] at h
 |.mk c f x j es,δ,S,Q,h=>by simp only[wT] at h
 |.mkX c x f a,δ,S,Q,h=>by simp only[wT] at h
 |.fldX a f,δ,S,Q,h=>by simp only[wT] at h
 |.iscX cs x a,δ,S,Q,h=>by simp only[wT] at h
 |.ix a b,δ,S,Q,h=>by simp only[wT] at h
 |.insL o a b,δ,S,Q,h=>by simp only[wT] at h
 |.sl a ml mh lo hi,δ,S,Q,h=>by simp only[wT] at h
 |.call f j es,δ,S,Q,h=>by simp only[wT] at h
 |.bi b es,δ,S,Q,h=>by simp only[wT] at h
 |.mt m o es,δ,S,Q,h=>by simp only[wT] at h
 |.mkL l,δ,S,Q,h=>by simp only[wT] at h
 |.mkT l,δ,S,Q,h=>by simp only[wT] at h
 |.all l,δ,S,Q,h=>by simp only[wT] at h
 |.lenset l,δ,S,Q,h=>by simp only[wT] at h
 |.sset a,δ,S,Q,h=>by simp only[wT] at h
theorem wL_W:∀(l:CL) {δ:Ev} {S:St} {Q:List D × List Nat->St->Prop},wL cf l δ S Q->W (evL cf l δ S) Q
 | .val e,δ,S,Q,h=>by
   simp only[wL] at h;simp only[evL,zaa];refine (wE_W e h).mono fun x S1 h1=>?_;obtain⟨ds,e,h2⟩:=zg3 h1;rw[e];exact h2
 | .rng1 a,δ,S,Q,h=>by
   simp only[wL] at h;simp only[evL,zaa];refine (wE_W a h).mono fun x S1 h1=>?_;cases x with
   | int j=>
     unfold zaS at h1;simp only;rw[if_pos h1.1];exact h1.2
   |_=>exact h1.elim
 | .enum a,δ,S,Q,h=>by
   simp only[wL] at h;simp only[evL,zaa];refine (wE_W a h).mono fun x S1 h1=>?_;unfold wOpt at h1;cases e:zcV S1 x with
   |none=>rw[e] at h1;exact h1.elim
   |some r=>rw[e] at h1;exact h1
 | .comp n js g it c e,δ,S,Q,h=>by
   simp only[wL] at h;simp only[evL,zaa];refine (wL_W it h).mono fun r S1 h1=>(zg4 h1).mono fun ds S3 h3=>?_;unfold zaS at h3;rw[if_pos h3.1];exact h3.2
end
theorem wS_W:∀(s:CS) {δ:Ev} {S:St} {Q:Fl->St->Prop},wS cf s δ S Q->W (exS cf s δ S) Q
 |.nil,δ,S,Q,h=>by simp[wS] at h;simp[exS];exact h
 |.stop,δ,S,Q,h=>by simp[wS] at h
 | .asg i e r,δ,S,Q,h=>by
   simp[wS] at h;simp[exS,zaa];exact (wE_W e h).mono fun x S1 h1=>wS_W r h1
 | .asgT g e r,δ,S,Q,h=>by
   simp[wS] at h;simp[exS,zaa];refine (wE_W e h).mono fun x S1 h1=>?_;unfold wOpt at h1;cases e:asgG g x δ with
   |none=>rw[e] at h1;exact h1.elim
   |some d=>rw[e] at h1;exact wS_W r h1
 | .setIx a b e r,δ,S,Q,h=>by
   simp[wS] at h;simp[exS,zaa];refine (wE_W e h).mono fun v S1 h1=>(wE_W a h1).mono fun x S2 h2=>(wE_W b h2).mono fun y S3 h3=>?_;unfold wOpt at h3;cases e:dPut S3 x y v with
   |none=>rw[e] at h3;exact h3.elim
   |some S4=>rw[e] at h3;exact wS_W r h3
 | .setF a f e r,δ,S,Q,h=>by
   simp[wS] at h;simp[exS,zaa];refine (wE_W e h).mono fun v S1 h1=>(wE_W a h1).mono fun x S2 h2=>?_;unfold wOpt at h2;cases e:zbd S2 x f v with
   |none=>rw[e] at h2;exact h2.elim
   |some S3=>rw[e] at h2;exact wS_W r h2
 | .ifS c t u r,δ,S,Q,h=>by
   simp[wS] at h;simp[exS,zaa];refine (wT_W c h).mono fun k S1 h1=>?_;unfold wIf at h1;have nx:∀(f:Fl) (S2:St),(match f with|.nx δ'=>wS cf r δ' S2 Q|.rt d=>Q (.rt d) S2|.ex d=>Q (.ex d) S2)->W (match f with|.nx δ'=>exS cf r δ' S2|.rt d=>.ok (.rt d) S2|.ex d=>.ok (.ex d) S2) Q:=fun f S2 q=>by
    cases f with
    |nx δ'=>exact wS_W r q
    |rt d=>exact q
    |ex d=>exact q
   cases k with
   |true=>exact (wS_W t h1).mono nx
   |false=>exact (wS_W u h1).mono nx
 | .forS g l b r,δ,S,Q,h=>by
   simp[exS,zaa];refine (wL_W l h).mono fun q S1 h1=>(zg4 h1).mono fun f S2 q=>?_;cases f with
   |nx δ'=>exact wS_W r q
   |rt d=>exact q
   |ex d=>exact q
 | .ret e r,δ,S,Q,h=>by
   simp[exS,zaa];exact (wE_W e h).mono fun x S1 h1=>h1
 | .expr e r,δ,S,Q,h=>by
   simp[exS,zaa];exact (wE_W e h).mono fun x S1 h1=>wS_W r h1
 | .rais c x f a,δ,S,Q,h=>by
   simp[exS,zaa];exact (wE_W a h).mono fun d S1 h1=>h1
 | .tryS b x ie ix r,δ,S,Q,h=>by
   simp[wS] at h;unfold wOut at h;exact h
 | .blk b r,δ,S,Q,h=>by
   simp[wS] at h;unfold wOut at h;exact h
@[irreducible] def wFin (S:St)(r:Fl)(T:St)(Q:D->St->Prop):Prop:=W (fin S r T) Q
theorem zfl (h:P[f]?=some F)(hl:ds.length=F.np)(w:wS (callF P n) F.body (zap F ds) S.enter fun r T=>wFin S r T Q)(hp:F.prim=none:=by rfl) :
  W (app (callF P (n+1)) f ds S) Q:=by
 rw[zkD h hl hp,zaa,W_ne];refine (wS_W _ w).mono fun r T q=>?_;unfold wFin at q;exact q
theorem zcq (h:P[f]?=some F)(hl:ds.length=F.np)(w:wS (callF P n) F.body (zap F ds) S.enter fun r T=>wFin S r T fun a T'=>a=d/\T'=S')(hp:F.prim=none:=by rfl) :
 app (callF P (n+1)) f ds S=.ok d S':=W.eq (zfl h hl w hp)
theorem zoj (h:P[f]?=some F)(hl:ds.length=F.np)(w:wS (callF P n) F.body (zap F ds) S fun r T=>match r with|.nx _=>Q .non T|.rt d=>Q d T|.ex _=>False)(hp:F.prim=none:=by rfl) :
  W (callF P (n+1) f ds S) Q:=by
 simp[callF,h,hl,hp,if_true,zaa,W_ne];refine (wS_W _ w).mono fun r T q=>?_;cases r<;>exact q
theorem zac (h:flat S.len d=true)(q:Q d S):wFin S (.rt d) T Q:=by
 unfold wFin;rw[zf2,zdi S d T h];exact q
theorem zg6 (hl:S.len<=l)(hg:T.get l=some (.lst ds))(h:flats S.len ds=true)(q:Q (.ref S.len) (S.push (.lst ds))):wFin S (.rt (.ref l)) T Q:=by
 have h0:flat S.len (.ref l)=false:=by simp[flat];omega
 unfold wFin;rw[zf2];unfold zaZ;simp[h0,hg,h];exact q
end
end R
end
section
namespace R
open PySem (Str PyData Operator CmpOp)
structure Frm (S S':St):Prop where
 frz:S'.frz=S.frz
 lk:S'.lk=S.lk
 len:S.new.length<=S'.new.length
 same:∀l∈S.lk,l<S.len->S'.get l=S.get l
theorem Frm.refl (S:St):Frm S S:=⟨rfl,rfl,le_refl _,fun _ _ _=>rfl⟩
theorem Frm.lens (h:Frm S S'):S.len<=S'.len:=by unfold St.len;rw[h.frz];have:=h.len;omega
theorem Frm.trans (a:Frm S S1)(b:Frm S1 S2):Frm S S2:=
 ⟨b.frz.trans a.frz,b.lk.trans a.lk,le_trans a.len b.len,fun l hl h=>(b.same l (by rw[a.lk];exact hl) (lt_of_lt_of_le h a.lens)).trans (a.same l hl h)⟩
theorem Frm.push (S:St)(o:MO):Frm S (S.push o):=by
 refine⟨rfl,rfl,by simp[St.push],fun l _ h=>?_⟩;unfold St.len at h;unfold St.get St.push;simp only;split
 . rfl
 . rw[getElem?_append_left (by omega)]
theorem Frm.put (h:S.put l o=some S'):Frm S S':=by
 unfold St.put at h;split at h
 . cases h
 . split at h
   . cases h
   . rename_i h1 h2;injection h with h;subst h;refine⟨rfl,rfl,by simp,fun m hm hl=>?_⟩;have hne:m≠l:=fun e=>by subst e;exact h2 (by simpa using hm)
     unfold St.get;simp only;split
     . rfl
     . rw[getElem?_set_ne (by omega)]
abbrev WF (S:St)(o:Out α)(Q:α->St->Prop):Prop:=W o fun a S'=>Q a S'/\Frm S S'
theorem WF.bind {f:α->St->Out β}(h:WF S o fun a S1=>W (f a S1) Q)(hf:∀a S1,W (f a S1) Q->WF S1 (f a S1) Q):WF S (o.bind f) Q:=by
 rw[WF,zaa];exact h.mono fun a S1 ⟨q,f1⟩=>(hf a S1 q).mono fun b S2 ⟨q2,f2⟩=>⟨q2,f1.trans f2⟩
theorem zgG (h:W (lay S ds) Q):WF S (lay S ds) Q:=by
 unfold lay at h⊢;split
 . rename_i c;rw[if_pos c] at h;exact⟨h,Frm.push _ _⟩
 . rename_i c;rw[if_neg c] at h;exact h.elim
theorem wr_F (h:W (wr S l ds d) Q):WF S (wr S l ds d) Q:=by
 unfold wr at h⊢;split
 . rename_i c;rw[if_pos c] at h;cases e:S.put l (.lst ds) with
   |none=>rw[e] at h;exact h.elim
   |some S'=>rw[e] at h;exact⟨h,Frm.put e⟩
 . rename_i c;rw[if_neg c] at h;exact h.elim
theorem zaU (h:W (lift S o) Q):WF S (lift S o) Q:=by
 cases o with
 |none=>exact h.elim
 |some a=>exact⟨h,Frm.refl S⟩
theorem zon (h:W (binD S op x y) Q):WF S (binD S op x y) Q:=by
 unfold binD at h⊢;split
 . unfold binI at h⊢;cases op<;>dsimp only at h⊢<;> first
    |exact⟨h,Frm.refl S⟩
    |exact h.elim
    | (split at h
       . rename_i c;rw[if_pos c];exact⟨h,Frm.refl S⟩
       . exact h.elim)
 . dsimp only at h;cases op<;>dsimp only at h⊢<;> first
    |exact False.elim h
    | (split at h
       . rename_i c;rw[if_pos c];exact⟨h,Frm.refl S⟩
       . exact False.elim h)
 . dsimp only at h;split at h
   . exact zgG h
   . exact False.elim h
 . rename_i h1 h2 h3;split at h
   . exact (h1 _ _ rfl rfl).elim
   . exact (h2 _ _ rfl rfl).elim
   . exact (h3 _ _ rfl rfl).elim
   . exact False.elim h
theorem bi_F (h:W (bi S b ds) Q):WF S (bi S b ds) Q:=by
 unfold bi at h⊢;split
 . rename_i x;cases x with
   |tup ds=>exact⟨h,Frm.refl S⟩
   |fix ds=>exact⟨h,Frm.refl S⟩
   | ref l=>
     dsimp only at h⊢;cases e:S.get l with
     |none=>rw[e] at h;exact False.elim h
     |some o=>rw[e] at h;cases o<;>first|exact⟨h,Frm.refl S⟩|exact False.elim h
   |_=>exact False.elim h
 . exact⟨h,Frm.refl S⟩
 . dsimp only at h;split at h
   . exact⟨h,Frm.refl S⟩
   . exact False.elim h
 . exact False.elim (by simpa using h)
theorem mt_F (h:W (mt S m x ds) Q):WF S (mt S m x ds) Q:=by
 unfold mt at h⊢;split
 . dsimp only at h;split at h
   . exact wr_F h
   . exact False.elim h
 . exact False.elim (by simpa using h)
theorem zlP (h:W (zc8 S x y z) Q):WF S (zc8 S x y z) Q:=by
 unfold zc8 at h⊢;split
 . dsimp only at h;split at h
   . split at h
     . rename_i c;rw[if_pos c];exact wr_F h
     . exact False.elim h
   . exact False.elim h
 . exact False.elim (by simpa using h)
theorem Frm.keep (S T:St):Frm S ⟨S.frz,S.new++T.new,S.lk⟩:=by
 refine⟨rfl,rfl,by simp,fun l _ h=>?_⟩;unfold St.len at h;unfold St.get;simp only;split
 . rfl
 . rw[getElem?_append_left (by omega)]
theorem zfx (h:zbd S x f v=some S'):Frm S S':=by
 unfold zbd at h;split at h
 . split at h
   . split at h
     . exact Frm.put h
     . cases h
   . cases h
 . cases h
theorem zoh (h:dPut S x y v=some S'):Frm S S':=by
 unfold dPut at h;split at h
 . split at h
   . cases e:zdR y with
     |none=>rw[e] at h;cases h
     | some k=>
       rw[e,bind_some] at h;rename_i ds _;cases e2:ixN ds.length k with
       |none=>rw[e2] at h;cases h
       |some j=>rw[e2,bind_some] at h;exact Frm.put h
   . cases h
 . cases h
theorem zhY (h:W (zaZ S d T) Q):WF S (zaZ S d T) Q:=by
 unfold zaZ at h⊢;split
 . rename_i c;rw[if_pos c] at h;exact⟨h,Frm.refl S⟩
 . rename_i c;rw[if_neg c] at h;split at h
   . split at h
     . split at h
       . rename_i c;rw[if_pos c];exact⟨h,Frm.push _ _⟩
       . rename_i c;rw[if_neg c];exact⟨h,Frm.keep _ _⟩
     . exact⟨h,Frm.keep _ _⟩
   . exact⟨h,Frm.keep _ _⟩
theorem zpA (h:W (app cf f ds S) Q):WF S (app cf f ds S) Q:=by
 unfold app at h⊢;cases e:cf f ds S.enter with
 |ok d T=>rw[e] at h;exact zhY h
 |err d T=>rw[e] at h;exact h.elim
 |bad=>rw[e] at h;exact h.elim
theorem Frm.unlock (h:Frm {S with lk:=ls++S.lk} T):Frm S {T with lk:=S.lk}:=
 ⟨h.frz,rfl,h.len,fun l hl hn=>h.same l (mem_append_right _ hl) hn⟩
theorem zfO (h:W (zbB ls S f) Q)(hf:∀Q',W (f {S with lk:=ls++S.lk}) Q'->WF {S with lk:=ls++S.lk} (f {S with lk:=ls++S.lk}) Q'):WF S (zbB ls S f) Q:=by
 unfold zbB at h⊢;rw[zaa] at h;rw[WF,zaa];exact (hf _ h).mono fun a T ⟨q,fr⟩=>⟨q,fr.unlock⟩
theorem zdq (hc:∀δ S Q,W (c δ S) Q->WF S (c δ S) Q)(he:∀δ S Q,W (e δ S) Q->WF S (e δ S) Q) :
  ∀(xs:List D) (δ:Ev) (S:St) (Q:List D->St->Prop),W (za4 g c e xs δ S) Q->WF S (za4 g c e xs δ S) Q
 | [],δ,S,Q,h=>⟨h,Frm.refl S⟩
 | x::xs,δ,S,Q,h=>by
   simp[za4] at h⊢;cases ea:asgG g x δ with
   |none=>rw[ea] at h;exact h.elim
   | some δ'=>
     rw[ea] at h;rw[zaa] at h;refine WF.bind (hc _ _ _ h) fun b S1 h1=>?_;cases b with
     | false=>
       exact zdq hc he xs δ' S1 Q h1
     | true=>
       simp only[if_true] at h1⊢;rw[zaa] at h1;refine WF.bind (he _ _ _ h1) fun d S2 h2=>?_;rw[zaa] at h2;exact WF.bind (zdq hc he xs δ' S2 _ h2) fun ds S3 h3=>⟨h3,Frm.refl _⟩
theorem zfp (hb:∀δ S Q,W (b δ S) Q->WF S (b δ S) Q) :
  ∀(xs:List D) (δ:Ev) (S:St) (Q:Fl->St->Prop),W (zbi g b xs δ S) Q->WF S (zbi g b xs δ S) Q
 | [],δ,S,Q,h=>⟨h,Frm.refl S⟩
 | x::xs,δ,S,Q,h=>by
   simp[zbi] at h⊢;cases ea:asgG g x δ with
   |none=>rw[ea] at h;exact h.elim
   | some δ'=>
     rw[ea] at h;rw[zaa] at h;refine WF.bind (hb _ _ _ h) fun f S1 h1=>?_;cases f with
     |nx δ2=>exact zfp hb xs δ2 S1 Q h1
     |rt d=>exact⟨h1,Frm.refl _⟩
     |ex d=>exact⟨h1,Frm.refl _⟩
def CFok (cf:CF):Prop:=∀f ds S d T,(cf f ds S=.ok d T\/cf f ds S=.err d T)->Frm S T
theorem appW_F (hcf:CFok cf)(h:W (appW cf f ds S) Q):WF S (appW cf f ds S) Q:=by
 unfold appW at h⊢;cases e:cf f ds S with
 |ok d T=>rw[e] at h;exact⟨h,hcf f ds S d T (.inl e)⟩
 |err d T=>rw[e] at h;exact h.elim
 |bad=>rw[e] at h;exact h.elim
section
variable {cf:CF} (hcf:CFok cf)
include hcf
mutual
theorem zar:∀(e:CE) (δ:Ev) (S:St) (Q:D->St->Prop),W (evE cf e δ S) Q->WF S (evE cf e δ S) Q
 |.loc i,δ,S,Q,h=>by simp only[evE] at h⊢;exact zaU h
 |.con d,δ,S,Q,h=>by simp only[evE] at h⊢;exact⟨h,Frm.refl S⟩
 |.tst _,δ,S,Q,h=>by simp only[evE] at h;exact h.elim
 | .bin op a b,δ,S,Q,h=>by
   simp only[evE] at h⊢;rw[zaa] at h;refine WF.bind (zar a δ S _ h) fun x S1 h1=>?_;rw[zaa] at h1;exact WF.bind (zar b δ S1 _ h1) fun y S2 h2=>zon h2
 | .neg a,δ,S,Q,h=>by
   simp only[evE] at h⊢;rw[zaa] at h;refine WF.bind (zar a δ S _ h) fun x S1 h1=>?_;cases x<;>first|exact⟨h1,Frm.refl _⟩|exact h1.elim
 | .nt a,δ,S,Q,h=>by
   simp only[evE] at h⊢;rw[zaa] at h;refine WF.bind (zar a δ S _ h) fun x S1 h1=>?_;cases x<;>first|exact⟨h1,Frm.refl _⟩|exact h1.elim
 | .cmp op a b,δ,S,Q,h=>by
   simp only[evE] at h⊢;rw[zaa] at h;refine WF.bind (zar a δ S _ h) fun x S1 h1=>?_;rw[zaa] at h1;refine WF.bind (zar b δ S1 _ h1) fun y S2 h2=>?_;rw[zaa] at h2;exact WF.bind (zaU h2) fun k S3 h3=>⟨h3,Frm.refl _⟩
 | .cmp2 op op' a b c,δ,S,Q,h=>by
   simp only[evE] at h⊢;rw[zaa] at h;refine WF.bind (zar a δ S _ h) fun x S1 h1=>?_;rw[zaa] at h1;refine WF.bind (zar b δ S1 _ h1) fun y S2 h2=>?_;rw[zaa] at h2;refine WF.bind (zaU h2) fun k S3 h3=>?_;cases k with
   |false=>exact⟨h3,Frm.refl _⟩
   | true=>
     simp only[if_true] at h3⊢;rw[zaa] at h3;refine WF.bind (zar c δ S3 _ h3) fun z S4 h4=>?_;rw[zaa] at h4;exact WF.bind (zaU h4) fun k S3 h3=>⟨h3,Frm.refl _⟩
 | .and a b,δ,S,Q,h=>by
   simp only[evE] at h⊢;rw[zaa] at h;refine WF.bind (zar a δ S _ h) fun x S1 h1=>?_;cases x with
   | bl k=>
     cases k with
     |false=>exact⟨h1,Frm.refl _⟩
     |true=>exact zar b δ S1 Q h1
   |_=>exact h1.elim
 | .or a b,δ,S,Q,h=>by
   simp only[evE] at h⊢;rw[zaa] at h;refine WF.bind (zar a δ S _ h) fun x S1 h1=>?_;cases x with
   | bl k=>
     cases k with
     |true=>exact⟨h1,Frm.refl _⟩
     |false=>exact zar b δ S1 Q h1
   |_=>exact h1.elim
 | .ite c a b,δ,S,Q,h=>by
   simp only[evE] at h⊢;rw[zaa] at h;refine WF.bind (zc9 c δ S _ h) fun k S1 h1=>?_;cases k with
   |true=>exact zar a δ S1 Q h1
   |false=>exact zar b δ S1 Q h1
 | .tup es,δ,S,Q,h=>by
   simp only[evE] at h⊢;rw[zaa] at h;refine WF.bind (zbu es δ S _ h) fun ds S1 h1=>?_;split at h1
   . rename_i c;rw[if_pos c];exact⟨h1,Frm.refl _⟩
   . exact h1.elim
 | .lst es,δ,S,Q,h=>by
   simp only[evE] at h⊢;rw[zaa] at h;exact WF.bind (zbu es δ S _ h) fun ds S1 h1=>zgG h1
 | .mk c f _ j es,δ,S,Q,h=>by
   simp only[evE] at h⊢;rw[zaa] at h;refine WF.bind (zbu es δ S _ h) fun ds S1 h1=>?_;rw[zaa] at h1;have h2:=(appW_F hcf h1:WF (S1.push (.ins c [])) _ _);refine WF.bind (h2.mono fun d T q=>⟨q.1,(Frm.push S1 _).trans q.2⟩) fun d S2 h3=>?_;split at h3
   . rename_i c;rw[if_pos c];exact⟨h3,Frm.refl _⟩
   . exact h3.elim
 | .mkX c _ f a,δ,S,Q,h=>by
   simp only[evE] at h⊢;rw[zaa] at h;exact WF.bind (zar a δ S _ h) fun d S1 h1=>⟨h1,Frm.push _ _⟩
 | .fldX a f,δ,S,Q,h=>by
   simp only[evE] at h⊢;rw[zaa] at h;exact WF.bind (zar a δ S _ h) fun x S1 h1=>zaU h1
 | .iscX cs _ a,δ,S,Q,h=>by
   simp only[evE] at h⊢;rw[zaa] at h;refine WF.bind (zar a δ S _ h) fun x S1 h1=>?_;rw[zaa] at h1;exact WF.bind (zaU h1) fun p S2 h2=>⟨h2,Frm.refl _⟩
 | .ix a b,δ,S,Q,h=>by
   simp only[evE] at h⊢;rw[zaa] at h;refine WF.bind (zar a δ S _ h) fun x S1 h1=>?_;rw[zaa] at h1;refine WF.bind (zar b δ S1 _ h1) fun y S2 h2=>?_;split at h2
   . exact zaU h2
   . exact h2.elim
 | .insL o a b,δ,S,Q,h=>by
   simp only[evE] at h⊢;rw[zaa] at h;refine WF.bind (zar o δ S _ h) fun x S1 h1=>?_;split at h1
   . rename_i c;rw[if_pos c];rw[zaa] at h1;refine WF.bind (zar a δ S1 _ h1) fun y S2 h2=>?_;rw[zaa] at h2;exact WF.bind (zar b δ S2 _ h2) fun z S3 h3=>zlP h3
   . exact h1.elim
 | .sl a ml mh lo hi,δ,S,Q,h=>by
   simp only[evE] at h⊢;rw[zaa] at h;refine WF.bind (zar a δ S _ h) fun x S1 h1=>?_;rw[zaa] at h1;refine WF.bind (zar lo δ S1 _ h1) fun y S2 h2=>?_;rw[zaa] at h2;refine WF.bind (zar hi δ S2 _ h2) fun z S3 h3=>?_;split at h3
   . split at h3
     . exact⟨h3,Frm.refl _⟩
     . exact zgG h3
     . split at h3
       . exact zgG h3
       . exact h3.elim
     . exact h3.elim
   . exact h3.elim
 | .call f j es,δ,S,Q,h=>by
   simp only[evE] at h⊢;rw[zaa] at h;exact WF.bind (zbu es δ S _ h) fun ds S1 h1=>zpA h1
 | .bi b es,δ,S,Q,h=>by
   simp only[evE] at h⊢;rw[zaa] at h;exact WF.bind (zbu es δ S _ h) fun ds S1 h1=>bi_F h1
 | .mt m o es,δ,S,Q,h=>by
   simp only[evE] at h⊢;rw[zaa] at h;refine WF.bind (zar o δ S _ h) fun x S1 h1=>?_;split at h1
   . rename_i c;rw[if_pos c];rw[zaa] at h1;exact WF.bind (zbu es δ S1 _ h1) fun ds S2 h2=>mt_F h2
   . exact h1.elim
 | .mkL l,δ,S,Q,h=>by
   simp only[evE] at h⊢;rw[zaa] at h;exact WF.bind (zfd l δ S _ h) fun r S1 h1=>zgG h1
 | .mkT l,δ,S,Q,h=>by
   simp only[evE] at h⊢;rw[zaa] at h;refine WF.bind (zfd l δ S _ h) fun r S1 h1=>?_;split at h1
   . rename_i c;rw[if_pos c];exact⟨h1,Frm.refl _⟩
   . exact h1.elim
 | .all l,δ,S,Q,h=>by
   simp only[evE] at h⊢;rw[zaa] at h;refine WF.bind (zfd l δ S _ h) fun r S1 h1=>?_;rw[zaa] at h1;exact WF.bind (zaU h1) fun k S3 h3=>⟨h3,Frm.refl _⟩
 | .lenset l,δ,S,Q,h=>by
   simp only[evE] at h⊢;rw[zaa] at h;refine WF.bind (zfd l δ S _ h) fun r S1 h1=>?_;rw[zaa] at h1;refine WF.bind (zaU h1) fun k S3 h3=>?_;split at h3
   . rename_i c;rw[if_pos c];exact⟨h3,Frm.refl _⟩
   . exact h3.elim
 | .sset a,δ,S,Q,h=>by
   simp only[evE] at h⊢;rw[zaa] at h;refine WF.bind (zar a δ S _ h) fun r S1 h1=>?_;rw[zaa] at h1;refine WF.bind (zaU h1) fun k S3 h3=>?_;split at h3
   . rename_i c;rw[if_pos c];exact zgG h3
   . exact h3.elim
theorem zbu:∀(es:CEs) (δ:Ev) (S:St) (Q:List D->St->Prop),W (evEs cf es δ S) Q->WF S (evEs cf es δ S) Q
 |.nil,δ,S,Q,h=>by simp only[evEs] at h⊢;exact⟨h,Frm.refl S⟩
 | .cons e r,δ,S,Q,h=>by
   simp only[evEs] at h⊢;rw[zaa] at h;refine WF.bind (zar e δ S _ h) fun x S1 h1=>?_;rw[zaa] at h1;exact WF.bind (zbu r δ S1 _ h1) fun k S3 h3=>⟨h3,Frm.refl _⟩
theorem zc9:∀(e:CE) (δ:Ev) (S:St) (Q:Bool->St->Prop),W (evT cf e δ S) Q->WF S (evT cf e δ S) Q
 | .cmp op a b,δ,S,Q,h=>by
   simp only[evT] at h⊢;rw[zaa] at h;refine WF.bind (zar a δ S _ h) fun x S1 h1=>?_;rw[zaa] at h1;exact WF.bind (zar b δ S1 _ h1) fun y S2 h2=>zaU h2
 | .cmp2 op op' a b c,δ,S,Q,h=>by
   simp only[evT] at h⊢;rw[zaa] at h;refine WF.bind (zar a δ S _ h) fun x S1 h1=>?_;rw[zaa] at h1;refine WF.bind (zar b δ S1 _ h1) fun y S2 h2=>?_;rw[zaa] at h2;refine WF.bind (zaU h2) fun k S3 h3=>?_;cases k with
   |false=>exact⟨h3,Frm.refl _⟩
   | true=>
     simp only[if_true] at h3⊢;rw[zaa] at h3;exact WF.bind (zar c δ S3 _ h3) fun z S4 h4=>zaU h4
 | .nt a,δ,S,Q,h=>by
   simp only[evT] at h⊢;rw[zaa] at h;exact WF.bind (zc9 a δ S _ h) fun k S3 h3=>⟨h3,Frm.refl _⟩
 | .and a b,δ,S,Q,h=>by
   simp only[evT] at h⊢;rw[zaa] at h;refine WF.bind (zc9 a δ S _ h) fun k S1 h1=>?_;cases k with
   |false=>exact⟨h1,Frm.refl _⟩
   |true=>exact zc9 b δ S1 Q h1
 | .or a b,δ,S,Q,h=>by
   simp only[evT] at h⊢;rw[zaa] at h;refine WF.bind (zc9 a δ S _ h) fun k S1 h1=>?_;cases k with
   |true=>exact⟨h1,Frm.refl _⟩
   |false=>exact zc9 b δ S1 Q h1
 | .tst e,δ,S,Q,h=>by
   simp only[evT] at h⊢;rw[zaa] at h;exact WF.bind (zar e δ S _ h) fun k S3 h3=>zaU h3
 |.loc i,δ,S,Q,h=>by simp only[evT] at h;exact h.elim
 |.con d,δ,S,Q,h=>by simp only[evT] at h;exact h.elim
 |.bin op a b,δ,S,Q,h=>by simp only[evT] at h;exact h.elim
 |.neg a,δ,S,Q,h=>by simp only[evT] at h;exact h.elim
 |.ite c a b,δ,S,Q,h=>by simp only[evT] at h;exact h.elim
 |.tup es,δ,S,Q,h=>by simp only[evT] at h;exact h.elim
 |.lst es,δ,S,Q,h=>by simp only[evT] at h;exact h.elim
 |.mk c f x j es,δ,S,Q,h=>by simp only[evT] at h;exact h.elim
 |.mkX c x f a,δ,S,Q,h=>by simp only[evT] at h;exact h.elim
 |.fldX a f,δ,S,Q,h=>by simp only[evT] at h;exact h.elim
 |.iscX cs x a,δ,S,Q,h=>by simp only[evT] at h;exact h.elim
 |.ix a b,δ,S,Q,h=>by simp only[evT] at h;exact h.elim
 |.insL o a b,δ,S,Q,h=>by simp only[evT] at h;exact h.elim
 |.sl a ml mh lo hi,δ,S,Q,h=>by simp only[evT] at h;exact h.elim
 |.call f j es,δ,S,Q,h=>by simp only[evT] at h;exact h.elim
 |.bi b es,δ,S,Q,h=>by simp only[evT] at h;exact h.elim
 |.mt m o es,δ,S,Q,h=>by simp only[evT] at h;exact h.elim
 |.mkL l,δ,S,Q,h=>by simp only[evT] at h;exact h.elim
 |.mkT l,δ,S,Q,h=>by simp only[evT] at h;exact h.elim
 |.all l,δ,S,Q,h=>by simp only[evT] at h;exact h.elim
 |.lenset l,δ,S,Q,h=>by simp only[evT] at h;exact h.elim
 |.sset a,δ,S,Q,h=>by simp only[evT] at h;exact h.elim
theorem zfd:∀(l:CL) (δ:Ev) (S:St) (Q:List D × List Nat->St->Prop),W (evL cf l δ S) Q->WF S (evL cf l δ S) Q
 | .val e,δ,S,Q,h=>by
   simp only[evL] at h⊢;rw[zaa] at h;refine WF.bind (zar e δ S _ h) fun x S1 h1=>?_;rw[zaa] at h1;exact WF.bind (zaU h1) fun k S3 h3=>⟨h3,Frm.refl _⟩
 | .rng1 a,δ,S,Q,h=>by
   simp only[evL] at h⊢;rw[zaa] at h;refine WF.bind (zar a δ S _ h) fun x S1 h1=>?_;cases x with
   | int j=>
     dsimp only at h1⊢;split at h1
     . rename_i c;rw[if_pos c];exact⟨h1,Frm.refl _⟩
     . exact h1.elim
   |_=>exact h1.elim
 | .enum a,δ,S,Q,h=>by
   simp only[evL] at h⊢;rw[zaa] at h;exact WF.bind (zar a δ S _ h) fun x S1 h1=>zaU h1
 | .comp n js g it c e,δ,S,Q,h=>by
   simp only[evL] at h⊢;rw[zaa] at h;refine WF.bind (zfd it δ S _ h) fun r S1 h1=>?_;rw[zaa] at h1;exact WF.bind (zfO h1 fun Q' h2=>zdq (fun δ S Q=>zc9 c δ S Q) (fun δ S Q=>zar e δ S Q) _ _ _ _ h2) fun k S3 h3=>by
    split at h3
    . rename_i c;rw[if_pos c];exact⟨h3,Frm.refl _⟩
    . exact h3.elim
end
theorem zc1:(∀d T,appX cf f ds S=.ok d T->Frm S T)/\∀d T,appX cf f ds S=.err d T->Frm S T:=by
 unfold appX;cases e:cf f ds S.enter with
 | ok d T=>
   refine⟨fun d' T' h=>?_,fun d' T' h=>?_⟩
   . have w:W (zaZ S d T) fun a S'=>a=d'/\S'=T':=by rw[show zaZ S d T=_ from h];exact⟨rfl,rfl⟩
     have:=zhY w;rw[show zaZ S d T=_ from h] at this;exact this.2
   . exfalso;have h:zaZ S d T=.err d' T':=h;unfold zaZ at h;split at h
     . cases h
     . dsimp only at h;split at h
       . split at h
         all_goals first|(split at h<;>cases h)|cases h
       . cases h
 |err d T=>exact⟨(fun d' T' h=>nomatch h),fun d' T' h=>by cases h;exact Frm.keep _ _⟩
 |bad=>exact⟨(fun d' T' h=>nomatch h),(fun d' T' h=>nomatch h)⟩
theorem zfo:∀(xs:List D) (δ:Ev) (S:St),(∀r T,zaR cf g f es xs δ S=.ok r T->Frm S T)/\∀d T,zaR cf g f es xs δ S=.err d T->Frm S T
 | [],δ,S=>by
   simp only[zaR];exact⟨fun r T h=>by cases h;exact Frm.refl _,(fun d T h=>nomatch h)⟩
 | x::xs,δ,S=>by
   simp[zaR];cases ea:asgG g x δ with
   |none=>exact⟨(fun δ' T h=>nomatch h),(fun d T h=>nomatch h)⟩
   |some δ'=>
   dsimp only;cases e:evEs cf es δ' S with
   | ok ds S1=>
     have f1:=(zbu hcf es δ' S (fun _ _=>True) (by rw[e];trivial));rw[e] at f1;dsimp only;cases e2:appX cf f ds S1 with
     | ok d S2=>
       have f2:=(zc1 hcf).1 _ _ e2;have f3:=zfo (g:=g) (f:=f) (es:=es) xs δ' S2;dsimp only;cases e3:zaR cf g f es xs δ' S2 with
       |ok r S3=>exact⟨fun r' T h=>by cases h;exact (f1.2.trans f2).trans (f3.1 _ _ e3),(fun d T h=>nomatch h)⟩
       |err d S3=>exact⟨(fun δ' T h=>nomatch h),fun d T h=>by cases h;exact (f1.2.trans f2).trans (f3.2 _ _ e3)⟩
       |bad=>exact⟨(fun δ' T h=>nomatch h),(fun d T h=>nomatch h)⟩
     |err d S2=>exact⟨(fun δ' T h=>nomatch h),fun d T h=>by cases h;exact f1.2.trans ((zc1 hcf).2 _ _ e2)⟩
     |bad=>exact⟨(fun δ' T h=>nomatch h),(fun d T h=>nomatch h)⟩
   |err d T=>exact⟨(fun δ' T h=>nomatch h),(fun d T h=>nomatch h)⟩
   |bad=>exact⟨(fun δ' T h=>nomatch h),(fun d T h=>nomatch h)⟩
theorem zet:∀(b:TrB) (δ:Ev) (S:St),(∀δ' T,exT cf b δ S=.ok δ' T->Frm S T)/\∀d T,exT cf b δ S=.err d T->Frm S T
 | .asg i f es,δ,S=>by
   simp[exT];cases e:evEs cf es δ S with
   | ok ds S1=>
     have f1:=(zbu hcf es δ S (fun _ _=>True) (by rw[e];trivial));rw[e] at f1;dsimp only;cases e2:appX cf f ds S1 with
     |ok d S2=>exact⟨fun δ' T h=>by cases h;exact f1.2.trans ((zc1 hcf).1 _ _ e2),(fun d T h=>nomatch h)⟩
     |err d S2=>exact⟨(fun δ' T h=>nomatch h),fun d T h=>by cases h;exact f1.2.trans ((zc1 hcf).2 _ _ e2)⟩
     |bad=>exact⟨(fun δ' T h=>nomatch h),(fun d T h=>nomatch h)⟩
   |err d T=>exact⟨(fun δ' T h=>nomatch h),(fun d T h=>nomatch h)⟩
   |bad=>exact⟨(fun δ' T h=>nomatch h),(fun d T h=>nomatch h)⟩
 | .ite c a b,δ,S=>by
   simp[exT];cases e:evT cf c δ S with
   | ok k S1=>
     have f1:=(zc9 hcf c δ S (fun _ _=>True) (by rw[e];trivial));rw[e] at f1;cases k with
     |true=>exact⟨fun δ' T h=>f1.2.trans ((zet a δ S1).1 _ _ h),fun d T h=>f1.2.trans ((zet a δ S1).2 _ _ h)⟩
     |false=>exact⟨fun δ' T h=>f1.2.trans ((zet b δ S1).1 _ _ h),fun d T h=>f1.2.trans ((zet b δ S1).2 _ _ h)⟩
   |err d T=>exact⟨(fun δ' T h=>nomatch h),(fun d T h=>nomatch h)⟩
   |bad=>exact⟨(fun δ' T h=>nomatch h),(fun d T h=>nomatch h)⟩
 | .setF a f g es,δ,S=>by
   simp[exT];cases e:evEs cf es δ S with
   | ok ds S1=>
     have f1:=(zbu hcf es δ S (fun _ _=>True) (by rw[e];trivial));rw[e] at f1;dsimp only;cases e2:appX cf g ds S1 with
     | ok v S2=>
       have f2:=(zc1 hcf).1 _ _ e2;dsimp only;cases e3:evE cf a δ S2 with
       | ok x S3=>
         have f3:=(zar hcf a δ S2 (fun _ _=>True) (by rw[e3];trivial));rw[e3] at f3;dsimp only;cases e4:zbd S3 x f v with
         |some S4=>exact⟨fun δ' T h=>by cases h;exact ((f1.2.trans f2).trans f3.2).trans (zfx e4),(fun d T h=>nomatch h)⟩
         |none=>exact⟨(fun δ' T h=>nomatch h),(fun d T h=>nomatch h)⟩
       |err d T=>exact⟨(fun δ' T h=>nomatch h),(fun d T h=>nomatch h)⟩
       |bad=>exact⟨(fun δ' T h=>nomatch h),(fun d T h=>nomatch h)⟩
     |err d S2=>exact⟨(fun δ' T h=>nomatch h),fun d T h=>by cases h;exact f1.2.trans ((zc1 hcf).2 _ _ e2)⟩
     |bad=>exact⟨(fun δ' T h=>nomatch h),(fun d T h=>nomatch h)⟩
   |err d T=>exact⟨(fun δ' T h=>nomatch h),(fun d T h=>nomatch h)⟩
   |bad=>exact⟨(fun δ' T h=>nomatch h),(fun d T h=>nomatch h)⟩
 | .mk c f x j es,δ,S=>by
   simp[exT];cases e:evEs cf es δ S with
   | ok ds S1=>
     have f1:=(zbu hcf es δ S (fun _ _=>True) (by rw[e];trivial));rw[e] at f1;dsimp only;unfold appW;have f2:Frm S (S1.push (.ins c [])):=f1.2.trans (Frm.push _ _);cases e2:cf f (.ref S1.len::(ds++List.replicate j .non)) (S1.push (.ins c [])) with
     | ok d S2=>
       dsimp only;split
       . exact⟨fun δ' T h=>by cases h;exact f2.trans (hcf _ _ _ _ _ (.inl e2)),(fun d T h=>nomatch h)⟩
       . exact⟨(fun δ' T h=>nomatch h),(fun d T h=>nomatch h)⟩
     |err d S2=>exact⟨(fun δ' T h=>nomatch h),fun d T h=>by cases h;exact f2.trans (hcf _ _ _ _ _ (.inr e2))⟩
     |bad=>exact⟨(fun δ' T h=>nomatch h),(fun d T h=>nomatch h)⟩
   |err d T=>exact⟨(fun δ' T h=>nomatch h),(fun d T h=>nomatch h)⟩
   |bad=>exact⟨(fun δ' T h=>nomatch h),(fun d T h=>nomatch h)⟩
 | .comp i nt js g it f es,δ,S=>by
   simp[exT];cases e:evL cf it δ S with
   | ok r S1=>
     have f1:=(zfd hcf it δ S (fun _ _=>True) (by rw[e];trivial));rw[e] at f1;dsimp only;split
     . have f2:=zfo (g:=g) (f:=f) (es:=es) hcf r.1 (csl nt js δ) {S1 with lk:=r.2++S1.lk};have un:∀{T:St},Frm {S1 with lk:=r.2++S1.lk} T->Frm S {T with lk:=S1.lk}:=fun {T} z=>f1.2.trans ⟨z.frz,rfl,z.len,fun l hl h=>z.same l (mem_append_right _ hl) h⟩;cases e2:zaR cf g f es r.1 (csl nt js δ) {S1 with lk:=r.2++S1.lk} with
       |ok ds S3=>exact⟨fun δ' T h=>by cases h;exact (un (f2.1 _ _ e2)).trans (Frm.push _ _),(fun d T h=>nomatch h)⟩
       |err d S3=>exact⟨(fun δ' T h=>nomatch h),fun d T h=>by cases h;exact un (f2.2 _ _ e2)⟩
       |bad=>exact⟨(fun δ' T h=>nomatch h),(fun d T h=>nomatch h)⟩
     . exact⟨(fun δ' T h=>nomatch h),(fun d T h=>nomatch h)⟩
   |err d T=>exact⟨(fun δ' T h=>nomatch h),(fun d T h=>nomatch h)⟩
   |bad=>exact⟨(fun δ' T h=>nomatch h),(fun d T h=>nomatch h)⟩
theorem zbZ:∀(s:CS) (δ:Ev) (S:St) (Q:Fl->St->Prop),W (exS cf s δ S) Q->WF S (exS cf s δ S) Q
 |.nil,δ,S,Q,h=>by simp[exS] at h⊢;exact⟨h,Frm.refl S⟩
 |.stop,δ,S,Q,h=>by simp only[exS] at h;exact h.elim
 | .asg i e r,δ,S,Q,h=>by
   simp only[exS] at h⊢;rw[zaa] at h;exact WF.bind (zar hcf e δ S _ h) fun x S1 h1=>zbZ r _ S1 Q h1
 | .asgT g e r,δ,S,Q,h=>by
   simp only[exS] at h⊢;rw[zaa] at h;refine WF.bind (zar hcf e δ S _ h) fun x S1 h1=>?_;rw[zaa] at h1;exact WF.bind (zaU h1) fun δ' S2 h2=>zbZ r _ S2 Q h2
 | .setIx a b e r,δ,S,Q,h=>by
   simp only[exS] at h⊢;rw[zaa] at h;refine WF.bind (zar hcf e δ S _ h) fun v S1 h1=>?_;rw[zaa] at h1;refine WF.bind (zar hcf a δ S1 _ h1) fun x S2 h2=>?_;rw[zaa] at h2;refine WF.bind (zar hcf b δ S2 _ h2) fun y S3 h3=>?_;cases ed:dPut S3 x y v with
   |none=>rw[ed] at h3;exact h3.elim
   | some S4=>
     rw[ed] at h3;have f1:=zoh ed;have f2:=zbZ r δ S4 Q h3;exact f2.mono fun a T ⟨q,f⟩=>⟨q,f1.trans f⟩
 | .setF a f e r,δ,S,Q,h=>by
   simp only[exS] at h⊢;rw[zaa] at h;refine WF.bind (zar hcf e δ S _ h) fun v S1 h1=>?_;rw[zaa] at h1;refine WF.bind (zar hcf a δ S1 _ h1) fun x S2 h2=>?_;cases ed:zbd S2 x f v with
   |none=>rw[ed] at h2;exact h2.elim
   | some S3=>
     rw[ed] at h2;exact (zbZ r δ S3 Q h2).mono fun a S' q=>⟨q.1,(zfx ed).trans q.2⟩
 | .ifS c t u r,δ,S,Q,h=>by
   simp only[exS] at h⊢;rw[zaa] at h;refine WF.bind (zc9 hcf c δ S _ h) fun k S1 h1=>?_;rw[zaa] at h1;refine WF.bind ?_ fun f S2 h2=>?_
   . cases k with
     |true=>exact zbZ t δ S1 _ h1
     |false=>exact zbZ u δ S1 _ h1
   . cases f with
     |nx δ'=>exact zbZ r _ S2 Q h2
     |rt d=>exact⟨h2,Frm.refl _⟩
     |ex d=>exact⟨h2,Frm.refl _⟩
 | .forS g l b r,δ,S,Q,h=>by
   simp only[exS] at h⊢;rw[zaa] at h;refine WF.bind (zfd hcf l δ S _ h) fun q S1 h1=>?_;rw[zaa] at h1;refine WF.bind (zfO h1 fun Q' h2=>zfp (fun δ S Q=>zbZ b δ S Q) _ _ _ _ h2) fun f S3 h3=>?_;cases f with
   |nx δ'=>exact zbZ r _ S3 Q h3
   |rt d=>exact⟨h3,Frm.refl _⟩
   |ex d=>exact⟨h3,Frm.refl _⟩
 | .ret e r,δ,S,Q,h=>by
   simp only[exS] at h⊢;rw[zaa] at h;exact WF.bind (zar hcf e δ S _ h) fun x S1 h1=>⟨h1,Frm.refl _⟩
 | .expr e r,δ,S,Q,h=>by
   simp only[exS] at h⊢;rw[zaa] at h;exact WF.bind (zar hcf e δ S _ h) fun x S1 h1=>zbZ r _ S1 Q h1
 | .rais c x f a,δ,S,Q,h=>by
   simp only[exS] at h⊢;rw[zaa] at h;exact WF.bind (zar hcf a δ S _ h) fun d S1 h1=>⟨h1,Frm.push _ _⟩
 | .blk b r,δ,S,Q,h=>by
   simp[exS] at h⊢;cases e:exT cf b δ S with
   | ok δ' S1=>
     rw[e] at h;exact (zbZ r _ S1 Q h).mono fun a T q=>⟨q.1,((zet hcf b δ S).1 _ _ e).trans q.2⟩
   | err d S1=>
     rw[e] at h;exact⟨h,(zet hcf b δ S).2 _ _ e⟩
   |bad=>rw[e] at h;exact h.elim
 | .tryS b x ie ix r,δ,S,Q,h=>by
   simp[exS] at h⊢;cases e:exT cf b δ S with
   | ok δ' S1=>
     rw[e] at h;exact (zbZ r _ S1 Q h).mono fun a T q=>⟨q.1,((zet hcf b δ S).1 _ _ e).trans q.2⟩
   | err d S1=>
     rw[e] at h;dsimp only at h⊢;split at h
     . rename_i c;rw[if_pos c];exact (zbZ r _ S1 Q h).mono fun a T q=>⟨q.1,((zet hcf b δ S).2 _ _ e).trans q.2⟩
     . exact False.elim h
   |bad=>rw[e] at h;exact h.elim
end
end R
end
section
namespace R
open PySem
noncomputable def TrcR (h:Heap)(e:Addr)(vs:Array Value)(lo:Nat):Prop:=∃T oT ts,vs[1]?=some (.ref T)/\T≠e/\h.get? T=some oT/\oT.data=.fields ts/\3<ts.size/\lo<=T
noncomputable def Trc (h:Heap)(e:Addr)(vs:Array Value)(lo:Nat):Prop:=vs[1]?=some .none\/TrcR h e vs lo
structure Ntd (fs:List Addr) (e:Addr) (oe:Obj) (vs:Array Value) (lo:Nat) (h h':Heap):Prop where
 keep:∀b o,b≠e->vs[1]?≠some (.ref b)->b∉fs->h.get? b=some o->h'.get? b=some o
 slot:∀b o,b∈fs->h.get? b=some o->∃sl,h'.get? b=some {o with slots:=sl}
 there:∀b o,h.get? b=some o->∃o',h'.get? b=some o'
 sz:h.objs.size<=h'.objs.size
 exc:∃vs',h'.get? e=some {oe with data:=.fields vs'}/\vs'.size=vs.size/\TrcR h' e vs' lo/\∀T,vs'[1]?=some (.ref T)->h.objs.size<=T\/vs[1]?=some (.ref T)
theorem Ntd.trans (n:Ntd fs e oe vs lo h h1)(he1:h1.get? e=some {oe with data:=.fields vs1})(m:Ntd fs e {oe with data:=.fields vs1} vs1 lo h1 h2):Ntd fs e oe vs lo h h2:=by
 obtain⟨vs',e1,s1,t1,l1⟩:=n.exc;obtain rfl:vs'=vs1:=by rw[he1] at e1;simpa using e1.symm
 obtain⟨vs2,e2,s2,t2,l2⟩:=m.exc;refine⟨fun b o hb hv hf q=>m.keep b o hb (fun z=>?_) hf (n.keep b o hb hv hf q),fun b o hf q=>?_,fun b o q=>?_,le_trans n.sz m.sz,vs2,e2,s2.trans s1,t2,fun T hT=>?_⟩
 . rcases l1 b z with z|z
   . exact absurd (Heap.lt_size q) (Nat.not_lt.mpr z)
   . exact hv z
 . obtain⟨sl,q1⟩:=n.slot b o hf q;obtain⟨sl2,q2⟩:=m.slot b _ hf q1;exact⟨sl2,q2⟩
 . obtain⟨o',q1⟩:=n.there b o q;exact m.there b _ q1
 . rcases l2 T hT with z|z
   . exact .inl (le_trans n.sz z)
   . exact l1 T z
section
variable {M:Model} {A:Around} {E:Value->Shared->Prop} {s:Shared} {base:Heap} {env:Env} {outer:List Env} {L e:Addr} {oe:Obj} {vs:Array Value} {lo:Nat}
theorem zkx (hfr:A.frames=some (env::outer))(hl:s.heap.FunFrames base (env::outer))(hf:env.frame=some L)(he:s.heap.get? e=some oe)(hd:oe.data=.fields vs)(hz:1<vs.size)(hlo:lo<=s.heap.objs.size)
  (h:∀h',s.heap.objs.size<=h'.objs.size->(∀b o,b≠e->b∉(env::outer).filterMap (·.frame)->s.heap.get? b=some o->h'.get? b=some o)->(∀b o,b≠e->s.heap.get? b=some o->∃sl,h'.get? b=some {o with slots:=sl})->
   (∃vs',h'.get? e=some {oe with data:=.fields vs'}/\vs'.size=vs.size/\TrcR h' e vs' lo/\∀T,vs'[1]?=some (.ref T)->s.heap.objs.size<=T)->Q () {s with heap:=h'}) :
  wpAny M A (do let fr <-frameOf env;let pl <-entryPlaceOf L b;let en <-EntryCells.newEntry head fr .none (rawInt L) .none pl;setField (.ref e) 1 en) Q E s:=by
 have hne:e∉(env::outer).filterMap (·.frame):=fun hm=>by
  obtain⟨_,o,ho,nf⟩:=hl.mem hm;rw[he] at ho;cases ho;exact nf vs hd
 refine wpAny_bind (wpAny_frameOf_fun hfr hl hf fun h1 so=>?_);obtain⟨sz,same,slo⟩:=so;refine wpAny_bind (wpAny_entryPlaceOf fun pl hpl=>?_);refine wpAny_bind (wpAny_newObj_type ?_ (hpl.sizeOk5 _ _ _ _ _));generalize eT:({cls:=.type "traceback",dict:=none,data:=.fields ([head,.ref L,.none,rawInt L,.none]++(if pl.isEmpty then List.replicate 6 Value.none else pl)).toArray}:Obj)=oT;obtain⟨ts,hT,h3⟩:∃ts,oT.data=.fields ts/\3<ts.size:=by
  subst eT;exact⟨_,rfl,by simp only[size_toArray,length_append,length_cons];omega⟩
 have e1:h1.get? e=some oe:=(same e hne).trans he;have e2:=Heap.get?_push_of_some oT e1;apply wpAny_setField e2 hd hz;have ne:h1.objs.size≠e:=ne_of_gt (Heap.lt_size e1);have d3:=Obj.data_mapFields hd (·.setIfInBounds 1 (Value.ref h1.objs.size));have e3:=Heap.get?_update_self (Obj.mapFields (·.setIfInBounds 1 (Value.ref h1.objs.size))) e2 (Obj.isFreed_of_fields d3);have nfT:oT.isFreed=false:=Obj.isFreed_of_fields hT;have T3:=(Heap.get?_update_other (h1.push oT) (Obj.mapFields (·.setIfInBounds 1 (Value.ref h1.objs.size))) (Ne.symm ne)).trans (Heap.get?_push_size h1 nfT);refine h _ ?_ (fun b o hb nf q=>?_) (fun b o hb q=>?_) ?_
 . rw[Heap.size_after_update,Heap.size_push,sz];exact le_succ _
 . have q1:h1.get? b=some o:=(same b nf).trans q;rw[Heap.get?_update_other _ _ (Ne.symm hb)];exact Heap.get?_push_of_some _ q1
 . obtain⟨sl,q1⟩:=slo b o q;refine⟨sl,?_⟩;rw[Heap.get?_update_other _ _ (Ne.symm hb)];exact Heap.get?_push_of_some _ q1
 . refine⟨vs.setIfInBounds 1 (.ref h1.objs.size),?_,by simp,⟨h1.objs.size,_,_,by simp[hz],ne,T3,hT,h3,by rw[sz];exact hlo⟩,fun T hT=>?_⟩
   rotate_left
   . have:(vs.setIfInBounds 1 (.ref h1.objs.size))[1]?=some (Value.ref h1.objs.size):=by simp[hz]
     rw[this] at hT;cases hT;exact le_of_eq sz.symm
   rw[e3];obtain⟨oc,od,dt,sl⟩:=oe;subst hd;rfl
theorem zj8 {h:Heap}(v:Value)(hT:h.get? T=some oT)(dT:oT.data=.fields ts)(h3:3<ts.size) :
  (∀b,b≠T->(h.update T (Obj.mapFields (·.setIfInBounds 3 v))).get? b=h.get? b)/\∃o2 t2,(h.update T (Obj.mapFields (·.setIfInBounds 3 v))).get? T=some o2/\o2.data=.fields t2/\3<t2.size:=
 ⟨fun b hb=>Heap.get?_update_other _ _ (Ne.symm hb),_,_,Heap.get?_update_self _ hT (Obj.isFreed_of_fields (Obj.data_mapFields dT _)),Obj.data_mapFields dT _,by simpa using h3⟩
theorem zfL (v:Value)(hl:s.heap.FunFrames base (env::outer))(he:s.heap.get? e=some oe)(hd:oe.data=.fields vs)(h1:vs[1]?=some (.ref T))(nT:T≠e)(hT:s.heap.get? T=some oT)(dT:oT.data=.fields ts)(h3:3<ts.size)(lT:lo<=T) :
  Ntd ((env::outer).filterMap (·.frame)) e oe vs lo s.heap (s.heap.update T (Obj.mapFields (·.setIfInBounds 3 v))):=by
 obtain⟨oth,o2,t2,g,d,z⟩:=zj8 v hT dT h3;have hTf:T∉(env::outer).filterMap (·.frame):=fun hm=>by
  obtain⟨_,o,ho,nf⟩:=hl.mem hm;rw[hT] at ho;cases ho;exact nf ts dT
 refine⟨fun b o _ hv _ q=>(oth b fun z=>hv (z▸h1)).trans q,fun b o hf q=>⟨o.slots,(oth b fun z=>hTf (z▸hf)).trans q⟩,fun b o q=>?_,le_of_eq (Heap.size_after_update ..).symm,vs,?_,rfl,⟨T,o2,t2,h1,nT,g,d,z,lT⟩,fun _ z=>.inr z⟩
 . by_cases hb:b=T
   . subst hb;exact⟨_,g⟩
   . exact⟨_,(oth b hb).trans q⟩
 . rw[oth e (Ne.symm nT),he];obtain⟨oc,od,dt,sl⟩:=oe;subst hd;rfl
theorem zik (hl:s.heap.FunFrames base (env::outer))(he:s.heap.get? e=some oe)(hd:oe.data=.fields vs)(tr:TrcR s.heap e vs lo)
  (h:∀h',Ntd ((env::outer).filterMap (·.frame)) e oe vs lo s.heap h'->Q () {s with heap:=h'}):wpAny M A (setFlight (.ref e) fr) Q E s:=by
 obtain⟨T,oT,ts,h1,nT,hT,dT,h3,lT⟩:=tr;refine wpAny_bind (wpAny_field he hd h1 ?_);exact wpAny_setField hT dT h3 (h _ (zfL _ hl he hd h1 nT hT dT h3 lT))
theorem znJ (hfr:A.frames=some (env::outer))(hl:s.heap.FunFrames base (env::outer))(hf:env.frame=some L)(he:s.heap.get? e=some oe)(hd:oe.data=.fields vs)(tr:Trc s.heap e vs lo)(hlo:lo<=s.heap.objs.size)
  (h:∀h',Ntd ((env::outer).filterMap (·.frame)) e oe vs lo s.heap h'->Q () {s with heap:=h'}) :
  wpAny M A (noteFrame (.ref e) env) Q E s:=by
 have hne:e∉(env::outer).filterMap (·.frame):=fun hm=>by
  obtain⟨_,o,ho,nf⟩:=hl.mem hm;rw[he] at ho;cases ho;exact nf vs hd
 unfold noteFrame;simp[hf];rcases tr with h1|⟨T,oT,ts,h1,nT,hT,dT,h3,lT⟩
 . refine wpAny_bind (wpAny_field he hd h1 ?_);refine zkx hfr hl hf he hd (Array.getElem?_eq_some_iff.mp h1).1 hlo fun h' k0 k1 k2 ⟨vs',x1,x2,x3,x4⟩=>h h' ⟨fun b o hb _ nf q=>k1 b o hb nf q,fun b o hm q=>k2 b o (fun z=>hne (z▸hm)) q,fun b o q=>?_,k0,vs',x1,x2,x3,fun T z=>.inl (x4 T z)⟩;by_cases hb:b=e
   . subst hb;exact⟨_,x1⟩
   . obtain⟨sl,q1⟩:=k2 b o hb q;exact⟨_,q1⟩
 . refine wpAny_bind (wpAny_field he hd h1 ?_);refine wpAny_bind (wpAny_field hT dT (Array.getElem?_eq_getElem h3) ?_);split
   . apply wpAny_pure;have:=h s.heap ⟨fun b o _ _ _ q=>q,fun b o _ q=>⟨o.slots,q⟩,fun b o q=>⟨o,q⟩,le_refl _,vs,(by rw[he];obtain⟨oc,od,dt,sl⟩:=oe;subst hd;rfl),rfl,⟨T,oT,ts,h1,nT,hT,dT,h3,lT⟩,fun _ z=>.inr z⟩;exact this
   . refine wpAny_bind (wpAny_setField hT dT h3 ?_);have n1:=zfL Value.none hl he hd h1 nT hT dT h3 lT;obtain⟨oth,_⟩:=zj8 Value.none hT dT h3;have hl2:(s.heap.update T (Obj.mapFields (·.setIfInBounds 3 Value.none))).FunFrames base (env::outer):=hl.of_keeps fun b o hb nf=>⟨o,(oth b fun z=>by rw[z,hT] at hb;cases hb;exact nf ts dT).trans hb,rfl⟩;have he2:(s.heap.update T (Obj.mapFields (·.setIfInBounds 3 Value.none))).get? e=some {oe with data:=.fields vs}:=by
      rw[oth e (Ne.symm nT),he];obtain⟨oc,od,dt,sl⟩:=oe;subst hd;rfl
     refine zkx hfr hl2 hf he2 rfl (Array.getElem?_eq_some_iff.mp h1).1 (by rw[Heap.size_after_update];exact hlo)
      fun h' k0 k1 k2 ⟨vs',x1,x2,x3,x4⟩=>h h' (n1.trans he2 ⟨fun b o hb _ nf q=>k1 b o hb nf q,fun b o hm q=>k2 b o (fun z=>hne (z▸hm)) q,fun b o q=>?_,k0,vs',x1,x2,x3,fun T z=>.inl (x4 T z)⟩)
     by_cases hb:b=e
     . subst hb;exact⟨_,x1⟩
     . obtain⟨sl,q1⟩:=k2 b o hb q;exact⟨_,q1⟩
theorem Ntd.frames (n:Ntd ((env::outer).filterMap (·.frame)) e oe vs lo h h')(hl:h.FunFrames base (env::outer))(he:h.get? e=some oe)(hd:oe.data=.fields vs)(tr:Trc h e vs lo):h'.FunFrames base (env::outer):=hl.of_keeps fun b o hb nf=>by
 by_cases hm:b∈(env::outer).filterMap (·.frame)
 . obtain⟨sl,q⟩:=n.slot b o hm hb;exact⟨_,q,rfl⟩
 . refine⟨o,n.keep b o (fun z=>?_) (fun z=>?_) hm hb,rfl⟩
   . rw[z,he] at hb;cases hb;exact nf vs hd
   . rcases tr with t|⟨T,oT,ts,h1,nT,hT,dT,h3,lT⟩
     . rw[t] at z;cases z
     . rw[h1] at z;cases z;rw[hT] at hb;cases hb;exact nf ts dT
theorem zfI (hfr:A.frames=some (env::outer))(hl:s.heap.FunFrames base (env::outer))(hf:env.frame=some L)(he:s.heap.get? e=some oe)(hd:oe.data=.fields vs)(tr:Trc s.heap e vs lo)(hlo:lo<=s.heap.objs.size)
  (h:∀h',Ntd ((env::outer).filterMap (·.frame)) e oe vs lo s.heap h'->Q () {s with heap:=h'}) :
  wpAny M A (noteFrame (.ref e) env) (fun _ s'=>wpAny M A (setFlight (.ref e) none) Q E s') E s:=by
 refine znJ hfr hl hf he hd tr hlo fun h' n=>?_;obtain⟨vs',x1,x2,x3,x4⟩:=n.exc;exact zik (n.frames hl he hd tr) x1 rfl x3 fun h2 m=>h h2 (n.trans x1 m)
end
end R
end
section
namespace R
open PySem
section
variable {prog:Program} {w:World} {A:Around} {E:Value->Shared->Prop} {h:Heap} {g:Array GenState} {d:Drawn} {t:Nat} {os:OsState}
variable {nm q:Str} {C N:Addr} {bs bm bmB:List Value} {hdct:Bool} {sn:List Str} {sub:List Value} {ab:Bool} {col:Option Bool} {dd:Option Addr} {k0 k1 k2 k3 k5:Option Value} {B newId initId:String}
theorem zjT (F:ExcBaseFacts B newId initId bmB)(T:OwnTail h bmB bm)
  (hC:h.get? C=some (excClassObj nm q C N bs bm hdct sn sub ab col dd k0 k1 k2 k3 k5 newId)) (hn:h.Ns N mN) (hi:mN "__init__"=some (.ref fI)) (hfI:h.get? fI=some oI) (hfc:oI.cls=.type "function")
  (hq:∀h' e,Heap.MadeExcOf h h' e (.ref C) rest->h.objs.size<=e->wpAny (model prog w) A (call (.ref fI) (.ref e::rest)) (fun r s'=>r=.none/\Q (.done (.ret (.ref e))) s') E ⟨h',g,d,t,os⟩) (hrest:rest.length<=sizeLine) :
  wpAny (model prog w) A (Builtin.«type.__call__» ⟨.ref C::rest,[]⟩) Q E ⟨h,g,d,t,os⟩:=by
 repeat (first|with_reducible refine wpAny_loadPart_at hC ?_|with_reducible refine wpAny_madeBy_exc hC ?_|wp_step)
 refine codeAny_call_builtin_code (Code.quiet_builtin _ F.quiet) (wpAny_check_new_subT F T hC (codeAny_exc_new_subT F T hC ?_ hrest));generalize e1:h.push {cls:=.type "tuple",data:=.seq rest.toArray}=h1;generalize e2:h1.push {cls:=.ref C,data:=.fields #[.ref h.objs.size,.none,.none,.none,.bool false,.none]}=h2;have kp:∀b o,h.get? b=some o->h2.get? b=some o:=fun b o z=>by subst e2 e1;exact Heap.get?_push_of_some _ (Heap.get?_push_of_some _ z)
 have ge:h2.get? (h.objs.size+1)=some {cls:=.ref C,data:=.fields #[.ref h.objs.size,.none,.none,.none,.bool false,.none]}:=by subst e2 e1;heap_get
 have gt:h2.get? h.objs.size=some {cls:=.type "tuple",data:=.seq rest.toArray}:=by subst e2 e1;exact Heap.get?_push_of_some _ (Heap.get?_push_at rfl rfl)
 have C2:=kp _ _ hC;have n2:h2.Ns N mN:=hn.keeps kp;have T2:=T.keeps kp;have self:(Value.ref C::bm).contains (.ref C)=true:=by simp
 repeat (first|with_reducible refine wpAny_loadPart_at ge ?_|(with_reducible refine wpAny_isSubtype_exc C2 ?_;rw[self])|wp_step)
 refine wpAny_typeLookup_tail C2 n2 T2 F.mroIs F.init.lookup ?_;rw[hi];refine wpAny_holding (wpAny_bind ?_);refine wpAny_bind (wpAny_typeOf ⟨_,kp _ _ hfI,hfc⟩ ?_);refine wpAny_pure (wpAny_bind (wpAny_mono (hq h2 (h.objs.size+1) ⟨kp,Heap.get?_none_of_le (le_succ _),h.objs.size,ge,Heap.get?_none_of_le (le_refl _),gt⟩ (le_succ _)) (fun r s' hr=>?_) fun _ _ x=>x));obtain⟨rfl,hQ⟩:=hr
 wp_walk
 exact hQ
theorem zjQ (F:ExcBaseFacts B newId initId bmB)(T:OwnTail h bmB bm)
  (hC:h.get? C=some (excClassObj nm q C N bs bm hdct sn sub ab col dd k0 k1 k2 k3 k5 newId)) (hn:h.Ns N mN) (hi:mN "__init__"=some (.ref fI)) (hfI:h.get? fI=some oI) (hfc:oI.cls=.type "function")
  (hq:∀h' e,Heap.MadeExcOf h h' e (.ref C) rest->h.objs.size<=e->wpAny (model prog w) (A.under (.builtin "type.__call__" ⟨.ref C::rest,[]⟩)) (call (.ref fI) (.ref e::rest)) (fun r s'=>r=.none/\Q (.ref e) s') E ⟨h',g,d,t,os⟩) (hrest:rest.length<=sizeLine) :
  wpAny (model prog w) A (call (.ref C) rest) Q E ⟨h,g,d,t,os⟩:=by
 have f1:=tc_lookup;have f2:=tc_bind (.ref C);refine wpAny_call (codeAny_of_tree ?_)
 repeat (any_goals (first|assumption|with_reducible refine wpAny_loadPart_at hC ?_|wp_step))
 refine⟨rfl,codeAny_call_builtin_at (Code.quiet_builtin _ (by decide +kernel)) entry_typeCall (wpAny_check_type_call_sub hC (zjT F T hC hn hi hfI hfc (fun h' e hm hz=>?_) hrest))⟩;exact hq h' e hm hz
end
end R
end
section
namespace R
open PySem
noncomputable abbrev newX (C:Value)(dx:Option Addr)(t:Addr):Obj:={cls:=C,dict:=dx,data:=.fields #[.ref t,.none,.none,.none,.bool false,.none]}
section
variable {prog:Program} {w:World} {A:Around} {E:Value->Shared->Prop} {h:Heap} {g:Array GenState} {d:Drawn} {t:Nat} {os:OsState}
variable {nm q:Str} {C N:Addr} {bs bm bmB:List Value} {hdct:Bool} {sn:List Str} {sub:List Value} {ab:Bool} {col:Option Bool} {dd:Option Addr} {k0 k1 k2 k3 k5:Option Value} {B newId initId:String}
theorem zjS (F:ExcBaseFacts B newId initId bmB)(T:OwnTail h bmB bm)
  (hC:h.get? C=some (excClassObj nm q C N bs bm hdct sn sub ab col dd k0 k1 k2 k3 k5 newId)) (he:h.get? e=some (newX (.ref C) none t0))
  (hq:∀h' t1,(∀b o,b≠e->h.get? b=some o->h'.get? b=some o)->h'.get? e=some (newX (.ref C) none t1)->Q .none ⟨h',g,d,t,os⟩) :
  wpAny (model prog w) A (call (.builtin initId) [.ref e,v]) Q E ⟨h,g,d,t,os⟩:=by
 refine wpAny_call (codeAny_call_builtin F.init.plain F.initEntry (wpAny_check_init_subT F T hC he rfl ?_))
 wp_walk
 refine hq _ h.objs.size (fun b o hb q=>?_) ?_
 . rw[Heap.get?_update_other _ _ (Ne.symm hb)];exact Heap.get?_push_of_some _ q
 . exact Heap.get?_update_self _ (Heap.get?_push_of_some _ he) rfl
end
end R
end
section
namespace R
open PySem PySem.W PySem.Builtin.Object
section
variable {prog:Program} {w:World} {A:Around} {E:Value->Shared->Prop} {s:Shared} {K:Frag} {x C:Addr} {ox:Obj} {name:Str} {v:Value}
noncomputable def zhp:List Value->Bool
 |.ref _::l=>zhp l
 | [.type a,.type b,.type c,.type d]=>a == "ValueError"&&(b == "Exception"&&(c == "BaseException"&&d == "object"))
 |_=>false
theorem zfE:∀{l:List Value},zhp l=true->(∀self:Value,refuseLoop self "__setattr__" l=pure ())/\l.contains (.type "object")=true/\l.isEmpty=false
 | .ref c::l,e=>by
   obtain⟨a,b,_⟩:=zfE (l:=l) (by simpa only [zhp] using e);exact⟨fun self=>(refuseLoop_ref self _ c l).trans (a self),by rw[List.contains_cons,b,Bool.or_true],rfl⟩
 | [.type a,.type b,.type c,.type d],e=>by
   simp only[zhp,and_eq_true,beq_iff_eq] at e;obtain⟨rfl,rfl,rfl,rfl⟩:=e;exact⟨PySem.F.store_ValueError.passes,by simp,rfl⟩
noncomputable def zhM (K:Frag)(C:Addr):Bool:=match clsIn K C with|some cd=>zhp cd.mro|none=>false
theorem zlA {od:Option Obj}{tk:Tok}{R:Result->Shared->Prop}(X:K.In s.heap)(J:InstAt s.heap x ox C od)(hp:zhM K C=true)(ht:findIn K (.ref C) name=some none)
  (go:wpAny (model prog w) A.in1 (Builtin.ObjectAttr.storeInOwnDict (.ref x) (.ref C) (.str name tk) name v false)
   (fun fin s'=>match fin with|.done f=>R (.ok f) s'|.again c=>c.quiet=true/\codeAny (model prog w) A c R s') (fun e s'=>R (.error e) s') s) :
  codeAny (model prog w) A (.call (.builtin "object.__setattr__") ⟨[.ref x,.str name tk,v],[]⟩) R s:=by
 unfold zhM at hp;split at hp
 case h_2=>cases hp
 rename_i cd hc;obtain⟨h1,h2,h3⟩:=zfE hp;have st:=PySem.F.store_object;have hi:Looks (model prog w) s.heap (isInstance (.ref x) (.type "object")) true:=by
  refine J.type.andThen (looks_mroIn X ?_);unfold mroIn;rw[hc,bind_some,if_neg (by rw[h3];decide),h2]
 refine codeAny_call_builtin st.slot.plain st.entry (@check_slot (model prog w) _ _ s _ _ _ _ [.str name tk,v] [] _ st.kind st.split hi (st.args _ _ _) ?_);have hm:Looks (model prog w) s.heap (mroOf (.ref C)) cd.mro:=(looks_clsIn X hc).andThen .now;rw[osa_eq,refuse_eq];refine wpAny_bind (wpAny_bind (J.type.here (wpAny_bind (hm.here ?_))));rw[h1];exact wpAny_pure (wpAny_bind (J.type.here (wpAny_bind ((looks_findIn X ht).here (wpAny_bind (wpAny_pure go))))))
theorem zim {Q:Unit->Shared->Prop}(X:K.In s.heap)(he:s.heap.get? x=some ox)(hc:ox.cls=.ref C){vs:Array Value}(hd:ox.data=.fields vs)(hn:ox.dict=none)
  (hs:findIn K (.ref C) "__setattr__"=some (some (.builtin "object.__setattr__"))) (hp:zhM K C=true) (ht:findIn K (.ref C) name=some none) (hh:hasDictIn K C=true)
  (h:∀h',h'.get? x=some {ox with dict:=some s.heap.objs.size}->h'.Ns1 s.heap.objs.size (fun y=>if y=name then some v else none)->(∀b o,b≠x->s.heap.get? b=some o->h'.get? b=some o)->Q () {s with heap:=h',toks:=s.toks+2}) :
  wpAny (model prog w) A (setAttr (.ref x) name v) Q E s:=by
 have J:InstAt s.heap x ox C none:=⟨he,hc,by unfold notCls;rw[hd],by rw[hn];trivial⟩;refine set_plain X J hs (zlA (s:={s with toks:=s.toks+1}) X J hp ht ?_);obtain⟨cd,hk,hd'⟩:=any_some hh;obtain⟨hp0,g,d,t,os⟩:=s;obtain⟨oc,od,odt,osl⟩:=ox;dsimp only at he hc hd hn h⊢;subst hc hd hn;refine wpAny_bind (wpAny_pure (wpAny_bind (wpAny_bind (wpAny_loadPart he (wpAny_bind (Looks.here (s:=⟨hp0,g,d,t+1,os⟩) (looks_clsIn X hk) ?_))))));rw[hd'];simp only[Bool.not_true,Bool.false_eq_true,if_false,Bool.false_or];rw[if_neg (by simp[typeHasDict])];have hx1:(hp0.push {cls:=.type "dict",data:=.dict #[]}).get? x=some _:=Heap.get?_push_of_some _ he;have nx:x≠hp0.objs.size:=ne_of_lt (Heap.lt_size he);refine wpAny_bind (wpAny_alloc' (wpAny_bind (wpAny_update' hx1 (wpAny_pure ?_))));generalize e2:(hp0.push {cls:=.type "dict",data:=.dict #[]}).update x (fun o=>{cls:=o.cls,dict:=some hp0.objs.size,data:=o.data,slots:=o.slots})=h2;have gd:h2.get? hp0.objs.size=some {cls:=.type "dict",data:=.dict #[]}:=by subst e2;exact (Heap.get?_update_ne _ _ _ _ nx.symm).trans (Heap.get?_push_at rfl rfl)
 have gx:h2.get? x=some {cls:=.ref C,dict:=some hp0.objs.size,data:=.fields vs,slots:=osl}:=by subst e2;exact Heap.get?_update_self _ hx1 rfl
 have nd:h2.Ns hp0.objs.size (fun _=>none):=⟨_,#[],_,gd,rfl,fun e he=>absurd he (by simp),fun _=>rfl⟩;show wpAny _ _ (Builtin.ObjectAttr.storeInDict hp0.objs.size (.str name t) name v) _ _ _;unfold Builtin.ObjectAttr.storeInDict Builtin.ObjectAttr.newKeyGuard;refine wpAny_bind (wpAny_pure (wpAny_bind (wpAny_nsSet1 (Heap.Ns1.of_empty nd) fun h' hn' hs=>?_)));obtain⟨oD,esD,epD,hoD,hdD,hcD⟩:=hn'.count (Within.cons name v Within.nil);refine wpAny_bind (wpAny_lookBehind hoD (by rw[hdD];exact pastItsLine_dict (le_trans hcD (by rw[length_cons,List.length_nil,sizeLine_eq];omega))) (wpAny_pure (h h' ?_ hn' fun b o hb q=>?_)))
 . exact (hs.2 x nx).trans gx
 . subst e2;exact (hs.2 b (ne_of_lt (Heap.lt_size q))).trans ((Heap.get?_update_ne _ _ _ _ hb).trans (Heap.get?_push_of_some _ q))
theorem zf3 {od:Option Obj}{fill expr:Bool}{tk:Tok}{Q:Value->Shared->Prop}(X:K.In s.heap)(I:InstAt s.heap x ox C od)(hga:findIn K (.ref C) "__getattribute__"=some (some (.builtin "BaseException.__getattribute__")))
  (hgh:findIn K (.ref C) "__getattr__"=some none) (hsub:mroIn K C (.type "BaseException")=some true)
  (go:wpAny (model prog w) A.in1 (Builtin.«object.__getattribute__» ⟨[.ref x,.str name tk],[]⟩) (fun fin s'=>match fin with|.done (.ret u)=>wpAny (model prog w) A (handedOut u) Q E s'|_=>False) (fun _ _=>False) s) :
  wpAny (model prog w) A (getAttrBy (.ref x) (.str name tk) fill expr) Q E s:=by
 obtain⟨hp0,g,d,t,os⟩:=s;have L0:=I.type (M:=model prog w);have L1:=looks_findIn (M:=model prog w) X hga;have L2:=looks_findIn (M:=model prog w) X hgh;have L3:=looks_mroIn (M:=model prog w) X hsub;unfold getAttrBy;refine wpAny_holding (wpAny_bind (L0.at (wpAny_bind (L1.at ?_))));show wpAny _ _ (getAttrByItsOwn _ _ _ _ _ _) _ _ _;unfold getAttrByItsOwn hookBefore;rw[if_pos (show onTheHeap (Value.ref C)=true from rfl)];refine wpAny_bind (L2.at (wpAny_bind (wpAny_attempt (wpAny_holding ?_))));have no:(expr&&onTheHeap (Value.builtin "BaseException.__getattribute__"))=false:=by cases expr<;>rfl
 unfold callGetattribute;rw[no,if_neg (by decide)];unfold boundAndCalled;refine wpAny_bind (wpAny_of_eq (F.attr_ValueError.ga.bind _) (wpAny_call (codeAny_call_builtin F.attr_ValueError.ga.plain F.entry_bexc_ga ?_)));have hk:builtinKind "BaseException.__getattribute__"=some .slot:=by decide +kernel
 have hsp:splitId "BaseException.__getattribute__"=some ("BaseException","__getattribute__"):=by decide +kernel
 have ha:=F.args_bexc_ga (.ref x) (.str name tk);simp only[checkBuiltinCall,hk,hsp];have LI:Looks (model prog w) hp0 (isInstance (.ref x) (.type "BaseException")) true:=L0.andThen L3;refine wpAny_bind (LI.at ?_);rw[if_neg (by decide)];have last:wpAny (model prog w) A.in1 (Builtin.«object.__getattribute__» ⟨[.ref x,.str name tk],[]⟩) (fun fin s'=>match fin with
   |.done f=>(match (Except.ok f:Result) with|.ok (.ret u)=>wpAny (model prog w) A (handedOut u) Q E s'|.ok _=>False|.error e=>wpAny (model prog w) A (getattributeRaised (.ref x) (.str name tk) (.ref C) e none fill expr) Q E s')
   |.again c'=>c'.quiet=true/\codeAny (model prog w) A c' (fun r s'=>match r with|.ok (.ret u)=>wpAny (model prog w) A (handedOut u) Q E s'|.ok _=>False|.error e=>wpAny (model prog w) A (getattributeRaised (.ref x) (.str name tk) (.ref C) e none fill expr) Q E s') s')
   (fun e s'=>wpAny (model prog w) A (getattributeRaised (.ref x) (.str name tk) (.ref C) e none fill expr) Q E s') ⟨hp0,g,d,t,os⟩:=by
  refine wpAny_mono go (fun fin s' z=>?_) fun _ _ z=>z.elim;rcases fin with (_|_|_|u)|_
  all_goals first|exact z.elim|exact z
 cases hsig:Manifest.signature? "BaseException.__getattribute__" with
 |none=>exact wpAny_pure last
 | some sig=>
   simp only[argsOk,hsig] at ha;have h2:Bind.checkArgs "BaseException.__getattribute__" sig ⟨[.ref x]++[.str name tk],[]⟩=pure ():=ha;show wpAny _ _ (Bind.checkArgs "BaseException.__getattribute__" sig ⟨[.ref x]++[.str name tk],[]⟩) _ _ _;rw[h2];exact wpAny_pure last
theorem zjR {od:Option Obj}{expr:Bool}{Q:Value->Shared->Prop}(X:K.In s.heap)(I:InstAt s.heap x ox C od)(hga:findIn K (.ref C) "__getattribute__"=some (some (.builtin "BaseException.__getattribute__")))
  (hgh:findIn K (.ref C) "__getattr__"=some none) (hsub:mroIn K C (.type "BaseException")=some true) (hf:findObj K C od name=some (.value v)) (hh:handedIn v=true) (h:Q v {s with toks:=s.toks+1}) :
  wpAny (model prog w) A (getAttr (.ref x) name expr) Q E s:=by
 have L0:=I.type (M:=model prog w);have L4:=looks_find (M:=model prog w) X I hf;unfold getAttr;refine wpAny_bind (wpAny_mkText (zf3 (s:={s with toks:=s.toks+1}) X I hga hgh hsub ?_));refine wpAny_bind (wpAny_pure (wpAny_bind (wpAny_pure (wpAny_bind (L0.at (wpAny_bind (L4.at (wpAny_pure ?_))))))));show wpAny _ _ (handedOut v) _ _ _;rw[handedOut_of hh];exact wpAny_pure h
theorem zin {od:Obj}{Q:Option Value->Shared->Prop}(X:K.In s.heap)(I:InstAt s.heap x ox C (some od))(hga:findIn K (.ref C) "__getattribute__"=some (some (.builtin "BaseException.__getattribute__")))
  (hgh:findIn K (.ref C) "__getattr__"=some none) (hsub:mroIn K C (.type "BaseException")=some true) (hdct:hasDictIn K C=true) (ha:findIn K (.ref C) "__class__"=some (some (.builtin "object.__class__")))
  (hn:specialIn K (.builtin "object.__class__") "__get__"=some (some (.builtin "getset_descriptor.__get__"))) (htk:takesIn K (.builtin "object.__class__")=some true) (hm:mroIn K C (.type "object")=some true)
  (h:Q (some (.ref C)) {s with toks:=s.toks+1}):wpAny (model prog w) A (getAttr? (.ref x) "__class__") Q E s:=by
 have hf:findObj K C (some od) "__class__"=some (.bind (.builtin "getset_descriptor.__get__") (.builtin "object.__class__")):=findObj_data (by obtain⟨cd,hc,_⟩:=any_some hdct;rw[hc];rfl) ha hn htk;have L0:=I.type (M:=model prog w);have L4:=looks_find (M:=model prog w) X I hf;unfold getAttr?;refine wpAny_bind (wpAny_mkText ?_);unfold getAttrBy?;refine wpAny_bind (wpAny_attempt (zf3 (s:={s with toks:=s.toks+1}) X I hga hgh hsub ?_));refine wpAny_bind (wpAny_pure (wpAny_bind (wpAny_pure (wpAny_bind (L0.at (wpAny_bind (L4.at ?_)))))));show wpAny _ _ (holding [_] (call _ [_,.ref x,.ref C]) >>= ret) _ _ _;refine wpAny_bind (wpAny_holding (wpAny_call (class_get (s:={s with toks:=s.toks+1}) (ox:=ox) (od:=some od) X I hm ?_)));refine wpAny_pure ?_;show wpAny _ _ (handedOut (.ref C)) _ _ _;rw[handedOut_of (v:=.ref C) rfl];exact wpAny_pure (wpAny_pure h)
theorem zl1 {od:Obj}(hga:findIn K (.ref C) "__getattribute__"=some (some (.builtin "BaseException.__getattribute__")))
  (hgh:findIn K (.ref C) "__getattr__"=some none) (hsub:mroIn K C (.type "BaseException")=some true) (hdct:hasDictIn K C=true) (ha:findIn K (.ref C) "__class__"=some (some (.builtin "object.__class__")))
  (hn:specialIn K (.builtin "object.__class__") "__get__"=some (some (.builtin "getset_descriptor.__get__"))) (htk:takesIn K (.builtin "object.__class__")=some true) (hm:mroIn K C (.type "object")=some true) :
  KitX K (.ref x) (.ref C) (fun h=>InstAt h x ox C (some od)):=by
 obtain⟨cd,hc,_⟩:=any_some hdct;unfold clsIn at hc;split at hc
 . rename_i ho;refine⟨fun _ _ _ I=>I.type,fun _ _ X _ A' Q' E' s' k q=>wpAny_bind (wpAny_loadPart (k _ _ (X _ _ ho)) (wpAny_pure q)),fun h tp dd its n sl X htp=>Bool.eq_false_iff.mpr fun q=>?_,fun X I k=>zin X I hga hgh hsub hdct ha hn htk hm k⟩;have e:C=tp:=Value.ref.inj (beq_iff_eq.mp q);subst e;have z:=(X _ _ ho).symm.trans htp;cases z
 . cases hc
end
end R
end
section
namespace R
open PySem PySem.Spec PyProof.Rows L2
noncomputable abbrev XN (a C:Addr):HO:=.ext fun h=>∃t,h.get? a=some (newX (.ref C) none t)
noncomputable abbrev XD (a C dx:Addr):HO:=.ext fun h=>∃t,h.get? a=some (newX (.ref C) (some dx) t)
noncomputable abbrev XO (a C dx:Addr):HO:=.ext fun h=>∃vs sl,h.get? a=some ⟨.ref C,some dx,.fields vs,sl⟩/\1<vs.size
structure Fly (lo:Nat) (H:Hp) (h:Heap) (a:Addr):Prop where
 ex:∃C dx vs sl,H a=some (XO a C dx)/\h.get? a=some ⟨.ref C,some dx,.fields vs,sl⟩/\Trc h a vs lo/\∀T,vs[1]?=some (.ref T)->H T=none
 lo:lo<=a
theorem XO.ok (e:h.get? a=some ⟨.ref C,some dx,.fields vs,sl⟩)(z:1<vs.size):ObjOk P w H h a (XO a C dx):=
 ⟨⟨vs,sl,e,z⟩,⟨_,e⟩,fun h1 h2 ⟨vs,sl,e,z⟩ k=>⟨vs,sl,k _ e,z⟩⟩
theorem XD.ok (e:h.get? a=some (newX (.ref C) (some dx) t)):ObjOk P w H h a (XD a C dx):=⟨⟨t,e⟩,⟨_,e⟩,fun h1 h2 ⟨t,e⟩ k=>⟨t,k _ e⟩⟩
theorem XN.ok (e:h.get? a=some (newX (.ref C) none t)):ObjOk P w H h a (XN a C):=⟨⟨t,e⟩,⟨_,e⟩,fun h1 h2 ⟨t,e⟩ k=>⟨t,k _ e⟩⟩
noncomputable def CXe (P:Program)(w:World):CXT:=fun outer H s E e s'=>∃a H',e=.ref a/\s'.os=s.os/\AllBare s'.gens/\Un (frs outer) [] H H' s.heap s'.heap/\HOk P w H' s'.heap/\Fly s.heap.objs.size H' s'.heap a/\E (.ref a) none H'
theorem Fly.mono {lo lo':Nat}(f:Fly lo H h a)(l:lo'<=lo):Fly lo' H h a:=by
 obtain⟨C,dx,vs,sl,h1,h2,tr,h4⟩:=f.ex;refine⟨⟨C,dx,vs,sl,h1,h2,?_,h4⟩,le_trans l f.lo⟩;rcases tr with t|⟨T,oT,ts,t1,t2,t3,t4,t5,t6⟩
 . exact .inl t
 . exact .inr ⟨T,oT,ts,t1,t2,t3,t4,t5,le_trans l t6⟩
section
variable {X:Cx} {pins:List (Addr × Obj)} {σ:L2.St} {H:Hp} {s:Shared} {a:Addr} {lo:Nat} {h':Heap}
theorem zb6 (I:Inv X pins σ H s)(stk:X.stack=X.env::X.outer)(fr:X.env.frame=some X.env.locals)(f:Fly lo H s.heap a)(l:X.s₀.heap.objs.size<=lo)(hp:∀p∈X.pn++pins,p.1<lo)
  (he:s.heap.get? a=some oe) (hd:oe.data=.fields vs) (n:Ntd ((X.env::X.outer).filterMap (·.frame)) a oe vs lo s.heap h'):Inv X pins σ H {s with heap:=h'}/\Fly lo H h' a:=by
 obtain⟨C,dx,vs0,sl,h1,h2,tr,h4⟩:=f.ex;rw[he] at h2;cases h2;obtain rfl:vs0=vs:=by simpa using hd
 obtain⟨vs',e1,e2,tr',fr'⟩:=n.exc;have stk':frs X.stack=(X.env::X.outer).filterMap (·.frame):=by rw[stk];rfl
 have frN:∀b,H b≠none->b∉(X.env::X.outer).filterMap (·.frame):=fun b hb hm=>hb (I.stkFree b (by rw[stk'];exact hm));have nT:∀b,H b≠none->vs0[1]?≠some (.ref b):=fun b hb z=>hb (h4 b z);have zsz:1<vs0.size:=by
  rcases tr with t|⟨T,_,_,t,_⟩<;>exact (Array.getElem?_eq_some_iff.mp t).1
 have hok:HOk X.prog X.w H h':=fun b u e=>by
  by_cases hb:b=a
  . subst hb;rw[h1] at e;cases e;exact XO.ok e1 (by rw[e2];exact zsz)
  . refine (I.hok b u e).stay (fun c v hc q=>?_) (fun _ q=>q) fun _ _ q=>q;have hcn:H c≠none:=by rcases hc with z|z<;>(first|(rw[z,e];simp)|(rw[z];simp))
    refine n.keep c v (fun z=>?_) (nT c hcn) (frN c hcn) q;rcases hc with y|y
    . exact hb (y.symm.trans z)
    . rw[z,h1] at y;cases y
 have ch:∃ch:List Addr,(∀b∈ch,(b∈X.ex\/X.s₀.heap.objs.size<=b)/\b≠X.env.locals/\(∀x c,X.env.cells.lookup x=some c->c≠b)/\∀p∈X.pn++pins,p.1≠b)/\∀b,b∉ch->vs0[1]?≠some (.ref b):=by
  rcases tr with t|⟨T,oT,ts,t1,t2,t3,t4,t5,t6⟩
  . exact⟨[],(fun _ z=>nomatch z),fun b _ z=>by rw[t] at z;cases z⟩
  . refine⟨[T],fun b hb=>?_,fun b hb z=>hb (by rw[t1] at z;cases z;exact mem_singleton.mpr rfl)⟩;have e:b=T:=mem_singleton.mp hb;subst e;refine⟨.inr (le_trans l t6),fun z=>?_,fun x c e z=>?_,fun p hp' z=>?_⟩
    . obtain⟨m,⟨o,es,ep,ho,hd',_⟩,_⟩:=I.loc;rw[z,ho] at t3;cases t3;rw[hd'] at t4;cases t4
    . obtain⟨v,o,ho,hd'⟩:=I.cell x c e;rw[z,t3] at ho;cases ho;rw[hd'] at t4;cases t4
    . exact absurd (hp p hp') (by rw[z];exact Nat.not_lt.mpr t6)
 obtain⟨ch,c1,c2⟩:=ch;refine⟨I.step (g':=s.gens) (d':=s.drawn) (t':=s.toks) c1 (fun b o hL hf hc q hn=>?_) (fun b o hL hf hc q hn=>?_) (fun _ _ _ _ q=>q) (fun b o _ q=>n.there b o q) (fun _ _ q=>q) (fun _ _ _ q=>q) (fun b ps q=>⟨#[],by rw[q];simp⟩) (fun m hm=>?_) hok I.bare,⟨C,dx,vs',sl,h1,e1,.inr tr',?_⟩,f.lo⟩
 . refine n.keep b o (fun z=>by rw[z,h1] at hn;cases hn) (c2 b hc) (fun hm=>?_) q;have:=I.stkSub b (by rw[stk'];exact hm);rcases mem_cons.mp this with z|z
   . exact hL z
   . exact hf z
 . refine n.slot b o ?_ q;rw[List.filterMap_cons,fr];exact mem_cons_of_mem _ hf
 . obtain⟨o,es,ep,ho,r⟩:=hm;obtain⟨sl',q⟩:=n.slot X.env.locals o (by rw[List.filterMap_cons,fr];exact mem_cons_self) ho;exact⟨_,es,ep,q,r⟩
 . intro T hT;rcases fr' T hT with z|z
   . exact I.hok.fresh z
   . exact h4 T z
theorem zhX {K:PySem.W.Frag}
  (I:Inv (cxOf (CXe P w) P w K mg base N qual scope f cd A outer s₀ H₀ E) pins σ H s) (fl:Fly s₀.heap.objs.size H s.heap a) (hE:E (.ref a) none H):(cxOf (CXe P w) P w K mg base N qual scope f cd A outer s₀ H₀ E).xe (.ref a) s:=by
 have J:Inv (cxOf (CXe P w) P w K mg base N qual scope f cd A outer s₀ H₀ E) [] σ H s:=I.pins_of fun p z=>nomatch z;obtain⟨C,dx,vs,sl,h1,h2,tr,h4⟩:=id fl.ex;refine wpAny_bind (zfI J.ok.frames J.stack rfl h2 rfl tr J.sz fun h' n=>?_);obtain⟨J',f'⟩:=zb6 J rfl rfl fl (le_refl _) (fun p z=>absurd (show p∈([]:List (Addr × Obj)) from z) (by simp)) h2 rfl n;exact⟨a,H,rfl,J'.os,J'.bare,J'.base,J'.hok,f',hE⟩
end
end R
end
section
namespace R
open PySem PySem.Spec PyProof.Rows L2
noncomputable abbrev bmV:List Value:=[.type "ValueError",.type "Exception",.type "BaseException",.type "object"]
noncomputable def excJ (K:PySem.W.Frag)(C fI:Addr):Bool:=match K.lookup C with
 | some ⟨.type "type",_,.cls cd,sl⟩=>(match cd.mro,sl.toList with
   |.ref D::bm,[_,_,_,_,some (.builtin n),_]=>D == C&&(n == "ValueError.__new__"&&(!cd.hasDel&&(PySem.W.tailIn K bmV bm&&(PySem.W.nsOkIn K cd.ns&&nsIn K cd.ns "__init__" == some (some (.ref fI))))))
   |_,_=>false)
 |_=>false
structure XcAt (h:Heap) (C fI:Addr):Prop where
 ex:∃(nm q:Str) (N:Addr) (bs bm:List Value) (hdct:Bool) (sn:List Str) (sub:List Value) (ab:Bool) (col:Option Bool) (dd:Option Addr) (k0 k1 k2 k3 k5:Option Value) (mN:Str->Option Value),
  h.get? C=some (excClassObj nm q C N bs bm hdct sn sub ab col dd k0 k1 k2 k3 k5 "ValueError.__new__")/\h.Ns N mN/\mN "__init__"=some (.ref fI)/\OwnTail h bmV bm
theorem zlF {K:PySem.W.Frag}(X:K.In h)(G:h.Ns N m)(e:nsIn K N x=some (some v)):m x=some v:=by
 obtain⟨o,es,ep,ho,hd,_,hf⟩:=G;unfold nsIn at e;split at e
 . rename_i e1;have:=X _ _ e1;rw[ho] at this;cases this;cases hd;split at e
   . rename_i q;cases e;rw[<-hf];unfold nsFind findBy;rw[<-Array.find?_toList,q];rfl
   . split at e<;>cases e
 . cases e
theorem zkF {K:PySem.W.Frag}(X:K.In h)(q:excJ K C fI=true):XcAt h C fI:=by
 unfold excJ at q;split at q
 . rename_i dd cd sl ho;split at q
   . rename_i D bm k0 k1 k2 k3 n k5 hm hs;simp at q;obtain⟨rfl,rfl,hdel,ht,hok,hi⟩:=q;obtain⟨nm,bs,mro,ns,qn,hd,sn,sub,ab,col,del⟩:=cd;subst hm hdel;obtain⟨l⟩:=sl;subst hs;exact⟨nm,qn,ns,bs,bm,hd,sn,sub,ab,col,dd,k0,k1,k2,k3,k5,_,X _ _ ho,.of_isNs (PySem.W.isNs_of_in X hok),zlF X (.of_isNs (PySem.W.isNs_of_in X hok)) hi,PySem.W.tail_of_in X ht⟩
   . cases q
 . cases q
structure Xc (K:PySem.W.Frag) (C fI:Addr) (f:Str):Prop where
 ex:excJ K C fI=true
 fn:isFn K (.ref fI)=true
 sa:PySem.W.findIn K (.ref C) "__setattr__"=some (some (.builtin "object.__setattr__"))
 po:zhM K C=true
 hd:PySem.W.hasDictIn K C=true
 no:NoAttr K C f
section
variable {X:Cx} {pins:List (Addr × Obj)} {σ:L2.St} {H:Hp} {s:Shared} {e C fI:Addr} {f:Str}
theorem zms (h:H a=some o):upd H a o=H:=by
 funext b;unfold upd;split
 . rename_i z;rw[z,h]
 . rfl
theorem zlQ (I:Inv X pins σ H s)(x:excJ X.K C fI=true)(he:H e=some (XN e C))(h:∀s',Inv X pins σ H s'->Q .none s') :
  wpAny (model X.prog X.w) X.A (call (.builtin "ValueError.__init__") [.ref e,v]) Q X.xe s:=by
 obtain⟨nm,q,N,bs,bm,hdct,sn,sub,ab,col,dd,k0,k1,k2,k3,k5,mN,hC,hn,hi,T⟩:=(zkF I.kIn x).ex;obtain⟨⟨t,et⟩,_⟩:=(I.hok e _ he);obtain⟨hh,g,d,tk,os⟩:=s;refine zjS F.excBase_ValueError T hC et fun h' t1 k1 k2=>h _ ?_;have:=I.write (t':=tk) (h':=h') (by rw[he];exact True.intro) (.inl rfl) k1 ⟨_,k2⟩ (XN.ok k2);rw[zms he] at this;exact this
theorem zmb (I:Inv X pins σ H s)(c:Xc X.K C fI f)(he:H e=some (XN e C))(rv:RelV v u)
  (h:∀dx od s',H dx=none->dx≠e->Inv X pins σ (upd (upd H dx (.frz od (.xd [(f,v)]))) e (XD e C dx)) s'->Q () s'):wpAny (model X.prog X.w) X.A (setAttr (.ref e) f u) Q X.xe s:=by
 obtain⟨⟨t,et⟩,_⟩:=(I.hok e _ he);have lt:=Heap.lt_size et;refine zim I.kIn et rfl rfl rfl c.sa c.po c.no c.hd fun h' k1 k2 k3=>?_;obtain⟨od,es,ep,ho,r⟩:=id k2;have ne:s.heap.objs.size≠e:=ne_of_gt lt;apply h s.heap.objs.size od _ (I.hok.fresh (le_refl _)) ne;have un:Un X.fs [] H (upd (upd H s.heap.objs.size (.frz od (.xd [(f,v)]))) e (XD e C s.heap.objs.size)) s.heap h':=by
  refine⟨fun b o q n _ _=>k3 b o (fun z=>by rw[z,he] at n;cases n) q,fun b o q n _ _=>⟨o.slots,k3 b o (fun z=>by rw[z,he] at n;cases n) q⟩,fun b o q n _=>?_,fun b o q _=>?_,fun b xs q=>?_,fun b o u q=>?_,fun b ps q=>?_⟩
  . rw[zah (fun z=>by rw[z,he] at n;cases n),zah (ne_of_lt (Heap.lt_size q))];exact n
  . by_cases hb:b=e
    . subst hb;exact⟨_,k1⟩
    . exact⟨o,k3 b o hb q⟩
  . have lb:=I.hok.lt q;rw[zah (fun z=>by rw[z,he] at q;cases q),zah (ne_of_lt lb)];exact q
  . have lb:=I.hok.lt q;rw[zah (fun z=>by rw[z,he] at q;cases q),zah (ne_of_lt lb)];exact q
  . have lb:=I.hok.lt q;rw[zah (fun z=>by rw[z,he] at q;cases q),zah (ne_of_lt lb),q];simp
 refine I.un (t':=s.toks+2) un fun b o q=>?_;by_cases hb:b=e
 . subst hb;rw[zai] at q;cases q;exact XD.ok k1
 . rw[zah hb] at q;by_cases hd:b=s.heap.objs.size
   . subst hd;rw[zai] at q;cases q;refine⟨ho,_,k2,fun g=>?_⟩;by_cases hg:g=f
     . subst hg;simp[RelO,rv]
     . have:(g == f)=false:=by simpa using hg
       simp[RelO,List.lookup,this,hg]
   . rw[zah hd] at q;refine (I.hok b o q).stay (fun c w hc qc=>k3 c w (fun z=>?_) qc) (fun c hc=>?_) fun c xs hc=>?_
     . rcases hc with y|y
       . exact hb (y.symm.trans z)
       . rw[z,he] at y;cases y
     . have lc:=I.hok.lt hc;rw[zah (fun z=>by rw[z,he] at hc;cases hc),zah (ne_of_lt lc)];exact hc
     . have lc:=I.hok.lt hc;rw[zah (fun z=>by rw[z,he] at hc;cases hc),zah (ne_of_lt lc)];exact hc
end
structure XUp (K:PySem.W.Frag) (mg:Str->Option Value) (xR:Str):Prop where
 ex:∃CR:Addr,mg xR=some (.ref CR)/\specialIn K (.ref CR) "__getattribute__"=some (some (.builtin "type.__getattribute__"))/\readsIn K CR (.type "type")=true/\findCls K (.ref CR) (.type "type") "__init__"=some (.val (.builtin "ValueError.__init__"))
structure XSt (st:Stmt) (xR y f:Str):Prop where
 body:∃(txt:Str) (j:Nat) (p1 p2 p3 p4 p5 p6 p7 p8 p9 p10:Pos),zas st=[.Expr (.Call (.Attribute (.Name xR p1) "__init__" p2) [.Name "self" p3,.Constant (.str txt) j p4] [] p5) p6,.Assign [.Attribute (.Name "self" p7) f p8] (.Name y p9) p10]/\(p2.endLine == p5.line)=true
 sc:FnScope ["self",y] ["self",y] (zae st)
 v1:(zae st).names.lookup ("self":Str)=some .local
 v2:(zae st).names.lookup y=some .local
 gl:(zae st).names.lookup xR=some .globalImplicit
 n1:(xR == ("__debug__":Str))=false
 n2:(y == ("__debug__":Str))=false/\(y == ("__classdict__":Str))=false
noncomputable def spI (K:PySem.W.Frag)(fI:Addr)(f:Str):Sp:=fun vs H Q _=>∃e C v,vs=[.ref e,v]/\H e=some (XN e C)/\Xc K C fI f/\∀dx od,H dx=none->dx≠e->Q .non (upd (upd H dx (.frz od (.xd [(f,v)]))) e (XD e C dx))
structure XGet (K:PySem.W.Frag) (C:Addr):Prop where
 ga:PySem.W.findIn K (.ref C) "__getattribute__"=some (some (.builtin "BaseException.__getattribute__"))
 gh:PySem.W.findIn K (.ref C) "__getattr__"=some none
 sb:PySem.W.mroIn K C (.type "BaseException")=some true
 hd:PySem.W.hasDictIn K C=true
end R
end
section
namespace R
open PySem L2
def KL (K:PySem.W.Frag)(a:Addr)(xs:List V):Prop:=∃(o:Obj) (its:Array Value) (n:Nat),K.lookup a=some o/\o.cls=.type "list"/\o.dict=none/\o.data=.seq its n/\its.size<=sizeLine/\Vals xs its.toList
def FixL (K:PySem.W.Frag)(H:Hp)(a:Addr)(xs:List V):Prop:=(∃o,H a=some (.frz o (.lst xs)))\/KL K a xs
theorem FixL.sq (h:FixL K H a xs):SqL K H a xs:=h.elim (fun⟨o,e⟩=>.inl (.inr ⟨o,e⟩)) .inr
class Mks where
 ts:List (Addr × Str)
 cl:List Addr
 xc:List Addr:=[]
variable [Mks]
def TabIn (H:Hp)(P:Addr)(q:Str):Prop:=∃ps:Array Value,H P=some (.tbl ps)/\TriplesOk ps.toList/\
 ∀(pos:Pos) (v:Value),codeAmong pos ps.toList=some v->∃(c:Addr) (oc:Obj) (vs:Array Value) (t:Tok),v=.ref c/\H c=some (.frz oc (.own 0))/\oc.data=.fields vs/\vs[1]?=some (.str q t)
theorem TabIn.up (t:TabIn H P q)(e:H' P=H P)(f:∀b o u,H b=some (.frz o u)->H' b=some (.frz o u)):TabIn H' P q:=by
 obtain⟨ps,h1,h2,h3⟩:=t;refine⟨ps,by rw[e];exact h1,h2,fun pos v hv=>?_⟩;obtain⟨c,oc,vs,t,a1,a2,a3⟩:=h3 pos v hv;exact⟨c,oc,vs,t,a1,f _ _ _ a2,a3⟩
def TB (H:Hp):Prop:=∀p∈Mks.ts,TabIn H p.1 p.2
structure Kp (H H':Hp):Prop where
 tups:Tups H H'
 frzs:∀b o u,H b=some (.frz o u)->H' b=some (.frz o u)
 tab:TB H->TB H'
theorem Kp.refl (H:Hp):Kp H H:=⟨Tups.refl H,fun _ _ _ h=>h,fun h=>h⟩
theorem Kp.trans (a:Kp H H1)(b:Kp H1 H2):Kp H H2:=⟨a.tups.trans b.tups,fun c o u h=>b.frzs c o u (a.frzs c o u h),fun h=>b.tab (a.tab h)⟩
theorem Kp.same (a:Tups H H')(b:∀b o u,H b=some (.frz o u)->H' b=some (.frz o u))(c:∀P ps,H P=some (.tbl ps)->H' P=some (.tbl ps)):Kp H H':=
 ⟨a,b,fun h p hp=>by
  obtain⟨ps,h1,_⟩:=id (h p hp);exact (h p hp).up ((c _ _ h1).trans h1.symm) b⟩
theorem FixL.kp (h:FixL K H a xs)(k:Kp H H'):FixL K H' a xs:=h.elim (fun⟨o,e⟩=>.inl ⟨o,k.frzs _ _ _ e⟩) .inr
mutual
def RV (K:PySem.W.Frag)(ι:List Addr)(H:Hp):D->V->Prop
 |.non,v=>v=.non
 |.bl b,v=>v=.bl b
 |.int i,v=>v=.int i
 |.str x,v=>v=.str x
 |.tup ds,v=>∃a xs,v=.ref a/\H a=some (.tup xs)/\RVs K ι H ds xs
 |.ref l,v=>∃a,ι[l]?=some a/\v=.ref a
 |.fix ds,v=>∃a xs,v=.ref a/\FixL K H a xs/\RVs K ι H ds xs
def RVs (K:PySem.W.Frag)(ι:List Addr)(H:Hp):List D->List V->Prop
 | [],vs=>vs=[]
 |d::ds,vs=>∃v r,vs=v::r/\RV K ι H d v/\RVs K ι H ds r
end
def RFs (K:PySem.W.Frag)(ι:List Addr)(H:Hp):List (Str × D)->List (Str × V)->Prop
 | [],ws=>ws=[]
 |(f,d)::r,ws=>∃v w,ws=(f,v)::w/\RV K ι H d v/\RFs K ι H r w
def RO (K:PySem.W.Frag)(ι:List Addr)(H:Hp)(a:Addr):MO->Prop
 |.lst ds=>∃xs,H a=some (.lst xs)/\RVs K ι H ds xs
 |.ins c fs=>∃C dx ws,Mks.cl[c]?=some C/\H a=some (.ins C dx ws)/\RFs K ι H fs ws
 |.exc c fs=>∃C dx od ws,Mks.xc[c]?=some C/\H a=some (XO a C dx)/\H dx=some (.frz od (.xd ws))/\RFs K ι H fs ws
structure RH (K:PySem.W.Frag) (ι:List Addr) (H:Hp) (S:St):Prop where
 len:ι.length=S.len
 nd:ι.Nodup
 obj:∀l o,S.get l=some o->∃a,ι[l]?=some a/\RO K ι H a o
 tab:TB H
structure Ext (ι:List Addr) (H:Hp) (ι':List Addr) (H':Hp):Prop where
 pre:ι <+: ι'
 kp:Kp H H'
 rest:∀a o,a∉ι->H a=some o->(H' a=some o\/((∃ps,o=.tbl ps)/\∃ps,H' a=some (.tbl ps)))/\a∉ι'
theorem Ext.refl (ι:List Addr)(H:Hp):Ext ι H ι H:=⟨prefix_refl _,Kp.refl H,fun a o h e=>⟨.inl e,h⟩⟩
theorem Ext.trans (a:Ext ι H ι1 H1)(b:Ext ι1 H1 ι2 H2):Ext ι H ι2 H2:=
 ⟨a.pre.trans b.pre,a.kp.trans b.kp,fun x o h e=>by
  obtain⟨e1,h1⟩:=a.rest x o h e;rcases e1 with e1|⟨t,ps,e1⟩
  . exact b.rest x o h1 e1
  . obtain⟨e2,h2⟩:=b.rest x _ h1 e1;refine⟨.inr ⟨t,?_⟩,h2⟩;rcases e2 with e2|⟨_,e2⟩
    . exact⟨ps,e2⟩
    . exact e2⟩
theorem Ext.keep (x:Ext ι H ι1 H1)(h:a∉ι)(e:H a=some o)(n:∀ps,o≠.tbl ps):H1 a=some o:=
 (x.rest a o h e).1.elim id fun⟨⟨ps,z⟩,_⟩=>absurd z (n ps)
theorem zbV {ι ι':List Addr}(h:ι <+: ι'){l:Nat}(e:ι[l]?=some a):ι'[l]?=some a:=by
 obtain⟨t,rfl⟩:=h;rw[getElem?_append_left (List.getElem?_eq_some_iff.mp e).1];exact e
mutual
theorem RV.up {K:PySem.W.Frag}{ι ι':List Addr}{H H':Hp}(hp:ι <+: ι')(hk:Kp H H'):∀{d:D} {v:V},RV K ι H d v->RV K ι' H' d v
 |.non,_,r=>r
 |.bl _,_,r=>r
 |.int _,_,r=>r
 |.str _,_,r=>r
 | .tup ds,_,r=>by
   obtain⟨a,xs,e,ha,q⟩:=r;exact⟨a,xs,e,hk.tups _ _ ha,RVs.up hp hk q⟩
 | .ref l,_,r=>by
   obtain⟨a,e,q⟩:=r;exact⟨a,zbV hp e,q⟩
 | .fix ds,_,r=>by
   obtain⟨a,xs,e,ha,q⟩:=r;exact⟨a,xs,e,ha.kp hk,RVs.up hp hk q⟩
theorem RVs.up {K:PySem.W.Frag}{ι ι':List Addr}{H H':Hp}(hp:ι <+: ι')(hk:Kp H H'):∀{ds:List D} {vs:List V},RVs K ι H ds vs->RVs K ι' H' ds vs
 | [],_,r=>r
 | d::ds,vs,r=>by
   obtain⟨v,w,e,r1,r2⟩:=r;exact⟨v,w,e,RV.up hp hk r1,RVs.up hp hk r2⟩
end
theorem RFs.up (hp:ι <+: ι')(hk:Kp H H'):∀{fs:List (Str × D)} {ws:List (Str × V)},RFs K ι H fs ws->RFs K ι' H' fs ws
 | [],_,h=>h
 | (f,d)::r,_,h=>by
   obtain⟨v,w,e,r1,r2⟩:=h;exact⟨v,w,e,RV.up hp hk r1,RFs.up hp hk r2⟩
theorem RFs.length:∀{fs:List (Str × D)} {ws:List (Str × V)},RFs K ι H fs ws->ws.length=fs.length
 | [],_,h=>by cases h;rfl
 | (f,d)::r,_,h=>by
   obtain⟨v,w,rfl,r1,r2⟩:=h;simp[RFs.length r2]
theorem RFs.look (f:Str):∀{fs:List (Str × D)} {ws:List (Str × V)},RFs K ι H fs ws->(fs.lookup f=none/\ws.lookup f=none)\/∃d v,fs.lookup f=some d/\ws.lookup f=some v/\RV K ι H d v
 | [],_,h=>by cases h;exact .inl ⟨rfl,rfl⟩
 | (g,d)::r,_,h=>by
   obtain⟨v,w,rfl,r1,r2⟩:=h;by_cases c:(f == g)=true
   . exact .inr ⟨d,v,by simp[List.lookup,c],by simp[List.lookup,c],r1⟩
   . have c:(f == g)=false:=by simpa using c
     simp only[List.lookup,c];exact RFs.look f r2
theorem RFs.put (f:Str)(q:RV K ι H d v):∀{fs:List (Str × D)} {ws:List (Str × V)},RFs K ι H fs ws->RFs K ι H (zc7 f d fs) (putF f v ws)
 | [],_,h=>by cases h;exact⟨v,[],rfl,q,rfl⟩
 | (g,x)::r,_,h=>by
   obtain⟨u,w,rfl,r1,r2⟩:=h;unfold zc7 putF;by_cases c:g=f
   . rw[if_pos c,if_pos c];exact⟨v,w,rfl,q,r2⟩
   . rw[if_neg c,if_neg c];exact⟨u,_,rfl,r1,RFs.put f q r2⟩
theorem RV.ext (h:Ext ι H ι' H')(r:RV K ι H d v):RV K ι' H' d v:=r.up h.pre h.kp
theorem RVs.ext (h:Ext ι H ι' H')(r:RVs K ι H ds vs):RVs K ι' H' ds vs:=r.up h.pre h.kp
theorem RVs.length:∀{ds:List D} {vs:List V},RVs K ι H ds vs->vs.length=ds.length
 | [],_,r=>by rw[show _=[] from r];rfl
 | d::ds,vs,r=>by
   obtain⟨v,w,rfl,_,r2⟩:=r;simp[RVs.length r2]
theorem RVs.get:∀{ds:List D} {vs:List V} {i:Nat} {d:D},RVs K ι H ds vs->ds[i]?=some d->∃v,vs[i]?=some v/\RV K ι H d v
 | [],_,_,_,_,e=>by simp at e
 | d::ds,vs,0,d',r,e=>by
   obtain⟨v,w,rfl,r1,_⟩:=r;simp at e;subst e;exact⟨v,rfl,r1⟩
 | d::ds,vs,i+1,d',r,e=>by
   obtain⟨v,w,rfl,_,r2⟩:=r;obtain⟨u,e1,e2⟩:=RVs.get r2 (by simpa using e);exact⟨u,by simpa using e1,e2⟩
theorem RVs.get' {i:Nat}(r:RVs K ι H ds vs)(e:vs[i]?=some v):∃d,ds[i]?=some d/\RV K ι H d v:=by
 have hi:i<ds.length:=by rw[<-r.length];exact (List.getElem?_eq_some_iff.mp e).1
 obtain⟨u,e1,e2⟩:=r.get (List.getElem?_eq_getElem hi);rw[e] at e1;cases e1;exact⟨_,List.getElem?_eq_getElem hi,e2⟩
theorem RVs.append:∀{ds es:List D} {vs us:List V},RVs K ι H ds vs->RVs K ι H es us->RVs K ι H (ds++es) (vs++us)
 | [],_,_,_,r,q=>by rw[show _=[] from r];exact q
 | d::ds,es,vs,us,r,q=>by
   obtain⟨v,w,rfl,r1,r2⟩:=r;exact⟨v,w++us,rfl,r1,RVs.append r2 q⟩
theorem RVs.take:∀{ds:List D} {vs:List V} (n:Nat),RVs K ι H ds vs->RVs K ι H (ds.take n) (vs.take n)
 |_,_,0,_=>rfl
 | [],_,n+1,r=>by rw[show _=[] from r];rfl
 | d::ds,vs,n+1,r=>by
   obtain⟨v,w,rfl,r1,r2⟩:=r;exact⟨v,w.take n,rfl,r1,RVs.take n r2⟩
theorem RVs.drop:∀{ds:List D} {vs:List V} (n:Nat),RVs K ι H ds vs->RVs K ι H (ds.drop n) (vs.drop n)
 |_,_,0,r=>r
 | [],_,n+1,r=>by rw[show _=[] from r];rfl
 | d::ds,vs,n+1,r=>by
   obtain⟨v,w,rfl,r1,r2⟩:=r;exact RVs.drop n r2
theorem RVs.set (q:RV K ι H d v):∀{ds:List D} {vs:List V} (n:Nat),RVs K ι H ds vs->RVs K ι H (ds.set n d) (vs.set n v)
 | [],_,n,r=>by rw[show _=[] from r];rfl
 | _::ds,vs,0,r=>by
   obtain⟨_,w,rfl,r1,r2⟩:=r;exact⟨v,w,rfl,q,r2⟩
 | _::ds,vs,n+1,r=>by
   obtain⟨u,w,rfl,r1,r2⟩:=r;exact⟨u,w.set n v,rfl,r1,RVs.set q n r2⟩
theorem RVs.ints:∀ns:List Int,RVs K ι H (ns.map D.int) (ns.map V.int)
 | []=>rfl
 |n::ns=>⟨_,_,rfl,rfl,RVs.ints ns⟩
theorem RVs.ints_eq:∀{ns:List Int} {vs:List V},RVs K ι H (ns.map D.int) vs->vs=ns.map V.int
 | [],_,h=>h
 | n::ns,vs,h=>by
   obtain⟨v,r,rfl,h1,h2⟩:=h;rw[RVs.ints_eq h2,show v=.int n from h1];rfl
theorem zfT:∀{ds:List D} {ns:List Int},zbR ds=some ns->ds=ns.map D.int:=by
 intro ds;unfold zbR;induction ds with
 |nil=>intro ns h;simp at h;subst h;rfl
 | cons d ds ih=>
   intro ns h;rw[mapM_cons] at h;cases d with
   | int i=>
     cases e:List.mapM zdR ds with
     |none=>rw[e] at h;simp at h
     |some ms=>rw[e] at h;simp[zdR] at h;subst h;simp[ih e]
   |_=>simp[zdR] at h
mutual
theorem RV.flat {K:PySem.W.Frag}{ι:List Addr}{H:Hp}:∀{d:D} {v:V},RV K ι H d v->R.flat ι.length d=true
 |.non,_,_=>by simp[R.flat]
 |.bl _,_,_=>by simp[R.flat]
 |.int _,_,_=>by simp[R.flat]
 |.str _,_,_=>by simp[R.flat]
 | .tup ds,_,r=>by
   obtain⟨a,xs,e,ha,q⟩:=r;simp only[R.flat];exact RVs.flats q
 | .ref l,_,r=>by
   obtain⟨a,e,q⟩:=r;simp only[R.flat,decide_eq_true_eq];exact (List.getElem?_eq_some_iff.mp e).1
 | .fix ds,_,r=>by
   obtain⟨a,xs,e,ha,q⟩:=r;simp only[R.flat];exact RVs.flats q
theorem RVs.flats {K:PySem.W.Frag}{ι:List Addr}{H:Hp}:∀{ds:List D} {vs:List V},RVs K ι H ds vs->R.flats ι.length ds=true
 | [],_,_=>by simp[R.flats]
 | d::ds,vs,r=>by
   obtain⟨v,w,e,r1,r2⟩:=r;simp only[R.flats,and_eq_true];exact⟨RV.flat r1,RVs.flats r2⟩
end
mutual
theorem RV.restrict {K:PySem.W.Frag}{ι ι':List Addr}{H:Hp}(hp:ι <+: ι'):∀{d:D} {v:V},R.flat ι.length d=true->RV K ι' H d v->RV K ι H d v
 |.non,_,_,r=>r
 |.bl _,_,_,r=>r
 |.int _,_,_,r=>r
 |.str _,_,_,r=>r
 | .tup ds,_,f,r=>by
   obtain⟨a,xs,e,ha,q⟩:=r;simp only[R.flat] at f;exact⟨a,xs,e,ha,RVs.restrict hp f q⟩
 | .ref l,_,f,r=>by
   obtain⟨a,e,q⟩:=r;simp only[R.flat,decide_eq_true_eq] at f;refine⟨a,?_,q⟩;obtain⟨t,rfl⟩:=hp;rw[getElem?_append_left f] at e;exact e
 | .fix ds,_,f,r=>by
   obtain⟨a,xs,e,ha,q⟩:=r;simp only[R.flat] at f;exact⟨a,xs,e,ha,RVs.restrict hp f q⟩
theorem RVs.restrict {K:PySem.W.Frag}{ι ι':List Addr}{H:Hp}(hp:ι <+: ι'):∀{ds:List D} {vs:List V},R.flats ι.length ds=true->RVs K ι' H ds vs->RVs K ι H ds vs
 | [],_,_,r=>r
 | d::ds,vs,f,r=>by
   obtain⟨v,w,e,r1,r2⟩:=r;simp only[R.flats,and_eq_true] at f;exact⟨v,w,e,RV.restrict hp f.1 r1,RVs.restrict hp f.2 r2⟩
end
theorem RFs.flats:∀{fs:List (Str × D)} {ws:List (Str × V)},RFs K ι H fs ws->R.flats ι.length (fs.map (·.2))=true
 | [],_,_=>by simp
 | (f,d)::r,_,h=>by
   obtain⟨v,w,_,r1,r2⟩:=h;simp;exact⟨RV.flat r1,RFs.flats r2⟩
theorem RFs.restrict (hp:ι <+: ι'):∀{fs:List (Str × D)} {ws:List (Str × V)},R.flats ι.length (fs.map (·.2))=true->RFs K ι' H fs ws->RFs K ι H fs ws
 | [],_,_,h=>h
 | (f,d)::r,_,f0,h=>by
   obtain⟨v,w,e,r1,r2⟩:=h;simp at f0;exact⟨v,w,e,RV.restrict hp f0.1 r1,RFs.restrict hp f0.2 r2⟩
theorem RO.up (h:RO K ι H a o)(hp:ι <+: ι')(hk:Kp H H')(e:H' a=H a):RO K ι' H' a o:=by
 cases o with
 |lst ds=>obtain⟨xs,h1,h2⟩:=h;exact⟨xs,e.trans h1,h2.up hp hk⟩
 |ins c fs=>obtain⟨C,dx,ws,h0,h1,h2⟩:=h;exact⟨C,dx,ws,h0,e.trans h1,h2.up hp hk⟩
 |exc c fs=>obtain⟨C,dx,od,ws,h0,h1,h2,h3⟩:=h;exact⟨C,dx,od,ws,h0,e.trans h1,hk.frzs _ _ _ h2,h3.up hp hk⟩
theorem RO.stay (h:RO K ι H a o)(x:Ext ι H ι' H')(e:H' a=H a):RO K ι' H' a o:=h.up x.pre x.kp e
section
variable {K:PySem.W.Frag} {ι ι':List Addr} {H H':Hp} {S S' T:St} {l:Nat} {a p:Addr}
theorem RH.mem (h:RH K ι H S)(e:S.get l=some o):∃a,ι[l]?=some a/\RO K ι H a o/\a∈ι:=by
 obtain⟨a,h1,h2⟩:=h.obj l o e;exact⟨a,h1,h2,mem_of_getElem? h1⟩
theorem zjP (h:l<S.len):∃o,S.get l=some o:=by
 unfold St.len at h;unfold St.get;split
 . rename_i c;exact⟨_,List.getElem?_eq_getElem c⟩
 . exact⟨_,List.getElem?_eq_getElem (by omega)⟩
theorem RH.off (h:RH K ι H S)(x:Ext ι H ι H')(e:∀a∈ι,H' a=H a):RH K ι H' S:=
 ⟨h.len,h.nd,fun l o q=>let ⟨a,h1,h2,hm⟩:=h.mem q;⟨a,h1,h2.stay x (e a hm)⟩,x.kp.tab h.tab⟩
theorem RH.live (h:RH K ι H S)(ha:a∈ι):∃o,H a=some o/\(∀xs,o≠.tup xs)/\(∀z u,o≠.frz z u)/\∀ps,o≠.tbl ps:=by
 obtain⟨l,hl⟩:=List.mem_iff_getElem?.mp ha;have hlt:l<S.len:=by rw[<-h.len];exact (List.getElem?_eq_some_iff.mp hl).1
 obtain⟨o,e⟩:=zjP hlt;obtain⟨b,h1,h2⟩:=h.obj l o e;rw[hl] at h1;cases h1;cases o with
 |lst ds=>obtain⟨xs,q,_⟩:=h2;exact⟨_,q,⟨fun _ z=>(by cases z),fun _ _ z=>(by cases z),fun _ z=>(by cases z)⟩⟩
 |ins c fs=>obtain⟨C,dx,ws,_,q,_⟩:=h2;exact⟨_,q,⟨fun _ z=>(by cases z),fun _ _ z=>(by cases z),fun _ z=>(by cases z)⟩⟩
 |exc c fs=>obtain⟨C,dx,od,ws,_,q,_⟩:=h2;exact⟨_,q,⟨fun _ z=>(by cases z),fun _ _ z=>(by cases z),fun _ z=>(by cases z)⟩⟩
theorem RH.fresh (h:RH K ι H S)(hp:H p=Option.none):p∉ι:=fun hm=>by
 obtain⟨o,e,_⟩:=h.live hm;rw[hp] at e;cases e
theorem RH.notup (h:RH K ι H S)(hp:H p=some (.tup xs)):p∉ι:=fun hm=>by
 obtain⟨o,e,q,_⟩:=h.live hm;rw[hp] at e;cases e;exact q _ rfl
theorem Kp.new (hp:H p=Option.none)(o:HO):Kp H (upd H p o):=
 .same (Tups.upd_new hp) (fun b z u e=>by rw[zah (zaA e hp)];exact e) fun b ps e=>by rw[zah (zaA e hp)];exact e
theorem Ext.new (hp:H p=Option.none)(o:HO):Ext ι H ι (upd H p o):=
 ⟨prefix_refl _,Kp.new hp o,fun a u h e=>⟨.inl (by rw[zah (zaA e hp)];exact e),h⟩⟩
theorem RH.new (h:RH K ι H S)(hp:H p=Option.none)(o:HO):RH K ι (upd H p o) S:=
 h.off (Ext.new hp o) fun a ha=>zah fun e=>h.fresh hp (e▸ha)
theorem zfZ (S:St)(o:MO):(S.push o).get S.len=some o:=by
 unfold St.get St.push;unfold St.len;simp
theorem zcR (h:l<S.len):(S.push o).get l=S.get l:=by
 unfold St.len at h;unfold St.get St.push;simp only;split
 . rfl
 . rw[getElem?_append_left (by omega)]
theorem zcx (S:St)(o:MO):(S.push o).len=S.len+1:=by simp[St.push,St.len];omega
theorem Ext.obj (h:RH K ι H S)(hp:H p=Option.none)(u:HO):Ext ι H (ι++[p]) (upd H p u):=
 ⟨prefix_append _ _,Kp.new hp u,fun a o ha e=>⟨.inl (by rw[zah (zaA e hp)];exact e),by
  intro z;rcases mem_append.mp z with z|z
  . exact ha z
  . simp at z;exact zaA e hp z⟩⟩
theorem RH.obj' (h:RH K ι H S)(hp:H p=Option.none)(u:HO)(o:MO)(ho:RO K (ι++[p]) (upd H p u) p o):RH K (ι++[p]) (upd H p u) (S.push o):=by
 refine⟨by rw[length_append,h.len,zcx];rfl,?_,fun l o' e=>?_,(Kp.new hp u).tab h.tab⟩
 . rw[nodup_append];refine⟨h.nd,by simp,fun a ha b hb=>?_⟩;simp at hb;subst hb;exact fun z=>h.fresh hp (z▸ha)
 . by_cases hl:l<S.len
   . rw[zcR hl] at e;obtain⟨a,h1,h2,hm⟩:=h.mem e;exact⟨a,zbV (prefix_append _ _) h1,h2.stay (Ext.obj h hp u) (zah fun z=>h.fresh hp (z▸hm))⟩
   . have hl2:=za9 e;rw[zcx] at hl2;have:l=S.len:=by omega
     subst this;rw[zfZ] at e;cases e;exact⟨p,by rw[<-h.len];simp,ho⟩
theorem RH.lay (h:RH K ι H S)(hp:H p=Option.none)(r:RVs K ι H ds xs):RH K (ι++[p]) (upd H p (.lst xs)) (S.push (.lst ds)):=
 h.obj' hp _ _ ⟨xs,zai,r.ext (Ext.obj h hp _)⟩
theorem RH.last (h:RH K ι H S)(p:Addr):(ι++[p])[S.len]?=some p:=by rw[<-h.len];simp
theorem Ext.wr (h:RH K ι H S)(e:S.get l=some o)(hl:ι[l]?=some a)(u:HO):Ext ι H ι (upd H a u):=by
 have hm:=mem_of_getElem? hl;refine⟨prefix_refl _,.same (fun b xs hb=>?_) (fun b z v hb=>?_) fun b ps hb=>?_,fun b o hb e=>⟨.inl ((zah fun (z:b=a)=>hb (by rw[z];exact hm)).trans e),hb⟩⟩
 . rw[zah];exact hb;rintro rfl;exact h.notup hb hm
 . rw[zah];exact hb;rintro rfl;obtain⟨o,e,_,q,_⟩:=h.live hm;rw[hb] at e;cases e;exact q _ _ rfl
 . rw[zah];exact hb;rintro rfl;obtain⟨o,e,_,_,q⟩:=h.live hm;rw[hb] at e;cases e;exact q _ rfl
theorem zlo (e:S.put l o=some S'):S'.len=S.len/\(l<S.len->S'.get l=some o)/\(∀m,m≠l->S'.get m=S.get m)/\S.frz.length<=l:=by
 unfold St.put at e;split at e
 . cases e
 . split at e
   . cases e
   . injection e with e;subst e;rename_i c1 c2;refine⟨by simp[St.len],fun hl=>?_,fun m hm=>?_,by omega⟩
     . unfold St.len at hl;unfold St.get;simp[c1,if_false];rw[getElem?_set_self (by omega)]
     . unfold St.get;simp only;split
       . rfl
       . rw[getElem?_set_ne (by omega)]
theorem RH.wr (h:RH K ι H S)(e:S.get l=some o)(hl:ι[l]?=some a)(w:S.put l o'=some S')(ho:RO K ι (upd H a u) a o'):RH K ι (upd H a u) S':=by
 obtain⟨h1,h2,h3,_⟩:=zlo w;refine⟨h.len.trans h1.symm,h.nd,fun m o2 e2=>?_,(Ext.wr h e hl u).kp.tab h.tab⟩;by_cases hm:m=l
 . subst hm;rw[h2 (za9 e)] at e2;cases e2;exact⟨a,hl,ho⟩
 . rw[h3 m hm] at e2;obtain⟨b,q1,q2,_⟩:=h.mem e2;refine⟨b,q1,q2.stay (Ext.wr h e hl u) (zah ?_)⟩;rintro rfl;obtain⟨i1,e1⟩:=List.getElem?_eq_some_iff.mp hl;obtain⟨i2,e2⟩:=List.getElem?_eq_some_iff.mp q1;exact hm ((List.getElem_inj h.nd).mp (e2.trans e1.symm))
end
end R
end
section
namespace R
open PySem PySem.Spec PyProof.Rows L2
variable [Mks]
def Lf (K:PySem.W.Frag)(ι:List Addr)(H:Hp)(Q:D->R.St->Prop):VK:=fun v H'=>∃d ι' S',Ext ι H ι' H'/\RV K ι' H' d v/\RH K ι' H' S'/\Q d S'
section
variable {K:PySem.W.Frag} {ι ι':List Addr} {H H':Hp} {S S':R.St} {Q:D->R.St->Prop} {d:D} {v:V} {p:Addr}
theorem Lf.of (h:RH K ι H S)(r:RV K ι H d v)(q:Q d S):Lf K ι H Q v H:=⟨d,ι,S,Ext.refl ι H,r,h,q⟩
theorem Lf.up (x:Ext ι H ι' H')(h:Lf K ι' H' Q v p'):Lf K ι H Q v p':=by
 obtain⟨d,ι2,S2,x2,r⟩:=h;exact⟨d,ι2,S2,x.trans x2,r⟩
theorem Lf.tup (h:RH K ι H S)(hp:H p=Option.none)(r:RVs K ι H ds xs)(q:Q (.tup ds) S):Lf K ι H Q (.ref p) (upd H p (.tup xs)):=
 ⟨.tup ds,ι,S,Ext.new hp _,⟨p,xs,rfl,zai,r.ext (Ext.new hp _)⟩,h.new hp _,q⟩
theorem Lf.lst (h:RH K ι H S)(hp:H p=Option.none)(r:RVs K ι H ds xs)(q:Q (.ref S.len) (S.push (.lst ds))):Lf K ι H Q (.ref p) (upd H p (.lst xs)):=
 ⟨.ref S.len,ι++[p],S.push (.lst ds),Ext.obj h hp _,⟨p,h.last p,rfl⟩,h.lay hp r,q⟩
theorem Lf.wr (h:RH K ι H S)(e:S.get l=some o)(hl:ι[l]?=some a)(w:S.put l (.lst ds)=some S')(r:RVs K ι H ds xs)(rv:RV K ι H d v)(q:Q d S'):Lf K ι H Q v (upd H a (.lst xs)):=
 ⟨d,ι,S',Ext.wr h e hl _,rv.ext (Ext.wr h e hl _),h.wr e hl w ⟨xs,zai,r.ext (Ext.wr h e hl _)⟩,q⟩
end
theorem zco (h:W (lay S ds) Q):ds.length<=sizeLine/\Q (.ref S.len) (S.push (.lst ds)):=by
 unfold lay at h;split at h
 . rename_i c;exact⟨by rw[sizeLine_eq];exact c,h⟩
 . exact h.elim
theorem zmj (h:W (wr S l ds d) Q):ds.length<=sizeLine/\∃S',S.put l (.lst ds)=some S'/\Q d S':=by
 unfold wr at h;split at h
 . rename_i c;refine⟨by rw[sizeLine_eq];exact c,?_⟩;cases e:S.put l (.lst ds) with
   |none=>rw[e] at h;exact h.elim
   |some S'=>rw[e] at h;exact⟨S',rfl,h⟩
 . exact h.elim
def rD2 (K:PySem.W.Frag)(f:R.St->D->D->Out D):R2:=fun x y H Qv=>∃ι S d e Qd,RV K ι H d x/\RV K ι H e y/\RH K ι H S/\W (f S d e) Qd/\∀v H',Lf K ι H Qd v H'->Qv v H'
section
variable {X:Cx}
theorem zjZ {vs ws:List Value}(ht:IsTup s.heap t vs.toArray)(hb:IsTup s.heap b ws.toArray)(hv:vs=[])
  (h1:Q (.ref b) s):wpAny (model prog w) A (binaryOp .Add (.ref t) (.ref b)) Q E s:=by
 obtain⟨⟨cls,dd,data,sl⟩,ho,hc,n,hd⟩:=id ht;obtain⟨⟨cls2,dd2,data2,sl2⟩,ho2,hc2,n2,hd2⟩:=id hb;subst hc hd hc2 hd2;exact concat_meets ⟨_,ho,rfl⟩ ⟨_,ho2,rfl⟩ noFill_tuple_add seq_tuple_add PySem.F.slot_tuple_add PySem.F.entry_tuple_add (PySem.F.args_tuple_add_2 _ _)
  (tuple_addW0 t b vs.toArray ws.toArray n n2 dd dd2 sl sl2 (by simp[hv])) ⟨ho,ho2,h1⟩
theorem zjC:OpR X (binaryOp .Add) (fun x y H Q=>∃a b ys,x=.ref a/\y=.ref b/\SqT X.K H a []/\SqT X.K H b ys/\Q (.ref b) H):=by
 intro pins s σ H x y v u Q I rx ry h;obtain⟨a,b,ys,rfl,rfl,ha,hb,q⟩:=h;cases rx;cases ry;obtain⟨its,r1,p1,_⟩:=I.tuple ha;obtain⟨its2,r2,p2,_⟩:=I.tuple hb;exact zjZ p1 p2 (r1.nil_iff.mpr rfl) ⟨.ref b,H,I,rfl,q⟩
theorem zom (op:Operator):OpR X (binaryOp op) (rD2 X.K fun S d e=>binD S op d e):=by
 intro pins s σ H x y v u Qv I rx ry ⟨ι,S,d,e,Qd,hd,he,hH,hw,q⟩;dsimp only at hw;unfold binD at hw;split at hw
 . rename_i i j;obtain rfl:x=.int i:=hd;obtain rfl:y=.int j:=he;have fin:∀k:Int,Qd (.int k) S->Qv (.int k) H:=fun k hk=>q _ _ (Lf.of (d:=.int k) hH rfl hk);unfold binI at hw;split at hw
   . exact znG pins s σ H _ _ v u Qv I rx ry ⟨i,j,rfl,rfl,fin _ hw⟩
   . exact znz pins s σ H _ _ v u Qv I rx ry ⟨i,j,rfl,rfl,fin _ hw⟩
   . split at hw
     . rename_i c;refine znC pins s σ H _ _ v u Qv I rx ry ⟨i,j,rfl,rfl,?_,fin _ hw⟩;unfold zdL at c;rw[or_eq_true,decide_eq_true_eq,decide_eq_true_eq] at c;exact c
     . exact hw.elim
   . split at hw
     . rename_i c;exact zlB pins s σ H _ _ v u Qv I rx ry ⟨i,j,rfl,rfl,c,fin _ hw⟩
     . exact hw.elim
   . split at hw
     . rename_i c;exact znD pins s σ H _ _ v u Qv I rx ry ⟨i,j,rfl,rfl,c,fin _ hw⟩
     . exact hw.elim
   . split at hw
     . rename_i c;exact znA pins s σ H _ _ v u Qv I rx ry ⟨i,j,rfl,rfl,⟨c.1,c.2.1,by omega⟩,fin _ hw⟩
     . exact hw.elim
   . exact hw.elim
 . rename_i xs ys;split at hw
   . split at hw
     . rename_i c;obtain⟨a,us,rfl,ha,r1⟩:=hd;obtain⟨b,ws,rfl,hb,r2⟩:=he;by_cases hn:us=[]
       . subst hn;have hx:xs=[]:=by
          have:=r1.length;simpa using this.symm
         subst hx;refine zjC pins s σ H _ _ v u Qv I rx ry ⟨a,b,ws,rfl,rfl,SqT.of ha,SqT.of hb,?_⟩;exact q _ _ (Lf.of (d:=.tup ys) hH ⟨b,ws,rfl,hb,r2⟩ (by simpa using hw))
       . refine zlC pins s σ H _ _ v u Qv I rx ry ⟨a,b,us,ws,rfl,rfl,SqT.of ha,SqT.of hb,hn,?_,fun hy=>?_,fun hy p hp=>?_⟩
         . rw[r1.length,r2.length,sizeLine_eq];exact c
         . subst hy;have hx:ys=[]:=by
            have:=r2.length;simpa using this.symm
           subst hx;exact q _ _ (Lf.of (d:=.tup xs) hH ⟨a,us,rfl,ha,r1⟩ (by simpa using hw))
         . exact q _ _ (Lf.tup hH hp (r1.append r2) hw)
     . exact hw.elim
   . exact hw.elim
 . rename_i a b;split at hw
   . rename_i xs ys e1 e2;obtain⟨a1,h1,rfl⟩:=hd;obtain⟨b1,h2,rfl⟩:=he;obtain⟨a2,h3,us,ha,r1⟩:=hH.obj _ _ e1;obtain⟨b2,h4,ws,hb,r2⟩:=hH.obj _ _ e2;rw[h1] at h3;cases h3;rw[h2] at h4;cases h4;obtain⟨z,hq⟩:=zco hw;refine znF pins s σ H _ _ v u Qv I rx ry ⟨a1,b1,us,ws,rfl,rfl,ha,hb,?_,fun p hp=>?_⟩
     . rw[r1.length,r2.length];rw[length_append] at z;exact z
     . exact q _ _ (Lf.lst hH hp (r1.append r2) hq)
   . exact hw.elim
 . exact hw.elim
theorem zaT {α β:Type}{f:α->Option β}{x:α}{xs:List α}{ys:List β}(h:(x::xs).mapM f=some ys):∃y r,f x=some y/\xs.mapM f=some r/\ys=y::r:=by
 rw[mapM_cons] at h;cases e:f x with
 |none=>rw[e] at h;cases h
 | some y=>
   rw[e] at h;cases e2:xs.mapM f with
   |none=>rw[e2] at h;cases h
   |some r=>rw[e2] at h;injection h with h;exact⟨y,r,rfl,rfl,h.symm⟩
theorem zgB (hH:RH X.K ι H S):∀(n:Nat) (d:D) (pdd:PyData) (v:V),pd S n d=some pdd->RV X.K ι H d v->Rep H pdd v/\pdd.canLay0=true/\pdd.depth<=n:=by
 intro n;induction n with
 | zero=>
   intro d p v h r;cases d<;>simp only[pd] at h
   . cases h;exact⟨r,rfl,le_refl _⟩
   . cases h;exact⟨r,rfl,le_refl _⟩
   . cases h;exact⟨r,rfl,le_refl _⟩
   . split at h
     . rename_i c;cases h;exact⟨r,c,le_refl _⟩
     . cases h
   all_goals cases h
 | succ n ih=>
   have all:∀(ds:List D) (ps:List PyData) (vs:List V),ds.mapM (pd S n)=some ps->RVs X.K ι H ds vs->RepAll H ps vs/\PyData.canLayAll0 ps=true/\PyData.depthAll ps<=n:=by
    intro ds;induction ds with
    | nil=>
      intro ps vs h r;have h:ps=[]:=by simpa using h.symm
      subst h;exact⟨r,rfl,zero_le _⟩
    | cons d ds ihd=>
      intro ps vs h r;obtain⟨y,rr,h1,h2,rfl⟩:=zaT h;obtain⟨v,w,rfl,r1,r2⟩:=r;obtain⟨a1,a2,a3⟩:=ih d y v h1 r1;obtain⟨b1,b2,b3⟩:=ihd rr w h2 r2;refine⟨⟨v,w,rfl,a1,b1⟩,by simp[PyData.canLayAll0,a2,b2],?_⟩;simp[PyData.depthAll];omega
   intro d p v h r;cases d with
   |non=>simp[pd] at h;cases h;exact⟨r,rfl,zero_le _⟩
   |bl b=>simp[pd] at h;cases h;exact⟨r,rfl,zero_le _⟩
   |int i=>simp[pd] at h;cases h;exact⟨r,rfl,zero_le _⟩
   | str x=>
     simp only[pd] at h;split at h
     . rename_i c;cases h;exact⟨r,c,zero_le _⟩
     . cases h
   | tup ds=>
     simp only[pd] at h;cases e:ds.mapM (pd S n) with
     |none=>rw[e] at h;cases h
     | some ps=>
       rw[e] at h;have h:PyData.tuple ps=p:=by simpa using h
       subst h;obtain⟨a,xs,rfl,ha,rr⟩:=r;obtain⟨b1,b2,b3⟩:=all ds ps xs e rr;refine⟨⟨a,xs,rfl,ha,b1⟩,by simp[PyData.canLay0,b2],?_⟩;simp[PyData.depth];omega
   | ref l=>
     simp[pd] at h;split at h
     . rename_i ds eg;cases e:ds.mapM (pd S n) with
       |none=>rw[e] at h;cases h
       | some ps=>
         rw[e] at h;have h:PyData.list ps=p:=by simpa using h
         subst h;obtain⟨a,h1,rfl⟩:=r;obtain⟨a2,h2,xs,ha,rr⟩:=hH.obj _ _ eg;rw[h1] at h2;cases h2;obtain⟨b1,b2,b3⟩:=all ds ps xs e rr;refine⟨⟨a,xs,rfl,ha,b1⟩,by simp[PyData.canLay0,b2],?_⟩;simp[PyData.depth];omega
     . cases h
   |fix ds=>simp only[pd] at h;cases h
def rC2 (K:PySem.W.Frag)(op:CmpOp):R2:=fun x y H Qv=>∃ι S d e k,RV K ι H d x/\RV K ι H e y/\RH K ι H S/\cmpD S op d e=some k/\Qv (.bl k) H
theorem zf4 (h:eqD S d e=some k):∃a b,pd S 60 d=some a/\pd S 60 e=some b/\k=PyData.eqv a b:=by
 unfold eqD at h;cases e1:pd S 60 d with
 |none=>rw[e1] at h;cases h
 | some a=>
   rw[e1] at h;cases e2:pd S 60 e with
   |none=>rw[e2] at h;cases h
   |some b=>rw[e2] at h;injection h with h;exact⟨a,b,rfl,rfl,h.symm⟩
open Classical in
noncomputable def eqRd (h:Heap)(p:PyData)(u:Value):Bool:=if c:∃q as,Reads h u q as/\q.canLay0=true then PyData.eqv c.choose p else false
theorem zl2 (r:Reads h u q as)(c:q.canLay0=true):eqRd h p u=PyData.eqv q p:=by
 have ex:∃q as,Reads h u q as/\q.canLay0=true:=⟨q,as,r,c⟩;unfold eqRd;rw[dif_pos ex];obtain⟨as',r',c'⟩:=ex.choose_spec;rw[SeqAt.Reads.unique _ _ _ _ _ c r r']
theorem zjM {σ:L2.St}(I:Inv X pins σ H s)(hA:A.units+62<cLine)(hH:RH X.K ι H S)(hx:pd S 60 x=some px)(rx:RV X.K ι H x vx)(qx:RelV vx ux) :
  ∀{ds:List D} {vs:List V} {us:List Value} {bs:List Bool},RVs X.K ι H ds vs->Vals vs us->ds.mapM (fun z=>eqD S z x)=some bs->us.any (eqRd s.heap px)=bs.any id/\∀u∈us,SeqAt.EqAt A s u ux (eqRd s.heap px u):=by
 obtain⟨x1,x2,x3⟩:=zgB hH 60 x px vx hx rx;obtain⟨asx,rdx⟩:=Rep.reads I px vx ux x1 qx;intro ds;induction ds with
 | nil=>
   intro vs us bs r rv h;cases r;cases rv;have h:bs=[]:=by simpa using h.symm
   subst h;exact⟨rfl,fun u hu=>nomatch hu⟩
 | cons d ds ih=>
   intro vs us bs r rv h;obtain⟨v,w,rfl,r1,r2⟩:=r;obtain⟨b,rr,e,h2,rfl⟩:=zaT h;cases rv with
   | cons q1 q2=>
     rename_i u us';obtain⟨a,b',e1,e2,rfl⟩:=zf4 e;rw[hx] at e2;cases e2;obtain⟨p1,p2,p3⟩:=zgB hH 60 d a v e1 r1;obtain⟨as,rd⟩:=Rep.reads I a v u p1 q1;have hq:=zl2 (p:=px) rd p2;obtain⟨i1,i2⟩:=ih r2 q2 h2;refine⟨by simp[hq,i1],fun z hz=>?_⟩;rcases mem_cons.mp hz with rfl|hz
     . rw[hq];exact SeqAt.eqAt_reads a px A s z ux as asx rd rdx p2 x2 (by omega)
     . exact i2 z hz
theorem zkf (hH:RH X.K ι H S)(h:zbK S d=some ds)(r:RV X.K ι H d v):∃a xs,v=.ref a/\(SqL X.K H a xs\/SqT X.K H a xs)/\RVs X.K ι H ds xs:=by
 cases d with
 | tup es=>
   cases h;obtain⟨a,xs,rfl,ha,rr⟩:=r;exact⟨a,xs,rfl,.inr (SqT.of ha),rr⟩
 | fix es=>
   cases h;obtain⟨a,xs,rfl,ha,rr⟩:=r;exact⟨a,xs,rfl,.inl ha.sq,rr⟩
 | ref l=>
   simp[zbK] at h;split at h
   . rename_i ds' e;cases h;obtain⟨a,h1,rfl⟩:=r;obtain⟨a2,h2,xs,ha,rr⟩:=hH.obj _ _ e;rw[h1] at h2;cases h2;exact⟨a,xs,rfl,.inl (SqL.of ha),rr⟩
   . cases h
 |_=>cases h
theorem zn3 (h:inD S x ys=some k):∃bs,ys.mapM (fun z=>eqD S z x)=some bs/\k=bs.any id:=by
 unfold inD at h;cases e:ys.mapM (fun z=>eqD S z x) with
 |none=>rw[e] at h;cases h
 |some bs=>rw[e] at h;injection h with h;exact⟨bs,rfl,h.symm⟩
theorem nonV {K:PySem.W.Frag}(hd:RV K ι H d x):decide (x=V.non)=zlM d:=by
 cases d with
 |non=>rw[show x=.non from hd];rfl
 |bl b=>rw[show x=.bl b from hd];rfl
 |int b=>rw[show x=.int b from hd];rfl
 |str b=>rw[show x=.str b from hd];rfl
 |tup b=>obtain⟨_,_,rfl,_⟩:=hd;rfl
 |ref b=>obtain⟨_,_,rfl⟩:=hd;rfl
 |fix b=>obtain⟨_,_,rfl,_⟩:=hd;rfl
theorem zdm (hu:X.A.units+128<cLine)(op:CmpOp):OpR X (compareOp op) (rC2 X.K op):=by
 intro pins s σ H x y v u Qv I rx ry ⟨ι,S,d,e,k,hd,he,hH,hc,q⟩;unfold cmpD at hc;split at hc
 . rename_i i j;obtain rfl:x=.int i:=hd;obtain rfl:y=.int j:=he;unfold cmpI at hc;split at hc
   . cases hc;exact zph pins s σ H _ _ v u Qv I rx ry ⟨rfl,by simpa using q⟩
   . cases hc;exact zpc pins s σ H _ _ v u Qv I rx ry ⟨rfl,by simpa using q⟩
   . cases hc;exact zpd pins s σ H _ _ v u Qv I rx ry ⟨i,j,rfl,rfl,q⟩
   . cases hc;exact zpe pins s σ H _ _ v u Qv I rx ry ⟨i,j,rfl,rfl,q⟩
   . cases hc;exact zpf pins s σ H _ _ v u Qv I rx ry ⟨i,j,rfl,rfl,q⟩
   . cases hc;exact zpg pins s σ H _ _ v u Qv I rx ry ⟨i,j,rfl,rfl,q⟩
   . cases hc
 . unfold cmpO at hc;have isin:∀(k:Bool),((zbK S e).bind fun ys=>inD S d ys)=some k->∃a xs,y=.ref a/\(SqL X.K H a xs\/SqT X.K H a xs)/\∃(px:PyData),∀us,Vals xs us->us.any (eqRd s.heap px)=k/\∀z∈us,SeqAt.EqAt X.A.in1 s z v (eqRd s.heap px z):=by
    intro k h;cases es:zbK S e with
    |none=>rw[es] at h;cases h
    | some ys=>
      rw[es] at h;obtain⟨bs,hb,rfl⟩:=zn3 h;obtain⟨a,xs,rfl,hq,rr⟩:=zkf hH es he;refine⟨a,xs,rfl,hq,?_⟩;cases hp:pd S 60 d with
      |some px=>exact⟨px,fun us hus=>zjM I (show X.A.units+1+62<cLine by omega) hH hp hd rx rr hus hb⟩
      | none=>
        cases ys with
        | nil=>
          refine⟨.none,fun us hus=>?_⟩;cases rr;cases hus;have hb:bs=[]:=by simpa using hb.symm
          subst hb;exact⟨rfl,fun z hz=>nomatch hz⟩
        | cons z zs=>
          obtain⟨b,r,h1,_⟩:=zaT hb;obtain⟨_,_,_,h3,_⟩:=zf4 h1;rw[hp] at h3;cases h3
   split at hc
   . skip
     obtain⟨a,b,h1,h2,rfl⟩:=zf4 hc;obtain⟨p1,p2,p3⟩:=zgB hH 60 d a x h1 hd;obtain⟨q1,q2,q3⟩:=zgB hH 60 e b y h2 he;exact znE (by omega) pins s σ H x y v u Qv I rx ry ⟨a,b,p1,q1,p2,q2,by omega,q⟩
   . cases hk:eqD S d e with
     |none=>rw[hk] at hc;cases hc
     | some k'=>
       rw[hk] at hc;obtain⟨a,b,h1,h2,rfl⟩:=zf4 hk;obtain⟨p1,p2,p3⟩:=zgB hH 60 d a x h1 hd;obtain⟨q1,q2,q3⟩:=zgB hH 60 e b y h2 he;have hc:k = !PyData.eqv a b:=by simpa using hc.symm
       subst hc;exact znB (by omega) pins s σ H x y v u Qv I rx ry ⟨a,b,p1,q1,p2,q2,by omega,q⟩
   . split at hc
     . obtain rfl:y=.non:=he;cases hc;obtain rfl:u=Value.none:=ry;refine is_none_gen ⟨.bl _,H,I,rfl,?_⟩;rw[rx.none_iff,nonV hd];exact q
     . cases hc
   . split at hc
     . obtain rfl:y=.non:=he;cases hc;obtain rfl:u=Value.none:=ry;refine isnot_none_gen ⟨.bl _,H,I,rfl,?_⟩;rw[rx.none_iff,nonV hd];exact q
     . cases hc
   . skip
     obtain⟨a,xs,rfl,hq,px,hp⟩:=isin _ hc;cases ry;rcases hq with hq|hq
     . obtain⟨its,r,pl,hz⟩:=I.list hq;obtain⟨h1,h2⟩:=hp its r;exact SeqAt.in_listAt (eqRd s.heap px) pl.isList (fun w hw=>h2 w (by simpa using hw)) (zan I q (by simpa using h1.symm))
     . obtain⟨its,r,pl,hz⟩:=I.tuple hq;obtain⟨h1,h2⟩:=hp its r;exact SeqAt.in_tupleAt (eqRd s.heap px) pl (fun w hw=>h2 w (by simpa using hw)) (zan I q (by simpa using h1.symm))
   . cases hk:(zbK S e).bind fun ys=>inD S d ys with
     |none=>rw[hk] at hc;cases hc
     | some k'=>
       rw[hk] at hc;have hc:k = !k':=by simpa using hc.symm
       subst hc;obtain⟨a,xs,rfl,hq,px,hp⟩:=isin k' hk;cases ry;rcases hq with hq|hq
       . obtain⟨its,r,pl,hz⟩:=I.list hq;obtain⟨h1,h2⟩:=hp its r;exact SeqAt.notIn_listAt (eqRd s.heap px) pl.isList (fun w hw=>h2 w (by simpa using hw)) (zan I q (by simpa using congrArg (!·) h1.symm))
       . obtain⟨its,r,pl,hz⟩:=I.tuple hq;obtain⟨h1,h2⟩:=hp its r;exact SeqAt.notIn_tupleAt (eqRd s.heap px) pl (fun w hw=>h2 w (by simpa using hw)) (zan I q (by simpa using congrArg (!·) h1.symm))
   . cases hc
end
end R
end
section
namespace R
open PySem PySem.Spec PyProof.Rows L2
variable [Mks]
noncomputable def zaj:Expr->Bool|.Starred _ _=>false|_=>true
noncomputable def zbe:Expr->Bool|.ListComp ..=>false|.SetComp ..=>false|.DictComp ..=>false|_=>true
noncomputable def zdK:Expr->Bool|.Slice ..=>false|_=>true
noncomputable def zaN:Expr->Bool|.Set ..=>false|_=>true
noncomputable def zcM:Expr->Bool|.Call (.Name _ _) [] [] _=>false|_=>true
noncomputable def zfG:Expr->Bool|.UnaryOp .Not _ _=>false|.BoolOp ..=>false|.IfExp ..=>false|.Compare ..=>false|_=>true
theorem zak (h:zaj e=true)(es:List Expr)(env:Env):starEach (e::es) env=(false,eval e env)::starEach es env:=by
 cases e<;>first|rfl|cases h
theorem zbU (h:zbe e=true)(t:Option Expr)(l:Nat)(env:Env):swapsWith e t l env=pure false:=by
 cases e<;>first|rfl|cases h
theorem zpm (h:zdK e=true):ziP e:=by
 intro o i;cases e<;>first|rfl|cases h
theorem zdO (h:zaN e=true)(op:CmpOp):behindInMarks op e=false:=by
 cases e<;>first|rfl|cases h
theorem zfr (h:zcM e=true)(x:Str)(env:Env)(w:Sem Value):attributeBase e x env w=w:=by
 unfold attributeBase;split
 . cases h
 . rfl
theorem zmz (h:zfG e=true)(env:Env)(w:Sem Value):isTrue e env w=(do let v <-w;standAt e.pos;holding [v] (truthy v)):=by
 cases e with
 |UnaryOp op x p=>cases op<;>first|rfl|cases h
 |_=>first|rfl|cases h
theorem zdU (h:zaN e=true)(env:Env)(x:Value):foldedSetIterable e env x=pure x:=by
 cases e<;>first|rfl|cases h
theorem zaM:∀{es:List Expr},es.all zaj=true->(backTo pos (starEach es env)).any (·.1)=false
 | [],_=>rfl
 | e::es,h=>by
   rw[all_cons,and_eq_true] at h;rw[zak h.1];exact zaM h.2
structure Tab where
 blt:List Str
 cons:List (Str × D)
 fns:List (Str × List Str × Nat)
 cls:List Str:=[]
 flds:List Str:=[]
 mts:List (Nat × Str × Nat):=[]
 inits:List (Nat × Nat × Nat):=[]
 cms:List (Str × Str × Nat):=[]
 isas:List (Str × List Nat):=[]
 xcs:List (Nat × Str × Str):=[]
 xflds:List Str:=[]
 xisas:List (Str × List Nat):=[]
 xisbs:List (Str × List Nat):=[]
 xfns:List Nat:=[]
 xtrs:List Str:=[]
noncomputable def zjK (sc:Scope)(x:Str):Bool:=match sc.names.lookup x with|some .local=>true|some .cell=>true|some .free=>true|_=>false
noncomputable def zb4 (sc:Scope)(x:Str):Bool:=match sc.names.lookup x with|some .local=>true|some .cell=>true|_=>false
noncomputable def isGl (sc:Scope)(x:Str):Bool:=match sc.names.lookup x with|some .globalImplicit=>true|_=>false
noncomputable def eqC:D->D->Bool
 |.non,.non=>true|.bl a,.bl b=>a == b|.int a,.int b=>a == b|.str a,.str b=>a == b|_,_=>false
theorem zoc:∀{d e:D},eqC d e=true->d=e:=by
 intro d e h;cases d<;>cases e<;>first|rfl|(simp[eqC,beq_iff_eq] at h;subst h;rfl)|cases h
noncomputable def sV:D->V
 |.non=>.non|.bl b=>.bl b|.int i=>.int i|.str x=>.str x|_=>.non
noncomputable def zk9:D->Bool
 |.non=>true|.bl _=>true|.int _=>true|.str _=>true|_=>false
theorem zo0 {K:PySem.W.Frag}(h:zk9 d=true):RV K ι H d (sV d):=by
 cases d<;>first|rfl|cases h
noncomputable def conB:D->Const->Bool
 |.non,.none=>true|.bl a,.bool b=>a == b|.int a,.int b=>a == b|.str a,.str b=>a == b|_,_=>false
noncomputable def bltB (T:Tab)(sc:Scope)(x:Str):Bool:=isGl sc x&&T.blt.contains x
def spF (K:PySem.W.Frag)(cf:CF)(f:Nat):Sp:=fun vs H Qv _=>∃ι S ds,RVs K ι H ds vs/\RH K ι H S/\W (cf f ds S) (fun d T=>∀v H' ι',Ext ι H ι' H'->RV K ι' H' d v->RH K ι' H' T->Qv v H')
structure HasM (P:Program) (w:World) (K:PySem.W.Frag) (mg:Str->Option Value) (base:Heap) (k c:Nat) (m:Str) (sp:Sp):Prop where
 ex:∃(C fa:Addr) (fd:FuncData) (ps:List Str),Mks.cl[c]?=some C/\Cls K C/\Meth K C m fa/\FnOk P w K mg base CX0 k fa fd ps sp/\Binds K fd ps []
structure HasI (P:Program) (w:World) (K:PySem.W.Frag) (mg:Str->Option Value) (base:Heap) (k c j:Nat) (sp:Sp):Prop where
 ex:∃(C fa:Addr) (fd:FuncData) (ps:List Str),Mks.cl[c]?=some C/\Mk K C fa/\FnOk P w K mg base CX0 k fa fd ps sp/\Binds K fd ps (List.replicate j Value.none)
structure HasC (P:Program) (w:World) (K:PySem.W.Frag) (mg:Str->Option Value) (base:Heap) (k:Nat) (x m:Str) (sp:Sp):Prop where
 ex:∃(C fa:Addr) (fd:FuncData) (ps:List Str) (mc:Value),mg x=some (.ref C)/\specialIn K (.ref C) "__getattribute__"=some (some (.builtin "type.__getattribute__"))/\readsIn K C mc=true/\findCls K (.ref C) mc m=some (.val (.ref fa))/\
  keepIn K (.ref fa)=true/\FnOk P w K mg base CX0 k fa fd ps sp/\Binds K fd ps []
structure IsaOk (K:PySem.W.Frag) (C:Addr):Prop where
 ha:PySem.W.findIn K (.ref C) "__class__"=some (some (.builtin "object.__class__"))
 hn:specialIn K (.builtin "object.__class__") "__get__"=some (some (.builtin "getset_descriptor.__get__"))
 ht:takesIn K (.builtin "object.__class__")=some true
 hm:PySem.W.mroIn K C (.type "object")=some true
noncomputable def spX (K:PySem.W.Frag)(cf:CF)(f:Nat):Sp:=fun vs H Qv E=>∃ι S ds,RVs K ι H ds vs/\RH K ι H S/\(match cf f ds S with
 |.ok d T=>∀v H' ι',Ext ι H ι' H'->RV K ι' H' d v->RH K ι' H' T->Qv v H'
 |.err d T=>∀a H' ι',Ext ι H ι' H'->RV K ι' H' d (.ref a)->RH K ι' H' T->E (.ref a) none H'
 |.bad=>False)
structure XTabOk (T:Tab) (cf:CF) (k:Nat) (P:Program) (w:World) (K:PySem.W.Frag) (mg:Str->Option Value) (base:Heap):Prop where
 cl:∀(c:Nat) (x f:Str),T.xcs.contains (c,x,f)=true->∃(C fI:Addr) (fd:FuncData) (ps:List Str),Mks.xc[c]?=some C/\mg x=some (.ref C)/\keepIn K (.ref C)=true/\Xc K C fI f/\FnOk P w K mg base CX0 k fI fd ps (spI K fI f)/\Binds K fd ps []
 fl:∀f,T.xflds.contains f=true->∀(c:Nat) C,Mks.xc[c]?=some C->XGet K C/\NoAttr K C f
 is:∀(x:Str) (cs:List Nat),T.xisas.contains (x,cs)=true->∃D,mg x=some (.ref D)/\∀(c:Nat) C,Mks.xc[c]?=some C->XGet K C/\IsaOk K C/\kitOne K (.ref C) (.ref D)=some (cs.contains c)
 ib:∀(x:Str) (cs:List Nat),T.xisbs.contains (x,cs)=true->mg x=none/\x≠"__name__"/\∃t,bootBuiltins x=some (.type t)/\∀(c:Nat) C,Mks.xc[c]?=some C->XGet K C/\IsaOk K C/\kitOne K (.ref C) (.type t)=some (cs.contains c)
 fn:∀(f:Nat) (x:Str) (ps:List Str) (nd:Nat),T.xfns.contains f=true->T.fns[f]?=some (x,ps,nd)->∃fa fd,FnOk P w K mg base (CXe P w) k fa fd ps (spX K cf f)/\mg x=some (.ref fa)/\keepIn K (.ref fa)=true/\Binds K fd ps []
 tr:∀x,T.xtrs.contains x=true->∃CR,mg x=some (.ref CR)/\∀(c:Nat) C,Mks.xc[c]?=some C->PySem.W.exmOne K (.ref C) (.ref CR)=some true
structure HasIX (P:Program) (w:World) (K:PySem.W.Frag) (mg:Str->Option Value) (base:Heap) (k c j:Nat) (sp:Sp):Prop where
 ex:∃(C fa:Addr) (fd:FuncData) (ps:List Str),Mks.cl[c]?=some C/\Mk K C fa/\FnOk P w K mg base (CXe P w) k fa fd ps sp/\Binds K fd ps (List.replicate j Value.none)
structure TabOk (T:Tab) (cf:CF) (k:Nat) (P:Program) (w:World) (K:PySem.W.Frag) (mg:Str->Option Value) (base:Heap):Prop where
 blt:∀x,T.blt.contains x=true->mg x=none
 con:∀x d,T.cons.lookup x=some d->zk9 d=true/\∃u,mg x=some u/\RelV (sV d) u
 fns:∀f x ps nd,T.fns[f]?=some (x,ps,nd)->∀j,j<=nd->Has P w K mg base k x ps (List.replicate j .non) (spF K cf f)
 frm:CFok cf
 cls:∀(c:Nat) (x:Str),T.cls[c]?=some x->∃C,Mks.cl[c]?=some C/\Cls K C/\mg x=some (.ref C)/\∀f,T.flds.contains f=true->NoAttr K C f
 mth:∀(c:Nat) (m:Str) (fi:Nat),T.mts.contains (c,m,fi)=true->HasM P w K mg base k c m (spF K cf fi)
 ini:∀(c fi j:Nat),T.inits.contains (c,fi,j)=true->HasI P w K mg base k c j (spF K cf fi)
 cmd:∀(x m:Str) (fi:Nat),T.cms.contains (x,m,fi)=true->HasC P w K mg base k x m (spF K cf fi)
 cln:(T.flds≠[]\/T.inits≠[]\/T.isas≠[])->Mks.cl.length<=T.cls.length
 isa:∀(x:Str) (cs:List Nat),T.isas.contains (x,cs)=true->∃D,mg x=some (.ref D)/\∀c C,Mks.cl[c]?=some C->IsaOk K C/\kitOne K (.ref C) (.ref D)=some (cs.contains c)
 xtb:XTabOk T cf k P w K mg base
 inx:∀(c fi j:Nat),T.inits.contains (c,fi,j)=true->HasIX P w K mg base k c j (spX K cf fi)
structure Gd (T:Tab) (cf:CF) (k:Nat) (N:List Str) (sc:Scope) (X:Cx):Prop where
 nm:X.N=N
 nd:N.Nodup
 loc:∀x,sc.names.lookup x=some .local->X.env.scope.names.lookup x=some .local
 cell:∀x,sc.names.lookup x=some .cell->X.env.scope.names.lookup x=some .cell
 free:∀x,sc.names.lookup x=some .free->X.env.scope.names.lookup x=some .free\/X.env.scope.names.lookup x=some .cell
 glob:∀x,sc.names.lookup x=some .globalImplicit->X.env.scope.names.lookup x=some .globalImplicit
 fn:(∀x,X.fn x=true)\/∀x,sc.names.lookup x≠some .cell
 calm:X.calm=true
 xe:PassesOwn (model X.prog X.w) X.A X.env X.xe
 room':Room (k+1) X.A
 tab:TabOk T cf k X.prog X.w X.K X.mg X.base
section
variable {T:Tab} {cf:CF} {k:Nat} {N:List Str} {sc:Scope} {X:Cx}
theorem Gd.room (G:Gd T cf k N sc X):Room k X.A:=G.room'.mono (le_succ k)
theorem Gd.hu (G:Gd T cf k N sc X):X.A.units+128<cLine:=by have:=G.room.un;omega
theorem Gd.vis (G:Gd T cf k N sc X)(h:zjK sc x=true):Vis X.env.scope x:=by
 unfold zjK at h;split at h
 . rename_i e;exact .inl (G.loc x e)
 . rename_i e;exact .inr (.inl (G.cell x e))
 . rename_i e;rcases G.free x e with q|q
   . exact .inr (.inr q)
   . exact .inr (.inl q)
 . cases h
theorem Gd.lc (G:Gd T cf k N sc X)(h:zb4 sc x=true):Loc X.env.scope x/\(X.fn x=true\/X.env.scope.names.lookup x=some .local):=by
 unfold zb4 at h;split at h
 . rename_i e;exact⟨.inl (G.loc x e),.inr (G.loc x e)⟩
 . rename_i e;refine⟨.inr (G.cell x e),?_⟩;rcases G.fn with q|q
   . exact .inl (q x)
   . exact absurd e (q x)
 . cases h
theorem Gd.gl (G:Gd T cf k N sc X)(h:isGl sc x=true):Gl X x:=by
 unfold isGl at h;split at h
 . rename_i e;exact G.glob x e
 . cases h
end
def RS (K:PySem.W.Frag)(ι:List Addr)(H:Hp)(δ:Ev)(σ:L2.St):Prop:=δ.length=σ.length/\∀(i:Nat) (d:D),δ[i]?=some (some d)->∃v,σ[i]?=some (some v)/\RV K ι H d v
theorem RS.ext {K:PySem.W.Frag}(h:RS K ι H δ σ)(x:Ext ι H ι' H'):RS K ι' H' δ σ:=
 ⟨h.1,fun i d e=>let ⟨v,e1,r⟩:=h.2 i d e;⟨v,e1,r.ext x⟩⟩
theorem RS.set {K:PySem.W.Frag}(h:RS K ι H δ σ)(r:RV K ι H d v)(i:Nat):RS K ι H (δ.set i (some d)) (σ.set i (some v)):=by
 refine⟨by simp[h.1],fun j e hj=>?_⟩;by_cases hij:i=j
 . subst hij;have hl:i<δ.length:=by
    have:=(List.getElem?_eq_some_iff.mp hj).1;simpa using this
   rw[getElem?_set_self hl] at hj;cases hj;exact⟨v,getElem?_set_self (by rw[<-h.1];exact hl),r⟩
 . rw[getElem?_set_ne hij] at hj;obtain⟨v',e1,r'⟩:=h.2 j e hj;exact⟨v',by rw[getElem?_set_ne hij];exact e1,r'⟩
def tE (K:PySem.W.Frag)(cf:CF)(ce:CE):TE:=fun σ H Qv=>∃δ ι S Q,RS K ι H δ σ/\RH K ι H S/\W (evE cf ce δ S) Q/\∀v H',Lf K ι H Q v H'->Qv v H'
def LfB (K:PySem.W.Frag)(ι:List Addr)(H:Hp)(Q:Bool->R.St->Prop):Bool->Hp->Prop:=fun b H'=>∃ι' S',Ext ι H ι' H'/\RH K ι' H' S'/\Q b S'
def tT (K:PySem.W.Frag)(cf:CF)(ce:CE):TT:=fun σ H Qv=>∃δ ι S Q,RS K ι H δ σ/\RH K ι H S/\W (evT cf ce δ S) Q/\∀b H',LfB K ι H Q b H'->Qv b H'
def LfA (K:PySem.W.Frag)(ι:List Addr)(H:Hp)(Q:List D->R.St->Prop):List V->Hp->Prop:=fun vs H'=>∃ds ι' S',Ext ι H ι' H'/\RVs K ι' H' ds vs/\RH K ι' H' S'/\Q ds S'
def tAs (K:PySem.W.Frag)(cf:CF)(ces:CEs):TA:=fun σ H Qv=>∃δ ι S Q,RS K ι H δ σ/\RH K ι H S/\W (evEs cf ces δ S) Q/\∀vs H',LfA K ι H Q vs H'->Qv vs H'
inductive SqK (K:PySem.W.Frag) (ι:List Addr) (H:Hp) (S:R.St) (a:Addr) (xs:List V) (ds:List D) (lks:List Nat):Prop where
 |tmp (h:a∉ι) (e:H a=some (.lst xs)):SqK K ι H S a xs ds lks
 |tup (e:H a=some (.tup xs)):SqK K ι H S a xs ds lks
 |fix (e:FixL K H a xs):SqK K ι H S a xs ds lks
 |own (l:Nat) (hl:l∈lks) (hi:ι[l]?=some a) (hs:S.get l=some (.lst ds)) (e:H a=some (.lst xs)):SqK K ι H S a xs ds lks
def Sq (K:PySem.W.Frag)(ι:List Addr)(H:Hp)(S:R.St)(v:V)(ds:List D)(lks:List Nat):Prop:=∃a xs,v=.ref a/\RVs K ι H ds xs/\SqK K ι H S a xs ds lks
def LfL (K:PySem.W.Frag)(ι:List Addr)(H:Hp)(Q:List D × List Nat->R.St->Prop):VK:=fun v H'=>∃ds lks ι' S',Ext ι H ι' H'/\Sq K ι' H' S' v ds lks/\RH K ι' H' S'/\Q (ds,lks) S'
def tL (K:PySem.W.Frag)(cf:CF)(cl:CL):TE:=fun σ H Qv=>∃δ ι S Q,RS K ι H δ σ/\RH K ι H S/\W (evL cf cl δ S) Q/\∀v H',LfL K ι H Q v H'->Qv v H'
def LfT (K:PySem.W.Frag)(ι:List Addr)(H:Hp)(Q:List D × List Nat->R.St->Prop):VK:=fun v H'=>∃ds ι' S' a xs,Ext ι H ι' H'/\v=.ref a/\RVs K ι' H' ds xs/\a∉ι'/\H' a=some (.lst xs)/\RH K ι' H' S'/\H a=none/\Q (ds,[]) S'
def tLt (K:PySem.W.Frag)(cf:CF)(cl:CL):TE:=fun σ H Qv=>∃δ ι S Q,RS K ι H δ σ/\RH K ι H S/\W (evL cf cl δ S) Q/\∀v H',LfT K ι H Q v H'->Qv v H'
theorem LfT.l {K:PySem.W.Frag}(h:LfT K ι H Q v H'):LfL K ι H Q v H':=by
 obtain⟨ds,ι',S',a,xs,x,rfl,r,ha,e,hh,_,q⟩:=h;exact⟨ds,[],ι',S',x,⟨a,xs,rfl,r,.tmp ha e⟩,hh,q⟩
theorem PE.imp (h:PE X e t)(i:∀σ H Q,t' σ H Q->t σ H Q):PE X e t':=fun pins s σ H Q I q=>h pins s σ H Q I (i σ H Q q)
theorem PT.imp (h:PT X e t)(i:∀σ H Q,t' σ H Q->t σ H Q):PT X e t':=fun pins s σ H Q I q=>h pins s σ H Q I (i σ H Q q)
theorem PW.imp (h:PW X e t)(i:∀σ H Q,t' σ H Q->t σ H Q):PW X e t':=fun wh pins s σ H Q I q=>h wh pins s σ H Q I (i σ H Q q)
theorem PA.imp (h:PA X es t)(i:∀σ H Q,t' σ H Q->t σ H Q):PA X es t':=fun pos pins s σ H Q I q=>h pos pins s σ H Q I (i σ H Q q)
theorem tE.run {K:PySem.W.Frag}(hs:RS K ι H δ σ)(hh:RH K ι H S)(w:W (evE cf a δ S) Q)
  (h:∀d v ι' H' S',Ext ι H ι' H'->RS K ι' H' δ σ->RH K ι' H' S'->RV K ι' H' d v->Q d S'->Qv v H'):tE K cf a σ H Qv:=
 ⟨δ,ι,S,Q,hs,hh,w,fun v H' ⟨d,ι',S',x,r,hh',q⟩=>h d v ι' H' S' x (hs.ext x) hh' r q⟩
theorem tT.run {K:PySem.W.Frag}(hs:RS K ι H δ σ)(hh:RH K ι H S)(w:W (evT cf a δ S) Q)
  (h:∀b ι' H' S',Ext ι H ι' H'->RS K ι' H' δ σ->RH K ι' H' S'->Q b S'->Qv b H'):tT K cf a σ H Qv:=
 ⟨δ,ι,S,Q,hs,hh,w,fun b H' ⟨ι',S',x,hh',q⟩=>h b ι' H' S' x (hs.ext x) hh' q⟩
theorem tAs.run {K:PySem.W.Frag}(hs:RS K ι H δ σ)(hh:RH K ι H S)(w:W (evEs cf a δ S) Q)
  (h:∀ds vs ι' H' S',Ext ι H ι' H'->RS K ι' H' δ σ->RH K ι' H' S'->RVs K ι' H' ds vs->Q ds S'->Qv vs H'):tAs K cf a σ H Qv:=
 ⟨δ,ι,S,Q,hs,hh,w,fun v H' ⟨d,ι',S',x,r,hh',q⟩=>h d v ι' H' S' x (hs.ext x) hh' r q⟩
theorem PE.ofT (h:PE X e (tLt X.K cf cl)):PE X e (tL X.K cf cl):=
 PE.imp h fun σ H Qv ⟨δ,ι,S,Q,hs,hh,w,q⟩=>⟨δ,ι,S,Q,hs,hh,w,fun v H' l=>q v H' l.l⟩
theorem tLt.run {K:PySem.W.Frag}(hs:RS K ι H δ σ)(hh:RH K ι H S)(w:W (evL cf a δ S) Q)
  (h:∀ds p xs ι' H' S',Ext ι H ι' H'->RS K ι' H' δ σ->RH K ι' H' S'->RVs K ι' H' ds xs->p∉ι'->H' p=some (.lst xs)->H p=none->Q (ds,[]) S'->Qv (.ref p) H'):tLt K cf a σ H Qv:=
 ⟨δ,ι,S,Q,hs,hh,w,fun v H' ⟨ds,ι',S',p,xs,x,e,r,hp,hx,hh',hn,q⟩=>e▸h ds p xs ι' H' S' x (hs.ext x) hh' r hp hx hn q⟩
theorem tL.run {K:PySem.W.Frag}(hs:RS K ι H δ σ)(hh:RH K ι H S)(w:W (evL cf a δ S) Q)
  (h:∀ds lks v ι' H' S',Ext ι H ι' H'->RS K ι' H' δ σ->RH K ι' H' S'->Sq K ι' H' S' v ds lks->Q (ds,lks) S'->Qv v H'):tL K cf a σ H Qv:=
 ⟨δ,ι,S,Q,hs,hh,w,fun v H' ⟨ds,lks,ι',S',x,r,hh',q⟩=>h ds lks v ι' H' S' x (hs.ext x) hh' r q⟩
end R
end
section
namespace R
open PySem PySem.Spec PyProof.Rows L2
variable [Mks]
section
variable {T:Tab} {cf:CF} {k:Nat} {N:List Str} {sc:Scope} {X:Cx} {pos:Pos}
theorem zg1 (h:W o Q):∃a S,o=.ok a S/\Q a S:=W.iff.mp h
theorem zaC (h:W (lift S o) Q):∃a,o=some a/\Q a S:=by
 cases o with
 |none=>exact h.elim
 |some a=>exact⟨a,rfl,h⟩
theorem zmY (G:Gd T cf k N sc X)(h1:N[i]?=some x)(h2:zjK sc x=true)(h3:(x == ("__debug__":Str))=false)(h4:(x == ("__classdict__":Str))=false):PE X (.Name x pos) (tE X.K cf (.loc i)):=by
 refine PE.imp (zej (by rw[G.nm];exact h1) (G.vis h2) h3 h4) fun σ H Qv ⟨δ,ι,S,Q,hs,hh,w,q⟩=>?_;obtain⟨d,e,hq⟩:=zaC w;have e':δ[i]?=some (some d):=by
  cases z:δ[i]? with
  |none=>rw[z] at e;cases e
  |some o=>rw[z] at e;simp at e;rw[e]
 obtain⟨v,ev,r⟩:=hs.2 i d e';exact⟨v,ev,q v H (Lf.of hh r hq)⟩
theorem zm1 (h:conB d c=true):PE X (.Constant c j pos) (tE X.K cf (.con d)):=by
 have key:∀{v:V},PE X (.Constant c j pos) (tC v)->(∀K ι H,RV K ι H d v)->PE X (.Constant c j pos) (tE X.K cf (.con d)):=fun {v} hp hr=>
  PE.imp hp fun σ H Qv ⟨δ,ι,S,Q,hs,hh,w,q⟩=>q v H (Lf.of hh (hr _ _ _) (by simpa[evE] using w))
 cases d<;>cases c<;>first
  |exact key zns fun _ _ _=>rfl
  |cases h
  |(simp[conB,beq_iff_eq] at h;subst h;exact key znu fun _ _ _=>rfl)
  |(simp[conB,beq_iff_eq] at h;subst h;exact key zo9 fun _ _ _=>rfl)
  |(simp[conB,beq_iff_eq] at h;subst h;exact key zkn fun _ _ _=>rfl)
theorem zk5 (G:Gd T cf k N sc X)(h1:isGl sc x=true)(h2:T.cons.lookup x=some d')(h3:eqC d' d=true)(h4:(x == ("__debug__":Str))=false):PE X (.Name x pos) (tE X.K cf (.con d)):=by
 have e:=zoc h3;subst e;obtain⟨hsc,u,hu,r⟩:=G.tab.con x d' h2;exact PE.imp (ze5 (G.gl h1) hu r h4) fun σ H Qv ⟨δ,ι,S,Q,hs,hh,w,q⟩=>q (sV d') H (Lf.of hh (zo0 hsc) (by simpa[evE] using w))
theorem zm3 (ha:PE X a (tE X.K cf ca))(hb:PE X b (tE X.K cf cb)):PE X (.BinOp a op b pos) (tE X.K cf (.bin op ca cb)):=by
 refine PE.imp (zo6 (zom op) ha hb) fun σ H Qv ⟨δ,ι,S,Q,hs,hh,w,q⟩=>?_;simp[evE,zaa] at w;refine tE.run hs hh w fun d v ι1 H1 S1 x1 hs1 hh1 r1 w1=>tE.run hs1 hh1 w1 fun e u ι2 H2 S2 x2 hs2 hh2 r2 w2=>?_;exact⟨ι2,S2,d,e,Q,r1.ext x2,r2,hh2,w2,fun z H3 l=>q z H3 (Lf.up (x1.trans x2) l)⟩
theorem zmT (ha:PE X a (tE X.K cf ca)):PE X (.UnaryOp .USub a pos) (tE X.K cf (.neg ca)):=by
 refine PE.imp (zo4 zmt ha) fun σ H Qv ⟨δ,ι,S,Q,hs,hh,w,q⟩=>?_;simp[evE,zaa] at w;refine tE.run hs hh w fun d v ι1 H1 S1 x1 hs1 hh1 r1 w1=>?_;cases d with
 | int i=>
   obtain rfl:v=.int i:=r1;exact⟨i,rfl,q _ _ (Lf.up x1 (Lf.of (d:=.int (-i)) hh1 rfl w1))⟩
 |_=>exact w1.elim
theorem zoU (ha:PE X a (tE X.K cf ca)):PE X (.UnaryOp .Not a pos) (tE X.K cf (.nt ca)):=by
 refine PE.imp (znr ha) fun σ H Qv ⟨δ,ι,S,Q,hs,hh,w,q⟩=>?_;simp[evE,zaa] at w;refine tE.run hs hh w fun d v ι1 H1 S1 x1 hs1 hh1 r1 w1=>?_;cases d with
 | bl i=>
   obtain rfl:v=.bl i:=r1;exact⟨i,rfl,q _ _ (Lf.up x1 (Lf.of (d:=.bl (!i)) hh1 rfl w1))⟩
 |_=>exact w1.elim
theorem zm2 (G:Gd T cf k N sc X)(ha:PE X a (tE X.K cf ca))(hb:PE X b (tE X.K cf cb))(hm:zaN b=true):PE X (.Compare a [op] [b] pos) (tE X.K cf (.cmp op ca cb)):=by
 refine PE.imp (zly (zdm G.hu op) ha hb (zdO hm op)) fun σ H Qv ⟨δ,ι,S,Q,hs,hh,w,q⟩=>?_;simp[evE,zaa] at w;refine tE.run hs hh w fun d v ι1 H1 S1 x1 hs1 hh1 r1 w1=>tE.run hs1 hh1 w1 fun e u ι2 H2 S2 x2 hs2 hh2 r2 w2=>?_;obtain⟨b,hb,w3⟩:=zaC w2;exact⟨ι2,S2,d,e,b,r1.ext x2,r2,hh2,hb,q _ _ (Lf.up (x1.trans x2) (Lf.of (d:=.bl b) hh2 rfl w3))⟩
theorem zmH (G:Gd T cf k N sc X)(ha:PE X a (tE X.K cf ca))(hb:PE X b (tE X.K cf cb))(hm:zaN b=true):PT X (.Compare a [op] [b] pos) (tT X.K cf (.cmp op ca cb)):=by
 refine PT.imp (zlp (zdm G.hu op) ha hb (zdO hm op)) fun σ H Qv ⟨δ,ι,S,Q,hs,hh,w,q⟩=>?_;simp[evT,zaa] at w;refine tE.run hs hh w fun d v ι1 H1 S1 x1 hs1 hh1 r1 w1=>tE.run hs1 hh1 w1 fun e u ι2 H2 S2 x2 hs2 hh2 r2 w2=>?_;obtain⟨b,hb,w3⟩:=zaC w2;exact⟨ι2,S2,d,e,b,r1.ext x2,r2,hh2,hb,b,rfl,q _ _ ⟨ι2,S2,x1.trans x2,hh2,w3⟩⟩
theorem zk7 (G:Gd T cf k N sc X)(ha:PE X a (tE X.K cf ca))(hb:PE X b (tE X.K cf cb))(hc:PE X c (tE X.K cf cc))(hm:zaN b=true)(hm':zaN c=true) :
  PE X (.Compare a [op,op'] [b,c] pos) (tE X.K cf (.cmp2 op op' ca cb cc)):=by
 refine PE.imp (zjw (zdm G.hu op) (zdm G.hu op') ha hb hc (by simp[lastMarks,zdO hm'])) fun σ H Qv ⟨δ,ι,S,Q,hs,hh,w,q⟩=>?_;simp[evE,zaa] at w;refine tE.run hs hh w fun d v ι1 H1 S1 x1 hs1 hh1 r1 w1=>tE.run hs1 hh1 w1 fun e u ι2 H2 S2 x2 hs2 hh2 r2 w2=>?_;obtain⟨b,hb,w3⟩:=zaC w2;refine⟨ι2,S2,d,e,b,r1.ext x2,r2,hh2,hb,b,rfl,?_⟩;cases b with
 |false=>exact q _ _ (Lf.up (x1.trans x2) (Lf.of (d:=.bl false) hh2 rfl w3))
 | true=>
   simp at w3⊢;refine tE.run hs2 hh2 w3 fun e' u' ι3 H3 S3 x3 hs3 hh3 r3 w4=>?_;obtain⟨b,hb,w5⟩:=zaC w4;exact⟨ι3,S3,e,e',b,r2.ext x3,r3,hh3,hb,q _ _ (Lf.up ((x1.trans x2).trans x3) (Lf.of (d:=.bl b) hh3 rfl w5))⟩
theorem zkP (G:Gd T cf k N sc X)(ha:PE X a (tE X.K cf ca))(hb:PE X b (tE X.K cf cb))(hc:PE X c (tE X.K cf cc))(hm:zaN b=true)(hm':zaN c=true) :
  PT X (.Compare a [op,op'] [b,c] pos) (tT X.K cf (.cmp2 op op' ca cb cc)):=by
 refine PT.imp (zjg (zdm G.hu op) (zdm G.hu op') ha hb hc (by simp[lastMarks,zdO hm'])) fun σ H Qv ⟨δ,ι,S,Q,hs,hh,w,q⟩=>?_;simp[evT,zaa] at w;refine tE.run hs hh w fun d v ι1 H1 S1 x1 hs1 hh1 r1 w1=>tE.run hs1 hh1 w1 fun e u ι2 H2 S2 x2 hs2 hh2 r2 w2=>?_;obtain⟨b,hb,w3⟩:=zaC w2;refine⟨ι2,S2,d,e,b,r1.ext x2,r2,hh2,hb,b,rfl,?_⟩;cases b with
 |false=>exact⟨false,rfl,q _ _ ⟨ι2,S2,x1.trans x2,hh2,w3⟩⟩
 | true=>
   simp only[if_true,zaa] at w3⊢;refine tE.run hs2 hh2 w3 fun e' u' ι3 H3 S3 x3 hs3 hh3 r3 w4=>?_;obtain⟨b,hb,w5⟩:=zaC w4;exact⟨ι3,S3,e,e',b,r2.ext x3,r3,hh3,hb,b,rfl,q _ _ ⟨ι3,S3,(x1.trans x2).trans x3,hh3,w5⟩⟩
theorem zkh {rest:List Expr}(ha:PE X a (tE X.K cf ca))(hb:PE X (.BoolOp .And (b::rest) pos) (tE X.K cf cb)):PE X (.BoolOp .And (a::b::rest) pos) (tE X.K cf (.and ca cb)):=by
 refine PE.imp (znx ha hb) fun σ H Qv ⟨δ,ι,S,Q,hs,hh,w,q⟩=>?_;simp[evE,zaa] at w;refine tE.run hs hh w fun d v ι1 H1 S1 x1 hs1 hh1 r1 w1=>?_;cases d with
 | bl c=>
   obtain rfl:v=.bl c:=r1;refine⟨c,rfl,?_⟩;cases c with
   |false=>exact q _ _ (Lf.up x1 (Lf.of (d:=.bl false) hh1 rfl w1))
   |true=>exact⟨δ,ι1,S1,Q,hs1,hh1,w1,fun z H3 l=>q z H3 (Lf.up x1 l)⟩
 |_=>exact w1.elim
theorem zmS {rest:List Expr}(ha:PE X a (tE X.K cf ca))(hb:PE X (.BoolOp .Or (b::rest) pos) (tE X.K cf cb)):PE X (.BoolOp .Or (a::b::rest) pos) (tE X.K cf (.or ca cb)):=by
 refine PE.imp (zo5 ha hb) fun σ H Qv ⟨δ,ι,S,Q,hs,hh,w,q⟩=>?_;simp[evE,zaa] at w;refine tE.run hs hh w fun d v ι1 H1 S1 x1 hs1 hh1 r1 w1=>?_;cases d with
 | bl c=>
   obtain rfl:v=.bl c:=r1;refine⟨c,rfl,?_⟩;cases c with
   |true=>exact q _ _ (Lf.up x1 (Lf.of (d:=.bl true) hh1 rfl w1))
   |false=>exact⟨δ,ι1,S1,Q,hs1,hh1,w1,fun z H3 l=>q z H3 (Lf.up x1 l)⟩
 |_=>exact w1.elim
theorem LfB.up {K:PySem.W.Frag}(x:Ext ι H ι' H')(h:LfB K ι' H' Q b H2):LfB K ι H Q b H2:=by
 obtain⟨ι2,S2,x2,r⟩:=h;exact⟨ι2,S2,x.trans x2,r⟩
theorem zkc {rest:List Expr}(ha:PT X a (tT X.K cf ca))(hb:PW X (.BoolOp .And (b::rest) pos) (tT X.K cf cb)):PW X (.BoolOp .And (a::b::rest) pos) (tT X.K cf (.and ca cb)):=by
 refine PW.imp (znh ha hb) fun σ H Qv ⟨δ,ι,S,Q,hs,hh,w,q⟩=>?_;simp[evT,zaa] at w;refine tT.run hs hh w fun c ι1 H1 S1 x1 hs1 hh1 w1=>?_;cases c with
 |false=>exact q _ _ ⟨ι1,S1,x1,hh1,w1⟩
 |true=>exact⟨δ,ι1,S1,Q,hs1,hh1,w1,fun z H3 l=>q z H3 (LfB.up x1 l)⟩
theorem zmG {rest:List Expr}(ha:PT X a (tT X.K cf ca))(hb:PW X (.BoolOp .Or (b::rest) pos) (tT X.K cf cb)):PW X (.BoolOp .Or (a::b::rest) pos) (tT X.K cf (.or ca cb)):=by
 refine PW.imp (zo3 ha hb) fun σ H Qv ⟨δ,ι,S,Q,hs,hh,w,q⟩=>?_;simp[evT,zaa] at w;refine tT.run hs hh w fun c ι1 H1 S1 x1 hs1 hh1 w1=>?_;cases c with
 |true=>exact q _ _ ⟨ι1,S1,x1,hh1,w1⟩
 |false=>exact⟨δ,ι1,S1,Q,hs1,hh1,w1,fun z H3 l=>q z H3 (LfB.up x1 l)⟩
theorem zoR (ha:PT X a (tT X.K cf ca)):PT X (.UnaryOp .Not a pos) (tT X.K cf (.nt ca)):=by
 refine PT.imp (zni ha) fun σ H Qv ⟨δ,ι,S,Q,hs,hh,w,q⟩=>?_;simp[evT,zaa] at w;exact tT.run hs hh w fun c ι1 H1 S1 x1 hs1 hh1 w1=>q _ _ ⟨ι1,S1,x1,hh1,w1⟩
theorem zmA (hh:RH X.K ι H S)(r:RV X.K ι H d v)(h:tru S d=some b):TruV X.K v H b:=by
 cases d with
 |non=>obtain rfl:v=.non:=r;cases h;rfl
 |bl c=>obtain rfl:v=.bl c:=r;cases h;rfl
 |int i=>obtain rfl:v=.int i:=r;cases h;rfl
 | tup ds=>
   obtain⟨a,xs,rfl,ha,rr⟩:=r;cases h;refine .inr (.inl ⟨xs,SqT.of ha,?_⟩);have:=rr.length;cases ds<;>cases xs<;>first|rfl|simp at this
 | ref l=>
   simp[tru] at h;split at h
   . rename_i ds e;cases h;obtain⟨a,h1,rfl⟩:=r;obtain⟨a2,h2,xs,ha,rr⟩:=hh.obj _ _ e;rw[h1] at h2;cases h2;refine .inl ⟨xs,SqL.of ha,?_⟩;have:=rr.length;cases ds<;>cases xs<;>first|rfl|simp at this
   . cases h
 |_=>cases h
theorem zmF (ha:PE X a (tE X.K cf ca))(hp:zfG a=true):PT X a (tT X.K cf (.tst ca)):=by
 refine PT.imp (zjf ha (zmz hp X.env)) fun σ H Qv ⟨δ,ι,S,Q,hs,hh,w,q⟩=>?_;simp[evT,zaa] at w;refine tE.run hs hh w fun d v ι1 H1 S1 x1 hs1 hh1 r1 w1=>?_;obtain⟨b,hb,w2⟩:=zaC w1;exact⟨b,zmA hh1 r1 hb,q _ _ ⟨ι1,S1,x1,hh1,w2⟩⟩
theorem zmZ (hc:PT X c (tT X.K cf cc))(ha:PE X a (tE X.K cf ca))(hb:PE X b (tE X.K cf cb)):PE X (.IfExp c a b pos) (tE X.K cf (.ite cc ca cb)):=by
 refine PE.imp (zjv hc ha hb) fun σ H Qv ⟨δ,ι,S,Q,hs,hh,w,q⟩=>?_;simp[evE,zaa] at w;refine tT.run hs hh w fun c ι1 H1 S1 x1 hs1 hh1 w1=>?_;cases c with
 |true=>exact⟨δ,ι1,S1,Q,hs1,hh1,w1,fun z H3 l=>q z H3 (Lf.up x1 l)⟩
 |false=>exact⟨δ,ι1,S1,Q,hs1,hh1,w1,fun z H3 l=>q z H3 (Lf.up x1 l)⟩
theorem zhl:PA X [] (tAs X.K cf .nil):=PA.imp zcn fun σ H Qv ⟨δ,ι,S,Q,hs,hh,w,q⟩=>q [] H ⟨[],ι,S,Ext.refl _ _,rfl,hh,by simpa[evEs] using w⟩
theorem zdv (he:PE X e (tE X.K cf ce))(hes:PA X es (tAs X.K cf ces))(hn:zaj e=true):PA X (e::es) (tAs X.K cf (.cons ce ces)):=by
 refine PA.imp (zaV he hes (zak hn es X.env)) fun σ H Qv ⟨δ,ι,S,Q,hs,hh,w,q⟩=>?_;simp[evEs,zaa] at w;refine tE.run hs hh w fun d v ι1 H1 S1 x1 hs1 hh1 r1 w1=>tAs.run hs1 hh1 w1 fun ds vs ι2 H2 S2 x2 hs2 hh2 r2 w2=>?_;exact q _ _ ⟨d::ds,ι2,S2,x1.trans x2,⟨v,vs,rfl,r1.ext x2,r2⟩,hh2,w2⟩
theorem zmR (h:PA X es (tAs X.K cf ces)):PE X (.Tuple es j pos) (tE X.K cf (.tup ces)):=by
 refine PE.imp (znq h) fun σ H Qv ⟨δ,ι,S,Q,hs,hh,w,q⟩=>?_;simp[evE,zaa] at w;refine tAs.run hs hh w fun ds vs ι1 H1 S1 x1 hs1 hh1 r1 w1=>?_;split at w1
 . rename_i c;exact⟨by rw[r1.length,sizeLine_eq];exact c,fun p hp=>q _ _ (Lf.up x1 (Lf.tup hh1 hp r1 w1))⟩
 . exact w1.elim
theorem zmX (h:PA X es (tAs X.K cf ces)):PE X (.List es pos) (tE X.K cf (.lst ces)):=by
 refine PE.imp (znt h) fun σ H Qv ⟨δ,ι,S,Q,hs,hh,w,q⟩=>?_;simp[evE,zaa] at w;refine tAs.run hs hh w fun ds vs ι1 H1 S1 x1 hs1 hh1 r1 w1=>?_;obtain⟨c,w2⟩:=zco w1;exact⟨by rw[r1.length];exact c,fun p hp=>q _ _ (Lf.up x1 (Lf.lst hh1 hp r1 w2))⟩
theorem zpl (hh:RH X.K ι H S)(r:RV X.K ι H d v)(hq:zbK S d=some ds)(ha:R.atI ds i=some e):∃u,rIx X.K v (.int i) H (fun z H'=>z=u/\H'=H)/\RV X.K ι H e u:=by
 obtain⟨a,xs,rfl,hx,rr⟩:=zkf hh hq r;have hl:=rr.length;have key:∃u,L2.atI xs i=some u/\RV X.K ι H e u:=by
  unfold R.atI at ha;cases e1:R.ixN ds.length i with
  |none=>rw[e1] at ha;cases ha
  | some j=>
    rw[e1] at ha;obtain⟨u,h1,h2⟩:=rr.get ha;refine⟨u,?_,h2⟩;unfold L2.atI;have:L2.ixN xs.length i=some j:=by rw[hl];exact e1
    rw[this];exact h1
 obtain⟨u,h1,h2⟩:=key;refine⟨u,?_,h2⟩;rcases hx with hx|hx
 . exact .inl ⟨a,xs,i,u,rfl,rfl,hx,h1,rfl,rfl⟩
 . exact .inr (.inl ⟨a,xs,i,u,rfl,rfl,hx,h1,rfl,rfl⟩)
theorem zlk {K:PySem.W.Frag}(h:rIx K x y H (fun z H'=>z=u/\H'=H))(q:Q u H):rIx K x y H Q:=by
 rcases h with ⟨p,xs,i,v,h1,h2,h3,h4,rfl,_⟩|⟨p,xs,i,v,h1,h2,h3,h4,rfl,_⟩|⟨z,i,c,h1,h2,h3,h4,h5,_⟩
 . exact .inl ⟨p,xs,i,v,h1,h2,h3,h4,q⟩
 . exact .inr (.inl ⟨p,xs,i,v,h1,h2,h3,h4,q⟩)
 . exact .inr (.inr ⟨z,i,c,h1,h2,h3,h4,by rw[h5];exact q⟩)
theorem zoX (ha:PE X a (tE X.K cf ca))(hb:PE X b (tE X.K cf cb))(hp:zdK b=true):PE X (.Subscript a b pos) (tE X.K cf (.ix ca cb)):=by
 refine PE.imp (zo7 znY ha hb (zpm hp)) fun σ H Qv ⟨δ,ι,S,Q,hs,hh,w,q⟩=>?_;simp[evE,zaa] at w;refine tE.run hs hh w fun d v ι1 H1 S1 x1 hs1 hh1 r1 w1=>tE.run hs1 hh1 w1 fun e u ι2 H2 S2 x2 hs2 hh2 r2 w2=>?_;split at w2
 . rename_i ds i eq;obtain⟨z,hz,w3⟩:=zaC w2;obtain rfl:u=.int i:=r2;obtain⟨u,h1,h2⟩:=zpl hh2 (r1.ext x2) eq hz;exact zlk h1 (q _ _ (Lf.up (x1.trans x2) (Lf.of hh2 h2 w3)))
 . exact w2.elim
end
end R
end
section
namespace R
open PySem PySem.Spec PyProof.Rows L2
variable [Mks]
section
variable {K:PySem.W.Frag} {ι ι':List Addr} {H H':Hp} {S T:R.St} {d:D} {v:V}
theorem get_frz (hf:T.frz=S.frz++S.new)(h:S.get l=some o):T.get l=some o:=by
 obtain⟨f,n,k⟩:=T;subst hf;exact zlU h n k
theorem RH.cut (hh:RH K ι H S)(x:Ext ι H ι' H')(hT:RH K ι' H' T)(hf:T.frz=S.frz++S.new):RH K ι H' S:=by
 refine⟨hh.len,hh.nd,fun l o e=>?_,hT.tab⟩;obtain⟨a,h1,h2⟩:=hh.obj l o e;obtain⟨b,h3,h4⟩:=hT.obj l o (get_frz hf e);rw[zbV x.pre h1] at h3;cases h3;refine⟨a,h1,?_⟩;cases o with
 | lst ds=>
   obtain⟨xs,_,r1⟩:=h2;obtain⟨ys,e2,r2⟩:=h4;exact⟨ys,e2,r2.restrict x.pre r1.flats⟩
 | ins c fs=>
   obtain⟨_,_,ws,_,_,r1⟩:=h2;obtain⟨C,dx,ys,e0,e2,r2⟩:=h4;exact⟨C,dx,ys,e0,e2,r2.restrict x.pre r1.flats⟩
 | exc c fs=>
   obtain⟨_,_,_,ws,_,_,_,r1⟩:=h2;obtain⟨C,dx,od,ys,e0,e1,e2,r2⟩:=h4;exact⟨C,dx,od,ys,e0,e1,e2,r2.restrict x.pre r1.flats⟩
theorem Ext.cut (x:Ext ι H ι' H'):Ext ι H ι H':=⟨prefix_refl _,x.kp,fun a o h e=>⟨(x.rest a o h e).1,h⟩⟩
theorem zlr (hp:ι <+: ι')(nd:ι'.Nodup)(hl:ι'[l]?=some a)(h:ι.length<=l):a∉ι:=fun hm=>by
 obtain⟨t,rfl⟩:=hp;rw[getElem?_append_right h] at hl;have h2:=mem_of_getElem? hl;exact (nodup_append.mp nd).2.2 a hm a h2 rfl
theorem zl0 (x:Ext ι H ι' H')(nd:ι'.Nodup)(hl:ι'[l]?=some a)(h:ι.length<=l):Ext ι H (ι++[a]) H':=by
 refine⟨prefix_append _ _,x.kp,fun b o hb e=>⟨(x.rest b o hb e).1,fun z=>?_⟩⟩;rcases mem_append.mp z with z|z
 . exact hb z
 . simp at z;subst z;exact (x.rest b o hb e).2 (mem_of_getElem? hl)
theorem RH.one {l:Nat}(hh:RH K ι H' S)(nd:a∉ι)(ho:RO K (ι++[a]) H' a o):RH K (ι++[a]) H' (S.push o):=by
 refine⟨by rw[length_append,hh.len,zcx];rfl,?_,fun l o' e=>?_,hh.tab⟩
 . rw[nodup_append];refine⟨hh.nd,by simp,fun b hb c hc=>?_⟩;simp at hc;subst hc;exact fun z=>nd (z▸hb)
 . by_cases hl:l<S.len
   . rw[zcR hl] at e;obtain⟨b,h1,h2⟩:=hh.obj l o' e;exact⟨b,zbV (prefix_append _ _) h1,h2.up (prefix_append _ _) (Kp.refl _) rfl⟩
   . have hl2:=za9 e;rw[zcx] at hl2;have:l=S.len:=by omega
     subst this;rw[zfZ] at e;cases e;exact⟨a,by rw[<-hh.len];simp,ho⟩
theorem RH.keep (hT:RH K ι' H' T)(hf:T.frz=S.frz++S.new):RH K ι' H' ⟨S.frz,S.new++T.new,S.lk⟩:=by
 have hg:∀l,(R.St.mk S.frz (S.new++T.new) S.lk).get l=T.get l:=fun l=>by
  unfold St.get;rw[hf];simp;by_cases h1:l<S.frz.length
  . rw[if_pos h1,if_pos (by omega),getElem?_append_left h1]
  . by_cases h2:l<S.frz.length+S.new.length
    . rw[if_neg h1,if_pos h2,getElem?_append_left (by omega),getElem?_append_right (by omega)]
    . rw[if_neg h1,if_neg h2,getElem?_append_right (by omega)];congr 1;omega
 refine⟨?_,hT.nd,fun l o e=>hT.obj l o (by rw[<-hg];exact e),hT.tab⟩;rw[hT.len];unfold St.len;rw[hf];simp;omega
theorem zcy (hh:RH K ι H S)(x:Ext ι H ι' H')(r:RV K ι' H' d v)(hT:RH K ι' H' T)(hf:T.frz=S.frz++S.new)(w:W (zaZ S d T) Q):Lf K ι H Q v H':=by
 have hc:=hh.cut x hT hf;unfold zaZ at w;split at w
 . rename_i c;rw[<-hh.len] at c;exact⟨d,ι,S,x.cut,r.restrict x.pre c,hc,w⟩
 . rename_i c;split at w
   . rename_i l;obtain⟨a,h1,rfl⟩:=id r;have hl:ι.length<=l:=by
      simp[R.flat,decide_eq_true_eq] at c;rw[hh.len];omega
     have ha:=zlr x.pre hT.nd h1 hl;split at w
     . rename_i ds e;obtain⟨b,h2,h3⟩:=hT.obj l _ e;rw[h1] at h2;cases h2;split at w
       . rename_i c2;rw[<-hh.len] at c2;obtain⟨ys,e2,r2⟩:=h3;refine⟨.ref S.len,ι++[a],S.push (.lst ds),zl0 x hT.nd h1 hl,⟨a,by rw[<-hh.len];simp,rfl⟩,hc.one (l:=l) ha ⟨ys,e2,(r2.restrict x.pre c2).up (prefix_append _ _) (Kp.refl _)⟩,w⟩
       . exact⟨_,ι',_,x,r,hT.keep hf,w⟩
     . exact⟨_,ι',_,x,r,hT.keep hf,w⟩
   . exact⟨_,ι',_,x,r,hT.keep hf,w⟩
end
section
variable {T:Tab} {cf:CF} {k:Nat} {N:List Str} {sc:Scope} {X:Cx} {pos p:Pos}
theorem RVs.nons {K:PySem.W.Frag}:∀j:Nat,RVs K ι H (List.replicate j .non) (List.replicate j .non)
 |0=>rfl
 |j+1=>⟨.non,List.replicate j .non,rfl,rfl,RVs.nons j⟩
theorem RH.enter {K:PySem.W.Frag}(h:RH K ι H S):RH K ι H S.enter:=⟨by rw[enter_len];exact h.len,h.nd,fun l o e=>h.obj l o (by rw[zau] at e;exact e),h.tab⟩
theorem ziB (hfr:CFok cf)(h:tE X.K cf (.call f j ces) σ H Qv) :
  zhc (spF X.K cf f) (List.replicate j .non) E0 (tAs X.K cf ces) σ H Qv:=by
 obtain⟨δ,ι,S,Q,hs,hh,w,q⟩:=h;simp[evE,zaa] at w;refine tAs.run hs hh w fun ds vs ι1 H1 S1 x1 hs1 hh1 r1 w1=>?_;unfold app at w1;rw[zaa] at w1;refine⟨ι1,S1.enter,ds++List.replicate j .non,r1.append (RVs.nons j),hh1.enter,?_⟩;obtain⟨d,T',e,w2⟩:=zg1 w1;rw[e];exact fun v H' ι' x r hT=>q v H' (Lf.up x1 (zcy hh1 x r hT (hfr _ _ _ _ _ (.inl e)).frz w2))
theorem zeK {K:PySem.W.Frag}(hh:RH K ι1 H1 S1)(x:Ext ι H ι1 H1)(hn:H1 a=none):H a=none:=by
 cases e:H a with
 |none=>rfl
 | some o=>
   by_cases hm:a∈ι
   . have h2:a∈ι1:=by obtain⟨t,rfl⟩:=x.pre;exact mem_append_left _ hm
     exact absurd h2 (hh.fresh hn)
   . have:=(x.rest a o hm e).1;rw[hn] at this;rcases this with z|⟨_,_,z⟩<;>cases z
theorem zk8 (G:Gd T cf k N sc X)(hf:T.fns[f]?=some (x,ps,nd))(hj:j<=nd)(hg:isGl sc x=true)(hd:(x == ("__debug__":Str))=false)(ha:PA X (e::es) (tAs X.K cf ces))(hst:(e::es).all zaj=true) :
  PE X (.Call (.Name x p) (e::es) [] pos) (tE X.K cf (.call f j ces)):=by
 have Hs:=G.tab.fns f x ps nd hf j hj;rw[all_cons,and_eq_true] at hst;exact PE.imp (zo8 Hs G.room ha (G.gl hg) hd (zak hst.1 es X.env) (zaM hst.2)) fun σ H Qv h=>ziB G.tab.frm h
theorem zi6 (G:Gd T cf k N sc X)(hf:T.fns[f]?=some (x,ps,nd))(hj:j<=nd)(hg:isGl sc x=true)(hd:(x == ("__debug__":Str))=false) :
  PE X (.Call (.Name x p) [] [] pos) (tE X.K cf (.call f j .nil)):=by
 have Hs:=G.tab.fns f x ps nd hf j hj;refine PE.imp (znv Hs G.room (G.gl hg) hd) fun σ H Qv ⟨δ,ι,S,Q,hs,hh,w,q⟩=>?_;simp only[evE,evEs,zao] at w;unfold app at w;rw[zaa] at w;obtain⟨d,T',e,w2⟩:=zg1 w;refine⟨ι,S.enter,[]++List.replicate j .non,RVs.append rfl (RVs.nons j),hh.enter,?_⟩;rw[e];exact fun v H' ι' x r hT=>q v H' (zcy hh x r hT (G.tab.frm _ _ _ _ _ (.inl e)).frz w2)
end
end R
end
section
namespace R
open PySem PySem.Spec PyProof.Rows L2
variable [Mks]
section
variable {prog:Program} {w:World} {A:Around} {E:Value->Shared->Prop} {s:Shared}
theorem zbY {lo hi:Option Int}(ht:IsTup s.heap t items)(hs:s.heap.IsSliceOf sl vl vu .none)(pl:IsPart vl lo)(pu:IsPart vu hi)
  (hw:HT.sIx items.size 0 lo=0/\HT.sIx items.size items.size hi=items.size)
  (h:Q (.ref t) s):wpAny (model prog w) A (getItem (.ref t) (.ref sl)) Q E s:=by
 obtain⟨os,hos,hcs,hds⟩:=id hs;have hTs:s.TypeIs (.ref sl) "slice":=⟨os,hos,hcs⟩;unfold getItem
 try with_reducible apply wpAny_holding
 refine wpAny_bind (wpAny_sequenceKey ht.typeIs (by decide) ?_);refine wpAny_bind (wpAny_callSpecial?_slot ht.typeIs PyProof.Rows.slot_tuple_getitem
  (wpAny_call_entry PyProof.Rows.slot_tuple_getitem ht.typeIs entry_tuple_getitem ?_ (args_tuple_getitem _ _)))
 show wpAny _ _ (Builtin.Tuple.tupleItemsOf (.ref t) >>= _) _ _ s;refine wpAny_bind (tupleItemsOf_ ht ?_);refine wpAny_bind (wpAny_typeOf hTs ?_);refine wpAny_bind (HT.sliceApplied_gen hs pl pu ?_);have hyes:(((HT.sIx items.size 0 lo:Nat):Int) == 0&&(1:Int) == 1&&(HT.sIx items.size items.size hi - HT.sIx items.size 0 lo) == items.size)=true:=by
  rw[hw.1,hw.2];simp
 show wpAny _ _ (if (((HT.sIx items.size 0 lo:Nat):Int) == 0&&(1:Int) == 1&&(HT.sIx items.size items.size hi - HT.sIx items.size 0 lo) == items.size)=true then _ else _) _ _ s;rw[if_pos hyes];refine wpAny_bind (wpAny_bind (wpAny_typeOf ht.typeIs (wpAny_pure ?_)));exact wpAny_bind (wpAny_rule (wpAny_pure ⟨_,rfl,wpAny_pure h⟩))
end
section
variable {T:Tab} {cf:CF} {k:Nat} {N:List Str} {sc:Scope} {X:Cx} {pos p:Pos}
def rSlW (K:PySem.W.Frag):V->Option Int->Option Int->Hp->VK->Prop:=fun x lo hi H Q=>∃a xs,x=.ref a/\SqT K H a xs/\
 (HT.sIx xs.length 0 lo=0/\HT.sIx xs.length xs.length hi=xs.length)/\Q (.ref a) H
theorem ziZ:SlR X (rSlW X.K):=by
 intro pins s σ H x v vl vu lo hi sl Q I rx hs pl pu h;obtain⟨a,xs,rfl,hx,hw,q⟩:=h;cases rx;obtain⟨its,r,ht,hz⟩:=I.tuple hx;have hlen:its.toArray.size=xs.length:=by rw[size_toArray];exact r.length.symm
 exact⟨"tuple",_,PyProof.Rows.slot_tuple_getitem.lookup,ht.typeIs,zbY ht hs pl pu (by rw[hlen];exact hw) ⟨.ref a,H,I,rfl,q⟩⟩
theorem zfC (n d:Nat)(o:Option Int):R.sIx n d o=HT.sIx n d o:=by
 cases o<;>rfl
theorem ziy {lo hi:Option Int}(h:HT.sIx xs.length 0 lo=0/\HT.sIx xs.length xs.length hi=xs.length):cut xs lo hi=xs:=by
 unfold cut;rw[zfC,zfC,h.1,h.2];simp
theorem RVs.cut {K:PySem.W.Frag}(r:RVs K ι H ds xs)(lo hi:Option Int):RVs K ι H (R.cut ds lo hi) (cutV xs lo hi):=by
 have hl:=r.length;unfold R.cut cutV;rw[zfC,zfC,hl];exact (r.drop _).take _
inductive PartOk (X:Cx) (cf:CF):Bool->CE->Option Expr->Prop where
 |no {c:CE} (h:∃d,c=.con d):PartOk X cf false c none
 |yes {c:CE} {e:Expr} (h:PE X e (tE X.K cf c)):PartOk X cf true c (some e)
theorem zoT {lo hi:Option Expr}(ha:PE X a (tE X.K cf ca))(hlo:PartOk X cf ml clo lo)(hhi:PartOk X cf mh chi hi):PE X (.Subscript a (.Slice lo hi none p2) pos) (tE X.K cf (.sl ca ml mh clo chi)):=by
 have fin:∀{σ:L2.St} {δ:Ev} {ι ι1:List Addr} {H H1:Hp} {S1:R.St} {Q:D->R.St->Prop} {Qv:VK} {d:D} {v:V} {y z:Option Int},Ext ι H ι1 H1->RH X.K ι1 H1 S1->RV X.K ι1 H1 d v->(∀v H',Lf X.K ι H Q v H'->Qv v H')->
   W (match d with|.tup ds=>.ok (.tup (R.cut ds y z)) S1|.fix ds=>lay S1 (R.cut ds y z)|.ref p=>(match S1.get p with|some (.lst ds)=>lay S1 (R.cut ds y z)|_=>.bad)|_=>.bad) Q->
   (rSlL X.K v y z H1 Qv\/rSlT X.K v y z H1 Qv)\/rSlW X.K v y z H1 Qv:=by
  intro σ δ ι ι1 H H1 S1 Q Qv d v y z x hh r q w;cases d with
  | tup ds=>
    obtain⟨a,xs,rfl,ha,rr⟩:=r;by_cases hw:HT.sIx xs.length 0 y=0/\HT.sIx xs.length xs.length z=xs.length
    . refine .inr ⟨a,xs,rfl,SqT.of ha,hw,q _ _ (Lf.up x (Lf.of (d:=.tup ds) hh ⟨a,xs,rfl,ha,rr⟩ ?_))⟩;have e:R.cut ds y z=ds:=ziy (by rw[<-rr.length];exact hw);dsimp only at w;rw[e] at w;exact w
    . exact .inl (.inr ⟨a,xs,rfl,SqT.of ha,hw,fun p hp=>q _ _ (Lf.up x (Lf.tup hh hp (rr.cut y z) w))⟩)
  | fix ds=>
    obtain⟨a,xs,rfl,ha,rr⟩:=r;obtain⟨_,w2⟩:=zco w;exact .inl (.inl ⟨a,xs,rfl,ha.sq,fun p hp=>q _ _ (Lf.up x (Lf.lst hh hp (rr.cut y z) w2))⟩)
  | ref l=>
    dsimp only at w;cases e:S1.get l with
    |none=>rw[e] at w;exact w.elim
    | some o=>
      rw[e] at w;cases o with
      | lst ds=>
        obtain⟨a,h1,rfl⟩:=r;obtain⟨b,h2,xs,ha,rr⟩:=hh.obj _ _ e;rw[h1] at h2;cases h2;obtain⟨_,w2⟩:=zco w;exact .inl (.inl ⟨a,xs,rfl,SqL.of ha,fun p hp=>q _ _ (Lf.up x (Lf.lst hh hp (rr.cut y z) w2))⟩)
      |_=>exact w.elim
  |_=>exact w.elim
 have part:∀{m:Bool} {c:CE} {o:Option Expr},PartOk X cf m c o->∃t,PO X o t/\∀{δ:Ev} {σ:L2.St} {ι:List Addr} {H:Hp} {S:R.St} {Q:D->R.St->Prop} {Qv:Option Int->Hp->Prop},RS X.K ι H δ σ->RH X.K ι H S->W (evE cf c δ S) Q->
   (∀d S',Q d S'->∃z,zby m d=some z)->
   (∀d ι' H' S' z,Ext ι H ι' H'->RS X.K ι' H' δ σ->RH X.K ι' H' S'->Q d S'->zby m d=some z->Qv z H')->t σ H Qv:=by
  intro m c o h;cases h with
  | no h=>
    obtain⟨d,rfl⟩:=h;refine⟨_,zlt,fun {δ σ ι H S Q Qv} hs hh w hp h=>?_⟩;exact h d ι H S none (Ext.refl _ _) hs hh w rfl
  | yes h=>
    refine⟨_,zls h,fun {δ σ ι H S Q Qv} hs hh w hp h=>?_⟩;refine tE.run hs hh w fun d v ι1 H1 S1 x1 hs1 hh1 r1 w1=>?_;obtain⟨z,hz⟩:=hp d S1 w1;cases d with
    | int i=>
      obtain rfl:v=.int i:=r1;exact⟨i,rfl,h _ _ _ _ _ x1 hs1 hh1 w1 rfl⟩
    |_=>cases hz
 obtain⟨tl,pl,rl⟩:=part hlo;obtain⟨th,ph,rh⟩:=part hhi;refine PE.imp (zjq (SlR.or (SlR.or zkV zmP) ziZ) ha pl ph) fun σ H Qv ⟨δ,ι,S,Q,hs,hh,w,q⟩=>?_;simp[evE,zaa] at w;refine tE.run hs hh w fun d v ι1 H1 S1 x1 hs1 hh1 r1 w1=>?_;have hz:∀(b:Bool) (y:D),zby b y=none\/∃z,zby b y=some z:=fun b y=>by cases zby b y<;>simp
 refine rl hs1 hh1 w1 (fun y S2 w2=>?_) fun y ι2 H2 S2 zl x2 hs2 hh2 w2 hzl=>?_
 . rcases hz ml y with e|e
   . rw[W.iff] at w2;obtain⟨u,S3,_,w3⟩:=w2;rw[e] at w3;exact w3.elim
   . exact e
 . refine rh hs2 hh2 w2 (fun u S3 w3=>?_) fun u ι3 H3 S3 zh x3 hs3 hh3 w3 hzh=>?_
   . rcases hz mh u with e|e
     . rw[hzl,e] at w3;exact w3.elim
     . exact e
   . rw[hzl,hzh] at w3;exact fin (σ:=σ) (δ:=δ) ((x1.trans x2).trans x3) hh3 (r1.ext (x2.trans x3)) q w3
end
end R
end
section
namespace R
open PySem PySem.Spec PyProof.Rows L2
variable [Mks]
def rB (K:PySem.W.Frag)(f:R.St->List D->Out D):List V->Hp->VK->Prop:=fun xs H Qv=>∃ι S ds Qd,RVs K ι H ds xs/\RH K ι H S/\W (f S ds) Qd/\∀v H',Lf K ι H Qd v H'->Qv v H'
section
variable {T:Tab} {cf:CF} {k:Nat} {N:List Str} {sc:Scope} {X:Cx} {pos p:Pos}
theorem RVs.one {K:PySem.W.Frag}(r:RVs K ι H [d] xs):∃v,xs=[v]/\RV K ι H d v:=by
 obtain⟨v,w,rfl,r1,r2⟩:=r;cases r2;exact⟨v,rfl,r1⟩
theorem znO:zbt X (.builtin "len") (rB X.K fun S ds=>R.bi S .len ds):=by
 intro pins s σ H xs us Qv I rv ⟨ι,S,ds,Qd,r,hh,w,q⟩;dsimp only at w;unfold bi at w;split at w
 case h_1 x=>
  obtain⟨v,rfl,rr⟩:=r.one;split at w
  . obtain⟨a,xs,rfl,ha,r2⟩:=rr;refine zbE pins s σ H _ us Qv I rv ⟨a,xs,rfl,.inr (SqT.of ha),?_⟩;rw[r2.length];exact q _ _ (Lf.of (d:=.int _) hh rfl w)
  . obtain⟨a,xs,rfl,ha,r2⟩:=rr;refine zbE pins s σ H _ us Qv I rv ⟨a,xs,rfl,.inl ha.sq,?_⟩;rw[r2.length];exact q _ _ (Lf.of (d:=.int _) hh rfl w)
  . rename_i l;obtain⟨a,h1,rfl⟩:=rr;cases e:S.get l with
    |none=>rw[e] at w;exact w.elim
    | some o=>
      rw[e] at w;obtain⟨b,h2,h3⟩:=hh.obj _ _ e;rw[h1] at h2;cases h2;cases o with
      | lst ds=>
        obtain⟨xs,ha,r2⟩:=h3;refine zbE pins s σ H _ us Qv I rv ⟨a,xs,rfl,.inl (SqL.of ha),?_⟩;rw[r2.length];exact q _ _ (Lf.of (d:=.int _) hh rfl w)
      |ins _ _=>exact w.elim
      |exc _ _=>exact w.elim
  . exact w.elim
 all_goals first|exact w.elim|(rename_i h;cases h)
theorem zoy:zbt X (.builtin "abs") (rB X.K fun S ds=>R.bi S .abs ds):=by
 intro pins s σ H xs us Qv I rv ⟨ι,S,ds,Qd,r,hh,w,q⟩;dsimp only at w;unfold bi at w;split at w
 case h_2 i _=>
  obtain⟨v,rfl,rr⟩:=r.one;obtain rfl:v=.int i:=rr;exact zj0 pins s σ H _ us Qv I rv ⟨i,rfl,q _ _ (Lf.of (d:=.int _) hh rfl w)⟩
 all_goals first|exact w.elim|(rename_i h;cases h)
theorem zaX (G:Gd T cf k N sc X)(h:bltB T sc x=true):Gl X x/\X.mg x=none:=by
 unfold bltB at h;rw[and_eq_true] at h;exact⟨G.gl h.1,G.tab.blt x h.2⟩
theorem zoY {id:String}(hc:zbt X (.builtin id) (rB X.K fun S ds=>R.bi S b ds))(hg:Gl X x/\X.mg x=none)(hv:bootBuiltins x=some (.builtin id))(ha:PA X (e::es) (tAs X.K cf ces))(hst:(e::es).all zaj=true)(hn:x≠"__name__")(hdb:(x == ("__debug__":Str))=false) :
  PE X (.Call (.Name x p) (e::es) [] pos) (tE X.K cf (.bi b ces)):=by
 rw[all_cons,and_eq_true] at hst;refine PE.imp (zbo hc hg.1 hg.2 hv ha hn hdb (zak hst.1 es X.env) (zaM hst.2)) fun σ H Qv ⟨δ,ι,S,Q,hs,hh,w,q⟩=>?_;simp[evE,zaa] at w;refine tAs.run hs hh w fun ds vs ι1 H1 S1 x1 hs1 hh1 r1 w1=>?_;exact⟨ι1,S1,ds,Q,r1,hh1,w1,fun v H' l=>q v H' (Lf.up x1 l)⟩
theorem zkK (hh:RH X.K ι H S)(r:RV X.K ι H d v)(h:tyOf S d=some a):zcj H v=some a:=by
 cases d with
 |non=>obtain rfl:v=.non:=r;exact h
 |bl b=>obtain rfl:v=.bl b:=r;exact h
 |int b=>obtain rfl:v=.int b:=r;exact h
 |str b=>obtain rfl:v=.str b:=r;exact h
 | tup ds=>
   obtain⟨p,xs,rfl,ha,_⟩:=r;simp only[zcj,ha];exact h
 | ref l=>
   obtain⟨p,h1,rfl⟩:=r;simp[tyOf] at h;simp[zcj];cases e:S.get l with
   |none=>rw[e] at h;cases h
   | some o=>
     rw[e] at h;obtain⟨b,h2,h3⟩:=hh.obj _ _ e;rw[h1] at h2;cases h2;cases o with
     |lst ds=>obtain⟨xs,ha,_⟩:=h3;rw[ha];exact h
     |ins _ _=>cases h
     |exc _ _=>cases h
 |fix ds=>cases h
theorem zk3 (G:Gd T cf k N sc X)(hg:Gl X "isinstance"/\X.mg "isinstance"=none)(hy:Gl X y/\X.mg y=none)(hb:bootBuiltins y=some (.type t))(ht:t∈["bool","int","str","list","tuple","dict"])(hyn:y≠"__name__")(hyd:(y == ("__debug__":Str))=false)
  (he:PE X e (tE X.K cf ce)) (hst:zaj e=true):PE X (.Call (.Name "isinstance" p) [e,.Name y p2] [] pos) (tE X.K cf (.bi (.isin t) (.cons ce .nil))):=by
 refine PE.imp (zbo zfh hg.1 hg.2 zbq (zaV he (zaV (zhH (v:=.ty t) hy.1 hy.2 hb rfl hyn hyd) zcn) (zak hst _ X.env)) (by decide) (by decide) (zak hst _ X.env)) fun σ H Qv ⟨δ,ι,S,Q,hs,hh,w,q⟩=>?_;simp[evE,evEs,zaa,W_ok] at w;refine tE.run hs hh w fun d v ι1 H1 S1 x1 hs1 hh1 r1 w1=>?_;simp[bi] at w1;cases e:tyOf S1 d with
 |none=>rw[e] at w1;exact w1.elim
 | some a=>
   rw[e] at w1;exact⟨v,t,a,rfl,zkK hh1 r1 e,ht,q _ _ (Lf.up x1 (Lf.of (d:=.bl _) hh1 rfl w1))⟩
theorem zks (hh:RH X.K ι H S)(r:RV X.K ι H d v)(h:isL S d=true):tyV X.K "list" v H:=by
 cases d with
 | ref l=>
   obtain⟨p,h1,rfl⟩:=r;simp[isL] at h;cases e:S.get l with
   |none=>rw[e] at h;cases h
   | some o=>
     rw[e] at h;obtain⟨b,h2,h3⟩:=hh.obj _ _ e;rw[h1] at h2;cases h2;cases o with
     |lst ds=>obtain⟨xs,ha,_⟩:=h3;exact .inl ⟨rfl,xs,SqL.of ha⟩
     |_=>cases h
 |_=>cases h
def rM (K:PySem.W.Frag)(m:Mt):V->List V->Hp->VK->Prop:=fun x xs H Qv=>∃ι S d ds Qd,RV K ι H d x/\RVs K ι H ds xs/\RH K ι H S/\W (R.mt S m d ds) Qd/\∀v H',Lf K ι H Qd v H'->Qv v H'
theorem ziM:MtR X "list.append" (rM X.K .append):=by
 intro pins s σ H x xs v us Qv I rx rv ⟨ι,S,d,ds,Qd,r,rs,hh,w,q⟩;unfold R.mt at w;split at w
 case h_1 l y _=>
  obtain⟨a,h1,rfl⟩:=r;obtain⟨u,rfl,ru⟩:=rs.one;cases e:S.get l with
  |none=>rw[e] at w;exact w.elim
  | some o=>
    rw[e] at w;obtain⟨b,h2,h3⟩:=hh.obj _ _ e;rw[h1] at h2;cases h2;cases o with
    | lst ds=>
      obtain⟨zs,ha,r2⟩:=h3;obtain⟨c,S',hp,w2⟩:=zmj w;refine zel pins s σ H _ _ v us Qv I rx rv ⟨a,zs,u,rfl,rfl,ha,?_,?_⟩
      . rw[r2.length];rw[length_append,List.length_singleton] at c;omega
      . exact q _ _ (Lf.wr (d:=.non) hh e h1 hp (r2.append ⟨u,[],rfl,ru,rfl⟩) rfl w2)
    |_=>exact w.elim
 all_goals first|exact w.elim|(rename_i h;cases h)
theorem zoV {id:String}(slot:Slot "list" name id)(hty:typeOf (.builtin id)=pure (.type "method_descriptor"))(hm:MtR X id (rM X.K m))(ho:PE X o (tE X.K cf co))(he:PE X e (tE X.K cf ce))(hst:zaj e=true)(hsup:zcM o=true)(hl:(apos.endLine == cpos.line)=true) :
  PE X (.Call (.Attribute o name apos) [e] [] cpos) (tE X.K cf (.mt m co (.cons ce .nil))):=by
 refine PE.imp (znw PySem.F.plainAttrs_list slot hty hm ho (zdv he zhl hst) (zfr hsup name X.env _) (by rw[zak hst];rfl) hl (zak hst [] X.env)) fun σ H Qv ⟨δ,ι,S,Q,hs,hh,w,q⟩=>?_;simp[evE,zaa] at w;refine tE.run hs hh w fun d v ι1 H1 S1 x1 hs1 hh1 r1 w1=>?_;split at w1
 . rename_i c;refine⟨zks hh1 r1 c,?_⟩;rw[zaa] at w1;refine tAs.run hs1 hh1 w1 fun ds vs ι2 H2 S2 x2 hs2 hh2 r2 w2=>?_;exact⟨ι2,S2,d,ds,Q,r1.ext x2,r2,hh2,w2,fun z H3 l=>q z H3 (Lf.up (x1.trans x2) l)⟩
 . exact w1.elim
noncomputable def rIns:V->List V->Hp->VK->Prop:=fun x vs H Q=>∃l xs i y,x=.ref l/\vs=[.int i,y]/\H l=some (.lst xs)/\0<=i/\i<=xs.length/\xs.length+1<=sizeLine/\Q .non (upd H l (.lst (xs.take i.toNat++y::xs.drop i.toNat)))
theorem zhQ:MtM X "list.insert" rIns:=by
 intro pins s σ H x vs v us Q I rx rv h;obtain⟨l,xs,i,y,rfl,rfl,hH,h1,h2,hz,q⟩:=h;cases rx;obtain⟨u1,u2,rfl,r1,r2⟩:=ziT rv;obtain⟨t,rfl⟩:=r1;obtain⟨z,its,n,r,hl,e⟩:=I.lstM hH;rw[sizeLine_eq] at hz;have hf:PySem.Builtin.List.listFitsIndex i=true:=fitsIndex_both (by omega) (by omega);refine call_meets PySem.F.slot_list_insert ⟨_,e,rfl⟩ PySem.F.entry_list_insert (PySem.F.args_list_insert_3 _ _ _) (PySem.AutoSeq1.list_insert_list_int_val_1 l its.toArray n i t u2 (by simp[hf]) (by rw[size_toArray,sizeLine_eq];omega)) ⟨e,?_⟩;refine⟨.non,_,I.lset (its':=its.take i.toNat++u2::its.drop i.toNat) hH e ?_ ((r.take _).append (.cons r2 (r.drop _))) ?_,rfl,q⟩
 . have hm:min i.toNat its.length=i.toNat:=Nat.min_eq_left (by omega);rw[if_neg (by omega),size_toArray,hm];simp;exact List.take_of_length_le (by rw[List.length_drop];omega)
 . rw[length_append,length_cons,length_take,List.length_drop,sizeLine_eq];omega
noncomputable def rI (K:PySem.W.Frag):V->List V->Hp->VK->Prop:=fun x xs H Qv=>∃ι S d y z Qd v1 v2,xs=[v1,v2]/\RV K ι H d x/\RV K ι H y v1/\RV K ι H z v2/\RH K ι H S/\W (zc8 S d y z) Qd/\∀v H',Lf K ι H Qd v H'->Qv v H'
theorem zn0:MtR X "list.insert" (rI X.K):=by
 intro pins s σ H x xs v us Qv I rx rv ⟨ι,S,d,y,z,Qd,v1,v2,ex,r,ry,rz,hh,w,q⟩;subst ex;unfold zc8 at w;split at w
 . rename_i l i;obtain⟨a,h1,rfl⟩:=r;obtain rfl:v1=.int i:=ry;cases e:S.get l with
   |none=>rw[e] at w;exact w.elim
   | some o=>
     rw[e] at w;obtain⟨b,h2,h3⟩:=hh.obj _ _ e;rw[h1] at h2;cases h2;cases o with
     | lst ds=>
       obtain⟨zs,ha,r2⟩:=h3;dsimp only at w;split at w
       . rename_i c0;obtain⟨c,S',hp,w2⟩:=zmj w;have hl:=r2.length;rw[length_append,length_cons,length_take,List.length_drop] at c;refine zhQ pins s σ H _ _ v us Qv I rx rv ⟨a,zs,i,v2,rfl,rfl,ha,c0.1,by rw[hl];exact c0.2,by omega,?_⟩;exact q _ _ (Lf.wr (d:=.non) hh e h1 hp ((r2.take _).append ⟨v2,_,rfl,rz,r2.drop _⟩) rfl w2)
       . exact w.elim
     |_=>exact w.elim
 . exact w.elim
theorem zm0 (ho:PE X o (tE X.K cf co))(he:PE X e (tE X.K cf ca))(hx:PE X x (tE X.K cf cb))(hst:zaj e=true)(hst2:zaj x=true)(hsup:zcM o=true)(hl:(apos.endLine == cpos.line)=true) :
  PE X (.Call (.Attribute o "insert" apos) [e,x] [] cpos) (tE X.K cf (.insL co ca cb)):=by
 refine PE.imp (znw PySem.F.plainAttrs_list PySem.F.slot_list_insert PySem.F.type_list_insert zn0 ho (zdv he (zdv hx zhl hst2) hst) (zfr hsup "insert" X.env _) (by rw[zak hst,zak hst2];rfl) hl (zak hst [x] X.env) (by rw[zak hst2];rfl)) fun σ H Qv ⟨δ,ι,S,Q,hs,hh,w,q⟩=>?_;simp[evE,zaa] at w;refine tE.run hs hh w fun d v ι1 H1 S1 x1 hs1 hh1 r1 w1=>?_;split at w1
 . rename_i c;refine⟨zks hh1 r1 c,?_⟩;rw[zaa] at w1;have w2:W (evEs cf (.cons ca (.cons cb .nil)) δ S1) fun ds T=>∃y z,ds=[y,z]/\W (zc8 T d y z) Q:=by
    simp only[evEs,zaa];refine w1.mono fun y S2 h2=>?_;rw[zaa] at h2;exact h2.mono fun z S3 h3=>⟨y,z,rfl,h3⟩
   refine tAs.run hs1 hh1 w2 fun ds vs ι2 H2 S2 x2 hs2 hh2 r2 ⟨y,z,ed,w3⟩=>?_;subst ed;obtain⟨v1,v',rfl,ry,r3⟩:=r2;obtain⟨v2,v'',rfl,rz,r4⟩:=r3;cases r4;exact⟨ι2,S2,d,y,z,Q,v1,v2,rfl,r1.ext x2,ry,rz,hh2,w3,fun z H3 l=>q z H3 (Lf.up (x1.trans x2) l)⟩
 . exact w1.elim
end
end R
end
section
namespace R
open PySem PySem.Spec PyProof.Rows L2
variable [Mks]
section
variable {T:Tab} {cf:CF} {k:Nat} {N:List Str} {sc:Scope} {X:Cx} {pos p:Pos}
theorem SqK.seq {K:PySem.W.Frag}(h:SqK K ι H S a xs ds lks):SqL K H a xs\/SqT K H a xs:=by
 cases h with
 |tmp h e=>exact .inl (SqL.of e)
 |tup e=>exact .inr (SqT.of e)
 |fix e=>exact .inl e.sq
 |own l hl hi hs e=>exact .inl (SqL.of e)
theorem zmO (he:PE X e (tE X.K cf ce)):PE X e (tL X.K cf (.val ce)):=by
 refine PE.imp he fun σ H Qv ⟨δ,ι,S,Q,hs,hh,w,q⟩=>?_;simp[evL,zaa] at w;refine tE.run hs hh w fun d v ι1 H1 S1 x1 hs1 hh1 r1 w1=>?_;obtain⟨ds,eq,w2⟩:=zaC w1;refine q v H1 ⟨ds,lkOf S1 d,ι1,S1,x1,?_,hh1,w2⟩;cases d with
 | tup es=>
   cases eq;obtain⟨a,xs,rfl,ha,rr⟩:=r1;exact⟨a,xs,rfl,rr,.tup ha⟩
 | fix es=>
   cases eq;obtain⟨a,xs,rfl,ha,rr⟩:=r1;exact⟨a,xs,rfl,rr,.fix ha⟩
 | ref l=>
   simp[zbK] at eq;split at eq
   . rename_i ds' e;cases eq;obtain⟨a,h1,rfl⟩:=r1;obtain⟨a2,h2,xs,ha,rr⟩:=hh1.obj _ _ e;rw[h1] at h2;cases h2;exact⟨a,xs,rfl,rr,.own l (by simp[lkOf]) h1 e ha⟩
   . cases eq
 |_=>cases eq
theorem za8 (he:PE X e te)(hst:zaj e=true):PA X [e] (ziW te tNil):=zaV he zcn (zak hst [] X.env)
theorem zmV (G:Gd T cf k N sc X)(hg:Gl X "tuple"/\X.mg "tuple"=none)(he:PE X e (tL X.K cf cl))(hst:zaj e=true):PE X (.Call (.Name "tuple" p) [e] [] pos) (tE X.K cf (.mkT cl)):=by
 refine PE.imp (zbk zdX hg.1 hg.2 zgg (za8 he hst) (by decide) (by decide) (zak hst [] X.env)) fun σ H Qv ⟨δ,ι,S,Q,hs,hh,w,q⟩=>?_;simp[evE,zaa] at w;refine tL.run hs hh w fun ds lks v ι1 H1 S1 x1 hs1 hh1 sq w1=>?_;split at w1
 . rename_i c;obtain⟨a,xs,rfl,rr,kd⟩:=sq;have fresh:SqL X.K H1 a xs->∃p ys,[V.ref a]=[V.ref p]/\((SqL X.K H1 p ys/\∀l,H1 l=none->Qv (.ref l) (upd H1 l (.tup ys)))\/(SqT X.K H1 p ys/\Qv (.ref p) H1)):=fun h=>
    ⟨a,xs,rfl,.inl ⟨h,fun l hl=>q _ _ (Lf.up x1 (Lf.tup hh1 hl rr w1))⟩⟩
   cases kd with
   |tmp h e=>exact fresh (SqL.of e)
   |fix e=>exact fresh e.sq
   |own l hl hi hs e=>exact fresh (SqL.of e)
   |tup e=>exact⟨a,xs,rfl,.inr ⟨SqT.of e,q _ _ (Lf.up x1 (Lf.of (d:=.tup ds) hh1 ⟨a,xs,rfl,e,rr⟩ w1))⟩⟩
 . exact w1.elim
theorem zkg (G:Gd T cf k N sc X)(hg:Gl X "list"/\X.mg "list"=none)(he:PE X e (tL X.K cf cl))(hst:zaj e=true):PE X (.Call (.Name "list" p) [e] [] pos) (tE X.K cf (.mkL cl)):=by
 refine PE.imp (zbk zeA hg.1 hg.2 zfj (za8 he hst) (by decide) (by decide) (zak hst [] X.env)) fun σ H Qv ⟨δ,ι,S,Q,hs,hh,w,q⟩=>?_;simp[evE,zaa] at w;refine tL.run hs hh w fun ds lks v ι1 H1 S1 x1 hs1 hh1 sq w1=>?_;obtain⟨c,w2⟩:=zco w1;obtain⟨a,xs,rfl,rr,kd⟩:=sq;exact⟨a,xs,rfl,kd.seq,fun l hl=>q _ _ (Lf.up x1 (Lf.lst hh1 hl rr w2))⟩
theorem zhT (h:tE X.K cf (.mkL cl) σ H Qv):tLt X.K cf cl σ H Qv:=by
 obtain⟨δ,ι,S,Q,hs,hh,w,q⟩:=h;simp[evE,zaa] at w;refine tLt.run hs hh w fun ds p xs ι1 H1 S1 x1 hs1 hh1 r1 hp e hn w1=>?_;obtain⟨c,w2⟩:=zco w1;refine q _ _ ⟨.ref S1.len,ι1++[p],S1.push (.lst ds),?_,⟨p,hh1.last p,rfl⟩,hh1.one (l:=0) hp ⟨xs,e,r1.up (prefix_append _ _) (Kp.refl _)⟩,w2⟩;refine⟨x1.pre.trans (prefix_append _ _),x1.kp,fun b o hb eb=>⟨(x1.rest b o hb eb).1,fun z=>?_⟩⟩;rcases mem_append.mp z with z|z
 . exact (x1.rest b o hb eb).2 z
 . simp at z;subst z;rw[hn] at eb;cases eb
end
end R
end
section
set_option maxHeartbeats 4000000
namespace R
open PySem PySem.Spec PyProof.Rows L2
variable [Mks]
section
variable {T:Tab} {cf:CF} {k:Nat} {N:List Str} {sc:Scope} {X:Cx} {pos p:Pos}
theorem zj2:bootBuiltins "range"=some (.type "range"):=by decide +kernel
theorem zhx:zbt X (.type "range") (fun xs H Q=>∃j,xs=[.int j]/\∀p,H p=none->Q (.ref p) (upd H p (.rng 0 j))):=by
 intro pins s σ H xs us Q I r h;obtain⟨j,rfl,q⟩:=h;obtain⟨u,rfl,ru⟩:=r.one;obtain⟨t,rfl⟩:=ru;refine call_range_1 ⟨.ref s.heap.objs.size,_,I.laid (fun b ob e=>Heap.get?_push_of_some _ e) (le_refl _) ?_,rfl,q _ (I.hok.fresh (le_refl _))⟩;exact⟨_,_,_,Heap.get?_push_size _ rfl⟩
theorem zjH (hc:X.calm=true):zbt X (.type "list") (fun xs H Q=>∃p hi,xs=[.ref p]/\H p=some (.rng 0 hi)/\-(2 ^ 62)<=hi/\hi<2 ^ 62/\hi.toNat<=16777216/\∀l,H l=none->Q (.ref l) (upd H l (.lst ((List.range hi.toNat).map fun (j:Nat)=>.int j)))):=by
 intro pins s σ H xs us Q I r h;obtain⟨p,hi,rfl,hp,h1,h2,h3,q⟩:=h;obtain⟨u,rfl,ru⟩:=r.one;cases ru;obtain⟨t,t2,t3,e⟩:=(I.hok p _ hp);have hn:Builtin.Range.rangeSize 0 hi 1=(hi.toNat:Nat):=by rw[rangeSize_one];split<;>omega
 refine call_list_range (I.ok.hd hc) e (small_one (by decide) (by decide) h1 h2) hn h3 fun h' tk acc c kp hg it=>?_;refine⟨.ref s.heap.objs.size,_,I.laid (o:=.lst _) kp (le_refl _) ⟨?_,acc.toList,c,?_,?_⟩,rfl,q _ (I.hok.fresh (le_refl _))⟩
 . rw[length_map,List.length_range,sizeLine_eq];exact h3
 . have key:∀(n:Nat) (us:List Value),us.length=n->(∀(j:Nat) (v:Value),us[j]?=some v->∃t,v=Value.int (0+(j:Int) * 1) t)->Vals ((List.range n).map fun (j:Nat)=>V.int j) us:=by
    intro n;induction n with
    | zero=>intro us hl _;cases us with
      |nil=>exact .nil
      |cons _ _=>simp at hl
    | succ n ih=>
      intro us hl hv;have hne:us≠[]:=by intro z;subst z;simp at hl
      have hd:us=us.dropLast++[us.getLast hne]:=(List.dropLast_concat_getLast hne).symm;rw[List.range_succ,List.map_append,hd];have hdl:us.dropLast.length=n:=by simp[hl]
      refine Vals.append (ih _ hdl fun j v e=>hv j v ?_) (.cons ?_ .nil)
      . have hj:j<us.dropLast.length:=(List.getElem?_eq_some_iff.mp e).1;rw[hd,getElem?_append_left hj];exact e
      . obtain⟨t,e⟩:=hv n (us.getLast hne) (by
         conv=>lhs;rw[hd]
         simp[hdl])
        exact⟨t,by simpa using e⟩
   exact key _ _ (by simpa using it.1) fun j v e=>it.2 j v (by simpa using e)
 . simpa using hg
theorem zk2 (G:Gd T cf k N sc X)(hg:Gl X "list"/\X.mg "list"=none)(hr:Gl X "range"/\X.mg "range"=none)(ha:PE X a (tE X.K cf ca))(hst:zaj a=true) :
  PE X (.Call (.Name "list" p) [.Call (.Name "range" p2) [a] [] pos'] [] pos) (tE X.K cf (.mkL (.rng1 ca))):=by
 have hin:=zbk (p:=p2) (pos:=pos') zhx hr.1 hr.2 zj2 (za8 ha hst) (by decide) (by decide) (zak hst [] X.env);refine PE.imp (zbk (zjH G.calm) hg.1 hg.2 zfj (za8 hin rfl) (by decide) (by decide) rfl) fun σ H Qv ⟨δ,ι,S,Q,hs,hh,w,q⟩=>?_;simp[evE,evL,zaa] at w;refine tE.run hs hh w fun d v ι1 H1 S1 x1 hs1 hh1 r1 w1=>?_;cases d with
 | int j=>
   obtain rfl:v=.int j:=r1;dsimp only at w1;split at w1
   . rename_i c;obtain⟨c2,w2⟩:=zco w1;refine⟨j,rfl,fun pr hpr=>⟨pr,j,rfl,zai,c.1,c.2,by simpa[sizeLine_eq] using c2,fun l hl=>?_⟩⟩;have hh2:=hh1.new hpr (.rng 0 j);refine q _ _ (Lf.up (x1.trans (Ext.new hpr _)) (Lf.lst hh2 hl ?_ w2));have:=RVs.ints (K:=X.K) (ι:=ι1) (H:=upd H1 pr (.rng 0 j)) ((List.range j.toNat).map fun (m:Nat)=>(m:Int));rw[map_map,map_map] at this;exact this
   . exact w1.elim
 |_=>exact w1.elim
theorem zl7 {ds:List D}(h:ds.mapM zc0=some bs):ds=bs.map D.bl:=by
 induction ds generalizing bs with
 | nil=>
   have h:bs=[]:=by simpa using h.symm
   subst h;rfl
 | cons d ds ih=>
   obtain⟨y,r,h1,h2,rfl⟩:=zaT h;cases d<;>simp[zc0] at h1;subst h1;rw[ih h2];rfl
theorem RVs.bls_eq {K:PySem.W.Frag}:∀{bs:List Bool} {vs:List V},RVs K ι H (bs.map D.bl) vs->vs=bs.map V.bl
 | [],_,h=>h
 | b::bs,vs,h=>by
   obtain⟨v,r,rfl,h1,h2⟩:=h;rw[RVs.bls_eq h2,show v=.bl b from h1];rfl
theorem zg7 {bs:List Bool}(r:Vals (bs.map V.bl) us):us=bs.map Value.bool:=by
 induction bs generalizing us with
 |nil=>cases r;rfl
 | cons b bs ih=>
   cases r with
   |cons r1 r2=>rw[ih r2,show _=Value.bool b from r1];rfl
theorem ziN (bs:List Bool):(List.range bs.length).all (fun i=>bs.getD i false)=bs.all id:=by
 rw[Bool.eq_iff_iff,all_eq_true,all_eq_true];constructor
 . intro h b hb;obtain⟨i,hi,e⟩:=List.getElem_of_mem hb;have:=h i (by simpa using hi);rw[List.getD_eq_getElem?_getD,List.getElem?_eq_getElem hi,e] at this;exact this
 . intro h i hi;have hi:i<bs.length:=by simpa using hi
   rw[List.getD_eq_getElem?_getD,List.getElem?_eq_getElem hi];exact h _ (List.getElem_mem hi)
theorem zmf (hc:X.calm=true):zbt X (.builtin "all") (fun xs H Q=>∃(a:Addr) (bs:List Bool),xs=[.ref a]/\(SqL X.K H a (bs.map V.bl)\/SqT X.K H a (bs.map V.bl))/\Q (.bl (bs.all id)) H):=by
 intro pins s σ H xs us Q I r h;obtain⟨a,bs,rfl,hq,q⟩:=h;obtain⟨u,rfl,ru⟩:=r.one;cases ru;have hA1:X.A.in1.handled=none:=I.ok.hd hc;have tr:∀(items:Array Value),items.toList=bs.map Value.bool->TruthOf X.prog X.w X.A.in1 (fun i v=>items[i]?=some v) (fun i=>bs.getD i false):=by
  intro items e i v s' Q' E' hv hQ;have hv':items.toList[i]?=some v:=by rw[Array.getElem?_toList];exact hv
  rw[e,getElem?_map] at hv';cases z:bs[i]? with
  |none=>rw[z] at hv';cases hv'
  | some b=>
    rw[z] at hv';simp at hv';subst hv';dsimp only at hQ;rw[List.getD_eq_getElem?_getD,z] at hQ;exact wpAny_truthy_bool hQ
 have fin:∀(h':Heap) (tk n:Nat) (s2:Shared) (it:Addr),n=bs.length->s.heap.objs.size=it->Inv X pins σ H s2->s2.os=s.os->(∀b o,b∉[it]->s2.heap.get? b=some o->h'.get? b=some o)->
   EP X pins σ Q (.bool ((List.range n).all fun i=>bs.getD i false)) {s2 with heap:=h',toks:=tk}:=by
  intro h' tk n s2 it hn hit I2 ho kp;subst hn;rw[ziN];have fp:=I.fpOk (b:=it) (H':=H) (by omega) (I.hok.fresh (by omega));obtain⟨f0,f1,f2,f3,f4,f5⟩:=fp;exact⟨.bl _,H,I2.turned (fun b o hb e=>kp b o (by simpa using hb) e) f0 f1 f3 f4 f5,rfl,q⟩
 rcases hq with hq|hq
 . obtain⟨its,rv,pl,hz⟩:=I.list hq;have hits:=zg7 rv;have hlen:=rv.length;refine call_all_walk (wpAny_pyIter_list pl.isList ?_);have hne:a≠s.heap.objs.size:=by
    obtain⟨o,n,e,_⟩:=pl;exact ne_of_lt (Heap.lt_size e)
   refine⟨s.heap.objs.size,_,_,_,_,_,_,rfl,Walks.list hA1 _ a hne its.toArray,⟨⟨_,Heap.get?_push_size _ rfl,rfl,rfl⟩,pl.isList.push _⟩,tr its.toArray (by simpa using hits),fun h' tk kp=>?_⟩;exact fin h' tk _ _ _ (by simpa using hlen.symm) rfl (I.kept (t':=s.toks) fun b o e=>Heap.get?_push_of_some _ e) rfl kp
 . obtain⟨its,rv,pl,hz⟩:=I.tuple hq;have hits:=zg7 rv;have hlen:=rv.length;refine call_all_walk (wpAny_pyIter_tuple pl ?_);have hne:a≠s.heap.objs.size:=by
    obtain⟨o,e,_⟩:=pl;exact ne_of_lt (Heap.lt_size e)
   refine⟨s.heap.objs.size,_,_,_,_,_,_,rfl,Walks.tuple hA1 _ a hne its.toArray,⟨⟨_,Heap.get?_push_size _ rfl,rfl,rfl⟩,?_⟩,tr its.toArray (by simpa using hits),fun h' tk kp=>?_⟩
   . obtain⟨o,e,c⟩:=pl;exact⟨o,Heap.get?_push_of_some _ e,c⟩
   . exact fin h' tk _ _ _ (by simpa using hlen.symm) rfl (I.kept (t':=s.toks) fun b o e=>Heap.get?_push_of_some _ e) rfl kp
theorem zm4 (G:Gd T cf k N sc X)(hg:Gl X "all"/\X.mg "all"=none)(he:PE X e (tL X.K cf cl))(hst:zaj e=true):PE X (.Call (.Name "all" p) [e] [] pos) (tE X.K cf (.all cl)):=by
 refine PE.imp (zbo (zmf G.calm) hg.1 hg.2 zoq (za8 he hst) (by decide) (by decide) (zak hst [] X.env)) fun σ H Qv ⟨δ,ι,S,Q,hs,hh,w,q⟩=>?_;simp[evE,zaa] at w;refine tL.run hs hh w fun ds lks v ι1 H1 S1 x1 hs1 hh1 sq w1=>?_;obtain⟨b,hb,w2⟩:=zaC w1;unfold allD at hb;cases e:ds.mapM zc0 with
 |none=>rw[e] at hb;cases hb
 | some bs=>
   rw[e] at hb;have hb:b=bs.all id:=by simpa using hb.symm
   subst hb;obtain⟨a,xs,rfl,rr,kd⟩:=sq;rw[zl7 e] at rr;have:=rr.bls_eq;subst this;exact⟨a,bs,rfl,kd.seq,q _ _ (Lf.up x1 (Lf.of (d:=.bl _) hh1 rfl w2))⟩
end
end R
end
section
set_option maxHeartbeats 4000000
namespace R
open PySem PySem.Spec PyProof.Rows L2
variable [Mks]
section
variable {prog:Program} {w:World} {A:Around} {E:Value->Shared->Prop} {s:Shared}
noncomputable abbrev set0 (b:Bool):Obj:={cls:=.type "set",dict:=none,data:=.set #[] 0 (.fresh 0 0 b)}
set_option maxHeartbeats 6400000 in
theorem zhg {t:Addr}{its:Array Value}{ms:List Int}{Q:Value->Shared->Prop}(hc:A.handled=none)(ht:IsTup s.heap t its)(hi:IntsAre its.toList ms)(hb:its.size+1<scanBound)
  (fin:∀(g:Heap) (tk:Nat),g.SetOf (intKind prog w) s.heap.objs.size (fun z=>(firstMet (fun i=>ms.getD i 0) its.size).any (· == z)) (firstMet (fun i=>ms.getD i 0) its.size).length->
   (∀b o,b<s.heap.objs.size->s.heap.get? b=some o->g.get? b=some o)->Q (.ref s.heap.objs.size) {s with heap:=g,toks:=tk}):wpAny (model prog w) A (call (.type "set") [.ref t]) Q E s:=by
 obtain⟨mc,mt,hmro⟩:=F.called_set.mro;have c1:=F.called_set.made;have c2:=F.called_set.sub;refine wpAny_call (codeAny_of_tree ?_);show wpAny _ _ (callAny (.type "set") _) _ _ _;refine wpAny_pure ⟨Code.quiet_builtin _ (by decide +kernel),codeAny_builtin F.entry_type_call ?_⟩;rw[Around.under_plain (weight_type_call_type "set" [.ref t] []) rfl];have c3:=F.called_set.notType;have c4:=F.called_set.canCreate;have c5:=F.typeCall_set_1 (.ref t)
 repeat (any_goals (first|assumption|wp_step))
 refine codeAny_mono (code_set_new_1 (.ref t) (E:=E) (Q₁:=fun o z=>∃led:Bool,o=.ref s.heap.objs.size/\z={s with heap:=s.heap.push (set0 led)}) fun led=>⟨led,rfl,rfl⟩) fun r z hr=>?_;cases r with
 |error e=>exact hr
 | ok fl=>
   cases fl with
   | ret o=>
     obtain⟨led,rfl,rfl⟩:=hr;have g0:(s.heap.push (set0 led)).get? s.heap.objs.size=some (set0 led):=Heap.get?_push_size _ rfl;have g1:Shared.TypeIs {s with heap:=s.heap.push (set0 led)} (.ref s.heap.objs.size) "set":=⟨_,g0,rfl⟩;have c6:=F.called_set.init.lookup;have c7:=F.called_set.init.bind (.ref s.heap.objs.size)
     repeat (any_goals (first|assumption|wp_step))
     refine codeAny_mono (codeAny_call_builtin (R:=wants (fun r z=>r=.none/\∃g tk,z={s with heap:=g,toks:=tk}/\
      g.SetOf (intKind prog w) s.heap.objs.size (fun z=>(firstMet (fun i=>ms.getD i 0) its.size).any (· == z)) (firstMet (fun i=>ms.getD i 0) its.size).length/\
      (∀b o,b<s.heap.objs.size->s.heap.get? b=some o->g.get? b=some o)) E) F.called_set.init.plain F.entry_set_init (check_set_init_1 g1 ?_)) fun r2 z2 hr2=>?_
     . obtain⟨⟨oc,od,oda,osl⟩,ho,hcl,nl,hda⟩:=id ht;simp only at hcl hda;subst hcl hda;have ho':(s.heap.push (set0 led)).get? t=some {cls:=.type "tuple",dict:=od,data:=.seq its nl,slots:=osl}:=Heap.get?_push_of_some _ ho;have d1:=F.sub_tuple_set;have d2:=F.sub_tuple_frozenset;have d3:(Value.type "tuple" == Value.type "dict")=false:=by decide
       have ht1:(s.heap.push (set0 led)).IsTuple t its:=⟨_,ho',rfl,nl,rfl⟩;unfold Builtin.«set.__init__» noKeywords Builtin.Frozenset.updateFrom;generalize hPI:pyIter=PI
       wp_walk
       subst hPI;refine wpAny_pyIter_tuple ht1 ?_;refine wpAny_bind (wpAny_runValue ?_);have tl:t<s.heap.objs.size:=Heap.lt_size ho;have tn:t≠(s.heap.push (set0 led)).objs.size:=by rw[Heap.size_push];exact ne_of_lt (lt_succ_of_lt tl)
       have sn:s.heap.objs.size∉[(s.heap.push (set0 led)).objs.size,t]:=by
        rw[Heap.size_push];simp only[mem_cons,not_mem_nil,or_false,not_or];exact⟨ne_of_lt (lt_succ_self _),ne_of_gt tl⟩
       refine codeAny_set_update_loopS ((Walks.tuple (by simp[hc]) _ t tn its).toS) s.heap.objs.size sn (fun i=>ms.getD i 0) (fun i v hv=>IntsAre.int_at hi i v (by rw[Array.getElem?_toList];exact hv)) hb (its.size - 0) 0 _ (by omega) (zero_le _)
        ⟨⟨_,Heap.get?_push_size _ rfl,rfl,rfl⟩,⟨_,Heap.get?_push_of_some _ ho',rfl,nl,rfl⟩⟩ ?start ?last
       case start=>exact SetOf_congr ((setObjOf_fresh (knd:=intKind prog w) led).setOf (Heap.get?_push_of_some _ g0) (by unfold scanBound;omega)) (fun _=>rfl) rfl
       case last=>
        rintro⟨g,gg,dd,tk,oo⟩ mv hS;obtain rfl:gg=s.gens:=mv.gens;obtain rfl:dd=s.drawn:=mv.drawn;obtain rfl:oo=s.os:=mv.os;show wpAny _ _ _ _ _ _;refine wpAny_pure ?_;show wpAny _ _ (ret Value.none) _ _ _;refine wpAny_pure ⟨rfl,g,tk,rfl,hS,fun b o hb e=>mv.heap b o ?_ (Heap.get?_push_of_some _ (Heap.get?_push_of_some _ e))⟩;rw[Heap.size_push];simp only[mem_cons,not_mem_nil,or_false,not_or];exact⟨ne_of_lt hb,ne_of_lt (lt_succ_of_lt hb)⟩
     . cases r2 with
       |error e=>exact hr2
       | ok f2=>
         cases f2 with
         | ret r=>
           obtain⟨rfl,g,tk,rfl,hS,hk⟩:=hr2
           repeat (any_goals (first|assumption|wp_step))
           exact fin _ _ hS hk
         |_=>exact hr2.elim
   |_=>exact hr.elim
end
section
variable {T:Tab} {cf:CF} {k:Nat} {N:List Str} {sc:Scope} {X:Cx} {pos p p2 pos':Pos}
theorem zb8 (ns:List Int):R.dedup ns=firstMet (fun i=>ns.getD i 0) ns.length:=by
 unfold R.dedup firstMet;have e:(List.range ns.length).map (fun i=>ns.getD i 0)=ns:=by
  apply List.ext_getElem?;intro i;by_cases h:i<ns.length
  . simp[h]
  . simp[h]
 rw[e];unfold step_dedup;simp
theorem zi4 (hc:X.calm=true):zbt X (.type "set") (fun xs H Q=>∃(a:Addr) (ns:List Int),xs=[.ref a]/\(SqL X.K H a (ns.map V.int)\/SqT X.K H a (ns.map V.int))/\ns.length<4000/\∀p,H p=none->∀S,Q (.ref p) (upd H p (.set S (R.dedup ns).length))):=by
 intro pins s σ H xs us Q I r h;obtain⟨a,ns,rfl,hq,hz,q⟩:=h;obtain⟨u,rfl,ru⟩:=r.one;cases ru;have fresh:=I.hok.fresh (le_refl s.heap.objs.size);have lay:∀(g:Heap) (tk n:Nat) (F:Int->Bool),n=(R.dedup ns).length->g.SetOf (intKind X.prog X.w) s.heap.objs.size F n->(∀b o,b<s.heap.objs.size->s.heap.get? b=some o->g.get? b=some o)->EP X pins σ Q (.ref s.heap.objs.size) {s with heap:=g,toks:=tk}:=by
  intro g tk n F hn hS kp;subst hn;exact⟨.ref s.heap.objs.size,_,I.laid (o:=.set F _) (fun b o e=>kp b o (Heap.lt_size e) e) (le_refl _) hS,rfl,q _ fresh F⟩
 have hA:X.A.handled=none:=I.ok.hd hc;rcases hq with hq|hq
 . obtain⟨its,rv,pl,hz2⟩:=I.list hq;have hl:its.toArray.size=ns.length:=by rw[size_toArray,<-rv.length,length_map]
   refine call_set_list hA pl.isList (zcg rv) (by rw[hl];unfold scanBound;omega) fun g tk hS kp=>lay g tk _ _ ?_ hS kp;rw[zb8,hl]
 . obtain⟨its,rv,pl,hz2⟩:=I.tuple hq;have hl:its.toArray.size=ns.length:=by rw[size_toArray,<-rv.length,length_map]
   refine zhg hA pl (zcg rv) (by rw[hl];unfold scanBound;omega) fun g tk hS kp=>lay g tk _ _ ?_ hS kp;rw[zb8,hl]
theorem zlI:zbt X (.builtin "len") (fun xs H Q=>∃p S n,xs=[.ref p]/\H p=some (.set S n)/\n<4096/\Q (.int n) H):=by
 intro pins s σ H xs us Q I r h;obtain⟨p,S,n,rfl,hp,hn,q⟩:=h;obtain⟨u,rfl,ru⟩:=r.one;cases ru;obtain⟨o,es,ep,tb,e1,e2,e3,_,_,_,e4,e5⟩:=(I.hok p _ hp);subst e5;exact call_len_set e1 e2 e3 e4 (by omega) ⟨.int _,H,I.tok _,⟨_,rfl⟩,q⟩
theorem zew (ns:List Int):(R.dedup ns).length<=ns.length:=by rw[zb8];exact firstMet_length_le _ _
theorem zhi (G:Gd T cf k N sc X)(hg:Gl X "len"/\X.mg "len"=none)(hr:Gl X "set"/\X.mg "set"=none)(he:PE X e (tL X.K cf cl))(hst:zaj e=true) :
  PE X (.Call (.Name "len" p) [.Call (.Name "set" p2) [e] [] pos'] [] pos) (tE X.K cf (.lenset cl)):=by
 have hin:=zbk (p:=p2) (pos:=pos') (zi4 G.calm) hr.1 hr.2 zkA (za8 he hst) (by decide) (by decide) (zak hst [] X.env);refine PE.imp (zbo zlI hg.1 hg.2 zkB (za8 hin rfl) (by decide) (by decide) rfl) fun σ H Qv ⟨δ,ι,S,Q,hs,hh,w,q⟩=>?_;simp[evE,zaa] at w;refine tL.run hs hh w fun ds lks v ι1 H1 S1 x1 hs1 hh1 sq w1=>?_;obtain⟨ns,hb,w2⟩:=zaC w1;split at w2
 . rename_i c;obtain⟨a,xs,rfl,rr,kd⟩:=sq;have hb:zbR ds=some ns:=hb;rw[zfT hb] at rr;have:=rr.ints_eq;subst this;have hd:=zew ns;refine⟨a,ns,rfl,kd.seq,c,fun pr hpr F=>⟨pr,F,_,rfl,zai,by omega,?_⟩⟩;exact q _ _ (Lf.up (x1.trans (Ext.new hpr _)) (Lf.of (d:=.int _) (hh1.new hpr _) rfl w2))
 . exact w2.elim
end
end R
end
section
namespace R
open PySem
abbrev Rise (xs:Array Nat):Prop:=xs.toList.Pairwise (· < ·)
theorem zdy (h:Rise xs)(hij:i<j)(hj:j<xs.size):xs[i]'(by omega)<xs[j]:=by
 have:=List.pairwise_iff_getElem.mp h i j (by simpa using (by omega:i<xs.size)) (by simpa using hj) hij;simpa using this
theorem zd3 (xs:Array Nat)(j:Nat)(h:Rise xs):∀(f lo hi:Nat),hi - lo<=f->lo<=hi->hi<=xs.size->(∀i (hi':i<xs.size),i<lo->xs[i]<j)->(∀i (hi':i<xs.size),hi<=i->j<=xs[i])->
  SetTable.below.go xs j f lo hi<=xs.size/\(∀i (hi':i<xs.size),i<SetTable.below.go xs j f lo hi->xs[i]<j)/\∀i (hi':i<xs.size),SetTable.below.go xs j f lo hi<=i->j<=xs[i]
 | 0,lo,hi,hf,hl,hs,h1,h2=>by
   have:lo=hi:=by omega
   subst this;exact⟨hs,h1,h2⟩
 | f+1,lo,hi,hf,hl,hs,h1,h2=>by
   unfold SetTable.below.go;by_cases c:lo<hi
   . rw[if_pos c];have hm:(lo+hi) / 2<xs.size:=by omega
     have e:xs.getD ((lo+hi) / 2) j=xs[(lo+hi) / 2]:=by simp[hm]
     dsimp only;rw[e];by_cases c2:xs[(lo+hi) / 2]<j
     . rw[if_pos c2];refine zd3 xs j h f _ _ (by omega) (by omega) hs (fun i hi' hl'=>?_) h2;by_cases q:i=(lo+hi) / 2
       . subst q;exact c2
       . exact lt_trans (zdy h (by omega) hm) c2
     . rw[if_neg c2];refine zd3 xs j h f _ _ (by omega) (by omega) (by omega) h1 fun i hi' hl'=>?_;by_cases q:i=(lo+hi) / 2
       . subst q;omega
       . have:=zdy h (show (lo+hi) / 2<i by omega) hi';omega
   . rw[if_neg c];have:lo=hi:=by omega
     subst this;exact⟨hs,h1,h2⟩
theorem zd2 (h:Rise xs)(j:Nat):SetTable.below xs j<=xs.size/\(∀i (hi:i<xs.size),i<SetTable.below xs j->xs[i]<j)/\∀i (hi:i<xs.size),SetTable.below xs j<=i->j<=xs[i]:=
 zd3 xs j h xs.size 0 xs.size (by omega) (zero_le _) (le_refl _) (fun i _ q=>by omega) (fun i hi q=>by omega)
theorem zgX (h:Rise xs)(hi:i<xs.size):SetTable.below xs (xs[i]+1)=i+1:=by
 obtain⟨b1,b2,b3⟩:=zd2 h (xs[i]+1);have h1:¬SetTable.below xs (xs[i]+1)<=i:=fun c=>by have:=b3 i hi c;omega
 by_cases c:i+1<SetTable.below xs (xs[i]+1)
 . have hs:i+1<xs.size:=by omega
   have q1:=b2 (i+1) hs c;have q2:=zdy h (show i<i+1 by omega) hs;omega
 . omega
theorem zgW (h:Rise xs):SetTable.below xs 0=0:=by
 obtain⟨b1,b2,b3⟩:=zd2 h 0;cases e:SetTable.below xs 0 with
 |zero=>rfl
 |succ n=>exact absurd (b2 0 (by omega) (by omega)) (Nat.not_lt_zero _)
theorem ze9 (xs:Array α)(p:Nat)(x:α):(SetTable.insertAt xs p x).toList=xs.toList.take p++x::xs.toList.drop p:=by
 unfold SetTable.insertAt;simp[List.take_of_length_le]
theorem zeQ (h:Rise xs)(hj:xs[SetTable.below xs j]?≠some j):Rise (SetTable.insertAt xs (SetTable.below xs j) j):=by
 obtain⟨b1,b2,b3⟩:=zd2 h j;generalize SetTable.below xs j=p at *;unfold Rise;rw[ze9,List.pairwise_append];refine⟨h.sublist (List.take_sublist _ _),?_,?_⟩
 . rw[pairwise_cons];refine⟨fun y hy=>?_,h.sublist (List.drop_sublist _ _)⟩;obtain⟨i,hi,e⟩:=List.mem_iff_getElem.mp hy;have hs:p+i<xs.size:=by simp at hi;omega
   have e:xs[p+i]=y:=by simpa using e
   have q:=b3 (p+i) hs (by omega);have ne:xs[p+i]≠j:=fun z=>by
    cases i with
    |zero=>exact hj (by rw[Array.getElem?_eq_getElem (by omega)];exact congrArg some z)
    | succ i=>
      have hp:p<xs.size:=by omega
      have:=zdy h (show p<p+(i+1) by omega) hs;have:=b3 p hp (le_refl _);omega
   omega
 . intro a ha b hb;obtain⟨i,hi,e⟩:=List.mem_iff_getElem.mp ha;have hs:i<xs.size:=by simp at hi;omega
   have hip:i<p:=by simp at hi;omega
   have e:xs[i]=a:=by simpa using e
   have q:=b2 i hs hip;rcases mem_cons.mp hb with rfl|hb
   . omega
   . obtain⟨m,hm,e2⟩:=List.mem_iff_getElem.mp hb;have hs2:p+m<xs.size:=by simp at hm;omega
     have e2:xs[p+m]=b:=by simpa using e2
     have:=b3 (p+m) hs2 (by omega);omega
theorem zfb (t:SetTable)(ha:Nat->Int)(h:Int):∀(f:Nat) (p:SetTable.Probe) (j:Nat) (d:Option Nat),(∀x,p.dummy=some x->t.slot x=.dummy)->SetTable.probe.go t ha h f p=some (.empty j d)->t.slot j=.empty/\∀x,d=some x->t.slot x=.dummy
 |0,p,j,d,hp,e=>by cases e
 | f+1,p,j,d,hp,e=>by
   unfold SetTable.probe.go at e;have adv:∀q:SetTable.Probe,(t.advance q).dummy=q.dummy:=fun q=>by unfold SetTable.advance;split<;>rfl
   cases hs:t.slot p.j with
   |empty=>rw[hs] at e;cases e;exact⟨hs,hp⟩
   | dummy=>
     rw[hs] at e;refine zfb t ha h f _ j d (fun x hx=>?_) e;rw[adv] at hx;cases hx;exact hs
   | live i=>
     rw[hs] at e;dsimp only at e;split at e
     . cases e
     . exact zfb t ha h f _ j d (fun x hx=>hp x (by rw[adv] at hx;exact hx)) e
theorem zlW {t:SetTable}(e:t.freeSlot h=some (slot,b)):t.place[SetTable.below t.place slot]?≠some slot:=by
 unfold SetTable.freeSlot at e;split at e
 . rename_i j d hp;obtain⟨h1,h2⟩:=zfb t _ h _ _ j d (fun x hx=>by cases hx) hp;cases e;have key:∀x,(t.slot x=.empty\/t.slot x=.dummy)->t.place[SetTable.below t.place x]?≠some x:=fun x hx z=>by
    unfold SetTable.slot at hx;rw[if_pos (by simpa using z)] at hx;rcases hx with q|q<;>cases q
   cases d with
   |none=>exact key j (.inl h1)
   |some x=>exact key x (.inr (h2 x rfl))
 . cases e
theorem zbF (n:Nat):Rise (Array.range n):=by
 unfold Rise;rw[Array.toList_range];exact List.pairwise_lt_range
structure TOk (b:Bool) (t:SetTable):Prop where
 led:t.led=b
 rise:Rise t.place
theorem znQ (h:TOk b t)(es:Array (Int × Value))(x:Int)(v:Value):TOk b (layNew t es x v).2.1:=by
 unfold layNew;split
 . rename_i slot d e;have h1:TOk b (t.put slot).1:=⟨h.led,zeQ h.rise (zlW e)⟩;dsimp only;unfold SetTable.orStandIn;split
   . exact h1
   . exact⟨h1.led,zbF _⟩
 . exact⟨h.led,zbF _⟩
theorem zi9 (h:TOk b t)(es:Array (Int × Value))(n:Nat):TOk b (relayAll t es n).2.1:=by
 unfold relayAll;split
 . rename_i t' ord e;have h1:TOk b t':=by
    unfold SetTable.relaid SetTable.laid at e;cases ec:SetTable.layClean (SetTable.sizeAbove n - 1) (es.map (·.1)) with
    |none=>rw[ec] at e;cases e
    | some ow=>
      rw[ec] at e;cases e;refine⟨h.led,?_⟩;show Pairwise _ (List.map _ _);rw[List.pairwise_map,List.pairwise_filterMap];refine List.pairwise_lt_range.imp fun {x y} hxy a ha c hc=>?_;cases h1:ow.getD x none with
      |none=>rw[h1] at ha;cases ha
      | some u=>
        cases h2:ow.getD y none with
        |none=>rw[h2] at hc;cases hc
        |some u2=>rw[h1] at ha;rw[h2] at hc;cases ha;cases hc;exact hxy
   dsimp only;split
   . exact h1
   . exact⟨h.led,zbF _⟩
 . exact⟨h.led,zbF _⟩
end R
end
section
set_option maxHeartbeats 4000000
namespace R
open PySem PySem.Spec PyProof.Rows
section
variable {prog:Program} {w:World} {A:Around} {E:Value->Shared->Prop} {s:Shared}
noncomputable abbrev byT (w:World):Bool:=w.params.followText "set-order"
def SetD (prog:Program)(w:World)(h:Heap)(a:Addr)(S:Int->Bool)(n:Nat):Prop:=
 ∃o es ep t,h.get? a=some o/\o.ExactSet/\o.data=.set es ep t/\ElemsOf (intKind prog w) es.toList/\(∀k,S k=true↔∃e∈es.toList,(intKind prog w).is k e.2=true)/\es.size<scanBound/\t.fits es.size=true/\es.size=n/\TOk (!byT w) t
theorem SetD.congr (x:SetD prog w h a S n)(e:∀k,S k=S' k)(en:n=n'):SetD prog w h a S' n':=by
 obtain⟨o,es,ep,t,h1,h2,h3,h4,h5,h6,h7,h8,h9⟩:=x;exact⟨o,es,ep,t,h1,h2,h3,h4,fun k=>by rw[<-e k];exact h5 k,h6,h7,h8.trans en,h9⟩
theorem SetD.at (x:SetD prog w h a S n)(k:∀o,h.get? a=some o->h'.get? a=some o):SetD prog w h' a S n:=by
 obtain⟨o,es,ep,t,h1,r⟩:=x;exact⟨o,es,ep,t,k o h1,r⟩
theorem zhd {h:Heap}(ho:h.get? a=some o)(hex:o.ExactSet)(hd:o.data=.set es ep t)
  (g1:ElemsOf (intKind prog w) es'.toList) (g2:∀k,S' k=true↔∃e∈es'.toList,(intKind prog w).is k e.2=true) (g3:es'.size<scanBound) (g4:t'.fits es'.size=true) (g5:TOk (!byT w) t') :
  (h.update a (Obj.putSet es' t')).get? a=some {o with data:=.set es' (ep+1) t'}/\SetD prog w (h.update a (Obj.putSet es' t')) a S' es'.size:=by
 obtain⟨k1,_⟩:=SetOf_store ho hex hd g1 g2 g3 g4;exact⟨k1,_,es',ep+1,t',k1,hex,rfl,g1,g2,g3,g4,rfl,g5⟩
theorem zpB (hS:SetD prog w s.heap a S n)(hr:n+1<scanBound)
  (q:∀h' b,Heap.SameBut a s.heap h'->SetD prog w h' a (fun z=>S z || decide (z=k)) (if S k then n else n+1)->Q b {s with heap:=h'}) :
  wpAny (model prog w) A (setAddHashed a (.int k tk) ((intKind prog w).hash k)) Q E s:=by
 have hkey:(intKind prog w).is k (.int k tk)=true:=intKind_is _ _ _ _;obtain⟨o,es,ep,t,ho,hex,hd,hel,hmem,hb,hf,hn,ht⟩:=hS;refine wpAny_holding (wpAny_bind (wpAny_setState_of ho hd hf ?_));dsimp only;rw[byScan_of rfl hb hel];refine wpAny_bind (wpAny_bind (wpAny_rule (wpAny_bind (wpAny_setScan_of hkey ho hd hf hel ?_))));cases hi:List.findIdx? (fun e=>(intKind prog w).is k e.2) es.toList with
 | some j=>
   obtain⟨hj,hp,_⟩:=List.findIdx?_eq_some_iff_getElem.mp hi;have hk:S k=true:=(hmem k).mpr ⟨_,List.getElem_mem hj,hp⟩;have:=q s.heap false (Heap.SameBut.refl _ _) ⟨o,es,ep,t,ho,hex,hd,hel,fun z=>?_,hb,hf,by rw[hk];exact hn,ht⟩
   . exact wpAny_pure (wpAny_pure this)
   . rw[<-hmem z];by_cases c:z=k
     . subst c;simp[hk]
     . simp[c]
 | none=>
   have hk:S k=false:=by
    cases c:S k with
    |false=>rfl
    | true=>
      obtain⟨e,he,hp⟩:=(hmem k).mp c;have:=List.findIdx?_eq_none_iff.mp hi e he;rw[hp] at this;cases this
   have p1:=layNew_perm t es ((intKind prog w).hash k) (.int k tk);have p2:=layNew_fits t es ((intKind prog w).hash k) (.int k tk);have p3:=znQ ht es ((intKind prog w).hash k) (.int k tk);generalize layNew t es ((intKind prog w).hash k) (.int k tk)=L at p1 p2 p3⊢;obtain⟨e1,t1,wd,gv⟩:=L;rw[Array.toList_push] at p1;have m1:ElemsOf (intKind prog w) e1.toList:=(hel.push hkey rfl).perm p1;have m2:∀z,(S z || decide (z=k))=true↔∃e∈e1.toList,(intKind prog w).is z e.2=true:=mem_push_iff hkey hmem p1;have sz:e1.size=n+1:=by rw[<-length_toList,p1.length_eq,length_append,length_toList,hn];rfl
   have m3:e1.size<scanBound:=by rw[sz];exact hr
   have gw:∀(b:Bool) {s₁:Shared} {Q':Unit->Shared->Prop},Q' () s₁->wpAny (model prog w) A (match b with|true=>rule "set.scan.the-table-gave-way"|false=>pure ()) Q' E s₁:=fun b s₁ Q' hq=>by
    cases b<;>first|exact wpAny_pure hq|exact wpAny_rule hq
   refine wpAny_bind (gw _ ?_);have fin:∀h' b,Heap.SameBut a s.heap h'->SetD prog w h' a (fun z=>S z || decide (z=k)) e1.size->Q b {s with heap:=h'}:=fun h' b hs hD=>q h' b hs (by rw[hk];rw[sz] at hD;exact hD);have tail:∀t2:SetTable,t2.fits e1.size=true->TOk (!byT w) t2->wpAny (model prog w) A (do
     storeSet a e1 t2
     if (!wd&&t2.tooFull)=true then do
         (match (relayAll t2 e1 (SetTable.grown e1.size)).2.2 with|true=>rule "set.scan.the-table-gave-way"|false=>pure ())
         storeSet a (relayAll t2 e1 (SetTable.grown e1.size)).1 (relayAll t2 e1 (SetTable.grown e1.size)).2.1
         pure (some true)
      else pure (some true)) (fun r s'=>wpAny (model prog w) A (match r with|some added=>pure added|none=>setAddHashedIn a (.int k tk) ((intKind prog w).hash k) 99999) Q E s') E s:=by
    intro t2 f2 o2;obtain⟨k1,k2⟩:=zhd ho hex hd m1 m2 m3 f2 o2;refine wpAny_bind (wpAny_storeSet_of ho hd ?_ (fits_of_scanBound m3));have sb:=Heap.SameBut.update s.heap a (Obj.putSet e1 t2);split
    . have r1:=relayAll_perm t2 e1 (SetTable.grown e1.size);have r2:=relayAll_fits t2 e1 (SetTable.grown e1.size);have r3:=zi9 o2 e1 (SetTable.grown e1.size);generalize relayAll t2 e1 (SetTable.grown e1.size)=L2 at r1 r2 r3⊢;obtain⟨e2,t3,g2⟩:=L2;have z2:e2.size=e1.size:=by rw[<-length_toList,r1.length_eq,length_toList]
      refine wpAny_bind (gw _ (wpAny_bind (wpAny_storeSet_of k1 rfl ?_ (fits_of_scanBound (by rw[z2];exact m3)))));obtain⟨_,k4⟩:=zhd k1 hex rfl (m1.perm r1) (fun z=>(m2 z).trans ⟨fun⟨e,he,qq⟩=>⟨e,r1.mem_iff.mpr he,qq⟩,fun⟨e,he,qq⟩=>⟨e,r1.mem_iff.mp he,qq⟩⟩) (by rw[z2];exact m3) r2 r3;rw[z2] at k4;exact wpAny_pure (wpAny_pure (fin _ _ (sb.trans (Heap.SameBut.update _ a _)) k4))
    . exact wpAny_pure (wpAny_pure (fin _ _ sb k2))
   split
   . apply wpAny_bind;exact wpAny_pure (tail _ p2 p3)
   . exact wpAny_bind (wpAny_pure (tail _ p2 p3))
end
end R
end
section
set_option maxHeartbeats 8000000
namespace R
open PySem PySem.Spec PyProof.Rows
section
variable {prog:Program} {w:World} {A:Around} {R:Result->Shared->Prop} {I:Addr} {fp wr:List Addr} {G:Array GenState->Array GenState->Prop} {n:Nat} {P:Nat->Value->Prop} {St:Nat->Shared->Prop}
theorem znM (W:WalksS prog w A.in1 I fp wr G n P St)(a:Addr)(ha:a∉fp)(val:Nat->Int)(hv:∀i v,P i v->∃t,v=.int (val i) t)(hb:n+1<scanBound) :
  ∀(m i:Nat) (s:Shared),n - i=m->i<=n->St i s->SetD prog w s.heap a (fun z=>(firstMet val i).any (· == z)) (firstMet val i).length->
   (∀s',Moved (a::wr) G s s'->SetD prog w s'.heap a (fun z=>(firstMet val n).any (· == z)) (firstMet val n).length->R (.ok (.ret .none)) s')->
   codeAny (model prog w) A (.builtin "set.update.loop" ⟨[.ref a,.ref I],[]⟩) R s:=by
 have aw:a∉wr:=fun z=>ha (W.sub _ z);have up:∀b∈wr,b∈a::wr:=fun b z=>mem_cons_of_mem _ z;intro m;induction m with
 | zero=>
   intro i s hm hi st hS fin;obtain rfl:i=n:=by omega
   apply codeAny_builtin F.entry_set_update_loop;refine wpAny_bind (W.done s _ _ st fun s' mv=>?_);exact wpAny_pure (fin s' (mv.mono up) (hS.at fun o e=>mv.heap a o aw e))
 | succ m ih=>
   intro i s hm hi st hS fin;apply codeAny_builtin F.entry_set_update_loop;refine wpAny_bind (W.item i s _ _ (by omega) st fun v s' hP st' mv=>?_);obtain⟨t,rfl⟩:=hv i v hP;have hS':=hS.at (h':=s'.heap) fun o e=>mv.heap a o aw e;refine wpAny_bind (wpAny_holding ?_);refine wpAny_holding (wpAny_bind ((intKind prog w).pyHash (intKind_is _ _ _ _) ?_));have room:(firstMet val i).length+1<scanBound:=by have:=firstMet_length_le val i;omega
   refine zpB hS' room fun h' b sb hS2=>?_;have hS3:SetD prog w h' a (fun z=>(firstMet val (i+1)).any (· == z)) (firstMet val (i+1)).length:=hS2.congr (fun z=>by rw[firstMet_succ,step_any]) (by rw[firstMet_succ,step_length]);refine wpAny_pure ⟨plainId_quiet F.plain_set_update_loop _,ih (i+1) _ (by omega) (by omega) (W.frame _ s' _ _ st' (le_succ _) fun b hb o e=>?_) hS3 fun s2 mv2 hS4=>?_⟩
   . rw[sb.2 b fun z:b=a=>ha (z▸hb)];exact e
   . refine fin s2 (Moved.trans W.gtrans ((mv.mono up).then_heap (le_succ _) fun b o hb e=>?_) mv2) hS4;rw[sb.2 b fun z:b=a=>hb (by rw[z];exact mem_cons_self)];exact e
end
section
variable {prog:Program} {w:World} {A:Around} {E:Value->Shared->Prop} {s:Shared}
noncomputable abbrev sD0 (b:Bool):Obj:={cls:=.type "set",dict:=none,data:=.set #[] 0 (.fresh 0 0 b)}
theorem zpi (a:Value)(h:Q₁ (.ref s.heap.objs.size) {s with heap:=s.heap.push (sD0 (!byT w))}):codeAny (model prog w) A (.call (.builtin "set.__new__") ⟨[.type "set",a],[]⟩) (wants Q₁ E) s:=by
 refine codeAny_of_tree ?_;refine wpAny_bind (wpAny_of_eq (F.newCall_set_1 a) (wpAny_pure ⟨plainId_quiet F.plain_set_new _,codeAny_builtin F.entry_set_new ?_⟩));have q:=sub_set_self
 wp_walk
 refine wpAny_askSetting (wpAny_pure ?_);exact wpAny_bind (wpAny_alloc (wpAny_pure (wpAny_pure h)))
theorem zhh {l:Addr}{its:Array Value}{ms:List Int}{Q:Value->Shared->Prop}(hc:A.handled=none)(hl:s.heap.IsList l its)(hi:IntsAre its.toList ms)(hb:its.size+1<scanBound)
  (fin:∀(g:Heap) (tk:Nat),SetD prog w g s.heap.objs.size (fun z=>(firstMet (fun i=>ms.getD i 0) its.size).any (· == z)) (firstMet (fun i=>ms.getD i 0) its.size).length->
   (∀b o,b<s.heap.objs.size->s.heap.get? b=some o->g.get? b=some o)->Q (.ref s.heap.objs.size) {s with heap:=g,toks:=tk}):wpAny (model prog w) A (call (.type "set") [.ref l]) Q E s:=by
 obtain⟨mc,mt,hmro⟩:=F.called_set.mro;have c1:=F.called_set.made;have c2:=F.called_set.sub;refine wpAny_call (codeAny_of_tree ?_);show wpAny _ _ (callAny (.type "set") _) _ _ _;refine wpAny_pure ⟨Code.quiet_builtin _ (by decide +kernel),codeAny_builtin F.entry_type_call ?_⟩;rw[Around.under_plain (weight_type_call_type "set" [.ref l] []) rfl];have c3:=F.called_set.notType;have c4:=F.called_set.canCreate;have c5:=F.typeCall_set_1 (.ref l)
 repeat (any_goals (first|assumption|wp_step))
 refine codeAny_mono (zpi (.ref l) (E:=E) (Q₁:=fun o z=>o=.ref s.heap.objs.size/\z={s with heap:=s.heap.push (sD0 (!byT w))}) ⟨rfl,rfl⟩) fun r z hr=>?_;cases r with
 |error e=>exact hr
 | ok fl=>
   cases fl with
   | ret o=>
     obtain⟨rfl,rfl⟩:=hr;have g0:(s.heap.push (sD0 (!byT w))).get? s.heap.objs.size=some (sD0 (!byT w)):=Heap.get?_push_size _ rfl;have g1:Shared.TypeIs {s with heap:=s.heap.push (sD0 (!byT w))} (.ref s.heap.objs.size) "set":=⟨_,g0,rfl⟩;have c6:=F.called_set.init.lookup;have c7:=F.called_set.init.bind (.ref s.heap.objs.size)
     repeat (any_goals (first|assumption|wp_step))
     refine codeAny_mono (codeAny_call_builtin (R:=wants (fun r z=>r=.none/\∃g tk,z={s with heap:=g,toks:=tk}/\
      SetD prog w g s.heap.objs.size (fun z=>(firstMet (fun i=>ms.getD i 0) its.size).any (· == z)) (firstMet (fun i=>ms.getD i 0) its.size).length/\
      (∀b o,b<s.heap.objs.size->s.heap.get? b=some o->g.get? b=some o)) E) F.called_set.init.plain F.entry_set_init (check_set_init_1 g1 ?_)) fun r2 z2 hr2=>?_
     . obtain⟨⟨oc,od,oda,osl⟩,ho,hcl,nl,hda⟩:=id hl;simp only at hcl hda;subst hcl hda;have ho':(s.heap.push (sD0 (!byT w))).get? l=some {cls:=.type "list",dict:=od,data:=.seq its nl,slots:=osl}:=Heap.get?_push_of_some _ ho;have d1:=F.sub_list_set;have d2:=F.sub_list_frozenset;have d3:(Value.type "list" == Value.type "dict")=false:=by decide
       have ht1:(s.heap.push (sD0 (!byT w))).IsList l its:=⟨_,ho',rfl,nl,rfl⟩;unfold Builtin.«set.__init__» noKeywords Builtin.Frozenset.updateFrom;generalize hPI:pyIter=PI
       wp_walk
       subst hPI;refine wpAny_pyIter_list ht1 ?_;refine wpAny_bind (wpAny_runValue ?_);have tl:l<s.heap.objs.size:=Heap.lt_size ho;have tn:l≠(s.heap.push (sD0 (!byT w))).objs.size:=by rw[Heap.size_push];exact ne_of_lt (lt_succ_of_lt tl)
       have sn:s.heap.objs.size∉[(s.heap.push (sD0 (!byT w))).objs.size,l]:=by
        rw[Heap.size_push];simp only[mem_cons,not_mem_nil,or_false,not_or];exact⟨ne_of_lt (lt_succ_self _),ne_of_gt tl⟩
       refine znM ((Walks.list (by simp[hc]) _ l tn its).toS) s.heap.objs.size sn (fun i=>ms.getD i 0) (fun i v hv=>IntsAre.int_at hi i v (by rw[Array.getElem?_toList];exact hv)) hb (its.size - 0) 0 _ (by omega) (zero_le _)
        ⟨⟨_,Heap.get?_push_size _ rfl,rfl,rfl⟩,ht1.push _⟩ ?start ?last
       case start=>exact⟨_,#[],0,_,Heap.get?_push_of_some _ g0,⟨rfl,rfl,rfl⟩,rfl,fun e he=>by simp at he,fun k=>by simp[firstMet],by decide,by rfl,rfl,rfl,Pairwise.nil⟩
       case last=>
        rintro⟨g,gg,dd,tk,oo⟩ mv hS;obtain rfl:gg=s.gens:=mv.gens;obtain rfl:dd=s.drawn:=mv.drawn;obtain rfl:oo=s.os:=mv.os;show wpAny _ _ _ _ _ _;refine wpAny_pure ?_;show wpAny _ _ (ret Value.none) _ _ _;refine wpAny_pure ⟨rfl,g,tk,rfl,hS,fun b o hb e=>mv.heap b o ?_ (Heap.get?_push_of_some _ (Heap.get?_push_of_some _ e))⟩;rw[Heap.size_push];simp only[mem_cons,not_mem_nil,or_false,not_or];exact⟨ne_of_lt hb,ne_of_lt (lt_succ_of_lt hb)⟩
     . cases r2 with
       |error e=>exact hr2
       | ok f2=>
         cases f2 with
         | ret r=>
           obtain⟨rfl,g,tk,rfl,hS,hk⟩:=hr2
           repeat (any_goals (first|assumption|wp_step))
           exact fin _ _ hS hk
         |_=>exact hr2.elim
   |_=>exact hr.elim
end
end R
end
section
set_option maxHeartbeats 4000000
namespace R
open PySem PySem.Spec PyProof.Rows
theorem zev:entryFor table "set.__iter__"=some Builtin.«frozenset.__iter__»:=entryFor_alias (id':="frozenset.__iter__") (by kernel_rfl) rfl (by decide +kernel) (by kernel_rfl)
theorem slot_sit_next:Slot "set_iterator" "__next__" "set_iterator.__next__":=
 .of (owner:="set_iterator") (n:="__next__") (by rw[typeLookup_type,builtinLookup_eq_fast];kernel_rfl) (by decide +kernel) (by decide +kernel) (by decide +kernel) (by first|exact .inl (by decide +kernel)|exact .inr (by decide +kernel)) (by rw[isSubtype_type];kernel_rfl)
theorem zbC:entryFor table "set_iterator.__next__"=some Builtin.«set_iterator.__next__»:=entryFor_of_fast (by kernel_rfl)
theorem zbr (a:Value):argsOk "set_iterator.__next__" ⟨[a],[]⟩:=by unfold argsOk;kernel_rfl
theorem zaH:Slot "set_iterator" "__iter__" "set_iterator.__iter__":=
 .of (owner:="set_iterator") (n:="__iter__") (by rw[typeLookup_type,builtinLookup_eq_fast];kernel_rfl) (by decide +kernel) (by decide +kernel) (by decide +kernel) (by first|exact .inl (by decide +kernel)|exact .inr (by decide +kernel)) (by rw[isSubtype_type];kernel_rfl)
theorem zbD:entryFor table "set_iterator.__iter__"=some Builtin.«dict_keyiterator.__iter__»:=entryFor_alias (id':="dict_keyiterator.__iter__") (by kernel_rfl) rfl (by decide +kernel) (by kernel_rfl)
theorem zbs (a:Value):argsOk "set_iterator.__iter__" ⟨[a],[]⟩:=by unfold argsOk;kernel_rfl
end R
end
section
set_option maxHeartbeats 4000000
namespace R
open PySem PySem.Spec PyProof.Rows
section
variable {prog:Program} {w:World} {A:Around} {E:Value->Shared->Prop} {s:Shared} {a j:Addr} {o:Obj} {es:Array (Int × Value)} {ep:Nat} {t:SetTable}
theorem zgQ (hn:n≠0)(h:∀i d',i<n->wpAny M A (k i) Q E {s with drawn:=d'}):wpAny M A (.choose src n k) Q E s:=fun Γ p hΓ=>by
 exact⟨hn,h _ _ (Nat.mod_lt _ (Nat.pos_of_ne_zero hn)) Γ p hΓ⟩
theorem zci {α:Type}:∀(l:List α) (j:Nat) (h:j<l.length),(l[j]::l.eraseIdx j).Perm l
 |x::l,0,h=>List.Perm.refl _
 | x::l,j+1,h=>by
   have hj:j<l.length:=by simpa using h
   have ih:=zci l j hj;exact (List.Perm.swap _ _ _).trans (ih.cons x)
theorem zf6:∀(n:Nat) (xs:List α) {s:Shared} {Q:List α->Shared->Prop},xs.length=n->(∀ys d',ys.Perm xs->Q ys {s with drawn:=d'})->wpAny (model prog w) A (drawOrder n xs) Q E s
 | 0,xs,s,Q,hl,h=>by
   cases List.length_eq_zero_iff.mp hl;exact wpAny_pure (h [] s.drawn (List.Perm.refl _))
 |n+1,[],s,Q,hl,h=>by cases hl
 | n+1,x::xs,s,Q,hl,h=>by
   refine wpAny_bind (zgQ (by simp) fun i d' hi=>wpAny_pure ?_);rw[List.getElem?_eq_getElem hi];refine wpAny_bind (zf6 n _ (by rw[List.length_eraseIdx_of_lt hi];simp at hl⊢;exact hl) fun ys d2 hp=>wpAny_pure (h _ d2 ?_));exact (hp.cons _).trans (zci _ _ hi)
theorem zhD (f:Nat->Nat):∀(n k:Nat) (left:List α) (out:Array α),left.length=n->(pickOrder.go f n k left out).toList.Perm (out.toList++left)
 | 0,k,left,out,hl=>by
   cases List.length_eq_zero_iff.mp hl;unfold pickOrder.go;rw[append_nil]
 | n+1,k,left,out,hl=>by
   unfold pickOrder.go;have hi:f k % left.length<left.length:=Nat.mod_lt _ (by omega);rw[List.getElem?_eq_getElem hi];apply (zhD f n (k+1) _ _ (by rw[List.length_eraseIdx_of_lt hi];omega)).trans;rw[Array.toList_push,List.append_assoc];exact List.Perm.append_left _ (zci _ _ hi)
theorem zhC (f:Nat->Nat)(xs:Array α):(pickOrder f xs).toList.Perm xs.toList:=by
 have:=zhD f xs.size 0 xs.toList #[] (by simp);simpa[pickOrder] using this
def SIt (h:Heap)(j a:Addr)(f:Value)(i n ep:Nat):Prop:=h.get? j=some {cls:=.type "set_iterator",dict:=none,data:=.fields #[f,rawInt i,.ref a,rawInt n,rawInt ep],slots:=#[]}
theorem zfu {f f' i:Nat}(ht:SIt s.heap j a (rawInt f) i es.size ep)(ho:s.heap.get? a=some o)(hd:o.data=.set es ep t)(hf:t.fits es.size=true)
  (hx:∀(A:Around) (E:Value->Shared->Prop) (Q':Option (Value × Nat)->Shared->Prop),Q' (some (x,f')) s->wpAny (model prog w) A (setNext a f i ep) Q' E s)
  (q:∀h',SIt h' j a (rawInt f') (i+1) es.size ep->Heap.SameBut j s.heap h'->Q (some x) {s with heap:=h'}):wpAny (model prog w) A (pyNext (.ref j)) Q E s:=by
 have ty:s.TypeIs (.ref j) "set_iterator":=⟨_,ht,rfl⟩;refine wpAny_bind (wpAny_attempt (wpAny_callSpecial?_slot ty slot_sit_next (wpAny_call_entry slot_sit_next ty zbC ?_ (zbr _))));refine wpAny_bind (wpAny_pure ?_);refine wpAny_bind (wpAny_fieldsOf ht rfl ?_);refine wpAny_bind (wpAny_setEntries_of ho hd hf ?_);rw[if_neg (by simp)];refine wpAny_bind (hx _ _ _ ?_);refine wpAny_bind (wpAny_setField_rec ht (by simp) fun h1 g1 s1=>?_);refine wpAny_bind (wpAny_setField_rec g1 (by simp) fun h2 g2 s2=>?_);exact wpAny_pure ⟨_,rfl,wpAny_pure (q h2 g2 (s1.trans s2))⟩
theorem zhf (hh:A.handled=none)(ht:SIt s.heap j a f i es.size ep)(ho:s.heap.get? a=some o)(hd:o.data=.set es ep t)(hf:t.fits es.size=true)
  (hx:∀(A:Around) (E:Value->Shared->Prop) (Q':Fin->Shared->Prop),A.handled=none->(∀h' e,Heap.ExtBut j s.heap h'->(∃oe,h'.get? e=some oe/\oe.cls=.type "StopIteration")->E (.ref e) {s with heap:=h'})->wpAny (model prog w) A (Builtin.«set_iterator.__next__» ⟨[.ref j],[]⟩) Q' E s)
  (q:∀h',Heap.ExtBut j s.heap h'->Q none {s with heap:=h'}):wpAny (model prog w) A (pyNext (.ref j)) Q E s:=by
 have ty:s.TypeIs (.ref j) "set_iterator":=⟨_,ht,rfl⟩;refine wpAny_bind (wpAny_attempt (wpAny_callSpecial?_slot ty slot_sit_next (wpAny_call_entry slot_sit_next ty zbC ?_ (zbr _))));refine hx _ _ _ hh fun h' e k ⟨oe,he,hc⟩=>?_;refine wpAny_bind (wpAny_isInstance ⟨oe,he,hc⟩ isSubtype_stop ?_);exact wpAny_pure (q h' k)
theorem zdc (hh:A.handled=none)(k0:Heap.ExtBut j s.heap s'.heap)(es':s'={s with heap:=s'.heap})
  (h:∀h' e,Heap.ExtBut j s.heap h'->(∃oe,h'.get? e=some oe/\oe.cls=.type "StopIteration")->E (.ref e) {s with heap:=h'}) :
  wpAny (model prog w) A (do raiseNew (<-newExc (.type "StopIteration") []):Sem Fin) Q' E s':=by
 rw[es'];apply wpAny_bind;refine wpAny_bind (m:=firstArgMember _ _) (wpAny_of_eq (by first|rfl|(simp only;rfl)) (wpAny_newObj_type ?_ (by size_fits)));refine wpAny_bind (wpAny_handled ?_);rw[hh];exact wpAny_bind (wpAny_pure (wpAny_throw (h _ _ ((k0.push _).push _) ⟨_,Heap.get?_push_size _ rfl,rfl⟩)))
end
end R
end
section
set_option maxHeartbeats 4000000
namespace R
open PySem PySem.Spec PyProof.Rows
section
variable {prog:Program} {w:World} {A:Around} {E:Value->Shared->Prop} {s:Shared} {a j:Addr} {o:Obj} {es:Array (Int × Value)} {ep:Nat} {t:SetTable}
theorem zfv {f i:Nat}(hh:A.handled=none)(ht:SIt s.heap j a (rawInt f) i es.size ep)(ho:s.heap.get? a=some o)(hd:o.data=.set es ep t)(hf:t.fits es.size=true)
  (hx:∀(A:Around) (E:Value->Shared->Prop) (Q':Option (Value × Nat)->Shared->Prop),Q' none s->wpAny (model prog w) A (setNext a f i ep) Q' E s)
  (q:∀h',Heap.ExtBut j s.heap h'->Q none {s with heap:=h'}):wpAny (model prog w) A (pyNext (.ref j)) Q E s:=by
 refine zhf hh ht ho hd hf (fun A E Q' hA hE=>?_) q;refine wpAny_bind (wpAny_pure ?_);refine wpAny_bind (wpAny_fieldsOf ht rfl ?_);refine wpAny_bind (wpAny_setEntries_of ho hd hf ?_);rw[if_neg (by simp)];refine wpAny_bind (hx _ _ _ ?_);refine wpAny_bind (wpAny_setField_rec ht (by simp) fun h1 g1 s1=>?_);exact zdc (s':={s with heap:=h1}) hA s1.extBut rfl hE
def PTg (h:Heap)(tp:Addr)(ps:List Nat):Prop:=h.get? tp=some {cls:=.type "tuple",data:=.seq (ps.map fun (p:Nat)=>rawInt p).toArray}
theorem zhe (ht:SIt s.heap j a (.ref tp) i es.size ep)(ho:s.heap.get? a=some o)(hd:o.data=.set es ep t)(hf:t.fits es.size=true)
  (hp:PTg s.heap tp ps) (hi:ps[i]?=some p) (hx:es[p]?=some (hs,x))
  (q:∀h',SIt h' j a (.ref tp) (i+1) es.size ep->Heap.SameBut j s.heap h'->Q (some x) {s with heap:=h'}):wpAny (model prog w) A (pyNext (.ref j)) Q E s:=by
 have ty:s.TypeIs (.ref j) "set_iterator":=⟨_,ht,rfl⟩;refine wpAny_bind (wpAny_attempt (wpAny_callSpecial?_slot ty slot_sit_next (wpAny_call_entry slot_sit_next ty zbC ?_ (zbr _))));refine wpAny_bind (wpAny_pure ?_);refine wpAny_bind (wpAny_fieldsOf ht rfl ?_);refine wpAny_bind (wpAny_setEntries_of ho hd hf ?_);rw[if_neg (by simp)];refine wpAny_bind (wpAny_seqItems hp rfl ?_);have e1:(ps.map fun (p:Nat)=>rawInt p).toArray[i]?=some (rawInt p):=by simp[hi]
 show wpAny _ _ (match (ps.map fun (p:Nat)=>rawInt p).toArray[i]? with|some (.int place _)=>_|some _=>_|none=>_) _ _ s;rw[e1];show wpAny _ _ (setNextDrawn a p ep >>= _) _ _ s;refine wpAny_bind (wpAny_bind (wpAny_setState_of ho hd hf ?_));dsimp only;rw[if_neg (by simp),hx];apply wpAny_pure;refine wpAny_bind (wpAny_setField_rec ht (by simp) fun h1 g1 s1=>?_);exact wpAny_pure ⟨_,rfl,wpAny_pure (q h1 g1 s1)⟩
theorem zi0 (hh:A.handled=none)(ht:SIt s.heap j a (.ref tp) i es.size ep)(ho:s.heap.get? a=some o)(hd:o.data=.set es ep t)(hf:t.fits es.size=true)
  (hp:PTg s.heap tp ps) (hi:ps.length<=i) (q:∀h',Heap.ExtBut j s.heap h'->Q none {s with heap:=h'}):wpAny (model prog w) A (pyNext (.ref j)) Q E s:=by
 refine zhf hh ht ho hd hf (fun A E Q' hA hE=>?_) q;refine wpAny_bind (wpAny_pure ?_);refine wpAny_bind (wpAny_fieldsOf ht rfl ?_);refine wpAny_bind (wpAny_setEntries_of ho hd hf ?_);rw[if_neg (by simp)];refine wpAny_bind (wpAny_seqItems hp rfl ?_);have e1:(ps.map fun (p:Nat)=>rawInt p).toArray[i]?=none:=by simp;exact hi
 show wpAny _ _ (match (ps.map fun (p:Nat)=>rawInt p).toArray[i]? with|some (.int place _)=>_|some _=>_|none=>_) _ _ s;rw[e1];refine wpAny_bind (wpAny_setField_rec ht (by simp) fun h1 g1 s1=>?_);refine wpAny_bind (wpAny_setField_rec g1 (by simp) fun h2 g2 s2=>?_);exact zdc (s':={s with heap:=h2}) hA (s1.trans s2).extBut rfl hE
theorem zkp (hb:byT w=true)(ho:s.heap.get? a=some o)(hd:o.data=.set es ep t)(hf:t.fits es.size=true)
  (q:Q ((pickOrder (w.params.setOrder a ep) es)[i]?.map fun e=>(e.2,f)) s):wpAny (model prog w) A (setNext a f i ep) Q E s:=by
 refine wpAny_bind (wpAny_setState_of ho hd hf ?_);refine wpAny_bind (wpAny_bind (wpAny_askSetting (wpAny_pure ?_)));rw[if_pos (show (model prog w).w.params.followText "set-order"=true from hb)];rw[if_neg (by simp)];refine wpAny_bind (wpAny_bind (wpAny_setState_of ho hd hf ?_));refine wpAny_bind (wpAny_bind (wpAny_askSetting (wpAny_pure ?_)));rw[if_pos (show (model prog w).w.params.followText "set-order"=true from hb)];exact wpAny_bind (wpAny_askSetting (wpAny_pure (wpAny_pure q)))
theorem zkq (hb:byT w=false)(ho:s.heap.get? a=some o)(hd:o.data=.set es ep t)(hf:t.fits es.size=true)(hl:t.led=true)(hp:(!t.plain&&decide (es.size > 1))=false)
  (q:Q (match es[SetTable.below t.place f]?,t.place[SetTable.below t.place f]? with|some (_,x),some j=>some (x,j+1)|_,_=>none) s):wpAny (model prog w) A (setNext a f i ep) Q E s:=by
 refine wpAny_bind (wpAny_setState_of ho hd hf ?_);refine wpAny_bind (wpAny_bind (wpAny_askSetting (wpAny_pure ?_)));rw[if_neg (show ¬(model prog w).w.params.followText "set-order"=true by rw[show (model prog w).w.params.followText "set-order"=byT w from rfl,hb];decide)];show wpAny _ _ (if (!t.plain&&decide (es.size > 1))=true then _ else _) _ _ s;rw[if_neg (by rw[hp];decide)];show wpAny _ _ ((if (!t.led&&!es.isEmpty)=true then unsupported "set:maker-not-led" else pure ()) >>= _) _ _ s;rw[if_neg (by rw[hl];simp)];exact wpAny_bind (wpAny_pure (wpAny_pure q))
end
end R
end
section
set_option maxHeartbeats 4000000
namespace R
open PySem PySem.Spec PyProof.Rows
section
variable {prog:Program} {w:World} {A:Around} {E:Value->Shared->Prop} {s:Shared} {a j:Addr} {o:Obj} {es:Array (Int × Value)} {ep:Nat} {t:SetTable}
abbrev YP (vals:List Value):Nat->Value->Prop:=fun i v=>vals[i]?=some v
theorem zmm (hh:A.handled=none)(hne:a≠j)(hb:byT w=true)(hd:o.data=.set es ep t)(hf:t.fits es.size=true) :
  Walks prog w A j [j,a] [j] ((pickOrder (w.params.setOrder a ep) es).toList.map (·.2)).length (YP ((pickOrder (w.params.setOrder a ep) es).toList.map (·.2))) (fun i h=>SIt h j a (rawInt 0) i es.size ep/\h.get? a=some o) where
 sub:=fun b hb=>by simp at hb;simp[hb]
 frame:=fun _ _ _ st hk=>⟨hk j (by simp) _ st.1,hk a (by simp) _ st.2⟩
 item:=fun i s Q E hi st hQ=>by
  have hi':i<(pickOrder (w.params.setOrder a ep) es).size:=by simpa using hi
  refine zfu (f':=0) st.1 st.2 hd hf (fun A E Q' q=>zkp hb st.2 hd hf (by rw[Array.getElem?_eq_getElem hi'];exact q)) fun h' g sb=>?_;exact hQ _ h' s.toks (by simp[YP,hi']) ⟨g,sb.extBut a _ hne st.2⟩ fun b o hb e=>sb.extBut b o (fun z=>hb (by simp[z])) e
 done:=fun s Q E st hQ=>by
  have hi':(pickOrder (w.params.setOrder a ep) es).size<=((pickOrder (w.params.setOrder a ep) es).toList.map (·.2)).length:=by simp
  exact zfv hh st.1 st.2 hd hf (fun A E Q' q=>zkp hb st.2 hd hf (by rw[Array.getElem?_eq_none hi'];exact q)) fun h' k=>hQ h' s.toks fun b o hb e=>k b o (fun z=>hb (by simp[z])) e
 self:=fun i s Q E st hQ=>by
  have ty:s.TypeIs (.ref j) "set_iterator":=⟨_,st.1,rfl⟩;refine wpAny_pyIter_slot ty zaH (wpAny_call_entry zaH ty zbD ?_ (zbs _));exact wpAny_pure ⟨_,rfl,"set_iterator",_,ty,slot_sit_next.lookup,hQ⟩
noncomputable def zft (t:SetTable):Nat->Nat
 |0=>0
 |i+1=>t.place.getD i 0+1
theorem zde (h:Rise t.place)(hi:i<=t.place.size):SetTable.below t.place (zft t i)=i:=by
 cases i with
 |zero=>exact zgW h
 | succ i=>
   have hi':i<t.place.size:=by omega
   show SetTable.below t.place (t.place.getD i 0+1)=_;rw[show t.place.getD i 0=t.place[i] by simp[hi']];exact zgX h hi'
theorem zmn (hh:A.handled=none)(hne:a≠j)(hb:byT w=false)(hd:o.data=.set es ep t)(hf:t.fits es.size=true)(ht:TOk (!byT w) t)(hp:(!t.plain&&decide (es.size > 1))=false) :
  Walks prog w A j [j,a] [j] (es.toList.map (·.2)).length (YP (es.toList.map (·.2))) (fun i h=>i<=es.size/\SIt h j a (rawInt (zft t i)) i es.size ep/\h.get? a=some o) where
 sub:=fun b hb=>by simp at hb;simp[hb]
 frame:=fun _ _ _ st hk=>⟨st.1,hk j (by simp) _ st.2.1,hk a (by simp) _ st.2.2⟩
 item:=fun i s Q E hi st hQ=>by
  have hi':i<es.size:=by simpa using hi
  have hz:t.place.size=es.size:=by simp[SetTable.fits,and_eq_true,beq_iff_eq] at hf;exact hf.1
  have hl:t.led=true:=by rw[ht.led,hb];rfl
  have hpl:t.place[i]?=some t.place[i]:=Array.getElem?_eq_getElem (by omega);refine zfu (x:=es[i].2) (f':=zft t (i+1)) st.2.1 st.2.2 hd hf (fun A E Q' q=>zkq hb st.2.2 hd hf hl hp ?_) fun h' g sb=>?_
  . rw[zde ht.rise (by omega),Array.getElem?_eq_getElem hi',hpl];have:zft t (i+1)=t.place[i]+1:=by show t.place.getD i 0+1=_;simp[show i<t.place.size by omega]
    rw[this] at q;exact q
  . exact hQ _ h' s.toks (by simp[YP,hi']) ⟨hi',g,sb.extBut a _ hne st.2.2⟩ fun b o hb e=>sb.extBut b o (fun z=>hb (by simp[z])) e
 done:=fun s Q E st hQ=>by
  have hz:t.place.size=es.size:=by simp[SetTable.fits,and_eq_true,beq_iff_eq] at hf;exact hf.1
  have hl:t.led=true:=by rw[ht.led,hb];rfl
  have hn:(es.toList.map (·.2)).length=es.size:=by simp
  rw[hn] at st;refine zfv hh st.2.1 st.2.2 hd hf (fun A E Q' q=>zkq hb st.2.2 hd hf hl hp ?_) fun h' k=>hQ h' s.toks fun b o hb e=>k b o (fun z=>hb (by simp[z])) e;rw[zde ht.rise (by omega),Array.getElem?_eq_none (le_refl _)];exact q
 self:=fun i s Q E st hQ=>by
  have ty:s.TypeIs (.ref j) "set_iterator":=⟨_,st.2.1,rfl⟩;refine wpAny_pyIter_slot ty zaH (wpAny_call_entry zaH ty zbD ?_ (zbs _));exact wpAny_pure ⟨_,rfl,"set_iterator",_,ty,slot_sit_next.lookup,hQ⟩
noncomputable def zgz (es:Array (Int × Value))(ps:List Nat):List Value:=ps.map fun p=>(es.getD p (0,.none)).2
theorem zmo (hh:A.handled=none)(hne:a≠j)(hnt:tp≠j)(hd:o.data=.set es ep t)(hf:t.fits es.size=true)(hp:∀p∈ps,p<es.size) :
  Walks prog w A j [j,a,tp] [j] (zgz es ps).length (YP (zgz es ps)) (fun i h=>SIt h j a (.ref tp) i es.size ep/\h.get? a=some o/\PTg h tp ps) where
 sub:=fun b hb=>by simp at hb;simp[hb]
 frame:=fun _ _ _ st hk=>⟨hk j (by simp) _ st.1,hk a (by simp) _ st.2.1,hk tp (by simp) _ st.2.2⟩
 item:=fun i s Q E hi st hQ=>by
  have hi':i<ps.length:=by simpa[zgz] using hi
  have hpi:ps[i]<es.size:=hp _ (List.getElem_mem hi');refine zhe st.1 st.2.1 hd hf st.2.2 (List.getElem?_eq_getElem hi') (Array.getElem?_eq_getElem hpi) fun h' g sb=>?_;exact hQ _ h' s.toks (by simp[YP,zgz,hi',hpi]) ⟨g,sb.extBut a _ hne st.2.1,sb.extBut tp _ hnt st.2.2⟩ fun b o hb e=>sb.extBut b o (fun z=>hb (by simp[z])) e
 done:=fun s Q E st hQ=>zi0 hh st.1 st.2.1 hd hf st.2.2 (by simp[zgz]) fun h' k=>hQ h' s.toks fun b o hb e=>k b o (fun z=>hb (by simp[z])) e
 self:=fun i s Q E st hQ=>by
  have ty:s.TypeIs (.ref j) "set_iterator":=⟨_,st.1,rfl⟩;refine wpAny_pyIter_slot ty zaH (wpAny_call_entry zaH ty zbD ?_ (zbs _));exact wpAny_pure ⟨_,rfl,"set_iterator",_,ty,slot_sit_next.lookup,hQ⟩
theorem zjn (es:Array (Int × Value))(h:ps.Perm (List.range es.size)):(zgz es ps).Perm (es.toList.map (·.2)):=by
 refine (h.map _).trans (List.Perm.of_eq ?_);apply List.ext_getElem?;intro i;by_cases c:i<es.size
 . simp[c]
 . simp[c]
end
end R
end
section
set_option maxHeartbeats 4000000
namespace R
open PySem PySem.Spec PyProof.Rows
section
variable {prog:Program} {w:World} {A:Around} {E:Value->Shared->Prop} {s:Shared} {a:Addr} {o:Obj} {es:Array (Int × Value)} {ep:Nat} {t:SetTable}
structure Got (prog:Program) (w:World) (h0 h':Heap) (a:Addr) (vals:List Value) (I:Addr) (fp:List Addr) (St:Nat->Heap->Prop):Prop where
 wk:∀A:Around,A.handled=none->Walks prog w A I fp [I] vals.length (YP vals) St
 st:St 0 h'
 old:∀b o,h0.get? b=some o->h'.get? b=some o
 new:h0.objs.size<=I
 lt:I<h'.objs.size
 fp:∀b∈fp,b=a\/(h0.objs.size<=b/\b<h'.objs.size)
theorem zi3 (ho:s.heap.get? a=some o)(hex:o.ExactSet)(hd:o.data=.set es ep t)(hf:t.fits es.size=true)(ht:TOk (!byT w) t)(hz:es.size<scanBound)
  (q:∀(h':Heap) (d':Drawn) (I:Addr) (fp:List Addr) (St:Nat->Heap->Prop) (vals:List Value),vals.Perm (es.toList.map (·.2))->Got prog w s.heap h' a vals I fp St->Q (.ref I) {s with heap:=h',drawn:=d'}) :
  wpAny (model prog w) A (pyIter (.ref a)) Q E s:=by
 have ty:s.TypeIs (.ref a) "set":=⟨_,ho,hex.1⟩;have al:=Heap.lt_size ho;refine wpAny_pyIter_slot ty F.slot_set_iter (wpAny_call_entry F.slot_set_iter ty zev ?_ (F.args_set_iter_1 _));refine wpAny_bind (wpAny_pure ?_);refine wpAny_bind (wpAny_bind (wpAny_setEntries_of ho hd hf (wpAny_pure ?_)));refine wpAny_bind (wpAny_bind (wpAny_setState_of ho hd hf ?_));refine wpAny_bind (wpAny_bind (wpAny_askSetting (wpAny_pure (wpAny_pure ?_))));show wpAny _ _ (if (!byT w&&(!t.plain&&decide (es.size > 1)))=true then _ else _) _ _ s;have mk:∀(h1:Heap) (d':Drawn) (fst:Value),(∀b o,s.heap.get? b=some o->h1.get? b=some o)->s.heap.objs.size<=h1.objs.size->
   (∀h',h'.objs.size=h1.objs.size+1->(∀b o,h1.get? b=some o->h'.get? b=some o)->SIt h' h1.objs.size a fst 0 es.size ep->∃fp St vals,vals.Perm (es.toList.map (·.2))/\Got prog w s.heap h' a vals h1.objs.size fp St)->
   wpAny (model prog w) A.in1 (do ret (<-newFields "set_iterator" [fst,rawInt 0,.ref a,rawInt es.size,rawInt (<-setEpoch a)])) (fun fin s'=>∃v,fin=.done (.ret v)/\∃T id,s'.TypeIs v T/\typeLookup (.type T) "__next__"=pure (some id)/\Q v s') E {s with heap:=h1,drawn:=d'}:=by
  intro h1 d' fst hk hz1 hG;refine wpAny_bind (wpAny_setEpoch_of (hk _ _ ho) hd hf ?_);refine wpAny_bind (wpAny_newObj_type (wpAny_pure ⟨_,rfl,"set_iterator",_,⟨_,Heap.get?_push_size _ rfl,rfl⟩,slot_sit_next.lookup,?_⟩));obtain⟨fp,St,vals,hp,hG⟩:=hG (h1.push {cls:=.type "set_iterator",data:=.fields #[fst,rawInt 0,.ref a,rawInt es.size,rawInt ep]}) (Heap.size_push ..) (fun b o e=>Heap.get?_push_of_some _ e) (Heap.get?_push_size _ rfl);exact q _ d' _ fp St vals hp hG
 by_cases hb:byT w=true
 . rw[if_neg (by rw[hb];simp)];refine mk s.heap s.drawn (rawInt 0) (fun b o e=>e) (le_refl _) fun h' hsz hk hit=>⟨[s.heap.objs.size,a],_,_,(zhC _ es).map _,⟨fun A hA=>zmm hA (ne_of_lt al) hb hd hf,⟨hit,hk _ _ ho⟩,hk,le_refl _,by rw[hsz];exact lt_succ_self _,fun b hb=>?_⟩⟩;simp at hb;rcases hb with z|z
   . exact .inr ⟨le_of_eq z.symm,by rw[z,hsz];exact lt_succ_self _⟩
   . exact .inl z
 . have hb:byT w=false:=by simpa using hb
   by_cases hp:(!t.plain&&decide (es.size > 1))=true
   . rw[if_pos (by rw[hb,hp];rfl)];refine wpAny_bind (zf6 es.size (List.range es.size) (by simp) fun ys d' hperm=>?_);have hys:ys.length<=sizeLine:=by
      rw[hperm.length_eq,List.length_range];exact fits_of_scanBound hz
     refine wpAny_bind (wpAny_newObj_type ?_ (by show (List.map (fun (i:Nat)=>rawInt i) ys).toArray.size<=sizeLine;simpa using hys));have hps:∀p∈ys,p<es.size:=fun p hp=>mem_range.mp (hperm.mem_iff.mp hp);refine mk (s.heap.push {cls:=.type "tuple",data:=.seq (ys.map fun (i:Nat)=>rawInt i).toArray}) d' (.ref s.heap.objs.size) (fun b o e=>Heap.get?_push_of_some _ e) (by rw[Heap.size_push];omega) fun h' hsz hk hit=>?_;have z1:(s.heap.push {cls:=.type "tuple",data:=.seq (ys.map fun (i:Nat)=>rawInt i).toArray}).objs.size=s.heap.objs.size+1:=Heap.size_push ..;rw[z1] at hit hsz⊢;refine⟨[s.heap.objs.size+1,a,s.heap.objs.size],_,_,zjn es hperm,⟨fun A hA=>zmo hA (ne_of_lt (lt_succ_of_lt al)) (ne_of_lt (lt_succ_self _)) hd hf hps,⟨hit,hk _ _ (Heap.get?_push_of_some _ ho),hk _ _ (Heap.get?_push_size _ rfl)⟩,fun b o e=>hk _ _ (Heap.get?_push_of_some _ e),le_succ _,by rw[hsz];exact lt_succ_self _,fun b hb=>?_⟩⟩;simp at hb;rcases hb with z|z|z
     . exact .inr ⟨by rw[z];exact le_succ _,by rw[z,hsz];exact lt_succ_self _⟩
     . exact .inl z
     . exact .inr ⟨le_of_eq z.symm,by rw[z,hsz];exact lt_succ_of_lt (lt_succ_self _)⟩
   . have hp:(!t.plain&&decide (es.size > 1))=false:=by simpa using hp
     rw[if_neg (by rw[hp];simp)];refine mk s.heap s.drawn (rawInt 0) (fun b o e=>e) (le_refl _) fun h' hsz hk hit=>⟨[s.heap.objs.size,a],_,_,List.Perm.refl _,⟨fun A hA=>zmn hA (ne_of_lt al) hb hd hf ht hp,⟨zero_le _,hit,hk _ _ ho⟩,hk,le_refl _,by rw[hsz];exact lt_succ_self _,fun b hb=>?_⟩⟩;simp at hb;rcases hb with z|z
     . exact .inr ⟨le_of_eq z.symm,by rw[z,hsz];exact lt_succ_self _⟩
     . exact .inl z
end
end R
end
section
set_option maxHeartbeats 4000000
namespace R
open PySem PySem.Spec PyProof.Rows
section
variable {prog:Program} {w:World} {A:Around} {E:Value->Shared->Prop} {s:Shared} {a:Addr} {o:Obj} {es:Array (Int × Value)} {ep:Nat} {t:SetTable}
theorem zi5 (ty:s.TypeIs (.ref a) "set")(h:Q false s):wpAny (model prog w) A (Builtin.List.listLengthHint (.ref a)) Q E s:=by
 refine wpAny_bind (wpAny_specialOf ty F.slot_set_len.lookup ?_);generalize hid:("set.__len__":String)=id0;subst hid;refine wpAny_bind (wpAny_isInstance (b:=true) ty (by rw[isSubtype_type];kernel_rfl) ?_);refine wpAny_bind (wpAny_typeOf ty ?_);exact wpAny_pure h
theorem zgq (hh:A.handled=none)(ho:s.heap.get? a=some o)(hex:o.ExactSet)(hd:o.data=.set es ep t)(hf:t.fits es.size=true)(ht:TOk (!byT w) t)(hz:es.size<scanBound)
  (S:Addr) (hSa:S≠a) (res:Value) (c₀:Nat) (hS:s.heap.get? S=some {cls:=.type "list",data:=.seq #[] c₀})
  (hR:∀h' d' tk acc c,(∀b o,b≠S->s.heap.get? b=some o->h'.get? b=some o)->h'.get? S=some {cls:=.type "list",dict:=none,data:=.seq acc c,slots:=#[]}->acc.toList.Perm (es.toList.map (·.2))->R (.ok (.ret res)) {s with heap:=h',drawn:=d',toks:=tk}) :
  wpAny (model prog w) A.in1 (Builtin.List.listExtendWith (.ref S) (.ref a) res)
   (fun fin s'=>match fin with|.done f=>R (.ok f) s'|.again c'=>c'.quiet=true/\codeAny (model prog w) A c' R s') (fun e s'=>R (.error e) s') s:=by
 have hlt:=Heap.lt_size hS;refine wpAny_bind (wpAny_typeOf ⟨_,ho,hex.1⟩ ?_);rw[if_neg (by simp[Builtin.List.listSameRef,hSa])];refine wpAny_bind (zi3 ho hex hd hf ht hz fun h1 d' I fp St vals hp G=>?_);have hS1:=G.old _ _ hS;refine wpAny_bind (wpAny_holding (zi5 ⟨_,G.old _ _ ho,hex.1⟩ ?_));refine wpAny_bind (wpAny_rule (wpAny_bind ?_));refine wpAny_bind (wpAny_updateSeq hS1 rfl ?_);have hS₂:=Heap.get?_update_self (Obj.mapSeq (·.push Value.none)) hS1 rfl;apply wpAny_updateSeq hS₂ rfl;have hS₃:=Heap.get?_update_self (Obj.mapSeq (·.pop)) hS₂ rfl;have k3:∀b o,b≠S->h1.get? b=some o->((h1.update S (Obj.mapSeq (·.push Value.none))).update S (Obj.mapSeq (·.pop))).get? b=some o:=fun b o hb e=>
  (Heap.get?_update_other _ _ (Ne.symm hb)).trans ((Heap.get?_update_other _ _ (Ne.symm hb)).trans e)
 have Sfp:S∉fp:=fun hm=>by
  rcases G.fp S hm with z|z
  . exact hSa z
  . exact Nat.not_lt.mpr z.1 hlt
 have hv:vals.length<=sizeLine:=by
  rw[hp.length_eq,length_map,length_toList];exact fits_of_scanBound hz
 refine wpAny_pure ⟨plainId_quiet PySem.F.plain_extend_loop _,codeAny_extend_loopS (G.wk A.in1 hh).toS hv S Sfp res vals.length 0 _ #[] _ rfl (zero_le _) ?_ hS₃ (ItemsOf.nil _) fun s' acc c mv hs' hacc=>?_⟩
 . exact (G.wk A.in1 hh).frame 0 _ _ G.st fun b hb o e=>k3 b o (fun z=>Sfp (z▸hb)) e
 . rw[Moved.eq_with mv];refine hR s'.heap d' s'.toks acc c (fun b o hb e=>mv.heap b o (fun hm=>?_) (k3 b o hb (G.old _ _ e))) hs' ?_
   . simp at hm;rcases hm with z|z
     . exact hb z
     . exact Nat.not_lt.mpr (z▸G.new) (Heap.lt_size e)
   . have:acc.toList=vals:=by
      refine List.ext_getElem? fun i=>?_;by_cases hi:i<acc.size
      . have e1:acc[i]?=some acc[i]:=Array.getElem?_eq_getElem hi;have e2:=hacc.2 i _ e1;rw[Array.getElem?_toList,e1];exact e2.symm
      . rw[List.getElem?_eq_none (by rw[length_toList];omega),List.getElem?_eq_none (by have:=hacc.1;omega)]
     rw[this];exact hp
theorem zeP (hh:A.handled=none)(ho:s.heap.get? a=some o)(hex:o.ExactSet)(hd:o.data=.set es ep t)(hf:t.fits es.size=true)(ht:TOk (!byT w) t)(hz:es.size<scanBound)
  (h:∀(h':Heap) (d':Drawn) (tk:Nat) (vals:List Value),(∀b o,s.heap.get? b=some o->h'.get? b=some o)->s.heap.objs.size<h'.objs.size->vals.Perm (es.toList.map (·.2))->R vals {s with heap:=h',drawn:=d',toks:=tk}) :
  wpAny (model prog w) A (collect (.ref a)) R E s:=by
 have hr:a<s.heap.objs.size:=Heap.lt_size ho;refine wpAny_bind (wpAny_runValue (codeAny_builtin PySem.F.entry_proto_collect ?_));refine wpAny_bind (wpAny_newObj_type ?_);refine wpAny_pure ⟨plainId_quiet PySem.F.plain_list_iadd _,codeAny_builtin PySem.F.entry_list_iadd ?_⟩;have hS₁:(s.heap.push {cls:=.type "list",data:=.seq ([]:List Value).toArray}).get? s.heap.objs.size=some {cls:=.type "list",data:=.seq #[]}:=Heap.get?_push_size _ rfl;have key:=zgq (prog:=prog) (s:={s with heap:=s.heap.push {cls:=.type "list",data:=.seq ([]:List Value).toArray}})
  (R:=fun (q:Result) (s':Shared)=>∃(h':Heap) (d':Drawn) (tk:Nat) (acc':Array Value) (c':Nat),q=.ok (.ret (.ref s.heap.objs.size))/\s'={s with heap:=h',drawn:=d',toks:=tk}/\
   (∀b o,s.heap.get? b=some o->h'.get? b=some o)/\h'.get? s.heap.objs.size=some {cls:=.type "list",dict:=none,data:=.seq acc' c',slots:=#[]}/\acc'.toList.Perm (es.toList.map (·.2)))
  hh (Heap.get?_push_of_some _ ho) hex hd hf ht hz s.heap.objs.size (ne_of_gt hr) (.ref s.heap.objs.size) 0 hS₁
  (fun h' d' tk acc' c' hk hS' hacc=>⟨h',d',tk,acc',c',rfl,rfl,fun b o e=>hk b o (ne_of_lt (Heap.lt_size e)) (Heap.get?_push_of_some _ e),hS',hacc⟩)
 refine wpAny_mono key (fun fin s' x=>?_) fun e s' x=>?_
 . cases fin with
   | done f=>
     obtain⟨h',d',tk,acc',c',e,rfl,hk,hS',hacc⟩:=x;cases e;exact wpAny_bind (wpAny_load hS' (wpAny_pure (h h' d' tk _ hk (Heap.lt_size hS') hacc)))
   | again c₁=>
     refine⟨x.1,codeAny_mono x.2 fun q s₂ y=>?_⟩;obtain⟨h',d',tk,acc',c',rfl,rfl,hk,hS',hacc⟩:=y;exact wpAny_bind (wpAny_load hS' (wpAny_pure (h h' d' tk _ hk (Heap.lt_size hS') hacc)))
 . obtain⟨_,_,_,_,_,e',_⟩:=x;cases e'
end
end R
end
section
set_option maxHeartbeats 4000000
namespace R
open PySem PySem.Spec PyProof.Rows L2
theorem zdS (x:Int):∀l:List Int,(insZ x l).Perm (x::l)
 | []=>List.Perm.refl _
 | y::l=>by
   unfold insZ;split
   . exact List.Perm.refl _
   . exact ((zdS x l).cons y).trans (List.Perm.swap ..)
theorem zdl (x:Int):∀{l:List Int},l.Pairwise (·<=·)->(insZ x l).Pairwise (·<=·)
 | [],_=>by simp[insZ]
 | y::l,h=>by
   have h':=pairwise_cons.mp h;unfold insZ;split
   . rename_i c;exact pairwise_cons.mpr ⟨fun z hz=>by
      rcases mem_cons.mp hz with e|e
      . rw[e];exact c
      . exact Int.le_trans c (h'.1 z e),h⟩
   . rename_i c;refine pairwise_cons.mpr ⟨fun z hz=>?_,zdl x h'.2⟩;rcases mem_cons.mp ((zdS x l).mem_iff.mp hz) with e|e
     . rw[e];omega
     . exact h'.1 z e
theorem zcb:∀l:List Int,(zcr l).Perm l
 | []=>List.Perm.refl _
 |x::l=>(zdS x _).trans ((zcb l).cons x)
theorem zck:∀l:List Int,(zcr l).Pairwise (·<=·)
 | []=>Pairwise.nil
 |x::l=>zdl x (zck l)
theorem zdd:∀{a b:List Int},a.Perm b->a.Pairwise (·<=·)->b.Pairwise (·<=·)->a=b
 | [],b,p,_,_=>(List.nil_perm.mp p).symm
 |x::a,[],p,_,_=>absurd (List.perm_nil.mp p) (by simp)
 | x::a,y::b,p,ha,hb=>by
   have ha':=pairwise_cons.mp ha;have hb':=pairwise_cons.mp hb;have e1:y<=x:=by
    rcases mem_cons.mp (p.mem_iff.mp mem_cons_self) with e|e
    . exact Int.le_of_eq e.symm
    . exact hb'.1 x e
   have e2:x<=y:=by
    rcases mem_cons.mp (p.mem_iff.mpr mem_cons_self) with e|e
    . exact Int.le_of_eq e.symm
    . exact ha'.1 y e
   cases Int.le_antisymm e1 e2;rw[zdd (List.Perm.cons_inv p) ha'.2 hb'.2]
theorem zff (ns:List Int):(R.dedup ns).Nodup:=by
 suffices ∀(l acc:List Int),acc.Nodup->(l.foldl (fun acc x=>if acc.contains x then acc else acc++[x]) acc).Nodup from this ns [] List.nodup_nil
 intro l;induction l with
 |nil=>intro acc h;exact h
 | cons x l ih=>
   intro acc h;apply ih _;show (if acc.contains x=true then acc else acc++[x]).Nodup;split
   . exact h
   . rename_i c;refine nodup_append.mpr ⟨h,by simp,fun a ha b hb e=>?_⟩;simp at hb;subst hb;subst e;exact c (by simpa using ha)
theorem zbP:∀{a:List Int} {b:List Int},a.Nodup->(∀x∈a,x∈b)->b.length=a.length->a.Perm b
 | [],b,_,_,h=>by rw[List.length_eq_zero_iff.mp h]
 | x::a,b,hn,hs,h=>by
   have hn':=nodup_cons.mp hn;have hx:=hs x mem_cons_self;have pb:=List.perm_cons_erase hx;refine List.Perm.trans ((zbP hn'.2 (fun y hy=>?_) ?_).cons x) pb.symm
   . exact (List.mem_erase_of_ne (fun e:y=x=>hn'.1 (e▸hy))).mpr (hs y (mem_cons_of_mem _ hy))
   . rw[List.length_erase_of_mem hx,h];simp
def SetO (prog:Program)(w:World)(o:Obj)(ns:List Int):Prop:=
 ∃es ep t ms,o.ExactSet/\o.data=.set es ep t/\t.fits es.size=true/\TOk (!byT w) t/\es.size<scanBound/\IntsAre (es.toList.map (·.2)) ms/\ms.Perm ns
theorem zia:∀{l:List (Int × Value)},ElemsOf (intKind prog w) l->∃ms,IntsAre (l.map (·.2)) ms
 | [],_=>⟨[],.nil⟩
 | e::l,h=>by
   obtain⟨ms,hm⟩:=zia fun x hx=>h x (mem_cons_of_mem _ hx);obtain⟨⟨k,hk,_⟩,_⟩:=h e mem_cons_self;obtain⟨t,ht⟩:=Value.isInt_shape hk;exact⟨k::ms,by rw[map_cons,ht];exact .cons _ _ hm⟩
theorem zh9:∀{us vs:List Value} {ns:List Int},us.Perm vs->IntsAre vs ns->∃ms,IntsAre us ms/\ms.Perm ns:=by
 intro us vs ns p;induction p generalizing ns with
 |nil=>intro h;exact⟨ns,h,List.Perm.refl _⟩
 | cons x p ih=>
   intro h;cases h with
   | cons _ _ h=>
     obtain⟨ms,h1,h2⟩:=ih h;exact⟨_::ms,.cons _ _ h1,h2.cons _⟩
 | swap x y l=>
   intro h;cases h with
   | cons _ _ h=>
     cases h with
     |cons _ _ h=>exact⟨_,.cons _ _ (.cons _ _ h),List.Perm.swap ..⟩
 | trans p q ih1 ih2=>
   intro h;obtain⟨ms,h1,h2⟩:=ih2 h;obtain⟨ks,h3,h4⟩:=ih1 h1;exact⟨ks,h3,h4.trans h2⟩
theorem zfK:∀{l:List (Int × Value)} {ms:List Int},IntsAre (l.map (·.2)) ms->∀k,(∃e∈l,(intKind prog w).is k e.2=true)->k∈ms
 | [],_,h,k,⟨e,he,_⟩=>by simp at he
 | e::l,_,h,k,⟨e',he,hk⟩=>by
   rw[map_cons] at h;generalize hv:e.2=v at h;cases h with
   | cons _ _ h=>
     rcases mem_cons.mp he with z|z
     . obtain⟨t,ht⟩:=Value.isInt_shape hk;rw[z,hv] at ht;cases ht;exact mem_cons_self
     . exact mem_cons_of_mem _ (zfK h k ⟨e',z,hk⟩)
theorem SetO.of (x:SetD prog w h a S ns.length)(hn:ns.Nodup)(hS:∀k∈ns,S k=true):∃o,h.get? a=some o/\SetO prog w o ns:=by
 obtain⟨o,es,ep,t,h1,h2,h3,h4,h5,h6,h7,h8,h9⟩:=x;obtain⟨ms,hm⟩:=zia h4;refine⟨o,h1,es,ep,t,ms,h2,h3,h7,h9,h6,hm,(zbP hn (fun k hk=>zfK hm k ((h5 k).mp (hS k hk))) ?_).symm⟩;rw[<-hm.length,length_map,length_toList,h8]
section
variable [Mks] {X:Cx}
theorem zlO {σ:L2.St}{a:Addr}(I:Inv X pins σ H s)(k:∀b u,s.heap.get? b=some u->h'.get? b=some u)(hp:s.heap.objs.size<=a)(new:ObjOk X.prog X.w (upd H a o) h' a o) :
 Inv X pins σ (upd H a o) {s with heap:=h',drawn:=d',toks:=t'}:=I.call' rfl (Un.laid k hp (I.hok.fresh hp)) (I.hok.laid k hp new) I.bare fun b (hb:b∈([]:List Addr))=>by cases hb
theorem zk0 (hc:X.calm=true):zbt X (.type "set") (fun xs H Q=>∃(a:Addr) (ns:List Int),xs=[.ref a]/\SqL X.K H a (ns.map V.int)/\ns.length<4000/\∀p,H p=none->∀o,SetO X.prog X.w o (R.dedup ns)->Q (.ref p) (upd H p (.frz o (.own 0)))):=by
 intro pins s σ H xs us Q I r h;obtain⟨a,ns,rfl,hq,hz,q⟩:=h;obtain⟨u,rfl,ru⟩:=r.one;cases ru;have fresh:=I.hok.fresh (le_refl s.heap.objs.size);have hA:X.A.handled=none:=I.ok.hd hc;obtain⟨its,rv,pl,hz2⟩:=I.list hq;have hl:its.toArray.size=ns.length:=by rw[size_toArray,<-rv.length,length_map]
 refine zhh hA pl.isList (zcg rv) (by rw[hl];unfold scanBound;omega) fun g tk hS kp=>?_;rw[hl,<-zb8] at hS;obtain⟨o,ho,so⟩:=SetO.of hS (zff ns) (fun k hk=>List.any_eq_true.mpr ⟨k,hk,by simp⟩);exact⟨.ref s.heap.objs.size,_,I.laid (o:=.frz o (.own 0)) (fun b o e=>kp b o (Heap.lt_size e) e) (le_refl _) ⟨ho,_,ho⟩,rfl,q _ fresh o so⟩
theorem zgo (hc:X.calm=true):zbt X (.builtin "sorted") (fun xs H Q=>∃(a:Addr) (o:Obj) (ns:List Int),xs=[.ref a]/\H a=some (.frz o (.own 0))/\SetO X.prog X.w o ns/\ns.length<64/\∀p,H p=none->Q (.ref p) (upd H p (.lst ((zcr ns).map V.int)))):=by
 intro pins s σ H xs us Q I r h;obtain⟨a,o,ns,rfl,hf,⟨es,ep,t,ms,x1,x2,x3,x4,x5,x6,x7⟩,h64,q⟩:=h;obtain⟨u,rfl,ru⟩:=r.one;cases ru;have ho:s.heap.get? a=some o:=(I.hok a _ hf).1;have hA:X.A.handled=none:=I.ok.hd hc;apply Calls.call_function_entry kind_sorted plain_sorted entry_sorted (args_sorted1 _);refine wpAny_bind (wpAny_pure ?_);refine wpAny_bind (zeP hA ho x1 x2 x3 x4 x5 fun h1 d' tk vals kp hlt hp=>?_);obtain⟨ks,hks,pk⟩:=zh9 hp x6;have h64':vals.length<64:=by rw[hks.length,(pk.trans x7).length_eq];exact h64
 refine wpAny_bind (wpAny_newList ?_ (by rw[sizeLine_eq];omega));have hoL:(h1.push (seqObj "list" vals.toArray 0)).get? h1.objs.size=some (seqObj "list" vals.toArray 0):=Heap.get?_push_size _ rfl;refine wpAny_bind (wpAny_holding (wpAny_call_entry slot_list_sort ⟨_,hoL,rfl⟩ entry_list_sort (list_sort_tree hoL hks h64' fun out ns' a1 a2 a3=>⟨_,rfl,?_⟩) (args_list_sort _)));have hle:s.heap.objs.size<=h1.objs.size:=le_of_lt hlt;have en:ns'=zcr ns:=zdd (a2.trans (pk.trans (x7.trans (zcb ns).symm))) a3 (zck ns);subst en;obtain⟨c,hc'⟩:=sortedHeap_at hoL;refine wpAny_pure ⟨_,rfl,.ref h1.objs.size,_,zlO (s:=s) (d':=d') (t':=tk) (o:=.lst ((zcr ns).map V.int)) I (fun b u e=>?_) hle ⟨?_,out.toList,c,zcA a1,?_⟩,rfl,q _ (I.hok.fresh hle)⟩
 . have e1:=kp b u e;have l1:=Heap.lt_size e1;rw[sortedHeap_old (ne_of_lt l1) (Nat.lt_of_lt_of_eq (lt_succ_of_lt l1) (Heap.size_push ..).symm)];exact Heap.get?_push_of_some _ e1
 . rw[length_map,(zcb ns).length_eq,sizeLine_eq];omega
 . exact hc'
variable {T:Tab} {cf:CF} {k:Nat} {N:List Str} {sc:Scope} {pos p p2 pos':Pos}
theorem ziI:bootBuiltins "sorted"=some (.builtin "sorted"):=by rfl
theorem zk1 (G:Gd T cf k N sc X)(hg:Gl X "sorted"/\X.mg "sorted"=none)(hr:Gl X "set"/\X.mg "set"=none)(he:PE X e (tE X.K cf ca))(hst:zaj e=true) :
  PE X (.Call (.Name "sorted" p) [.Call (.Name "set" p2) [e] [] pos'] [] pos) (tE X.K cf (.sset ca)):=by
 have hin:=zbk (p:=p2) (pos:=pos') (zk0 G.calm) hr.1 hr.2 zkA (za8 he hst) (by decide) (by decide) (zak hst [] X.env);refine PE.imp (zbo (zgo G.calm) hg.1 hg.2 ziI (za8 hin rfl) (by decide) (by decide) rfl) fun σ H Qv ⟨δ,ι,S,Q,hs,hh,w,q⟩=>?_;simp[evE,zaa] at w;refine tE.run hs hh w fun d v ι1 H1 S1 x1 hs1 hh1 r1 w1=>?_;obtain⟨ns,hb,w2⟩:=zaC w1;unfold lstI at hb;split at w2
 . rename_i c;cases d with
   | ref l=>
     obtain⟨a,h1,rfl⟩:=r1;dsimp only at hb;cases e1:S1.get l with
     |none=>rw[e1] at hb;cases hb
     | some ob=>
       rw[e1] at hb;cases ob with
       | lst ds=>
         obtain⟨a',g1,zs,ha,rz⟩:=hh1.obj _ _ e1;rw[h1] at g1;cases g1;rw[zfT hb] at rz;have:=rz.ints_eq;subst this;have hd:=zew ns;obtain⟨c2,w3⟩:=zco w2;refine⟨a,ns,rfl,SqL.of ha,by omega,fun pr hpr o so=>⟨pr,o,_,rfl,zai,so,by omega,fun l hl=>?_⟩⟩;have e1:Ext ι1 H1 ι1 (upd H1 pr (.frz o (.own 0))):=Ext.new hpr _;exact q _ _ (Lf.up (x1.trans e1) (Lf.lst (hh1.new hpr _) hl (RVs.ints _) w3))
       |_=>cases hb
   |_=>cases hb
 . exact w2.elim
end
end R
end
section
namespace R
open PySem PySem.Spec PyProof.Rows L2
variable [Mks]
structure Ltr (K:PySem.W.Frag) (ι:List Addr) (H:Hp) (S:R.St) (lks:List Nat) (ι2:List Addr) (H2:Hp) (S2:R.St):Prop where
 ext:Ext ι H ι2 H2
 rh:RH K ι2 H2 S2
 lck:∀l∈lks,S2.get l=S.get l
structure Wk (K:PySem.W.Frag) (J:It) (ds:List D) (lks:List Nat) (ι:List Addr) (H:Hp) (S:R.St):Prop where
 go:∀(i:Nat) (ι2:List Addr) (H2:Hp) (S2:R.St),Ltr K ι H S lks ι2 H2 S2->i<ds.length->J.go i H2
 yld:∀(i:Nat) (ι2:List Addr) (H2:Hp) (S2:R.St) (x:V) (H':Hp),Ltr K ι H S lks ι2 H2 S2->i<ds.length->J.yld i H2 x H'->Ext ι2 H2 ι2 H'/\RH K ι2 H' S2/\∃d,ds[i]?=some d/\RV K ι2 H' d x
 stop:∀(i:Nat) (ι2:List Addr) (H2:Hp) (S2:R.St),Ltr K ι H S lks ι2 H2 S2->ds.length<=i->J.stop i H2
 lks:∀l∈lks,l<S.len
def LfI (K:PySem.W.Frag)(ι:List Addr)(H:Hp)(Q:List D × List Nat->R.St->Prop)(J:It)(H':Hp):Prop:=∃ds lks ι' S',Ext ι H ι' H'/\RH K ι' H' S'/\Q (ds,lks) S'/\Wk K J ds lks ι' H' S'
def tI (K:PySem.W.Frag)(cf:CF)(cl:CL):TI:=fun σ H R=>∃δ ι S Q,RS K ι H δ σ/\RH K ι H S/\W (evL cf cl δ S) Q/\∀J H',LfI K ι H Q J H'->R J H'
theorem PI.imp (h:PI X tg e t)(i:∀σ H Q,t' σ H Q->t σ H Q):PI X tg e t':=fun pins s σ H Q I q=>h pins s σ H Q I (i σ H Q q)
def iSeq (K:PySem.W.Frag)(tl:TE):TI:=fun σ H R=>tl σ H fun x H1=>∃a,x=.ref a/\(((∃xs,SqL K H1 a xs)/\R (Itl K a) H1)\/((∃xs,SqT K H1 a xs)/\R (Itt K a) H1))
section
variable {T:Tab} {cf:CF} {k:Nat} {N:List Str} {sc:Scope} {X:Cx} {pos p:Pos} {tg:Expr}
theorem znn (hl:PE X l tl):PI X tg l (iSeq X.K tl):=by
 intro pins s σ H R I h;refine thn (hl pins s σ H _ I h) fun v s1 ⟨x,H1,I1,r1,q1⟩=>?_;obtain⟨a,rfl,q1⟩:=q1;cases r1;rcases q1 with ⟨⟨xs,hq⟩,q⟩|⟨⟨xs,hq⟩,q⟩
 . obtain⟨its,rv,pl,hz⟩:=I1.list hq;apply wpAny_pyIter_list pl.isList;refine⟨s1.heap.objs.size,[s1.heap.objs.size],_,_,H1,rfl,I1.kept (t':=s1.toks) fun b o e=>Heap.get?_push_of_some _ e,zha a _,⟨_,Heap.get?_push_size _ rfl,rfl,rfl⟩,fun b hb=>?_,q⟩;have e:b=s1.heap.objs.size:=by simpa using hb
   subst e;exact I1.fpOk (le_refl _) (I1.hok.fresh (le_refl _))
 . obtain⟨its,rv,pl,hz⟩:=I1.tuple hq;apply wpAny_pyIter_tuple pl;refine⟨s1.heap.objs.size,[s1.heap.objs.size],_,_,H1,rfl,I1.kept (t':=s1.toks) fun b o e=>Heap.get?_push_of_some _ e,zgl a _,⟨_,Heap.get?_push_size _ rfl,rfl,rfl⟩,fun b hb=>?_,q⟩;have e:b=s1.heap.objs.size:=by simpa using hb
   subst e;exact I1.fpOk (le_refl _) (I1.hok.fresh (le_refl _))
theorem zeL {K:PySem.W.Frag}(hl:∀l∈lks,l<S.len)
  (h:∀ι2 H2 S2,Ltr K ι H S lks ι2 H2 S2->∃xs,SqL K H2 a xs/\RVs K ι2 H2 ds xs/\∀ys,SqL K H2 a ys->True):Wk K (Itl K a) ds lks ι H S where
 go:=fun i ι2 H2 S2 lt hi=>by
  obtain⟨xs,hq,rr,_⟩:=h ι2 H2 S2 lt;exact⟨xs,xs[i]'(by rw[rr.length];exact hi),hq,List.getElem?_eq_getElem _⟩
 yld:=fun i ι2 H2 S2 x H' lt hi y=>by
  obtain⟨xs,hq,rr,_⟩:=h ι2 H2 S2 lt;obtain⟨rfl,y⟩:=y;obtain⟨d,e,r⟩:=rr.get' (y xs hq);exact⟨Ext.refl _ _,lt.rh,d,e,r⟩
 stop:=fun i ι2 H2 S2 lt hi=>by
  obtain⟨xs,hq,rr,_⟩:=h ι2 H2 S2 lt;exact⟨xs,hq,by rw[rr.length];exact hi⟩
 lks:=hl
theorem zmk {K:PySem.W.Frag}(hl:∀l∈lks,l<S.len)(e:H a=some (.tup xs))(rr:RVs K ι H ds xs):Wk K (Itt K a) ds lks ι H S where
 go:=fun i ι2 H2 S2 lt hi=>⟨xs,xs[i]'(by rw[rr.length];exact hi),SqT.of (lt.ext.kp.tups _ _ e),List.getElem?_eq_getElem _⟩
 yld:=fun i ι2 H2 S2 x H' lt hi y=>by
  obtain⟨rfl,y⟩:=y;obtain⟨d,e,r⟩:=(rr.ext lt.ext).get' (y xs (SqT.of (lt.ext.kp.tups _ _ e)));exact⟨Ext.refl _ _,lt.rh,d,e,r⟩
 stop:=fun i ι2 H2 S2 lt hi=>⟨xs,SqT.of (lt.ext.kp.tups _ _ e),by rw[rr.length];exact hi⟩
 lks:=hl
theorem zkd (he:PE X e (tL X.K cf cl))(hlk:∀{δ:Ev} {S:R.St} {Q:List D × List Nat->R.St->Prop},W (evL cf cl δ S) Q->W (evL cf cl δ S) fun r S'=>(∀l∈r.2,l<S'.len)/\Q r S'):PI X tg e (tI X.K cf cl):=by
 refine PI.imp (znn he) fun σ H R ⟨δ,ι,S,Q,hs,hh,w,q⟩=>?_;refine tL.run hs hh (hlk w) fun ds lks v ι1 H1 S1 x1 hs1 hh1 sq w1=>?_;obtain⟨hl,w1⟩:=w1;obtain⟨a,xs,rfl,rr,kd⟩:=sq;refine⟨a,rfl,?_⟩;cases kd with
 |tmp h e=>exact .inl ⟨⟨xs,SqL.of e⟩,q _ _ ⟨ds,lks,ι1,S1,x1,hh1,w1,zeL hl fun ι2 H2 S2 lt=>⟨xs,SqL.of (lt.ext.keep h e (by simp)),rr.ext lt.ext,fun _ _=>trivial⟩⟩⟩
 |fix e=>exact .inl ⟨⟨xs,e.sq⟩,q _ _ ⟨ds,lks,ι1,S1,x1,hh1,w1,zeL hl fun ι2 H2 S2 lt=>⟨xs,(e.kp lt.ext.kp).sq,rr.ext lt.ext,fun _ _=>trivial⟩⟩⟩
 |tup e=>exact .inr ⟨⟨xs,SqT.of e⟩,q _ _ ⟨ds,lks,ι1,S1,x1,hh1,w1,zmk hl e rr⟩⟩
 | own l hm hi hg e=>
   refine .inl ⟨⟨xs,SqL.of e⟩,q _ _ ⟨ds,lks,ι1,S1,x1,hh1,w1,zeL hl fun ι2 H2 S2 lt=>?_⟩⟩;obtain⟨b,h2,zs,hz,rz⟩:=lt.rh.obj l (.lst ds) ((lt.lck l hm).trans hg);rw[zbV lt.ext.pre hi] at h2;cases h2;exact⟨zs,SqL.of hz,rz,fun _ _=>trivial⟩
theorem znN (h:W (evL cf (.val ce) δ S) Q):W (evL cf (.val ce) δ S) fun r S'=>(∀l∈r.2,l<S'.len)/\Q r S':=by
 simp[evL,zaa] at h⊢;refine h.mono fun x S1 h1=>?_;obtain⟨ds,e,h2⟩:=zaC h1;rw[e];refine⟨fun l hl=>?_,h2⟩;cases x with
 | ref l'=>
   simp[lkOf] at hl;subst hl;simp[zbK] at e;split at e
   . rename_i e2;exact za9 e2
   . cases e
 |_=>simp[lkOf] at hl
theorem zlH (h:W (evL cf (.comp n js g it c e) δ S) Q):W (evL cf (.comp n js g it c e) δ S) fun r S'=>(∀l∈r.2,l<S'.len)/\Q r S':=by
 simp[evL,zaa] at h⊢;refine h.mono fun ds S1 h1=>h1.mono fun r S2 h2=>?_;split at h2
 . rename_i c;rw[if_pos c];exact⟨fun l hl=>by simp at hl,h2⟩
 . exact h2.elim
theorem ziQ {K:PySem.W.Frag}(lo:Int)(n:Nat):Wk K (Itr lo n) ((List.range n).map fun (j:Nat)=>D.int (lo+j)) [] ι H S where
 go:=fun i ι2 H2 S2 lt hi=>by show i<n;simpa using hi
 yld:=fun i ι2 H2 S2 x H' lt hi y=>by
  obtain⟨rfl,rfl⟩:=y;have hi:i<n:=by simpa using hi
  exact⟨Ext.refl _ _,lt.rh,.int (lo+i),by simp[hi],rfl⟩
 stop:=fun i ι2 H2 S2 lt hi=>by show n<=i;simpa using hi
 lks:=fun l hl=>by simp at hl
theorem zkW (hg:Gl X "range"/\X.mg "range"=none)(ha:PE X a (tE X.K cf ca))(hst:zaj a=true):PI X tg (.Call (.Name "range" p) [a] [] pos) (tI X.K cf (.rng1 ca)):=by
 refine PI.imp (zhE hg.1 hg.2 (za8 ha hst) (zak hst [] X.env)) fun σ H R ⟨δ,ι,S,Q,hs,hh,w,q⟩=>?_;simp[evL,zaa] at w;refine tE.run hs hh w fun d v ι1 H1 S1 x1 hs1 hh1 r1 w1=>?_;cases d with
 | int j=>
   obtain rfl:v=.int j:=r1;dsimp only at w1;split at w1
   . rename_i c;have e:((List.range j.toNat).map fun (k:Nat)=>D.int k)=(List.range j.toNat).map fun (k:Nat)=>D.int (0+k):=by simp
     rw[e] at w1;exact⟨j,rfl,c.1,c.2,q _ _ ⟨_,[],ι1,S1,x1,hh1,w1,ziQ 0 j.toNat⟩⟩
   . exact w1.elim
 |_=>exact w1.elim
theorem za3 {σ:L2.St}{fp:List Addr}(I:Inv X pins σ H s)(k:∀b o,b∉fp->s.heap.get? b=some o->h'.get? b=some o)(hf:∀b∈fp,FpOk X pins H b):Inv X pins σ H {s with heap:=h',toks:=t'}:=by
 have nit:∀b u,H b=some u->b∉fp:=fun b u e z=>by rw[(hf b z).1] at e;cases e
 refine I.step (g':=s.gens) (d':=s.drawn) (fun b hb=>?_) (fun b o _ _ hc e _=>k b o hc e) (fun b o _ _ hc e _=>⟨o.slots,k b o hc e⟩) (fun _ _ _ _ n=>n)
  (fun b o hc e=>⟨o,k b o hc e⟩) (fun _ _ e=>e) (fun _ _ _ e=>e) (fun b ps e=>⟨#[],by rw[e];simp⟩) (fun m hm=>?_) (fun b u e=>?_) I.bare
 . obtain⟨f0,f1,f2,f3,f4,f5⟩:=hf b hb;exact⟨f3,f1,f4,f5⟩
 . obtain⟨o,es,ep,ho,r⟩:=hm;exact⟨o,es,ep,k _ o (fun z=>(hf _ z).2.1 rfl) ho,r⟩
 . refine (I.hok b u e).stay (fun c v hc q=>k c v ?_ q) (fun _ q=>q) fun _ _ q=>q;rcases hc with z|z
   . rw[z];exact nit b u e
   . exact nit c _ z
def tG (K:PySem.W.Frag)(is:List Nat):TG:=fun v σ H Qv=>∃δ ι d δ',RS K ι H δ σ/\RV K ι H d v/\asgG is d δ=some δ'/\∀σ',RS K ι H δ' σ'->Qv σ' H
def tGs (K:PySem.W.Frag)(is:List Nat):TGs:=fun vs σ H Qv=>∃δ ι ds,RS K ι H δ σ/\RVs K ι H ds vs/\ds.length=is.length/\∀σ',RS K ι H (zdn is ds δ) σ'->Qv σ' H
theorem PG.imp (h:PG X tg t)(i:∀v σ H Q,t' v σ H Q->t v σ H Q):PG X tg t':=fun pins s σ H v u Q I r q=>h pins s σ H v u Q I r (i v σ H Q q)
theorem PGs.imp (h:PGs X es t)(i:∀v σ H Q,t' v σ H Q->t v σ H Q):PGs X es t':=fun pins s σ H v u Q I r q=>h pins s σ H v u Q I r (i v σ H Q q)
theorem zkY (G:Gd T cf k N sc X)(hi:N[i]?=some x)(hl:zb4 sc x=true):PG X (.Name x pos) (tG X.K [i]):=by
 refine PG.imp (zhF (by rw[G.nm];exact G.nd) (by rw[G.nm];exact hi) (G.lc hl).1 (G.lc hl).2) fun v σ H Qv ⟨δ,ι,d,δ',hs,r,e,q⟩=>?_;cases e;exact q _ (hs.set r i)
noncomputable def zbQ (sc:Scope)(N:List Str):List Nat->List Expr->Bool
 | [],[]=>true
 |i::is,.Name x _::es=>(N[i]? == some x)&&zb4 sc x&&zbQ sc N is es
 |_,_=>false
theorem zd8 (G:Gd T cf k N sc X):∀{is:List Nat} {es:List Expr},zbQ sc N is es=true->PGs X es (tGs X.K is)/\(assignEach es X.env).length=is.length/\(assignEach es X.env).findIdx? (·.1)=none
 | [],[],_=>⟨PGs.imp zlv fun v σ H Qv ⟨δ,ι,ds,hs,r,hl,q⟩=>by
  have:ds=[]:=by simpa using hl
  subst this;exact⟨r,q σ (by simpa[zdn] using hs)⟩,rfl,rfl⟩
 | [],_::_,h=>by simp[zbQ] at h
 |_::_,[],h=>by simp[zbQ] at h
 | i::is,e::es,h=>by
   cases e with
   | Name x pos=>
     simp[zbQ,and_eq_true,beq_iff_eq] at h;obtain⟨h1,h2,h3⟩:=zd8 G h.2;refine⟨PGs.imp (zjp (zhF (by rw[G.nm];exact G.nd) (by rw[G.nm];exact h.1.1) (G.lc h.1.2).1 (G.lc h.1.2).2) h1) fun v σ H Qv ⟨δ,ι,ds,hs,r,hl,q⟩=>?_,?_,?_⟩
     . cases ds with
       |nil=>simp at hl
       | cons d ds=>
         obtain⟨v1,vr,rfl,r1,r2⟩:=r;refine⟨v1,vr,rfl,?_⟩;exact⟨δ.set i (some d),ι,ds,hs.set r1 i,r2,by simpa using hl,fun σ' hs'=>q σ' (by simpa[zdn] using hs')⟩
     . show ((false,_)::assignEach es X.env).length=_;simp[h2]
     . show ((false,_)::assignEach es X.env).findIdx? _=_;simp[List.findIdx?_cons,h3]
   |_=>simp[zbQ] at h
theorem zj3 (h2:2<=is.length)(e:asgG is d δ=some δ'):∃ds,d=.tup ds/\ds.length=is.length/\δ'=zdn is ds δ:=by
 match is,h2 with
 | a::b::t,_=>
   cases d with
   | tup ds=>
     simp only[asgG] at e;split at e
     . rename_i c;cases e;exact⟨ds,rfl,c,rfl⟩
     . cases e
   |_=>cases e
theorem zke (G:Gd T cf k N sc X)(h:zbQ sc N is es=true)(h2:2<=is.length):PG X (.Tuple es j pos) (tG X.K is):=by
 obtain⟨h1,hn,hst⟩:=zd8 G h;refine PG.imp (znp G.calm h1 hn hst) fun v σ H Qv ⟨δ,ι,d,δ',hs,r,e,q⟩=>?_;obtain⟨ds,rfl,c,rfl⟩:=zj3 h2 e;obtain⟨a,xs,rfl,ha,rr⟩:=r;exact⟨a,xs,rfl,SqT.of ha,by rw[rr.length];exact c,δ,ι,ds,hs,rr,c,q⟩
theorem Ext.tmp {p:Addr}(x:Ext ι H ι' H')(hn:H p=none)(e:H' p=some (.lst vs)):Ext ι H ι' (upd H' p (.lst us)):=by
 refine⟨x.pre,x.kp.trans (.same (Tups.upd_lst e) (fun b o u h=>?_) fun b ps h=>?_),fun b o hb eb=>?_⟩
 . rw[zah];exact h;rintro rfl;rw[e] at h;cases h
 . rw[zah];exact h;rintro rfl;rw[e] at h;cases h
 . obtain⟨h1,h2⟩:=x.rest b o hb eb;refine⟨?_,h2⟩;rw[zah];exact h1;rintro rfl;rw[hn] at eb;cases eb
theorem Kp.tmp {p:Addr}(e:H p=some (.lst vs)):Kp H (upd H p (.lst us)):=.same (Tups.upd_lst e) (fun b o u h=>by
 rw[zah];exact h;rintro rfl;rw[e] at h;cases h) fun b ps h=>by
 rw[zah];exact h;rintro rfl;rw[e] at h;cases h
theorem RH.tmp {K:PySem.W.Frag}{p:Addr}(hh:RH K ι H S)(hp:p∉ι)(e:H p=some (.lst vs)):RH K ι (upd H p (.lst us)) S:=
 ⟨hh.len,hh.nd,fun l o q=>by
  obtain⟨a,h1,h2,hm⟩:=hh.mem q;exact⟨a,h1,h2.up (prefix_refl _) (Kp.tmp e) (zah fun z=>hp (z▸hm))⟩,(Kp.tmp e).tab hh.tab⟩
theorem RS.up {K:PySem.W.Frag}(h:RS K ι H δ σ)(hp:ι <+: ι')(hk:Kp H H'):RS K ι' H' δ σ:=
 ⟨h.1,fun i d e=>let ⟨v,e1,r⟩:=h.2 i d e;⟨v,e1,r.up hp hk⟩⟩
theorem RH.lk {K:PySem.W.Frag}(hh:RH K ι H S)(ks:List Nat):RH K ι H {S with lk:=ks}:=⟨hh.len,hh.nd,fun l o e=>hh.obj l o e,hh.tab⟩
theorem RS.csl {K:PySem.W.Frag}(h:RS K ι H δ σ)(nt:Nat)(js:List Nat):RS K ι H (R.csl nt js δ) (L2.csl nt js σ):=by
 refine⟨by simp[R.csl,L2.csl],fun i d e=>?_⟩;unfold R.csl at e;unfold L2.csl;by_cases hi:i<nt
 . rw[getElem?_append_left (by simpa using hi),List.getElem?_replicate] at e;rw[if_pos hi] at e;cases e
 . rw[getElem?_append_right (by simpa using hi)] at e⊢;simp only[length_replicate,getElem?_map] at e⊢;cases ej:js[i - nt]? with
   |none=>rw[ej] at e;cases e
   | some j=>
     rw[ej] at e;simp at e⊢;have e2:δ[j]?=some (some d):=by
      cases z:δ[j]? with
      |none=>rw[z] at e;cases e
      |some o=>rw[z] at e;simp at e;rw[e]
     obtain⟨v,ev,r⟩:=h.2 j d e2;exact⟨v,by rw[ev];rfl,r⟩
theorem zcW {α:Type}{xs:List α}{x:α}(h:xs[i]?=some x):xs.drop i=x::xs.drop (i+1):=by
 obtain⟨h1,h2⟩:=List.getElem?_eq_some_iff.mp h;rw[List.drop_eq_getElem_cons h1,h2]
def CInv (K:PySem.W.Frag)(cf:CF)(g:List Nat)(c e:CE)(Q:List D × List Nat->R.St->Prop)(ds:List D)(lks:List Nat)(ι1:List Addr)(H1:Hp)(S1:R.St)(p:Addr)(i:Nat)(σ':L2.St)(H':Hp):Prop:=
 i<=ds.length/\∃δ' ι' S' acc vs,RS K ι' H' δ' σ'/\Ltr K ι1 H1 S1 lks ι' H' S'/\S'.lk=lks++S1.lk/\S1.len<=S'.len/\p∉ι'/\H' p=some (.lst vs)/\RVs K ι' H' acc vs/\
  W (za4 g (evT cf c) (evE cf e) (ds.drop i) δ' S') fun rest S2=>(acc++rest).length<=16777216/\Q (acc++rest,[]) {S2 with lk:=S1.lk}
theorem zf9 (hcf:CFok cf)(h:tLt X.K cf (.comp nt js is it c e) σ H Qv):zeN nt js (tI X.K cf it) (tG X.K is) (tT X.K cf c) (tE X.K cf e) σ H Qv:=by
 obtain⟨δ,ι,S,Q,hs,hh,w,q⟩:=h;simp[evL,zaa] at w;refine⟨δ,ι,S,_,hs,hh,w,fun J H1 ⟨ds,lks,ι1,S1,x1,hh1,w1,wk⟩=>?_⟩;dsimp only at w1;unfold zbB at w1;rw[zaa] at w1;intro p hp;have hpi:=hh1.fresh hp;refine⟨fun i m σ' H'=>m=ds.length - i/\CInv X.K cf is c e Q ds lks ι1 H1 S1 p i σ' H',⟨_,rfl,zero_le _,R.csl nt js δ,ι1,{S1 with lk:=lks++S1.lk},[],[],((hs.ext x1).csl _ _).up (prefix_refl _) (Kp.new hp _),⟨Ext.new hp _,(hh1.lk _).new hp _,fun l _=>rfl⟩,rfl,le_refl _,hpi,zai,rfl,?_⟩,?_⟩
 . refine w1.mono fun rest S2 w2=>?_;simp at w2;split at w2
   . rename_i c;exact⟨by simpa using c,by simpa using w2⟩
   . exact w2.elim
 rintro i m σ' H' ⟨rfl,hle,δ',ι',S',acc,vs,hs',lt,hlk,hln,hpn,hpv,ra,wt⟩;rcases Nat.lt_or_eq_of_le hle with hlt|rfl
 . refine .inr ⟨wk.go i ι' H' S' lt hlt,CInv X.K cf is c e Q ds lks ι1 H1 S1 p (i+1),fun σ2 H2 h=>⟨_,by omega,rfl,h⟩,fun x H2 hy=>?_⟩;obtain⟨x2,hh2,d,hd,rd⟩:=wk.yld i ι' H' S' x H2 lt hlt hy;have hs2:=hs'.ext x2;have hp2:=x2.keep hpn hpv (by simp);rw[zcW hd] at wt;simp only[za4] at wt;cases ea:asgG is d δ' with
   |none=>rw[ea] at wt;exact wt.elim
   | some δ2=>
     rw[ea] at wt;rw[zaa] at wt;refine⟨δ',ι',d,δ2,hs2,rd,ea,fun σ2 hs3=>?_⟩;refine tT.run hs3 hh2 (zc9 hcf c δ2 S' _ wt) fun b ι3 H3 S3 x3 hs4 hh3 w3=>?_;obtain⟨w3,f3⟩:=w3;have hp3:=x3.keep hpn hp2 (by simp);have hpn3:=(x3.rest p _ hpn hp2).2;have keep:∀{S4:R.St},Frm S' S4->S4.lk=lks++S1.lk/\S1.len<=S4.len/\∀l∈lks,S4.get l=S1.get l:=fun f=>⟨f.lk.trans hlk,le_trans hln f.lens,fun l hl=>
      (f.same l (by rw[hlk];exact mem_append_left _ hl) (lt_of_lt_of_le (wk.lks l hl) hln)).trans (lt.lck l hl)⟩
     cases b with
     | false=>
       obtain⟨k1,k2,k3⟩:=keep f3;exact⟨hlt,δ2,ι3,S3,acc,vs,hs4,⟨(lt.ext.trans x2).trans x3,hh3,k3⟩,k1,k2,hpn3,hp3,(ra.ext x2).ext x3,w3⟩
     | true=>
       simp only[if_true] at w3⊢;rw[zaa] at w3;refine tE.run hs4 hh3 (zar hcf e δ2 S3 _ w3) fun z v ι4 H4 S4 x4 hs5 hh4 rz w4=>?_;obtain⟨w4,f4⟩:=w4;obtain⟨k1,k2,k3⟩:=keep (f3.trans f4);have hp4:=x4.keep hpn3 hp3 (by simp);have hpn4:=(x4.rest p _ hpn3 hp3).2;rw[zaa] at w4;have ra4:=((ra.ext x2).ext x3).ext x4;have hlen:acc.length<16777216:=by
        obtain⟨rest,S5,_,w5⟩:=zg1 w4;have:=w5.1;simp at this;omega
       refine⟨vs,hp4,by rw[ra4.length,sizeLine_eq];exact hlen,hlt,δ2,ι4,S4,acc++[z],vs++[v],hs5.up (prefix_refl _) (Kp.tmp hp4),⟨(((lt.ext.trans x2).trans x3).trans x4).tmp hp hp4,hh4.tmp hpn4 hp4,k3⟩,k1,k2,hpn4,zai,?_,?_⟩
       . exact (RVs.append (es:=[z]) ra4 ⟨v,[],rfl,rz,rfl⟩).up (prefix_refl _) (Kp.tmp hp4)
       . refine w4.mono fun rest S5 w5=>?_;simpa using w5
 . refine .inl ⟨wk.stop _ ι' H' S' lt (le_refl _),?_⟩;rw[List.drop_length] at wt;simp[za4,W_ok,append_nil] at wt;exact q _ _ ⟨acc,ι',{S' with lk:=S1.lk},p,vs,x1.trans lt.ext,rfl,ra,hpn,hpv,lt.rh.lk _,zeK hh1 x1 hp,wt.2⟩
end
end R
end
section
namespace R
open PySem PySem.Spec PyProof.Rows L2
variable [Mks]
section
variable {T:Tab} {cf:CF} {k:Nat} {N:List Str} {sc:Scope} {X:Cx} {pos p:Pos} {tg:Expr}
noncomputable def Ite (K:PySem.W.Frag)(a:Addr):It:=
 ⟨fun i H=>∃xs x,SqL K H a xs/\xs[i]?=some x,
  fun i H v H'=>∃T x,H T=none/\v=.ref T/\H'=upd H T (.tup [.int i,x])/\∀xs,SqL K H a xs->xs[i]?=some x,
  fun i H=>∃xs,SqL K H a xs/\xs.length<=i⟩
theorem zhb {K:PySem.W.Frag}(hne:e≠it):Turn P w K (.Tuple es j pt) (Ite K a) [e,it] e
  (fun i h=>(∃old,IsEnum h e it i old)/\h.IsListIter it a i) where
 mem:=by simp
 obj:=fun i h st c hc=>by
  obtain⟨⟨old,h1⟩,⟨o4,h4,_,d4⟩⟩:=st;simp at hc;rcases hc with rfl|rfl
  . exact⟨_,h1,fun v z=>by cases z⟩
  . exact⟨_,h4,fun v z=>by rw[d4] at z;cases z⟩
 keep:=fun i h h' st k=>by
  obtain⟨⟨old,h1⟩,h4⟩:=st;exact⟨⟨old,k e (by simp) _ h1⟩,h4.at fun o x=>k it (by simp) o x⟩
 item:=by
  intro X hP hw hK hc i pins s σ H E I hf st hg;subst hP hw hK;obtain⟨xs,x,hq,hx⟩:=hg;obtain⟨xv,rx,px,_⟩:=I.list hq;obtain⟨u,hu,ru⟩:=rx.get hx;obtain⟨⟨old,he⟩,h1⟩:=st;refine wpAny_pyNext_enum_item he h1 px.isList (by simpa using hu) hne fun h' a1 a3 a5 a6 hk=>?_;have hn:H s.heap.objs.size=none:=I.hok.fresh (le_refl _);have I1:Inv X pins σ (upd H s.heap.objs.size (.tup [.int i,x])) {s with heap:=s.heap.push {cls:=.type "tuple",data:=.seq #[.int i s.toks,u]},toks:=s.toks+1}:=
   I.laid (t':=s.toks+1) (fun b u e=>Heap.get?_push_of_some _ e) (le_refl _) ⟨by rw[sizeLine_eq];simp,[.int i s.toks,u],.cons ⟨_,rfl⟩ (.cons ru .nil),⟨_,Heap.get?_push_size _ rfl,rfl,_,rfl⟩⟩
  have lt:∀{c o},s.heap.get? c=some o->c≠s.heap.objs.size:=fun e=>ne_of_lt (Heap.lt_size e);have nf:∀c∈[e,it],c≠s.heap.objs.size:=by
   intro c hc;simp at hc;rcases hc with rfl|rfl
   . exact lt he
   . obtain⟨o,z,_⟩:=h1;exact lt z
  have hf1:∀c∈[e,it],FpOk X pins (upd H s.heap.objs.size (.tup [.int i,x])) c:=fun c hc=>by
   obtain⟨f0,f⟩:=hf c hc;exact⟨by rw[zah (nf c hc)];exact f0,f⟩
  have two:∀{c:Addr},¬c∈[e,it]->c≠e/\c≠it:=fun {c} hc=>by
   simp at hc;exact hc
  have k2:∀c o,¬c∈[e,it]->(s.heap.push {cls:=.type "tuple",data:=.seq #[.int i s.toks,u]}).get? c=some o->h'.get? c=some o:=fun c o hc z=>by
   by_cases hs:c=s.heap.objs.size
   . subst hs;have e2:(s.heap.push {cls:=.type "tuple",data:=.seq #[.int i s.toks,u]}).get? s.heap.objs.size=_:=Heap.get?_push_size _ rfl;rw[e2] at z;cases z;exact a5
   . exact hk c o (two hc).1 (two hc).2 ((Heap.get?_push_ne _ _ _ hs).symm.trans z)
  have I2:Inv X pins σ (upd H s.heap.objs.size (.tup [.int i,x])) {s with heap:=h',toks:=s.toks+1}:=za3 (s:={s with heap:=s.heap.push {cls:=.type "tuple",data:=.seq #[.int i s.toks,u]},toks:=s.toks+1}) (h':=h') (t':=s.toks+1) I1 k2 hf1;refine⟨_,rfl,?_⟩;refine wpAny_letOwnedTupleGo_enum a1 fun h2' hz' hs'=>?_;refine⟨.ref s.heap.objs.size,upd H s.heap.objs.size (.tup [.int i,x]),za3 (t':=s.toks+1) I2 (fun c o hc z=>hs'.extBut _ _ (two hc).1 z) hf1,rfl,⟨_,x,hn,rfl,rfl,fun xs' hx'=>by rw[I.list_inj hx' hq];exact hx⟩,
   ⟨⟨_,hz'⟩,a3.extBut hs'.extBut (Ne.symm hne)⟩,fun c hc=>(hf1 c hc).1⟩
 done:=by
  intro X hP hw hK hc i pins s σ H E I hf st hg;subst hP hw hK;obtain⟨xs,hq,hl⟩:=hg;obtain⟨xv,rx,px,_⟩:=I.list hq;obtain⟨⟨old,he⟩,h1⟩:=st;have l1:=rx.length;refine wpAny_pyNext_enum_end (I.ok.hd hc) he h1 px.isList (by simp;omega) fun h' hk=>⟨rfl,za3 (t':=s.toks) I (fun c o hc z=>hk c o (fun q=>hc (by simp[q])) z) hf⟩
 self:=fun _ _ _ _ _ st h=>wpAny_pyIter_enum st.1.choose_spec h
theorem zkH {K:PySem.W.Frag}(hl:S.get l=some (.lst ds))(ha:ι[l]?=some a):Wk K (Ite K a) (ds.mapIdx fun i d=>zcL (.int i) d) [l] ι H S:=by
 have get:∀{ι2 H2 S2},Ltr K ι H S [l] ι2 H2 S2->∃xs,SqL K H2 a xs/\RVs K ι2 H2 ds xs:=fun {ι2 H2 S2} lt=>by
  obtain⟨a',h2,xs,hx,rx⟩:=lt.rh.obj l (.lst ds) ((lt.lck l (by simp)).trans hl);rw[zbV lt.ext.pre ha] at h2;cases h2;exact⟨xs,SqL.of hx,rx⟩
 refine⟨fun i ι2 H2 S2 lt hi=>?_,fun i ι2 H2 S2 x H' lt hi y=>?_,fun i ι2 H2 S2 lt hi=>?_,fun k hk=>?_⟩
 . obtain⟨xs,hx,rx⟩:=get lt;rw[length_mapIdx] at hi;have h1:=rx.length;exact⟨xs,xs[i]'(by omega),hx,List.getElem?_eq_getElem _⟩
 . obtain⟨xs,hx,rx⟩:=get lt;obtain⟨T,u,hT,rfl,rfl,y1⟩:=y;obtain⟨d,ed,rd⟩:=rx.get' (y1 xs hx);have x2:Ext ι2 H2 ι2 (upd H2 T (.tup [.int i,u])):=Ext.new hT _;refine⟨x2,lt.rh.new hT _,zcL (.int i) d,by rw[List.getElem?_mapIdx,ed];rfl,?_⟩;exact⟨T,[.int i,u],rfl,zai,.int i,[u],rfl,rfl,u,[],rfl,rd.ext x2,rfl⟩
 . obtain⟨xs,hx,rx⟩:=get lt;rw[length_mapIdx] at hi;have h1:=rx.length;exact⟨xs,hx,by omega⟩
 . cases mem_singleton.mp hk;exact za9 hl
end
end R
end
section
set_option maxHeartbeats 4000000
namespace R
open PySem PySem.Spec PyProof.Rows L2
open AutoSeq1 (wpAny_loadPart')
section
variable {prog:Program} {w:World} {A:Around} {E:Value->Shared->Prop} {s:Shared}
theorem zgC (hit:s.heap.IsTupleIter it t i)(ht:s.heap.IsTuple t items)(hx:items[i]?=some x)
  (hQ:∀h',h'.IsTupleIter it t (i+1)->Heap.SameBut it s.heap h'->Q x {s with heap:=h'}):wpAny (model prog w) A (Builtin.SmallTypes.nextOf (.ref it)) Q E s:=by
 obtain⟨o,ho,hc,hd⟩:=id hit;obtain⟨ol,hol,_,nl,hdl⟩:=ht;refine wpAny_bind (wpAny_callSpecial?_slot hit.typeIs PySem.F.slot_tuple_iterator_next
  (wpAny_call_entry PySem.F.slot_tuple_iterator_next hit.typeIs PySem.F.entry_tuple_iterator_next ?_ (PySem.F.args_tuple_iterator_next_1 _)))
 show wpAny _ _ (field (.ref it) 0 >>= _) _ _ s;refine wpAny_bind (wpAny_field ho hd rfl ?_);refine wpAny_bind (wpAny_field ho hd rfl ?_);refine wpAny_bind (wpAny_seqItems hol hdl ?_);simp[Int.toNat_natCast,hx];refine wpAny_bind (wpAny_setField ho hd (by simp) (wpAny_pure ⟨x,rfl,wpAny_pure (hQ _ ?_ (Heap.SameBut.update ..))⟩));exact⟨_,Heap.get?_update_self _ ho (Obj.isFreed_of_fields (Obj.data_mapFields hd _)),(Obj.cls_mapFields ..).trans hc,by
  rw[Obj.data_mapFields hd];simp[rawInt]⟩
theorem zek (hh:A.handled=none)(hit:s.heap.IsTupleIter it t i)(ht:s.heap.IsTuple t items)(hx:items[i]?=none)
  (hE:∀h' e,Heap.ExtBut it s.heap h'->(∃o,h'.get? e=some o/\o.cls=.type "StopIteration")->E (.ref e) {s with heap:=h'}):wpAny (model prog w) A (Builtin.SmallTypes.nextOf (.ref it)) Q E s:=by
 obtain⟨o,ho,hc,hd⟩:=id hit;obtain⟨ol,hol,_,nl,hdl⟩:=ht;refine wpAny_bind (wpAny_callSpecial?_slot hit.typeIs PySem.F.slot_tuple_iterator_next
  (wpAny_call_entry PySem.F.slot_tuple_iterator_next hit.typeIs PySem.F.entry_tuple_iterator_next ?_ (PySem.F.args_tuple_iterator_next_1 _)))
 show wpAny _ _ (field (.ref it) 0 >>= _) _ _ s;refine wpAny_bind (wpAny_field ho hd rfl ?_);refine wpAny_bind (wpAny_field ho hd rfl ?_);refine wpAny_bind (wpAny_seqItems hol hdl ?_);simp[Int.toNat_natCast,hx]
 first|refine wpAny_bind (wpAny_rule (wpAny_bind (wpAny_setField ho hd (by simp) ?_)))|refine wpAny_bind (wpAny_setField ho hd (by simp) ?_)
 apply wpAny_bind;refine wpAny_bind (m:=firstArgMember _ _) (wpAny_of_eq (by first|rfl|(simp only;rfl)) ?_);refine wpAny_newObj_type ?_ (by size_fits);refine wpAny_bind (wpAny_handled ?_)
 first|rw[show A.in1.handled=none from hh]|rw[hh]
 refine wpAny_bind (wpAny_pure (wpAny_throw ?_));exact hE _ _ (((Heap.SameBut.update ..).extBut.push _).push _) ⟨_,Heap.get?_push_size _ rfl,rfl⟩
end
theorem zir {i:Nat}(hh:A.handled=none)(he:IsEnum s.heap e it i old)(hit:s.heap.IsTupleIter it t i)(ht:s.heap.IsTuple t items)(hx:items[i]?=none)
  (hQ:∀h',Heap.ExtBut it s.heap h'->Q none {s with heap:=h'}):wpAny (model prog w) A (pyNext (.ref e)) Q E s:=by
 have hT:s.TypeIs (.ref e) "enumerate":=⟨_,he,rfl⟩;refine wpAny_bind (wpAny_attempt (wpAny_callSpecial?_slot hT PySem.F.slot_enumerate_next
  (wpAny_call_entry PySem.F.slot_enumerate_next hT PySem.F.entry_enumerate_next ?_ (PySem.F.args_enumerate_next_1 _))))
 show wpAny _ _ (field (.ref e) 2 >>= _) _ _ _;refine wpAny_bind (wpAny_field he rfl rfl ?_);refine wpAny_bind (zek hh hit ht hx fun h' x he' hx'=>?_);obtain⟨o,ho,hc⟩:=hx';refine wpAny_bind (wpAny_isInstance ⟨o,ho,hc⟩ isSubtype_stop ?_);exact wpAny_pure (hQ _ he')
theorem zog (hh:A.handled=none)(it l:Addr)(hne:l≠it)(items:Array Value) :
  Draws prog w A it [it,l] items.size (fun i v=>items[i]?=some v) (fun i h=>h.IsTupleIter it l i/\h.IsTuple l items) where
 live:=fun _ _ st=>let ⟨o,ho,_⟩:=st.1;⟨o,ho⟩
 frame:=fun _ _ _ st hk=>⟨let ⟨o,ho,r⟩:=st.1;⟨o,hk it (by simp) o ho,r⟩,let ⟨o,ho,r⟩:=st.2;⟨o,hk l (by simp) o ho,r⟩⟩
 item:=fun i s Q E hi st hQ=>by
  refine zgC st.1 st.2 (x:=items[i]) (by simp) fun h' hit' hs'=>?_;exact hQ _ h' s.toks (by simp) ⟨hit',st.2.extBut hs'.extBut hne⟩ hs'
 done:=fun s Q E st hE=>zek hh st.1 st.2 (by simp) hE
theorem ziq (l:Addr)(items:Array Value)(n:Nat)(dct:Option Addr)(sl:Array (Option Value)) :
  Meets (Builtin.«enumerate.__new__» ⟨[.type "enumerate",.ref l],[]⟩) (fun _ R s=>s.heap.get? l=some {cls:=.type "tuple",dict:=dct,data:=.seq items n,slots:=sl}/\
   R (.ok (.ret (.ref (s.heap.push {cls:=.type "tuple_iterator",data:=.fields #[.ref l,.int 0 0]}).objs.size)))
    {s with heap:=(s.heap.push {cls:=.type "tuple_iterator",data:=.fields #[.ref l,.int 0 0]}).push {cls:=.type "enumerate",data:=.fields #[.none,.bool false,.ref s.heap.objs.size,rawInt 0,.none,.none]}}):=
 .of_wp fun prog w A R s h=>by
  obtain⟨hp,g,d,tk,os⟩:=s;obtain⟨hl,h⟩:=h;have hsub:=sub_enumerate;have hL:Heap.IsTuple (Shared.heap ⟨hp,g,d,tk,os⟩) l items:=⟨_,hl,rfl,n,rfl⟩
  wp_walk using wpAny_loadPart' hl
  refine wpAny_stack_any fun st=>wpAny_pure ?_;split
  . rename_i c _ _ _ _ _;cases (c == Value.type "enumerate")
    . wp_walk using wpAny_loadPart' hl,wpAny_pyIter_tuple hL
      exact⟨_,rfl,h⟩
    . wp_walk using wpAny_loadPart' hl,wpAny_pyIter_tuple hL
      exact⟨_,rfl,h⟩
  . wp_walk using wpAny_loadPart' hl,wpAny_pyIter_tuple hL
    exact⟨_,rfl,h⟩
theorem zgR (hL:s.heap.IsTuple l items)
  (h:∀h',IsEnum h' (s.heap.objs.size+1) s.heap.objs.size 0 .none->h'.IsTupleIter s.heap.objs.size l 0->h'.objs.size=s.heap.objs.size+2->
   (∀b o,s.heap.get? b=some o->h'.get? b=some o)->Q (.ref (s.heap.objs.size+1)) {s with heap:=h'}) :
  wpAny (model prog w) A (call (.type "enumerate") [.ref l]) Q E s:=by
 obtain⟨⟨c,dct,dt,sl⟩,hl,hc,n,hd⟩:=hL;subst hc hd;refine callType_new PySem.F.called_enumerate (by decide) (PySem.F.typeCall_enumerate_1 _) (PySem.F.newCall_enumerate_1 _) (fun obj=>PySem.F.args_object_init_2 obj _) PySem.F.entry_enumerate_new
  (ziq l items n dct sl) ⟨hl,?_⟩
 have hz:(s.heap.push {cls:=.type "tuple_iterator",data:=.fields #[.ref l,.int 0 0]}).objs.size=s.heap.objs.size+1:=Heap.size_push ..;rw[hz];have he:IsEnum ((s.heap.push {cls:=.type "tuple_iterator",data:=.fields #[.ref l,.int 0 0]}).push
   {cls:=.type "enumerate",data:=.fields #[.none,.bool false,.ref s.heap.objs.size,rawInt 0,.none,.none]}) (s.heap.objs.size+1) s.heap.objs.size 0 .none:=by
  have:=Heap.get?_push_size (s.heap.push {cls:=.type "tuple_iterator",data:=.fields #[.ref l,.int 0 0]})
   (o:={cls:=.type "enumerate",data:=.fields #[.none,.bool false,.ref s.heap.objs.size,rawInt 0,.none,.none]}) rfl
  rw[hz] at this;exact this
 refine⟨⟨_,he,rfl⟩,h _ he ⟨_,Heap.get?_push_of_some _ (Heap.get?_push_size _ rfl),rfl,rfl⟩ (by rw[Heap.size_push,hz]) fun b o x=>Heap.get?_push_of_some _ (Heap.get?_push_of_some _ x)⟩
variable [Mks]
section
variable {T:Tab} {cf:CF} {k:Nat} {N:List Str} {sc:Scope} {X:Cx} {pos p:Pos} {tg:Expr}
noncomputable def IteT (K:PySem.W.Frag)(a:Addr):It:=
 ⟨fun i H=>∃xs x,SqT K H a xs/\xs[i]?=some x,
  fun i H v H'=>∃T x,H T=none/\v=.ref T/\H'=upd H T (.tup [.int i,x])/\∀xs,SqT K H a xs->xs[i]?=some x,
  fun i H=>∃xs,SqT K H a xs/\xs.length<=i⟩
theorem zgn {K:PySem.W.Frag}(hne:e≠it)(hai:a≠it)(hae:a≠e):Turn P w K (.Tuple es j pt) (IteT K a) [e,it] e
  (fun i h=>(∃old,IsEnum h e it i old)/\h.IsTupleIter it a i) where
 mem:=by simp
 obj:=fun i h st c hc=>by
  obtain⟨⟨old,h1⟩,⟨o4,h4,_,d4⟩⟩:=st;simp at hc;rcases hc with rfl|rfl
  . exact⟨_,h1,fun v z=>by cases z⟩
  . exact⟨_,h4,fun v z=>by rw[d4] at z;cases z⟩
 keep:=fun i h h' st k=>by
  obtain⟨⟨old,h1⟩,⟨o,h4,r⟩⟩:=st;exact⟨⟨old,k e (by simp) _ h1⟩,⟨o,k it (by simp) o h4,r⟩⟩
 item:=by
  intro X hP hw hK hc i pins s σ H E I hf st hg;subst hP hw hK;obtain⟨xs,x,hq,hx⟩:=hg;obtain⟨xv,rx,px,_⟩:=I.tuple hq;obtain⟨u,hu,ru⟩:=rx.get hx;obtain⟨⟨old,he⟩,h1⟩:=st;have hlt:i<xv.length:=(List.getElem?_eq_some_iff.mp hu).1;refine wpAny_pyNext_enum_itemD (zog (A:=X.A.in1) (I.ok.hd hc) it a hai xv.toArray) he ⟨h1,px⟩ (by simpa using hlt) hne (by simp[hne,Ne.symm hae]) fun x' h' tk0 hx' a1 a3 a5 a6 hk=>?_;have ex:x'=u:=by
   have hu':xv.toArray[i]?=some u:=by simpa using hu
   rw[hu'] at hx';exact (Option.some.inj hx').symm
  subst ex;have hn:H s.heap.objs.size=none:=I.hok.fresh (le_refl _);have I1:Inv X pins σ (upd H s.heap.objs.size (.tup [.int i,x])) {s with heap:=s.heap.push {cls:=.type "tuple",data:=.seq #[.int i tk0,x']},toks:=tk0+1}:=
   I.laid (t':=tk0+1) (fun b u e=>Heap.get?_push_of_some _ e) (le_refl _) ⟨by rw[sizeLine_eq];simp,[.int i tk0,x'],.cons ⟨_,rfl⟩ (.cons ru .nil),⟨_,Heap.get?_push_size _ rfl,rfl,_,rfl⟩⟩
  have lt:∀{c o},s.heap.get? c=some o->c≠s.heap.objs.size:=fun e=>ne_of_lt (Heap.lt_size e);have nf:∀c∈[e,it],c≠s.heap.objs.size:=by
   intro c hc;simp at hc;rcases hc with rfl|rfl
   . exact lt he
   . obtain⟨o,z,_⟩:=h1;exact lt z
  have hf1:∀c∈[e,it],FpOk X pins (upd H s.heap.objs.size (.tup [.int i,x])) c:=fun c hc=>by
   obtain⟨f0,f⟩:=hf c hc;exact⟨by rw[zah (nf c hc)];exact f0,f⟩
  have two:∀{c:Addr},¬c∈[e,it]->c≠e/\c≠it:=fun {c} hc=>by
   simp at hc;exact hc
  have k2:∀c o,¬c∈[e,it]->(s.heap.push {cls:=.type "tuple",data:=.seq #[.int i tk0,x']}).get? c=some o->h'.get? c=some o:=fun c o hc z=>by
   by_cases hs:c=s.heap.objs.size
   . subst hs;have e2:(s.heap.push {cls:=.type "tuple",data:=.seq #[.int i tk0,x']}).get? s.heap.objs.size=_:=Heap.get?_push_size _ rfl;rw[e2] at z;cases z;exact a5
   . exact hk c o (two hc).1 (two hc).2 ((Heap.get?_push_ne _ _ _ hs).symm.trans z)
  have I2:Inv X pins σ (upd H s.heap.objs.size (.tup [.int i,x])) {s with heap:=h',toks:=tk0+1}:=za3 (s:={s with heap:=s.heap.push {cls:=.type "tuple",data:=.seq #[.int i tk0,x']},toks:=tk0+1}) (h':=h') (t':=tk0+1) I1 k2 hf1;refine⟨_,rfl,?_⟩;refine wpAny_letOwnedTupleGo_enum a1 fun h2' hz' hs'=>?_;refine⟨.ref s.heap.objs.size,upd H s.heap.objs.size (.tup [.int i,x]),za3 (t':=tk0+1) I2 (fun c o hc z=>hs'.extBut _ _ (two hc).1 z) hf1,rfl,⟨_,x,hn,rfl,rfl,fun xs' hx'=>by rw[I.tuple_inj hx' hq];exact hx⟩,
   ⟨⟨_,hz'⟩,(let ⟨o,ho,r⟩:=a3.1;⟨o,hs'.extBut _ _ (Ne.symm hne) ho,r⟩)⟩,fun c hc=>(hf1 c hc).1⟩
 done:=by
  intro X hP hw hK hc i pins s σ H E I hf st hg;subst hP hw hK;obtain⟨xs,hq,hl⟩:=hg;obtain⟨xv,rx,px,_⟩:=I.tuple hq;obtain⟨⟨old,he⟩,h1⟩:=st;have l1:=rx.length;refine zir (I.ok.hd hc) he h1 px (by simp;omega) fun h' hk=>⟨rfl,za3 (t':=s.toks) I (fun c o hc z=>hk c o (fun q=>hc (by simp[q])) z) hf⟩
 self:=fun _ _ _ _ _ st h=>wpAny_pyIter_enum st.1.choose_spec h
def zn4 (K:PySem.W.Frag)(t:TA):TI:=fun σ H R=>t σ H fun vs H1=>∃a xs,vs=[.ref a]/\((SqL K H1 a xs/\R (Ite K a) H1)\/(SqT K H1 a xs/\R (IteT K a) H1))
theorem zjo (hg:Gl X "enumerate")(hm:X.mg "enumerate"=none)(ha:PA X [a] ta)(hs:starEach [a] X.env=[(false,eval a X.env)]) :
  PI X (.Tuple es j pt) (.Call (.Name "enumerate" p) [a] [] pos) (zn4 X.K ta):=by
 intro pins s σ H R I h;refine Call_ (zeo I hg hm boot_enumerate (PyProof.Rows.callWith_type1 (thn (ha pos pins s σ H _ I h) fun us s1 ⟨vs,H1,I1,r1,q1⟩=>?_) hs rfl));obtain⟨l,xs,e,q1⟩:=q1;subst e;cases r1 with
 | cons r rr=>
   cases rr;cases r;rcases q1 with ⟨q1,q⟩|⟨q1,q⟩
   . obtain⟨xv,rx,px,_⟩:=I1.list q1;refine call_enumerate_list px.isList fun h' he hi hsz hk=>?_;apply wpAny_pyIter_enum he;refine⟨_,_,_,_,H1,rfl,I1.kept (t':=s1.toks) hk,zhb (Nat.succ_ne_self _),⟨⟨_,he⟩,hi⟩,fun c hc=>?_,q⟩;simp at hc;have:s1.heap.objs.size<=c:=by
      rcases hc with rfl|rfl
      . exact le_succ _
      . exact le_refl _
     exact I1.fpOk this (I1.hok.fresh this)
   . obtain⟨xv,rx,px,_⟩:=I1.tuple q1;have hlt:l<s1.heap.objs.size:=px.lt;refine zgR px fun h' he hi hsz hk=>?_;apply wpAny_pyIter_enum he;refine⟨_,_,_,_,H1,rfl,I1.kept (t':=s1.toks) hk,zgn (Nat.succ_ne_self _) (ne_of_lt hlt) (ne_of_lt (lt_succ_of_lt hlt)),⟨⟨_,he⟩,hi⟩,fun c hc=>?_,q⟩;simp at hc;have:s1.heap.objs.size<=c:=by
      rcases hc with rfl|rfl
      . exact le_succ _
      . exact le_refl _
     exact I1.fpOk this (I1.hok.fresh this)
theorem ziR {K:PySem.W.Frag}(ha:H a=some (.tup xs))(rx:RVs K ι H ds xs):Wk K (IteT K a) (ds.mapIdx fun i d=>zcL (.int i) d) [] ι H S:=by
 have get:∀{ι2 H2 S2},Ltr K ι H S [] ι2 H2 S2->SqT K H2 a xs/\RVs K ι2 H2 ds xs:=fun {ι2 H2 S2} lt=>⟨SqT.of (lt.ext.kp.tups _ _ ha),rx.ext lt.ext⟩;refine⟨fun i ι2 H2 S2 lt hi=>?_,fun i ι2 H2 S2 x H' lt hi y=>?_,fun i ι2 H2 S2 lt hi=>?_,fun k hk=>by cases hk⟩
 . obtain⟨hx,rx⟩:=get lt;rw[length_mapIdx] at hi;have h1:=rx.length;exact⟨xs,xs[i]'(by omega),hx,List.getElem?_eq_getElem _⟩
 . obtain⟨hx,rx⟩:=get lt;obtain⟨T,u,hT,rfl,rfl,y1⟩:=y;obtain⟨d,ed,rd⟩:=rx.get' (y1 xs hx);have x2:Ext ι2 H2 ι2 (upd H2 T (.tup [.int i,u])):=Ext.new hT _;refine⟨x2,lt.rh.new hT _,zcL (.int i) d,by rw[List.getElem?_mapIdx,ed];rfl,?_⟩;exact⟨T,[.int i,u],rfl,zai,.int i,[u],rfl,rfl,u,[],rfl,rd.ext x2,rfl⟩
 . obtain⟨hx,rx⟩:=get lt;rw[length_mapIdx] at hi;have h1:=rx.length;exact⟨xs,hx,by omega⟩
theorem zgN (h:zcV S x=some r):(∃l ds,x=.ref l/\S.get l=some (.lst ds)/\r=(ds.mapIdx fun i d=>zcL (.int i) d,[l]))\/∃ds,x=.tup ds/\r=(ds.mapIdx fun i d=>zcL (.int i) d,[]):=by
 unfold zcV at h;cases x with
 | ref l=>
   dsimp only at h;cases e:S.get l with
   |none=>rw[e] at h;cases h
   | some o=>
     rw[e] at h;cases o with
     |lst ds=>cases h;exact .inl ⟨l,ds,rfl,e,rfl⟩
     |_=>cases h
 |tup ds=>cases h;exact .inr ⟨ds,rfl,rfl⟩
 |_=>cases h
theorem zkX (hg:Gl X "enumerate"/\X.mg "enumerate"=none)(ha:PE X a (tE X.K cf ca))(hst:zaj a=true):PI X (.Tuple es j pt) (.Call (.Name "enumerate" p) [a] [] pos) (tI X.K cf (.enum ca)):=by
 refine PI.imp (zjo hg.1 hg.2 (za8 ha hst) (zak hst [] X.env)) fun σ H R ⟨δ,ι,S,Q,hs,hh,w,q⟩=>?_;simp[evL,zaa] at w;refine tE.run hs hh w fun d v ι1 H1 S1 x1 hs1 hh1 r1 w1=>?_;obtain⟨r,ez,w3⟩:=zaC w1;rcases zgN ez with ⟨l,ds,rfl,hl,rfl⟩|⟨ds,rfl,rfl⟩
 . obtain⟨a,ea,rfl⟩:=r1;obtain⟨a',h2,xs,hx,rx⟩:=hh1.obj l _ hl;rw[ea] at h2;cases h2;exact⟨a,xs,rfl,.inl ⟨SqL.of hx,q _ _ ⟨_,_,ι1,S1,x1,hh1,w3,zkH hl ea⟩⟩⟩
 . obtain⟨a,xs,rfl,hx,rx⟩:=r1;exact⟨a,xs,rfl,.inr ⟨SqT.of hx,q _ _ ⟨_,_,ι1,S1,x1,hh1,w3,ziR hx rx⟩⟩⟩
end
end R
end
section
namespace R
open PySem PySem.Spec PyProof.Rows L2
variable [Mks]
section
variable {T:Tab} {cf:CF} {k:Nat} {N:List Str} {sc:Scope} {X:Cx} {pos p:Pos}
theorem zhP {α:Type}[BEq α]{xs:List α}{a:α}(h:xs.contains a=true):xs≠[]:=fun e=>by rw[e] at h;simp at h
theorem Gd.clsAt (G:Gd T cf k N sc X)(h0:T.flds≠[]\/T.inits≠[]\/T.isas≠[]){c:Nat}(h:Mks.cl[c]?=some C):∃x,T.cls[c]?=some x/\Cls X.K C/\X.mg x=some (.ref C)/\∀f,T.flds.contains f=true->NoAttr X.K C f:=by
 have hl:c<T.cls.length:=lt_of_lt_of_le (List.getElem?_eq_some_iff.mp h).1 (G.tab.cln h0);obtain⟨C',h1,h2,h3,h4⟩:=G.tab.cls c T.cls[c] (List.getElem?_eq_getElem hl);rw[h] at h1;cases h1;exact⟨_,List.getElem?_eq_getElem hl,h2,h3,h4⟩
theorem zjG
  (hbase:attributeBase o name env (eval o env)=eval o env)
  (hfew:((backTo pos (starEach args env)).all (fun x=>!x.1)&&(backToKw pos (keywordEach [] env)).all (fun x=>x.1.isSome)
   && decide (args.length+([]:List Keyword).length+(if ([]:List Keyword).isEmpty then 0 else 1)<30))=true)
  (hline:(apos.endLine == pos.line)=true)
  (h:wpAny (model prog w) A (eval o env) (fun ov s₁=>∀pl,wpAny (model prog w) A (getMethod ov name pl) (fun fx s₂=>wpAny (model prog w) A (callWith pos fx.1 fx.2 (backTo pos (starEach args env)) (backToKw pos (keywordEach [] env))) Q E s₂) E s₁) E s) :
  wpAny (model prog w) A (eval (.Call (.Attribute o name apos) args [] pos) env) Q E s:=by
 rw[arm_eval_Call,hbase];refine wpAny_bind (wpAny_mono h (fun ov s₁ h₁=>?_) fun _ _ e=>e);refine wpAny_bind (wpAny_standAt ?_);have hform:methodCallForm (args.length+([]:List Keyword).length) (backTo pos (starEach args env)) (backToKw pos (keywordEach [] env))=true:=hfew;have hpos:methodCallPos true o env apos pos=pure pos:=by unfold methodCallPos;simp[hline]
 unfold methodCall;rw[hform];refine wpAny_bind (wpAny_holding (wpAny_mono (h₁ _) (fun fx s₂ h₂=>?_) fun _ _ e=>e));exact wpAny_bind (wpAny_of_eq hpos h₂)
theorem zjF (hc:ces=.nil)(h:tAs X.K cf ces σ H Qa):tNil σ H Qa:=by
 subst hc;obtain⟨δ,ι,S,Q,hs,hh,w,q⟩:=h;exact q [] H ⟨[],ι,S,Ext.refl _ _,rfl,hh,by simpa[evEs] using w⟩
theorem Vals.nons:∀j:Nat,Vals (List.replicate j .non) (List.replicate j Value.none)
 |0=>.nil
 |j+1=>.cons rfl (Vals.nons j)
theorem zfN (G:Gd T cf k N sc X)(hC:Mks.cl[c]?=some C)(ht:∀{σ:L2.St} {H:Hp} {Qa:List V->Hp->Prop},tAs X.K cf ces σ H Qa->t σ H Qa)(h:tE X.K cf (.mk c f x j ces) σ H Qv):zkO C (spF X.K cf f) (List.replicate j V.non) E0 t σ H Qv:=by
 obtain⟨δ,ι,S,Q,hs,hh,w,q⟩:=h;simp[evE,zaa] at w;refine ht (tAs.run hs hh w fun ds vs ι1 H1 S1 x1 hs1 hh1 r1 w1=>?_);intro y dy hy hdy hne;have hh2:=hh1.new hdy (.own y);have x2:Ext ι1 H1 ι1 (upd H1 dy (.own y)):=Ext.new hdy _;have hy2:(upd H1 dy (.own y)) y=none:=by rw[zah (Ne.symm hne)];exact hy
 have hh3:=hh2.obj' hy2 (.ins C dy []) (.ins c []) ⟨C,dy,[],hC,zai,rfl⟩;have x3:Ext ι1 (upd H1 dy (.own y)) (ι1++[y]) (upd (upd H1 dy (.own y)) y (.ins C dy [])):=Ext.obj hh2 hy2 _;unfold appW at w1;obtain⟨d,T',e,w2⟩:=zg1 w1;refine⟨ι1++[y],S1.push (.ins c []),.ref S1.len::(ds++List.replicate j .non),⟨.ref y,_,rfl,⟨y,hh2.last y,rfl⟩,RVs.append ((r1.ext x2).ext x3) (RVs.nons j)⟩,hh3,?_⟩;rw[e];intro v H' ι' x' r hT;split at w2
 . rename_i hn;cases d with
   | non=>
     refine⟨r,q _ _ ⟨.ref S1.len,ι',T',((x1.trans x2).trans x3).trans x',⟨y,zbV x'.pre (hh2.last y),rfl⟩,hT,w2⟩⟩
   |_=>cases hn
 . exact w2.elim
theorem zoW (G:Gd T cf k N sc X)(hi:T.inits.contains (c,f,j)=true)(hx:T.cls[c]?=some x)(hg:isGl sc x=true)(hd:(x == ("__debug__":Str))=false)(ha:PA X (e::es) (tAs X.K cf ces))(hst:(e::es).all zaj=true) :
  PE X (.Call (.Name x p) (e::es) [] pos) (tE X.K cf (.mk c f x j ces)):=by
 obtain⟨C,fa,fd,ps,hC,M,F,hb⟩:=(G.tab.ini c f j hi).ex;obtain⟨x',e1,_,hm,_⟩:=G.clsAt (.inr (.inl (zhP hi))) hC;rw[hx] at e1;cases e1;rw[all_cons,and_eq_true] at hst;exact PE.imp (zlw M F G.room' (G.gl hg) hm hb (Vals.nons j) zjz ha hd (zak hst.1 es X.env) (zaM hst.2)) fun σ H Qv h=>zfN G hC (fun z=>z) h
theorem zmW (G:Gd T cf k N sc X)(hi:T.inits.contains (c,f,j)=true)(hx:T.cls[c]?=some x)(hg:isGl sc x=true)(hd:(x == ("__debug__":Str))=false) :
  PE X (.Call (.Name x p) [] [] pos) (tE X.K cf (.mk c f x j .nil)):=by
 obtain⟨C,fa,fd,ps,hC,M,F,hb⟩:=(G.tab.ini c f j hi).ex;obtain⟨x',e1,_,hm,_⟩:=G.clsAt (.inr (.inl (zhP hi))) hC;rw[hx] at e1;cases e1;exact PE.imp (zjt M F G.room' (G.gl hg) hm hb (Vals.nons j) zjz hd) fun σ H Qv h=>zfN G hC (fun z=>zjF rfl z) h
theorem zn9 (hs:(e::es).all zaj=true)(hn:(e::es).length<29):((backTo pos (starEach (e::es) env)).all (fun x=>!x.1)&&(backToKw pos (keywordEach [] env)).all (fun x=>x.1.isSome)
  && decide ((e::es).length+([]:List Keyword).length+(if ([]:List Keyword).isEmpty then 0 else 1)<30))=true:=by
 have h0:=zaM (pos:=pos) (env:=env) hs;have h1:(backTo pos (starEach (e::es) env)).all (fun x=>!x.1)=true:=by
  rw[all_eq_true];intro x hx;have:=List.any_eq_false.mp h0 x hx;simpa using this
 have h2:decide ((e::es).length+([]:List Keyword).length+(if ([]:List Keyword).isEmpty then 0 else 1)<30)=true:=by
  rw[decide_eq_true_eq];show (e::es).length+0+0<30;omega
 rw[h1,h2];rfl
end
end R
end
section
namespace R
open PySem PySem.Spec PyProof.Rows L2
variable [Mks]
def LfS (X:Cx)(ι:List Addr)(H:Hp)(Q:Fl->R.St->Prop)(E:Ends):Prop:=∀f ι' H' S',Ext ι H ι' H'->RH X.K ι' H' S'->Q f S'->(match f with
 |.nx δ'=>∀σ',RS X.K ι' H' δ' σ'->E.nx σ' H'
 |.rt d=>∀v,RV X.K ι' H' d v->E.rt v H'
 |.ex d=>∀a σ' pins s',RV X.K ι' H' d (.ref a)->Inv X pins σ' H' s'->Fly X.s₀.heap.objs.size H' s'.heap a->X.xe (.ref a) s')
def tS (X:Cx)(cf:CF)(cs:CS):TS:=fun E σ H=>∃δ ι S Q,RS X.K ι H δ σ/\RH X.K ι H S/\W (exS cf cs δ S) Q/\LfS X ι H Q E
theorem LfS.up (h:LfS X ι H Q E)(x:Ext ι H ι1 H1):LfS X ι1 H1 Q E:=fun f ι' H' S' x' hh q=>h f ι' H' S' (x.trans x') hh q
theorem PS.imp {st:Stmt}(h:PS X st t)(i:∀E σ H,t' E σ H->t E σ H):PS X st t':=fun pins s σ H E I q=>h pins s σ H E I (i E σ H q)
theorem PSs.imp {st:List Stmt}(h:PSs X st t)(i:∀E σ H,t' E σ H->t E σ H):PSs X st t':=fun pins s σ H E I q=>h pins s σ H E I (i E σ H q)
section
variable {T:Tab} {cf:CF} {k:Nat} {N:List Str} {sc:Scope} {X:Cx} {pos p:Pos} {rest:List Stmt}
theorem zmK:PSs X [] (tS X cf .nil):=PSs.imp zdG fun E σ H ⟨δ,ι,S,Q,hs,hh,w,l⟩=>by
 exact l _ ι H S (Ext.refl _ _) hh w σ hs
theorem zmN (G:Gd T cf k N sc X)(hi:N[i]?=some x)(hl:zb4 sc x=true)(he:PE X e (tE X.K cf ce))(hc:zbe e=true)(hr:PSs X rest (tS X cf r)) :
  PSs X (.Assign [.Name x p] e pos::rest) (tS X cf (.asg i ce r)):=by
 refine PSs.imp (zat (zeg (by rw[G.nm];exact G.nd) (by rw[G.nm];exact hi) (G.lc hl).1 he (zbU hc _ _ _) (G.lc hl).2) hr) fun E σ H ⟨δ,ι,S,Q,hs,hh,w,l⟩=>?_;simp[exS,zaa] at w;refine tE.run hs hh w fun d v ι1 H1 S1 x1 hs1 hh1 r1 w1=>?_;exact⟨δ.set i (some d),ι1,S1,Q,hs1.set r1 i,hh1,w1,l.up x1⟩
theorem zkU (G:Gd T cf k N sc X)(hi:N[i]?=some x)(hps:∃t,PS X (.Assign [.Name x p] e pos) (tAsg t (zeq i))/\∀σ H Qv,tE X.K cf ce σ H Qv->t σ H Qv)(hr:PSs X rest (tS X cf r)) :
  PSs X (.Assign [.Name x p] e pos::rest) (tS X cf (.asg i ce r)):=by
 obtain⟨t,hp,ht⟩:=hps;refine PSs.imp (zat hp hr) fun E σ H ⟨δ,ι,S,Q,hs,hh,w,l⟩=>?_;simp[exS,zaa] at w;refine ht _ _ _ (tE.run hs hh w fun d v ι1 H1 S1 x1 hs1 hh1 r1 w1=>?_);exact⟨δ.set i (some d),ι1,S1,Q,hs1.set r1 i,hh1,w1,l.up x1⟩
theorem zkR (he:PE X e (tE X.K cf ce))(hc:zbe e=true)(hr:PSs X rest (tS X cf r)):PSs X (.Expr e pos::rest) (tS X cf (.expr ce r)):=by
 refine PSs.imp (zat (ze4 he (zbU hc _ _ _)) hr) fun E σ H ⟨δ,ι,S,Q,hs,hh,w,l⟩=>?_;simp[exS,zaa] at w;refine tE.run hs hh w fun d v ι1 H1 S1 x1 hs1 hh1 r1 w1=>?_;exact⟨δ,ι1,S1,Q,hs1,hh1,w1,l.up x1⟩
theorem zmJ (he:PE X e (tE X.K cf ce))(hr:PSs X rest (tS X cf r)):PSs X (.Return (some e) pos::rest) (tS X cf (.ret ce r)):=by
 refine PSs.imp (zat (znj he) hr) fun E σ H ⟨δ,ι,S,Q,hs,hh,w,l⟩=>?_;simp[exS,zaa] at w;refine tE.run hs hh w fun d v ι1 H1 S1 x1 hs1 hh1 r1 w1=>?_;exact l _ _ _ _ x1 hh1 w1 v r1
theorem zoS (hc:PT X c (tT X.K cf cc))(ha:PSs X a (tS X cf ca))(hb:PSs X b (tS X cf cb))(hr:PSs X rest (tS X cf r)):PSs X (.If c a b pos::rest) (tS X cf (.ifS cc ca cb r)):=by
 refine PSs.imp (zat (znk hc ha hb) hr) fun E σ H ⟨δ,ι,S,Q,hs,hh,w,l⟩=>?_;simp[exS,zaa] at w;refine tT.run hs hh w fun z ι1 H1 S1 x1 hs1 hh1 w1=>?_;have fin:LfS X ι1 H1 (fun f S2=>W (match f with|.nx δ'=>exS cf r δ' S2|.rt d=>.ok (.rt d) S2|.ex d=>.ok (.ex d) S2) Q) {E with nx:=tS X cf r E}:=by
  intro f ι2 H2 S2 x2 hh2 q;cases f with
  |nx δ'=>exact fun σ' hs'=>⟨δ',ι2,S2,Q,hs',hh2,q,(l.up x1).up x2⟩
  |rt d=>exact fun v rv=>(l.up x1) _ _ _ _ x2 hh2 q v rv
  |ex d=>exact (l.up x1) _ _ _ _ x2 hh2 q
 cases z with
 |true=>exact⟨δ,ι1,S1,_,hs1,hh1,w1,fin⟩
 |false=>exact⟨δ,ι1,S1,_,hs1,hh1,w1,fin⟩
def FInv (K:PySem.W.Frag)(cf:CF)(g:List Nat)(b:CS)(Qf:Fl->R.St->Prop)(ds:List D)(lks:List Nat)(ι1:List Addr)(H1:Hp)(S1:R.St)(i:Nat)(σ':L2.St)(H':Hp):Prop:=
 i<=ds.length/\∃δ' ι' S',RS K ι' H' δ' σ'/\Ltr K ι1 H1 S1 lks ι' H' S'/\S'.lk=lks++S1.lk/\S1.len<=S'.len/\W (zbi g (exS cf b) (ds.drop i) δ' S') fun f S2=>Qf f {S2 with lk:=S1.lk}
theorem zmL (G:Gd T cf k N sc X)(hi:PI X tg iter (tI X.K cf it))(hg:PG X tg (tG X.K is))(hb:PSs X body (tS X cf cb))(hset:zaN iter=true)(hr:PSs X rest (tS X cf r)) :
  PSs X (.For tg iter body [] pos::rest) (tS X cf (.forS is it cb r)):=by
 have hp:PassesOwn (model X.prog X.w) X.A X.env X.xe:=G.xe;refine PSs.imp (zat (znl hp G.calm hi hg hb (zdU hset X.env)) hr) fun E σ H ⟨δ,ι,S,Q,hs,hh,w,l⟩=>?_;simp[exS,zaa] at w;refine⟨δ,ι,S,_,hs,hh,w,fun J H1 ⟨ds,lks,ι1,S1,x1,hh1,w1,wk⟩=>?_⟩;dsimp only at w1;unfold zbB at w1;rw[zaa] at w1;refine⟨fun i m σ' H'=>m=ds.length - i/\FInv X.K cf is cb (fun f S2=>W (match f with|.nx δ'=>exS cf r δ' S2|.rt d=>.ok (.rt d) S2|.ex d=>.ok (.ex d) S2) Q) ds lks ι1 H1 S1 i σ' H',⟨_,rfl,zero_le _,δ,ι1,{S1 with lk:=lks++S1.lk},hs.ext x1,⟨Ext.refl _ _,hh1.lk _,fun l _=>rfl⟩,rfl,le_refl _,w1⟩,?_⟩;rintro i m σ' H' ⟨rfl,hle,δ',ι',S',hs',lt,hlk,hln,wt⟩;have l1:=l.up (x1.trans lt.ext);rcases Nat.lt_or_eq_of_le hle with hlt|rfl
 . refine .inr ⟨wk.go i ι' H' S' lt hlt,FInv X.K cf is cb _ ds lks ι1 H1 S1 (i+1),fun σ2 H2 h=>⟨_,by omega,rfl,h⟩,fun x H2 hy=>?_⟩;obtain⟨x2,hh2,d,hd,rd⟩:=wk.yld i ι' H' S' x H2 lt hlt hy;rw[zcW hd] at wt;simp[zbi] at wt;cases ea:asgG is d δ' with
   |none=>rw[ea] at wt;exact wt.elim
   | some δ2=>
     rw[ea] at wt;rw[zaa] at wt;refine⟨δ',ι',d,δ2,hs'.ext x2,rd,ea,fun σ2 hs3=>⟨δ2,ι',S',_,hs3,hh2,zbZ G.tab.frm cb δ2 S' _ wt,?_⟩⟩;rintro f ι3 H3 S3 x3 hh3 ⟨w3,f3⟩;have k1:S3.lk=lks++S1.lk:=f3.lk.trans hlk;have k3:∀l∈lks,S3.get l=S1.get l:=fun l hl=>(f3.same l (by rw[hlk];exact mem_append_left _ hl) (lt_of_lt_of_le (wk.lks l hl) hln)).trans (lt.lck l hl);cases f with
     |nx δ3=>exact fun σ3 hs4=>⟨hlt,δ3,ι3,S3,hs4,⟨(lt.ext.trans x2).trans x3,hh3,k3⟩,k1,le_trans hln f3.lens,w3⟩
     |rt z=>exact fun v rv=>l1 _ _ _ _ (x2.trans x3) (hh3.lk _) w3 v rv
     |ex z=>exact l1 _ _ _ _ (x2.trans x3) (hh3.lk _) w3
 . refine .inl ⟨wk.stop _ ι' H' S' lt (le_refl _),?_⟩;rw[List.drop_length] at wt;exact⟨δ',ι',{S' with lk:=S1.lk},Q,hs',lt.rh.lk _,wt,l1⟩
def zpD (H:Hp)(a:Addr)(y v:V)(H':Hp):Prop:=∃xs k j,H a=some (.lst xs)/\y=.int k/\L2.ixN xs.length k=some j/\H'=upd H a (.lst (xs.set j v))
def znd (td ty tv:TE):TS:=fun D σ H=>tv σ H fun v H1=>td σ H1 fun x H2=>ty σ H2 fun y H3=>∃a H4,x=.ref a/\zpD H3 a y v H4/\D.nx σ H4
theorem zjj (hu:X.A.units+5<cLine)(ho:PE X o td)(hi:PE X i ty)(hv:PE X value tv)(hs:swapsWith value (some (.Subscript o i pos')) pos.line X.env=pure false) :
  PS X (.Assign [.Subscript o i pos'] value pos) (znd td ty tv):=by
 intro pins s σ H D I h;refine wpAny_Assign_Subscript (thn (hv pins s σ H _ I h) fun r s1 ⟨v,H1,I1,rv,q1⟩=>thn (ho pins s1 σ H1 _ I1 q1) fun u s2 ⟨x,H2,I2,rx,q2⟩=>thn (hi pins s2 σ H2 _ I2 q2) fun iv s3 ⟨y,H3,I3,ry,a,H4,ex,g,q3⟩=>?_) hs;subst ex;obtain rfl:u=Value.ref a:=rx;obtain⟨xs,k,j,e,ey,ej,rfl⟩:=g;exact wpAny_mono (zi2 pins s3 σ H3 (.ref a) y v (.ref a) iv r (fun H'=>D.nx σ H') I3 rfl ry rv ⟨a,xs,k,j,rfl,ey,e,ej,q3⟩) (fun _ s4 ⟨H',I4,q⟩=>⟨σ,H',I4,q⟩) fun _ _ z=>z
theorem ziX (G:Gd T cf k N sc X)(ha:PE X a (tE X.K cf ca))(hb:PE X b (tE X.K cf cb))(he:PE X e (tE X.K cf ce))(hc:zbe e=true)(hr:PSs X rest (tS X cf r)) :
  PSs X (.Assign [.Subscript a b p] e pos::rest) (tS X cf (.setIx ca cb ce r)):=by
 refine PSs.imp (zat (zjj (by have:=G.hu;omega) ha hb he (zbU hc _ _ _)) hr) fun E σ H ⟨δ,ι,S,Q,hs,hh,w,l⟩=>?_;simp[exS,zaa] at w;refine tE.run hs hh w fun d v ι1 H1 S1 x1 hs1 hh1 r1 w1=>?_;refine tE.run hs1 hh1 w1 fun x vx ι2 H2 S2 x2 hs2 hh2 r2 w2=>?_;refine tE.run hs2 hh2 w2 fun y vy ι3 H3 S3 x3 hs3 hh3 r3 w3=>?_;cases ed:dPut S3 x y d with
 |none=>rw[ed] at w3;exact w3.elim
 | some S4=>
   rw[ed] at w3;unfold dPut at ed;cases x with
   | ref i=>
     obtain⟨p,h1,rfl⟩:=r2.ext x3;dsimp only at ed;cases e:S3.get i with
     |none=>rw[e] at ed;cases ed
     | some ob=>
       rw[e] at ed;obtain⟨b,h2,h3⟩:=hh3.obj _ _ e;rw[h1] at h2;cases h2;cases ob with
       | lst ds=>
         obtain⟨xs,ha,rx⟩:=h3;cases y with
         | int k=>
           obtain rfl:vy=.int k:=r3;dsimp [zdR,bind_some] at ed;cases ej:R.ixN ds.length k with
           |none=>rw[ej] at ed;cases ed
           | some j=>
             rw[ej,bind_some] at ed;have rv:=r1.ext (x2.trans x3);have xw:=Ext.wr hh3 e h1 (.lst (xs.set j v));refine⟨p,_,rfl,⟨xs,k,j,ha,rfl,by rw[rx.length];exact ej,rfl⟩,δ,ι3,S4,Q,hs3.ext xw,hh3.wr e h1 ed ⟨_,zai,?_⟩,w3,l.up (((x1.trans x2).trans x3).trans xw)⟩;exact (RVs.set rv j rx).up xw.pre xw.kp
         |_=>cases ed
       |_=>cases ed
   |_=>cases ed
theorem zkQ (G:Gd T cf k N sc X)(hf:T.flds.contains f=true)(ha:PE X a (tE X.K cf ca))(he:PE X e (tE X.K cf ce))(hc:zbe e=true)(hr:PSs X rest (tS X cf r)) :
  PSs X (.Assign [.Attribute a f p] e pos::rest) (tS X cf (.setF ca f ce r)):=by
 refine PSs.imp (zat (zkm ha he (zbU hc _ _ _)) hr) fun E σ H ⟨δ,ι,S,Q,hs,hh,w,l⟩=>?_;simp[exS,zaa] at w;refine tE.run hs hh w fun d v ι1 H1 S1 x1 hs1 hh1 r1 w1=>?_;refine tE.run hs1 hh1 w1 fun x vx ι2 H2 S2 x2 hs2 hh2 r2 w2=>?_;cases ed:zbd S2 x f d with
 |none=>rw[ed] at w2;exact w2.elim
 | some S3=>
   rw[ed] at w2;unfold zbd at ed;cases x with
   | ref i=>
     obtain⟨b,h1,rfl⟩:=r2;dsimp only at ed;cases eo:S2.get i with
     |none=>rw[eo] at ed;cases ed
     | some ob=>
       rw[eo] at ed;cases ob with
       | ins c fs=>
         obtain⟨b',h2,C,dx,ws,hC,hb,rf⟩:=hh2.obj _ _ eo;rw[h1] at h2;cases h2;dsimp only at ed;split at ed
         . rename_i c2;obtain⟨_,_,cl,_,na⟩:=G.clsAt (.inl (zhP hf)) hC;have rv:=r1.ext x2;have xw:=Ext.wr hh2 eo h1 (.ins C dx (putF f v ws));refine⟨b,C,dx,ws,rfl,hb,cl,na f hf,by rw[rf.length];exact c2,δ,ι2,S3,Q,hs2.ext xw,hh2.wr eo h1 ed ⟨C,dx,_,hC,zai,(rf.put f rv).up xw.pre xw.kp⟩,w2,l.up ((x1.trans x2).trans xw)⟩
         . cases ed
       |_=>cases ed
   |_=>cases ed
theorem zkT (G:Gd T cf k N sc X)(hn:zbQ sc N is es=true)(h2:2<=is.length)(he:PE X e (tE X.K cf ce))(hx:(∃x q,e=.Name x q)\/∃f as ks q,e=.Call f as ks q)(hr:PSs X rest (tS X cf r)) :
  PSs X (.Assign [.Tuple es j p] e pos::rest) (tS X cf (.asgT is ce r)):=by
 have hs:swapsWithSole [.Tuple es j p] e pos.line X.env=pure false:=by rcases hx with ⟨x,q,rfl⟩|⟨f,as,ks,q,rfl⟩<;>rfl
 have hw:swappedStores [.Tuple es j p] e X.env=pure none:=by rcases hx with ⟨x,q,rfl⟩|⟨f,as,ks,q,rfl⟩<;>rfl
 refine PSs.imp (zat (znm he (zke G hn h2) hs hw) hr) fun E σ H ⟨δ,ι,S,Q,hs,hh,w,l⟩=>?_;simp[exS,zaa] at w;refine tE.run hs hh w fun d v ι1 H1 S1 x1 hs1 hh1 r1 w1=>?_;obtain⟨δ2,ea,w2⟩:=zaC w1;exact⟨δ,ι1,d,δ2,hs1,r1,ea,fun σ' hs'=>⟨δ2,ι1,S1,Q,hs',hh1,w2,l.up x1⟩⟩
end
end R
end
section
namespace R
open PySem PySem.Spec PyProof.Rows L2
variable [Mks]
theorem zfi {K:PySem.W.Frag}{id:String}{rest:List Expr}
  (h:wpAny M A (spliced (backTo pos (starEach (e::rest) env))) (fun vs s1=>K.In s1.heap/\wpAny M A (call (.builtin id) ([]++vs)) Q E s1) E s)
  (he:starEach (e::rest) env=(false,eval e env)::starEach rest env) (hp:(backTo pos (starEach rest env)).any (·.1)=false) :
  wpAny M A (callWith pos (.builtin id) [] (backTo pos (starEach (e::rest) env)) []) Q E s:=by
 rw[he] at h⊢;refine PySem.W.callWith_of (by show ((false || (backTo pos (starEach rest env)).any (·.1)) || false)=false;rw[hp];rfl) (fun _ _=>⟨.machine,.inr (.inl rfl),.now⟩) (Calls.evalArgs_plain h)
section
variable {X:Cx} {xR y f:Str} {fI:Addr}
theorem zlx (u:XUp X.K X.mg xR)(hg:Gl X xR)(hdb:(xR == ("__debug__":Str))=false)(h0:X.N[0]?=some ("self":Str))(hv:Vis X.env.scope "self")(hl:(p2.endLine == p5.line)=true) :
  PE X (.Call (.Attribute (.Name xR p1) "__init__" p2) [.Name "self" p3,.Constant (.str txt) j p4] [] p5) (fun σ H Q=>∃e C,σ[0]?=some (some (.ref e))/\H e=some (XN e C)/\excJ X.K C fI=true/\Q .non H):=by
 obtain⟨CR,hm,h1,h2,h3⟩:=u.ex;intro pins s σ H Q I ⟨e,C,he,hx,hc,q⟩;refine zjG (zfr rfl _ _ _) (zn9 rfl (by show 2<29;decide)) hl (thn (ze5 (v:=.ref CR) hg hm rfl hdb pins s σ H (fun v H1=>v=.ref CR/\H1=H) I ⟨rfl,rfl⟩) fun u s1 ⟨xv,H1,I1,rx,ex,eH⟩ pl=>?_);subst ex eH;obtain rfl:u=Value.ref CR:=rx;refine PySem.W.method_cls I1.kIn h1 (PySem.W.cls_value I1.kIn h2 h3 rfl ?_);refine zfi (thn ((zaV (zej h0 hv) (zaV zkn zcn)) p5 pins _ σ H1 (fun vs H2=>vs=[V.ref e,V.str txt]/\H2=H1) (I1.tok _) ⟨_,he,rfl,rfl⟩) fun us s2 ⟨vs,H2,I2,r,ev,eH⟩=>⟨I2.kIn,?_⟩) rfl rfl;subst ev eH;obtain⟨u1,u2,rfl,r1,r2⟩:=ziT r;obtain rfl:u1=Value.ref e:=r1;exact zlQ I2 hc hx fun s' I'=>⟨.non,H2,I',rfl,q⟩
theorem zjk (h0:X.N[0]?=some ("self":Str))(h1:X.N[1]?=some y)(v0:Vis X.env.scope "self")(v1:Vis X.env.scope y)(n2:(y == ("__debug__":Str))=false/\(y == ("__classdict__":Str))=false) :
  PS X (.Assign [.Attribute (.Name "self" p7) f p8] (.Name y p9) p10) (fun D σ H=>∃e C v,σ[0]?=some (some (.ref e))/\σ[1]?=some (some v)/\H e=some (XN e C)/\Xc X.K C fI f/\∀dx od,H dx=none->dx≠e->D.nx σ (upd (upd H dx (.frz od (.xd [(f,v)]))) e (XD e C dx))):=by
 intro pins s σ H D I ⟨e,C,v,e0,e1,hx,hc,q⟩;refine plainObj_wpAny_Assign_Attribute (thn ((zej h1 v1 n2.1 n2.2) pins s σ H (fun u H1=>u=v/\H1=H) I ⟨v,e1,rfl,rfl⟩) fun u s1 ⟨z,H1,I1,ry,ez,eH⟩=>thn ((zej h0 v0) pins s1 σ H1 (fun u H2=>u=.ref e/\H2=H1) I1 ⟨_,e0,rfl,rfl⟩) fun ov s2 ⟨x,H2,I2,rx,ex,eH2⟩=>?_) rfl;subst ez eH ex eH2;obtain rfl:ov=Value.ref e:=rx;exact zmb I2 hc hx ry fun dx od s' k1 k2 I'=>⟨σ,_,I',q dx od k1 k2⟩
end
theorem zlR {K:PySem.W.Frag}{st:Stmt}(FV:FunV K "__init__" qual st .none fI fd)(S:XSt st xR y f)(u:XUp K mg xR) :
  FnOk P w K mg base CX0 (k+1) fI fd ["self",y] (spI K fI f):=by
 obtain⟨txt,j,p1,p2,p3,p4,p5,p6,p7,p8,p9,p10,eb,hl⟩:=S.body;refine FV.ok S.sc (fun vs H Q E ⟨e,C,v,h,_⟩=>by rw[h];rfl) fun cdv A outer s H vs Q E hr h=>?_;obtain⟨e,C,v,rfl,he,hc,q⟩:=h;rw[eb];refine⟨_,zat (ze4 (zlx (fI:=fI) u S.gl S.n1 rfl (.inl S.v1) hl)) (zat (zjk (fI:=fI) rfl rfl (.inl S.v1) (.inl S.v2) S.n2) zdG),?_⟩;exact⟨e,C,rfl,he,hc.ex,e,C,v,rfl,rfl,he,hc,fun dx od k1 k2=>q dx od k1 k2⟩
end R
end
section
namespace R
open PySem PySem.Spec PyProof.Rows L2
variable [Mks]
section
variable {X:Cx} {pins:List (Addr × Obj)} {σ:L2.St} {H:Hp} {s:Shared} {C fI:Addr} {f:Str} {k:Nat} {fd:FuncData} {ps:List Str}
theorem upd3 (h:dx≠e):upd (upd (upd H e o1) dx o2) e o3=upd (upd H dx o2) e o3:=by
 funext b;unfold upd;by_cases h1:b=e
 . simp[h1]
 . simp[h1]
theorem zeb (F:FnOk X.prog X.w X.K X.mg X.base CX0 k fI fd ps (spI X.K fI f))(hr:Room (k+1) X.A)(hb:Binds X.K fd ps [])(c:Xc X.K C fI f)(I:Inv X pins σ H s)(rv:RelV v u)
  (h:∀e dx od s',H e=none->H dx=none->dx≠e->s.heap.objs.size<=e->Inv X pins σ (upd (upd H dx (.frz od (.xd [(f,v)]))) e (XD e C dx)) s'->Q (.ref e) s'):wpAny (model X.prog X.w) X.A (call (.ref C) [u]) Q X.xe s:=by
 obtain⟨nm,q,N,bs,bm,hdct,sn,sub,ab,col,dd,k0,k1,k2,k3,k5,mN,hC,hn,hi,T⟩:=(zkF I.kIn c.ex).ex;obtain⟨oI,hfI,hfc⟩:∃oI,s.heap.get? fI=some oI/\oI.cls=.type "function":=by
  have z:=beq_iff_eq.mp c.fn;unfold PySem.W.typeIn at z;cases e:X.K.lookup fI with
  |none=>simp[e] at z
  |some o=>exact⟨o,I.kIn _ _ e,by simpa[e] using z⟩
 obtain⟨hh,g,d,t,os⟩:=s;refine zjQ PySem.F.excBase_ValueError T hC hn hi hfI hfc (fun h' e m z=>?_) (by show 1<=sizeLine;rw[sizeLine_eq];omega);obtain⟨t0,e1,_⟩:=m.there;have I1:Inv X pins σ (upd H e (XN e C)) ⟨h',g,d,t,os⟩:=I.laid (t':=t) m.keeps z (XN.ok e1);have r2:Vals [V.ref e,v] [Value.ref e,u]:=.cons rfl (.cons rv .nil);have he:H e=none:=I.hok.fresh z;have hq:spI X.K fI f [.ref e,v] (upd H e (XN e C)) (fun v' H'=>v'=.non/\∃dx od,(upd H e (XN e C)) dx=none/\dx≠e/\H'=upd (upd (upd H e (XN e C)) dx (.frz od (.xd [(f,v)]))) e (XD e C dx)) E0:=
  ⟨e,C,v,rfl,zai,c,fun dx od k1 k2=>⟨rfl,dx,od,k1,k2,rfl⟩⟩
 refine wpAny_call (codeAny_mono (F.run _ X.stack _ _ ⟨[Value.ref e,u],[]⟩ [Value.ref e,u] _ _ E0 (hr.make C [u] []) (I1.env0.make C [u] []) (hb _ [Value.ref e,u] I1.kIn (by have:=r2.length;rw[F.len _ _ _ _ hq] at this;exact this.symm)) r2 hq) fun r s' hq'=>?_);cases r with
 |error x=>exact False.elim hq'
 | ok fl=>
   cases fl with
   | ret u'=>
     obtain⟨v',H',I3,rv',ev,dx,od,k1,k2,eH⟩:=I1.after hq';subst ev eH;refine⟨rv',h e dx od s' he ?_ k2 z ?_⟩
     . rwa [zah k2] at k1
     . rw[upd3 k2] at I3;exact I3
   |next=>exact False.elim hq'
   |brk=>exact False.elim hq'
   |cont=>exact False.elim hq'
theorem zkt (I:Inv X pins σ (upd H0 e (XD e C dx)) s):Inv X pins σ (upd H0 e (XO e C dx)) s:=by
 obtain⟨⟨t,et⟩,_⟩:=(I.hok e _ zai);have:=I.write (t':=s.toks) (h':=s.heap) (by rw[zai];exact True.intro) (.inl rfl) (fun _ _ _ q=>q) ⟨_,et⟩ (XO.ok et (by show 1<6;decide));rw[zkJ] at this;exact this
end
section
variable {M:Model} {A:Around} {E:Value->Shared->Prop} {s:Shared} {env:Env}
variable {nm q:Str} {C N:Addr} {bs bm:List Value} {hdct:Bool} {sn:List Str} {sub:List Value} {ab:Bool} {col:Option Bool} {dd:Option Addr} {k0 k1 k2 k3 k5:Option Value} {newId:String}
theorem zje (hh:A.handled=none)
  (h:wpAny M A x (fun v s1=>∃e t dx nm q N bs bm hdct sn sub ab col dd k0 k1 k2 k3 k5 newId,v=.ref e/\s1.heap.get? C=some (excClassObj nm q C N bs bm hdct sn sub ab col dd k0 k1 k2 k3 k5 newId)/\bm.contains (.type "BaseException")=true/\
   s1.heap.get? e=some (newX (.ref C) dx t)/\E (.ref e) s1) E s):wpAny M A (raiseStmt env (some x) none) Q E s:=by
 unfold raiseStmt;refine wpAny_bind (wpAny_mono h (fun v s1 h1=>?_) fun _ _ z=>z);obtain⟨e,t,dx,nm,q,N,bs,bm,hdct,sn,sub,ab,col,dd,k0,k1,k2,k3,k5,newId,rfl,hC,hb,he,hE⟩:=h1;have hcB:(Value.ref C::bm).contains (.type "BaseException")=true:=by rw[List.contains_cons,hb,Bool.or_true]
 obtain⟨hp,g,d,tk,os⟩:=s1
 repeat (first|with_reducible refine wpAny_loadPart_at he ?_|with_reducible refine wpAny_loadPart_at hC ?_|(with_reducible refine wpAny_isSubtype_exc hC ?_;rw[hcB])|wp_step)
 exact wpAny_raiseNew_none hh hE
end
section
variable {X:Cx} {C fI:Addr} {f x:Str} {k:Nat} {fd:FuncData} {ps:List Str} {te:TE} {e:Expr} {np cpos pos:Pos}
theorem zjr (F:FnOk X.prog X.w X.K X.mg X.base CX0 k fI fd ps (spI X.K fI f))(hr:Room (k+1) X.A)(hb:Binds X.K fd ps [])(c:Xc X.K C fI f)(hg:Gl X x)(hm:X.mg x=some (.ref C))(hk:keepIn X.K (.ref C)=true)(ha:PE X e te)(hst:zaj e=true)(hdb:(x == ("__debug__":Str))=false) :
  PE X (.Call (.Name x np) [e] [] cpos) (fun σ H Q=>te σ H fun v H1=>∀a dx od,H1 a=none->H1 dx=none->dx≠a->Q (.ref a) (upd (upd H1 dx (.frz od (.xd [(f,v)]))) a (XO a C dx))):=by
 intro pins s σ H Q I h;refine wpAny_Call_Name_kw (zbf I hg hm ?_ hdb);refine callWith_K I.ok.mod.kin hk (thn ((zaV ha zcn (zak hst _ _)) cpos pins s σ H (fun vs H1=>match vs with | [v]=>∀a dx od,H1 a=none->H1 dx=none->dx≠a->Q (.ref a) (upd (upd H1 dx (.frz od (.xd [(f,v)]))) a (XO a C dx))|_=>False) I h) fun us s1 ⟨vs,H1,I1,r,q⟩=>⟨I1.kIn,?_⟩) (zak hst _ _) rfl;cases r with
 |nil=>exact q.elim
 | cons ru rn=>
   cases rn with
   |nil=>exact zeb F hr hb c I1 ru fun a dx od s' k1 k2 k3 _ I'=>⟨.ref a,_,zkt I',rfl,q a dx od k1 k2 k3⟩
   |cons _ _=>exact q.elim
theorem zkM {lo:Nat}:Trc h a #[.ref t,.none,.none,.none,.bool false,.none] lo:=.inl rfl
theorem zji (F:FnOk X.prog X.w X.K X.mg X.base CX0 k fI fd ps (spI X.K fI f))(hr:Room (k+1) X.A)(hb:Binds X.K fd ps [])(c:Xc X.K C fI f)(hg:Gl X x)(hm:X.mg x=some (.ref C))(hk:keepIn X.K (.ref C)=true)(ha:PE X e te)(hst:zaj e=true)(hdb:(x == ("__debug__":Str))=false)(hc:X.calm=true) :
  PS X (.Raise (some (.Call (.Name x np) [e] [] cpos)) none pos) (fun D σ H=>te σ H fun v H1=>∀a dx od pins s',H1 a=none->H1 dx=none->dx≠a->Inv X pins σ (upd (upd H1 dx (.frz od (.xd [(f,v)]))) a (XO a C dx)) s'->Fly X.s₀.heap.objs.size (upd (upd H1 dx (.frz od (.xd [(f,v)]))) a (XO a C dx)) s'.heap a->X.xe (.ref a) s'):=by
 intro pins s σ H D I h;refine wpAny_bind (wpAny_standAt (zje (C:=C) (I.ok.hd hc) ?_));refine wpAny_bind (wpAny_Call_Name_kw (zbf I hg hm ?_ hdb));refine callWith_K I.ok.mod.kin hk (thn ((zaV ha zcn (zak hst _ _)) cpos pins s σ H (fun vs H1=>match vs with | [v]=>∀a dx od pins s',H1 a=none->H1 dx=none->dx≠a->Inv X pins σ (upd (upd H1 dx (.frz od (.xd [(f,v)]))) a (XO a C dx)) s'->Fly X.s₀.heap.objs.size (upd (upd H1 dx (.frz od (.xd [(f,v)]))) a (XO a C dx)) s'.heap a->X.xe (.ref a) s'|_=>False) I h) fun us s1 ⟨vs,H1,I1,r,q⟩=>⟨I1.kIn,?_⟩) (zak hst _ _) rfl;cases r with
 |nil=>exact q.elim
 | cons ru rn=>
   cases rn with
   |cons _ _=>exact q.elim
   | nil=>
     refine zeb F hr hb c I1 ru fun a dx od s' k1 k2 k3 kz I'=>wpAny_bind (wpAny_standAt (wpAny_pure ?_));obtain⟨nm,q',N,bs,bm,hdct,sn,sub,ab,col,dd,k0,k1',k2',k3',k5,mN,hC,hn,hi,T⟩:=(zkF I'.kIn c.ex).ex;obtain⟨⟨t,et⟩,_⟩:=(I'.hok a _ zai);refine⟨a,t,some dx,nm,q',N,bs,bm,hdct,sn,sub,ab,col,dd,k0,k1',k2',k3',k5,_,rfl,hC,T.hasType rfl,et,?_⟩;refine q a dx od pins s' k1 k2 k3 (zkt I') ⟨⟨C,dx,_,_,zai,et,zkM,fun T hT=>?_⟩,le_trans I1.sz kz⟩;cases hT
end
end R
end
section
namespace R
open PySem PySem.Spec PyProof.Rows L2
variable [Mks]
noncomputable abbrev mkC (X:Cx)(e:Value):Cx:={X with A:=X.A.mark (some e),calm:=false,xe:=fun _ _=>False}
section
variable {X:Cx} {pins:List (Addr × Obj)} {σ:L2.St} {H:Hp} {s:Shared}
theorem zfS (I:Inv X pins σ H s)(e:Value):Inv (mkC X e) pins σ H s:=
 ⟨⟨I.ok.mod,I.ok.kind,I.ok.glob,I.ok.blt,I.ok.above,I.ok.inj,I.ok.has,I.ok.cab,(fun z=>by cases z),I.ok.frames,I.ok.stk,I.ok.exf,I.ok.bs,I.ok.bsz,I.ok.noex,I.ok.exfs,I.ok.funs,I.ok.frf⟩,I.os,I.bare,I.base,I.loc,I.cell,I.free,I.freeC,I.pin,I.hok,I.len⟩
theorem zgK (ok:X.Ok)(I:Inv (mkC X e) pins σ H s):Inv X pins σ H s:=⟨ok,I.os,I.bare,I.base,I.loc,I.cell,I.free,I.freeC,I.pin,I.hok,I.len⟩
theorem zjL (I:Inv X pins σ H s)(nd:X.N.Nodup)(hi:X.N[ie]?=some n)
  (hm:∀(i:Nat) (x:Str) (v:V),X.N[i]?=some x->σ[i]?=some (some v)->Vis X.env.scope x->∃u,RelV v u/\Look X.env s.heap m x u) (hn:h'.Ns X.env.locals (fun x=>if x=n then v else m x)) (sb:Heap.SameBut X.env.locals s.heap h') :
  Inv X pins (σ.set ie none) H {s with heap:=h',toks:=t'}:=by
 have k:∀b o,b≠X.env.locals->s.heap.get? b=some o->h'.get? b=some o:=fun b o hb q=>(sb.2 b hb).trans q;have neL:∀b o,X.s₀.heap.get? b=some o->b≠X.env.locals:=fun b o e=>ne_of_lt (lt_of_lt_of_le (Heap.lt_size e) I.ok.above);have cellK:∀x c,X.env.cells.lookup x=some c->∀v,s.heap.IsCell c v->h'.IsCell c v:=fun x c e v ⟨o,ho,hd⟩=>⟨o,k c o (I.cne x c e) ho,hd⟩;refine⟨I.ok,I.os,I.bare,⟨fun b o e n hb hx=>k b o (neL b o e) (I.base.keep b o e n hb hx),fun b o e n hb hx=>?_,I.base.free,fun b o e hx=>?_,I.base.tups,I.base.frzs,I.base.tbls⟩,⟨_,hn,fun i x u h1 h2 h3=>?_⟩,fun x c e=>?_,I.free,I.freeC,fun p hp=>?_,fun b o e=>?_,by rw[List.length_set];exact I.len⟩
 . obtain⟨sl,q⟩:=I.base.slot b o e n hb hx;exact⟨sl,k b _ (neL b o e) q⟩
 . obtain⟨o',q⟩:=I.base.there b o e hx;exact⟨o',k b _ (neL b o e) q⟩
 . have hij:i≠ie:=fun z=>by
    subst z;rw[List.getElem?_set] at h2;simp only[if_true] at h2;split at h2<;>cases h2
   rw[getElem?_set_ne (Ne.symm hij)] at h2;obtain⟨w,r,l⟩:=hm i x u h1 h2 h3;have hxn:x≠n:=fun z=>hij (by
    obtain⟨a1,e1⟩:=List.getElem?_eq_some_iff.mp h1;obtain⟨a2,e2⟩:=List.getElem?_eq_some_iff.mp hi;exact (List.getElem_inj nd).mp (e1.trans (z.trans e2.symm)))
   refine⟨w,r,?_⟩;rcases l with ⟨a1,a2⟩|⟨a1,c,a2,a3⟩
   . exact .inl ⟨a1,by show (if x=n then v else m x)=_;rw[if_neg hxn];exact a2⟩
   . exact .inr ⟨a1,c,a2,cellK x c a2 _ a3⟩
 . obtain⟨v,z⟩:=I.cell x c e;exact⟨v,cellK x c e v z⟩
 . obtain⟨e,n,ne,nf,d⟩:=I.pin p hp;exact⟨k _ _ ne e,n,ne,nf,d⟩
 . refine (I.hok b o e).stay (fun c u hc q=>k c u (fun z=>?_) q) (fun _ q=>q) fun _ _ q=>q;have:H c≠none:=by rcases hc with y|y<;>(first|(rw[y,e];simp)|(rw[y];simp))
   exact this (by rw[z];exact I.free)
end
section
variable {X:Cx} {pins:List (Addr × Obj)} {σ:L2.St} {H:Hp} {s:Shared} {a C dx CR:Addr} {lo ie ix:Nat} {xR n y:Str} {np p1 p2 p3 hp:Pos} {D:Ends}
theorem zcp (I:Inv X pins σ H s)(stk:X.stack=X.env::X.outer)(fr:X.env.frame=some X.env.locals)(f:Fly lo H s.heap a)(l:X.s₀.heap.objs.size<=lo)(hpn:∀p∈X.pn++pins,p.1<lo)(h:∀s',Inv X pins σ H s'->Fly lo H s'.heap a->Q () s'):wpAny M A (setFlight (.ref a) fr') Q E s:=by
 obtain⟨C,dx,vs,sl,h1,h2,tr,h4⟩:=id f.ex;rcases tr with t|t
 . unfold setFlight;refine wpAny_bind (wpAny_field h2 rfl t ?_);exact wpAny_pure (h s I f)
 . refine zik (by rw[<-stk];exact I.stack) h2 rfl t fun h' nt=>?_;obtain⟨I1,f1⟩:=zb6 I stk fr f l hpn h2 rfl nt;exact h _ I1 f1
theorem zjY (I:Inv X pins σ H s)(stk:X.stack=X.env::X.outer)(fr:X.env.frame=some X.env.locals)(fl:Fly lo H s.heap a)(l:X.s₀.heap.objs.size<=lo)(lz:lo<=s.heap.objs.size)(hpn:∀p∈X.pn++pins,p.1<lo)(cl:H a=some (XO a C dx))
  (hx:PySem.W.exmOne X.K (.ref C) (.ref CR)=some true) (hg:Gl X xR) (hm:X.mg xR=some (.ref CR)) (hdb:(xR == ("__debug__":Str))=false) (nd:X.N.Nodup) (hn:X.N[ie]?=some n) (hy:X.N[ix]?=some y) (nl:X.env.scope.names.lookup n=some .local) (yl:Loc X.env.scope y)
  (yf:X.fn y=true\/X.env.scope.names.lookup y=some .local) (n1:(n == ("__debug__":Str))=false) (n2:(n == ("__classdict__":Str))=false) (hij:ie≠ix) (q:D.nx ((σ.set ie none).set ix (some (.ref a))) H) :
  wpAny (model X.prog X.w) X.A (noteFrame (.ref a) X.env) (fun _ s2=>wpAny (model X.prog X.w) X.A (setFlight (.ref a) none) (fun _ s3=>wpAny (model X.prog X.w) X.A (handleBy (.ref a) X.env [.ExceptHandler (some (.Name xR np)) (some n) [.Assign [.Name y p1] (.Name n p2) p3] hp]) (SP X pins D) X.xe s3) X.xe s2) X.xe s:=by
 obtain⟨C0,dx0,vs,sl,h1,h2,tr,h4⟩:=id fl.ex;refine zfI (by rw[I.ok.frames,stk]) (by rw[<-stk];exact I.stack) fr h2 rfl tr lz fun h' nt=>?_;obtain⟨I1,f1⟩:=zb6 I stk fr fl l hpn h2 rfl nt;refine wpAny_handleBy_cons (codeAny_handlers_test (zbf (zfS I1 (.ref a)) hg hm ?_ hdb)) (by intro z;cases z);obtain⟨vs2,sl2,e2,_⟩:=(I1.hok a _ cl).1;have LT:PySem.W.Looks (model X.prog X.w) h' (typeOf (.ref a)) (.ref C):=(PySem.W.Looks.ld e2).andThen .now;apply (PySem.W.exm_one I1.kIn LT hx).here;refine codeAny_handlers_suite_as (zcp I1 stk fr f1 l hpn fun s3 I3 f3=>zdr I3 nd hn (.inl nl) (v:=.ref a) rfl (fun s4 I4=>?_) (.inr nl));have pv:PE (mkC X (.ref a)) (.Name n p2) (tVar ie):=zej hn (.inl nl) n1 n2;have hb:=zat (zeg (X:=mkC X (.ref a)) (pos:=p3) (pos':=p1) nd hy yl pv (by rfl) yf) zdG pins s4 (σ.set ie (some (.ref a))) H {nx:=fun σ' H'=>σ'=(σ.set ie (some (.ref a))).set ix (some (.ref a))/\H'=H,rt:=fun _ _=>False} (zfS I4 _)
  ⟨.ref a,by rw[getElem?_set_self (by rw[I3.len];exact (List.getElem?_eq_some_iff.mp hn).1)],rfl,rfl⟩
 refine wpAny_mono hb (fun fl s5 z=>?_) fun _ _ z=>z.elim;cases fl with
 | next=>
   obtain⟨σ',H',I5,rfl,rfl⟩:=z;have I5:=zgK I.ok I5;obtain⟨m,hm5,hl5⟩:=id I5.loc;have hcls:(X.env.scope.kind == .class || (X.env.scope.kind == .module&&X.env.locals != X.env.globals))=false:=by rw[I.ok.kind];rfl
   refine wpAny_nameGoes_keeps nl hm5 hcls fun h6 v hn6 sb=>?_;have I6:=zjL (t':=s5.toks+1) I5 nd hn hl5 hn6 sb;refine⟨_,_,I6,?_⟩;rw[List.set_comm _ _ (Ne.symm hij),List.set_set];exact q
 |ret u=>obtain⟨_,_,_,_,_,z⟩:=z;exact z.elim
 |brk=>obtain⟨_,_,_,z⟩:=z;exact z.elim
 |cont=>obtain⟨_,_,_,z⟩:=z;exact z.elim
end
end R
end
section
namespace R
open PySem PySem.Spec PyProof.Rows L2
variable [Mks]
section
variable {T:Tab} {cf:CF} {k:Nat} {N:List Str} {sc:Scope} {X:Cx} {pos p:Pos} {rest:List Stmt}
theorem zcU (h:zbM S x=some (c,fs)):∃l,x=.ref l/\S.get l=some (.exc c fs):=by
 cases x with
 | ref l=>
   simp[zbM] at h;cases e:S.get l with
   |none=>rw[e] at h;cases h
   | some o=>
     rw[e] at h;cases o with
     |exc c' fs'=>cases h;exact⟨l,rfl,e⟩
     |_=>cases h
 |_=>cases h
theorem zkk (hh:RH X.K ι H S)(r:RV X.K ι H d v)(hC:Mks.xc[c]?=some C)(k1:H a=none)(k2:H dx=none)(k3:dx≠a) :
  Ext ι H (ι++[a]) (upd (upd H dx (.frz od (.xd [(f,v)]))) a (XO a C dx))/\RH X.K (ι++[a]) (upd (upd H dx (.frz od (.xd [(f,v)]))) a (XO a C dx)) (S.push (.exc c [(f,d)])):=by
 have hh2:=hh.new k2 (.frz od (.xd [(f,v)]));have x2:Ext ι H ι (upd H dx (.frz od (.xd [(f,v)]))):=Ext.new k2 _;have k4:(upd H dx (.frz od (.xd [(f,v)]))) a=none:=by rw[zah (Ne.symm k3)];exact k1
 have x3:=Ext.obj hh2 k4 (XO a C dx);refine⟨x2.trans x3,hh2.obj' k4 (XO a C dx) (.exc c [(f,d)]) ⟨C,dx,od,[(f,v)],hC,zai,?_,v,[],rfl,(r.ext x2).ext x3,rfl⟩⟩;rw[zah k3,zai]
theorem zmU (G:Gd T cf k N sc X)(hc:T.xcs.contains (c,x,f)=true)(hx:isGl sc x=true)(hd:(x == ("__debug__":Str))=false)(ha:PE X e (tE X.K cf ce))(hst:zaj e=true) :
  PE X (.Call (.Name x p) [e] [] pos) (tE X.K cf (.mkX c x f ce)):=by
 obtain⟨C,fI,fd,ps,hC,hm,hk,c',F,hb⟩:=G.tab.xtb.cl c x f hc;refine PE.imp (zjr F G.room' hb c' (G.gl hx) hm hk ha hst hd) fun σ H Qv ⟨δ,ι,S,Q,hs,hh,w,q⟩=>?_;simp[evE,zaa] at w;refine tE.run hs hh w fun d v ι1 H1 S1 x1 hs1 hh1 r1 w1=>?_;intro a dx od k1 k2 k3;obtain⟨x2,hh2⟩:=zkk hh1 r1 hC k1 k2 k3;exact q _ _ ⟨.ref S1.len,ι1++[a],_,x1.trans x2,⟨a,hh1.last a,rfl⟩,hh2,w1⟩
theorem zkw {σ:L2.St}(I:Inv X pins σ H s)(h1:H a=some (XO a C dx))(h2:H dx=some (.frz od (.xd ws))) :
  ∃ox,PySem.W.InstAt s.heap a ox C (some od)/\∃mA:Str->Option Value,(∀f,lookIn f od=some (mA f))/\∀f,RelO (ws.lookup f) (mA f):=by
 obtain⟨vs,sl,e,_⟩:=(I.hok a _ h1).1;obtain⟨e2,mA,n,r⟩:=(I.hok dx _ h2);obtain⟨od',ho,hl⟩:=zem n;rw[e2] at ho;cases ho;exact⟨_,⟨e,rfl,rfl,e2⟩,mA,hl,r⟩
theorem zk6 (G:Gd T cf k N sc X)(ha:PE X a (tE X.K cf ca))(hsup:zcM a=true)(hf:T.xflds.contains f=true):PE X (.Attribute a f pos) (tE X.K cf (.fldX ca f)):=by
 intro pins s σ H Qv I ⟨δ,ι,S,Q,hs,hh,w,q⟩;simp[evE,zaa] at w;refine zmc (zfr hsup f X.env _) (thn (ha pins s σ H (fun v H1=>∃b C dx od ws u,v=.ref b/\XGet X.K C/\NoAttr X.K C f/\H1 b=some (XO b C dx)/\H1 dx=some (.frz od (.xd ws))/\ws.lookup f=some u/\Qv u H1) I (tE.run hs hh w fun d v ι1 H1 S1 x1 hs1 hh1 r1 w1=>?_)) fun u s1 ⟨x,H1,I1,rx,b,C,dx,od,ws,v,ex,g,n,e1,e2,e3,q1⟩=>?_)
 . obtain⟨u,eu,w2⟩:=zaC w1;cases ei:zbM S1 d with
   |none=>rw[ei] at eu;cases eu
   | some pr=>
     obtain⟨c,fs⟩:=pr;rw[ei] at eu;have eu:fs.lookup f=some u:=eu;obtain⟨l,rfl,hl⟩:=zcU ei;obtain⟨b,i1,rfl⟩:=r1;obtain⟨b',i2,C,dx,od,ws,hC,h1,h2,rf⟩:=hh1.obj l _ hl;rw[i1] at i2;cases i2;obtain⟨g,n⟩:=G.tab.xtb.fl f hf c C hC;rcases rf.look f with ⟨z,_⟩|⟨d',v',z1,z2,z3⟩
     . rw[eu] at z;cases z
     . rw[eu] at z1;cases z1;exact⟨b,C,dx,od,ws,v',rfl,g,n,h1,h2,z2,q _ _ (Lf.up x1 (Lf.of hh1 z3 w2))⟩
 . subst ex;obtain rfl:u=Value.ref b:=rx;obtain⟨ox,J,mA,hl,r⟩:=zkw I1 e1 e2;obtain⟨u',hu,ru⟩:=RelO.some_of (by rw[<-e3];exact r f);exact zjR I1.kIn J g.ga g.gh g.sb (PySem.W.findObj_own g.hd n rfl (by rw[hl,hu])) (zij ru) ⟨v,H1,I1.tok _,ru,q1⟩
theorem zgd (D:Value)(dv:V)(rd:∀u,RelV dv u->u=D):zbt X (.builtin "isinstance") (fun xs H Q=>∃a C dx od ws b,xs=[.ref a,dv]/\H a=some (XO a C dx)/\H dx=some (.frz od (.xd ws))/\XGet X.K C/\IsaOk X.K C/\kitOne X.K (.ref C) D=some b/\Q (.bl b) H):=by
 intro pins s σ H xs us Q I r h;obtain⟨a,C,dx,od,ws,b,rfl,h1,h2,g,ok,hk,q⟩:=h;obtain⟨u,w',rfl,rx,rc⟩:=ziT r;cases rd w' rc;cases rx;obtain⟨ox,J,_⟩:=zkw I h1 h2;exact kia_one (zl1 g.ga g.gh g.sb g.hd ok.ha ok.hn ok.ht ok.hm) I.kIn J hk (fun z=>nomatch z) fun tk=>⟨.bl b,H,I.tok tk,rfl,q⟩
theorem zh2 {D:Value}(hD:∀(c:Nat) C,Mks.xc[c]?=some C->XGet X.K C/\IsaOk X.K C/\kitOne X.K (.ref C) D=some (cs.contains c))(h:tE X.K cf (.iscX cs x ce) σ H Qv) :
  tCB (fun xs H Q=>∃a C dx od ws b,xs=[.ref a,t]/\H a=some (XO a C dx)/\H dx=some (.frz od (.xd ws))/\XGet X.K C/\IsaOk X.K C/\kitOne X.K (.ref C) D=some b/\Q (.bl b) H) (ziW (tE X.K cf ce) (ziW (tC t) tNil)) σ H Qv:=by
 obtain⟨δ,ι,S,Q,hs,hh,w,q⟩:=h;simp only[evE,zaa] at w;refine tE.run hs hh w fun d v ι1 H1 S1 x1 hs1 hh1 r1 w1=>?_;obtain⟨pr,ei,w2⟩:=zaC w1;obtain⟨c,fs⟩:=pr;obtain⟨l,rfl,hl⟩:=zcU ei;obtain⟨b,i1,rfl⟩:=r1;obtain⟨b',i2,C,dx,od,ws,hC,h1,h2,rf⟩:=hh1.obj l _ hl;rw[i1] at i2;cases i2;obtain⟨g,ok,kit⟩:=hD c C hC;exact⟨b,C,dx,od,ws,_,rfl,h1,h2,g,ok,kit,q _ _ (Lf.up x1 (Lf.of (d:=.bl _) hh1 rfl w2))⟩
theorem zk4 (G:Gd T cf k N sc X)(hg:Gl X "isinstance"/\X.mg "isinstance"=none)(hx:isGl sc x=true)(hd:(x == ("__debug__":Str))=false)(hi:(T.xisas.contains (x,cs) || T.xisbs.contains (x,cs))=true)
  (he:PE X e (tE X.K cf ce)) (hst:zaj e=true):PE X (.Call (.Name "isinstance" p) [e,.Name x p2] [] pos) (tE X.K cf (.iscX cs x ce)):=by
 rw[or_eq_true] at hi;rcases hi with hi|hi
 . obtain⟨D,hm,hD⟩:=G.tab.xtb.is x cs hi;exact PE.imp (zbo (zgd (.ref D) (.ref D) fun u z=>z) hg.1 hg.2 zbq (zaV he (zaV (ze5 (v:=.ref D) (G.gl hx) hm rfl hd) zcn) (zak hst _ X.env)) (by decide) (by decide) (zak hst _ X.env)) fun σ H Qv h=>zh2 hD h
 . obtain⟨hm,hn,t,hv,hD⟩:=G.tab.xtb.ib x cs hi;exact PE.imp (zbo (zgd (.type t) (.ty t) fun u z=>z) hg.1 hg.2 zbq (zaV he (zaV (zhH (v:=.ty t) (G.gl hx) hm hv rfl hn hd) zcn) (zak hst _ X.env)) (by decide) (by decide) (zak hst _ X.env)) fun σ H Qv h=>zh2 hD h
theorem ziY (G:Gd T cf k N sc X)(hc:T.xcs.contains (c,x,f)=true)(hx:isGl sc x=true)(hd:(x == ("__debug__":Str))=false)(ha:PE X e (tE X.K cf ce))(hst:zaj e=true) :
  PSs X (.Raise (some (.Call (.Name x np) [e] [] cpos)) none pos::rest) (tS X cf (.rais c x f ce)):=by
 obtain⟨C,fI,fd,ps,hC,hm,hk,c',F,hb⟩:=G.tab.xtb.cl c x f hc;refine PSs.imp (zat (zji F G.room' hb c' (G.gl hx) hm hk ha hst hd G.calm) (show PSs X rest (fun _ _ _=>False) from fun _ _ _ _ _ _ h=>h.elim)) fun E σ H ⟨δ,ι,S,Q,hs,hh,w,l⟩=>?_;simp[exS,zaa] at w;refine tE.run hs hh w fun d v ι1 H1 S1 x1 hs1 hh1 r1 w1=>?_;intro a dx od pins s' k1 k2 k3 I' f';obtain⟨x2,hh2⟩:=zkk hh1 r1 hC k1 k2 k3;exact l _ _ _ _ (x1.trans x2) hh2 w1 a σ pins s' ⟨a,hh1.last a,rfl⟩ I' f'
noncomputable def zkb (X:Cx)(sp:Sp)(t:TA):TE:=fun σ H Q=>t σ H fun vs H1=>∃E,sp vs H1 Q E/\∀pins s1 a H' s',Inv X pins σ H1 s1->Inv X pins σ H' s'->Fly s1.heap.objs.size H' s'.heap a->E (.ref a) none H'->X.xe (.ref a) s'
theorem zdH (F:FnOk X.prog X.w X.K X.mg X.base (CXe X.prog X.w) k fa fd ps sp)(hr:Room k X.A)(hg:Gl X x)(hm:X.mg x=some (.ref fa))(hk:keepIn X.K (.ref fa)=true)(hb:Binds X.K fd ps [])
  (ha:PA X (e::es) t) (hdb:(x == ("__debug__":Str))=false) (he:starEach (e::es) X.env=(false,eval e X.env)::starEach es X.env) (hpl:(backTo pos (starEach es X.env)).any (·.1)=false):PE X (.Call (.Name x p) (e::es) [] pos) (zkb X sp t):=by
 intro pins s σ H Q I h;refine wpAny_Call_Name_kw (zbf I hg hm ?_ hdb);refine callWith_K I.ok.mod.kin hk (thn (ha pos pins s σ H _ I h) fun us s1 ⟨vs,H1,I1,r,E,q,qx⟩=>⟨I1.kIn,?_⟩) he hpl;have hl:(us++[]).length=ps.length:=by rw[append_nil,<-r.length];exact F.len _ _ _ _ q
 have hbd:=hb s1 us I1.kIn hl;rw[append_nil] at hbd;refine wpAny_call (codeAny_mono (F.run X.A X.stack s1 H1 ⟨us,[]⟩ us vs Q E hr I1.env0 hbd r q) fun r s' hq=>?_);cases r with
 | error x=>
   obtain⟨a,H',rfl,os,bare,un,hok,fl,hE⟩:=hq;exact qx pins s1 a H' s' I1 (I1.call' os un hok bare (fun b z=>absurd z (by simp))) fl hE
 | ok fl=>
   cases fl with
   |ret u=>exact I1.after hq
   |next=>exact False.elim hq
   |brk=>exact False.elim hq
   |cont=>exact False.elim hq
noncomputable def XErr (X:Cx)(σ:L2.St)(ι:List Addr)(H:Hp)(d:D)(S1:R.St):Prop:=∀a ι' H' s' lo pins,Ext ι H ι' H'->RV X.K ι' H' d (.ref a)->RH X.K ι' H' S1->Inv X pins σ H' s'->Fly lo H' s'.heap a->X.s₀.heap.objs.size<=lo->lo<=s'.heap.objs.size->(∀p∈X.pn++pins,p.1<lo)->X.xe (.ref a) s'
theorem zeB (hfr:CFok cf)(hs:RS X.K ι H δ σ)(hh:RH X.K ι H S)(e:evEs cf ces δ S=.ok ds S1)
  (h:match appX cf f ds S1 with|.ok d S2=>∀v ι' H',Ext ι H ι' H'->RV X.K ι' H' d v->RH X.K ι' H' S2->Qv v H'|.err d S2=>XErr X σ ι H d S2|.bad=>False):zkb X (spX X.K cf f) (tAs X.K cf ces) σ H Qv:=by
 refine tAs.run hs hh (Q:=fun ds' S'=>ds'=ds/\S'=S1) (by rw[e];exact⟨rfl,rfl⟩) fun ds' vs ι1 H1 S1' x1 hs1 hh1 r1 ⟨z1,z2⟩=>?_;subst z1 z2;unfold appX at h;cases e2:cf f ds' S1'.enter with
 | ok d T'=>
   rw[e2] at h;dsimp only at h;refine⟨fun _ _ _=>False,⟨ι1,S1'.enter,ds',r1,hh1.enter,?_⟩,fun _ _ _ _ _ _ _ _ z=>z.elim⟩;rw[e2];intro v H' ι' x r hT;cases e3:zaZ S1' d T' with
   | ok d' S2=>
     rw[e3] at h;obtain⟨d2,ι2,S3,x2,r2,hh2,z1,z2⟩:=zcy (Q:=fun a S'=>a=d'/\S'=S2) hh1 x r hT (hfr _ _ _ _ _ (.inl e2)).frz (by rw[e3];exact⟨rfl,rfl⟩);subst z1 z2;exact h v ι2 H' (x1.trans x2) r2 hh2
   | err d' S2=>
     unfold zaZ at e3;split at e3
     . cases e3
     . dsimp only at e3;split at e3
       . split at e3
         all_goals first|(split at e3<;>cases e3)|cases e3
       . cases e3
   |bad=>rw[e3] at h;exact h.elim
 | err d T'=>
   rw[e2] at h;refine⟨fun v _ H'=>∃a ι',v=.ref a/\Ext ι1 H1 ι' H'/\RV X.K ι' H' d (.ref a)/\RH X.K ι' H' T',⟨ι1,S1'.enter,ds',r1,hh1.enter,?_⟩,?_⟩
   . rw[e2];exact fun a H' ι' x r hT=>⟨a,ι',rfl,x,r,hT⟩
   . rintro pins s1 a H' s' I1 I' fl ⟨a',ι',z,x,r,hT⟩;cases z;have frz:=(hfr _ _ _ _ _ (.inr e2)).frz;obtain⟨_,_,_,_,_,g,_⟩:=id fl.ex;exact h a ι' H' s' s1.heap.objs.size pins (x1.trans x) r (hT.keep frz) I' fl I1.sz (le_of_lt (Nat.lt_of_le_of_lt fl.lo (Heap.lt_size g))) fun p hp=>Heap.lt_size (I1.pin p hp).1
 |bad=>rw[e2] at h;exact h.elim
noncomputable def tB (X:Cx)(cf:CF)(b:TrB):TS:=fun D σ H=>∃δ ι S,RS X.K ι H δ σ/\RH X.K ι H S/\(match exT cf b δ S with
 |.ok δ' S1=>∀ι' H' σ',Ext ι H ι' H'->RS X.K ι' H' δ' σ'->RH X.K ι' H' S1->D.nx σ' H'
 |.err d S1=>XErr X σ ι H d S1
 |.bad=>False)
theorem zm6 (G:Gd T cf k N sc X)(hi:N[i]?=some y)(hl:zb4 sc y=true)(hf:T.xfns.contains f=true)(hn:T.fns[f]?=some (x,ps,nd))(hg:isGl sc x=true)(hd:(x == ("__debug__":Str))=false)(ha:PA X (e::es) (tAs X.K cf ces))(hst:(e::es).all zaj=true) :
  PS X (.Assign [.Name y p1] (.Call (.Name x p) (e::es) [] cp) pos) (tB X cf (.asg i f ces)):=by
 obtain⟨fa,fd,F,hm,hk,hb⟩:=G.tab.xtb.fn f x ps nd hf hn;rw[all_cons,and_eq_true] at hst;refine PS.imp (zeg (by rw[G.nm];exact G.nd) (by rw[G.nm];exact hi) (G.lc hl).1 (zdH F G.room (G.gl hg) hm hk hb ha hd (zak hst.1 es X.env) (zaM hst.2)) (zbU rfl _ _ _) (G.lc hl).2) fun D σ H ⟨δ,ι,S,hs,hh,h⟩=>?_;simp[exT] at h;cases e1:evEs cf ces δ S with
 | ok ds S1=>
   rw[e1] at h;dsimp only at h;apply zeB G.tab.frm hs hh e1;cases e2:appX cf f ds S1 with
   |ok d S2=>rw[e2] at h;exact fun v ι' H' x' r hT=>h ι' H' _ x' ((hs.ext x').set r i) hT
   |err d S2=>rw[e2] at h;exact h
   |bad=>rw[e2] at h;exact h
 |err d S1=>rw[e1] at h;exact h.elim
 |bad=>rw[e1] at h;exact h.elim
theorem XErr.up (h:XErr X σ ι H d S1)(x:Ext ι H ι1 H1):XErr X σ ι1 H1 d S1:=fun a ι' H' s' lo pins x'=>h a ι' H' s' lo pins (x.trans x')
theorem zm5 (hc:PT X c (tT X.K cf cc))(ha:PSs X A (tB X cf a))(hb:PSs X B (tB X cf b)):PS X (.If c A B pos) (tB X cf (.ite cc a b)):=by
 refine PS.imp (znk hc ha hb) fun D σ H ⟨δ,ι,S,hs,hh,h⟩=>?_;simp[exT] at h;cases e1:evT cf cc δ S with
 | ok z S1=>
   rw[e1] at h;dsimp only at h;refine tT.run hs hh (Q:=fun z' S'=>z'=z/\S'=S1) (by rw[e1];exact⟨rfl,rfl⟩) fun z' ι1 H1 S1' x1 hs1 hh1 ⟨w1,w2⟩=>?_;subst w1 w2;cases z' with
   | true=>
     refine⟨δ,ι1,S1',hs1,hh1,?_⟩;cases e2:exT cf a δ S1' with
     |ok δ' S2=>rw[e2] at h;exact fun ι' H' σ' x'=>h ι' H' σ' (x1.trans x')
     |err d S2=>rw[e2] at h;exact XErr.up h x1
     |bad=>rw[e2] at h;exact h
   | false=>
     refine⟨δ,ι1,S1',hs1,hh1,?_⟩;cases e2:exT cf b δ S1' with
     |ok δ' S2=>rw[e2] at h;exact fun ι' H' σ' x'=>h ι' H' σ' (x1.trans x')
     |err d S2=>rw[e2] at h;exact XErr.up h x1
     |bad=>rw[e2] at h;exact h
 |err d S1=>rw[e1] at h;exact h.elim
 |bad=>rw[e1] at h;exact h.elim
theorem zhk {st:Stmt}(h:PS X st (tB X cf b)):PSs X [st] (tB X cf b):=PSs.imp (zat h zdG) fun D σ H z=>z
theorem zla (G:Gd T cf k N sc X)(hff:T.flds.contains f=true)(hpa:PE X a (tE X.K cf ca))(hf:T.xfns.contains g=true)(hn:T.fns[g]?=some (x,ps,nd))(hg:isGl sc x=true)(hd:(x == ("__debug__":Str))=false)(ha:PA X (e::es) (tAs X.K cf ces))(hst:(e::es).all zaj=true) :
  PS X (.Assign [.Attribute a f p1] (.Call (.Name x p) (e::es) [] cp) pos) (tB X cf (.setF ca f g ces)):=by
 obtain⟨fa,fd,F,hm,hk,hb⟩:=G.tab.xtb.fn g x ps nd hf hn;rw[all_cons,and_eq_true] at hst;refine PS.imp (zkm hpa (zdH F G.room (G.gl hg) hm hk hb ha hd (zak hst.1 es X.env) (zaM hst.2)) (zbU rfl _ _ _)) fun D σ H ⟨δ,ι,S,hs,hh,h⟩=>?_;simp[exT] at h;cases e1:evEs cf ces δ S with
 | ok ds S1=>
   rw[e1] at h;dsimp only at h;apply zeB G.tab.frm hs hh e1;cases e2:appX cf g ds S1 with
   | ok d S2=>
     rw[e2] at h;dsimp only at h;intro v ι1 H1 x1 r1 hh1;have hs1:=hs.ext x1;cases e3:evE cf ca δ S2 with
     | ok y S3=>
       rw[e3] at h;dsimp only at h;refine tE.run hs1 hh1 (Q:=fun y' S'=>y'=y/\S'=S3) (by rw[e3];exact⟨rfl,rfl⟩) fun y' vx ι2 H2 S2' x2 hs2 hh2 r2 ⟨z1,z2⟩=>?_;subst z1 z2;cases ed:zbd S2' y' f d with
       |none=>rw[ed] at h;exact h.elim
       | some S4=>
         rw[ed] at h;unfold zbd at ed;cases y' with
         | ref i=>
           obtain⟨b,h1,rfl⟩:=r2;dsimp only at ed;cases eo:S2'.get i with
           |none=>rw[eo] at ed;cases ed
           | some ob=>
             rw[eo] at ed;cases ob with
             | ins c fs=>
               obtain⟨b',h2,C,dx,ws,hC,hb,rf⟩:=hh2.obj _ _ eo;rw[h1] at h2;cases h2;dsimp only at ed;split at ed
               . rename_i c2;obtain⟨_,_,cl,_,na⟩:=G.clsAt (.inl (zhP hff)) hC;have rv:=r1.ext x2;have xw:=Ext.wr hh2 eo h1 (.ins C dx (putF f v ws));exact⟨b,C,dx,ws,rfl,hb,cl,na f hff,by rw[rf.length];exact c2,h ι2 _ σ ((x1.trans x2).trans xw) (hs2.ext xw) (hh2.wr eo h1 ed ⟨C,dx,_,hC,zai,(rf.put f rv).up xw.pre xw.kp⟩)⟩
               . cases ed
             |_=>cases ed
         |_=>cases ed
     |err y S3=>rw[e3] at h;exact h.elim
     |bad=>rw[e3] at h;exact h.elim
   |err d S2=>rw[e2] at h;exact h
   |bad=>rw[e2] at h;exact h
 |err d S1=>rw[e1] at h;exact h.elim
 |bad=>rw[e1] at h;exact h.elim
noncomputable def zmE (X:Cx)(C:Addr)(sp:Sp)(dvs:List V)(t:TA):TE:=fun σ H Q=>t σ H fun vs H1=>∀x dx,H1 x=none->H1 dx=none->dx≠x->
 ∃E,sp (.ref x::(vs++dvs)) (upd (upd H1 dx (.own x)) x (.ins C dx [])) (fun v H2=>v=.non/\Q (.ref x) H2) E/\∀pins s1 a H' s',Inv X pins σ (upd (upd H1 dx (.own x)) x (.ins C dx [])) s1->Inv X pins σ H' s'->Fly s1.heap.objs.size H' s'.heap a->E (.ref a) none H'->X.xe (.ref a) s'
theorem zjs (M:Mk X.K C f)(F:FnOk X.prog X.w X.K X.mg X.base (CXe X.prog X.w) k f fd ps sp)(hr:Room (k+1) X.A)(hg:Gl X x)(hm:X.mg x=some (.ref C))(hb:Binds X.K fd ps ds)(hd:Vals dvs ds)
  (ha:PA X (e::es) t) (hdb:(x == ("__debug__":Str))=false) (he:starEach (e::es) X.env=(false,eval e X.env)::starEach es X.env) (hpl:(backTo pos (starEach es X.env)).any (·.1)=false) :
  PE X (.Call (.Name x p) (e::es) [] pos) (zmE X C sp dvs t):=by
 intro pins s σ H Q I h;refine wpAny_Call_Name_kw (zbf I hg hm ?_ hdb);refine callWith_K I.ok.mod.kin M.kp (thn (ha pos pins s σ H _ I h) fun us s1 ⟨vs,H1,I1,r,q⟩=>⟨I1.kIn,?_⟩) he hpl;obtain⟨E,hq,hx⟩:=q (s1.heap.objs.size+1) s1.heap.objs.size (I1.hok.fresh (le_succ _)) (I1.hok.fresh (le_refl _)) (ne_of_lt (lt_succ_self _));have I2:=Inv.made (C:=C) I1;have r2:Vals (V.ref (s1.heap.objs.size+1)::(vs++dvs)) (Value.ref (s1.heap.objs.size+1)::(us++ds)):=.cons rfl (r.append hd);have hl:(Value.ref (s1.heap.objs.size+1)::us++ds).length=ps.length:=by
  have e:=r2.length;rw[F.len _ _ _ _ hq] at e;exact e.symm
 refine wpAny_call (zfM I1.kIn M.makes M.init (beq_iff_eq.mp M.fn) (codeAny_mono (F.run _ X.stack _ _ ⟨Value.ref (s1.heap.objs.size+1)::us,[]⟩ (Value.ref (s1.heap.objs.size+1)::(us++ds)) _ _ E (hr.make C us [])
  (I2.env0.make C us []) (hb _ (Value.ref (s1.heap.objs.size+1)::us) I2.kIn hl) r2 hq) fun r s' hq'=>?_))
 cases r with
 | error e=>
   obtain⟨a,H',rfl,os,bare,un,hok,fl,hE⟩:=hq';exact hx pins _ a H' s' I2 (I2.call' os un hok bare (fun b z=>absurd z (by simp))) fl hE
 | ok fl=>
   cases fl with
   | ret u=>
     obtain⟨v,H',I3,rv,ev,q3⟩:=I2.after hq';subst ev;exact⟨rv,⟨V.ref (s1.heap.objs.size+1),H',I3,rfl,q3⟩⟩
   |next=>exact False.elim hq'
   |brk=>exact False.elim hq'
   |cont=>exact False.elim hq'
theorem zoZ (G:Gd T cf k N sc X)(hi:T.inits.contains (c,f,j)=true)(hx:T.cls[c]?=some x)(hg:isGl sc x=true)(hd:(x == ("__debug__":Str))=false)(ha:PA X (e::es) (tAs X.K cf ces))(hst:(e::es).all zaj=true) :
  PS X (.Expr (.Call (.Name x p) (e::es) [] cp) pos) (tB X cf (.mk c f x j ces)):=by
 obtain⟨C,fa,fd,ps,hC,M,F,hb⟩:=(G.tab.inx c f j hi).ex;obtain⟨x',e1,_,hm,_⟩:=G.clsAt (.inr (.inl (zhP hi))) hC;rw[hx] at e1;cases e1;rw[all_cons,and_eq_true] at hst;refine PS.imp (ze4 (zjs M F G.room' (G.gl hg) hm hb (Vals.nons j) ha hd (zak hst.1 es X.env) (zaM hst.2)) (zbU rfl _ _ _)) fun D σ H ⟨δ,ι,S,hs,hh,h⟩=>?_;simp[exT] at h;cases e1:evEs cf ces δ S with
 | ok ds S1=>
   rw[e1] at h;dsimp only at h;unfold appW at h;refine tAs.run hs hh (Q:=fun ds' S'=>ds'=ds/\S'=S1) (by rw[e1];exact⟨rfl,rfl⟩) fun ds' vs ι1 H1 S1' x1 hs1 hh1 r1 ⟨z1,z2⟩=>?_;subst z1 z2;intro y dy hy hdy hne;have hh2:=hh1.new hdy (.own y);have x2:Ext ι1 H1 ι1 (upd H1 dy (.own y)):=Ext.new hdy _;have hy2:(upd H1 dy (.own y)) y=none:=by rw[zah (Ne.symm hne)];exact hy
   have hh3:=hh2.obj' hy2 (.ins C dy []) (.ins c []) ⟨C,dy,[],hC,zai,rfl⟩;have x3:Ext ι1 (upd H1 dy (.own y)) (ι1++[y]) (upd (upd H1 dy (.own y)) y (.ins C dy [])):=Ext.obj hh2 hy2 _;have x4:=(x1.trans x2).trans x3;refine⟨fun v _ H'=>∃d T' a ι',cf f (.ref S1'.len::(ds'++List.replicate j .non)) (S1'.push (.ins c []))=.err d T'/\v=.ref a/\Ext (ι1++[y]) (upd (upd H1 dy (.own y)) y (.ins C dy [])) ι' H'/\RV X.K ι' H' d (.ref a)/\RH X.K ι' H' T',⟨ι1++[y],S1'.push (.ins c []),.ref S1'.len::(ds'++List.replicate j .non),⟨.ref y,_,rfl,⟨y,hh2.last y,rfl⟩,RVs.append ((r1.ext x2).ext x3) (RVs.nons j)⟩,hh3,?_⟩,?_⟩
   . cases e2:cf f (.ref S1'.len::(ds'++List.replicate j .non)) (S1'.push (.ins c [])) with
     | ok d T'=>
       rw[e2] at h;intro v H' ι' x' r hT;cases d with
       |non=>exact⟨r,h ι' H' σ (x4.trans x') (hs.ext (x4.trans x')) hT⟩
       |_=>exact h.elim
     |err d T'=>exact fun a H' ι' x' r hT=>⟨d,T',a,ι',rfl,rfl,x',r,hT⟩
     |bad=>rw[e2] at h;exact h.elim
   . rintro pins s1 a H' s' I1 I' fl ⟨d,T',a',ι',e2,z,x',r,hT⟩;cases z;rw[e2] at h;obtain⟨_,_,_,_,_,g,_⟩:=id fl.ex;exact h a ι' H' s' s1.heap.objs.size pins (x4.trans x') r hT I' fl I1.sz (le_of_lt (Nat.lt_of_le_of_lt fl.lo (Heap.lt_size g))) fun p hp=>Heap.lt_size (I1.pin p hp).1
 |err d S1=>rw[e1] at h;exact h.elim
 |bad=>rw[e1] at h;exact h.elim
theorem zmM {st:Stmt}(hb:PS X st (tB X cf b))(hr:PSs X rest (tS X cf r)):PSs X (st::rest) (tS X cf (.blk b r)):=by
 refine PSs.imp (zat hb hr) fun E σ H ⟨δ,ι,S,Q,hs,hh,w,l⟩=>⟨δ,ι,S,hs,hh,?_⟩;simp[exS] at w;cases e:exT cf b δ S with
 |ok δ' S1=>rw[e] at w;exact fun ι' H' σ' x' hs' hT=>⟨δ',ι',S1,Q,hs',hT,w,l.up x'⟩
 | err d S1=>
   rw[e] at w;exact fun a ι' H' s' lo pins x' rv hT I' fl l1 l2 l3=>l (.ex d) ι' H' S1 x' hT w a σ pins s' rv I' (fl.mono l1)
 |bad=>rw[e] at w;exact w.elim
noncomputable abbrev pnC (X:Cx)(pn:List (Addr × Obj))(E:Value->Shared->Prop):Cx:={X with pn:=pn,xe:=E}
theorem zh8 {σ:L2.St}(I:Inv X pins σ H s)(h:∀p∈pn++pins',p∈X.pn++pins):Inv (pnC X pn E) pins' σ H s:=
 ⟨⟨I.ok.mod,I.ok.kind,I.ok.glob,I.ok.blt,I.ok.above,I.ok.inj,I.ok.has,I.ok.cab,I.ok.hd,I.ok.frames,I.ok.stk,I.ok.exf,I.ok.bs,I.ok.bsz,I.ok.noex,I.ok.exfs,I.ok.funs,I.ok.frf⟩,I.os,I.bare,I.base,I.loc,I.cell,I.free,I.freeC,fun p hp=>I.pin p (h p hp),I.hok,I.len⟩
theorem zfR {σ:L2.St}(ok:X.Ok)(I:Inv (pnC X pn E) pins' σ H s)(h:∀p∈X.pn++pins,p∈pn++pins'):Inv X pins σ H s:=
 ⟨ok,I.os,I.bare,I.base,I.loc,I.cell,I.free,I.freeC,fun p hp=>I.pin p (h p hp),I.hok,I.len⟩
theorem RS.unset {K:PySem.W.Frag}(h:RS K ι H δ σ)(i:Nat):RS K ι H (δ.set i none) (σ.set i none):=by
 refine⟨by simp[h.1],fun j e hj=>?_⟩;by_cases hij:i=j
 . subst hij;rw[List.getElem?_set] at hj;simp only[if_true] at hj;split at hj<;>cases hj
 . rw[getElem?_set_ne hij] at hj⊢;exact h.2 j e hj
theorem zmI (G:Gd T cf k N sc X)(hb:∀pn E,PassesOwn (model X.prog X.w) X.A X.env E->PSs (pnC X pn E) body (tB (pnC X pn E) cf b))(stk:X.stack=X.env::X.outer)(fr:X.env.frame=some X.env.locals)
  (ht:T.xtrs.contains xR=true) (hg:isGl sc xR=true) (hdb:(xR == ("__debug__":Str))=false) (hn:N[ie]?=some n) (hy:N[ix]?=some y) (nl:sc.names.lookup n=some .local) (yl:zb4 sc y=true) (n1:(n == ("__debug__":Str))=false) (n2:(n == ("__classdict__":Str))=false) (hij:ie≠ix) (hr:PSs X rest (tS X cf r)) :
  PSs X (.Try body [.ExceptHandler (some (.Name xR np)) (some n) [.Assign [.Name y p1] (.Name n p2) p3] hp] [] [] pos::rest) (tS X cf (.tryS b xR ie ix r)):=by
 obtain⟨CR,hm,hx⟩:=G.tab.xtb.tr xR ht;have ps:PS X (.Try body [.ExceptHandler (some (.Name xR np)) (some n) [.Assign [.Name y p1] (.Name n p2) p3] hp] [] [] pos) (fun D σ H=>∃δ ι S,RS X.K ι H δ σ/\RH X.K ι H S/\(match exT cf b δ S with
   |.ok δ' S1=>∀ι' H' σ',Ext ι H ι' H'->RS X.K ι' H' δ' σ'->RH X.K ι' H' S1->D.nx σ' H'
   |.err d S1=>∀a ι' H',Ext ι H ι' H'->RV X.K ι' H' d (.ref a)->RH X.K ι' H' S1->(∃c fs,zbM S1 d=some (c,fs))/\D.nx ((σ.set ie none).set ix (some (.ref a))) H'
   |.bad=>False)):=by
  intro pins s σ H D I ⟨δ,ι,S,hs,hh,h⟩;apply wpAny_Try_except;refine wpAny_mono (hb (X.pn++pins) (fun e s1=>wpAny (model X.prog X.w) X.A (noteFrame e X.env) (fun _ s2=>wpAny (model X.prog X.w) X.A (setFlight e none) (fun _ s3=>wpAny (model X.prog X.w) X.A (handleBy e X.env [.ExceptHandler (some (.Name xR np)) (some n) [.Assign [.Name y p1] (.Name n p2) p3] hp]) (SP X pins D) X.xe s3) X.xe s2) X.xe s1) PassesOwn.looking [] s σ H {nx:=D.nx,rt:=fun _ _=>False} (zh8 I (by simp)) ⟨δ,ι,S,hs,hh,?_⟩) (fun f s1 z=>?_) fun _ _ z=>z
  . cases e:exT cf b δ S with
    |ok δ' S1=>rw[e] at h;exact h
    |bad=>rw[e] at h;exact h
    | err d S1=>
      rw[e] at h;intro a ι' H' s' lo pins' x' rv hT I' fl l1 l2 l3;have J:Inv X pins σ H' s':=zfR I.ok I' (fun p hp=>mem_append_left _ hp);obtain⟨⟨c,fs,ec⟩,q⟩:=h a ι' H' x' rv hT;obtain⟨l,rfl,hl⟩:=zcU ec;obtain⟨b',i1,z⟩:=rv;obtain⟨b2,i2,C,dx,od,ws,hC,h1,h2,rf⟩:=hT.obj l _ hl;rw[i1] at i2;cases i2;cases z;exact zjY J stk fr fl l1 l2 (fun p hp=>l3 p (mem_append_left _ hp)) h1 (hx c C hC) (G.gl hg) hm hdb (by rw[G.nm];exact G.nd) (by rw[G.nm];exact hn) (by rw[G.nm];exact hy) (G.loc n nl) (G.lc yl).1 (G.lc yl).2 n1 n2 hij q
  . cases f with
    | next=>
      obtain⟨σ',H',I',q⟩:=z;exact wpAny_execs_nil ⟨σ',H',zfR I.ok I' (fun p hp=>mem_append_left _ hp),q⟩
    |ret u=>obtain⟨_,_,_,_,_,z⟩:=z;exact z.elim
    |brk=>obtain⟨_,_,_,z⟩:=z;exact z.elim
    |cont=>obtain⟨_,_,_,z⟩:=z;exact z.elim
 refine PSs.imp (zat ps hr) fun E σ H ⟨δ,ι,S,Q,hs,hh,w,l⟩=>⟨δ,ι,S,hs,hh,?_⟩;simp[exS] at w;cases e:exT cf b δ S with
 |ok δ' S1=>rw[e] at w;exact fun ι' H' σ' x' hs' hT=>⟨δ',ι',S1,Q,hs',hT,w,l.up x'⟩
 |bad=>rw[e] at w;exact w.elim
 | err d S1=>
   rw[e] at w;intro a ι' H' x' rv hT;dsimp only at w;split at w
   . rename_i c;obtain⟨⟨c,fs⟩,ec⟩:=Option.isSome_iff_exists.mp c;exact⟨⟨c,fs,ec⟩,(δ.set ie none).set ix (some d),ι',S1,Q,((hs.ext x').unset ie).set rv ix,hT,w,l.up x'⟩
   . exact w.elim
end
end R
end
section
namespace R
open PySem PySem.Spec PyProof.Rows L2
variable [Mks]
theorem zjE (h:env.frame=env'.frame):noteFrame e env=noteFrame e env':=by
 unfold noteFrame PySem.frameOf;rw[h]
noncomputable abbrev xeC (X:Cx)(E:Value->Shared->Prop):Cx:={X with xe:=E}
section
variable {X:Cx} {E:Value->Shared->Prop} {pins:List (Addr × Obj)} {σ:L2.St} {H:Hp} {s:Shared}
theorem zh6 (I:Inv X pins σ H s):Inv (xeC X E) pins σ H s:=zh8 I fun _ z=>z
theorem zb5 (I:Inv (xeC X E) pins σ H s):Inv X pins σ H s:=zh8 (X:=xeC X E) I fun _ z=>z
theorem zpa (f:∀e s,X.xe e s->False)(h:PA X es t):PA (xeC X E) es t:=fun pos pins s σ H Q I q=>
 wpAny_mono (h pos pins s σ H Q (zb5 I) q) (fun u s1 ⟨v,H1,I1,r,q⟩=>⟨v,H1,zh6 I1,r,q⟩) fun _ _ z=>(f _ _ z).elim
theorem zkl (f:∀e s,X.xe e s->False)(h:PTs X es t):PTs (xeC X E) es t:=fun pins s σ H Q I q=>
 wpAny_mono (h pins s σ H Q (zb5 I) q) (fun u s1 ⟨H1,I1,q⟩=>⟨H1,zh6 I1,q⟩) fun _ _ z=>(f _ _ z).elim
theorem zno (f:∀e s,X.xe e s->False)(h:PG X tg t):PG (xeC X E) tg t:=fun pins s σ H v u Q I r q=>
 wpAny_mono (h pins s σ H v u Q (zb5 I) r q) (fun u s1 ⟨σ1,H1,I1,q⟩=>⟨σ1,H1,zh6 I1,q⟩) fun _ _ z=>(f _ _ z).elim
noncomputable def XEz (Z:Addr->Hp->Prop):Cx->Value->Shared->Prop:=fun Y e s'=>∃a σ' H' pins',e=.ref a/\Inv Y pins' σ' H' s'/\Fly Y.s₀.heap.objs.size H' s'.heap a/\Z a H'
noncomputable def XOut (X:Cx)(σ:L2.St)(Z:Addr->Hp->Prop):Prop:=∀a H' s' lo pins,Z a H'->Inv X pins σ H' s'->Fly lo H' s'.heap a->X.s₀.heap.objs.size<=lo->lo<=s'.heap.objs.size->(∀p∈X.pn++pins,p.1<lo)->X.xe (.ref a) s'
theorem zga (out:XOut X σ Z)(I2:Inv X pins σ H2 s2)(stk:X.stack=X.env::X.outer)(fr:X.env.frame=some X.env.locals)
  (yf:Y.env.frame=X.env.frame) (l:X.s₀.heap.objs.size<=Y.s₀.heap.objs.size) (conv:∀pins' σ' H' s',Inv Y pins' σ' H' s'->Inv X pins σ H' s'/\(∃m,s'.heap.Ns C m)/\H' C=none) (hC:s2.heap.objs.size<C) (hpn:∀q∈X.pn++pins,q.1<Y.s₀.heap.objs.size) (hz:XEz Z Y e s') :
  notedBy (model X.prog X.w) X.A Y.env (fun x s''=>compPost (model X.prog X.w) X.A X.xe use Qc acc C (.error x) s'') e s':=by
 obtain⟨a,σ',H',pins',rfl,IY,fl,z⟩:=hz;obtain⟨I,⟨m,hm⟩,hCn⟩:=conv _ _ _ _ IY
 obtain⟨K,dx,vs,sl,h1,h2,tr,h4⟩:=id fl.ex;unfold notedBy;rw[zjE yf];have aC:a≠C:=fun z=>by rw[z,hCn] at h1;cases h1
 have hL:C≠X.env.locals:=ne_of_gt (lt_trans I2.lt hC);refine znJ (by rw[I.ok.frames,stk]) (by rw[<-stk];exact I.stack) fr h2 rfl tr (le_of_lt (Nat.lt_of_le_of_lt fl.lo (Heap.lt_size h2))) fun h' nt=>?_;obtain⟨I1,f1⟩:=zb6 I stk fr fl l hpn h2 rfl nt;have cf:C∉(X.env::X.outer).filterMap (·.frame):=fun hm=>by
  have hs2:=I2.stack;rw[stk] at hs2;obtain⟨_,o,ho,_⟩:=hs2.mem hm;exact absurd (lt_trans (Heap.lt_size ho) hC) (lt_irrefl _)
 obtain⟨o,es,ep,ho,hd,hrest⟩:=hm;have nv:vs[1]?≠some (.ref C):=fun q=>by
  rcases tr with t|⟨T,oT,ts,t1,t2,t3,t4,t5,t6⟩
  . rw[t] at q;cases q
  . rw[t1] at q;cases q;rw[t3] at ho;cases ho;rw[t4] at hd;cases hd
 have ho':=nt.keep C o (Ne.symm aC) nv cf ho;obtain⟨vs',e1,_,⟨T,oT,ts,t1,t2,t3,t4,t5,t6⟩,hT4⟩:=nt.exc;have TC:T≠C:=fun q=>by rw[q,ho'] at t3;cases t3;rw[hd] at t4;cases t4
 have main:∃m,h'.Ns C m/\∀h'',Heap.SameBut C h' h''->∀cenv:Env,cenv.locals=C->wpAny (model X.prog X.w) X.A (PySem.passOn "comprehension.variables-let-go" (.ref a) cenv:Sem Value) (fun _ _=>False) X.xe {s' with heap:=h''}:=by
  refine⟨m,⟨o,es,ep,ho',hd,hrest⟩,fun h'' sb cenv _=>?_⟩;have I3:Inv X pins σ H' {s' with heap:=h''}:=Inv.turned (s:={s' with heap:=h'}) (h':=h'') I1 (t':=s'.toks) (fun b o hb e=>(sb.2 b hb).trans e) hCn hL (.inr (le_trans I2.sz (le_of_lt hC))) (fun x c e=>by
   obtain⟨v,o,ho,_⟩:=I2.cell x c e;exact ne_of_lt (lt_trans (Heap.lt_size ho) hC)) fun q hq=>ne_of_lt (lt_trans (Heap.lt_size (I2.pin q hq).1) hC)
  have e3:h''.get? a=some _:=(sb.2 a aC).trans e1;have f3:Fly Y.s₀.heap.objs.size H' h'' a:=⟨⟨K,dx,vs',sl,h1,e3,.inr ⟨T,oT,ts,t1,t2,(sb.2 T TC).trans t3,t4,t5,t6⟩,fun T' q=>by
   obtain⟨K',dx',vs2,sl2,g1,g2,_,g4⟩:=f1.ex;rw[e1] at g2;have:vs2=vs':=by simpa using (congrArg (fun o=>o.map (·.data)) g2).symm
   exact g4 T' (by rw[this];exact q)⟩,fl.lo⟩
  refine wpAny_bind (wpAny_field e3 rfl t1 ?_);refine wpAny_bind (zcp I3 stk fr f3 l hpn fun s3 I4 f4=>wpAny_throw ?_);obtain⟨_,_,_,_,_,g,_⟩:=id f4.ex;exact out a H' s3 _ pins z I4 f4 l (le_of_lt (Nat.lt_of_le_of_lt f4.lo (Heap.lt_size g))) hpn
 cases use<;>exact main
end
section
variable {X:Cx} {sc scope:Scope} {tgs:List Str} {js:List Nat} {elt tg iter:Expr} {ifs:List Expr} {pos:Pos} {wi:TI} {g:TG} {tt:TT} {te:(Addr->Hp->Prop)->TE}
theorem zhG (tgs:List Str)(js:List Nat)(hc:X.calm=true)(ok:CompOk X.env.scope scope X.N js)(stk:X.stack=X.env::X.outer)(fr:X.env.frame=some X.env.locals)(hi:PI X tg iter wi)
  (hg:∀cl C fp s H pn,PG (zax X (capN X.N tgs js) scope cl C fp s H pn) tg g)
  (ht:∀cl C fp s H pn,PTs (zax X (capN X.N tgs js) scope cl C fp s H pn) ifs tt)
  (he:∀Z cl C fp s H pn,PE (cxX (XEz Z) X (capN X.N tgs js) scope cl C fp s H pn) elt (te Z))
  (hs:∀x,foldedSetIterable iter X.env x=pure x) :
  PE X (.ListComp elt [⟨tg,iter,ifs,0⟩] scope pos) (fun σ H Q=>∃Z,XOut X σ Z/\zeN tgs.length js wi g tt (te Z) σ H Q):=by
 intro pins s σ H Q I ⟨Z,out,h⟩;have frees:∀y∈scope.names,y.2=.free->∃c,X.env.cells.lookup y.1=some c:=fun y hy hk=>I.ok.has y.1 (ok.frees y hy hk);refine wpAny_comprehension_free rfl hs (zaK frees) ok.kind ok.locs (thn (hi pins s σ H _ I h) fun v s1 h1=>thn h1 fun itv s2 h2=>?_);obtain⟨it,fp,tn,J,H2,e,I2,T,st2,f2,rd⟩:=h2;subst e;refine zbW (XEz Z) hc rfl ok (fun cl C fp s H pn=>zno (fun _ _ z=>z) (hg cl C fp s H pn)) (fun cl C fp s H pn=>zkl (fun _ _ z=>z) (ht cl C fp s H pn)) (he Z) I2 T st2 f2 rd (fun p C H' s' I' hm hC hn q=>?_) fun Y p C yf l conv hC hpn e s' z=>zga out I2 stk fr yf l conv hC hpn z
 obtain⟨m,hm⟩:=hm;refine⟨m,hm,fun h' hs'=>⟨.ref p,H',?_,rfl,q⟩⟩;exact I'.turned (t':=s'.toks) (fun b o hb e=>(hs'.2 b hb).trans e) hn (ne_of_gt (lt_trans I2.lt hC)) (.inr (le_trans I2.sz (le_of_lt hC))) (fun x c e=>by
  obtain⟨v,o,ho,_⟩:=I2.cell x c e;exact ne_of_lt (lt_trans (Heap.lt_size ho) hC)) fun q hq=>ne_of_lt (lt_trans (Heap.lt_size (I2.pin q hq).1) hC)
theorem zjh (tgs:List Str)(js:List Nat)(hN:X.N.Nodup)(hi':X.N[i]?=some y)(hy:Loc X.env.scope y)(hc:X.calm=true)(ok:CompOk X.env.scope scope X.N js)(stk:X.stack=X.env::X.outer)(fr:X.env.frame=some X.env.locals)(hi:PI X tg iter wi)
  (hg:∀cl C fp s H pn,PG (zax X (capN X.N tgs js) scope cl C fp s H pn) tg g)
  (ht:∀cl C fp s H pn,PTs (zax X (capN X.N tgs js) scope cl C fp s H pn) ifs tt)
  (he:∀Z cl C fp s H pn,PE (cxX (XEz Z) X (capN X.N tgs js) scope cl C fp s H pn) elt (te Z))
  (hsw:swapsWith (.ListComp elt [⟨tg,iter,ifs,0⟩] scope pos) (some (.Name y py)) spos.line X.env=pure true)
  (hs:∀x,foldedSetIterable iter X.env x=pure x)
  (hf:X.fn y=true\/X.env.scope.names.lookup y=some .local) :
  PS X (.Assign [.Name y py] (.ListComp elt [⟨tg,iter,ifs,0⟩] scope pos) spos) (tAsg (fun σ H Q=>∃Z,XOut X σ Z/\zeN tgs.length js wi g tt (te Z) σ H Q) (zeq i)):=by
 intro pins s σ H D I ⟨Z,out,h⟩;have frees:∀y∈scope.names,y.2=.free->∃c,X.env.cells.lookup y.1=some c:=fun y hy hk=>I.ok.has y.1 (ok.frees y hy hk);rw[exec_Assign_Name_used _ _ _ _ hsw];refine wpAny_bind (wpAny_standAt (wpAny_bind ?_));refine wpAny_bind (wpAny_mono (wpAny_comprehension_free rfl hs (zaK frees) ok.kind ok.locs
  (thn (hi pins s σ H _ I h) fun v s1 h1=>thn h1 fun itv s2 h2=>?_)) (fun _ s' hq=>wpAny_pure (wpAny_pure hq)) fun _ _ e=>e)
 obtain⟨it,fp,tn,J,H2,e,I2,T,st2,f2,rd⟩:=h2;subst e;refine zbW (XEz Z) hc rfl ok (fun cl C fp s H pn=>zno (fun _ _ z=>z) (hg cl C fp s H pn)) (fun cl C fp s H pn=>zkl (fun _ _ z=>z) (ht cl C fp s H pn)) (he Z) I2 T st2 f2 rd (Q:=fun x H1=>zeq i x σ H1 D.nx) (fun p C H' s' I' hm hC hn q=>?_) fun Y p C yf l conv hC hpn e s' z=>zga out I2 stk fr yf l conv hC hpn z
 obtain⟨m,hm⟩:=hm;have hL:C≠X.env.locals:=ne_of_gt (lt_trans I2.lt hC);have hCc:∀x c,X.env.cells.lookup x=some c->c≠C:=fun x c e=>by
  obtain⟨v,o,ho,_⟩:=I2.cell x c e;exact ne_of_lt (lt_trans (Heap.lt_size ho) hC)
 refine wpAny_assign_Name (zcB I' hN hi' hy (v:=.ref p) rfl (fun s'' I'' hch=>?_) hf);obtain⟨a,hsb,ha⟩:=hch;have hCa:C≠a:=by
  rcases ha with z|z
  . rw[z];exact hL
  . exact fun e=>hCc y a z e.symm
 refine⟨m,hm.sameBut hsb hCa,fun h' hs'=>⟨σ.set i (some (.ref p)),H',?_,q⟩⟩;exact I''.turned (t':=s''.toks) (fun b o hb e=>(hs'.2 b hb).trans e) hn hL (.inr (le_trans I2.sz (le_of_lt hC))) hCc fun q hq=>ne_of_lt (lt_trans (Heap.lt_size (I2.pin q hq).1) hC)
noncomputable def zd6 (sp:Sp)(t:TA)(Z:Addr->Hp->Prop):TE:=fun σ H Q=>t σ H fun vs H1=>∃E,sp vs H1 Q E/\∀a H',E (.ref a) none H'->Z a H'
theorem zjx (F:FnOk Y.prog Y.w Y.K Y.mg Y.base (CXe Y.prog Y.w) k fa fd ps sp)(hr:Room k Y.A)(hg:Gl Y x)(hm:Y.mg x=some (.ref fa))(hk:keepIn Y.K (.ref fa)=true)(hb:Binds Y.K fd ps [])
  (mono:∀{σ:L2.St} {H:Hp} {Qa Qb:List V->Hp->Prop},(∀vs H,Qa vs H->Qb vs H)->t σ H Qa->t σ H Qb) (f:∀e s,Y.xe e s->False) (ha:PA Y (e::es) t) (hdb:(x == ("__debug__":Str))=false) (he:starEach (e::es) Y.env=(false,eval e Y.env)::starEach es Y.env) (hpl:(backTo pos (starEach es Y.env)).any (·.1)=false):PE (xeC Y (XEz Z Y)) (.Call (.Name x p) (e::es) [] pos) (zd6 sp t Z):=by
 refine PE.imp (zdH F hr hg hm hk hb (zpa f ha) hdb he hpl) fun σ H Q h=>?_;exact mono (fun vs H1 ⟨E,hE,z⟩=>⟨E,hE,fun pins s1 a H' s' I1 I' fl e=>⟨a,σ,H',pins,rfl,zb5 I',fl.mono (zb5 I1).sz,z a H' e⟩⟩) h
end
section
variable {T:Tab} {cf:CF} {k:Nat} {N:List Str} {sc:Scope} {X:Cx} {pos p:Pos}
theorem ziC (hfr:CFok cf)(hs:RS X.K ι H δ σ)(hh:RH X.K ι H S)(e:evEs cf ces δ S=.ok ds S1)
  (h:match appX cf f ds S1 with|.ok d S2=>∀v ι' H',Ext ι H ι' H'->RV X.K ι' H' d v->RH X.K ι' H' S2->Qv v H'|.err d S2=>∀a ι' H',Ext ι H ι' H'->RV X.K ι' H' d (.ref a)->RH X.K ι' H' S2->Z a H'|.bad=>False):zd6 (spX X.K cf f) (tAs X.K cf ces) Z σ H Qv:=by
 refine tAs.run hs hh (Q:=fun ds' S'=>ds'=ds/\S'=S1) (by rw[e];exact⟨rfl,rfl⟩) fun ds' vs ι1 H1 S1' x1 hs1 hh1 r1 ⟨z1,z2⟩=>?_;subst z1 z2;unfold appX at h;cases e2:cf f ds' S1'.enter with
 | ok d T'=>
   rw[e2] at h;dsimp only at h;refine⟨fun _ _ _=>False,⟨ι1,S1'.enter,ds',r1,hh1.enter,?_⟩,fun _ _ z=>z.elim⟩;rw[e2];intro v H' ι' x r hT;cases e3:zaZ S1' d T' with
   | ok d' S2=>
     rw[e3] at h;obtain⟨d2,ι2,S3,x2,r2,hh2,z1,z2⟩:=zcy (Q:=fun a S'=>a=d'/\S'=S2) hh1 x r hT (hfr _ _ _ _ _ (.inl e2)).frz (by rw[e3];exact⟨rfl,rfl⟩);subst z1 z2;exact h v ι2 H' (x1.trans x2) r2 hh2
   | err d' S2=>
     unfold zaZ at e3;split at e3
     . cases e3
     . dsimp only at e3;split at e3
       . split at e3
         all_goals first|(split at e3<;>cases e3)|cases e3
       . cases e3
   |bad=>rw[e3] at h;exact h.elim
 | err d T'=>
   rw[e2] at h;refine⟨fun v _ H'=>∃a ι',v=.ref a/\Ext ι1 H1 ι' H'/\RV X.K ι' H' d (.ref a)/\RH X.K ι' H' T',⟨ι1,S1'.enter,ds',r1,hh1.enter,?_⟩,?_⟩
   . rw[e2];exact fun a H' ι' x r hT=>⟨a,ι',rfl,x,r,hT⟩
   . rintro a H' ⟨a',ι',z,x,r,hT⟩;cases z;exact h a ι' H' (x1.trans x) r (hT.keep (hfr _ _ _ _ _ (.inr e2)).frz)
 |bad=>rw[e2] at h;exact h.elim
noncomputable def zpC (RR:Out (List D))(acc:List D):Out (List D)->Prop
 |.ok rest S2=>RR=.ok (acc++rest) S2
 |.err d S2=>RR=.err d S2
 |.bad=>False
noncomputable def ZC (K:PySem.W.Frag)(ι:List Addr)(H:Hp)(lk:List Nat)(RR:Out (List D))(a:Addr)(H':Hp):Prop:=∃ι' d S3,RR=.err d S3/\Ext ι H ι' H'/\RV K ι' H' d (.ref a)/\RH K ι' H' {S3 with lk:=lk}
noncomputable def zoz (K:PySem.W.Frag)(cf:CF)(g:List Nat)(f:Nat)(es:CEs)(RR:Out (List D))(ds:List D)(lks:List Nat)(ι1:List Addr)(H1:Hp)(S1:R.St)(p:Addr)(i:Nat)(σ':L2.St)(H':Hp):Prop:=
 i<=ds.length/\∃δ' ι' S' acc vs,acc.length<=i/\RS K ι' H' δ' σ'/\Ltr K ι1 H1 S1 lks ι' H' S'/\S'.lk=lks++S1.lk/\S1.len<=S'.len/\p∉ι'/\H' p=some (.lst vs)/\RVs K ι' H' acc vs/\zpC RR acc (zaR cf g f es (ds.drop i) δ' S')
theorem zex (hcf:CFok cf)(hs:RS X.K ι H δ σ)(hh:RH X.K ι H S)(e:evL cf it δ S=.ok r S1)(hr:r.1.length<=16777216)(eR:RR=zaR cf is f ces r.1 (R.csl nt js δ) {S1 with lk:=r.2++S1.lk})
  (h:match (generalizing:=false) RR with|.ok ds S3=>∀p vs ι' H',Ext ι H ι' H'->RVs X.K ι' H' ds vs->p∉ι'->H' p=some (.lst vs)->RH X.K ι' H' {S3 with lk:=S1.lk}->H p=none->Qv (.ref p) H'|.err _ _=>True|.bad=>False) :
  zeN nt js (tI X.K cf it) (tG X.K is) tYes (zd6 (spX X.K cf f) (tAs X.K cf ces) (ZC X.K ι H S1.lk RR)) σ H Qv:=by
 refine⟨δ,ι,S,fun r' S'=>r'=r/\S'=S1,hs,hh,by rw[e];exact⟨rfl,rfl⟩,fun J H1 ⟨ds,lks,ι1,S1',x1,hh1,w1,wk⟩=>?_⟩;obtain⟨rfl,rfl⟩:=w1;dsimp only at hr eR;intro p hp;have hpi:=hh1.fresh hp;refine⟨fun i m σ' H'=>m=ds.length - i/\zoz X.K cf is f ces RR ds lks ι1 H1 S1' p i σ' H',⟨_,rfl,zero_le _,R.csl nt js δ,ι1,{S1' with lk:=lks++S1'.lk},[],[],le_refl _,((hs.ext x1).csl _ _).up (prefix_refl _) (Kp.new hp _),⟨Ext.new hp _,(hh1.lk _).new hp _,fun l _=>rfl⟩,rfl,le_refl _,hpi,zai,rfl,?_⟩,?_⟩
 . rw[List.drop_zero,<-eR];cases RR with
   |ok ds' S3=>rfl
   |err d S3=>rfl
   |bad=>exact h
 rintro i m σ' H' ⟨rfl,hle,δ',ι',S',acc,vs,hal,hs',lt,hlk,hln,hpn,hpv,ra,wt⟩;rcases Nat.lt_or_eq_of_le hle with hlt|rfl
 . refine .inr ⟨wk.go i ι' H' S' lt hlt,zoz X.K cf is f ces RR ds lks ι1 H1 S1' p (i+1),fun σ2 H2 h=>⟨_,by omega,rfl,h⟩,fun x H2 hy=>?_⟩;obtain⟨x2,hh2,d,hd,rd⟩:=wk.yld i ι' H' S' x H2 lt hlt hy;have hs2:=hs'.ext x2;have hp2:=x2.keep hpn hpv (by simp);rw[zcW hd] at wt;simp[zaR] at wt;cases ea:asgG is d δ' with
   |none=>rw[ea] at wt;exact wt.elim
   | some δ2=>
     rw[ea] at wt;dsimp only at wt;refine⟨δ',ι',d,δ2,hs2,rd,ea,fun σ2 hs3=>?_⟩;cases e4:evEs cf ces δ2 S' with
     | ok es S4=>
       rw[e4] at wt;dsimp only at wt;have f4:=zbu hcf ces δ2 S' (fun _ _=>True) (by rw[e4];trivial);rw[e4] at f4;apply ziC hcf hs3 hh2 e4;cases e5:appX cf f es S4 with
       | ok z S5=>
         rw[e5] at wt;dsimp only at wt⊢;intro v ι4 H4 x4 rz hh4;have f5:=f4.2.trans ((zc1 hcf).1 _ _ e5);have hp4:=x4.keep hpn hp2 (by simp);have hpn4:=(x4.rest p _ hpn hp2).2;have ra4:=(ra.ext x2).ext x4;have k3:∀l∈lks,S5.get l=S1'.get l:=fun l hl=>(f5.same l (by rw[hlk];exact mem_append_left _ hl) (lt_of_lt_of_le (wk.lks l hl) hln)).trans (lt.lck l hl);refine⟨vs,hp4,by rw[ra4.length,sizeLine_eq];omega,hlt,δ2,ι4,S5,acc++[z],vs++[v],by simp;omega,(hs3.ext x4).up (prefix_refl _) (Kp.tmp hp4),⟨((lt.ext.trans x2).trans x4).tmp hp hp4,hh4.tmp hpn4 hp4,k3⟩,f5.lk.trans hlk,le_trans hln f5.lens,hpn4,zai,?_,?_⟩
         . exact (RVs.append (es:=[z]) ra4 ⟨v,[],rfl,rz,rfl⟩).up (prefix_refl _) (Kp.tmp hp4)
         . cases e6:zaR cf is f ces (ds.drop (i+1)) δ2 S5 with
           | ok rest S6=>
             rw[e6] at wt;show RR=.ok (acc++[z]++rest) S6;rw[wt,List.append_assoc];rfl
           |err d' S6=>rw[e6] at wt;exact wt
           |bad=>rw[e6] at wt;exact wt.elim
       | err z S5=>
         rw[e5] at wt;exact fun a ι4 H4 x4 rz hh4=>⟨ι4,z,S5,wt,((x1.trans lt.ext).trans x2).trans x4,rz,hh4.lk _⟩
       |bad=>rw[e5] at wt;exact wt.elim
     |err es S4=>rw[e4] at wt;exact wt.elim
     |bad=>rw[e4] at wt;exact wt.elim
 . refine .inl ⟨wk.stop _ ι' H' S' lt (le_refl _),?_⟩;rw[List.drop_length] at wt;have wt:RR=.ok (acc++[]) S':=wt;rw[append_nil] at wt;rw[wt] at h;exact h p vs ι' H' (x1.trans lt.ext) ra hpn hpv (lt.rh.lk _) (zeK hh1 x1 hp)
theorem zlb (G:Gd T cf k N sc X)(stk:X.stack=X.env::X.outer)(fr:X.env.frame=some X.env.locals)(hi:N[i]?=some y)(hl:zb4 sc y=true)(hf:T.xfns.contains f=true)(hn:T.fns[f]?=some (x,ps,nd))(hd:(x == ("__debug__":Str))=false)
  (ok:CompOk X.env.scope scope X.N js) (hpi:PI X tg iter (tI X.K cf it)) (hfo:∀x,foldedSetIterable iter X.env x=pure x) (hgl:∀cl C fp s H pn,Gl (zax X (capN X.N tgs js) scope cl C fp s H pn) x)
  (hg:∀cl C fp s H pn,PG (zax X (capN X.N tgs js) scope cl C fp s H pn) tg (tG X.K is)) (ha:∀cl C fp s H pn,PA (zax X (capN X.N tgs js) scope cl C fp s H pn) (e::es) (tAs X.K cf ces)) (hst:(e::es).all zaj=true) :
  PS X (.Assign [.Name y p1] (.ListComp (.Call (.Name x p) (e::es) [] cp) [⟨tg,iter,[],0⟩] scope p2) pos) (tB X cf (.comp i tgs.length js is it f ces)):=by
 obtain⟨fa,fd,F,hm,hk,hb⟩:=G.tab.xtb.fn f x ps nd hf hn;rw[all_cons,and_eq_true] at hst;have he:∀Z cl C fp s H pn,PE (cxX (XEz Z) X (capN X.N tgs js) scope cl C fp s H pn) (.Call (.Name x p) (e::es) [] cp) (zd6 (spX X.K cf f) (tAs X.K cf ces) Z):=fun Z cl C fp s H pn=>
  zjx F G.room (hgl cl C fp s H pn) hm hk hb (fun h ⟨δ,ι,S,Q,hs,hh,w,q⟩=>⟨δ,ι,S,Q,hs,hh,w,fun vs H' z=>h vs H' (q vs H' z)⟩) (fun _ _ z=>z) (ha cl C fp s H pn) hd (zak hst.1 es _) (zaM hst.2)
 have hps:PS X (.Assign [.Name y p1] (.ListComp (.Call (.Name x p) (e::es) [] cp) [⟨tg,iter,[],0⟩] scope p2) pos) (tAsg (fun σ H Q=>∃Z,XOut X σ Z/\zeN tgs.length js (tI X.K cf it) (tG X.K is) tYes (zd6 (spX X.K cf f) (tAs X.K cf ces) Z) σ H Q) (zeq i)):=by
  have hw:∃b,swapsWith (.ListComp (.Call (.Name x p) (e::es) [] cp) [⟨tg,iter,[],0⟩] scope p2) (some (.Name y p1)) pos.line X.env=pure b:=⟨_,rfl⟩;obtain⟨b,hw⟩:=hw;cases b with
  |false=>exact zeg (by rw[G.nm];exact G.nd) (by rw[G.nm];exact hi) (G.lc hl).1 (zhG tgs js G.calm ok stk fr hpi hg (fun _ _ _ _ _ _=>ze3) he hfo) hw (G.lc hl).2
  |true=>exact zjh tgs js (by rw[G.nm];exact G.nd) (by rw[G.nm];exact hi) (G.lc hl).1 G.calm ok stk fr hpi hg (fun _ _ _ _ _ _=>ze3) he hw hfo (G.lc hl).2
 refine PS.imp hps fun D σ H ⟨δ,ι,S,hs,hh,h⟩=>?_;simp[exT] at h;cases e1:evL cf it δ S with
 | ok r S1=>
   rw[e1] at h;dsimp only at h;split at h
   . rename_i heq;split at heq
     . rename_i hlen;cases eR:zaR cf is f ces r.1 (R.csl tgs.length js δ) {S1 with lk:=r.2++S1.lk} with
       | ok ds S3=>
         rw[eR] at heq;cases heq;refine⟨ZC X.K ι H S1.lk (.ok ds S3),(fun a H' s' lo pins ⟨_,_,_,z,_⟩=>nomatch z),zex G.tab.frm hs hh e1 hlen eR.symm ?_⟩;intro p vs ι' H' x' rv hpn hpv hT hp0;refine h (ι'++[p]) H' _ ⟨x'.pre.trans (prefix_append _ _),x'.kp,fun b o hb eb=>⟨(x'.rest b o hb eb).1,fun z=>?_⟩⟩ (((hs.ext x').up (prefix_append _ _) (Kp.refl _)).set (d:=.ref S3.len) ⟨p,hT.last p,rfl⟩ i) (hT.one (l:=0) hpn ⟨vs,hpv,rv.up (prefix_append _ _) (Kp.refl _)⟩);rcases mem_append.mp z with z|z
         . exact (x'.rest b o hb eb).2 z
         . simp at z;subst z;rw[hp0] at eb;cases eb
       |err d S3=>rw[eR] at heq;cases heq
       |bad=>rw[eR] at heq;cases heq
     . cases heq
   . rename_i heq;split at heq
     . rename_i hlen;cases eR:zaR cf is f ces r.1 (R.csl tgs.length js δ) {S1 with lk:=r.2++S1.lk} with
       |ok ds S3=>rw[eR] at heq;cases heq
       | err d0 S3=>
         rw[eR] at heq;obtain⟨rfl,rfl⟩:=Out.err.inj heq;refine⟨ZC X.K ι H S1.lk (.err d0 S3),fun a H' s' lo pins ⟨ι',d',S3',z,x',rv,hT⟩ I' fl l1 l2 l3=>?_,zex G.tab.frm hs hh e1 hlen eR.symm trivial⟩;cases z;exact h a ι' H' s' lo pins x' rv hT I' fl l1 l2 l3
       |bad=>rw[eR] at heq;cases heq
     . cases heq
   . exact h.elim
 |err d S1=>rw[e1] at h;exact h.elim
 |bad=>rw[e1] at h;exact h.elim
end
end R
end
section
namespace R
open PySem PySem.Spec PyProof.Rows L2
variable [Mks]
noncomputable def znZ:CL->Bool|.comp ..=>true|_=>false
noncomputable def isR1:CL->Bool|.rng1 _=>true|_=>false
noncomputable def zgI:CL->Bool|.rng1 _=>true|.enum _=>true|_=>false
noncomputable def zfP:CL->Bool|.enum _=>true|_=>false
noncomputable def zfQ:Expr->Bool|.Tuple _ _ _=>true|_=>false
noncomputable def zbv:Expr->List Str
 |.Name x _=>[x]
 |.Tuple es _ _=>es.filterMap fun|.Name x _=>some x|_=>none
 |_=>[]
noncomputable def zjX (sc scope:Scope)(N:List Str)(js:List Nat):Bool:=
 decide (scope.kind=.function)&&scope.names.all (fun y=>decide (y.2≠.cell))&&scope.names.all (fun y=>decide (y.2≠.local) || decide (scope.names.lookup y.1=some .local))
  && scope.names.all (fun y=>decide (y.2≠.free) || decide (sc.names.lookup y.1=some .cell) || decide (sc.names.lookup y.1=some .free))&&js.all (fun j=>decide (scope.names.lookup (N.getD j "")=some .free)&&decide (j<N.length))
noncomputable def nmB (x:Str):Bool:=!(x == ("__debug__":Str))&&!(x == ("__classdict__":Str))&&!(x == ("__name__":Str))
noncomputable def tyB (t:String)(y:Str):Bool:=(t == "bool"&&y == ("bool":Str)) || (t == "int"&&y == ("int":Str)) || (t == "str"&&y == ("str":Str)) || (t == "list"&&y == ("list":Str)) || (t == "tuple"&&y == ("tuple":Str)) || (t == "dict"&&y == ("dict":Str))
noncomputable def biB:Bi->Str->Nat->Bool
 |.len,x,n=>x == ("len":Str)&&n == 1
 |.abs,x,n=>x == ("abs":Str)&&n == 1
 |.isin _,_,_=>false
noncomputable def za6:Expr->Option Str|.Name x _=>some x|_=>none
noncomputable def zcH:Expr->Option Const|.Constant c _ _=>some c|_=>none
noncomputable def zhw:Expr->Option (Expr × Operator × Expr)|.BinOp l o r _=>some (l,o,r)|_=>none
noncomputable def rdUn:Expr->Option (UnaryOp × Expr)|.UnaryOp o x _=>some (o,x)|_=>none
noncomputable def zef:Expr->Option (Expr × List CmpOp × List Expr)|.Compare l os rs _=>some (l,os,rs)|_=>none
noncomputable def zcm:Expr->Option (BoolOp × List Expr × Pos)|.BoolOp o vs p=>some (o,vs,p)|_=>none
noncomputable def rdIf:Expr->Option (Expr × Expr × Expr)|.IfExp t x y _=>some (t,x,y)|_=>none
noncomputable def zeR:Expr->Option (List Expr)|.Tuple xs _ _=>some xs|_=>none
noncomputable def zec:Expr->Option (List Expr)|.List xs _=>some xs|_=>none
noncomputable def zeV:Expr->Option (Expr × Expr)|.Dict [some k] [v] _=>some (k,v)|_=>none
noncomputable def zeS:Expr->Option (Expr × Expr)|.Subscript x i _=>some (x,i)|_=>none
noncomputable def zpF:Expr->Option Expr|.Slice none none (some s) _=>some s|_=>none
noncomputable def rdSl:Expr->Option (Option Expr × Option Expr)|.Slice l u st _=>(match st with|none=>some (l,u)|some _=>none)|_=>none
noncomputable def zbN:Expr->Option (Expr × List Expr × List Keyword × Pos)|.Call f as ks p=>some (f,as,ks,p)|_=>none
noncomputable def zbx:Expr->Option (Expr × Str × Pos)|.Attribute o x p=>some (o,x,p)|_=>none
noncomputable def rdLC:Expr->Option (Expr × List Comprehension × Scope × Pos)|.ListComp e gs sc p=>some (e,gs,sc,p)|_=>none
section
variable {e l r x y i f:Expr} {xs rs as:List Expr} {ks:List Keyword} {p:Pos}
theorem zaz (h:za6 e=some n):∃p,e=.Name n p:=by cases e<;>first|(cases h;exact⟨_,rfl⟩)|cases h
theorem zeW (h:zcH e=some c):∃j p,e=.Constant c j p:=by cases e<;>first|(cases h;exact⟨_,_,rfl⟩)|cases h
theorem zhv (h:zhw e=some (l,o,r)):∃p,e=.BinOp l o r p:=by cases e<;>first|(cases h;exact⟨_,rfl⟩)|cases h
theorem zdz (h:rdUn e=some (o,x)):∃p,e=.UnaryOp o x p:=by cases e<;>first|(cases h;exact⟨_,rfl⟩)|cases h
theorem zb3 {os:List CmpOp}(h:zef e=some (l,os,rs)):∃p,e=.Compare l os rs p:=by cases e<;>first|(cases h;exact⟨_,rfl⟩)|cases h
theorem zbG (h:zcm e=some (o,xs,p)):e=.BoolOp o xs p:=by cases e<;>first|(cases h;rfl)|cases h
theorem zjb (h:rdIf e=some (l,x,y)):∃p,e=.IfExp l x y p:=by cases e<;>first|(cases h;exact⟨_,rfl⟩)|cases h
theorem zcF (h:zeR e=some xs):∃j p,e=.Tuple xs j p:=by cases e<;>first|(cases h;exact⟨_,_,rfl⟩)|cases h
theorem zgs (h:zec e=some xs):∃p,e=.List xs p:=by cases e<;>first|(cases h;exact⟨_,rfl⟩)|cases h
theorem zcG (h:zeS e=some (x,i)):∃p,e=.Subscript x i p:=by cases e<;>first|(cases h;exact⟨_,rfl⟩)|cases h
theorem zja (h:rdSl e=some (a,b)):∃p,e=.Slice a b none p:=by
 cases e with
 | Slice l u st p=>
   cases st with
   |none=>cases h;exact⟨_,rfl⟩
   |some _=>cases h
 |_=>cases h
theorem zcd (h:zbN e=some (f,as,ks,p)):e=.Call f as ks p:=by cases e<;>first|(cases h;rfl)|cases h
theorem zbj (h:zbx e=some (x,n,p)):e=.Attribute x n p:=by cases e<;>first|(cases h;rfl)|cases h
theorem zdA (h:rdLC e=some (x,gs,sc,p)):e=.ListComp x gs sc p:=by cases e<;>first|(cases h;rfl)|cases h
end
theorem zab {α:Type}{o:Option α}{f:α->Bool}(h:o.any f=true):∃x,o=some x/\f x=true:=by
 cases o with
 |none=>cases h
 |some x=>exact⟨x,rfl,h⟩
noncomputable def one {α:Type}:List α->Option α | [x]=>some x|_=>none
theorem zaF (h:one xs=some x):xs=[x]:=by
 match xs,h with
 | [y],h=>cases h;rfl
noncomputable def two {α:Type}:List α->Option (α × α) | [x,y]=>some (x,y)|_=>none
theorem two_inv (h:two xs=some (x,y)):xs=[x,y]:=by
 match xs,h with
 | [a,b],h=>cases h;rfl
noncomputable def zaI (e:Expr):Option (Str × List Expr):=(zbN e).bind fun q=>if q.2.2.1.isEmpty then (za6 q.1).map fun x=>(x,q.2.1) else none
theorem zav (h:zaI e=some (x,as)):∃p2 p,e=.Call (.Name x p2) as [] p:=by
 unfold zaI at h;cases q:zbN e with
 |none=>rw[q] at h;cases h
 | some z=>
   obtain⟨f,bs,ks,p⟩:=z;rw[q] at h;dsimp at h;split at h
   . rename_i c;cases q2:za6 f with
     |none=>rw[q2] at h;cases h
     | some y=>
       obtain⟨p2,rfl⟩:=zaz q2;cases ks with
       |cons _ _=>cases c
       |nil=>cases h;exact⟨p2,p,zcd q⟩
   . cases h
noncomputable def zaE (e:Expr):Option (Str × Expr):=(zaI e).bind fun q=>(one q.2).map fun a=>(q.1,a)
theorem zaq (h:zaE e=some (x,a)):∃p2 p,e=.Call (.Name x p2) [a] [] p:=by
 unfold zaE at h;cases q:zaI e with
 |none=>rw[q] at h;cases h
 | some z=>
   obtain⟨y,bs⟩:=z;rw[q] at h;dsimp at h;cases q2:one bs with
   |none=>rw[q2] at h;cases h
   | some b=>
     rw[q2] at h;cases h;rw[zaF q2] at q;exact zav q
noncomputable def zdg (e:Expr):Option (Expr × Str × Pos × Expr × Pos):=(zbN e).bind fun q=>if q.2.2.1.isEmpty then (zbx q.1).bind fun a=>(one q.2.1).map fun y=>(a.1,a.2.1,a.2.2,y,q.2.2.2) else none
theorem zgr (h:zdg e=some (o,x,ap,a,cp)):e=.Call (.Attribute o x ap) [a] [] cp:=by
 unfold zdg at h;cases q:zbN e with
 |none=>rw[q] at h;cases h
 | some z=>
   obtain⟨f,bs,ks,p⟩:=z;rw[q] at h;dsimp at h;split at h
   . rename_i c;cases q2:zbx f with
     |none=>rw[q2] at h;cases h
     | some y=>
       rw[q2] at h;cases q3:one bs with
       |none=>rw[q3] at h;cases h
       | some b=>
         rw[q3] at h;cases h;cases ks with
         |cons _ _=>cases c
         |nil=>rw[zcd q,zbj q2,zaF q3]
   . cases h
noncomputable def zcc (e:Expr):Option (Expr × Str × Pos × List Expr × Pos):=(zbN e).bind fun q=>if q.2.2.1.isEmpty then (zbx q.1).map fun a=>(a.1,a.2.1,a.2.2,q.2.1,q.2.2.2) else none
theorem zeU (h:zcc e=some (o,x,ap,as,cp)):e=.Call (.Attribute o x ap) as [] cp:=by
 unfold zcc at h;cases q:zbN e with
 |none=>rw[q] at h;cases h
 | some z=>
   obtain⟨f,bs,ks,p⟩:=z;rw[q] at h;dsimp at h;split at h
   . rename_i c;cases q2:zbx f with
     |none=>rw[q2] at h;cases h
     | some y=>
       rw[q2] at h;cases h;cases ks with
       |cons _ _=>cases c
       |nil=>rw[zcd q,zbj q2]
   . cases h
noncomputable def fnB (T:Tab)(f j:Nat)(x:Str):Bool:=match T.fns[f]? with|some (y,_,nd)=>(y == x)&&decide (j<=nd)|none=>false
noncomputable def conG (T:Tab)(d:D)(x:Str):Bool:=match T.cons.lookup x with|some d'=>eqC d' d|none=>false
noncomputable def zh5:CE->Bool|.con _=>true|_=>false
noncomputable def zlN:CL->Bool|.comp ..=>true|_=>false
noncomputable def zh3:CE->Bool|.tst (.con (.bl true))=>true|_=>false
noncomputable def zlD:CEs->Bool|.cons _ .nil=>true|_=>false
noncomputable def znK:CEs->Bool|.nil=>true|_=>false
noncomputable def mtN:Mt->Str->Bool
 |.append,x=>x == ("append":Str)
noncomputable def zpn:Bi->Option String|.isin t=>some t|_=>none
noncomputable def tgB (sc:Scope)(N:List Str)(g:List Nat)(tg:Expr):Bool:=match za6 tg with
 |some x=>(match one g with|some i=>(N[i]? == some x)&&zb4 sc x|none=>false)
 |none=>(zeR tg).any fun es=>decide (2<=g.length)&&zbQ sc N g es
mutual
noncomputable def chkE (T:Tab):CE->List Str->Scope->Expr->Bool
 |.loc i,N,sc,e=>(za6 e).any fun x=>(N[i]? == some x)&&zjK sc x&&nmB x
 |.con d,_,sc,e=>(zcH e).any (fun c=>conB d c) || (za6 e).any fun x=>isGl sc x&&conG T d x&&nmB x
 |.tst _,_,_,_=>false
 |.bin op a b,N,sc,e=>(zhw e).any fun q=>decide (q.2.1=op)&&chkE T a N sc q.1&&chkE T b N sc q.2.2
 |.neg a,N,sc,e=>(rdUn e).any fun q=>decide (q.1=.USub)&&chkE T a N sc q.2
 |.nt a,N,sc,e=>(rdUn e).any fun q=>decide (q.1=.Not)&&chkE T a N sc q.2
 |.cmp op a b,N,sc,e=>(zef e).any fun q=>decide (q.2.1=[op])&&(one q.2.2).any fun r=>zaN r&&chkE T a N sc q.1&&chkE T b N sc r
 |.cmp2 op op' a b c,N,sc,e=>(zef e).any fun q=>decide (q.2.1=[op,op'])&&(two q.2.2).any fun r=>zaN r.1&&zaN r.2&&chkE T a N sc q.1&&chkE T b N sc r.1&&chkE T c N sc r.2
 |.and a b,N,sc,e=>(zcm e).any fun q=>decide (q.1=.And)&&(match q.2.1 with
  |x::y::rest=>chkE T a N sc x&&(if rest.isEmpty then chkE T b N sc y else chkE T b N sc (.BoolOp .And (y::rest) q.2.2))
  |_=>false)
 |.or a b,N,sc,e=>(zcm e).any fun q=>decide (q.1=.Or)&&(match q.2.1 with
  |x::y::rest=>chkE T a N sc x&&(if rest.isEmpty then chkE T b N sc y else chkE T b N sc (.BoolOp .Or (y::rest) q.2.2))
  |_=>false)
 |.ite c a b,N,sc,e=>(rdIf e).any fun q=>chkT T c N sc q.1&&chkE T a N sc q.2.1&&chkE T b N sc q.2.2
 |.tup es,N,sc,e=>(zeR e).any fun xs=>zbl T es N sc xs
 |.lst es,N,sc,e=>(zec e).any fun xs=>zbl T es N sc xs
 |.insL o a b,N,sc,e=>(zcc e).any fun q=>(two q.2.2.2.1).any fun z=>(q.2.1 == ("insert":Str))&&zaj z.1&&zaj z.2&&zcM q.1&&(q.2.2.1.endLine == q.2.2.2.2.line)&&chkE T o N sc q.1&&chkE T a N sc z.1&&chkE T b N sc z.2
 |.ix a b,N,sc,e=>(zeS e).any fun q=>zdK q.2&&chkE T a N sc q.1&&chkE T b N sc q.2
 |.mk c f x j es,N,sc,e=>(zaI e).any fun q=>decide (q.1=x)&&isGl sc x&&nmB x&&decide (T.cls[c]?=some x)&&T.inits.contains (c,f,j)&&(!q.2.isEmpty || znK es)&&zbl T es N sc q.2
 |.mkX c x f a,N,sc,e=>(zaE e).any fun q=>decide (q.1=x)&&isGl sc x&&nmB x&&T.xcs.contains (c,x,f)&&zaj q.2&&chkE T a N sc q.2
 |.fldX a f,N,sc,e=>(zbx e).any fun q=>decide (q.2.1=f)&&zcM q.1&&T.xflds.contains f&&chkE T a N sc q.1
 |.iscX cs x a,N,sc,e=>(zaI e).any fun q=>(two q.2).any fun z=>(za6 z.2).any fun y=>(q.1 == ("isinstance":Str))&&bltB T sc q.1&&decide (y=x)&&isGl sc x&&nmB x&&(T.xisas.contains (x,cs) || T.xisbs.contains (x,cs))&&zaj z.1&&chkE T a N sc z.1
 |.sl a ml mh lo hi,N,sc,e=>(zeS e).any fun q=>(rdSl q.2).any fun s=>chkE T a N sc q.1
  && (match s.1 with|none=>!ml&&zh5 lo|some e=>ml&&chkE T lo N sc e)
  && (match s.2 with|none=>!mh&&zh5 hi|some e=>mh&&chkE T hi N sc e)
 |.call f j es,N,sc,e=>(zaI e).any fun q=>isGl sc q.1&&nmB q.1&&fnB T f j q.1&&(!q.2.isEmpty || znK es)&&zbl T es N sc q.2
 |.bi b es,N,sc,e=>(zaI e).any fun q=>bltB T sc q.1&&nmB q.1&&(match zpn b with
  |some t=>(two q.2).any fun z=>(za6 z.2).any fun y=>(q.1 == ("isinstance":Str))&&tyB t y&&bltB T sc y&&nmB y&&zlD es&&zbl T es N sc [z.1]
  |none=>biB b q.1 q.2.length&&!q.2.isEmpty&&zbl T es N sc q.2)
 |.mt m o es,N,sc,e=>(zdg e).any fun q=>mtN m q.2.1&&zcM q.1&&(q.2.2.1.endLine == q.2.2.2.2.line)&&zlD es&&chkE T o N sc q.1&&zbl T es N sc [q.2.2.2.1]
 |.mkL l,N,sc,e=>if zlN l then (if (rdLC e).isSome then chkL T l N sc e else (zaE e).any fun q=>(q.1 == ("list":Str))&&bltB T sc q.1&&zaj q.2&&chkL T l N sc q.2)
  else (zaE e).any fun q=>(q.1 == ("list":Str))&&bltB T sc q.1&&zaj q.2&&(!(zgI l) || isR1 l)&&chkL T l N sc q.2
 |.mkT l,N,sc,e=>(zaE e).any fun q=>(q.1 == ("tuple":Str))&&bltB T sc q.1&&zaj q.2&&(!(zgI l))&&chkL T l N sc q.2
 |.all l,N,sc,e=>(zaE e).any fun q=>(q.1 == ("all":Str))&&bltB T sc q.1&&zaj q.2&&!(zgI l)&&chkL T l N sc q.2
 |.lenset l,N,sc,e=>(zaE e).any fun q=>(zaE q.2).any fun z=>(q.1 == ("len":Str))&&bltB T sc q.1&&(z.1 == ("set":Str))&&bltB T sc z.1&&zaj z.2&&!(zgI l)&&chkL T l N sc z.2
 |.sset a,N,sc,e=>(zaE e).any fun q=>(zaE q.2).any fun z=>(q.1 == ("sorted":Str))&&bltB T sc q.1&&(z.1 == ("set":Str))&&bltB T sc z.1&&zaj z.2&&chkE T a N sc z.2
noncomputable def zbl (T:Tab):CEs->List Str->Scope->List Expr->Bool
 |.nil,_,_,es=>es.isEmpty
 |.cons a r,N,sc,es=>(match es with | []=>false|e::es=>zaj e&&chkE T a N sc e&&zbl T r N sc es)
noncomputable def chkT (T:Tab):CE->List Str->Scope->Expr->Bool
 |.cmp op a b,N,sc,e=>(zef e).any fun q=>decide (q.2.1=[op])&&(one q.2.2).any fun r=>zaN r&&chkE T a N sc q.1&&chkE T b N sc r
 |.cmp2 op op' a b c,N,sc,e=>(zef e).any fun q=>decide (q.2.1=[op,op'])&&(two q.2.2).any fun r=>zaN r.1&&zaN r.2&&chkE T a N sc q.1&&chkE T b N sc r.1&&chkE T c N sc r.2
 |.nt a,N,sc,e=>(rdUn e).any fun q=>decide (q.1=.Not)&&chkT T a N sc q.2
 |.and a b,N,sc,e=>(zcm e).any fun q=>decide (q.1=.And)&&(match q.2.1 with
  |x::y::rest=>chkT T a N sc x&&(if rest.isEmpty then chkT T b N sc y else chkT T b N sc (.BoolOp .And (y::rest) q.2.2))
  |_=>false)
 |.or a b,N,sc,e=>(zcm e).any fun q=>decide (q.1=.Or)&&(match q.2.1 with
  |x::y::rest=>chkT T a N sc x&&(if rest.isEmpty then chkT T b N sc y else chkT T b N sc (.BoolOp .Or (y::rest) q.2.2))
  |_=>false)
 |.tst a,N,sc,e=>zfG e&&chkE T a N sc e
 |_,_,_,_=>false
noncomputable def chkL (T:Tab):CL->List Str->Scope->Expr->Bool
 |.val a,N,sc,e=>zaN e&&chkE T a N sc e
 |.rng1 a,N,sc,e=>(zaE e).any fun q=>(q.1 == ("range":Str))&&bltB T sc q.1&&zaj q.2&&chkE T a N sc q.2
 |.enum a,N,sc,e=>(zaE e).any fun q=>(q.1 == ("enumerate":Str))&&bltB T sc q.1&&zaj q.2&&chkE T a N sc q.2
 |.comp nt js g it c e,N,sc,ex=>(rdLC ex).any fun q=>(one q.2.1).any fun z=>decide (z.is_async=0)&&zjX sc q.2.2.1 N js&&(zaN z.iter&&(zfQ z.target || !(zfP it)))&&chkL T it N sc z.iter&&decide ((zbv z.target).length=nt)&&decide ((capN N (zbv z.target) js).Nodup)
  && tgB q.2.2.1 (capN N (zbv z.target) js) g z.target
  && (if z.ifs.isEmpty then zh3 c else (one z.ifs).any fun t=>chkT T c (capN N (zbv z.target) js) q.2.2.1 t)
  && chkE T e (capN N (zbv z.target) js) q.2.2.1 q.1
end
noncomputable def zdB:Stmt->Option (Expr × Expr × Pos)|.Assign tgs v p=>(one tgs).map fun t=>(t,v,p)|_=>none
noncomputable def zli:Stmt->Option (Expr × List Stmt × List Stmt)|.If e a b _=>some (e,a,b)|_=>none
noncomputable def zne:Stmt->Option (Expr × Expr × List Stmt)|.For tg it b els _=>if els.isEmpty then some (tg,it,b) else none|_=>none
noncomputable def zlh:Stmt->Option Expr|.Return v _=>v|_=>none
noncomputable def zlj:Stmt->Option Expr|.Expr v _=>some v|_=>none
section
variable {s:Stmt} {e v tg it:Expr} {a b:List Stmt} {p:Pos}
theorem za7 (h:zdB s=some (tg,v,p)):s=.Assign [tg] v p:=by
 cases s with
 | Assign tgs v p=>
   simp only[zdB] at h;cases q:one tgs with
   |none=>rw[q] at h;cases h
   |some t=>rw[q] at h;cases h;rw[zaF q]
 |_=>cases h
theorem zed (h:zli s=some (e,a,b)):∃p,s=.If e a b p:=by cases s<;>first|(cases h;exact⟨_,rfl⟩)|cases h
theorem zhu (h:zne s=some (tg,it,b)):∃p,s=.For tg it b [] p:=by
 cases s with
 | For tg it b els p=>
   cases els with
   |nil=>cases h;exact⟨_,rfl⟩
   |cons _ _=>cases h
 |_=>cases h
theorem zhr (h:zlh s=some e):∃p,s=.Return (some e) p:=by
 cases s with
 |Return v p=>simp[zlh] at h;subst h;exact⟨_,rfl⟩
 |_=>cases h
theorem zee (h:zlj s=some e):∃p,s=.Expr e p:=by cases s<;>first|(cases h;exact⟨_,rfl⟩)|cases h
end
noncomputable def zhs:Stmt->Option (Str × Expr)|.Raise (some e) none _=>zaE e|_=>none
theorem zeT (h:zhs s=some (x,a)):∃np cp p,s=.Raise (some (.Call (.Name x np) [a] [] cp)) none p:=by
 cases s with
 | Raise e c p=>
   cases e with
   |none=>cases h
   | some e=>
     cases c with
     |none=>obtain⟨p1,p2,rfl⟩:=zaq h;exact⟨_,_,_,rfl⟩
     |some c=>cases h
 |_=>cases h
noncomputable def zjc:ExceptHandler->Option (Str × Str × Str)|.ExceptHandler (some (.Name xR _)) (some n) [.Assign [.Name y _] (.Name m _) _] _=>if m=n then some (xR,n,y) else none|_=>none
theorem zht (e:zjc h=some (xR,n,y)):∃np p1 p2 p3 hp,h=.ExceptHandler (some (.Name xR np)) (some n) [.Assign [.Name y p1] (.Name n p2) p3] hp:=by
 unfold zjc at e;split at e
 . split at e
   . rename_i z;subst z;cases e;exact⟨_,_,_,_,_,rfl⟩
   . cases e
 . cases e
noncomputable def zlg:Stmt->Option (List Stmt × Str × Str × Str)|.Try body hs els fin _=>if els.isEmpty&&fin.isEmpty then (one hs).bind fun h=>(zjc h).map fun q=>(body,q) else none|_=>none
theorem zhq (h:zlg s=some (b,xR,n,y)):∃np p1 p2 p3 hp p,s=.Try b [.ExceptHandler (some (.Name xR np)) (some n) [.Assign [.Name y p1] (.Name n p2) p3] hp] [] [] p:=by
 cases s with
 | Try body hs els fin p=>
   simp only[zlg] at h;split at h
   . rename_i c;rw[and_eq_true,isEmpty_iff,isEmpty_iff] at c;obtain⟨c1,c2⟩:=c;subst c1 c2;cases e:one hs with
     |none=>rw[e] at h;cases h
     | some hd=>
       rw[e] at h;cases zaF e;cases e2:zjc hd with
       |none=>simp[e2] at h
       | some q=>
         simp[e2] at h;obtain⟨rfl,rfl,rfl,rfl⟩:=h;obtain⟨np,p1,p2,p3,hp,rfl⟩:=zht e2;exact⟨np,p1,p2,p3,hp,p,rfl⟩
   . cases h
 |_=>cases h
noncomputable def chkB (T:Tab):TrB->List Str->Scope->List Stmt->Bool
 |.asg i f es,N,sc,st=>(one st).any fun s=>(zdB s).any fun z=>(za6 z.1).any fun y=>(zaI z.2.1).any fun q=>(N[i]? == some y)&&zb4 sc y&&isGl sc q.1&&nmB q.1&&T.xfns.contains f&&fnB T f 0 q.1&&!q.2.isEmpty&&zbl T es N sc q.2
 |.ite c a b,N,sc,st=>(one st).any fun s=>(zli s).any fun q=>chkT T c N sc q.1&&chkB T a N sc q.2.1&&chkB T b N sc q.2.2
 |.setF a f g es,N,sc,st=>(one st).any fun s=>(zdB s).any fun z=>(zbx z.1).any fun t=>(zaI z.2.1).any fun q=>decide (t.2.1=f)&&T.flds.contains f&&chkE T a N sc t.1&&isGl sc q.1&&nmB q.1&&T.xfns.contains g&&fnB T g 0 q.1&&!q.2.isEmpty&&zbl T es N sc q.2
 |.mk c f x j es,N,sc,st=>(one st).any fun s=>(zlj s).any fun e=>(zaI e).any fun q=>decide (q.1=x)&&isGl sc x&&nmB x&&decide (T.cls[c]?=some x)&&T.inits.contains (c,f,j)&&!q.2.isEmpty&&zbl T es N sc q.2
 |.comp i nt js g it f es,N,sc,st=>(one st).any fun s=>(zdB s).any fun u=>(za6 u.1).any fun y=>(rdLC u.2.1).any fun q=>(one q.2.1).any fun z=>(zaI q.1).any fun w=>decide (z.is_async=0)&&zjX sc q.2.2.1 N js&&(zaN z.iter&&(zfQ z.target || !(zfP it)))&&chkL T it N sc z.iter&&decide ((zbv z.target).length=nt)&&decide ((capN N (zbv z.target) js).Nodup)
  && tgB q.2.2.1 (capN N (zbv z.target) js) g z.target&&z.ifs.isEmpty&&(N[i]? == some y)&&zb4 sc y&&isGl q.2.2.1 w.1&&nmB w.1&&T.xfns.contains f&&fnB T f 0 w.1&&!w.2.isEmpty&&zbl T es (capN N (zbv z.target) js) q.2.2.1 w.2
noncomputable def chkS (T:Tab):CS->List Str->Scope->List Stmt->Bool
 |.nil,_,_,st=>st.isEmpty
 |.stop,_,_,_=>true
 |.asg i e r,N,sc,st=>(match st with | []=>false|s::rest=>(zdB s).any fun q=>(za6 q.1).any fun x=>(N[i]? == some x)&&zb4 sc x&&chkE T e N sc q.2.1&&chkS T r N sc rest)
 |.asgT g e r,N,sc,st=>(match st with | []=>false|s::rest=>(zdB s).any fun q=>(zeR q.1).any fun es=>((za6 q.2.1).isSome || (zaI q.2.1).isSome)&&decide (2<=g.length)&&zbQ sc N g es&&chkE T e N sc q.2.1&&chkS T r N sc rest)
 |.setF a f e r,N,sc,st=>(match st with | []=>false|s::rest=>(zdB s).any fun q=>(zbx q.1).any fun z=>decide (z.2.1=f)&&T.flds.contains f&&zbe q.2.1&&chkE T a N sc z.1&&chkE T e N sc q.2.1&&chkS T r N sc rest)
 |.setIx a b e r,N,sc,st=>(match st with | []=>false|s::rest=>(zdB s).any fun q=>(zeS q.1).any fun z=>zbe q.2.1&&chkE T a N sc z.1&&chkE T b N sc z.2&&chkE T e N sc q.2.1&&chkS T r N sc rest)
 |.ifS c t u r,N,sc,st=>(match st with | []=>false|s::rest=>(zli s).any fun q=>chkT T c N sc q.1&&chkS T t N sc q.2.1&&chkS T u N sc q.2.2&&chkS T r N sc rest)
 |.forS g l b r,N,sc,st=>(match st with | []=>false|s::rest=>(zne s).any fun q=>zaN q.2.1&&chkL T l N sc q.2.1&&chkS T b N sc q.2.2&&chkS T r N sc rest&&(tgB sc N g q.1&&(zfQ q.1 || !(zfP l))))
 |.ret e r,N,sc,st=>(match st with | []=>false|s::rest=>(zlh s).any fun v=>chkE T e N sc v&&chkS T r N sc rest)
 |.expr e r,N,sc,st=>(match st with | []=>false|s::rest=>(zlj s).any fun v=>zbe v&&chkE T e N sc v&&chkS T r N sc rest)
 |.rais c x f a,N,sc,st=>(match st with | []=>false|s::_=>(zhs s).any fun q=>decide (q.1=x)&&isGl sc x&&nmB x&&T.xcs.contains (c,x,f)&&zaj q.2&&chkE T a N sc q.2)
 |.blk b r,N,sc,st=>(match st with | []=>false|s::rest=>chkB T b N sc [s]&&chkS T r N sc rest)
 |.tryS b x ie ix r,N,sc,st=>(match st with | []=>false|s::rest=>(zlg s).any fun q=>decide (q.2.1=x)&&isGl sc x&&nmB x&&T.xtrs.contains x&&(N[ie]? == some q.2.2.1)&&(N[ix]? == some q.2.2.2)&&decide (sc.names.lookup q.2.2.1=some .local)&&zb4 sc q.2.2.2&&nmB q.2.2.1&&decide (ie≠ix)&&chkB T b N sc q.1&&chkS T r N sc rest)
end R
end
section
set_option maxHeartbeats 8000000
namespace R
open PySem PySem.Spec PyProof.Rows L2
variable [Mks]
section
variable {T:Tab} {cf:CF} {k:Nat} {N:List Str} {sc:Scope} {X:Cx}
theorem zbA (env:Env)(x:Str):∀{names:List (Str × NameKind)} {k0:NameKind},names.lookup x=some k0->k0≠.free->(names.map (zbL env)).lookup x=some k0
 | [],_,h,_=>by simp at h
 | y::r,k0,h,hk=>by
   rw[map_cons];have f1:=zcE env y;have f2:=zcD env y;obtain⟨n,k1⟩:=y;generalize hz:zbL env (n,k1)=z at *;obtain⟨zn,zk⟩:=z;simp only at f1 f2;subst f1;rw[lookup_cons] at h⊢;cases hx:x == zn with
   | true=>
     rw[hx] at h;have e:k1=k0:=Option.some.inj h;subst e;rcases f2 with f2|⟨q,_⟩
     . show some zk=_;rw[f2]
     . exact absurd q hk
   | false=>
     rw[hx] at h;exact zbA env x h hk
theorem zdV (G:Gd T cf k N sc X)(h:zjX sc scope N js=true):CompOk X.env.scope scope X.N js:=by
 unfold zjX at h;simp only[and_eq_true,all_eq_true,decide_eq_true_eq,or_eq_true] at h;obtain⟨⟨⟨⟨h1,h2⟩,h3⟩,h4⟩,h5⟩:=h;refine⟨h1,h2,fun y hy e=>?_,fun y hy e=>?_,fun j hj=>?_⟩
 . rcases h3 y hy with z|z
   . exact absurd e z
   . exact z
 . rcases h4 y hy with (z|z)|z
   . exact absurd e z
   . exact .inl (G.cell _ z)
   . exact (G.free _ z).symm
 . rw[G.nm];exact h5 j hj
theorem zfa (G:Gd T cf k N sc X)(ok:CompOk X.env.scope scope X.N js)(hn:(capN N tgs js).Nodup)(cl:List (Str × Addr))(C:Addr)(fp:List Addr)(s:Shared)(H:Hp)(pn:List (Addr × Obj)) :
  Gd T cf k (capN N tgs js) scope (zax X (capN X.N tgs js) scope cl C fp s H pn):=by
 have names:(zax X (capN X.N tgs js) scope cl C fp s H pn).env.scope.names=scope.names.map (zbL X.env):=zb2 scope X.env;have noc:∀x,scope.names.lookup x≠some .cell:=fun x e=>ok.nocell _ (PySem.mem_of_lookup e) rfl;refine⟨by rw[<-G.nm],hn,fun x e=>?_,fun x e=>absurd e (noc x),fun x e=>?_,fun x e=>?_,.inr noc,G.calm,PassesOwn.never,G.room',G.tab⟩
 . rw[names];exact zbA _ _ e (by decide)
 . rw[names];exact zbn _ _ _ e
 . rw[names];exact zbA _ _ e (by decide)
theorem zaW (h:nmB x=true):(x == ("__debug__":Str))=false/\(x == ("__classdict__":Str))=false/\x≠("__name__":Str):=by
 unfold nmB at h;simp only[and_eq_true,not_eq_true'] at h;exact⟨h.1.1,h.1.2,fun e=>by rw[e] at h;simp at h⟩
theorem zmw (h:tyB t y=true):t∈["bool","int","str","list","tuple","dict"]/\bootBuiltins y=some (.type t):=by
 unfold tyB at h;simp at h;rcases h with ((((⟨rfl,rfl⟩|⟨rfl,rfl⟩)|⟨rfl,rfl⟩)|⟨rfl,rfl⟩)|⟨rfl,rfl⟩)|⟨rfl,rfl⟩
 . exact⟨by simp,zma⟩
 . exact⟨by simp,zop⟩
 . exact⟨by simp,zoo⟩
 . exact⟨by simp,zfj⟩
 . exact⟨by simp,zgg⟩
 . exact⟨by simp,zl9⟩
theorem zf0 (h:fnB T f j x=true):∃ps nd,T.fns[f]?=some (x,ps,nd)/\j<=nd:=by
 unfold fnB at h;cases e:T.fns[f]? with
 |none=>rw[e] at h;cases h
 | some q=>
   obtain⟨y,ps,nd⟩:=q;rw[e] at h;simp at h;obtain⟨rfl,h2⟩:=h;exact⟨ps,nd,rfl,h2⟩
theorem zaB:∀{ces:CEs} {N:List Str} {sc:Scope} {es:List Expr},zbl T ces N sc es=true->es.all zaj=true
 | .nil,N,sc,es,h=>by
   simp[zbl,isEmpty_iff] at h;subst h;rfl
 | .cons a r,N,sc,es,h=>by
   cases es with
   |nil=>simp[zbl] at h
   | cons e es=>
     simp[zbl,and_eq_true] at h;simp[h.1.1,zaB h.2]
theorem zgb (h:zlD es=true):∃a,es=.cons a .nil:=by
 cases es with
 |nil=>cases h
 | cons a r=>
   cases r with
   |nil=>exact⟨a,rfl⟩
   |cons _ _=>cases h
theorem zgS (G:Gd T cf k N sc X)(h:biB b x n=true):∃id,zbt X (.builtin id) (rB X.K fun S ds=>R.bi S b ds)/\bootBuiltins x=some (.builtin id):=by
 cases b with
 |len=>simp[biB,and_eq_true,beq_iff_eq] at h;rw[h.1];exact⟨_,znO,zkB⟩
 |abs=>simp[biB,and_eq_true,beq_iff_eq] at h;rw[h.1];exact⟨_,zoy,zor⟩
 |isin t=>simp[biB] at h
def LOk (T:Tab)(cf:CF)(k:Nat)(cl:CL)(X:Cx)(e:Expr):Prop:=(zgI cl=false->PE X e (tL X.K cf cl))/\(znZ cl=true->PE X e (tLt X.K cf cl))/\(∀tg,(zfQ tg || !(zfP cl))=true->PI X tg e (tI X.K cf cl))/\
 ∀a,cl=.rng1 a->∃a' p2 p,e=.Call (.Name "range" p2) [a'] [] p/\(Gl X "range"/\X.mg "range"=none)/\PE X a' (tE X.K cf a)/\zaj a'=true
def EsOk (cf:CF)(ces:CEs)(X:Cx)(es:List Expr):Prop:=PA X es (tAs X.K cf ces)/\∀a r e es',ces=.cons a r->es=e::es'->PE X e (tE X.K cf a)
theorem ziV (G:Gd T cf k N sc X)(h:tgB sc N g tg=true):PG X tg (tG X.K g):=by
 unfold tgB at h;split at h
 . rename_i x q;obtain⟨p,rfl⟩:=zaz q;split at h
   . rename_i i q2;rw[zaF q2];simp at h;exact zkY G h.1 h.2
   . cases h
 . replace h:=zab h;obtain⟨es,q,h⟩:=h;obtain⟨j,p,rfl⟩:=zcF q;simp at h;exact zke G h.2 h.1
theorem zfq (h:zh3 c=true):PTs X [] (tT X.K cf c):=by
 have hc:c=.tst (.con (.bl true)):=by
  cases c with
  | tst a=>
    cases a with
    | con d=>
      cases d with
      | bl b=>
        cases b with
        |true=>rfl
        |false=>cases h
      |_=>cases h
    |_=>cases h
  |_=>cases h
 subst hc;intro pins s' σ H' Qv I q;apply ze3 pins s' σ H' Qv I;obtain⟨δ,ι,S,Q,hs,hh,w,q⟩:=q;exact q _ _ ⟨ι,S,Ext.refl _ _,hh,w⟩
theorem zhK (h1:o=none->m=false/\zh5 ce=true)(h2:∀e,o=some e->m=true/\PE X e (tE X.K cf ce)):PartOk X cf m ce o:=by
 cases o with
 | none=>
   obtain⟨rfl,h⟩:=h1 rfl;cases ce with
   |con d=>exact .no ⟨d,rfl⟩
   |_=>cases h
 | some e=>
   obtain⟨rfl,h⟩:=h2 e rfl;exact .yes h
theorem zbc {x y:Str}(h:(x == y)=true):x=y:=by simpa using h
mutual
theorem zad:∀(ce:CE) {N:List Str} {sc:Scope} {e:Expr} {X:Cx},Gd T cf k N sc X->chkE T ce N sc e=true->PE X e (tE X.K cf ce)
 | .loc i,N,sc,e,X,G,h=>by
   simp only[chkE] at h;replace h:=zab h;obtain⟨x,q,h⟩:=h;obtain⟨p,rfl⟩:=zaz q;simp only[and_eq_true,beq_iff_eq] at h;obtain⟨h1,h2,_⟩:=zaW h.2;exact zmY G h.1.1 h.1.2 h1 h2
 | .con d,N,sc,e,X,G,h=>by
   simp only[chkE] at h;rw[or_eq_true] at h;rcases h with h|h
   . replace h:=zab h;obtain⟨c,q,h⟩:=h;obtain⟨j,p,rfl⟩:=zeW q;exact zm1 h
   . replace h:=zab h;obtain⟨x,q,h⟩:=h;obtain⟨p,rfl⟩:=zaz q;simp only[and_eq_true] at h;obtain⟨h1,h2,_⟩:=zaW h.2;have h3:=h.1.2;unfold conG at h3;split at h3
     . rename_i d' e';exact zk5 G h.1.1 e' h3 h1
     . cases h3
 |.tst a,N,sc,e,X,G,h=>by simp only[chkE] at h;cases h
 | .bin op a b,N,sc,e,X,G,h=>by
   simp only[chkE] at h;replace h:=zab h;obtain⟨⟨l,o,r⟩,q,h⟩:=h;obtain⟨p,rfl⟩:=zhv q;simp only[and_eq_true,decide_eq_true_eq] at h;obtain⟨⟨rfl,h1⟩,h2⟩:=h;exact zm3 (zad a G h1) (zad b G h2)
 | .neg a,N,sc,e,X,G,h=>by
   simp only[chkE] at h;replace h:=zab h;obtain⟨⟨o,x⟩,q,h⟩:=h;obtain⟨p,rfl⟩:=zdz q;simp only[and_eq_true,decide_eq_true_eq] at h;obtain⟨rfl,h1⟩:=h;exact zmT (zad a G h1)
 | .nt a,N,sc,e,X,G,h=>by
   simp only[chkE] at h;replace h:=zab h;obtain⟨⟨o,x⟩,q,h⟩:=h;obtain⟨p,rfl⟩:=zdz q;simp only[and_eq_true,decide_eq_true_eq] at h;obtain⟨rfl,h1⟩:=h;exact zoU (zad a G h1)
 | .cmp op a b,N,sc,e,X,G,h=>by
   simp only[chkE] at h;replace h:=zab h;obtain⟨⟨l,os,rs⟩,q,h⟩:=h;obtain⟨p,rfl⟩:=zb3 q;rw[and_eq_true,decide_eq_true_eq] at h;obtain⟨e1,h⟩:=h;replace h:=zab h;obtain⟨r,q2,h⟩:=h;cases zaF q2;cases e1;simp only[and_eq_true] at h;exact zm2 G (zad a G h.1.2) (zad b G h.2) h.1.1
 | .cmp2 op op' a b c,N,sc,e,X,G,h=>by
   simp only[chkE] at h;replace h:=zab h;obtain⟨⟨l,os,rs⟩,q,h⟩:=h;obtain⟨p,rfl⟩:=zb3 q;rw[and_eq_true,decide_eq_true_eq] at h;obtain⟨e1,h⟩:=h;replace h:=zab h;obtain⟨⟨r,r'⟩,q2,h⟩:=h;cases two_inv q2;cases e1;simp only[and_eq_true] at h;obtain⟨⟨⟨⟨h1,h2⟩,h3⟩,h4⟩,h5⟩:=h;exact zk7 G (zad a G h3) (zad b G h4) (zad c G h5) h1 h2
 | .and a b,N,sc,e,X,G,h=>by
   simp only[chkE] at h;replace h:=zab h;obtain⟨⟨o,vs,p⟩,q,h⟩:=h;cases zbG q;rw[and_eq_true,decide_eq_true_eq] at h;obtain⟨e1,h⟩:=h;cases e1;dsimp only at h;split at h
   . rename_i x y rest;rw[and_eq_true] at h;obtain⟨h1,h2⟩:=h;split at h2
     . rename_i c;cases isEmpty_iff.mp c;exact zkh (zad a G h1) (zko (zad b G h2))
     . exact zkh (zad a G h1) (zad b G h2)
   . cases h
 | .or a b,N,sc,e,X,G,h=>by
   simp only[chkE] at h;replace h:=zab h;obtain⟨⟨o,vs,p⟩,q,h⟩:=h;cases zbG q;rw[and_eq_true,decide_eq_true_eq] at h;obtain⟨e1,h⟩:=h;cases e1;dsimp only at h;split at h
   . rename_i x y rest;rw[and_eq_true] at h;obtain⟨h1,h2⟩:=h;split at h2
     . rename_i c;cases isEmpty_iff.mp c;exact zmS (zad a G h1) (zko (zad b G h2))
     . exact zmS (zad a G h1) (zad b G h2)
   . cases h
 | .ite c a b,N,sc,e,X,G,h=>by
   simp only[chkE] at h;replace h:=zab h;obtain⟨⟨t,x,y⟩,q,h⟩:=h;obtain⟨p,rfl⟩:=zjb q;simp only[and_eq_true] at h;exact zmZ (zaP c G h.1.1).1 (zad a G h.1.2) (zad b G h.2)
 | .tup es,N,sc,e,X,G,h=>by
   simp only[chkE] at h;replace h:=zab h;obtain⟨xs,q,h⟩:=h;obtain⟨j,p,rfl⟩:=zcF q;exact zmR (zaL es G h).1
 | .lst es,N,sc,e,X,G,h=>by
   simp only[chkE] at h;replace h:=zab h;obtain⟨xs,q,h⟩:=h;obtain⟨p,rfl⟩:=zgs q;exact zmX (zaL es G h).1
 | .insL o a b,N,sc,e,X,G,h=>by
   simp only[chkE] at h;replace h:=zab h;obtain⟨⟨oe,x,ap,as,cp⟩,q,h⟩:=h;cases zeU q;replace h:=zab h;obtain⟨⟨e1,e2⟩,q2,h⟩:=h;cases two_inv q2;simp only[and_eq_true] at h;obtain⟨⟨⟨⟨⟨⟨⟨hx,h1⟩,h2⟩,h3⟩,h4⟩,h5⟩,h6⟩,h7⟩:=h;cases zbc hx;exact zm0 (zad o G h5) (zad a G h6) (zad b G h7) h1 h2 h3 h4
 | .ix a b,N,sc,e,X,G,h=>by
   simp only[chkE] at h;replace h:=zab h;obtain⟨⟨x,i⟩,q,h⟩:=h;obtain⟨p,rfl⟩:=zcG q;simp only[and_eq_true] at h;exact zoX (zad a G h.1.2) (zad b G h.2) h.1.1
 | .mk c f x j es,N,sc,e,X,G,h=>by
   simp only[chkE] at h;replace h:=zab h;obtain⟨⟨x',args⟩,q,h⟩:=h;obtain⟨p2,p,rfl⟩:=zav q;simp only[and_eq_true,or_eq_true,decide_eq_true_eq] at h;obtain⟨⟨⟨⟨⟨⟨rfl,h1⟩,h2⟩,h3⟩,h4⟩,h5⟩,h6⟩:=h;obtain⟨n1,n2,n3⟩:=zaW h2;have ha:=(zaL es G h6).1;cases args with
   | nil=>
     have:es=.nil:=by
      cases es with
      |nil=>rfl
      |cons _ _=>rcases h5 with z|z<;>cases z
     rw[this];exact zmW G h4 h3 h1 n1
   |cons a as=>exact zoW G h4 h3 h1 n1 ha (zaB h6)
 | .mkX c x f a,N,sc,e,X,G,h=>by
   simp only[chkE] at h;replace h:=zab h;obtain⟨⟨x',arg⟩,q,h⟩:=h;obtain⟨p2,p,rfl⟩:=zaq q;simp only[and_eq_true,decide_eq_true_eq] at h;obtain⟨⟨⟨⟨⟨rfl,h1⟩,h2⟩,h3⟩,h4⟩,h5⟩:=h;exact zmU G h3 h1 (zaW h2).1 (zad a G h5) h4
 | .fldX a f,N,sc,e,X,G,h=>by
   simp only[chkE] at h;replace h:=zab h;obtain⟨⟨o,f',p⟩,q,h⟩:=h;cases zbj q;simp only[and_eq_true,decide_eq_true_eq] at h;obtain⟨⟨⟨rfl,h2⟩,h3⟩,h4⟩:=h;exact zk6 G (zad a G h4) h2 h3
 | .iscX cs x a,N,sc,e,X,G,h=>by
   simp only[chkE] at h;replace h:=zab h;obtain⟨⟨x',args⟩,q,h⟩:=h;obtain⟨p2,p,rfl⟩:=zav q;replace h:=zab h;obtain⟨⟨e1,e2⟩,q2,h⟩:=h;cases two_inv q2;replace h:=zab h;obtain⟨y,q3,h⟩:=h;obtain⟨p3,rfl⟩:=zaz q3;rw[and_eq_true,and_eq_true,and_eq_true,and_eq_true,and_eq_true,and_eq_true,and_eq_true,decide_eq_true_eq] at h;obtain⟨⟨⟨⟨⟨⟨⟨h0,h1⟩,rfl⟩,h2⟩,h3⟩,h4⟩,h5⟩,h6⟩:=h;cases zbc h0;exact zk4 G (zaX G h1) h2 (zaW h3).1 h4 (zad a G h6) h5
 | .sl a ml mh lo hi,N,sc,e,X,G,h=>by
   simp only[chkE] at h;replace h:=zab h;obtain⟨⟨x,i⟩,q,h⟩:=h;obtain⟨p,rfl⟩:=zcG q;replace h:=zab h;obtain⟨⟨l,u⟩,q2,h⟩:=h;obtain⟨p2,rfl⟩:=zja q2;simp only[and_eq_true] at h;obtain⟨⟨h1,h2⟩,h3⟩:=h;refine zoT (zad a G h1) (zhK (fun z=>?_) fun e z=>?_) (zhK (fun z=>?_) fun e z=>?_)
   . subst z;simpa using h2
   . subst z;simp only[and_eq_true] at h2;exact⟨h2.1,zad lo G h2.2⟩
   . subst z;simpa using h3
   . subst z;simp only[and_eq_true] at h3;exact⟨h3.1,zad hi G h3.2⟩
 | .call f j es,N,sc,e,X,G,h=>by
   simp only[chkE] at h;replace h:=zab h;obtain⟨⟨x,args⟩,q,h⟩:=h;obtain⟨p2,p,rfl⟩:=zav q;simp only[and_eq_true,or_eq_true] at h;obtain⟨⟨⟨⟨h1,h2⟩,h3⟩,h4⟩,h5⟩:=h;obtain⟨n1,n2,n3⟩:=zaW h2;obtain⟨ps,nd,hf,hj⟩:=zf0 h3;have ha:=(zaL es G h5).1;cases args with
   | nil=>
     have:es=.nil:=by
      cases es with
      |nil=>rfl
      |cons _ _=>rcases h4 with z|z<;>cases z
     rw[this];exact zi6 G hf hj h1 n1
   |cons a as=>exact zk8 G hf hj h1 n1 ha (zaB h5)
 | .bi b es,N,sc,e,X,G,h=>by
   simp only[chkE] at h;replace h:=zab h;obtain⟨⟨x,args⟩,q,h⟩:=h;obtain⟨p2,p,rfl⟩:=zav q;rw[and_eq_true,and_eq_true] at h;obtain⟨⟨h1,h2⟩,h3⟩:=h;obtain⟨n1,n2,n3⟩:=zaW h2;split at h3
   . rename_i t qt;replace h3:=zab h3;obtain⟨⟨e1,e2⟩,q2,h3⟩:=h3;cases two_inv q2;replace h3:=zab h3;obtain⟨y,q3,h3⟩:=h3;obtain⟨p3,rfl⟩:=zaz q3;simp only[and_eq_true] at h3;obtain⟨⟨⟨⟨⟨hx,h4⟩,h5⟩,h6⟩,h7⟩,h8⟩:=h3;cases zbc hx;obtain⟨m1,m2,m3⟩:=zaW h6;obtain⟨t1,t2⟩:=zmw h4;obtain⟨a,ea⟩:=zgb h7;have he:=(zaL es G h8).2 a .nil e1 [] ea rfl;have hst:=zaB h8;have eb:b=.isin t:=by
      cases b with
      |isin _=>cases qt;rfl
      |_=>cases qt
     rw[ea,eb];exact zk3 G (zaX G h1) (zaX G h5) t2 t1 m3 m1 he (by simpa using hst)
   . rw[and_eq_true,and_eq_true] at h3;cases args with
     |nil=>cases h3.1.2
     | cons a as=>
       obtain⟨id,hc,hv⟩:=zgS G h3.1.1;exact zoY hc (zaX G h1) hv (zaL es G h3.2).1 (zaB h3.2) n3 n1
 | .mt m o es,N,sc,e,X,G,h=>by
   simp only[chkE] at h;replace h:=zab h;obtain⟨⟨oe,x,ap,e1,cp⟩,q,h⟩:=h;cases zgr q;simp only[and_eq_true] at h;obtain⟨⟨⟨⟨⟨h1,h2⟩,h3⟩,h4⟩,h5⟩,h6⟩:=h;obtain⟨a,ea⟩:=zgb h4;have he:=(zaL es G h6).2 a .nil e1 [] ea rfl;have hst:zaj e1=true:=by simpa using zaB h6
   rw[ea];cases m with
   | append=>
     cases zbc h1;exact zoV PySem.F.slot_list_append PySem.F.type_list_append ziM (zad o G h5) he hst h2 h3
 | .mkL l,N,sc,e,X,G,h=>by
   simp only[chkE] at h;split at h
   . rename_i c;split at h
     . have ht:znZ l=true:=by
        cases l with
        |comp=>rfl
        |_=>cases c
       exact PE.imp ((zbg l G h).2.1 ht) fun σ H Qv q=>zhT q
     . replace h:=zab h;obtain⟨⟨x,e1⟩,q,h⟩:=h;obtain⟨p2,p,rfl⟩:=zaq q;simp only[and_eq_true] at h;obtain⟨⟨⟨hx,h1⟩,h2⟩,h4⟩:=h;cases zbc hx;have hr:zgI l=false:=by
        cases l with
        |comp=>rfl
        |_=>cases c
       exact zkg G (zaX G h1) ((zbg l G h4).1 hr) h2
   . replace h:=zab h;obtain⟨⟨x,e1⟩,q,h⟩:=h;obtain⟨p2,p,rfl⟩:=zaq q;simp only[and_eq_true,or_eq_true,not_eq_true'] at h;obtain⟨⟨⟨⟨hx,h1⟩,h2⟩,h3⟩,h4⟩:=h;cases zbc hx;have hl:=zbg l G h4;rcases h3 with h3|h3
     . exact zkg G (zaX G h1) (hl.1 h3) h2
     . have:∃a,l=.rng1 a:=by
        cases l with
        |rng1 a=>exact⟨a,rfl⟩
        |_=>cases h3
       obtain⟨a,ea⟩:=this;obtain⟨a',p3,p4,rfl,hr,ha,hs⟩:=hl.2.2.2 a ea;rw[ea];exact zk2 G (zaX G h1) hr ha hs
 | .mkT l,N,sc,e,X,G,h=>by
   simp only[chkE] at h;replace h:=zab h;obtain⟨⟨x,e1⟩,q,h⟩:=h;obtain⟨p2,p,rfl⟩:=zaq q;simp only[and_eq_true,not_eq_true'] at h;obtain⟨⟨⟨⟨hx,h1⟩,h2⟩,h3⟩,h4⟩:=h;cases zbc hx;have hl:=zbg l G h4;exact zmV G (zaX G h1) (hl.1 h3) h2
 | .all l,N,sc,e,X,G,h=>by
   simp only[chkE] at h;replace h:=zab h;obtain⟨⟨x,e1⟩,q,h⟩:=h;obtain⟨p2,p,rfl⟩:=zaq q;simp only[and_eq_true,not_eq_true'] at h;obtain⟨⟨⟨⟨hx,h1⟩,h2⟩,h3⟩,h4⟩:=h;cases zbc hx;exact zm4 G (zaX G h1) ((zbg l G h4).1 h3) h2
 | .lenset l,N,sc,e,X,G,h=>by
   simp only[chkE] at h;replace h:=zab h;obtain⟨⟨x,e1⟩,q,h⟩:=h;obtain⟨p2,p,rfl⟩:=zaq q;replace h:=zab h;obtain⟨⟨y,e2⟩,q2,h⟩:=h;obtain⟨p3,p4,hy⟩:=zaq q2;simp only[and_eq_true,not_eq_true'] at h;obtain⟨⟨⟨⟨⟨⟨hx,h1⟩,hz⟩,h2⟩,h3⟩,h4⟩,h5⟩:=h;cases zbc hx;cases zbc hz;dsimp only at hy;subst hy;exact zhi G (zaX G h1) (zaX G h2) ((zbg l G h5).1 h4) h3
 | .sset a,N,sc,e,X,G,h=>by
   simp only[chkE] at h;replace h:=zab h;obtain⟨⟨x,e1⟩,q,h⟩:=h;obtain⟨p2,p,rfl⟩:=zaq q;replace h:=zab h;obtain⟨⟨y,e2⟩,q2,h⟩:=h;obtain⟨p3,p4,hy⟩:=zaq q2;simp only[and_eq_true] at h;obtain⟨⟨⟨⟨⟨hx,h1⟩,hz⟩,h2⟩,h3⟩,h5⟩:=h;cases zbc hx;cases zbc hz;dsimp only at hy;subst hy;exact zk1 G (zaX G h1) (zaX G h2) (zad a G h5) h3
theorem zaL:∀(ces:CEs) {N:List Str} {sc:Scope} {es:List Expr} {X:Cx},Gd T cf k N sc X->zbl T ces N sc es=true->EsOk cf ces X es
 | .nil,N,sc,es,X,G,h=>by
   simp only[zbl,isEmpty_iff] at h;subst h;exact⟨zhl,fun a r e es' z=>nomatch z⟩
 | .cons a r,N,sc,es,X,G,h=>by
   cases es with
   |nil=>simp[zbl] at h
   | cons e es=>
     simp only[zbl,and_eq_true] at h;have he:=zad a G h.1.2;exact⟨zdv he (zaL r G h.2).1 h.1.1,fun a' r' e' es' z1 z2=>by cases z1;cases z2;exact he⟩
theorem zaP:∀(ce:CE) {N:List Str} {sc:Scope} {e:Expr} {X:Cx},Gd T cf k N sc X->chkT T ce N sc e=true->PT X e (tT X.K cf ce)/\((∃op v r p,e=.BoolOp op (v::r) p)->PW X e (tT X.K cf ce))
 | .cmp op a b,N,sc,e,X,G,h=>by
   simp only[chkT] at h;replace h:=zab h;obtain⟨⟨l,os,rs⟩,q,h⟩:=h;obtain⟨p,rfl⟩:=zb3 q;rw[and_eq_true,decide_eq_true_eq] at h;obtain⟨e1,h⟩:=h;replace h:=zab h;obtain⟨r,q2,h⟩:=h;cases zaF q2;cases e1;simp only[and_eq_true] at h;exact⟨zmH G (zad a G h.1.2) (zad b G h.2) h.1.1,fun⟨_,_,_,_,z⟩=>nomatch z⟩
 | .cmp2 op op' a b c,N,sc,e,X,G,h=>by
   simp only[chkT] at h;replace h:=zab h;obtain⟨⟨l,os,rs⟩,q,h⟩:=h;obtain⟨p,rfl⟩:=zb3 q;rw[and_eq_true,decide_eq_true_eq] at h;obtain⟨e1,h⟩:=h;replace h:=zab h;obtain⟨⟨r,r'⟩,q2,h⟩:=h;cases two_inv q2;cases e1;simp only[and_eq_true] at h;obtain⟨⟨⟨⟨h1,h2⟩,h3⟩,h4⟩,h5⟩:=h;exact⟨zkP G (zad a G h3) (zad b G h4) (zad c G h5) h1 h2,fun⟨_,_,_,_,z⟩=>nomatch z⟩
 | .nt a,N,sc,e,X,G,h=>by
   simp only[chkT] at h;replace h:=zab h;obtain⟨⟨o,x⟩,q,h⟩:=h;obtain⟨p,rfl⟩:=zdz q;simp only[and_eq_true,decide_eq_true_eq] at h;obtain⟨rfl,h1⟩:=h;exact⟨zoR (zaP a G h1).1,fun⟨_,_,_,_,z⟩=>nomatch z⟩
 | .and a b,N,sc,e,X,G,h=>by
   simp only[chkT] at h;replace h:=zab h;obtain⟨⟨o,vs,p⟩,q,h⟩:=h;cases zbG q;rw[and_eq_true,decide_eq_true_eq] at h;obtain⟨e1,h⟩:=h;cases e1;dsimp only at h;split at h
   . rename_i x y rest;rw[and_eq_true] at h;obtain⟨h1,h2⟩:=h;split at h2
     . rename_i c;cases isEmpty_iff.mp c;have w:=zkc (pos:=p) (zaP a G h1).1 (zln (zaP b G h2).1);exact⟨w.pt,fun _=>w⟩
     . have w:=zkc (zaP a G h1).1 ((zaP b G h2).2 ⟨_,_,_,_,rfl⟩);exact⟨w.pt,fun _=>w⟩
   . cases h
 | .or a b,N,sc,e,X,G,h=>by
   simp only[chkT] at h;replace h:=zab h;obtain⟨⟨o,vs,p⟩,q,h⟩:=h;cases zbG q;rw[and_eq_true,decide_eq_true_eq] at h;obtain⟨e1,h⟩:=h;cases e1;dsimp only at h;split at h
   . rename_i x y rest;rw[and_eq_true] at h;obtain⟨h1,h2⟩:=h;split at h2
     . rename_i c;cases isEmpty_iff.mp c;have w:=zmG (pos:=p) (zaP a G h1).1 (zng (zaP b G h2).1);exact⟨w.pt,fun _=>w⟩
     . have w:=zmG (zaP a G h1).1 ((zaP b G h2).2 ⟨_,_,_,_,rfl⟩);exact⟨w.pt,fun _=>w⟩
   . cases h
 | .tst a,N,sc,e,X,G,h=>by
   simp only[chkT,and_eq_true] at h;exact⟨zmF (zad a G h.2) h.1,fun⟨_,_,_,_,z⟩=>by rw[z] at h;simp[zfG] at h⟩
 |.loc i,N,sc,e,X,G,h=>absurd h Bool.false_ne_true
 |.con d,N,sc,e,X,G,h=>absurd h Bool.false_ne_true
 |.bin op a b,N,sc,e,X,G,h=>absurd h Bool.false_ne_true
 |.neg a,N,sc,e,X,G,h=>absurd h Bool.false_ne_true
 |.ite c a b,N,sc,e,X,G,h=>absurd h Bool.false_ne_true
 |.tup es,N,sc,e,X,G,h=>absurd h Bool.false_ne_true
 |.lst es,N,sc,e,X,G,h=>absurd h Bool.false_ne_true
 |.insL o a b,N,sc,e,X,G,h=>absurd h Bool.false_ne_true
 |.ix a b,N,sc,e,X,G,h=>absurd h Bool.false_ne_true
 |.mk c f x j es,N,sc,e,X,G,h=>absurd h Bool.false_ne_true
 |.mkX c x f a,N,sc,e,X,G,h=>absurd h Bool.false_ne_true
 |.fldX a f,N,sc,e,X,G,h=>absurd h Bool.false_ne_true
 |.iscX cs x a,N,sc,e,X,G,h=>absurd h Bool.false_ne_true
 |.sl a ml mh lo hi,N,sc,e,X,G,h=>absurd h Bool.false_ne_true
 |.call f j es,N,sc,e,X,G,h=>absurd h Bool.false_ne_true
 |.bi b es,N,sc,e,X,G,h=>absurd h Bool.false_ne_true
 |.mt m o es,N,sc,e,X,G,h=>absurd h Bool.false_ne_true
 |.mkL l,N,sc,e,X,G,h=>absurd h Bool.false_ne_true
 |.mkT l,N,sc,e,X,G,h=>absurd h Bool.false_ne_true
 |.all l,N,sc,e,X,G,h=>absurd h Bool.false_ne_true
 |.lenset l,N,sc,e,X,G,h=>absurd h Bool.false_ne_true
 |.sset a,N,sc,e,X,G,h=>absurd h Bool.false_ne_true
theorem zbg:∀(cl:CL) {N:List Str} {sc:Scope} {e:Expr} {X:Cx},Gd T cf k N sc X->chkL T cl N sc e=true->LOk T cf k cl X e
 | .val a,N,sc,e,X,G,h=>by
   simp only[chkL,and_eq_true] at h;have hp:=zmO (zad a G h.2);exact⟨fun _=>hp,fun z=>(by cases z),fun tg _=>zkd hp znN,fun a z=>nomatch z⟩
 | .rng1 a,N,sc,e,X,G,h=>by
   simp only[chkL] at h;replace h:=zab h;obtain⟨⟨x,e1⟩,q,h⟩:=h;obtain⟨p2,p,rfl⟩:=zaq q;simp only[and_eq_true] at h;obtain⟨⟨⟨hx,h1⟩,h2⟩,h3⟩:=h;cases zbc hx;have he:=zad a G h3;exact⟨fun z=>(by cases z),fun z=>(by cases z),fun tg _=>zkW (zaX G h1) he h2,fun a z=>by cases z;exact⟨e1,p2,p,rfl,zaX G h1,he,h2⟩⟩
 | .enum a,N,sc,e,X,G,h=>by
   simp only[chkL] at h;replace h:=zab h;obtain⟨⟨x,e1⟩,q,h⟩:=h;obtain⟨p2,p,rfl⟩:=zaq q;simp only[and_eq_true] at h;obtain⟨⟨⟨hx,h1⟩,h2⟩,h3⟩:=h;cases zbc hx;refine⟨fun z=>(by cases z),fun z=>(by cases z),fun tg ht=>?_,fun a z=>nomatch z⟩;cases tg with
   |Tuple es j pt=>exact zkX (zaX G h1) (zad a G h3) h2
   |_=>cases ht
 | .comp nt js g it c e,N,sc,ex,X,G,h=>by
   simp only[chkL] at h;replace h:=zab h;obtain⟨⟨elt,gs,scope,p⟩,q,h⟩:=h;cases zdA q;replace h:=zab h;obtain⟨⟨tg,iter,ifs,asy⟩,q2,h⟩:=h;cases zaF q2;rw[and_eq_true,and_eq_true,and_eq_true,and_eq_true,and_eq_true,and_eq_true,and_eq_true,and_eq_true,decide_eq_true_eq,decide_eq_true_eq,decide_eq_true_eq] at h;obtain⟨⟨⟨⟨⟨⟨⟨⟨h1,h2⟩,h3⟩,h4⟩,h5⟩,h6⟩,h7⟩,h8⟩,h9⟩:=h;dsimp only at h1 h2 h3 h4 h5 h6 h7 h8 h9;rw[and_eq_true] at h3;subst h1 h5;have ok:=zdV G h2;have G':=zfa G (tgs:=zbv tg) ok h6;have ht:∀cl C fp s H pn,PTs (zax X (capN X.N (zbv tg) js) scope cl C fp s H pn) ifs (tT X.K cf c):=fun cl C fp s H pn=>by
    split at h8
    . rename_i ce;cases isEmpty_iff.mp ce;exact zfq (X:=zax X (capN X.N (zbv tg) js) scope cl C fp s H pn) h8
    . replace h8:=zab h8;obtain⟨t,q3,h8⟩:=h8;cases zaF q3;exact zhz (zaP c (G' cl C fp s H pn) h8).1
   have hp:PE X (.ListComp elt [⟨tg,iter,ifs,0⟩] scope p) (tLt X.K cf (.comp (zbv tg).length js g it c e)):=
    PE.imp (zju X.env.scope (zbv tg) js G.calm rfl ok ((zbg it G h4).2.2.1 tg h3.2) (fun cl C fp s H pn=>ziV (G' cl C fp s H pn) h7) ht (fun cl C fp s H pn=>zad e (G' cl C fp s H pn) h9) (zdU h3.1 X.env)) fun σ H Qv q=>zf9 G.tab.frm q
   exact⟨fun _=>(PE.ofT hp),fun _=>hp,fun tg _=>zkd (PE.ofT hp) zlH,fun a z=>nomatch z⟩
end
end
end R
end
section
set_option maxHeartbeats 4000000
namespace R
open PySem PySem.Spec PyProof.Rows L2
variable [Mks]
section
variable {T:Tab} {cf:CF} {k:Nat}
theorem zkS {rest:List Stmt}(G:Gd T cf k N sc X)(hi:N[i]?=some x)(hl:zb4 sc x=true)(h:chkE T (.mkL l) N sc (.ListComp elt gs scope p2)=true)(hr:PSs X rest (tS X cf r)) :
  PSs X (.Assign [.Name x p] (.ListComp elt gs scope p2) pos::rest) (tS X cf (.asg i (.mkL l) r)):=by
 have hw:∃b,swapsWith (.ListComp elt gs scope p2) (some (.Name x p)) pos.line X.env=pure b:=⟨_,rfl⟩;obtain⟨b,hw⟩:=hw;cases b with
 | false=>
   refine PSs.imp (zat (zeg (by rw[G.nm];exact G.nd) (by rw[G.nm];exact hi) (G.lc hl).1 (zad (.mkL l) G h) hw (G.lc hl).2) hr) fun E σ H ⟨δ,ι,S,Q,hs,hh,w,lf⟩=>?_;simp[exS,zaa] at w;refine tE.run hs hh w fun d v ι1 H1 S1 x1 hs1 hh1 r1 w1=>?_;exact⟨δ.set i (some d),ι1,S1,Q,hs1.set r1 i,hh1,w1,lf.up x1⟩
 | true=>
   simp[chkE] at h;split at h
   . rename_i c0;split at h
     . cases l with
       | comp nt js g it c e=>
         replace h:=zab h;obtain⟨⟨elt',gs',scope',p'⟩,q,h⟩:=h;cases zdA q;replace h:=zab h;obtain⟨⟨tg,iter,ifs,asy⟩,q2,h⟩:=h;cases zaF q2;rw[and_eq_true,and_eq_true,and_eq_true,and_eq_true,and_eq_true,and_eq_true,and_eq_true,and_eq_true,decide_eq_true_eq,decide_eq_true_eq,decide_eq_true_eq] at h;obtain⟨⟨⟨⟨⟨⟨⟨⟨h1,h2⟩,h3⟩,h4⟩,h5⟩,h6⟩,h7⟩,h8⟩,h9⟩:=h;rw[and_eq_true] at h3;subst h1 h5;have ok:=zdV G h2;have G':=zfa G ok h6;have ht:∀cl C fp s H pn,PTs (zax X (capN X.N (zbv tg) js) scope cl C fp s H pn) ifs (tT X.K cf c):=fun cl C fp s H pn=>by
          split at h8
          . rename_i ce;cases isEmpty_iff.mp ce;exact zfq h8
          . replace h8:=zab h8;obtain⟨t,q3,h8⟩:=h8;cases zaF q3;exact zhz (zaP c (G' cl C fp s H pn) h8).1
         have he:∀cl C fp s H pn,PE (zax X (capN X.N (zbv tg) js) scope cl C fp s H pn) elt (tE X.K cf e):=fun cl C fp s H pn=>zad e (G' cl C fp s H pn) h9;have hg:∀cl C fp s H pn,PG (zax X (capN X.N (zbv tg) js) scope cl C fp s H pn) tg (tG X.K g):=fun cl C fp s H pn=>ziV (G' cl C fp s H pn) h7;have hps:=zlq X.env.scope (zbv tg) js (by rw[G.nm];exact G.nd) (by rw[G.nm];exact hi) (G.lc hl).1 G.calm rfl ok ((zbg it G h4).2.2.1 tg h3.2) hg ht he hw (zdU h3.1 X.env) (G.lc hl).2;exact zkU G hi ⟨_,hps,fun σ H Qv q=>zf9 G.tab.frm (zhT q)⟩ hr
       |_=>cases c0
     . cases h
   . cases h
theorem zl6 (h:zbe v=false)(hc:chkE T e N sc v=true):∃l elt gs scope p,v=.ListComp elt gs scope p/\e=.mkL l:=by
 cases v with
 | ListComp elt gs scope p=>
   cases e with
   |mkL l=>exact⟨l,elt,gs,scope,p,rfl,rfl⟩
   |_=>simp[chkE,za6,zcH,zhw,rdUn,zef,zcm,rdIf,zeR,zec,zeV,zeS,zaI,zaE,zbN,zdg,zcc,zbx] at hc
 |SetComp=>cases e<;>simp[chkE,za6,zcH,zhw,rdUn,zef,zcm,rdIf,zeR,zec,zeV,zeS,zaI,zaE,zbN,zdg,zcc,zbx,rdLC,chkL] at hc
 |DictComp=>cases e<;>simp[chkE,za6,zcH,zhw,rdUn,zef,zcm,rdIf,zeR,zec,zeV,zeS,zaI,zaE,zbN,zdg,zcc,zbx,rdLC,chkL] at hc
 |_=>cases h
theorem zdW:∀(b:TrB) {N:List Str} {sc:Scope} {st:List Stmt} {X:Cx},Gd T cf k N sc X->X.stack=X.env::X.outer/\X.env.frame=some X.env.locals->chkB T b N sc st=true->∃s,st=[s]/\PS X s (tB X cf b)
 | .asg i f es,N,sc,st,X,G,F,h=>by
   simp only[chkB] at h;replace h:=zab h;obtain⟨s,q0,h⟩:=h;cases zaF q0;replace h:=zab h;obtain⟨⟨tg,v,pos⟩,q1,h⟩:=h;cases za7 q1;replace h:=zab h;obtain⟨y,q2,h⟩:=h;obtain⟨py,hy⟩:=zaz q2;subst hy;replace h:=zab h;obtain⟨⟨x,args⟩,q,h⟩:=h;obtain⟨p2,p,hv⟩:=zav q;subst hv;simp only[and_eq_true,beq_iff_eq] at h;obtain⟨⟨⟨⟨⟨⟨⟨h8,h9⟩,h1⟩,h2⟩,h3⟩,h4⟩,h5⟩,h6⟩:=h;obtain⟨ps,nd,hf,hj⟩:=zf0 h4;cases args with
   |nil=>cases h5
   |cons a as=>exact⟨_,rfl,zm6 G h8 h9 h3 hf h1 (zaW h2).1 (zaL es G h6).1 (zaB h6)⟩
 | .ite c a b,N,sc,st,X,G,F,h=>by
   replace h:=zab h;obtain⟨s,q0,h⟩:=h;cases zaF q0;replace h:=zab h;obtain⟨⟨e,A,B⟩,q,h⟩:=h;obtain⟨p,rfl⟩:=zed q;simp at h;obtain⟨sa,ea,ha⟩:=zdW a G F h.1.2;obtain⟨sb,eb,hb⟩:=zdW b G F h.2;subst ea eb;exact⟨_,rfl,zm5 (zaP c G h.1.1).1 (zhk ha) (zhk hb)⟩
 | .setF a f g es,N,sc,st,X,G,F,h=>by
   replace h:=zab h;obtain⟨s,q0,h⟩:=h;cases zaF q0;replace h:=zab h;obtain⟨⟨tg,v,pos⟩,q1,h⟩:=h;cases za7 q1;replace h:=zab h;obtain⟨⟨o,f',p⟩,q2,h⟩:=h;have hx:=zbj q2;subst hx;replace h:=zab h;obtain⟨⟨x,args⟩,q,h⟩:=h;obtain⟨p2,p',hv⟩:=zav q;subst hv;simp only[and_eq_true,decide_eq_true_eq] at h;obtain⟨⟨⟨⟨⟨⟨⟨⟨rfl,h8⟩,h9⟩,h1⟩,h2⟩,h3⟩,h4⟩,h5⟩,h6⟩:=h;obtain⟨ps,nd,hf,hj⟩:=zf0 h4;cases args with
   |nil=>cases h5
   |cons e as=>exact⟨_,rfl,zla G h8 (zad a G h9) h3 hf h1 (zaW h2).1 (zaL es G h6).1 (zaB h6)⟩
 | .mk c f x j es,N,sc,st,X,G,F,h=>by
   replace h:=zab h;obtain⟨s,q0,h⟩:=h;cases zaF q0;replace h:=zab h;obtain⟨v,q1,h⟩:=h;obtain⟨p,rfl⟩:=zee q1;replace h:=zab h;obtain⟨⟨x',args⟩,q,h⟩:=h;obtain⟨p2,p,rfl⟩:=zav q;simp only[and_eq_true,decide_eq_true_eq] at h;obtain⟨⟨⟨⟨⟨⟨rfl,h1⟩,h2⟩,h3⟩,h4⟩,h5⟩,h6⟩:=h;cases args with
   |nil=>cases h5
   |cons e as=>exact⟨_,rfl,zoZ G h4 h3 h1 (zaW h2).1 (zaL es G h6).1 (zaB h6)⟩
 | .comp i nt js g it f es,N,sc,st,X,G,F,h=>by
   replace h:=zab h;obtain⟨s,q0,h⟩:=h;cases zaF q0;replace h:=zab h;obtain⟨⟨tgt,v,pos⟩,q1,h⟩:=h;cases za7 q1;replace h:=zab h;obtain⟨y,q2,h⟩:=h;obtain⟨py,hy⟩:=zaz q2;subst hy;replace h:=zab h;obtain⟨⟨elt,gs,scope,p3⟩,q3,h⟩:=h;have hv:=zdA q3;subst hv;replace h:=zab h;obtain⟨⟨tg,iter,ifs,asy⟩,q4,h⟩:=h;cases zaF q4;replace h:=zab h;obtain⟨⟨x,args⟩,q5,h⟩:=h;obtain⟨p2,p,he⟩:=zav q5;subst he;simp only[and_eq_true,decide_eq_true_eq,beq_iff_eq] at h;obtain⟨⟨⟨⟨⟨⟨⟨⟨⟨⟨⟨⟨⟨⟨⟨h1,h2⟩,h3⟩,h4⟩,h5⟩,h6⟩,h7⟩,h8⟩,h9⟩,h10⟩,h11⟩,h12⟩,h13⟩,h14⟩,h15⟩,h16⟩:=h;subst h1 h5;cases isEmpty_iff.mp h8;have ok:=zdV G h2;have G':=zfa G ok h6;obtain⟨ps,nd,hf,hj⟩:=zf0 h14;cases args with
   |nil=>cases h15
   |cons e as=>exact⟨_,rfl,zlb G F.1 F.2 h9 h10 h13 hf (zaW h12).1 ok ((zbg it G h4).2.2.1 tg h3.2) (zdU h3.1 X.env) (fun cl C fp s H pn=>(G' cl C fp s H pn).gl h11) (fun cl C fp s H pn=>ziV (G' cl C fp s H pn) h7) (fun cl C fp s H pn=>(zaL es (G' cl C fp s H pn) h16).1) (zaB h16)⟩
theorem zaQ:∀(cs:CS) {N:List Str} {sc:Scope} {st:List Stmt} {X:Cx},Gd T cf k N sc X->X.stack=X.env::X.outer/\X.env.frame=some X.env.locals->chkS T cs N sc st=true->PSs X st (tS X cf cs)
 | .nil,N,sc,st,X,G,F,h=>by
   simp[chkS,isEmpty_iff] at h;subst h;exact zmK
 |.stop,N,sc,st,X,G,F,h=>fun pins s σ H E I ⟨δ,ι,S,Q,hs,hh,w,l⟩=>(by simp only[exS] at w;exact w.elim)
 | .asg i e r,N,sc,st,X,G,F,h=>by
   cases st with
   |nil=>simp[chkS] at h
   | cons s rest=>
     simp[chkS] at h;replace h:=zab h;obtain⟨⟨tg,v,pos⟩,q,h⟩:=h;cases za7 q;replace h:=zab h;obtain⟨x,q2,h⟩:=h;obtain⟨p,hx⟩:=zaz q2;subst hx;simp at h;obtain⟨⟨⟨h1,h2⟩,h3⟩,h4⟩:=h;have hr:=zaQ r G F h4;cases hn:zbe v with
     |true=>exact zmN G h1 h2 (zad e G h3) hn hr
     | false=>
       obtain⟨l,elt,gs,scope,p2,rfl,rfl⟩:=zl6 hn h3;exact zkS G h1 h2 h3 hr
 | .asgT g e r,N,sc,st,X,G,F,h=>by
   cases st with
   |nil=>simp[chkS] at h
   | cons s rest=>
     replace h:=zab h;obtain⟨⟨tg,v,pos⟩,q,h⟩:=h;cases za7 q;replace h:=zab h;obtain⟨es,q2,h⟩:=h;obtain⟨j,p,hx⟩:=zcF q2;subst hx;simp only[and_eq_true,decide_eq_true_eq] at h;obtain⟨⟨⟨⟨h1,h2⟩,h3⟩,h4⟩,h5⟩:=h;refine zkT G h3 h2 (zad e G h4) ?_ (zaQ r G F h5);rw[or_eq_true] at h1;rcases h1 with h1|h1
     . obtain⟨x,hx⟩:=Option.isSome_iff_exists.mp h1;obtain⟨p2,hv⟩:=zaz hx;exact .inl ⟨x,p2,hv⟩
     . obtain⟨⟨x,as⟩,hx⟩:=Option.isSome_iff_exists.mp h1;obtain⟨p2,p3,hv⟩:=zav hx;exact .inr ⟨_,_,_,_,hv⟩
 | .setF a f e r,N,sc,st,X,G,F,h=>by
   cases st with
   |nil=>simp[chkS] at h
   | cons s rest=>
     replace h:=zab h;obtain⟨⟨tg,v,pos⟩,q,h⟩:=h;cases za7 q;replace h:=zab h;obtain⟨⟨o,f',p⟩,q2,h⟩:=h;have hx:=zbj q2;subst hx;simp only[and_eq_true,decide_eq_true_eq] at h;obtain⟨⟨⟨⟨⟨h1,h2⟩,h3⟩,h4⟩,h5⟩,h6⟩:=h;subst h1;exact zkQ G h2 (zad a G h4) (zad e G h5) h3 (zaQ r G F h6)
 | .setIx a b e r,N,sc,st,X,G,F,h=>by
   cases st with
   |nil=>simp[chkS] at h
   | cons s rest=>
     replace h:=zab h;obtain⟨⟨tg,v,pos⟩,q,h⟩:=h;cases za7 q;replace h:=zab h;obtain⟨⟨o,i⟩,q2,h⟩:=h;obtain⟨p,hx⟩:=zcG q2;subst hx;simp at h;obtain⟨⟨⟨⟨h1,h2⟩,h3⟩,h4⟩,h5⟩:=h;exact ziX G (zad a G h2) (zad b G h3) (zad e G h4) h1 (zaQ r G F h5)
 | .ifS c t u r,N,sc,st,X,G,F,h=>by
   cases st with
   |nil=>simp[chkS] at h
   | cons s rest=>
     replace h:=zab h;obtain⟨⟨e,a,b⟩,q,h⟩:=h;obtain⟨p,rfl⟩:=zed q;simp at h;exact zoS (zaP c G h.1.1.1).1 (zaQ t G F h.1.1.2) (zaQ u G F h.1.2) (zaQ r G F h.2)
 | .forS g l b r,N,sc,st,X,G,F,h=>by
   cases st with
   |nil=>simp[chkS] at h
   | cons s rest=>
     replace h:=zab h;obtain⟨⟨tg,it,body⟩,q,h⟩:=h;obtain⟨p,rfl⟩:=zhu q;simp only[and_eq_true] at h;obtain⟨⟨⟨⟨h1,h2⟩,h3⟩,h4⟩,h5⟩:=h;exact zmL G ((zbg l G h2).2.2.1 tg h5.2) (ziV G h5.1) (zaQ b G F h3) h1 (zaQ r G F h4)
 | .ret e r,N,sc,st,X,G,F,h=>by
   cases st with
   |nil=>simp[chkS] at h
   | cons s rest=>
     replace h:=zab h;obtain⟨v,q,h⟩:=h;obtain⟨p,rfl⟩:=zhr q;simp at h;exact zmJ (zad e G h.1) (zaQ r G F h.2)
 | .expr e r,N,sc,st,X,G,F,h=>by
   cases st with
   |nil=>simp[chkS] at h
   | cons s rest=>
     replace h:=zab h;obtain⟨v,q,h⟩:=h;obtain⟨p,rfl⟩:=zee q;simp at h;exact zkR (zad e G h.1.2) h.1.1 (zaQ r G F h.2)
 | .rais c x f a,N,sc,st,X,G,F,h=>by
   cases st with
   |nil=>simp[chkS] at h
   | cons s rest=>
     replace h:=zab h;obtain⟨⟨x',arg⟩,q,h⟩:=h;obtain⟨np,cp,p,rfl⟩:=zeT q;simp only[and_eq_true,decide_eq_true_eq] at h;obtain⟨⟨⟨⟨⟨rfl,h1⟩,h2⟩,h3⟩,h4⟩,h5⟩:=h;exact ziY G h3 h1 (zaW h2).1 (zad a G h5) h4
 | .blk b r,N,sc,st,X,G,F,h=>by
   cases st with
   |nil=>simp[chkS] at h
   | cons s rest=>
     simp[chkS,and_eq_true] at h;obtain⟨s',e,hb⟩:=zdW b G F h.1;cases e;exact zmM hb (zaQ r G F h.2)
 | .tryS b x ie ix r,N,sc,st,X,G,F,h=>by
   cases st with
   |nil=>simp[chkS] at h
   | cons s rest=>
     replace h:=zab h;obtain⟨⟨body,xR,n,y⟩,q,h⟩:=h;obtain⟨np,p1,p2,p3,hp,p,rfl⟩:=zhq q;simp only[and_eq_true,decide_eq_true_eq,beq_iff_eq] at h;obtain⟨⟨⟨⟨⟨⟨⟨⟨⟨⟨⟨rfl,h1⟩,h2⟩,h3⟩,h4⟩,h5⟩,h6⟩,h7⟩,h8⟩,h9⟩,h10⟩,h11⟩:=h;exact zmI G (fun pn E hE=>by
      obtain⟨s,e,z⟩:=zdW b (X:=pnC X pn E) ⟨G.nm,G.nd,G.loc,G.cell,G.free,G.glob,G.fn,G.calm,hE,G.room',G.tab⟩ F h10;subst e;exact zhk z) F.1 F.2 h3 h1 (zaW h2).1 h4 h5 h6 h7 (zaW h8).1 (zaW h8).2.1 h9 (zaQ r G F h11)
theorem RS.start {K:PySem.W.Frag}(r:RVs K ι H ds vs)(hl:ds.length=F.np)(hn:F.nn=N.length):RS K ι H (zap F ds) (L2.start N vs):=by
 have hlen:=r.length;refine⟨by simp[zap,L2.start,hlen,hl,hn],fun i d e=>?_⟩;unfold zap at e;unfold L2.start;by_cases hi:i<ds.length
 . rw[getElem?_append_left (by simpa using hi),getElem?_map] at e;rw[getElem?_append_left (by simpa[hlen] using hi),getElem?_map];cases z:ds[i]? with
   |none=>rw[z] at e;cases e
   | some d'=>
     rw[z] at e;simp at e;subst e;obtain⟨v,ev,rv⟩:=r.get z;exact⟨v,by rw[ev];rfl,rv⟩
 . rw[getElem?_append_right (by simpa using hi),List.getElem?_replicate] at e;split at e<;>cases e
structure DefOk (K:PySem.W.Frag) (mg:Str->Option Value) (T:Tab) (Pg:List Fn) (fi:Nat) (x:Str) (ps:List Str) (nd:Nat):Prop where
 ex:∃(F:Fn) (qual:Str) (st:Stmt) (dV:Value) (f:Addr) (fd:FuncData) (N:List Str),Pg[fi]?=some F/\F.prim=none/\FunV K x qual st dV f fd/\FnScope N ps (zae st)/\chkS T F.body N (zae st) (zas st)=true/\F.np=ps.length/\F.nn=N.length/\
  mg x=some (.ref f)/\∀j,j<=nd->Binds K fd ps (List.replicate j Value.none)
theorem zcS (Pg:List Fn):∀n:Nat,CFok (callF Pg n)
 |0,f,ds,S,d,T',h=>by rcases h with h|h<;>cases h
 | n+1,f,ds,S,d,T',h=>by
   simp[callF] at h;cases e:Pg[f]? with
   |none=>rw[e] at h;rcases h with h|h<;>cases h
   | some F=>
     rw[e] at h;dsimp only at h;split at h
     . cases ep:F.prim with
       | some p=>
         rw[ep] at h;dsimp only at h;rcases h with h|h<;>cases h
       |none=>
       rw[ep] at h;dsimp only at h;cases ex:exS (callF Pg n) F.body (zap F ds) S with
       | ok r T2=>
         rw[ex] at h;have hf:=zbZ (zcS Pg n) F.body (zap F ds) S (fun r' T3=>r'=r/\T3=T2) (by rw[ex];exact⟨rfl,rfl⟩);rw[ex] at hf;cases r with
         |nx δ=>rcases h with h|h<;>cases h;exact hf.2
         |rt z=>rcases h with h|h<;>cases h;exact hf.2
         |ex z=>rcases h with h|h<;>cases h;exact hf.2
       |err z T2=>rw[ex] at h;rcases h with h|h<;>cases h
       |bad=>rw[ex] at h;rcases h with h|h<;>cases h
     . rcases h with h|h<;>cases h
variable {P:Program} {w:World} {K:PySem.W.Frag} {mg:Str->Option Value} {base:Heap} {Pg:List Fn}
theorem zds {ps:List Str}(hP:Pg[fi]?=some F)(hp:F.np=ps.length)(h:spF K (callF Pg n) fi vs H Q E):vs.length=ps.length:=by
 obtain⟨ι,S,ds,r,hh,w⟩:=h;rw[r.length];cases n with
 |zero=>exact w.elim
 | succ n=>
   simp[callF,hP] at w;split at w
   . rename_i c;rw[c,hp]
   . exact w.elim
theorem zeO {ps:List Str}(hP:Pg[fi]?=some F)(hp:F.np=ps.length)(h:spX K (callF Pg n) fi vs H Q E):vs.length=ps.length:=by
 obtain⟨ι,S,ds,r,hh,w⟩:=h;rw[r.length];cases n with
 |zero=>exact w.elim
 | succ n=>
   simp[callF,hP] at w;by_cases c:ds.length=F.np
   . rw[c,hp]
   . rw[if_neg c] at w;exact w.elim
theorem zfe {st:Stmt}(tab:TabOk T (callF Pg n) m P w K mg base)(FV:FunV K x qual st dV f fd)(hP:Pg[fi]?=some F)(S:FnScope N ps (zae st))(ck:chkS T F.body N (zae st) (zas st)=true)(hp:F.np=ps.length)(hn:F.nn=N.length)(hq:F.prim=none:=by rfl) :
  FnOk P w K mg base (CXe P w) (m+2) f fd ps (spX K (callF Pg (n+1)) fi):=by
 obtain⟨oc,od,kV,doc,pm,an,cdv,ct,osl,rfl,lk,hcd⟩:=FV.ex;refine zn7 lk hcd S (fun vs H Q E h=>zeO hP hp h) fun A outer s H vs Q E hr h=>?_;obtain⟨ι,S0,ds,r,hh,hw⟩:=h;have G:Gd T (callF Pg n) m N (zae st) (cxOf (CXe P w) P w K mg base N qual (zae st) f cdv A outer s H E):=
  ⟨rfl,S.nd,fun x e=>e,fun x e=>e,fun x e=>.inl e,fun x e=>e,.inl fun _=>rfl,rfl,PassesOwn.leaving,hr,tab⟩
 refine⟨_,zaQ F.body G ⟨rfl,rfl⟩ ck,?_⟩;simp[callF,hP,hq] at hw;by_cases c:ds.length=F.np
 . rw[if_pos c] at hw;cases ex:exS (callF Pg n) F.body (zap F ds) S0 with
   | ok fl T'=>
     rw[ex] at hw;refine⟨zap F ds,ι,S0,fun f' T2=>f'=fl/\T2=T',RS.start r c hn,hh,by rw[ex];exact⟨rfl,rfl⟩,?_⟩;rintro f' ι' H' S' x' hh' ⟨rfl,rfl⟩;cases f' with
     |nx δ'=>exact fun σ' hs'=>hw .non H' ι' x' rfl hh'
     |rt d=>exact fun v rv=>hw v H' ι' x' rv hh'
     |ex d=>exact fun a σ' pins s' rv I fl=>zhX I fl (hw a H' ι' x' rv hh')
   |err d T'=>rw[ex] at hw;exact hw.elim
   |bad=>rw[ex] at hw;exact hw.elim
 . rw[if_neg c] at hw;exact hw.elim
theorem zlX (F:FnOk P w K mg base (CXe P w) k f fd ps (spX K cf fi)):FnOk P w K mg base CX0 k f fd ps (spF K cf fi):=by
 have conv:∀vs H Q E,spF K cf fi vs H Q E->spX K cf fi vs H Q (fun _ _ _=>False):=fun vs H Q E ⟨ι,S,ds,r,hh,hw⟩=>by
  obtain⟨d,T',e,q⟩:=zg1 hw;exact⟨ι,S,ds,r,hh,by rw[e];exact q⟩
 refine⟨fun vs H Q E h=>F.len _ _ _ _ (conv vs H Q E h),fun A outer s H args us vs Q E hr e0 b v h=>codeAny_mono (F.run A outer s H args us vs Q _ hr e0 b v (conv vs H Q E h)) fun r s' q=>?_⟩;cases r with
 |error e=>obtain⟨a,H',_,_,_,_,_,_,z⟩:=q;exact z.elim
 |ok fl=>cases fl<;>exact q
theorem ziu {st:Stmt}(tab:TabOk T (callF Pg n) m P w K mg base)(FV:FunV K x qual st dV f fd)(hP:Pg[fi]?=some F)(S:FnScope N ps (zae st))(ck:chkS T F.body N (zae st) (zas st)=true)(hp:F.np=ps.length)(hn:F.nn=N.length)(hq:F.prim=none:=by rfl) :
 FnOk P w K mg base CX0 (m+2) f fd ps (spF K (callF Pg (n+1)) fi):=zlX (zfe tab FV hP S ck hp hn hq)
structure MOk (K:PySem.W.Frag) (T:Tab) (Pg:List Fn) (fi j:Nat) (Ex:Addr->Prop):Prop where
 ex:∃(F:Fn) (x qual:Str) (st:Stmt) (dV:Value) (f:Addr) (fd:FuncData) (N ps:List Str),Pg[fi]?=some F/\F.prim=none/\FunV K x qual st dV f fd/\FnScope N ps (zae st)/\chkS T F.body N (zae st) (zas st)=true/\F.np=ps.length/\F.nn=N.length/\
  Binds K fd ps (List.replicate j Value.none)/\Ex f
theorem zdM (z:MOk K T Pg fi j Ex):∃f fd ps,Ex f/\keepIn K (.ref f)=true/\Binds K fd ps (List.replicate j Value.none)/\FnOk P w K mg base CX0 1 f fd ps (spF K (callF Pg 0) fi):=by
 obtain⟨F,x,qual,st,dV,f,fd,N,ps,hP,hq,FV,S,ck,hp,hn,hb,e⟩:=z.ex;refine⟨f,fd,ps,e,FV.kp,hb,⟨fun vs H Q E h=>zds hP hp h,fun A outer s H args us vs Q E hr e0 b v h=>?_⟩⟩;obtain⟨ι,S,ds,r,hh,w⟩:=h;exact w.elim
theorem zdN (tab:TabOk T (callF Pg n) m P w K mg base)(z:MOk K T Pg fi j Ex):∃f fd ps,Ex f/\keepIn K (.ref f)=true/\Binds K fd ps (List.replicate j Value.none)/\FnOk P w K mg base CX0 (m+2) f fd ps (spF K (callF Pg (n+1)) fi):=by
 obtain⟨F,x,qual,st,dV,f,fd,N,ps,hP,hq,FV,S,ck,hp,hn,hb,e⟩:=z.ex;exact⟨f,fd,ps,e,FV.kp,hb,ziu tab FV hP S ck hp hn hq⟩
theorem zhR (z:MOk K T Pg fi j Ex):∃f fd ps,Ex f/\Binds K fd ps (List.replicate j Value.none)/\FnOk P w K mg base (CXe P w) 1 f fd ps (spX K (callF Pg 0) fi):=by
 obtain⟨F,x,qual,st,dV,f,fd,N,ps,hP,hq,FV,S,ck,hp,hn,hb,e⟩:=z.ex;refine⟨f,fd,ps,e,hb,⟨fun vs H Q E h=>zeO hP hp h,fun A outer s H args us vs Q E hr e0 b v h=>?_⟩⟩;obtain⟨ι,S,ds,r,hh,w⟩:=h;exact w.elim
theorem zhS (tab:TabOk T (callF Pg n) m P w K mg base)(z:MOk K T Pg fi j Ex):∃f fd ps,Ex f/\Binds K fd ps (List.replicate j Value.none)/\FnOk P w K mg base (CXe P w) (m+2) f fd ps (spX K (callF Pg (n+1)) fi):=by
 obtain⟨F,x,qual,st,dV,f,fd,N,ps,hP,hq,FV,S,ck,hp,hn,hb,e⟩:=z.ex;exact⟨f,fd,ps,e,hb,zfe tab FV hP S ck hp hn hq⟩
def ExM (K:PySem.W.Frag)(c:Nat)(m:Str)(f:Addr):Prop:=∃C,Mks.cl[c]?=some C/\Cls K C/\Meth K C m f
def ExI (K:PySem.W.Frag)(c:Nat)(f:Addr):Prop:=∃C,Mks.cl[c]?=some C/\Mk K C f
def ExC (K:PySem.W.Frag)(mg:Str->Option Value)(x m:Str)(f:Addr):Prop:=∃(C:Addr) (mc:Value),mg x=some (.ref C)/\specialIn K (.ref C) "__getattribute__"=some (some (.builtin "type.__getattribute__"))/\readsIn K C mc=true/\findCls K (.ref C) mc m=some (.val (.ref f))
structure ClsOk (T:Tab) (K:PySem.W.Frag) (mg:Str->Option Value) (Pg:List Fn):Prop where
 cls:∀(c:Nat) (x:Str),T.cls[c]?=some x->∃C,Mks.cl[c]?=some C/\Cls K C/\mg x=some (.ref C)/\∀f,T.flds.contains f=true->NoAttr K C f
 mth:∀(c:Nat) (m:Str) (fi:Nat),T.mts.contains (c,m,fi)=true->MOk K T Pg fi 0 (ExM K c m)
 ini:∀(c fi j:Nat),T.inits.contains (c,fi,j)=true->MOk K T Pg fi j (ExI K c)
 cmd:∀(x m:Str) (fi:Nat),T.cms.contains (x,m,fi)=true->MOk K T Pg fi 0 (ExC K mg x m)
 cln:Mks.cl.length<=T.cls.length
 isa:∀(x:Str) (cs:List Nat),T.isas.contains (x,cs)=true->∃D,mg x=some (.ref D)/\∀c C,Mks.cl[c]?=some C->IsaOk K C/\kitOne K (.ref C) (.ref D)=some (cs.contains c)
theorem zig (h:∃f fd ps,ExM K c m f/\keepIn K (.ref f)=true/\Binds K fd ps []/\FnOk P w K mg base CX0 k f fd ps (spF K cf fi)):HasM P w K mg base k c m (spF K cf fi):=by
 obtain⟨f,fd,ps,⟨C,h1,h2,h3⟩,_,h4,h5⟩:=h;exact⟨C,f,fd,ps,h1,h2,h3,h5,h4⟩
theorem zih (h:∃f fd ps,ExI K c f/\keepIn K (.ref f)=true/\Binds K fd ps (List.replicate j Value.none)/\FnOk P w K mg base CX0 k f fd ps (spF K cf fi)):HasI P w K mg base k c j (spF K cf fi):=by
 obtain⟨f,fd,ps,⟨C,h1,h2⟩,_,h4,h5⟩:=h;exact⟨C,f,fd,ps,h1,h2,h5,h4⟩
theorem zfW (h:∃f fd ps,ExI K c f/\Binds K fd ps (List.replicate j Value.none)/\FnOk P w K mg base (CXe P w) k f fd ps (spX K cf fi)):HasIX P w K mg base k c j (spX K cf fi):=by
 obtain⟨f,fd,ps,⟨C,h1,h2⟩,h4,h5⟩:=h;exact⟨C,f,fd,ps,h1,h2,h5,h4⟩
theorem zii (h:∃f fd ps,ExC K mg x m f/\keepIn K (.ref f)=true/\Binds K fd ps []/\FnOk P w K mg base CX0 k f fd ps (spF K cf fi)):HasC P w K mg base k x m (spF K cf fi):=by
 obtain⟨f,fd,ps,⟨C,mc,h1,h2,h3,h6⟩,h7,h4,h5⟩:=h;exact⟨C,f,fd,ps,mc,h1,h2,h3,h6,h7,h5,h4⟩
structure PrimOk (P:Program) (w:World) (K:PySem.W.Frag) (mg:Str->Option Value) (base:Heap) (Pg:List Fn) (fi:Nat) (x:Str) (ps:List Str) (nd:Nat):Prop where
 ex:∃(F:Fn) (p:Prim) (f:Addr) (fd:FuncData),Pg[fi]?=some F/\F.prim=some p/\F.np=ps.length/\mg x=some (.ref f)/\keepIn K (.ref f)=true/\(∀j,j<=nd->Binds K fd ps (List.replicate j Value.none))/\
  ∀n,3<=n->FnOk P w K mg base CX0 (n+2) f fd ps (spF K (callF Pg (n+1)) fi)
structure XSOk (T:Tab) (K:PySem.W.Frag) (mg:Str->Option Value) (Pg:List Fn):Prop where
 cl:∀(c:Nat) (x f:Str),T.xcs.contains (c,x,f)=true->∃(C fI:Addr) (qual:Str) (st:Stmt) (fd:FuncData) (xR y:Str),Mks.xc[c]?=some C/\mg x=some (.ref C)/\keepIn K (.ref C)=true/\Xc K C fI f/\FunV K "__init__" qual st .none fI fd/\XSt st xR y f/\XUp K mg xR/\Binds K fd ["self",y] []
 fl:∀f,T.xflds.contains f=true->∀(c:Nat) C,Mks.xc[c]?=some C->XGet K C/\NoAttr K C f
 is:∀(x:Str) (cs:List Nat),T.xisas.contains (x,cs)=true->∃D,mg x=some (.ref D)/\∀(c:Nat) C,Mks.xc[c]?=some C->XGet K C/\IsaOk K C/\kitOne K (.ref C) (.ref D)=some (cs.contains c)
 ib:∀(x:Str) (cs:List Nat),T.xisbs.contains (x,cs)=true->mg x=none/\x≠"__name__"/\∃t,bootBuiltins x=some (.type t)/\∀(c:Nat) C,Mks.xc[c]?=some C->XGet K C/\IsaOk K C/\kitOne K (.ref C) (.type t)=some (cs.contains c)
 fn:∀(f:Nat) (x:Str) (ps:List Str) (nd:Nat),T.xfns.contains f=true->T.fns[f]?=some (x,ps,nd)->DefOk K mg T Pg f x ps nd
 tr:∀x,T.xtrs.contains x=true->∃CR,mg x=some (.ref CR)/\∀(c:Nat) C,Mks.xc[c]?=some C->PySem.W.exmOne K (.ref C) (.ref CR)=some true
theorem XSOk.tab (hx:XSOk T K mg Pg)(fn:∀(f:Nat) (x:Str) (ps:List Str) (nd:Nat),T.xfns.contains f=true->T.fns[f]?=some (x,ps,nd)->∃fa fd,FnOk P w K mg base (CXe P w) (k+1) fa fd ps (spX K cf f)/\mg x=some (.ref fa)/\keepIn K (.ref fa)=true/\Binds K fd ps []) :
  XTabOk T cf (k+1) P w K mg base:=by
 refine⟨fun c x f h=>?_,hx.fl,hx.is,hx.ib,fn,hx.tr⟩;obtain⟨C,fI,qual,st,fd,xR,y,h1,h2,h3,h4,h5,h6,h7,h8⟩:=hx.cl c x f h;exact⟨C,fI,fd,["self",y],h1,h2,h3,h4,zlR h5 h6 h7,h8⟩
theorem zmB (hb:∀x,T.blt.contains x=true->mg x=none)(hc:∀x d,T.cons.lookup x=some d->zk9 d=true/\∃u,mg x=some u/\RelV (sV d) u)(hd:∀fi x ps nd,T.fns[fi]?=some (x,ps,nd)->DefOk K mg T Pg fi x ps nd\/PrimOk P w K mg base Pg fi x ps nd)(hk:ClsOk T K mg Pg)(hx:XSOk T K mg Pg) :
  ∀n,TabOk T (callF Pg n) (2 * n+1) P w K mg base:=by
 intro n;induction n with
 | zero=>
   refine⟨hb,hc,fun fi x ps nd hf j hj=>?_,zcS Pg 0,hk.cls,fun c m fi h=>zig (zdM (hk.mth c m fi h)),fun c fi j h=>zih (zdM (hk.ini c fi j h)),fun x m fi h=>zii (zdM (hk.cmd x m fi h)),fun _=>hk.cln,hk.isa,hx.tab (fun f x ps nd h1 h2=>?_),fun c fi j h=>zfW (zhR (hk.ini c fi j h))⟩
   rotate_left
   . obtain⟨F,qual,st,dV,fa,fd,N,hP,hq,FV,S,ck,hp,hn,hm,hbd⟩:=(hx.fn f x ps nd h1 h2).ex;refine⟨fa,fd,⟨fun vs H Q E h=>zeO hP hp h,fun A outer s H args us vs Q E hr e0 b v h=>?_⟩,hm,FV.kp,hbd 0 (zero_le _)⟩;obtain⟨ι,S,ds,r,hh,w⟩:=h;exact w.elim
   rcases hd fi x ps nd hf with z|z
   . obtain⟨F,qual,st,dV,f,fd,N,hP,hq,FV,S,ck,hp,hn,hm,hbd⟩:=z.ex;refine⟨f,fd,_,⟨fun vs H Q E h=>zds hP hp h,fun A outer s H args us vs Q E hr e0 b v h=>?_⟩,hm,FV.kp,hbd j hj,Vals.nons j⟩;obtain⟨ι,S,ds,r,hh,w⟩:=h;exact w.elim
   . obtain⟨F,p,f,fd,hP,hq,hp,hm,kp,hbd,ok⟩:=z.ex;refine⟨f,fd,_,⟨fun vs H Q E h=>zds hP hp h,fun A outer s H args us vs Q E hr e0 b v h=>?_⟩,hm,kp,hbd j hj,Vals.nons j⟩;obtain⟨ι,S,ds,r,hh,w⟩:=h;exact w.elim
 | succ n ih=>
   refine⟨hb,hc,fun fi x ps nd hf j hj=>?_,zcS Pg (n+1),hk.cls,fun c m fi h=>zig (zdN ih (hk.mth c m fi h)),fun c fi j h=>zih (zdN ih (hk.ini c fi j h)),fun x m fi h=>zii (zdN ih (hk.cmd x m fi h)),fun _=>hk.cln,hk.isa,hx.tab (fun f x ps nd h1 h2=>?_),fun c fi j h=>zfW (zhS ih (hk.ini c fi j h))⟩
   rotate_left
   . obtain⟨F,qual,st,dV,fa,fd,N,hP,hq,FV,S,ck,hp,hn,hm,hbd⟩:=(hx.fn f x ps nd h1 h2).ex;exact⟨fa,fd,zfe ih FV hP S ck hp hn hq,hm,FV.kp,hbd 0 (zero_le _)⟩
   rcases hd fi x ps nd hf with z|z
   . obtain⟨F,qual,st,dV,f,fd,N,hP,hq,FV,S,ck,hp,hn,hm,hbd⟩:=z.ex;refine⟨f,fd,_,?_,hm,FV.kp,hbd j hj,Vals.nons j⟩;exact ziu ih FV hP S ck hp hn hq
   . obtain⟨F,p,f,fd,hP,hq,hp,hm,kp,hbd,ok⟩:=z.ex;refine⟨f,fd,_,?_,hm,kp,hbd j hj,Vals.nons j⟩;by_cases c:3<=n
     . exact (ok n c).mono (by omega)
     . refine⟨fun vs H Q E h=>zds hP hp h,fun A outer s H args us vs Q E hr e0 b v h=>?_⟩;obtain⟨ι,S,ds,r,hh,w⟩:=h;simp only[callF,hP,hq] at w;split at w<;>exact w.elim
def AllAtG {α:Type}(P:Nat->α->Prop):Nat->List α->Prop
 |_,[]=>True
 |k,a::r=>P k a/\AllAtG P (k+1) r
theorem zkE {P:Nat->α->Prop}:∀{l:List α} {k:Nat},AllAtG P k l->∀(i:Nat) (a:α),l[i]?=some a->P (k+i) a
 | [],_,_,i,a,h=>by simp at h
 |b::r,k,q,0,a,h=>by cases h;exact q.1
 | b::r,k,q,i+1,a,h=>by
   have:=zkE q.2 i a (by simpa using h)
   rwa [Nat.add_right_comm] at this
theorem AllAt.get {P:Nat->α->Prop}(q:AllAtG P 0 l)(i:Nat)(a:α)(h:l[i]?=some a):P i a:=zero_add i▸zkE q i a h
def AllInG {α:Type}(P:α->Prop):List α->Prop
 | []=>True
 |a::r=>P a/\AllInG P r
theorem AllIn.get [BEq α][LawfulBEq α]{P:α->Prop}:∀{l:List α},AllInG P l->∀a,l.contains a=true->P a
 | [],_,a,h=>by simp at h
 | b::r,q,a,h=>by
   rw[List.contains_cons,or_eq_true] at h;rcases h with h|h
   . rw[eq_of_beq h];exact q.1
   . exact AllIn.get q.2 a h
theorem zlJ {ns:List Int}(hx:FixL K H a (ns.map V.int))(tb:TB H)
  (law:W (callF Pg k fi [.fix (ns.map .int)] ⟨[],[],[]⟩) fun d _=>d=.bl true):spF K (callF Pg k) fi [.ref a] H (fun v _=>v=.bl true) fun _ _ _=>False:=by
 refine⟨[],⟨[],[],[]⟩,[.fix (ns.map .int)],⟨.ref a,[],rfl,⟨a,_,rfl,hx,RVs.ints ns⟩,rfl⟩,⟨rfl,List.nodup_nil,fun l o e=>(by simp[St.get] at e),tb⟩,?_⟩;obtain⟨d,T',e,q⟩:=zg1 law;rw[e];intro v H' ι' x r hT;subst q;exact r
theorem law_sp {ns:List Int}(h0:Mks.ts=[])(hO:Only H)(hS:SqL K H a (ns.map V.int))
  (law:W (callF Pg k fi [.fix (ns.map .int)] ⟨[],[],[]⟩) fun d _=>d=.bl true):spF K (callF Pg k) fi [.ref a] H (fun v _=>v=.bl true) fun _ _ _=>False:=by
 refine zlJ ?_ (fun p hp=>by rw[h0] at hp;cases hp) law;rcases hS with (h|⟨o,h⟩)|h
 . rcases hO a with z|⟨o,xs,z⟩
   . rw[z] at h;cases h
   . rw[z] at h;cases h
 . exact .inl ⟨o,h⟩
 . exact .inr h
end
end R
end
section
namespace R
open PySem PySem.Spec PyProof.Rows L2
variable [Mks]
section
variable {X:Cx} {pins:List (Addr × Obj)} {σ:L2.St} {H H':Hp} {s:Shared}
structure Own (X:Cx) (pins:List (Addr × Obj)) (b:Addr):Prop where
 new:X.s₀.heap.objs.size<=b
 loc:b≠X.env.locals
 cel:∀x c,X.env.cells.lookup x=some c->c≠b
 pin:∀p∈X.pn++pins,p.1≠b
end
section
variable {X:Cx} {pins:List (Addr × Obj)} {σ:L2.St} {H H':Hp} {s:Shared} {b:Addr} {o:HO}
end
structure StepT (P:Addr) (H H':Hp):Prop where
 rest:∀a o,a≠P->H a=some o->H' a=some o
 tab:∀ps,H P=some (.tbl ps)->∃more,H' P=some (.tbl (ps++more))
section
variable {X:Cx} {pins:List (Addr × Obj)} {σ:L2.St} {H:Hp} {s:Shared} {c P:Addr} {params:Arguments} {scope:Scope} {lpos:Pos}
end
end R
end
section
namespace R
open PySem PySem.Spec PyProof.Rows L2
variable [Mks]
noncomputable def okD (T:Tab)(F:Fn)(N ps:List Str)(st:Stmt):Bool:=
 decide ((zae st).kind=.function)&&(!(zae st).isCoroutine&&(!(zae st).isGenerator&&(decide N.Nodup&&(decide (N.take ps.length=ps)&&(ps.all (fun x=>decide ((zae st).names.lookup x=some .local) || decide ((zae st).names.lookup x=some .cell)) &&
  ((zae st).names.all (fun y=>decide (y.2≠.free))&&(chkS T F.body N (zae st) (zas st)&&(decide (F.np=ps.length)&&(decide (F.nn=N.length)&&F.prim.isNone)))))))))
structure OkD (T:Tab) (Pg:List Fn) (fi:Nat) (x q:Str) (ps:List Str) (st:Stmt):Prop where
 ex:∃(F:Fn) (N:List Str),Pg[fi]?=some F/\F.prim=none/\FnScope N ps (zae st)/\chkS T F.body N (zae st) (zas st)=true/\F.np=ps.length/\F.nn=N.length
 bd:∀(kV doc pm:Value) (an:Option Addr) (cdv ct:Value) (us:List Value),us.length=ps.length->bindArgs (fnOf x q (zaJ st) (zas st) (zae st) .none kV doc pm an cdv ct) ⟨us,[]⟩=pure (ps.zip us)
theorem zaD {st:Stmt}(N:List Str)(e:Pg[fi]?=some F)(h:okD T F N ps st=true)
  (b:∀(kV doc pm:Value) (an:Option Addr) (cdv ct:Value) (us:List Value),us.length=ps.length->bindArgs (fnOf x q (zaJ st) (zas st) (zae st) .none kV doc pm an cdv ct) ⟨us,[]⟩=pure (ps.zip us)):OkD T Pg fi x q ps st:=by
 simp only[okD,and_eq_true,not_eq_true',decide_eq_true_eq,all_eq_true,or_eq_true,Option.isNone_iff_eq_none] at h;obtain⟨h1,h2,h3,h4,h5,h6,h7,h8,h9,h10,h11⟩:=h;exact⟨⟨F,N,e,h11,⟨h1,h2,h3,h4,h5,h6,h7⟩,h8,h9,h10⟩,b⟩
theorem AllInG.cons (h:P a)(t:AllInG P r):AllInG P (a::r):=⟨h,t⟩
theorem AllAtG.cons (h:P k a)(t:AllAtG P (k+1) r):AllAtG P k (a::r):=⟨h,t⟩
theorem AllInG.mem:∀{l:List α},AllInG P l->∀a∈l,P a
 | b::r,q,a,h=>by
   rcases mem_cons.mp h with rfl|h
   . exact q.1
   . exact AllInG.mem q.2 a h
section
variable {P:Program} {w:World} {K:PySem.W.Frag} {h base:Heap} {mg:Str->Option Value} {T:Tab} {Pg:List Fn} {fi c:Nat} {x q m:Str} {ps:List Str} {st:Stmt} {f C:Addr} {oc kV dc pm cd ct:Value} {od an:Option Addr} {sl:Array (Option Value)}
theorem dOk (X:K.In h)(G:h.Ns mainGlobals mg)(o:OkD T Pg fi x x ps st)(a:nsIn K mainGlobals x=some (some (.ref f)))(l:K.lookup f=some ⟨oc,od,.func (fnOf x x (zaJ st) (zas st) (zae st) .none kV dc pm an cd ct),sl⟩)(c:codeIn K cd x=true)
  (k:keepIn K (.ref f)=true):DefOk K mg T Pg fi x ps 0\/PrimOk P w K mg base Pg fi x ps 0:=by
 obtain⟨F,N,h1,h2,h3,h4,h5,h6⟩:=o.ex;have FV:=zdT l c k;exact .inl ⟨⟨F,x,st,_,f,_,N,h1,h2,FV,h3,h4,h5,h6,mg_of X G a,fun j hj=>(Nat.le_zero.mp hj).symm▸FV.binds o.bd⟩⟩
def ClAt (K:PySem.W.Frag)(mg:Str->Option Value)(T:Tab)(c:Nat)(x:Str):Prop:=∃C,Mks.cl[c]?=some C/\Cls K C/\mg x=some (.ref C)/\∀f,T.flds.contains f=true->NoAttr K C f
theorem clOk (X:K.In h)(G:h.Ns mainGlobals mg)(e:Mks.cl[c]?=some C)(a:nsIn K mainGlobals x=some (some (.ref C)))(pg:plainGet K C Str.empty=true)(hd:PySem.W.hasDictIn K C=true)(po:plainOver K C=true)
  (sa:PySem.W.findIn K (.ref C) "__setattr__"=some (some (.builtin "object.__setattr__"))) (n:AllInG (fun f=>PySem.W.findIn K (.ref C) f=some none) T.flds):ClAt K mg T c x:=
 ⟨C,e,⟨pg,hd,po,sa⟩,mg_of X G a,AllIn.get n⟩
def IsAt (K:PySem.W.Frag)(mg:Str->Option Value)(z:Str × List Nat):Prop:=∃D,mg z.1=some (.ref D)/\∀c C,Mks.cl[c]?=some C->IsaOk K C/\kitOne K (.ref C) (.ref D)=some (z.2.contains c)
def CoAt (K:PySem.W.Frag)(z:Str × D):Prop:=∃i t,z.2=.int i/\nsIn K mainGlobals z.1=some (some (.int i t))
theorem coOk (a:nsIn K mainGlobals x=some (some (.int i t))):CoAt K (x,.int i):=⟨i,t,rfl,a⟩
end
structure OkE (T:Tab) (Pg:List Fn) (fi:Nat) (ps:List Str) (st:Stmt):Prop where
 ex:∃(F:Fn) (N:List Str),Pg[fi]?=some F/\F.prim=none/\FnScope N ps (zae st)/\chkS T F.body N (zae st) (zas st)=true/\F.np=ps.length/\F.nn=N.length
theorem znH {st:Stmt}(N:List Str)(e:Pg[fi]?=some F)(h:okD T F N ps st=true):OkE T Pg fi ps st:=by
 simp only[okD,and_eq_true,not_eq_true',decide_eq_true_eq,all_eq_true,or_eq_true,Option.isNone_iff_eq_none] at h;obtain⟨h1,h2,h3,h4,h5,h6,h7,h8,h9,h10,h11⟩:=h;exact⟨F,N,e,h11,⟨h1,h2,h3,h4,h5,h6,h7⟩,h8,h9,h10⟩
theorem iOkD {K:PySem.W.Frag}{st:Stmt}{oc kV dc pm cd ct xc:Value}(o:OkE T Pg fi ps st)(hn:ps.length=n+j)
  (h:∀(d:Addr) (kV doc pm:Value) (an:Option Addr) (cdv ct:Value) (us:List Value),us.length=n->∃k,bindArgs (fnOf "__init__" q (zaJ st) (zas st) (zae st) (.ref d) kV doc pm an cdv ct) ⟨us,[]⟩=seqItems? (.ref d) >>= k/\k (some items)=pure (ps.zip (us++List.replicate j Value.none)))
  (e:Mks.cl[c]?=some C) (mk:makesIn K C=true) (t:PySem.W.findIn K (.ref C) "__init__"=some (some (.ref f))) (kc:keepIn K (.ref C)=true) (l:K.lookup f=some ⟨oc,od,.func (fnOf "__init__" q (zaJ st) (zas st) (zae st) (.ref d) kV dc pm an cd ct),sl⟩)
  (cc:codeIn K cd q=true) (k:keepIn K (.ref f)=true) (i:isFn K (.ref f)=true) (ed:K.lookup d=some ⟨xc,xd,.seq items xn,xs⟩):MOk K T Pg fi j (ExI K c):=by
 obtain⟨F,N,h1,h2,h3,h4,h5,h6⟩:=o.ex;have FV:=zdT l cc k;exact⟨⟨F,"__init__",q,st,_,f,_,N,ps,h1,h2,FV,h3,h4,h5,h6,zol n (by rw[length_replicate];exact hn) FV ed (h d),C,e,mk,t,i,kc⟩⟩
structure OkX (q:Str) (st:Stmt) (xR y f:Str):Prop where
 tx:XSt st xR y f
 bd:∀(kV doc pm:Value) (an:Option Addr) (cdv ct:Value) (us:List Value),us.length=2->bindArgs (fnOf "__init__" q (zaJ st) (zas st) (zae st) .none kV doc pm an cdv ct) ⟨us,[]⟩=pure ([("self":Str),y].zip us)
section
variable {P:Program} {w:World} {K:PySem.W.Frag} {h base:Heap} {mg:Str->Option Value} {T:Tab} {Pg:List Fn} {fi c:Nat} {x q f y xR:Str} {ps:List Str} {st:Stmt} {fI C CR:Addr} {oc kV dc pm cd ct:Value} {od an:Option Addr} {sl:Array (Option Value)}
noncomputable def zj4 (K:PySem.W.Frag)(mg:Str->Option Value)(z:Nat × Str × Str):Prop:=∃(C fI:Addr) (qual:Str) (st:Stmt) (fd:FuncData) (xR y:Str),Mks.xc[z.1]?=some C/\mg z.2.1=some (.ref C)/\keepIn K (.ref C)=true/\Xc K C fI z.2.2/\FunV K "__init__" qual st .none fI fd/\XSt st xR y z.2.2/\XUp K mg xR/\Binds K fd ["self",y] []
theorem xcOk (X:K.In h)(G:h.Ns mainGlobals mg)(o:OkX q st xR y f)(e:Mks.xc[c]?=some C)(a:nsIn K mainGlobals x=some (some (.ref C)))(kc:keepIn K (.ref C)=true)(t:PySem.W.findIn K (.ref C) "__init__"=some (some (.ref fI)))(xj:excJ K C fI=true)(i:isFn K (.ref fI)=true)
  (sa:PySem.W.findIn K (.ref C) "__setattr__"=some (some (.builtin "object.__setattr__"))) (po:zhM K C=true) (hd:PySem.W.hasDictIn K C=true) (no:PySem.W.findIn K (.ref C) f=some none)
  (l:K.lookup fI=some ⟨oc,od,.func (fnOf "__init__" q (zaJ st) (zas st) (zae st) .none kV dc pm an cd ct),sl⟩) (cc:codeIn K cd q=true) (k:keepIn K (.ref fI)=true)
  (aR:nsIn K mainGlobals xR=some (some (.ref CR))) (r1:specialIn K (.ref CR) "__getattribute__"=some (some (.builtin "type.__getattribute__"))) (r2:readsIn K CR (.type "type")=true) (r3:findCls K (.ref CR) (.type "type") "__init__"=some (.val (.builtin "ValueError.__init__"))):zj4 K mg (c,x,f):=by
 have FV:=zdT l cc k;exact⟨C,fI,q,st,_,xR,y,e,mg_of X G a,kc,⟨xj,i,sa,po,hd,no⟩,FV,o.tx,⟨CR,mg_of X G aR,r1,r2,r3⟩,FV.binds o.bd⟩
noncomputable def zj6 (K:PySem.W.Frag)(mg:Str->Option Value)(z:Str × List Nat):Prop:=∃D,mg z.1=some (.ref D)/\AllAtG (fun c C=>kitOne K (.ref C) (.ref D)=some (z.2.contains c)) 0 Mks.xc
theorem xisOk {D:Addr}(X:K.In h)(G:h.Ns mainGlobals mg)(a:nsIn K mainGlobals x=some (some (.ref D)))(kt:AllAtG (fun c C=>kitOne K (.ref C) (.ref D)=some (cs.contains c)) 0 Mks.xc):zj6 K mg (x,cs):=⟨D,mg_of X G a,kt⟩
noncomputable def zj7 (K:PySem.W.Frag)(mg:Str->Option Value)(z:Str × List Nat):Prop:=mg z.1=none/\z.1≠"__name__"/\∃t,bootBuiltins z.1=some (.type t)/\AllAtG (fun c C=>kitOne K (.ref C) (.type t)=some (z.2.contains c)) 0 Mks.xc
theorem xibOk (X:K.In h)(G:h.Ns mainGlobals mg)(hn:x≠"__name__")(hb:bootBuiltins x=some (.type t))(a:nsIn K mainGlobals x=some none)(kt:AllAtG (fun c C=>kitOne K (.ref C) (.type t)=some (cs.contains c)) 0 Mks.xc):zj7 K mg (x,cs):=⟨PySem.W.mg_none_of X G a,hn,t,hb,kt⟩
noncomputable def zj5 (K:PySem.W.Frag)(mg:Str->Option Value)(x:Str):Prop:=∃CR,mg x=some (.ref CR)/\AllInG (fun C=>PySem.W.exmOne K (.ref C) (.ref CR)=some true) Mks.xc
theorem xtrOk (X:K.In h)(G:h.Ns mainGlobals mg)(a:nsIn K mainGlobals x=some (some (.ref CR)))(kt:AllInG (fun C=>PySem.W.exmOne K (.ref C) (.ref CR)=some true) Mks.xc):zj5 K mg x:=⟨CR,mg_of X G a,kt⟩
theorem zoH (hp:T.xfns.all (fun i=>match Pg[i]? with|some F=>F.prim.isNone|none=>true)=true)(hd:AllAtG (fun fi q=>DefOk K mg T Pg fi q.1 q.2.1 q.2.2\/PrimOk P w K mg base Pg fi q.1 q.2.1 q.2.2) 0 T.fns)(hg:AllInG (XGet K) Mks.xc)(hi:AllInG (IsaOk K) Mks.xc)(h1:AllInG (zj4 K mg) T.xcs)(h2:AllInG (fun f=>AllInG (fun C=>PySem.W.findIn K (.ref C) f=some none) Mks.xc) T.xflds)
  (h3:AllInG (zj6 K mg) T.xisas) (h4:AllInG (zj7 K mg) T.xisbs) (h5:AllInG (zj5 K mg) T.xtrs):XSOk T K mg Pg:=by
 refine⟨fun c x f h=>AllIn.get h1 (c,x,f) h,fun f h c C e=>⟨hg.mem C (mem_of_getElem? e),(AllIn.get h2 f h).mem C (mem_of_getElem? e)⟩,fun x cs h=>?_,fun x cs h=>?_,fun f x ps nd h e=>?_,fun x h=>?_⟩
 . obtain⟨D,m,kt⟩:=AllIn.get h3 (x,cs) h;exact⟨D,m,fun c C e=>⟨hg.mem C (mem_of_getElem? e),hi.mem C (mem_of_getElem? e),AllAt.get kt c C e⟩⟩
 . obtain⟨m,n,t,b,kt⟩:=AllIn.get h4 (x,cs) h;exact⟨m,n,t,b,fun c C e=>⟨hg.mem C (mem_of_getElem? e),hi.mem C (mem_of_getElem? e),AllAt.get kt c C e⟩⟩
 . rcases AllAt.get hd f _ e with z|z
   . exact z
   . obtain⟨F,p,_,_,e1,e2,_⟩:=z.ex;have:=all_eq_true.mp hp f (by simpa using h);simp[e1,e2] at this
 . obtain⟨CR,m,kt⟩:=AllIn.get h5 x h;exact⟨CR,m,fun c C e=>kt.mem C (mem_of_getElem? e)⟩
end
theorem zox {B:Heap->Prop}{l:PySem.W.OpenLaw}{K:PySem.W.Frag}{st:Stmt}{oc kV dc pm cd ct:Value}(X:K.In h)(G:h.Ns mainGlobals mg)(hfa:mg "law"=some (.ref fa))
  (o:OkD T Pg fi "law" "law" [sn] st) (ln:Mks.cl.length<=T.cls.length) (hcl:AllAtG (ClAt K mg T) 0 T.cls) (hb:AllInG (fun x=>nsIn K mainGlobals x=some none) T.blt) (hc:AllInG (CoAt K) T.cons)
  (hd:∀base:Heap,B base->AllAtG (fun fi q=>DefOk K mg T Pg fi q.1 q.2.1 q.2.2\/PrimOk l.prog w K mg base Pg fi q.1 q.2.1 q.2.2) 0 T.fns)
  (hm:AllAtG (ClAt K mg T) 0 T.cls->AllInG (fun q=>MOk K T Pg q.2.2 0 (ExM K q.1 q.2.1)) T.mts) (hi:AllInG (fun q=>MOk K T Pg q.2.1 q.2.2 (ExI K q.1)) T.inits) (hx:AllInG (fun q=>MOk K T Pg q.2.2 0 (ExC K mg q.1 q.2.1)) T.cms) (hs:AllInG (IsAt K mg) T.isas) (hp:T.xfns.all (fun i=>match Pg[i]? with|some F=>F.prim.isNone|none=>true)=true) (hxg:AllInG (XGet K) Mks.xc) (hxi:AllInG (IsaOk K) Mks.xc) (hx1:AllInG (zj4 K mg) T.xcs) (hx2:AllInG (fun f=>AllInG (fun C=>PySem.W.findIn K (.ref C) f=some none) Mks.xc) T.xflds) (hx3:AllInG (zj6 K mg) T.xisas) (hx4:AllInG (zj7 K mg) T.xisbs) (hx5:AllInG (zj5 K mg) T.xtrs)
  (a:nsIn K mainGlobals "law"=some (some (.ref f))) (l0:K.lookup f=some ⟨oc,od,.func (fnOf "law" "law" (zaJ st) (zas st) (zae st) .none kV dc pm an cd ct),sl⟩) (c:codeIn K cd "law"=true) (k:keepIn K (.ref f)=true) :
  ∃fd:FuncData,(∀(s:Shared) (v:Value),BindsTo s fd ⟨[v],[]⟩ [(sn,v)])/\∀base:Heap,K.In base->base.Ns mainGlobals mg->B base->FnOk l.prog w K mg base CX0 (2 * n+3) fa fd [sn] (spF K (callF Pg (n+1)) fi):=by
 have e:=hfa.symm.trans (mg_of X G a);cases e;obtain⟨F,N,h1,h2,h3,h4,h5,h6⟩:=o.ex;refine⟨fnOf "law" "law" (zaJ st) (zas st) (zae st) .none kV dc pm an cd ct,fun s v=>.of_eq (o.bd _ _ _ _ _ _ [v] rfl),fun base _ _ bm=>?_⟩;refine ziu (zmB (fun x hx=>PySem.W.mg_none_of X G (AllIn.get hb x hx)) (fun x d hx=>?_) (fun fi x ps nd hf=>AllAt.get (hd base bm) fi _ hf)
  ⟨AllAt.get hcl,fun c m fi hx=>AllIn.get (hm hcl) (c,m,fi) hx,fun c fi j hx=>AllIn.get hi (c,fi,j) hx,fun x m fi h=>AllIn.get hx (x,m,fi) h,ln,fun x cs hx=>AllIn.get hs (x,cs) hx⟩ (zoH hp (hd base bm) hxg hxi hx1 hx2 hx3 hx4 hx5) n) (zdT l0 c k) h1 h3 h4 h5 h6 h2
 obtain⟨i,t,e,q⟩:=hc.mem (x,d) (PySem.mem_of_lookup hx);cases e;exact⟨rfl,_,mg_of X G q,⟨_,rfl⟩⟩
theorem all_of0 {l:PySem.W.OpenLaw}{K:PySem.W.Frag}{st:Stmt}{oc kV dc pm cd ct:Value}(X:K.In h)(G:h.Ns mainGlobals mg)(hfa:mg "law"=some (.ref fa))
  (o:OkD T Pg fi "law" "law" [sn] st) (ln:Mks.cl.length<=T.cls.length) (hcl:AllAtG (ClAt K mg T) 0 T.cls) (hb:AllInG (fun x=>nsIn K mainGlobals x=some none) T.blt) (hc:AllInG (CoAt K) T.cons)
  (hd:∀base:Heap,AllAtG (fun fi q=>DefOk K mg T Pg fi q.1 q.2.1 q.2.2\/PrimOk l.prog w K mg base Pg fi q.1 q.2.1 q.2.2) 0 T.fns)
  (hm:AllAtG (ClAt K mg T) 0 T.cls->AllInG (fun q=>MOk K T Pg q.2.2 0 (ExM K q.1 q.2.1)) T.mts) (hi:AllInG (fun q=>MOk K T Pg q.2.1 q.2.2 (ExI K q.1)) T.inits) (hx:AllInG (fun q=>MOk K T Pg q.2.2 0 (ExC K mg q.1 q.2.1)) T.cms) (hs:AllInG (IsAt K mg) T.isas) (hp:T.xfns.all (fun i=>match Pg[i]? with|some F=>F.prim.isNone|none=>true)=true) (hxg:AllInG (XGet K) Mks.xc) (hxi:AllInG (IsaOk K) Mks.xc) (hx1:AllInG (zj4 K mg) T.xcs) (hx2:AllInG (fun f=>AllInG (fun C=>PySem.W.findIn K (.ref C) f=some none) Mks.xc) T.xflds) (hx3:AllInG (zj6 K mg) T.xisas) (hx4:AllInG (zj7 K mg) T.xisbs) (hx5:AllInG (zj5 K mg) T.xtrs)
  (a:nsIn K mainGlobals "law"=some (some (.ref f))) (l0:K.lookup f=some ⟨oc,od,.func (fnOf "law" "law" (zaJ st) (zas st) (zae st) .none kV dc pm an cd ct),sl⟩) (c:codeIn K cd "law"=true) (k:keepIn K (.ref f)=true) :
  ∃fd:FuncData,(∀(s:Shared) (v:Value),BindsTo s fd ⟨[v],[]⟩ [(sn,v)])/\∀base:Heap,K.In base->base.Ns mainGlobals mg->FnOk l.prog w K mg base CX0 (2 * n+3) fa fd [sn] (spF K (callF Pg (n+1)) fi):=by
 obtain⟨fd,h1,h2⟩:=zox X G hfa o ln hcl hb hc (fun base _=>hd base) hm hi hx hs hp hxg hxi hx1 hx2 hx3 hx4 hx5 a l0 c k;exact⟨fd,h1,fun base y z=>h2 base y z trivial⟩
end R
end
section
namespace R
noncomputable def oD:Option Int->D|some i=>.int i|none=>.non
open PySem (PyData)
theorem zdP {α β:Type}{f:α->Option β}:∀{xs:List α} {ys:List β},xs.mapM f=some ys->∀y∈ys,∃x∈xs,f x=some y
 | [],ys,h,y,hy=>by simp at h;subst h;cases hy
 | x::xs,ys,h,y,hy=>by
   rw[mapM_cons] at h;cases e:f x with
   |none=>rw[e] at h;cases h
   | some z=>
     rw[e] at h;cases e2:xs.mapM f with
     |none=>rw[e2] at h;cases h
     | some zs=>
       rw[e2] at h;injection h with h;subst h;rcases mem_cons.mp hy with rfl|hy
       . exact⟨x,by simp,e⟩
       . obtain⟨u,hu,eu⟩:=zdP e2 y hy;exact⟨u,by simp[hu],eu⟩
theorem zb0:∀{xs:List PyData},(∀x∈xs,PyData.eqv x x=true)->PyData.eqvAll xs xs=true
 | [],_=>by simp[PyData.eqvAll]
 |x::xs,h=>by simp[PyData.eqvAll,h x (by simp),zb0 (xs:=xs) fun y hy=>h y (by simp[hy])]
theorem zhI:∀{n:Nat} {d:D} {a:PyData},pd S n d=some a->PyData.eqv a a=true:=by
 intro n;induction n with
 | zero=>
   intro d a h;cases d<;>simp only[pd] at h
   . cases h;simp[PyData.eqv]
   . cases h;simp[PyData.eqv]
   . cases h;simp[PyData.eqv]
   . split at h
     . cases h;simp[PyData.eqv]
     . cases h
   . cases h
   . cases h
   . cases h
 | succ n ih=>
   intro d a h;cases d<;>simp only[pd] at h
   . cases h;simp[PyData.eqv]
   . cases h;simp[PyData.eqv]
   . cases h;simp[PyData.eqv]
   . split at h
     . cases h;simp[PyData.eqv]
     . cases h
   . rename_i ds;cases e:ds.mapM (pd S n) with
     |none=>rw[e] at h;cases h
     | some xs=>
       rw[e] at h;cases h;exact zb0 fun x hx=>let ⟨d,_,hd⟩:=zdP e x hx;ih hd
   . split at h
     . rename_i ds _;cases e:ds.mapM (pd S n) with
       |none=>rw[e] at h;cases h
       | some xs=>
         rw[e] at h;cases h;exact zb0 fun x hx=>let ⟨d,_,hd⟩:=zdP e x hx;ih hd
     . cases h
   . cases h
theorem zob (h1:pd S 60 x=some a)(h2:pd S 60 y=some a):eqD S x y=some true:=by
 unfold eqD;rw[h1,h2];exact congrArg some (zhI h1)
theorem zhJ (h:S.get l=some (.lst ds))(e:ds.mapM (pd S n)=some xs):pd S (n+1) (.ref l)=some (.list xs):=by
 simp only[pd,h,e];rfl
theorem zb1 (h1:S.get a=some (.lst ds))(h2:S.get b=some (.lst ds))(e:ds.mapM (pd S 59)=some xs):cmpO S .NotEq (.ref a) (.ref b)=some false:=by
 show (eqD S (.ref a) (.ref b)).map (!·)=_;rw[zob (zhJ h1 e) (zhJ h2 e)];rfl
theorem zaf (S:St)(o:MO):(S.push o).get S.len=some o:=by
 unfold St.get St.push;unfold St.len;simp
theorem zam {S:St}(e:S.get l=some u):(S.push o).get l=some u:=by
 have h:=za9 e;unfold St.len at h;unfold St.get at e⊢;unfold St.push;simp only;split
 . rename_i c;rw[if_pos c] at e;exact e
 . rename_i c;rw[if_neg c] at e;rw[getElem?_append_left (by omega)];exact e
theorem zfg (f:α->β)(xs:List α)(lo hi:Option Int):cut (xs.map f) lo hi=(cut xs lo hi).map f:=by
 unfold cut;rw[length_map,List.map_take,List.map_drop]
theorem zb9 (xs:List α)(lo hi:Option Int):(cut xs lo hi).length<=xs.length:=by
 unfold cut;rw[length_take,List.length_drop];omega
theorem zcw {S:St}(o:MO)(h1:S.frz.length<=l)(h2:S.lk.contains l=false):∃S',S.put l o=some S'/\S'.frz=S.frz/\S'.lk=S.lk/\S'.len=S.len/\(∀m,m≠l->S'.get m=S.get m)/\(l<S.len->S'.get l=some o):=by
 refine⟨{S with new:=S.new.set (l - S.frz.length) o},?_,rfl,rfl,by simp[St.len],fun m hm=>?_,fun hl=>?_⟩
 . unfold St.put;rw[if_neg (by omega),h2];rfl
 . unfold St.get;simp only;split
   . rfl
   . rw[getElem?_set_ne (by omega)]
 . unfold St.len at hl;unfold St.get;simp[show ¬l<S.frz.length by omega,if_false];rw[getElem?_set_self (by omega)]
theorem zl3 (S:St)(i j:Int):eqD S (.int i) (.int j)=some (i == j):=rfl
theorem zfV (S:St)(x:Int):∀ks:List Int,inD S (.int x) (ks.map .int)=some (decide (x∈ks)):=by
 intro ks;have e:(ks.map D.int).mapM (fun z=>eqD S z (.int x))=some (ks.map fun k=>k == x):=by
  induction ks with
  |nil=>rfl
  |cons k ks ih=>rw[map_cons,mapM_cons,zl3,ih];rfl
 have f:∀ks:List Int,((ks.map fun k=>k == x).any id)=decide (x∈ks):=by
  intro ks;induction ks with
  |nil=>rfl
  | cons k ks ih=>
    rw[map_cons,any_cons,ih];by_cases c:k=x
    . subst c;simp
    . have c':¬x=k:=fun z=>c z.symm;have b:(k == x)=false:=beq_eq_false_iff_ne.mpr c;simp[b,id,Bool.false_or,mem_cons,c',false_or]
 unfold inD;rw[e];exact congrArg some (f ks)
theorem zn2 {ks:List Int}(h:S.get l=some (.lst (ks.map .int)))(x:Int):cmpO S .In (.int x) (.ref l)=some (decide (x∈ks)):=by
 show ((match S.get l with|some (.lst ds)=>some ds|_=>none).bind fun ys=>inD S (.int x) ys)=_;rw[h];exact zfV S x ks
theorem zhO {ks:List Int}(h:S.get l=some (.lst (ks.map .int)))(x:Int):cmpO S .NotIn (.int x) (.ref l)=some (!decide (x∈ks)):=by
 show (cmpO S .In (.int x) (.ref l)).map (!·)=_;rw[zn2 h];rfl
theorem zbh {k:Nat}(h:xs[k]?=some x):R.atI xs (k:Int)=some x:=by
 have hl:=(List.getElem?_eq_some_iff.mp h).1;have e:R.ixN xs.length (k:Int)=some k:=by simp[R.ixN,hl]
 unfold R.atI;rw[e];exact h
noncomputable def zcu (ns:List Int)(k:Nat):Int:=match ns[k]? with|some v=>v % 10 ^ 64|none=>0
theorem zbX:∀ks:List Int,zbR (ks.map D.int)=some ks
 | []=>rfl
 | k::ks=>by
   unfold zbR;rw[map_cons,mapM_cons,show (ks.map D.int).mapM zdR=some ks from zbX ks];rfl
end R
namespace R
noncomputable def hnds (n:Nat):List Int:=(List.range n).map fun (k:Nat)=>(k:Int)
theorem zgL (n:Nat):(hnds n).Nodup:=by
 unfold hnds List.Nodup;rw[List.pairwise_map];exact Pairwise.imp (fun {a b} h e=>h (by exact_mod_cast e)) List.nodup_range
theorem hnds_mem:x∈hnds n↔0<=x/\x<n:=by
 constructor
 . intro h;obtain⟨k,hk,rfl⟩:=mem_map.mp h;rw[mem_range] at hk;omega
 . intro h;exact mem_map.mpr ⟨x.toNat,mem_range.mpr (by omega),by omega⟩
end R
end
section
namespace Kz
local macro_rules | `(tactic| exists $e)=>`(tactic| refine R.wOpt_of $e ?_)
local macro_rules | `(tactic| change $e)=>`(tactic| refine R.wNeed_of $e ?_)
local macro_rules | `(tactic| specialize $e)=>`(tactic| refine R.wOut_of $e ?_)
local macro_rules | `(tactic| left)=>`(tactic| conv=>whnf)
section
open PySem R L2
noncomputable def zok:Fn:=⟨1,1,
 .stop,none⟩
noncomputable def zbJ:Fn:=⟨1,1,(.ret (.and (.bi (.isin "int") (.cons (.loc 0) .nil)) (.nt (.bi (.isin "bool") (.cons (.loc 0) .nil)))) .nil),none⟩
noncomputable def ziH:Fn:=⟨2,2,(.ret (.and (.call 1 0 (.cons (.loc 0) .nil)) (.cmp2 .LtE .Lt (.con (D.int 0)) (.loc 0) (.loc 1))) .nil),none⟩
noncomputable def ziE:Fn:=⟨1,1,(.ret (.and (.call 1 0 (.cons (.loc 0) .nil)) (.cmp .Lt (.bi .abs (.cons (.loc 0) .nil)) (.bin .Pow (.con (D.int 10)) (.con (D.int 60))))) .nil),none⟩
noncomputable def c_count_of:Fn:=⟨3,3,(.ifS (.or (.nt (.tst (.call 1 0 (.cons (.loc 0) .nil)))) (.nt (.cmp2 .LtE .LtE (.loc 1) (.loc 0) (.loc 2)))) (.rais 0 "NoCount" "told" (.loc 0)) .nil (.ret (.loc 0) .nil)),none⟩
noncomputable def c_hand_of:Fn:=⟨2,2,(.ifS (.nt (.tst (.call 2 0 (.cons (.loc 0) (.cons (.loc 1) .nil))))) (.rais 1 "NoHand" "hand" (.loc 0)) .nil (.ret (.loc 0) .nil)),none⟩
noncomputable def ziG:Fn:=⟨2,2,(.ifS (.or (.nt (.tst (.bi (.isin "tuple") (.cons (.loc 0) .nil)))) (.nt (.cmp2 .LtE .LtE (.con (D.int 1)) (.bi .len (.cons (.loc 0) .nil)) (.con (D.int 7))))) (.ret (.con (D.bl false)) .nil) .nil (.ifS (.nt (.tst (.all (.comp 1 [1] [0] (.val (.loc 0)) (.tst (.con (D.bl true))) (.call 2 0 (.cons (.loc 0) (.cons (.loc 1) .nil))))))) (.ret (.con (D.bl false)) .nil) .nil (.ret (.cmp .Eq (.lenset (.val (.loc 0))) (.bi .len (.cons (.loc 0) .nil))) .nil))),none⟩
noncomputable def zdY:Fn:=⟨2,3,(.ifS (.cmp .Is (.loc 1) (.con D.non)) (.ret (.tup .nil) .nil) .nil (.blk (.comp 2 1 [0] [0] (.val (.loc 1)) 5 (.cons (.loc 0) (.cons (.loc 1) .nil))) (.ret (.mkT (.val (.sset (.loc 2)))) .nil))),none⟩
noncomputable def zeC:Fn:=⟨2,4,(.ifS (.cmp .Is (.loc 1) (.con D.non)) (.ret (.tup .nil) .nil) .nil (.forS [2,3] (.enum (.loc 1)) (.ifS (.nt (.tst (.call 9 0 (.cons (.loc 3) (.cons (.loc 0) .nil))))) (.rais 3 "NoLetter" "place" (.loc 2)) .nil .nil) (.ret (.mkT (.val (.loc 1))) .nil))),none⟩
noncomputable def zj1:Fn:=⟨2,2,(.ifS (.or (.nt (.tst (.bi (.isin "tuple") (.cons (.loc 0) .nil)))) (.cmp .NotEq (.bi .len (.cons (.loc 0) .nil)) (.con (D.int 4)))) (.ret (.con (D.bl false)) .nil) .nil (.ifS (.or (.nt (.tst (.call 10 0 (.cons (.ix (.loc 0) (.con (D.int 0))) .nil)))) (.nt (.tst (.call 6 0 (.cons (.ix (.loc 0) (.con (D.int 1))) (.cons (.loc 1) .nil)))))) (.ret (.con (D.bl false)) .nil) .nil (.ifS (.or (.nt (.tst (.call 2 0 (.cons (.ix (.loc 0) (.con (D.int 2))) (.cons (.loc 1) .nil))))) (.cmp .In (.ix (.loc 0) (.con (D.int 2))) (.ix (.loc 0) (.con (D.int 1))))) (.ret (.con (D.bl false)) .nil) .nil (.ret (.or (.cmp .Is (.ix (.loc 0) (.con (D.int 3))) (.con D.non)) (.call 3 0 (.cons (.ix (.loc 0) (.con (D.int 3))) .nil))) .nil)))),none⟩
noncomputable def ziF:Fn:=⟨1,1,(.ret (.and (.call 1 0 (.cons (.loc 0) .nil)) (.cmp2 .LtE .LtE (.con (D.int 1)) (.loc 0) (.con (D.int 30)))) .nil),none⟩
noncomputable def zd0:Fn:=⟨2,2,(.ifS (.cmp .Lt (.loc 1) (.bi .len (.cons (.loc 0) .nil))) (.ret (.bin .Mod (.ix (.loc 0) (.loc 1)) (.bin .Pow (.con (D.int 10)) (.con (D.int 64)))) .nil) .nil (.ret (.con (D.int 0)) .nil)),none⟩
noncomputable def zgT:Fn:=⟨1,1,(.ifS (.cmp .Eq (.bin .Mod (.loc 0) (.con (D.int 6))) (.con (D.int 0))) (.ret (.con D.non) .nil) .nil (.ifS (.cmp .Eq (.bin .Mod (.loc 0) (.con (D.int 6))) (.con (D.int 1))) (.ret (.bin .Sub (.bin .Mod (.bin .FloorDiv (.loc 0) (.con (D.int 6))) (.bin .Mult (.con (D.int 2)) (.bin .Pow (.con (D.int 10)) (.con (D.int 50))))) (.bin .Pow (.con (D.int 10)) (.con (D.int 50)))) .nil) .nil (.ifS (.cmp .Eq (.bin .Mod (.loc 0) (.con (D.int 6))) (.con (D.int 2))) (.ret (.bin .Mult (.bin .Sub (.bin .Sub (.bin .Pow (.con (D.int 10)) (.con (D.int 60))) (.con (D.int 1))) (.bin .Mod (.bin .FloorDiv (.loc 0) (.con (D.int 12))) (.con (D.int 9)))) (.ix (.lst (.cons (.con (D.int 1)) (.cons (.neg (.con (D.int 1))) .nil))) (.bin .Mod (.bin .FloorDiv (.loc 0) (.con (D.int 6))) (.con (D.int 2))))) .nil) .nil (.ret (.bin .Sub (.bin .Mod (.bin .FloorDiv (.loc 0) (.con (D.int 6))) (.con (D.int 7))) (.con (D.int 3))) .nil)))),none⟩
noncomputable def zeD:Fn:=⟨2,3,(.asg 0 (.bin .Mod (.loc 0) (.bin .Pow (.con (D.int 10)) (.con (D.int 64)))) (.ifS (.tst (.loc 1)) (.ret (.loc 0) .nil) .nil (.asg 2 (.bin .Mod (.bin .Mult (.loc 0) (.con (D.int 48271))) (.con (D.int 2147483647))) (.ret (.bin .Add (.bin .Mult (.bin .Mult (.loc 2) (.loc 2)) (.loc 2)) (.bin .Mult (.con (D.int 69621)) (.loc 2))) .nil)))),none⟩
noncomputable def zgU:Fn:=⟨2,6,(.asg 2 (.mkL (.rng1 (.loc 1))) (.asg 3 (.lst .nil) (.forS [4] (.rng1 (.loc 1)) (.expr (.mt .append (.loc 3) (.cons (.ix (.loc 2) (.bin .Mod (.loc 0) (.bi .len (.cons (.loc 2) .nil)))) .nil)) (.asg 0 (.bin .FloorDiv (.loc 0) (.bi .len (.cons (.loc 2) .nil))) (.asg 2 (.mkL (.comp 1 [3] [0] (.val (.loc 2)) (.cmp .NotIn (.loc 0) (.loc 1)) (.loc 0))) .nil))) (.asg 5 (.bin .Add (.con (D.int 1)) (.bin .Mod (.loc 0) (.bin .Sub (.loc 1) (.con (D.int 1))))) (.asg 0 (.bin .FloorDiv (.loc 0) (.bin .Sub (.loc 1) (.con (D.int 1)))) (.ret (.tup (.cons (.bin .Add (.con (D.int 1)) (.bin .Mod (.loc 0) (.con (D.int 30)))) (.cons (.mkT (.val (.sl (.loc 3) false true (.con .non) (.loc 5)))) (.cons (.ix (.loc 3) (.loc 5)) (.cons (.call 12 0 (.cons (.bin .FloorDiv (.loc 0) (.con (D.int 30))) .nil)) .nil))))) .nil)))))),none⟩
noncomputable def c_law_turned:Fn:=⟨3,8,(.asgT [3,4,5,6] (.loc 0) (.asg 7 (.lst (.cons (.tup (.cons (.con (D.int 0)) (.cons (.loc 4) (.cons (.loc 5) (.cons (.loc 6) .nil))))) (.cons (.tup (.cons (.con (D.int 31)) (.cons (.loc 4) (.cons (.loc 5) (.cons (.loc 6) .nil))))) (.cons (.tup (.cons (.bin .Sub (.con (D.int 0)) (.loc 3)) (.cons (.loc 4) (.cons (.loc 5) (.cons (.loc 6) .nil))))) (.cons (.tup (.cons (.con D.non) (.cons (.loc 4) (.cons (.loc 5) (.cons (.loc 6) .nil))))) .nil))))) (.asg 7 (.bin .Add (.loc 7) (.lst (.cons (.tup (.cons (.con (D.bl true)) (.cons (.loc 4) (.cons (.loc 5) (.cons (.loc 6) .nil))))) (.cons (.tup (.cons (.con (D.str "1")) (.cons (.loc 4) (.cons (.loc 5) (.cons (.loc 6) .nil))))) (.cons (.tup (.cons (.loc 3) (.cons (.tup .nil) (.cons (.loc 5) (.cons (.loc 6) .nil))))) (.cons (.tup (.cons (.loc 3) (.cons (.mkL (.val (.loc 4))) (.cons (.loc 5) (.cons (.loc 6) .nil))))) .nil)))))) (.asg 7 (.bin .Add (.loc 7) (.lst (.cons (.tup (.cons (.loc 3) (.cons (.bin .Add (.loc 4) (.sl (.loc 4) false true (.con .non) (.con (D.int 1)))) (.cons (.loc 5) (.cons (.loc 6) .nil))))) (.cons (.tup (.cons (.loc 3) (.cons (.bin .Add (.loc 4) (.tup (.cons (.loc 2) .nil))) (.cons (.loc 5) (.cons (.loc 6) .nil))))) .nil)))) (.asg 7 (.bin .Add (.loc 7) (.lst (.cons (.tup (.cons (.loc 3) (.cons (.bin .Add (.tup (.cons (.bin .Sub (.con (D.int 0)) (.con (D.int 1))) .nil)) (.loc 4)) (.cons (.loc 5) (.cons (.loc 6) .nil))))) (.cons (.tup (.cons (.loc 3) (.cons (.bin .Add (.loc 4) (.tup (.cons (.con D.non) .nil))) (.cons (.loc 5) (.cons (.loc 6) .nil))))) .nil)))) (.asg 7 (.bin .Add (.loc 7) (.lst (.cons (.tup (.cons (.loc 3) (.cons (.tup (.cons (.con (D.bl true)) .nil)) (.cons (.con (D.int 0)) (.cons (.loc 6) .nil))))) (.cons (.tup (.cons (.loc 3) (.cons (.ix (.loc 4) (.con (D.int 0))) (.cons (.loc 5) (.cons (.loc 6) .nil))))) .nil)))) (.asg 7 (.bin .Add (.loc 7) (.lst (.cons (.tup (.cons (.loc 3) (.cons (.loc 4) (.cons (.ix (.loc 4) (.con (D.int 0))) (.cons (.loc 6) .nil))))) (.cons (.tup (.cons (.loc 3) (.cons (.loc 4) (.cons (.ix (.loc 4) (.neg (.con (D.int 1)))) (.cons (.loc 6) .nil))))) (.cons (.tup (.cons (.loc 3) (.cons (.loc 4) (.cons (.loc 2) (.cons (.loc 6) .nil))))) .nil))))) (.asg 7 (.bin .Add (.loc 7) (.lst (.cons (.tup (.cons (.loc 3) (.cons (.loc 4) (.cons (.bin .Sub (.con (D.int 0)) (.con (D.int 1))) (.cons (.loc 6) .nil))))) (.cons (.tup (.cons (.loc 3) (.cons (.loc 4) (.cons (.con D.non) (.cons (.loc 6) .nil))))) (.cons (.tup (.cons (.loc 3) (.cons (.loc 4) (.cons (.tup (.cons (.loc 5) .nil)) (.cons (.loc 6) .nil))))) .nil))))) (.asg 7 (.bin .Add (.loc 7) (.lst (.cons (.tup (.cons (.loc 3) (.cons (.loc 4) (.cons (.con (D.bl true)) (.cons (.loc 6) .nil))))) (.cons (.tup (.cons (.loc 3) (.cons (.loc 4) (.cons (.loc 5) (.cons (.bin .Pow (.con (D.int 10)) (.con (D.int 60))) .nil))))) (.cons (.tup (.cons (.loc 3) (.cons (.loc 4) (.cons (.loc 5) (.cons (.bin .Sub (.con (D.int 0)) (.bin .Pow (.con (D.int 10)) (.con (D.int 60)))) .nil))))) .nil))))) (.asg 7 (.bin .Add (.loc 7) (.lst (.cons (.tup (.cons (.loc 3) (.cons (.loc 4) (.cons (.loc 5) (.cons (.con (D.bl true)) .nil))))) (.cons (.tup (.cons (.loc 3) (.cons (.loc 4) (.cons (.loc 5) (.cons (.con (D.str "5")) .nil))))) (.cons (.tup (.cons (.loc 3) (.cons (.loc 4) (.cons (.loc 5) (.cons (.tup (.cons (.con (D.int 5)) .nil)) .nil))))) (.cons (.tup (.cons (.loc 3) (.cons (.loc 4) (.cons (.loc 5) .nil)))) .nil)))))) (.asg 7 (.bin .Add (.loc 7) (.lst (.cons (.tup (.cons (.loc 3) (.cons (.loc 4) (.cons (.loc 5) (.cons (.loc 6) (.cons (.loc 6) .nil)))))) (.cons (.lst (.cons (.loc 3) (.cons (.loc 4) (.cons (.loc 5) (.cons (.loc 6) .nil))))) (.cons (.tup .nil) (.cons (.con D.non) (.cons (.con (D.int 7)) (.cons (.con (D.str "lie")) .nil)))))))) (.ret (.ix (.loc 7) (.bin .Mod (.loc 1) (.bi .len (.cons (.loc 7) .nil)))) .nil)))))))))))),none⟩
noncomputable def c_law_same:Fn:=⟨2,2,(.ifS (.or (.cmp .NotEq (.bi (.isin "bool") (.cons (.loc 0) .nil)) (.bi (.isin "bool") (.cons (.loc 1) .nil))) (.cmp .NotEq (.bi (.isin "int") (.cons (.loc 0) .nil)) (.bi (.isin "int") (.cons (.loc 1) .nil)))) (.ret (.con (D.bl false)) .nil) .nil (.ret (.cmp .Eq (.loc 0) (.loc 1)) .nil)),none⟩
noncomputable def zeE:Fn:=⟨4,6,(.asg 4 (.con D.non) (.tryS (.mk 0 24 "Setting" 0 (.cons (.loc 0) (.cons (.loc 1) (.cons (.loc 2) (.cons (.loc 3) .nil)))))
 "RoundError" 5 4 (.ret (.loc 4) .nil))),none⟩
noncomputable def zdZ:Fn:=⟨2,3,(.asg 2 (.lst (.cons (.iscX [0] "NoCount" (.loc 0)) (.cons (.iscX [1] "NoHand" (.loc 0)) (.cons (.iscX [3] "NoLetter" (.loc 0)) .nil)))) (.ifS (.or (.tst (.iscX [2] "NoWord" (.loc 0))) (.or (.tst (.iscX [4] "NoWay" (.loc 0))) (.tst (.iscX [5] "NoRow" (.loc 0))))) (.ret (.con (D.bl false)) .nil) .nil (.ifS (.or (.cmp .NotEq (.loc 2) (.mkL (.comp 1 [1] [0] (.rng1 (.con (D.int 3))) (.tst (.con (D.bl true))) (.cmp .Eq (.ix (.loc 1) (.con (D.int 0))) (.loc 0))))) (.nt (.tst (.iscX [0,1,2,3,4,5] "ValueError" (.loc 0))))) (.ret (.con (D.bl false)) .nil) .nil (.ifS (.cmp .Eq (.ix (.loc 1) (.con (D.int 0))) (.con (D.int 0))) (.ret (.call 16 0 (.cons (.fldX (.loc 0) "told") (.cons (.ix (.loc 1) (.con (D.int 1))) .nil))) .nil) .nil (.ifS (.cmp .Eq (.ix (.loc 1) (.con (D.int 0))) (.con (D.int 1))) (.ret (.call 16 0 (.cons (.fldX (.loc 0) "hand") (.cons (.ix (.loc 1) (.con (D.int 1))) .nil))) .nil) .nil (.ret (.call 16 0 (.cons (.fldX (.loc 0) "place") (.cons (.ix (.loc 1) (.con (D.int 1))) .nil))) .nil)))))),none⟩
noncomputable def zcZ:Fn:=⟨3,8,(.asg 3 (.lst (.cons (.loc 2) (.cons (.bin .Sub (.con (D.int 0)) (.con (D.int 1))) (.cons (.bin .Add (.loc 2) (.con (D.int 7))) (.cons (.con D.non) (.cons (.con (D.bl true)) (.cons (.con (D.bl false)) (.cons (.con (D.str "0")) (.cons (.tup (.cons (.con (D.int 0)) .nil)) (.cons (.lst .nil) .nil)))))))))) (.asg 4 (.call 11 0 (.cons (.loc 0) (.cons (.con (D.int 4)) .nil))) (.asg 5 (.mkL (.val (.loc 1))) (.asg 6 (.con D.non) (.ifS (.cmp .Eq (.bin .Mod (.loc 4) (.con (D.int 3))) (.con (D.int 0))) (.asg 7 (.bin .Mod (.bin .FloorDiv (.loc 4) (.con (D.int 3))) (.bin .Add (.bi .len (.cons (.loc 5) .nil)) (.con (D.int 1)))) (.expr (.insL (.loc 5) (.loc 7) (.ix (.loc 3) (.bin .Mod (.bin .FloorDiv (.loc 4) (.con (D.int 300))) (.con (D.int 9))))) (.asg 6 (.tup (.cons (.con (D.int 1)) (.cons (.ix (.loc 3) (.bin .Mod (.bin .FloorDiv (.loc 4) (.con (D.int 300))) (.con (D.int 9)))) .nil))) (.ifS (.cmp .Eq (.bin .Mod (.bin .FloorDiv (.loc 4) (.con (D.int 2700))) (.con (D.int 2))) (.con (D.int 1))) (.expr (.mt .append (.loc 5) (.cons (.ix (.loc 3) (.bin .Mod (.bin .FloorDiv (.loc 4) (.con (D.int 5400))) (.con (D.int 9)))) .nil)) .nil) .nil .nil)))) .nil (.ret (.tup (.cons (.loc 5) (.cons (.loc 6) .nil))) .nil)))))),none⟩
noncomputable def c_law_bad_lies:Fn:=⟨3,8,(.asg 3 (.call 11 0 (.cons (.loc 0) (.cons (.con (D.int 5)) .nil))) (.asg 4 (.mkL (.val (.loc 1))) (.asg 5 (.con D.non) (.ifS (.and (.cmp .Eq (.bin .Mod (.loc 3) (.con (D.int 2))) (.con (D.int 0))) (.cmp .Gt (.bi .len (.cons (.loc 1) .nil)) (.con (D.int 0)))) (.asg 6 (.bin .Mod (.bin .FloorDiv (.loc 3) (.con (D.int 2))) (.bi .len (.cons (.loc 1) .nil))) (.setIx (.loc 4) (.loc 6) (.call 15 0 (.cons (.ix (.loc 1) (.loc 6)) (.cons (.bin .FloorDiv (.loc 3) (.con (D.int 200))) (.cons (.loc 2) .nil)))) (.asg 5 (.tup (.cons (.con (D.int 2)) (.cons (.loc 6) .nil))) (.ifS (.cmp .Eq (.bin .Mod (.bin .FloorDiv (.loc 3) (.con (D.int 20000))) (.con (D.int 2))) (.con (D.int 1))) (.asg 7 (.bin .Add (.loc 6) (.bin .Mod (.bin .FloorDiv (.loc 3) (.con (D.int 40000))) (.bin .Sub (.bi .len (.cons (.loc 1) .nil)) (.loc 6)))) (.setIx (.loc 4) (.loc 7) (.call 15 0 (.cons (.ix (.loc 1) (.loc 7)) (.cons (.bin .FloorDiv (.loc 3) (.bin .Pow (.con (D.int 10)) (.con (D.int 7)))) (.cons (.loc 2) .nil)))) .nil)) .nil .nil)))) .nil (.ret (.tup (.cons (.loc 4) (.cons (.loc 5) .nil))) .nil))))),none⟩
noncomputable def zgV:Fn:=⟨4,7,(.forS [4] (.rng1 (.bi .len (.cons (.loc 1) .nil))) (.asg 5 (.call 15 0 (.cons (.ix (.loc 1) (.loc 4)) (.cons (.bin .Mod (.bin .Mult (.call 11 0 (.cons (.loc 0) (.cons (.bin .Add (.con (D.int 9)) (.loc 4)) .nil))) (.con (D.int 48271))) (.con (D.int 2147483647))) (.cons (.loc 2) .nil)))) (.asg 6 (.call 17 0 (.cons (.loc 2) (.cons (.loc 3) (.cons (.lst .nil) (.cons (.lst (.cons (.ix (.loc 1) (.loc 4)) (.cons (.loc 5) .nil))) .nil))))) (.ifS (.or (.cmp .Is (.loc 6) (.con D.non)) (.nt (.tst (.call 18 0 (.cons (.loc 6) (.cons (.tup (.cons (.con (D.int 2)) (.cons (.con (D.int 1)) .nil))) .nil)))))) (.ret (.con (D.bl false)) .nil) .nil .nil))) (.ret (.con (D.bl true)) .nil)),none⟩
noncomputable def zcv:Fn:=⟨5,6,(.asg 5 (.lst (.cons (.bin .Sub (.loc 3) (.con (D.int 1))) (.cons (.bin .Add (.loc 4) (.con (D.int 1))) (.cons (.con (D.bl true)) (.cons (.con (D.bl false)) (.cons (.con D.non) (.cons (.con (D.str "1")) .nil))))))) (.ifS (.cmp .Eq (.bin .Mod (.loc 0) (.loc 2)) (.con (D.int 0))) (.ret (.ix (.loc 5) (.bin .Mod (.bin .FloorDiv (.loc 0) (.loc 2)) (.con (D.int 6)))) .nil) .nil (.ret (.loc 1) .nil))),none⟩
noncomputable def zpx:Fn:=⟨1,14,(.asg 1 (.bin .Add (.con (D.int 1)) (.bin .Mod (.call 11 0 (.cons (.loc 0) (.cons (.con (D.int 0)) .nil))) (.con (D.int 7)))) (.asg 2 (.bin .Mod (.call 11 0 (.cons (.loc 0) (.cons (.con (D.int 1)) .nil))) (.con (D.int 6))) (.asg 3 (.mkL (.comp 1 [1] [0] (.val (.sl (.loc 0) true true (.con (D.int 6)) (.con (D.int 9)))) (.tst (.con (D.bl true))) (.bin .Mod (.bin .Mod (.loc 0) (.bin .Pow (.con (D.int 10)) (.con (D.int 64)))) (.loc 1)))) (.asg 4 (.lst .nil) (.ifS (.cmp .Gt (.loc 1) (.con (D.int 1))) (.asg 5 (.cmp .Eq (.bin .Mod (.bin .FloorDiv (.call 11 0 (.cons (.loc 0) (.cons (.con (D.int 0)) .nil))) (.con (D.int 7))) (.con (D.int 2))) (.con (D.int 1))) (.asg 4 (.mkL (.comp 1 [1,5] [0] (.val (.sl (.loc 0) true true (.con (D.int 9)) (.con (D.int 62)))) (.tst (.con (D.bl true))) (.call 14 0 (.cons (.call 13 0 (.cons (.loc 0) (.cons (.loc 2) .nil))) (.cons (.loc 1) .nil))))) .nil)) .nil (.asg 6 (.call 22 0 (.cons (.call 11 0 (.cons (.loc 0) (.cons (.con (D.int 2)) .nil))) (.cons (.loc 1) (.cons (.con (D.int 8)) (.cons (.con (D.int 1)) (.cons (.con (D.int 7)) .nil)))))) (.asg 7 (.call 22 0 (.cons (.call 11 0 (.cons (.loc 0) (.cons (.con (D.int 3)) .nil))) (.cons (.loc 2) (.cons (.con (D.int 6)) (.cons (.con (D.int 0)) (.cons (.con (D.int 5)) .nil)))))) (.asgT [8,9] (.call 19 0 (.cons (.loc 0) (.cons (.loc 3) (.cons (.loc 1) .nil)))) (.asgT [10,11] (.call 20 0 (.cons (.loc 0) (.cons (.loc 4) (.cons (.loc 1) .nil)))) (.asg 12 (.loc 11) (.ifS (.cmp .IsNot (.loc 9) (.con D.non)) (.asg 12 (.loc 9) .nil) .nil (.ifS (.nt (.tst (.call 16 0 (.cons (.loc 7) (.cons (.loc 2) .nil))))) (.asg 12 (.tup (.cons (.con (D.int 0)) (.cons (.loc 7) .nil))) .nil) .nil (.ifS (.nt (.tst (.call 16 0 (.cons (.loc 6) (.cons (.loc 1) .nil))))) (.asg 12 (.tup (.cons (.con (D.int 0)) (.cons (.loc 6) .nil))) .nil) .nil (.asg 13 (.call 17 0 (.cons (.loc 6) (.cons (.loc 7) (.cons (.mkL (.val (.loc 8))) (.cons (.mkL (.val (.loc 10))) .nil))))) (.ifS (.nt (.tst (.call 21 0 (.cons (.loc 0) (.cons (.loc 4) (.cons (.loc 1) (.cons (.loc 2) .nil))))))) (.ret (.con (D.bl false)) .nil) .nil (.ifS (.cmp .Is (.loc 12) (.con D.non)) (.ret (.cmp .Is (.loc 13) (.con D.non)) .nil) .nil (.ifS (.or (.cmp .Is (.loc 13) (.con D.non)) (.nt (.tst (.call 18 0 (.cons (.loc 13) (.cons (.loc 12) .nil)))))) (.ret (.con (D.bl false)) .nil) .nil (.ret (.cmp .Is (.call 17 0 (.cons (.loc 1) (.cons (.loc 2) (.cons (.mkL (.val (.loc 3))) (.cons (.mkL (.val (.loc 4))) .nil))))) (.con D.non)) .nil)))))))))))))))))),none⟩
noncomputable def c_Setting_init:Fn:=⟨5,5,(.blk (.setF (.loc 0) "many" 4 (.cons (.loc 1) (.cons (.con (D.int 1)) (.cons (.con (D.int 7)) .nil)))) (.blk (.setF (.loc 0) "bound" 4 (.cons (.loc 2) (.cons (.con (D.int 0)) (.cons (.con (D.int 5)) .nil)))) (.blk (.setF (.loc 0) "liars" 7 (.cons (.loc 1) (.cons (.loc 3) .nil))) (.blk (.setF (.loc 0) "lies" 8 (.cons (.loc 1) (.cons (.loc 4) .nil))) .nil)))),none⟩
noncomputable def prog:List Fn:=[zok,zbJ,ziH,ziE,c_count_of,c_hand_of,ziG,zdY,zeC,zj1,ziF,zd0,zgT,zeD,zgU,c_law_turned,c_law_same,zeE,zdZ,zcZ,c_law_bad_lies,zgV,zcv,zpx,c_Setting_init]
noncomputable def top (i:Nat):Stmt:=PySem.Challenge.pw_traitorround_k22_settings_refused.main.body.getD i (.Pass ⟨0,0,0,0⟩)
noncomputable abbrev zlm:Stmt:=top 0
noncomputable abbrev ze1:Stmt:=top 10
noncomputable abbrev zgw:Stmt:=top 11
noncomputable abbrev zgt:Stmt:=top 12
noncomputable abbrev ze2:Stmt:=top 13
noncomputable abbrev zgx:Stmt:=top 14
noncomputable abbrev zgv:Stmt:=top 17
noncomputable abbrev zc3:Stmt:=top 23
noncomputable abbrev zdC:Stmt:=top 24
noncomputable abbrev zhy:Stmt:=top 25
noncomputable abbrev zgu:Stmt:=top 26
noncomputable abbrev zc5:Stmt:=top 28
noncomputable abbrev zeX:Stmt:=top 29
noncomputable abbrev zdE:Stmt:=top 30
noncomputable abbrev zeZ:Stmt:=top 31
noncomputable abbrev zdD:Stmt:=top 32
noncomputable abbrev zeY:Stmt:=top 33
noncomputable abbrev zdF:Stmt:=top 34
noncomputable abbrev zc4:Stmt:=top 35
noncomputable abbrev zcs:Stmt:=top 36
noncomputable abbrev zcI:Stmt:=top 37
noncomputable abbrev ze0:Stmt:=top 38
noncomputable abbrev zce:Stmt:=top 39
noncomputable abbrev znf:Stmt:=top 40
noncomputable def zjN (s:Stmt)(j:Nat):Stmt:=match s with|.ClassDef _ _ _ b _ _ _ _ _ _ _=>b.getD j (.Pass ⟨0,0,0,0⟩)|s=>s
noncomputable abbrev zcJ:Stmt:=zjN (top 22) 0
noncomputable abbrev zcK:Stmt:=zjN (top 3) 0
theorem ox_NoCount:OkX "NoCount.__init__" zcK "RoundError" "told" "told":=⟨⟨⟨_,_,_,_,_,_,_,_,_,_,_,_,rfl,rfl⟩,⟨rfl,rfl,rfl,by decide +kernel,rfl,by decide +kernel,by decide +kernel⟩,rfl,rfl,rfl,rfl,⟨rfl,rfl⟩⟩,fun _ _ _ _ _ _ us hl=>match us,hl with | [_,_],_=>rfl⟩
noncomputable abbrev zc6:Stmt:=zjN (top 4) 0
theorem ox_NoHand:OkX "NoHand.__init__" zc6 "RoundError" "hand" "hand":=⟨⟨⟨_,_,_,_,_,_,_,_,_,_,_,_,rfl,rfl⟩,⟨rfl,rfl,rfl,by decide +kernel,rfl,by decide +kernel,by decide +kernel⟩,rfl,rfl,rfl,rfl,⟨rfl,rfl⟩⟩,fun _ _ _ _ _ _ us hl=>match us,hl with | [_,_],_=>rfl⟩
noncomputable abbrev zct:Stmt:=zjN (top 6) 0
theorem ox_NoLetter:OkX "NoLetter.__init__" zct "RoundError" "place" "place":=⟨⟨⟨_,_,_,_,_,_,_,_,_,_,_,_,rfl,rfl⟩,⟨rfl,rfl,rfl,by decide +kernel,rfl,by decide +kernel,by decide +kernel⟩,rfl,rfl,rfl,rfl,⟨rfl,rfl⟩⟩,fun _ _ _ _ _ _ us hl=>match us,hl with | [_,_],_=>rfl⟩
noncomputable instance mks:R.Mks:={ts:=[],cl:=[213],xc:=[51,70,89,108,127,146]}
noncomputable def tab:Tab:=⟨["abs","all","bool","enumerate","int","isinstance","len","list","range","set","sorted","tuple"],[("LONGEST",(D.int 7)),("MOST_HANDS",(D.int 7)),("GREATEST_BOUND",(D.int 5)),("LAST_TURN",(D.int 30))],[("_wall",["k"],0),("is_whole",["thing"],0),("is_hand",["thing","many"],0),("is_word",["thing"],0),("count_of",["thing","least","greatest"],0),("hand_of",["thing","many"],0),("is_path",["thing","many"],0),("lying_among",["many","liars"],0),("lies_among",["many","lies"],0),("is_lie",["thing","many"],0),("is_turn",["thing"],0),("_law_cell_at",["_law_script","_law_k"],0),("_law_word",["_law_cell"],0),("_law_spread",["_law_cell","_law_digits"],0),("_law_line",["_law_cell","_law_many"],0),("_law_turned",["_law_lie","_law_way","_law_many"],0),("_law_same",["_law_one","_law_other"],0),("_law_caught",["_law_many","_law_bound","_law_hands","_law_lies"],0),("_law_refusal",["_law_caught_here","_law_due"],0),("_law_bad_hands",["_law_script","_law_hands","_law_many"],0),("_law_bad_lies",["_law_script","_law_lies","_law_many"],0),("_law_each",["_law_script","_law_lies","_law_many","_law_bound"],0),("_law_bad_number",["_law_cell","_law_good","_law_share","_law_low","_law_high"],0),("law",["_law_script"],0)],["Setting"],["many","bound","liars","lies"],[],[(0,24,0)],[],[],[(0,"NoCount","told"),(1,"NoHand","hand"),(3,"NoLetter","place")],["place","hand","told"],[("NoRow",[5]),("NoWay",[4]),("NoWord",[2]),("NoLetter",[3]),("NoHand",[1]),("NoCount",[0])],[("ValueError",[0,1,2,3,4,5])],[5,8,7,4],["RoundError"]⟩
theorem us1 {α:Type}{P:List α->Prop}(h:∀a,P [a]):∀us:List α,us.length=1->P us | [a],_=>h a
theorem us2 {α:Type}{P:List α->Prop}(h:∀a b,P [a,b]):∀us:List α,us.length=2->P us | [a,b],_=>h a b
theorem us3 {α:Type}{P:List α->Prop}(h:∀a b c,P [a,b,c]):∀us:List α,us.length=3->P us | [a,b,c],_=>h a b c
theorem us4 {α:Type}{P:List α->Prop}(h:∀a b c d,P [a,b,c,d]):∀us:List α,us.length=4->P us | [a,b,c,d],_=>h a b c d
theorem us5 {α:Type}{P:List α->Prop}(h:∀a b c d e,P [a,b,c,d,e]):∀us:List α,us.length=5->P us | [a,b,c,d,e],_=>h a b c d e
theorem O23:OkD tab prog 0 "_wall" "_wall" ["k"] zlm:=zaD ["k"] rfl (by decide +kernel) fun _ _ _ _ _ _=>us1 fun _=>rfl
theorem O14:OkD tab prog 1 "is_whole" "is_whole" ["thing"] ze1:=zaD ["thing"] rfl (by decide +kernel) fun _ _ _ _ _ _=>us1 fun _=>rfl
theorem O20:OkD tab prog 2 "is_hand" "is_hand" ["thing","many"] zgw:=zaD ["thing","many"] rfl (by decide +kernel) fun _ _ _ _ _ _=>us2 fun _ _=>rfl
theorem O21:OkD tab prog 3 "is_word" "is_word" ["thing"] zgt:=zaD ["thing"] rfl (by decide +kernel) fun _ _ _ _ _ _=>us1 fun _=>rfl
theorem O15:OkD tab prog 4 "count_of" "count_of" ["thing","least","greatest"] ze2:=zaD ["thing","least","greatest"] rfl (by decide +kernel) fun _ _ _ _ _ _=>us3 fun _ _ _=>rfl
theorem O17:OkD tab prog 5 "hand_of" "hand_of" ["thing","many"] zgx:=zaD ["thing","many"] rfl (by decide +kernel) fun _ _ _ _ _ _=>us2 fun _ _=>rfl
theorem O18:OkD tab prog 6 "is_path" "is_path" ["thing","many"] zgv:=zaD ["thing","many"] rfl (by decide +kernel) fun _ _ _ _ _ _=>us2 fun _ _=>rfl
theorem O6:OkD tab prog 7 "lying_among" "lying_among" ["many","liars"] zc3:=zaD ["many","liars","told"] rfl (by decide +kernel) fun _ _ _ _ _ _=>us2 fun _ _=>rfl
theorem O7:OkD tab prog 8 "lies_among" "lies_among" ["many","lies"] zdC:=zaD ["many","lies","place","thing"] rfl (by decide +kernel) fun _ _ _ _ _ _=>us2 fun _ _=>rfl
theorem O22:OkD tab prog 9 "is_lie" "is_lie" ["thing","many"] zhy:=zaD ["thing","many"] rfl (by decide +kernel) fun _ _ _ _ _ _=>us2 fun _ _=>rfl
theorem O19:OkD tab prog 10 "is_turn" "is_turn" ["thing"] zgu:=zaD ["thing"] rfl (by decide +kernel) fun _ _ _ _ _ _=>us1 fun _=>rfl
theorem O4:OkD tab prog 11 "_law_cell_at" "_law_cell_at" ["_law_script","_law_k"] zc5:=zaD ["_law_script","_law_k"] rfl (by decide +kernel) fun _ _ _ _ _ _=>us2 fun _ _=>rfl
theorem O16:OkD tab prog 12 "_law_word" "_law_word" ["_law_cell"] zeX:=zaD ["_law_cell"] rfl (by decide +kernel) fun _ _ _ _ _ _=>us1 fun _=>rfl
theorem O10:OkD tab prog 13 "_law_spread" "_law_spread" ["_law_cell","_law_digits"] zdE:=zaD ["_law_cell","_law_digits","_law_number"] rfl (by decide +kernel) fun _ _ _ _ _ _=>us2 fun _ _=>rfl
theorem O13:OkD tab prog 14 "_law_line" "_law_line" ["_law_cell","_law_many"] zeZ:=zaD ["_law_cell","_law_many","_law_left","_law_order","_law_k","_law_size"] rfl (by decide +kernel) fun _ _ _ _ _ _=>us2 fun _ _=>rfl
theorem O8:OkD tab prog 15 "_law_turned" "_law_turned" ["_law_lie","_law_way","_law_many"] zdD:=zaD ["_law_lie","_law_way","_law_many","_law_turn","_law_path","_law_to","_law_word_here","_law_some"] rfl (by decide +kernel) fun _ _ _ _ _ _=>us3 fun _ _ _=>rfl
theorem O12:OkD tab prog 16 "_law_same" "_law_same" ["_law_one","_law_other"] zeY:=zaD ["_law_one","_law_other"] rfl (by decide +kernel) fun _ _ _ _ _ _=>us2 fun _ _=>rfl
theorem O9:OkD tab prog 17 "_law_caught" "_law_caught" ["_law_many","_law_bound","_law_hands","_law_lies"] zdF:=zaD ["_law_many","_law_bound","_law_hands","_law_lies","_law_caught_here","e"] rfl (by decide +kernel) fun _ _ _ _ _ _=>us4 fun _ _ _ _=>rfl
theorem O5:OkD tab prog 18 "_law_refusal" "_law_refusal" ["_law_caught_here","_law_due"] zc4:=zaD ["_law_caught_here","_law_due","_law_flags"] rfl (by decide +kernel) fun _ _ _ _ _ _=>us2 fun _ _=>rfl
theorem O1:OkD tab prog 19 "_law_bad_hands" "_law_bad_hands" ["_law_script","_law_hands","_law_many"] zcs:=zaD ["_law_script","_law_hands","_law_many","_law_odd","_law_cell","_law_found","_law_first","_law_at"] rfl (by decide +kernel) fun _ _ _ _ _ _=>us3 fun _ _ _=>rfl
theorem O3:OkD tab prog 20 "_law_bad_lies" "_law_bad_lies" ["_law_script","_law_lies","_law_many"] zcI:=zaD ["_law_script","_law_lies","_law_many","_law_cell","_law_found","_law_first","_law_at","_law_later"] rfl (by decide +kernel) fun _ _ _ _ _ _=>us3 fun _ _ _=>rfl
theorem O11:OkD tab prog 21 "_law_each" "_law_each" ["_law_script","_law_lies","_law_many","_law_bound"] ze0:=zaD ["_law_script","_law_lies","_law_many","_law_bound","_law_k","_law_odd","_law_caught_here"] rfl (by decide +kernel) fun _ _ _ _ _ _=>us4 fun _ _ _ _=>rfl
theorem O0:OkD tab prog 22 "_law_bad_number" "_law_bad_number" ["_law_cell","_law_good","_law_share","_law_low","_law_high"] zce:=zaD ["_law_cell","_law_good","_law_share","_law_low","_law_high","_law_odd"] rfl (by decide +kernel) fun _ _ _ _ _ _=>us5 fun _ _ _ _ _=>rfl
theorem O24:OkD tab prog 23 "law" "law" ["_law_script"] znf:=zaD ["_law_script","_law_many","_law_bound","_law_hands","_law_lies","_law_digits","_law_odd_many","_law_odd_bound","_law_odd_hands","_law_first_hand","_law_odd_lies","_law_first_lie","_law_due","_law_caught_here"] rfl (by decide +kernel) fun _ _ _ _ _ _=>us1 fun _=>rfl
theorem O2:OkE tab prog 24 ["self","many","bound","liars","lies"] zcJ:=znH (F:=c_Setting_init) ["self","many","bound","liars","lies"] rfl (by decide +kernel)
end
section
open R
abbrev Up (S T:R.St):Prop:=∀l o,S.get l=some o->T.get l=some o
theorem Up.push (S:R.St)(o:MO):Up S (S.push o):=fun _ _ e=>zam e
theorem Up.refl (S:R.St):Up S S:=fun _ _ e=>e
theorem Up.enter (S:R.St):Up S S.enter:=fun l o e=>by rw[zau];exact e
theorem Up.trans (a:Up S T)(b:Up T U):Up S U:=fun l o e=>b l o (a l o e)
theorem plen (S:R.St)(o:MO):(S.push o).len=S.len+1:=by simp[St.push,St.len];omega
noncomputable def Ty (S:R.St):D->Prop
 |.ref l=>∃ds,S.get l=some (.lst ds)
 |.fix _=>False
 |_=>True
theorem Ty.mono (h:Ty S d)(g:Up S T):Ty T d:=by
 cases d with
 |ref l=>obtain⟨ds,e⟩:=h;exact⟨ds,g _ _ e⟩
 |_=>exact h
noncomputable def kI:D->Bool|.int _=>true|.bl _=>true|_=>false
noncomputable def kB:D->Bool|.bl _=>true|_=>false
noncomputable def kZ:D->Bool|.int _=>true|_=>false
noncomputable def kU:D->Bool|.tup _=>true|_=>false
theorem zpk (d:D):(kI d&&!kB d)=kZ d:=by cases d<;>rfl
noncomputable def kT:D->String|.non=>"NoneType"|.bl _=>"bool"|.int _=>"int"|.str _=>"str"|.tup _=>"tuple"|_=>"list"
theorem Ty.ty (h:Ty S d):tyOf S d=some (kT d):=by
 cases d with
 |ref l=>obtain⟨ds,e⟩:=h;simp[tyOf,e,kT]
 |fix _=>exact h.elim
 |_=>rfl
theorem znW (d:D):(kT d == "int" || (kT d == "bool" && "int" == "int"))=kI d:=by cases d<;>rfl
theorem zlL (d:D):(kT d == "bool" || (kT d == "bool" && "bool" == "int"))=kB d:=by cases d<;>rfl
theorem zpy (h:Ty S d):bi S (.isin "int") [d]=.ok (.bl (kI d)) S:=by
 unfold bi;simp only[h.ty];rw[znW]
theorem zos (h:Ty S d):bi S (.isin "bool") [d]=.ok (.bl (kB d)) S:=by
 unfold bi;simp only[h.ty];rw[zlL]
theorem zio (e:δ[i]?=some (some d))(h:Ty S d):evE cf (.bi (.isin "int") (.cons (.loc i) .nil)) δ S=.ok (.bl (kI d)) S:=by
 simp[evE,evEs,e,Option.join,Option.bind,id,zaO,zao,zpy h]
theorem zfc (e:δ[i]?=some (some d))(h:Ty S d):evE cf (.bi (.isin "bool") (.cons (.loc i) .nil)) δ S=.ok (.bl (kB d)) S:=by
 simp[evE,evEs,e,Option.join,Option.bind,id,zaO,zao,zos h]
theorem zgZ (h:P[f]?=some F)(hl:ds.length=F.np)(w:W (exS (callF P n) F.body (zap F ds) S.enter) fun r T=>wFin S r T Q)(hp:F.prim=none:=by rfl) :
  W (app (callF P (n+1)) f ds S) Q:=by
 rw[zkD h hl hp,zaa,W_ne];refine w.mono fun r T q=>?_;unfold wFin at q;exact q
theorem zdw (h:Ty S d):app (callF prog (n+1)) 1 [d] S=.ok (.bl (kZ d)) S:=by
 refine W.eq (zgZ rfl rfl ?_);have hE:=h.mono (.enter S);have e1:evE (callF prog n) (.bi (.isin "int") (.cons (.loc 0) .nil)) (zap zbJ [d]) S.enter=_:=zio rfl hE;have e2:evE (callF prog n) (.bi (.isin "bool") (.cons (.loc 0) .nil)) (zap zbJ [d]) S.enter=_:=zfc rfl hE;have e:evE (callF prog n) (.and (.bi (.isin "int") (.cons (.loc 0) .nil)) (.nt (.bi (.isin "bool") (.cons (.loc 0) .nil)))) (zap zbJ [d]) S.enter=.ok (.bl (kZ d)) S.enter:=by
  rw[evE,e1,zao,<-zpk];dsimp only;cases kI d with
  |true=>rw[if_pos rfl,evE,e2];rfl
  |false=>rfl
 show W (exS (callF prog n) (.ret _ .nil) _ _) _;rw[exS,e,zao];exact zac rfl ⟨rfl,rfl⟩
theorem zgH (d:D):(∃z,d=.int z)\/kZ d=false:=by cases d<;>first|exact .inl ⟨_,rfl⟩|exact .inr rfl
noncomputable def gh (m:Int):D->Bool|.int z=>decide (0<=z)&&decide (z<m)|_=>false
noncomputable def gt:D->Bool|.int z=>decide (1<=z)&&decide (z<=30)|_=>false
theorem zpr (h:kZ d=false):gh m d=false:=by cases d<;>first|rfl|cases h
theorem zpq (h:kZ d=false):gt d=false:=by cases d<;>first|rfl|cases h
theorem zho (h:Ty S d):app (callF prog (n+2)) 2 [d,.int m] S=.ok (.bl (gh m d)) S:=by
 apply zcq rfl rfl;specialize zdw (h.mono (.enter S));rcases zgH d with ⟨z,rfl⟩|hz
 . left;refine zbS (fun c=>?_) (fun c=>?_)
   . left;refine zac rfl ⟨?_,rfl⟩;simp[gh,c]
   . left;refine zac rfl ⟨?_,rfl⟩;simp[gh,c]
 . rw[zpr hz];apply ziS hz;exact zac rfl ⟨rfl,rfl⟩
theorem zm8 (h:Ty S d):app (callF prog (n+2)) 10 [d] S=.ok (.bl (gt d)) S:=by
 apply zcq rfl rfl;specialize zdw (h.mono (.enter S));rcases zgH d with ⟨z,rfl⟩|hz
 . left;refine zbS (fun c=>?_) (fun c=>?_)
   . left;refine zac rfl ⟨?_,rfl⟩;simp[gt,c]
   . left;refine zac rfl ⟨?_,rfl⟩;simp[gt,c]
 . rw[zpq hz];apply ziS hz;exact zac rfl ⟨rfl,rfl⟩
noncomputable def gw:D->Bool|.int z=>decide (-10 ^ 60<z)&&decide (z<10 ^ 60)|_=>false
theorem zpp (h:kZ d=false):gw d=false:=by cases d<;>first|rfl|cases h
theorem zm7 (h:Ty S d):app (callF prog (n+2)) 3 [d] S=.ok (.bl (gw d)) S:=by
 apply zcq rfl rfl;specialize zdw (h.mono (.enter S));rcases zgH d with ⟨z,rfl⟩|hz
 . left;change by decide
   refine zac rfl ⟨?_,rfl⟩;unfold gw;congr 1;dsimp only;rw[<-Bool.decide_and];apply decide_eq_decide.mpr;rw[show (60:Int).toNat=60 from rfl];split<;>omega
 . rw[zpp hz];apply ziS hz;exact zac rfl ⟨rfl,rfl⟩
theorem ziO (p:D->Bool):∀rs:List D,allD (rs.map fun x=>.bl (p x))=some (rs.all p)
 | []=>rfl
 | r::rs=>by
   have h:((rs.map fun x=>D.bl (p x)).mapM zc0).map (fun bs=>bs.all id)=some (rs.all p):=ziO p rs;unfold allD;rw[map_cons,mapM_cons];cases e:(rs.map fun x=>D.bl (p x)).mapM zc0 with
   |none=>rw[e] at h;cases h
   |some bs=>rw[e] at h;simp at h;simp[zc0,h]
noncomputable def nums:List D->List Int
 | []=>[]
 |.int z::r=>z::nums r
 |_::r=>nums r
theorem zfX (h:gh m d=true):∃z,d=.int z/\0<=z/\z<m:=by
 cases d<;>simp[gh] at h;exact⟨_,rfl,h.1,h.2⟩
theorem zdJ:∀{ds:List D},ds.all (gh m)=true->ds=(nums ds).map D.int/\∀z∈nums ds,0<=z/\z<m
 | [],_=>⟨rfl,fun z hz=>nomatch hz⟩
 | d::ds,h=>by
   rw[all_cons,and_eq_true] at h;obtain⟨z,rfl,h0,h1⟩:=zfX h.1;obtain⟨e,q⟩:=zdJ h.2;refine⟨by rw[nums,map_cons,<-e],fun y hy=>?_⟩;rcases mem_cons.mp hy with rfl|hy
   . exact⟨h0,h1⟩
   . exact q y hy
noncomputable def paB (m:Int):D->Bool
 |.tup ds=>decide (1<=ds.length/\ds.length<=7)&&ds.all (gh m)&&decide ((dedup (nums ds)).length=ds.length)
 |_=>false
theorem zm9 (h:Ty S d)(hs:∀ds,d=.tup ds->∀x∈ds,Ty S x):app (callF prog (n+3)) 6 [d,.int m] S=.ok (.bl (paB m d)) S:=by
 apply zcq rfl rfl;have hE:=h.mono (.enter S);exists hE.ty;cases d with
 | tup ds=>
   refine zbS (fun c=>?_) (fun c=>?_)
   . left;refine zkI (fun c7=>?_) (fun c7=>?_)
     . left;refine zac rfl ⟨?_,rfl⟩;have:¬(1<=ds.length/\ds.length<=7):=by simp at c c7;omega
       simp[paB,this]
     . left;have hl:1<=ds.length/\ds.length<=7:=by simp at c c7;omega
       apply zaY;refine W.of (zdb (fun x=>.bl (gh m x)) ds none (fun x _=>rfl) (fun x hx=>?_)) ?_
       . show Out.bind (Out.bind (lift _ (some x)) _) _=_;exact zho ((hs ds rfl x hx).mono (.enter S))
       change by rw[length_map];omega
       exists ziO (gh m) ds;cases ha:ds.all (gh m) with
       | false=>
         exact zac rfl ⟨by simp[paB,ha],rfl⟩
       | true=>
         obtain⟨e,q⟩:=zdJ ha;have ei:zbR ds=some (nums ds):=by rw[e,zbX,<-e]
         exists ei;have hn:(nums ds).length=ds.length:=by
          have:=congrArg List.length e;rw[length_map] at this;exact this.symm
         change by omega
         refine zac rfl ⟨?_,rfl⟩;simp only[paB,ha,decide_eq_true hl];congr 1;exact decide_eq_decide.mpr (by omega)
   . left;refine zac rfl ⟨?_,rfl⟩;have:¬(1<=ds.length/\ds.length<=7):=by simp at c;omega
     simp[paB,this]
 |fix _=>exact hE.elim
 | _=>
   exact zac rfl ⟨rfl,rfl⟩
structure Tyl (S:R.St) (d:D):Prop where
 ty:Ty S d
 sub:∀ds,d=.tup ds->∀x∈ds,Ty S x
 sub2:∀ds,d=.tup ds->∀rs,D.tup rs∈ds->∀y∈rs,Ty S y
theorem Tyl.mono (h:Tyl S d)(g:Up S T):Tyl T d:=⟨h.ty.mono g,fun ds e x hx=>(h.sub ds e x hx).mono g,fun ds e rs hr y hy=>(h.sub2 ds e rs hr y hy).mono g⟩
noncomputable def inP (h p:D):Bool:=match h,p with|.int z,.tup ds=>decide (z∈nums ds)|_,_=>false
noncomputable def wdB:D->Bool|.non=>true|w=>gw w
noncomputable def lieB (m:Int):D->Bool
 |.tup [t,p,h,w]=>gt t&&paB m p&&gh m h&&!inP h p&&wdB w
 |_=>false
theorem zpz {a b c d:D}:R.atI [a,b,c,d] 0=some a:=rfl
theorem zov {a b c d:D}:R.atI [a,b,c,d] 1=some b:=rfl
theorem zou {a b c d:D}:R.atI [a,b,c,d] 2=some c:=rfl
theorem zot {a b c d:D}:R.atI [a,b,c,d] 3=some d:=rfl
theorem zn1 (S:R.St)(x:Int)(ks:List Int):cmpO S .In (.int x) (.tup (ks.map .int))=some (decide (x∈ks)):=zfV S x ks
theorem zhL (h:paB m p=true):∃ds,p=.tup ds/\ds=(nums ds).map D.int/\(∀z∈nums ds,0<=z/\z<m)/\1<=ds.length/\ds.length<=7:=by
 unfold paB at h;split at h
 . rename_i ds;simp only[and_eq_true,decide_eq_true_eq] at h;obtain⟨e,q⟩:=zdJ h.1.2;exact⟨ds,rfl,e,q,h.1.1.1,h.1.1.2⟩
 . cases h
theorem znb (h:Tyl S d):app (callF prog (n+4)) 9 [d,.int m] S=.ok (.bl (lieB m d)) S:=by
 apply zcq rfl rfl;have hE:=h.mono (.enter S);exists hE.ty.ty;cases d with
 | tup ds=>
   match ds,h with
   | [],_ | [_],_ | [_,_],_ | [_,_,_],_=>
     exact zac rfl ⟨rfl,rfl⟩
   | a::b::c::x::y::r,_=>
     exact zac rfl ⟨rfl,rfl⟩
   | [a,b,c,x],h=>
     have ha:Ty S.enter a:=hE.sub _ rfl a (by simp);have hb:Ty S.enter b:=hE.sub _ rfl b (by simp);have hc:Ty S.enter c:=hE.sub _ rfl c (by simp);have hx:Ty S.enter x:=hE.sub _ rfl x (by simp);exists zpz;specialize zm8 ha;cases ga:gt a with
     | false=>
       exact zac rfl ⟨by simp[lieB,ga],rfl⟩
     |true=>
     exists zov;specialize zm9 hb fun ds e y hy=>hE.sub2 _ rfl ds (by rw[e];simp) y hy;cases gb:paB m b with
     | false=>
       exact zac rfl ⟨by simp[lieB,gb],rfl⟩
     |true=>
     exists zou;specialize zho hc;cases gc:gh m c with
     | false=>
       exact zac rfl ⟨by simp[lieB,gc],rfl⟩
     |true=>
     obtain⟨z,rfl,_,_⟩:=zfX gc;obtain⟨ds,rfl,e,_,_,_⟩:=zhL gb;exists zou;exists zov;have ei:cmpO S.enter .In (.int z) (.tup ds)=some (decide (z∈nums ds)):=by
      have:=zn1 S.enter z (nums ds);rw[<-e] at this;exact this
     exists ei;cases hz:decide (z∈nums ds) with
     | true=>
       exact zac rfl ⟨by simp[lieB,inP,hz],rfl⟩
     |false=>
     exists zot;have fin:lieB m (.tup [a,.tup ds,.int z,x])=wdB x:=by simp[lieB,ga,gb,gc,inP,hz,Bool.not_false,Bool.true_and]
     rw[fin];cases x with
     | non=>
       exact zac rfl ⟨rfl,rfl⟩
     |fix _=>exact hx.elim
     | _=>
       exists zot;specialize zm7 hx;exact zac rfl ⟨rfl,rfl⟩
 |fix _=>exact hE.ty.elim
 | _=>
   exact zac rfl ⟨rfl,rfl⟩
theorem zbp {S T:R.St}(hT:T.frz=S.frz++S.new):(R.St.mk S.frz (S.new++T.new) S.lk).get l=T.get l:=by
 unfold St.get;rw[hT];dsimp only;rw[length_append];by_cases h1:l<S.frz.length
 . rw[if_pos h1,if_pos (by omega),getElem?_append_left h1]
 . rw[if_neg h1];by_cases h2:l<S.frz.length+S.new.length
   . rw[if_pos h2,getElem?_append_left (by omega),getElem?_append_right (by omega)]
   . rw[if_neg h2,getElem?_append_right (by omega)];congr 1;omega
theorem zow (h:P[f]?=some F)(hl:ds.length=F.np)(e:exS (callF P n) F.body (zap F ds) S.enter=.ok (.ex d) U)(hp:F.prim=none:=by rfl):appX (callF P (n+1)) f ds S=.err d ⟨S.frz,S.new++U.new,S.lk⟩:=by
 unfold appX;simp[callF,h,hl,hp,if_true,e,Out.ne,zao]
theorem get_frz {S T:R.St}(hT:T.frz=S.frz++S.new)(h:l<S.len):T.get l=S.get l:=by
 rw[<-zau S];unfold St.get;rw[hT,if_pos (by rw[ze8];exact h),if_pos (by rw[zeu,ze8];exact h)];rfl
structure XT (S T:R.St) (e c:Nat) (f:PySem.Str) (d:D):Prop where
 at_:T.get e=some (.exc c [(f,d)])
 up:Up S T
 fz:T.frz=S.frz
 lk:T.lk=S.lk
 len:S.len<=T.len
 nw:S.len<=e
theorem zd4 {e c:Nat}(h:P[f]?=some F)(hl:ds.length=F.np)(w:W (exS (callF P n) F.body (zap F ds) S.enter) fun r U=>∃e,r=.ex (.ref e)/\U.get e=some (.exc c [(x,d)])/\Up S U/\U.frz=S.frz++S.new/\S.len<=e)(hp:F.prim=none:=by rfl) :
  ∃e T,appX (callF P (n+1)) f ds S=.err (.ref e) T/\XT S T e c x d:=by
 obtain⟨r,U,e1,e,rfl,h1,h2,h3,h4⟩:=W.iff.mp w;exact⟨e,⟨S.frz,S.new++U.new,S.lk⟩,zow h hl e1 hp,by rw[zbp h3];exact h1,fun l o g=>by rw[zbp h3];exact h2 l o g,rfl,rfl,by unfold St.len;simp,h4⟩
theorem zgi (h:P[f]?=some F)(hl:ds.length=F.np)(w:W (exS (callF P n) F.body (zap F ds) S.enter) fun r _=>r=.rt d)(fl:R.flat S.len d=true)(hp:F.prim=none:=by rfl):appX (callF P (n+1)) f ds S=.ok d S:=by
 obtain⟨r,U,e1,rfl⟩:=W.iff.mp w;unfold appX;simp[callF,h,hl,hp,e1];exact zdi S d U fl
noncomputable def cn (lo hi:Int):D->Bool|.int z=>decide (lo<=z)&&decide (z<=hi)|_=>false
theorem zpw (h:kZ d=false):cn lo hi d=false:=by cases d<;>first|rfl|cases h
theorem zdp (S:R.St)(o:MO):Up S (S.enter.push o):=(Up.enter S).trans (.push _ _)
theorem nw_e (S:R.St):S.len<=S.enter.len:=by rw[R.enter_len];exact le_refl _
theorem ziL (h:Ty S d):W (exS (callF prog (n+1)) c_count_of.body (zap c_count_of [d,.int lo,.int hi]) S.enter) fun r U=>if cn lo hi d=true then r=.rt d else ∃e,r=.ex (.ref e)/\U.get e=some (.exc 0 [(("told":PySem.Str),d)])/\Up S U/\U.frz=S.frz++S.new/\S.len<=e:=by
 generalize hq:(fun (r:Fl) (U:R.St)=>if cn lo hi d=true then r=.rt d else ∃e,r=.ex (.ref e)/\U.get e=some (.exc 0 [(("told":PySem.Str),d)])/\Up S U/\U.frz=S.frz++S.new/\S.len<=e)=Q;have bad:cn lo hi d=false->Q (.ex (.ref S.enter.len)) (S.enter.push (.exc 0 [(("told":PySem.Str),d)])):=fun c=>by
  rw[<-hq];dsimp only;rw[if_neg (by rw[c];decide)];exact⟨_,rfl,zaf _ _,zdp _ _,rfl,nw_e S⟩
 have good:cn lo hi d=true->∀U,Q (.rt d) U:=fun c U=>by rw[<-hq];dsimp only;rw[if_pos c]
 apply wS_W _;specialize zdw (h.mono (.enter S));rcases zgH d with ⟨z,rfl⟩|hz
 . left;refine zbS (fun c=>?_) (fun c=>?_)
   . left;refine zkI (fun c7=>?_) (fun c7=>?_)
     . left;exact bad (by simp at c c7;simp[cn];omega)
     . left;exact good (by simp at c c7;simp[cn];omega) _
   . left;exact bad (by simp at c;simp[cn];omega)
 . rw[hz];exact bad (zpw hz)
theorem zg2 (h:Ty S d)(c:cn lo hi d=true):appX (callF prog (n+2)) 4 [d,.int lo,.int hi] S=.ok d S:=by
 apply zgi rfl rfl ((ziL h).mono fun r U q=>by rwa [if_pos c] at q);cases d<;>first|rfl|cases c
theorem zit (h:Ty S d)(c:cn lo hi d=false):∃e T,appX (callF prog (n+2)) 4 [d,.int lo,.int hi] S=.err (.ref e) T/\XT S T e 0 "told" d:=
 zd4 (e:=0) rfl rfl ((ziL h).mono fun r U q=>by rwa [if_neg (by rw[c];decide)] at q)
theorem zgh (h:Ty S d):W (exS (callF prog (n+2)) c_hand_of.body (zap c_hand_of [d,.int m]) S.enter) fun r U=>if gh m d=true then r=.rt d else ∃e,r=.ex (.ref e)/\U.get e=some (.exc 1 [(("hand":PySem.Str),d)])/\Up S U/\U.frz=S.frz++S.new/\S.len<=e:=by
 generalize hq:(fun (r:Fl) (U:R.St)=>if gh m d=true then r=.rt d else ∃e,r=.ex (.ref e)/\U.get e=some (.exc 1 [(("hand":PySem.Str),d)])/\Up S U/\U.frz=S.frz++S.new/\S.len<=e)=Q;have bad:gh m d=false->Q (.ex (.ref S.enter.len)) (S.enter.push (.exc 1 [(("hand":PySem.Str),d)])):=fun c=>by
  rw[<-hq];dsimp only;rw[if_neg (by rw[c];decide)];exact⟨_,rfl,zaf _ _,zdp _ _,rfl,nw_e S⟩
 have good:gh m d=true->∀U,Q (.rt d) U:=fun c U=>by rw[<-hq];dsimp only;rw[if_pos c]
 apply wS_W _;specialize zho (h.mono (.enter S));cases hg:gh m d with
 | true=>
   exact good hg _
 | false=>
   exact bad hg
theorem zfm (h:Ty S d)(c:gh m d=true):appX (callF prog (n+3)) 5 [d,.int m] S=.ok d S:=by
 apply zgi rfl rfl ((zgh h).mono fun r U q=>by rwa [if_pos c] at q);obtain⟨z,rfl,_⟩:=zfX c;rfl
theorem zjU (h:Ty S d)(c:gh m d=false):∃e T,appX (callF prog (n+3)) 5 [d,.int m] S=.err (.ref e) T/\XT S T e 1 "hand" d:=
 zd4 (e:=0) rfl rfl ((zgh h).mono fun r U q=>by rwa [if_neg (by rw[c];decide)] at q)
noncomputable abbrev hdE:CEs:=.cons (.loc 0) (.cons (.loc 1) .nil)
theorem zmC:∀(ds:List D) (o:Option D),(∀d∈ds,Ty S d)->ds.all (gh m)=true->zaR (callF prog (n+3)) [0] 5 hdE ds [o,some (.int m)] S=.ok ds S
 | [],_,_,_=>rfl
 | d::ds,o,ht,ha=>by
   rw[all_cons,and_eq_true] at ha;have ih:=zmC (n:=n) ds (some d) (fun x hx=>ht x (by simp[hx])) ha.2;have e1:evEs (callF prog (n+3)) hdE [some d,some (.int m)] S=.ok [d,.int m] S:=by simp[evEs,evE]
   rw[zaR,show asgG [0] d [o,some (.int m)]=some [some d,some (.int m)] from rfl];dsimp only;rw[e1];dsimp only;rw[zfm (ht d (by simp)) ha.1];dsimp only;rw[ih];rfl
theorem zj9:∀(ds:List D) (o:Option D),(∀d∈ds,Ty S d)->ds.find? (fun d=>!gh m d)=some x->∃e T,zaR (callF prog (n+3)) [0] 5 hdE ds [o,some (.int m)] S=.err (.ref e) T/\XT S T e 1 "hand" x
 | [],_,_,h=>by cases h
 | d::ds,o,ht,h=>by
   have e1:evEs (callF prog (n+3)) hdE [some d,some (.int m)] S=.ok [d,.int m] S:=by simp[evEs,evE]
   rw[zaR,show asgG [0] d [o,some (.int m)]=some [some d,some (.int m)] from rfl];dsimp only;rw[e1];dsimp only;rw[List.find?_cons] at h;cases c:gh m d with
   | true=>
     rw[c] at h;obtain⟨e,T,h1,h2⟩:=zj9 ds (some d) (fun x hx=>ht x (by simp[hx])) h;rw[zfm (ht d (by simp)) c];dsimp only;rw[h1];exact⟨e,T,rfl,h2⟩
   | false=>
     rw[c] at h;cases h;obtain⟨e,T,h1,h2⟩:=zjU (ht x (by simp)) c;rw[h1];exact⟨e,T,rfl,h2⟩
noncomputable def en:Nat->List D->List D
 |_,[]=>[]
 |k,d::ds=>zcL (.int (k:Nat)) d::en (k+1) ds
theorem zky:∀(ds:List D) (k:Nat),ds.mapIdx (fun i d=>zcL (.int ((i+k:Nat):Int)) d)=en k ds
 | [],_=>rfl
 | d::ds,k=>by
   rw[List.mapIdx_cons,en,<-zky ds (k+1),zero_add];congr 2;funext i d;rw[show i+1+k=i+(k+1) by omega]
theorem en_0 (ds:List D):ds.mapIdx (fun i d=>zcL (.int (i:Int)) d)=en 0 ds:=zky ds 0
theorem zlG (h:S.get l=some (.lst (ks.map .int))):lstI S (.ref l)=some ks:=by
 unfold lstI;dsimp only;rw[h];exact zbX ks
noncomputable abbrev lyC:TrB:=.comp 2 1 [0] [0] (.val (.loc 1)) 5 hdE
theorem zoa (g:U.get l=some (.lst ds)):evL cf (.val (.loc 1)) [some (.int m),some (.ref l),o] U=.ok (ds,[l]) U:=by
 have e:zbK U (.ref l)=some ds:=by unfold zbK;dsimp only;rw[g]
 simp[evL,evE,List.getElem?_cons_succ,List.getElem?_cons_zero,Option.join,Option.bind,id,zaO,zao,e];rfl
theorem zpj (g:U.get l=some (.lst ds))(ht:∀d∈ds,Ty U d)(hl:ds.length<=16777216)(ha:ds.all (gh m)=true) :
  exT (callF prog (n+3)) lyC [some (.int m),some (.ref l),none] U=.ok [some (.int m),some (.ref l),some (.ref U.len)] (U.push (.lst ds)):=by
 simp[exT];rw[zoa g];dsimp only;rw[if_pos hl,show R.csl 1 [0] [some (D.int m),some (.ref l),none]=[none,some (.int m)] from rfl,zmC (S:={U with lk:=[l]++U.lk}) ds none ht ha];rfl
theorem znP (g:U.get l=some (.lst ds))(ht:∀d∈ds,Ty U d)(hl:ds.length<=16777216)(hx:ds.find? (fun d=>!gh m d)=some x) :
  ∃e T,exT (callF prog (n+3)) lyC [some (.int m),some (.ref l),none] U=.err (.ref e) T/\XT U T e 1 "hand" x:=by
 obtain⟨e,T,h1,h2⟩:=zj9 (S:={U with lk:=[l]++U.lk}) ds none ht hx;refine⟨e,{T with lk:=U.lk},?_,h2.at_,h2.up,h2.fz,rfl,h2.len,h2.nw⟩;simp[exT];rw[zoa g];dsimp only;rw[if_pos hl,show R.csl 1 [0] [some (D.int m),some (.ref l),none]=[none,some (.int m)] from rfl,h1]
theorem zf1 {ds:List D}(h:ds.find? (fun d=>!gh m d)=none):ds.all (gh m)=true:=by
 rw[List.find?_eq_none] at h;rw[all_eq_true];intro x hx;have:=h x hx;simpa using this
theorem zib (x:Int):∀l:List Int,(insZ x l).length=l.length+1
 | []=>rfl
 | y::l=>by
   unfold insZ;split
   . rfl
   . rw[length_cons,zib x l,length_cons]
theorem zfs:∀l:List Int,(zcr l).length=l.length
 | []=>rfl
 |x::l=>by rw[zcr,zib,zfs l,length_cons]
theorem zjW (ns:List Int):(dedup ns).length<=ns.length:=by
 have h:∀(ns acc:List Int),(ns.foldl (fun acc x=>if acc.contains x then acc else acc++[x]) acc).length<=acc.length+ns.length:=by
  intro ns;induction ns with
  |nil=>intro acc;simp
  | cons x ns ih=>
    intro acc;rw[List.foldl_cons];apply le_trans (ih _);split
    all_goals first|(simp;done)|(simp;omega)
 have:=h ns [];unfold dedup;simpa using this
theorem zkG (g:S.get l=some (.lst ds))(ht:∀d∈ds,Ty S d)(hl:ds.length<64)(ha:ds.find? (fun d=>!gh m d)=none):∃d,appX (callF prog (n+4)) 7 [.int m,.ref l] S=.ok d S:=by
 have gE:S.enter.get l=some (.lst ds):=by rw[zau];exact g
 obtain⟨e,_⟩:=zdJ (zf1 ha);refine⟨.tup ((zcr (dedup (nums ds))).map .int),zgi rfl rfl ?_ ?_⟩
 . apply wS_W _;apply zcz;show W (match exT (callF prog (n+3)) lyC [some (.int m),some (.ref l),none] S.enter with|.ok δ' S1=>_|.err d S1=>_|.bad=>_) _;rw[zpj gE (fun d hd=>(ht d hd).mono (.enter S)) (by omega) (zf1 ha)];apply wS_W _;have hn:(nums ds).length=ds.length:=by
    have:=congrArg List.length e;rw[length_map] at this;exact this.symm
   have hz:((zcr (dedup (nums ds))).map D.int).length<64:=by
    rw[length_map,zfs];exact Nat.lt_of_le_of_lt (zjW _) (by omega)
   exists zlG (by rw[zaf,<-e]);change by omega
   change by omega
   exists zaf _ _;change by dsimp only;omega
   rfl
 . rw[za0,zaG];intro x hx;obtain⟨z,_,rfl⟩:=mem_map.mp hx;rfl
theorem zl4 (g:S.get l=some (.lst ds))(ht:∀d∈ds,Ty S d)(hl:ds.length<64)(hx:ds.find? (fun d=>!gh m d)=some x):∃e T,appX (callF prog (n+4)) 7 [.int m,.ref l] S=.err (.ref e) T/\XT S T e 1 "hand" x:=by
 have gE:S.enter.get l=some (.lst ds):=by rw[zau];exact g
 obtain⟨e,T,h1,h2⟩:=znP gE (fun d hd=>(ht d hd).mono (.enter S)) (by omega) hx;apply zd4 (e:=0) rfl rfl;apply wS_W _;apply zcz;show W (match exT (callF prog (n+3)) lyC [some (.int m),some (.ref l),none] S.enter with|.ok δ' S1=>_|.err d S1=>_|.bad=>_) _;rw[h1];exact⟨e,rfl,h2.at_,(Up.enter S).trans h2.up,h2.fz,le_trans (nw_e S) h2.nw⟩
noncomputable def za5 (m:Int):Nat->List D->Option Nat
 |_,[]=>none
 |k,d::ds=>if lieB m d=true then za5 m (k+1) ds else some k
noncomputable def zdh:CS:=.ifS (.nt (.tst (.call 9 0 (.cons (.loc 3) (.cons (.loc 0) .nil))))) (.rais 3 "NoLetter" "place" (.loc 2)) .nil .nil
noncomputable abbrev Ez (m:Int)(l:Nat)(a b:Option D):Ev:=[some (.int m),some (.ref l),a,b]
theorem zhW {k:Nat}(h:Tyl T d)(c:lieB m d=true):exS (callF prog (n+4)) zdh (Ez m l (some (.int k)) (some d)) T=.ok (.nx (Ez m l (some (.int k)) (some d))) T:=by
 refine W.eq (wS_W _ ?_);specialize znb h;rw[c];exact⟨rfl,rfl⟩
theorem znL {k:Nat}(h:Tyl T d)(c:lieB m d=false):exS (callF prog (n+4)) zdh (Ez m l (some (.int k)) (some d)) T=.ok (.ex (.ref T.len)) (T.push (.exc 3 [(("place":PySem.Str),.int k)])):=by
 refine W.eq (wS_W _ ?_);specialize znb h;rw[c];exact⟨rfl,rfl⟩
theorem zhV:∀(ds:List D) (k:Nat) (a b:Option D),(∀d∈ds,Tyl T d)->za5 m k ds=none->∃a' b',zbi [2,3] (exS (callF prog (n+4)) zdh) (en k ds) (Ez m l a b) T=.ok (.nx (Ez m l a' b')) T
 | [],_,a,b,_,_=>⟨a,b,rfl⟩
 | d::ds,k,a,b,ht,h=>by
   rw[za5] at h;split at h
   . rename_i c;obtain⟨a',b',e⟩:=zhV ds (k+1) (some (.int k)) (some d) (fun x hx=>ht x (by simp[hx])) h;refine⟨a',b',?_⟩;show Out.bind (exS (callF prog (n+4)) zdh (Ez m l (some (.int k)) (some d)) T) _=_;rw[zhW (ht d (by simp)) c,zao];exact e
   . cases h
theorem zhU:∀(ds:List D) (k:Nat) (a b:Option D),(∀d∈ds,Tyl T d)->za5 m k ds=some p->zbi [2,3] (exS (callF prog (n+4)) zdh) (en k ds) (Ez m l a b) T=.ok (.ex (.ref T.len)) (T.push (.exc 3 [(("place":PySem.Str),.int p)]))
 | [],_,a,b,_,h=>by cases h
 | d::ds,k,a,b,ht,h=>by
   rw[za5] at h;show Out.bind (exS (callF prog (n+4)) zdh (Ez m l (some (.int k)) (some d)) T) _=_;split at h
   . rename_i c;rw[zhW (ht d (by simp)) c,zao];exact zhU ds (k+1) (some (.int k)) (some d) (fun x hx=>ht x (by simp[hx])) h
   . rename_i c;cases h;rw[znL (ht d (by simp)) (by simpa using c),zao]
theorem zis (g:S.get l=some (.lst ds)):zcV S (.ref l)=some (en 0 ds,[l]):=by
 unfold zcV;dsimp only;rw[g,<-en_0]
theorem zjI (h:lieB m d=true)(N:Nat):R.flat N d=true:=by
 unfold lieB at h;split at h
 . rename_i t p z w;simp at h;obtain⟨⟨⟨⟨h1,h2⟩,h3⟩,_⟩,h5⟩:=h;obtain⟨ds,rfl,e,_⟩:=zhL h2;obtain⟨z,rfl,_⟩:=zfX h3;cases t<;>first|cases h1|skip
   have hp:R.flat N (.tup ds)=true:=by
    rw[e,za0,zaG];intro x hx;obtain⟨y,_,rfl⟩:=mem_map.mp hx;rfl
   have hw:R.flat N w=true:=by cases w<;>first|rfl|cases h5
   rw[za0,zaG];intro x hx;simp at hx;rcases hx with rfl|rfl|rfl|rfl
   . rfl
   . exact hp
   . rfl
   . exact hw
 . cases h
theorem zfy:∀{ds:List D} {k:Nat},za5 m k ds=none->∀d∈ds,lieB m d=true
 | [],_,_,d,hd=>nomatch hd
 | x::ds,k,h,d,hd=>by
   rw[za5] at h;split at h
   . rename_i c;rcases mem_cons.mp hd with rfl|hd
     . exact c
     . exact zfy h d hd
   . cases h
theorem zmi (g:S.get l=some (.lst ds))(ht:∀d∈ds,Tyl S d)(hl:ds.length<=1000)(ha:za5 m 0 ds=none):∃d,appX (callF prog (n+5)) 8 [.int m,.ref l] S=.ok d S:=by
 have gE:S.enter.get l=some (.lst ds):=by rw[zau];exact g
 refine⟨.tup ds,zgi rfl rfl ?_ ?_⟩
 . apply wS_W _;exists zis gE;apply zaY;obtain⟨a',b',e⟩:=zhV (T:={S.enter with lk:=[l]++S.enter.lk}) ds 0 none none (fun d hd=>(ht d hd).mono (.enter S)) ha;apply W.of e;exists gE;change show ds.length<=16777216 by omega
   rfl
 . rw[za0,zaG];exact fun x hx=>zjI (zfy ha x hx) _
theorem zof (g:S.get l=some (.lst ds))(ht:∀d∈ds,Tyl S d)(ha:za5 m 0 ds=some p):∃e T,appX (callF prog (n+5)) 8 [.int m,.ref l] S=.err (.ref e) T/\XT S T e 3 "place" (.int p):=by
 have gE:S.enter.get l=some (.lst ds):=by rw[zau];exact g
 apply zd4 (e:=0) rfl rfl;apply wS_W _;exists zis gE;apply zaY;apply W.of (zhU (T:={S.enter with lk:=[l]++S.enter.lk}) ds 0 none none (fun d hd=>(ht d hd).mono (.enter S)) ha);exact⟨S.enter.len,rfl,zaf S.enter _,zdp S _,rfl,nw_e S⟩
structure Mv (A:List Nat) (S T:R.St):Prop where
 frz:T.frz=S.frz
 lk:T.lk=S.lk
 len:S.len<=T.len
 old:∀m o,m∉A->S.get m=some o->T.get m=some o
theorem Mv.refl (A:List Nat)(S:R.St):Mv A S S:=⟨rfl,rfl,le_refl _,fun _ _ _ h=>h⟩
theorem Mv.trans (a:Mv A S T)(b:Mv A T U):Mv A S U:=⟨b.frz.trans a.frz,b.lk.trans a.lk,le_trans a.len b.len,fun m o h e=>b.old m o h (a.old m o h e)⟩
structure Fr (S:R.St) (a:Nat):Prop where
 f:S.frz.length<=a
 k:S.lk.contains a=false
theorem Fr.mv (h:Fr S a)(v:Mv A S T):Fr T a:=⟨by rw[v.frz];exact h.f,by rw[v.lk];exact h.k⟩
theorem zmQ (e:S.get a=some (.ins c fs))(hf:Fr S a)(hl:fs.length<1000)(hg:zc7 f v fs=gs):∃T,zbd S (.ref a) f v=some T/\Mv [a] S T/\T.get a=some (.ins c gs):=by
 obtain⟨T,h1,h2,h3,h4,h5,h6⟩:=zcw (.ins c gs) hf.f hf.k;refine⟨T,?_,⟨h2,h3,by omega,fun m o hm e=>by rw[h5 m (by simpa using hm)];exact e⟩,h6 (za9 e)⟩;unfold zbd;dsimp only;rw[e];dsimp only;rw[if_pos hl,hg,h1]
theorem zb7 (h:S.get e=some (.exc c fs)):zbM S (.ref e)=some (c,fs):=by
 unfold zbM;dsimp only;rw[h]
theorem zbH:∀{fs:List (PySem.Str × D)} {k:Nat},fs.length<k->(zc7 f v fs).length<k+1
 | [],k,h=>by simp[zc7];simpa using h
 | x::r,k,h=>by
   unfold zc7;split
   . simp at h⊢;omega
   . simp at h⊢;have:=zbH (f:=f) (v:=v) (fs:=r) (k:=k - 1) (by omega);omega
noncomputable abbrev Ei (a:Nat)(dm db:D)(lh lz:Nat):Ev:=[some (.ref a),some dm,some db,some (.ref lh),some (.ref lz)]
theorem zi1 (e1:evEs cf es (Ei a dm db lh lz) S=.ok ds S)(e2:appX cf g ds S=.ok v S)(e:S.get a=some (.ins 0 fs))(hf:Fr S a)(hl:fs.length<1000) :
  ∃T,exT cf (.setF (.loc 0) f g es) (Ei a dm db lh lz) S=.ok (Ei a dm db lh lz) T/\Mv [a] S T/\T.get a=some (.ins 0 (zc7 f v fs)):=by
 obtain⟨T,h1,h2,h3⟩:=zmQ e hf hl rfl;refine⟨T,?_,h2,h3⟩;simp[exT,e1,e2];have:evE cf (.loc 0) (Ei a dm db lh lz) S=.ok (.ref a) S:=by simp[evE]
 rw[this];dsimp only;rw[h1]
theorem zfw (e1:evEs cf es (Ei a dm db lh lz) S=.ok ds S)(e2:appX cf g ds S=.err x T) :
  exT cf (.setF (.loc 0) f g es) (Ei a dm db lh lz) S=.err x T:=by
 simp[exT,e1,e2]
theorem zgf (e:exT cf b δ S=.ok δ' T):exS cf (.blk b r) δ S=exS cf r δ' T:=by rw[exS,e]
theorem zd1 (e:exT cf b δ S=.err d T):exS cf (.blk b r) δ S=.ok (.ex d) T:=by rw[exS,e]
noncomputable def iv:D->Int|.int z=>z|_=>0
noncomputable def due (dm db:D)(hs zs:List D):Option (Nat × PySem.Str × D):=match cn 1 7 dm with
 |false=>some (0,"told",dm)
 | true=>match cn 0 5 db with
   |false=>some (0,"told",db)
   | true=>match hs.find? (fun d=>!gh (iv dm) d) with
     |some x=>some (1,"hand",x)
     | none=>match za5 (iv dm) 0 zs with
       |some p=>some (3,"place",.int p)
       |none=>none
structure XA (a:Nat) (S T:R.St) (e c:Nat) (f:PySem.Str) (d:D):Prop where
 at_:T.get e=some (.exc c [(f,d)])
 up:∀l o,l≠a->S.get l=some o->T.get l=some o
 fz:T.frz=S.frz
 lk:T.lk=S.lk
 len:S.len<=T.len
 nw:S.len<=e
theorem XA.of (v:Mv [a] S U)(x:XT U T e c f d):XA a S T e c f d:=
 ⟨x.at_,fun l o hl g=>x.up _ _ (v.old l o (by simpa using hl) g),x.fz.trans v.frz,x.lk.trans v.lk,le_trans v.len x.len,le_trans v.len x.nw⟩
structure In (S:R.St) (dm db:D) (lh lz:Nat) (hs zs:List D):Prop where
 m:Ty S dm
 b:Ty S db
 gh:S.get lh=some (.lst hs)
 gz:S.get lz=some (.lst zs)
 th:∀d∈hs,Ty S d
 tz:∀d∈zs,Tyl S d
 lh:hs.length<64
 lz:zs.length<=1000
noncomputable def i4:CS:=.blk (.setF (.loc 0) "lies" 8 (.cons (.loc 1) (.cons (.loc 4) .nil))) .nil
noncomputable def i3:CS:=.blk (.setF (.loc 0) "liars" 7 (.cons (.loc 1) (.cons (.loc 3) .nil))) i4
noncomputable def i2:CS:=.blk (.setF (.loc 0) "bound" 4 (.cons (.loc 2) (.cons (.con (D.int 0)) (.cons (.con (D.int 5)) .nil)))) i3
noncomputable def i1:CS:=.blk (.setF (.loc 0) "many" 4 (.cons (.loc 1) (.cons (.con (D.int 1)) (.cons (.con (D.int 7)) .nil)))) i2
theorem Tyl.mv (h:Tyl S d)(v:Mv [a] S T)(e:S.get a=some (.ins 0 fs)):Tyl T d:=by
 have k:∀x,Ty S x->Ty T x:=fun x hx=>by
  cases x with
  | ref l=>
    obtain⟨ds,g⟩:=hx;exact⟨ds,v.old l _ (fun z=>by rw[mem_singleton.mp z,e] at g;cases g) g⟩
  |_=>exact hx
 exact⟨k _ h.ty,fun ds q x hx=>k _ (h.sub ds q x hx),fun ds q rs hr y hy=>k _ (h.sub2 ds q rs hr y hy)⟩
theorem Ty.mv (h:Ty S d)(v:Mv [a] S T)(e:S.get a=some (.ins 0 fs)):Ty T d:=by
 cases d with
 | ref l=>
   obtain⟨ds,g⟩:=h;exact⟨ds,v.old l _ (fun z=>by rw[mem_singleton.mp z,e] at g;cases g) g⟩
 |_=>exact h
theorem In.mv {lh lz a:Nat}(h:In S dm db lh lz hs zs)(v:Mv [a] S T)(e:S.get a=some (.ins 0 fs)):In T dm db lh lz hs zs:=
 ⟨h.m.mv v e,h.b.mv v e,v.old _ _ (fun z=>by have:=h.gh;rw[mem_singleton.mp z,e] at this;cases this) h.gh,v.old _ _ (fun z=>by have:=h.gz;rw[mem_singleton.mp z,e] at this;cases this) h.gz,fun d hd=>(h.th d hd).mv v e,fun d hd=>(h.tz d hd).mv v e,h.lh,h.lz⟩
noncomputable def IQ (a:Nat)(S:R.St)(o:Option (Nat × PySem.Str × D))(r:Out Fl):Prop:=match o with
 |none=>∃δ T,r=.ok (.nx δ) T
 |some q=>∃e T,r=.ok (.ex (.ref e)) T/\XA a S T e q.1 q.2.1 q.2.2
theorem zoi (h:cn lo hi d=true):d=.int (iv d):=by cases d<;>first|rfl|cases h
theorem zfU (h:In S dm db lh lz hs zs)(e:S.get a=some (.ins 0 []))(hf:Fr S a):IQ a S (due dm db hs zs) (exS (callF prog (n+5)) i1 (Ei a dm db lh lz) S):=by
 unfold i1 due;have v1:evEs (callF prog (n+5)) (.cons (.loc 1) (.cons (.con (D.int 1)) (.cons (.con (D.int 7)) .nil))) (Ei a dm db lh lz) S=.ok [dm,.int 1,.int 7] S:=by simp[evEs,evE]
 cases c1:cn 1 7 dm with
 | false=>
   obtain⟨x,T,h1,h2⟩:=zit h.m c1;rw[zd1 (zfw v1 h1)];exact⟨x,T,rfl,.of (.refl _ _) h2⟩
 |true=>
 obtain⟨S1,h1,h2,h3⟩:=zi1 v1 (zg2 h.m c1) e hf (by simp);rw[zgf h1];have I1:=h.mv h2 e;have f1:=hf.mv h2;unfold i2;have v2:evEs (callF prog (n+5)) (.cons (.loc 2) (.cons (.con (D.int 0)) (.cons (.con (D.int 5)) .nil))) (Ei a dm db lh lz) S1=.ok [db,.int 0,.int 5] S1:=by simp[evEs,evE]
 cases c2:cn 0 5 db with
 | false=>
   obtain⟨x,T,g1,g2⟩:=zit I1.b c2;rw[zd1 (zfw v2 g1)];exact⟨x,T,rfl,.of h2 g2⟩
 |true=>
 obtain⟨S2,k1,k2,k3⟩:=zi1 v2 (zg2 I1.b c2) h3 f1 (by simp[zc7]);rw[zgf k1];have I2:=I1.mv k2 h3;have f2:=f1.mv k2;have w2:=h2.trans k2;unfold i3;obtain⟨m,em⟩:∃m,m=iv dm:=⟨_,rfl⟩;have ed:=zoi c1;rw[<-em] at ed⊢;have v3:evEs (callF prog (n+5)) (.cons (.loc 1) (.cons (.loc 3) .nil)) (Ei a dm db lh lz) S2=.ok [.int m,.ref lh] S2:=by rw[ed];simp[evEs,evE]
 cases c3:hs.find? (fun d=>!gh m d) with
 | some x=>
   obtain⟨y,T,g1,g2⟩:=zl4 I2.gh I2.th I2.lh c3;rw[zd1 (zfw v3 g1)];exact⟨y,T,rfl,.of w2 g2⟩
 |none=>
 obtain⟨d3,x3⟩:=zkG I2.gh I2.th I2.lh c3;obtain⟨S3,j1,j2,j3⟩:=zi1 v3 x3 k3 f2 (lt_of_lt_of_le (zbH (zbH (k:=1) (by simp))) (by decide));rw[zgf j1];have I3:=I2.mv j2 k3;have f3:=f2.mv j2;have w3:=w2.trans j2;unfold i4;have v4:evEs (callF prog (n+5)) (.cons (.loc 1) (.cons (.loc 4) .nil)) (Ei a dm db lh lz) S3=.ok [.int m,.ref lz] S3:=by rw[ed];simp[evEs,evE]
 cases c4:za5 m 0 zs with
 | some p=>
   obtain⟨y,T,g1,g2⟩:=zof I3.gz I3.tz c4;rw[zd1 (zfw v4 g1)];exact⟨y,T,rfl,.of w3 g2⟩
 |none=>
 obtain⟨d4,x4⟩:=zmi I3.gz I3.tz I3.lz c4;obtain⟨S4,l1,l2,l3⟩:=zi1 v4 x4 j3 f3 (lt_of_lt_of_le (zbH (zbH (zbH (k:=1) (by simp)))) (by decide));rw[zgf l1,exS];exact⟨_,S4,rfl⟩
theorem zge (h:P[f]?=some F)(hl:ds.length=F.np)(hp:F.prim=none):callF P (n+1) f ds S=(exS (callF P n) F.body (zap F ds) S).ne.bind fun r T=>match r with|.nx _=>.ok .non T|.rt d=>.ok d T|.ex d=>.err d T:=by
 simp[callF,h,hl,hp]<;>rfl
theorem zie (h:In S dm db lh lz hs zs)(e:S.get a=some (.ins 0 []))(hf:Fr S a)(hd:due dm db hs zs=none):∃T,callF prog (n+6) 24 [.ref a,dm,db,.ref lh,.ref lz] S=.ok .non T:=by
 have q:=zfU (n:=n) h e hf;rw[hd] at q;obtain⟨δ,T,q⟩:=q;refine⟨T,?_⟩;have:exS (callF prog (n+5)) c_Setting_init.body (zap c_Setting_init [.ref a,dm,db,.ref lh,.ref lz]) S=.ok (.nx δ) T:=q;rw[zge rfl rfl rfl,this];rfl
theorem zid (h:In S dm db lh lz hs zs)(e:S.get a=some (.ins 0 []))(hf:Fr S a)(hd:due dm db hs zs=some (c,f,d)):∃x T,callF prog (n+6) 24 [.ref a,dm,db,.ref lh,.ref lz] S=.err (.ref x) T/\XA a S T x c f d:=by
 have q:=zfU (n:=n) h e hf;rw[hd] at q;obtain⟨x,T,q,hx⟩:=q;refine⟨x,T,?_,hx⟩;have:exS (callF prog (n+5)) c_Setting_init.body (zap c_Setting_init [.ref a,dm,db,.ref lh,.ref lz]) S=.ok (.ex (.ref x)) T:=q;rw[zge rfl rfl rfl,this];rfl
theorem In.up {lh lz:Nat}(h:In S dm db lh lz hs zs)(u:Up S T):In T dm db lh lz hs zs:=
 ⟨h.m.mono u,h.b.mono u,u _ _ h.gh,u _ _ h.gz,fun d hd=>(h.th d hd).mono u,fun d hd=>(h.tz d hd).mono u,h.lh,h.lz⟩
noncomputable abbrev mkS:TrB:=.mk 0 24 "Setting" 0 (.cons (.loc 0) (.cons (.loc 1) (.cons (.loc 2) (.cons (.loc 3) .nil))))
noncomputable abbrev Ek (dm db:D)(lh lz:Nat):Ev:=[some dm,some db,some (.ref lh),some (.ref lz),some .non,none]
theorem ziD:evEs cf (.cons (.loc 0) (.cons (.loc 1) (.cons (.loc 2) (.cons (.loc 3) .nil)))) (Ek dm db lh lz) S=.ok [dm,db,.ref lh,.ref lz] S:=by simp[evEs,evE]
theorem zkv (S:R.St)(o:MO):Fr (S.enter.push o) S.enter.len:=⟨by
 show S.enter.frz.length<=_;unfold St.len;omega,rfl⟩
theorem zfB (h:In S dm db lh lz hs zs)(hd:due dm db hs zs=none):app (callF prog (n+7)) 17 [dm,db,.ref lh,.ref lz] S=.ok .non S:=by
 obtain⟨T,q⟩:=zie (h.up (zdp S (.ins 0 []))) (zaf S.enter _) (zkv S _) hd;refine W.eq (zgZ rfl rfl ?_);show W (exS (callF prog (n+6)) (.tryS mkS "RoundError" 5 4 (.ret (.loc 4) .nil)) (Ek dm db lh lz) S.enter) _;have et:exT (callF prog (n+6)) mkS (Ek dm db lh lz) S.enter=.ok (Ek dm db lh lz) T:=by
  simp only[exT];rw[ziD];dsimp only;unfold appW;rw[show ([dm,db,D.ref lh,D.ref lz]++List.replicate 0 D.non)=[dm,db,.ref lh,.ref lz] from rfl,q];rfl
 rw[exS,et];exact zac rfl ⟨rfl,rfl⟩
structure Ca (S T:R.St) (c:Nat) (f:PySem.Str) (d:D) (e:Nat):Prop where
 at_:T.get e=some (.exc c [(f,d)])
 up:Up S T
 len:S.len<=T.len
 fz:T.frz=S.frz
 lk:T.lk=S.lk
theorem zf5 (h:In S dm db lh lz hs zs)(hd:due dm db hs zs=some (c,f,d)):∃e T,app (callF prog (n+7)) 17 [dm,db,.ref lh,.ref lz] S=.ok (.ref e) T/\Ca S T c f d e:=by
 obtain⟨e,T,q,X⟩:=zid (h.up (zdp S (.ins 0 []))) (zaf S.enter _) (zkv S _) hd;have hT:T.frz=S.frz++S.new:=X.fz;have hn:¬e<S.len:=by
  have:=X.nw;rw[plen,R.enter_len] at this;omega
 refine⟨e,⟨S.frz,S.new++T.new,S.lk⟩,W.eq (zgZ rfl rfl ?_),by rw[zbp hT];exact X.at_,fun l o g=>?_,by unfold St.len;simp,rfl,rfl⟩
 . show W (exS (callF prog (n+6)) (.tryS mkS "RoundError" 5 4 (.ret (.loc 4) .nil)) (Ek dm db lh lz) S.enter) _;have et:exT (callF prog (n+6)) mkS (Ek dm db lh lz) S.enter=.err (.ref e) T:=by
    simp only[exT];rw[ziD];dsimp only;unfold appW;rw[show ([dm,db,D.ref lh,D.ref lz]++List.replicate 0 D.non)=[dm,db,.ref lh,.ref lz] from rfl,q]
   rw[exS,et];dsimp only;rw[zb7 X.at_];show wFin S (.rt (.ref e)) T _;unfold wFin;rw[zf2];unfold zaZ;have h0:R.flat S.len (.ref e)=false:=by simp[R.flat];omega
   simp[h0,X.at_]
   first|done|exact⟨trivial,trivial⟩|exact⟨rfl,rfl⟩
 . rw[zbp hT];refine X.up l o (fun z=>?_) (zdp S _ _ _ g);have:=za9 g;rw[z,R.enter_len] at this;omega
open PySem (PyData) in
theorem ze7 {f g:D->Option PyData}(h:∀x a,f x=some a->g x=some a):∀{xs:List D} {as:List PyData},xs.mapM f=some as->xs.mapM g=some as
 | [],as,e=>by simpa using e
 | x::xs,as,e=>by
   rw[mapM_cons] at e⊢;cases e1:f x with
   |none=>rw[e1] at e;cases e
   | some a=>
     rw[e1] at e;cases e2:xs.mapM f with
     |none=>rw[e2] at e;cases e
     |some bs=>rw[e2] at e;rw[h x a e1,ze7 h e2];exact e
open PySem (PyData) in
theorem zgA {S T:R.St}(u:Up S T):∀{n:Nat} {d:D} {a:PyData},pd S n d=some a->pd T n d=some a:=by
 intro n;induction n with
 | zero=>
   intro d a h;cases d<;>simp only[pd] at h⊢<;> first|exact h|cases h
 | succ n ih=>
   intro d a h;cases d with
   | tup ds=>
     simp only[pd] at h⊢;cases e:ds.mapM (pd S n) with
     |none=>rw[e] at h;cases h
     |some xs=>rw[e] at h;rw[ze7 (fun x a=>ih) e];exact h
   | ref l=>
     simp only[pd] at h⊢;split at h
     . rename_i ds g;rw[u _ _ g];cases e:ds.mapM (pd S n) with
       |none=>rw[e] at h;cases h
       |some xs=>rw[e] at h;simp only[ze7 (fun x a=>ih) e];exact h
     . cases h
   |_=>simp only[pd] at h⊢;first|exact h|cases h
theorem bbn (S:R.St)(a b:Bool):cmpD S .NotEq (.bl a) (.bl b)=some (a != b):=by cases a<;>cases b<;>rfl
theorem sm_t (hx:Ty S x)(hy:Ty S y):evT (callF prog n) (.or (.cmp .NotEq (.bi (.isin "bool") (.cons (.loc 0) .nil)) (.bi (.isin "bool") (.cons (.loc 1) .nil))) (.cmp .NotEq (.bi (.isin "int") (.cons (.loc 0) .nil)) (.bi (.isin "int") (.cons (.loc 1) .nil)))) (zap c_law_same [x,y]) S=.ok ((kB x != kB y) || (kI x != kI y)) S:=by
 have i0:evE (callF prog n) (.bi (.isin "int") (.cons (.loc 0) .nil)) (zap c_law_same [x,y]) S=_:=zio rfl hx;have i1:evE (callF prog n) (.bi (.isin "int") (.cons (.loc 1) .nil)) (zap c_law_same [x,y]) S=_:=zio rfl hy;have b0:evE (callF prog n) (.bi (.isin "bool") (.cons (.loc 0) .nil)) (zap c_law_same [x,y]) S=_:=zfc rfl hx;have b1:evE (callF prog n) (.bi (.isin "bool") (.cons (.loc 1) .nil)) (zap c_law_same [x,y]) S=_:=zfc rfl hy;rw[evT,evT,b0,zao,b1,zao,bbn,zaO,zao];cases (kB x != kB y) with
 |true=>rfl
 | false=>
   simp only[Bool.false_eq_true,if_false];rw[evT,i0,zao,i1,zao,bbn,zaO,Bool.false_or]
theorem zd9:c_law_same.body=.ifS (.or (.cmp .NotEq (.bi (.isin "bool") (.cons (.loc 0) .nil)) (.bi (.isin "bool") (.cons (.loc 1) .nil))) (.cmp .NotEq (.bi (.isin "int") (.cons (.loc 0) .nil)) (.bi (.isin "int") (.cons (.loc 1) .nil)))) (.ret (.con (D.bl false)) .nil) .nil (.ret (.cmp .Eq (.loc 0) (.loc 1)) .nil):=rfl
theorem zlc (hx:Ty S x)(hy:Ty S y)(c:((kB x != kB y) || (kI x != kI y))=true):app (callF prog (n+1)) 16 [x,y] S=.ok (.bl false) S:=by
 refine W.eq (zgZ rfl rfl ?_);rw[zd9,exS,sm_t (hx.mono (.enter S)) (hy.mono (.enter S)),c,zao];exact zac rfl ⟨rfl,rfl⟩
theorem zfz (hx:Ty S x)(hy:Ty S y)(c:((kB x != kB y) || (kI x != kI y))=false)(e:cmpD S.enter .Eq x y=some b):app (callF prog (n+1)) 16 [x,y] S=.ok (.bl b) S:=by
 refine W.eq (zgZ rfl rfl ?_);rw[zd9,exS,sm_t (hx.mono (.enter S)) (hy.mono (.enter S)),c,zao];have q:evE (callF prog n) (.cmp .Eq (.loc 0) (.loc 1)) (zap c_law_same [x,y]) S.enter=.ok (.bl b) S.enter:=by
  show Out.bind (lift S.enter (some x)) _=_;rw[zaO,zao];show Out.bind (lift S.enter (some y)) _=_;rw[zaO,zao,e,zaO,zao]
 show W (Out.bind (evE (callF prog n) (.cmp .Eq (.loc 0) (.loc 1)) (zap c_law_same [x,y]) S.enter) _) _;rw[q,zao];exact zac rfl ⟨rfl,rfl⟩
theorem zhn (h:Ty S d)(p:∃a,pd S 60 d=some a):app (callF prog (n+1)) 16 [d,d] S=.ok (.bl true) S:=by
 apply zfz h h (by cases kB d<;>cases kI d<;>rfl);rcases zgH d with ⟨z,rfl⟩|hz
 . simp[cmpD,cmpI]
 . rw[ziz,cmpO]
   . obtain⟨a,ea⟩:=p;have ea':=zgA (.enter S) ea;simp[eqD,ea',bind_some,Option.map_some,zhI ea']
   . rintro i j rfl _;cases hz
noncomputable def sI (b:Int):D->Bool|.int z=>decide (z=b)|_=>false
theorem zhm (h:Ty S d):app (callF prog (n+1)) 16 [d,.int b] S=.ok (.bl (sI b d)) S:=by
 rcases zgH d with ⟨z,rfl⟩|hz
 . refine zfz h trivial rfl ?_;simp[cmpD,cmpI,sI]
 . rw[zlc (y:=.int b) h trivial (by cases d<;>first|rfl|cases hz)];cases d<;>first|rfl|cases hz
theorem zme {a b:D}:R.atI [a,b] 0=some a:=rfl
theorem zmd {a b:D}:R.atI [a,b] 1=some b:=rfl
noncomputable def kd (c:Nat)(f:PySem.Str)(k:Int):Prop:=(c=0/\f="told"/\k=0)\/(c=1/\f="hand"/\k=1)\/(c=3/\f="place"/\k=2)
theorem zea (h:S.get e=some (.exc c [(f,d)]))(hk:kd c f k)(ht:Ty S d)(hp:∃a,pd S 60 d=some a):app (callF prog (n+2)) 18 [.ref e,.tup [.int k,d]] S=.ok (.bl true) S:=by
 have x:zbM S.enter (.ref e)=some (c,[(f,d)]):=zb7 (by rw[zau];exact h);have xp:∀o,zbM (S.enter.push o) (.ref e)=some (c,[(f,d)]):=fun o=>zb7 (zam (by rw[zau];exact h));have xq:∀o p,zbM ((S.enter.push o).push p) (.ref e)=some (c,[(f,d)]):=fun o p=>zb7 (zam (zam (by rw[zau];exact h)));have u2:∀o p,Up S ((S.enter.push o).push p):=fun o p=>(zdp S o).trans (.push _ _);obtain⟨pa,ep⟩:=hp;apply zcq rfl rfl;rcases hk with ⟨rfl,rfl,rfl⟩|⟨rfl,rfl,rfl⟩|⟨rfl,rfl,rfl⟩
 all_goals
  exists x;exists x;exists x;change show 3<=16777216 by decide
  exists xp _;exists xp _;exists xp _;change by decide
  apply zaY;change by decide
  change by decide
 . exists zb1 (zam (zaf _ _)) (zaf _ _) rfl;exists xq _ _
   repeat (refine wOpt_of zme ?_;conv=>whnf)
   first|refine wOpt_of (xq _ _) ?_|apply wOpt_of (by rw[xq];rfl)
   first|(refine wOpt_of rfl ?_;conv=>whnf)|skip
   first|(refine wOpt_of zmd ?_;conv=>whnf)|skip
   specialize zhn (ht.mono (u2 _ _)) ⟨pa,zgA (u2 _ _) ep⟩;exact zac rfl ⟨rfl,rfl⟩
 . exists zb1 (zam (zaf _ _)) (zaf _ _) rfl;exists xq _ _
   repeat (refine wOpt_of zme ?_;conv=>whnf)
   first|refine wOpt_of (xq _ _) ?_|apply wOpt_of (by rw[xq];rfl)
   first|(refine wOpt_of rfl ?_;conv=>whnf)|skip
   first|(refine wOpt_of zmd ?_;conv=>whnf)|skip
   specialize zhn (ht.mono (u2 _ _)) ⟨pa,zgA (u2 _ _) ep⟩;exact zac rfl ⟨rfl,rfl⟩
 . exists zb1 (zam (zaf _ _)) (zaf _ _) rfl;exists xq _ _
   repeat (refine wOpt_of zme ?_;conv=>whnf)
   first|refine wOpt_of (xq _ _) ?_|apply wOpt_of (by rw[xq];rfl)
   first|(refine wOpt_of rfl ?_;conv=>whnf)|skip
   first|(refine wOpt_of zmd ?_;conv=>whnf)|skip
   specialize zhn (ht.mono (u2 _ _)) ⟨pa,zgA (u2 _ _) ep⟩;exact zac rfl ⟨rfl,rfl⟩
structure Ly where
 t:Int
 p:List Int
 h:Int
 w:Option Int
noncomputable abbrev pD (p:List Int):D:=.tup (p.map .int)
noncomputable def lyD (x:Ly):D:=.tup [.int x.t,pD x.p,.int x.h,oD x.w]
structure LyOk (m:Int) (x:Ly):Prop where
 t1:1<=x.t
 t2:x.t<=30
 p1:1<=x.p.length
 p7:x.p.length<=7
 pi:∀i∈x.p,0<=i/\i<m
 pn:x.p.Nodup
 hi:0<=x.h/\x.h<m
 hp:x.h∉x.p
 wd:∀i,x.w=some i->-10 ^ 60<i/\i<10 ^ 60
theorem zi8 (n:Nat):((List.range (n:Int).toNat).map fun (k:Nat)=>D.int k)=(hnds n).map D.int:=by
 unfold hnds;rw[map_map];rfl
theorem zcl {k:Nat}:app (callF prog (n+1)) 11 [.fix (ns.map .int),.int k] S=.ok (.int (zcu ns k)) S:=by
 apply zcq rfl rfl;refine zbS (fun c=>?_) (fun c=>?_)
 . have c:k<ns.length:=by simpa using c
   exists zbh (x:=D.int ns[k]) (by simp);change by decide
   change by decide
   refine zac rfl ⟨?_,rfl⟩;unfold zcu;rw[List.getElem?_eq_getElem c];rfl
 . have c:¬k<ns.length:=by simpa using c
   refine zac rfl ⟨?_,rfl⟩;unfold zcu;rw[List.getElem?_eq_none (by omega)]
def Wb (o:Option Int):Prop:=∀i,o=some i->-10 ^ 60<i/\i<10 ^ 60
theorem zld:∃o,app (callF prog (n+1)) 12 [.int c] S=.ok (oD o) S/\Wb o:=by
 have key:W (app (callF prog (n+1)) 12 [.int c] S) fun d T=>T=S/\∃o,d=oD o/\Wb o:=by
  apply zfl rfl rfl
  repeat (first|(refine wNeed_of (by first|decide|omega|(simp;done)|(simp;omega)) ?_;conv=>whnf)|(refine zbb rfl ?_;conv=>whnf)|(refine wPut_new rfl ?_;conv=>whnf)|(refine wGet_old (by assumption) ?_;conv=>whnf))
  refine zbS (fun c1=>?_) (fun c1=>?_)
  . left;exact zac rfl ⟨rfl,none,rfl,fun i h=>by cases h⟩
  . left
    repeat (first|(refine wNeed_of (by first|decide|omega|(simp;done)|(simp;omega)) ?_;conv=>whnf)|(refine zbb rfl ?_;conv=>whnf)|(refine wPut_new rfl ?_;conv=>whnf)|(refine wGet_old (by assumption) ?_;conv=>whnf))
    refine zbS (fun c2=>?_) (fun c2=>?_)
    . left
      repeat (first|(refine wNeed_of (by first|decide|omega|(simp;done)|(simp;omega)) ?_;conv=>whnf)|(refine zbb rfl ?_;conv=>whnf)|(refine wPut_new rfl ?_;conv=>whnf)|(refine wGet_old (by assumption) ?_;conv=>whnf))
      refine zac rfl ⟨rfl,some _,rfl,fun i h=>?_⟩;cases h;rw[show Int.toNat 50=50 from rfl];omega
    . left
      repeat (first|(refine wNeed_of (by first|decide|omega|(simp;done)|(simp;omega)) ?_;conv=>whnf)|(refine zbb rfl ?_;conv=>whnf)|(refine wPut_new rfl ?_;conv=>whnf)|(refine wGet_old (by assumption) ?_;conv=>whnf))
      refine zbS (fun c3=>?_) (fun c3=>?_)
      . left
        repeat (first|(refine wNeed_of (by first|decide|omega|(simp;done)|(simp;omega)) ?_;conv=>whnf)|(refine zbb rfl ?_;conv=>whnf)|(refine wPut_new rfl ?_;conv=>whnf)|(refine wGet_old (by assumption) ?_;conv=>whnf))
        have hx:c / 6 % 2=0\/c / 6 % 2=1:=by omega
        rcases hx with e|e
        . rw[e];exists rfl;change by simp[zdL]
          refine zac rfl ⟨rfl,some _,rfl,fun i h=>?_⟩;cases h;rw[show Int.toNat 60=60 from rfl];omega
        . rw[e];exists rfl;change by simp[zdL]
          refine zac rfl ⟨rfl,some _,rfl,fun i h=>?_⟩;cases h;rw[show Int.toNat 60=60 from rfl];omega
      . left
        repeat (first|(refine wNeed_of (by first|decide|omega|(simp;done)|(simp;omega)) ?_;conv=>whnf)|(refine zbb rfl ?_;conv=>whnf)|(refine wPut_new rfl ?_;conv=>whnf)|(refine wGet_old (by assumption) ?_;conv=>whnf))
        refine zac rfl ⟨rfl,some _,rfl,fun i h=>?_⟩;cases h;omega
 obtain⟨d,T,e,rfl,o,rfl,hw⟩:=W.iff.mp key;exact⟨o,e,hw⟩
theorem zi7:∃v:Int,app (callF prog (n+1)) 13 [.int c,.bl d] S=.ok (.int v) S/\0<=v:=by
 have key:W (app (callF prog (n+1)) 13 [.int c,.bl d] S) fun d T=>T=S/\∃v:Int,d=.int v/\0<=v:=by
  apply zfl rfl rfl
  repeat (first|(refine wNeed_of (by first|decide|omega|(simp;done)|(simp;omega)) ?_;conv=>whnf)|(refine zbb rfl ?_;conv=>whnf)|(refine wPut_new rfl ?_;conv=>whnf)|(refine wGet_old (by assumption) ?_;conv=>whnf))
  cases d with
  | true=>
    refine zac rfl ⟨rfl,_,rfl,?_⟩;exact emod_nonneg _ (by decide)
  | false=>
    change by simp[zdL]
    change by first|decide|omega|(simp;done)|(simp;omega)
    have v0:=emod_nonneg (c % 10 ^ Int.toNat 64 * 48271) (b:=2147483647) (by decide);have v1:=Int.emod_lt_of_pos (c % 10 ^ Int.toNat 64 * 48271) (b:=2147483647) (by decide);generalize c % 10 ^ Int.toNat 64 * 48271 % 2147483647=v at *;have mk:∀u:Int,zdL u v=true:=fun u=>by
     unfold zdL;rw[or_eq_true];right;rw[decide_eq_true_eq];omega
    change mk _;change mk _;change mk _;refine zac rfl ⟨rfl,_,rfl,?_⟩;have h1:=Int.mul_nonneg v0 v0;have h2:=Int.mul_nonneg h1 v0;omega
 obtain⟨d,T,e,rfl,v,rfl,hv⟩:=W.iff.mp key;exact⟨v,e,hv⟩
theorem zlY (n:Nat)(x:Ly):R.flat n (lyD x)=true:=by
 unfold lyD pD;cases x.w<;>simp[oD]
theorem zf8 (xs:List α)(k:Nat):cut xs none (some (k:Int))=xs.take k:=by
 unfold cut;have h1:sIx xs.length xs.length (some (k:Int))=min k xs.length:=by
  unfold sIx;dsimp only;rw[if_neg (by omega)];simp
 have h0:sIx xs.length 0 none=0:=rfl;rw[h1,h0,List.drop_zero,Nat.sub_zero];by_cases c:k<=xs.length
 . rw[Nat.min_eq_left c]
 . rw[Nat.min_eq_right (by omega),List.take_of_length_le (le_refl _),List.take_of_length_le (by omega)]
structure Pk (m:Nat) (os ls:List Int):Prop where
 on:os.Nodup
 ln:ls.Nodup
 oi:∀y∈os,0<=y/\y<m
 li:∀y∈ls,(0<=y/\y<m)/\y∉os
 sz:os.length+ls.length=m
theorem pk_0 (m:Nat):Pk m [] (hnds m):=⟨List.nodup_nil,zgL m,fun y h=>(by cases h),fun y h=>⟨hnds_mem.mp h,by simp⟩,by simp[hnds]⟩
theorem zlu (h:Pk m os ls)(hx:x∈ls):Pk m (os++[x]) (ls.filter fun y=>!decide (y∈os++[x])):=by
 have e:ls.filter (fun y=>!decide (y∈os++[x]))=ls.erase x:=by
  rw[h.ln.erase_eq_filter];refine List.filter_congr fun y hy=>?_;have:=(h.li y hy).2;by_cases c:y=x
  . subst c;simp
  . simp[this,c]
 refine⟨?_,?_,fun y hy=>?_,fun y hy=>?_,?_⟩
 . refine nodup_append.mpr ⟨h.on,by simp,fun a ha b hb e'=>?_⟩;simp at hb;subst hb;subst e';exact (h.li _ hx).2 ha
 . exact h.ln.filter _
 . rcases mem_append.mp hy with z|z
   . exact h.oi y z
   . simp at z;subst z;exact (h.li _ hx).1
 . have:=List.mem_filter.mp hy;exact⟨(h.li y this.1).1,by simpa using this.2⟩
 . have hp:0<ls.length:=List.length_pos_of_mem hx;have:=h.sz;rw[e,List.length_erase_of_mem hx,length_append];simp;omega
theorem zlZ (ls os:List Int):((ls.map D.int).filter (fun d=>match d with|.int y=>!decide (y∈os)|_=>false)).map (fun d=>d)=(ls.filter fun y=>!decide (y∈os)).map D.int:=by
 rw[List.map_id',List.filter_map];rfl
theorem zna {m:Nat}(m2:2<=m)(m7:m<=7)(c0:0<=c):∃x,app (callF prog (n+2)) 14 [.int c,.int m] S=.ok (lyD x) S/\LyOk m x:=by
 have key:W (app (callF prog (n+2)) 14 [.int c,.int m] S) fun d T=>T=S/\∃x,d=lyD x/\LyOk m x:=by
  apply zfl rfl rfl;left;change by omega
  left;change by simp;omega
  left;change by first|decide|omega|(simp;done)|(simp;omega)
  left;change by omega
  left;apply zaY;have e0:((List.range (m:Int).toNat).map fun (k:Nat)=>D.int k)=(hnds m).map D.int:=zi8 m;refine W.mono (zca (fun i δ T=>∃(c':Int) (lf od:Nat) (u:Option D) (os ls:List Int),δ=[some (.int c'),some (.int m),some (.ref lf),some (.ref od),u,none]/\0<=c'/\lf≠od/\T.lk=[]/\T.frz.length<=od/\T.get lf=some (.lst (ls.map .int))/\T.get od=some (.lst (os.map .int))/\Pk m os ls/\os.length=i) (fun _ _=>False) _ 0 _ _ ⟨c,_,_,none,[],hnds m,rfl,c0,?_,rfl,?_,?_,?_,pk_0 m,rfl⟩ ?_) ?_
  . rw[plen];omega
  . show S.enter.frz.length<=_;rw[plen];unfold St.len;omega
  . rw[<-e0];exact zam (zaf _ _)
  . exact zaf _ _
  . rintro i z δ T hz ⟨c',lf,od,u,os,ls,rfl,hc,hne,hlk,hfr,g1,g2,pk,ho⟩;have hi:os.length<m:=by
     have:=(List.getElem?_eq_some_iff.mp hz).1;simp at this;omega
    have hls:0<ls.length:=by have:=pk.sz;omega
    have hls7:ls.length<=7:=by have:=pk.sz;omega
    refine⟨[some (.int c'),some (.int m),some (.ref lf),some (.ref od),some z,none],rfl,?_⟩;apply wS_W _;have q0:=emod_nonneg c' (b:=((ls.map D.int).length:Int)) (by rw[length_map];omega);have q1:=Int.emod_lt_of_pos c' (b:=((ls.map D.int).length:Int)) (by rw[length_map];omega);obtain⟨k,hk⟩:∃k:Nat,c' % ((ls.map D.int).length:Int)=k:=⟨_,(Int.toNat_of_nonneg q0).symm⟩;have hk':k<ls.length:=by rw[hk] at q1;simpa using q1
    obtain⟨U,u1,u2,u3,u4,u5,u6⟩:=zcw (.lst ((os++[ls[k]]).map .int)) hfr (by rw[hlk];rfl);have ua:os.map D.int++[D.int ls[k]]=(os++[ls[k]]).map .int:=by simp
    have k1:U.get lf=some (.lst (ls.map .int)):=by rw[u5 lf hne];exact g1
    have k2:U.get od=some (.lst ((os++[ls[k]]).map .int)):=u6 (za9 g2);have k2':∀lk,({U with lk:=lk}:R.St).get od=some (.lst ((os++[ls[k]]).map .int)):=fun _=>k2;have pk':=zlu pk (List.getElem_mem hk');left;exists g2;left;exists g1;left;change by simp;omega
    left;rw[hk];exists g1;left;exists zbh (x:=D.int ls[k]) (by simp);left;exists g2;left;change by simp;omega
    left;exists by rw[ua];exact u1
    left;exists k1;left;change by simp;omega
    left;exists k1;left;apply zaY;refine W.of (zbT (fun d=>match d with|.int y=>!decide (y∈os++[ls[k]])|_=>false) (fun d=>d) _ none (fun z hz=>?_) (fun z hz _=>rfl)) ?_
    . obtain⟨y,_,rfl⟩:=mem_map.mp hz;refine W.eq (wT_W _ ?_);left;exists zhO (k2' _) y;left;exact⟨rfl,rfl⟩
    . rw[zlZ];have hl2:=List.length_filter_le (fun y=>!decide (y∈os++[ls[k]])) ls;change by rw[length_map];omega
      left;change by rw[length_map];omega
      left;have hd:0<=c' / ((ls.map D.int).length:Int):=Int.ediv_nonneg hc (Int.natCast_nonneg _);refine⟨_,_,od,_,_,_,rfl,hd,?_,?_,?_,zaf _ _,zam k2,pk',?_⟩
      . have:=za9 k2;intro e;rw[<-e] at this;exact lt_irrefl _ this
      . show U.lk=[];rw[u3,hlk]
      . show U.frz.length<=od;rw[u2];exact hfr
      . rw[length_append,ho];rfl
  . rintro f T h;cases f with
    |rt d=>exact h.elim
    |ex d=>exact h.elim
    | nx δ=>
      obtain⟨c',lf,od,u,os,ls,rfl,hc,hne,hlk,hfr,g1,g2,pk,hi⟩:=h;have hi:os.length=m:=by simpa using hi
      have r0:=emod_nonneg c' (b:=(m:Int) - 1) (by omega);have r1:=Int.emod_lt_of_pos c' (b:=(m:Int) - 1) (by omega);left;change by omega
      left;change by omega
      left;obtain⟨k,hk⟩:∃k:Nat,1+c' % ((m:Int) - 1)=k:=⟨(1+c' % ((m:Int) - 1)).toNat,by omega⟩;have km:k<os.length:=by omega
      rw[hk];have d0:0<=c' / ((m:Int) - 1):=Int.ediv_nonneg hc (by omega);generalize c' / ((m:Int) - 1)=e at d0⊢;change by first|decide|omega|(simp;done)|(simp;omega)
      left;have g2':∀lk,({T with lk:=lk}:R.St).get od=some (.lst (os.map .int)):=fun _=>g2;exists g2' _;left;rw[zfg,zf8];have tl:(os.take k).length=k:=by rw[length_take];omega
      change by rw[length_map];omega
      left;exists zaf _ _;left;change by rw[length_map];omega
      left;exists zam (g2' _);left;exists zbh (x:=D.int os[k]) (by simp);left;change by first|decide|omega|(simp;done)|(simp;omega)
      left;generalize hS:St.push _ _=S1;obtain⟨o,ho,hw⟩:=zld;specialize ho;left;change by first|decide|omega|(simp;done)|(simp;omega)
      left;have ht:∀y∈os.take k,y∈os:=fun y hy=>List.mem_of_mem_take hy;refine zac (zlY _ ⟨1+e % 30,os.take k,os[k],o⟩) ⟨rfl,⟨1+e % 30,os.take k,os[k],o⟩,rfl,⟨?_,?_,?_,?_,?_,?_,?_,?_,hw⟩⟩
      . show 1<=1+e % 30;omega
      . show 1+e % 30<=30;omega
      . show 1<=(os.take k).length;omega
      . show (os.take k).length<=7;omega
      . exact fun y hy=>pk.oi y (ht y hy)
      . exact pk.on.sublist (List.take_sublist k os)
      . exact pk.oi _ (List.getElem_mem km)
      . show os[k]∉os.take k;intro hm;obtain⟨j,hj,e⟩:=List.getElem_of_mem hm;rw[List.getElem_take] at e;have:=(List.getElem_inj pk.on).mp e;omega
 obtain⟨d,T,e,rfl,x,rfl,hx⟩:=W.iff.mp key;exact⟨x,e,hx⟩
inductive Pl:D->Prop
 |int (i:Int):Pl (.int i)
 |ly (x:Ly):Pl (lyD x)
theorem zf7 (h:ns.Nodup):dedup ns=ns:=by
 suffices ∀(l acc:List Int),(acc++l).Nodup->l.foldl (fun acc x=>if acc.contains x then acc else acc++[x]) acc=acc++l from this ns [] h
 intro l;induction l with
 |nil=>intro acc _;simp
 | cons x l ih=>
   intro acc h;rw[List.foldl_cons];have hx:acc.contains x=false:=by
    have:=(nodup_append.mp h).2.2;simp;exact fun hm=>this x hm x mem_cons_self rfl
   rw[hx];simp only[Bool.false_eq_true,if_false];rw[ih (acc++[x]) (by simpa using h)];simp
theorem zbz:∀p:List Int,nums (p.map D.int)=p
 | []=>rfl
 |z::p=>by rw[map_cons,nums,zbz p]
theorem zfY (h:0<=z/\z<m):gh m (.int z)=true:=by simp[gh,h.1,h.2]
theorem zjB (p1:1<=p.length)(p7:p.length<=7)(pi:∀i∈p,0<=i/\i<m)(pn:p.Nodup):paB m (pD p)=true:=by
 unfold paB pD;have ha:(p.map D.int).all (gh m)=true:=by
  rw[all_eq_true];intro x hx;obtain⟨z,hz,rfl⟩:=mem_map.mp hx;exact zfY (pi z hz)
 dsimp only;rw[ha,zbz,zf7 pn,length_map];simp[p1,p7]
theorem zml (h:∀i,o=some i->-10 ^ 60<i/\i<10 ^ 60):wdB (oD o)=true:=by
 cases o with
 |none=>rfl
 | some i=>
   have:=h i rfl;simp only[oD,wdB,gw];rw[decide_eq_true this.1,decide_eq_true this.2];rfl
theorem zdQ (h:LyOk m x):lieB m (lyD x)=true:=by
 unfold lieB lyD;dsimp only;have h1:=h.t1;have h2:=h.t2;rw[zjB h.p1 h.p7 h.pi h.pn,zfY h.hi,zml h.wd];simp[gt,h1,h2,inP,zbz,h.hp]
theorem zmu (S:R.St)(o:Option Int):Ty S (oD o):=by cases o<;>trivial
theorem zg8 (S:R.St)(x:Ly):Tyl S (lyD x):=by
 refine⟨trivial,fun ds e y hy=>?_,fun ds e rs hr y hy=>?_⟩
 . cases e;simp at hy;rcases hy with rfl|rfl|rfl|rfl<;>first|trivial|exact zmu S _
 . cases e;simp only[mem_cons,not_mem_nil,or_false] at hr;rcases hr with hr|hr|hr|hr
   . cases hr
   . cases hr;obtain⟨z,_,rfl⟩:=mem_map.mp hy;trivial
   . cases hr
   . cases hx:x.w<;>(rw[hx] at hr;cases hr)
noncomputable def Sc (d:D):Prop:=d=.non\/(∃b,d=.bl b)\/(∃z,d=.int z)\/d=.str "0"\/d=.str "1"
theorem Sc.ty (h:Sc d):Ty S d:=by rcases h with rfl|⟨b,rfl⟩|⟨z,rfl⟩|rfl|rfl<;>trivial
theorem Sc.flat (h:Sc d):R.flat N d=true:=by rcases h with rfl|⟨b,rfl⟩|⟨z,rfl⟩|rfl|rfl<;>rfl
theorem Sc.pd (h:Sc d)(n:Nat):∃a,pd S n d=some a:=by
 rcases h with rfl|⟨b,rfl⟩|⟨z,rfl⟩|rfl|rfl<;>cases n<;>first|exact⟨_,rfl⟩|exact⟨_,if_pos (by decide +kernel)⟩
theorem zcf (x:Int){k:Nat}(hk:0<k):∃j:Nat,x % (k:Int)=j/\j<k:=⟨(x % (k:Int)).toNat,by have:=emod_nonneg x (show (k:Int)≠0 by omega);omega,by have:=emod_nonneg x (show (k:Int)≠0 by omega);have:=Int.emod_lt_of_pos x (show (0:Int)<k by omega);omega⟩
theorem zfA {sh:Nat}(h0:0<sh)(h1:sh<1000):∃d,app (callF prog (n+1)) 22 [.int c,.int g,.int sh,.int lo,.int hi] S=.ok d S/\Sc d/\(d=.int g\/cn lo hi d=false):=by
 have key:W (app (callF prog (n+1)) 22 [.int c,.int g,.int sh,.int lo,.int hi] S) fun d T=>T=S/\Sc d/\(d=.int g\/cn lo hi d=false):=by
  apply zfl rfl rfl;change show 6<=16777216 by decide
  change by omega
  refine zbS (fun c1=>?_) (fun c1=>?_)
  . left;change by omega
    change by decide
    obtain⟨j,ej,hj⟩:=zcf (c / sh) (k:=6) (by decide);have ej':c / (sh:Int) % 6=j:=ej;rw[ej'];exists zaf _ _;have hj:j=0\/j=1\/j=2\/j=3\/j=4\/j=5:=by omega
    rcases hj with rfl|rfl|rfl|rfl|rfl|rfl
    all_goals exists rfl
    . exact zac rfl ⟨rfl,.inr (.inr (.inl ⟨_,rfl⟩)),.inr (by simp[cn];omega)⟩
    . exact zac rfl ⟨rfl,.inr (.inr (.inl ⟨_,rfl⟩)),.inr (by simp[cn];omega)⟩
    . exact zac rfl ⟨rfl,.inr (.inl ⟨_,rfl⟩),.inr rfl⟩
    . exact zac rfl ⟨rfl,.inr (.inl ⟨_,rfl⟩),.inr rfl⟩
    . exact zac rfl ⟨rfl,.inl rfl,.inr rfl⟩
    . exact zac rfl ⟨rfl,.inr (.inr (.inr (.inr rfl))),.inr rfl⟩
  . left;exact zac rfl ⟨rfl,.inr (.inr (.inl ⟨_,rfl⟩)),.inl rfl⟩
 obtain⟨d,T,e,rfl,h⟩:=W.iff.mp key;exact⟨d,e,h⟩
theorem zbm (h:R.flat S.len (.tup ds)=false)(q:Q (.tup ds) ⟨S.frz,S.new++T.new,S.lk⟩):wFin S (.rt (.tup ds)) T Q:=by
 unfold wFin;rw[zf2];unfold zaZ;rw[h];exact q
noncomputable def od (m:Int)(L:Nat):List D:=[.int m,.int (0 - 1),.int (m+7),.non,.bl true,.bl false,.str "0",.tup [.int 0],.ref L]
structure Od (m:Int) (T:R.St) (x:D):Prop where
 bad:gh m x=false
 ty:Ty T x
 pd:∃a,pd T 60 x=some a
theorem Od.mono (h:Od m S x)(u:Up S T):Od m T x:=⟨h.bad,h.ty.mono u,let ⟨a,e⟩:=h.pd;⟨a,zgA u e⟩⟩
theorem zjD (m0:0<m)(g:T.get L=some (.lst [])):∀x∈od m L,Od m T x:=by
 intro x hx;simp[od,mem_cons,not_mem_nil,or_false] at hx;rcases hx with rfl|rfl|rfl|rfl|rfl|rfl|rfl|rfl|rfl
 . exact⟨by simp[gh],trivial,_,rfl⟩
 . exact⟨by simp[gh],trivial,_,rfl⟩
 . exact⟨by simp[gh];omega,trivial,_,rfl⟩
 . exact⟨rfl,trivial,_,rfl⟩
 . exact⟨rfl,trivial,_,rfl⟩
 . exact⟨rfl,trivial,_,rfl⟩
 . exact⟨rfl,trivial,_,if_pos (by decide +kernel)⟩
 . exact⟨rfl,trivial,_,rfl⟩
 . refine⟨rfl,⟨_,g⟩,.list [],?_⟩;rw[R.pd];simp only[g];rfl
structure BH (S T:R.St) (m:Int) (hs:List Int) (l:Nat) (f:D) (xs:List D):Prop where
 up:Up S T
 len:S.len<=T.len
 fz:T.frz=S.frz
 lk:T.lk=S.lk
 at_:T.get l=some (.lst xs)
 nw:S.len<=l
 ty:∀x∈xs,Ty T x
 ln:xs.length<=hs.length+2
 res:(f=.non/\xs=hs.map .int)\/∃x,f=.tup [.int 1,x]/\xs.find? (fun d=>!gh m d)=some x/\Od m T x
theorem zil (ha:∀a∈as,gh m a=true)(hx:gh m x=false):(as++x::bs).find? (fun d=>!gh m d)=some x:=by grind
noncomputable abbrev Eb (ns:List Int)(lh:Nat)(m:Int)(a:Nat)(c:Int)(l:Nat)(f:D)(o:Option D):Ev:=[some (.fix (ns.map .int)),some (.ref lh),some (.int m),some (.ref a),some (.int c),some (.ref l),some f,o]
noncomputable def bh3:CS:=.ret (.tup (.cons (.loc 5) (.cons (.loc 6) .nil))) .nil
noncomputable def bh2:CS:=.ifS (.cmp .Eq (.bin .Mod (.bin .FloorDiv (.loc 4) (.con (D.int 2700))) (.con (D.int 2))) (.con (D.int 1))) (.expr (.mt .append (.loc 5) (.cons (.ix (.loc 3) (.bin .Mod (.bin .FloorDiv (.loc 4) (.con (D.int 5400))) (.con (D.int 9)))) .nil)) .nil) .nil .nil
noncomputable def bh1:CS:=.ifS (.cmp .Eq (.bin .Mod (.loc 4) (.con (D.int 3))) (.con (D.int 0))) (.asg 7 (.bin .Mod (.bin .FloorDiv (.loc 4) (.con (D.int 3))) (.bin .Add (.bi .len (.cons (.loc 5) .nil)) (.con (D.int 1)))) (.expr (.insL (.loc 5) (.loc 7) (.ix (.loc 3) (.bin .Mod (.bin .FloorDiv (.loc 4) (.con (D.int 300))) (.con (D.int 9))))) (.asg 6 (.tup (.cons (.con (D.int 1)) (.cons (.ix (.loc 3) (.bin .Mod (.bin .FloorDiv (.loc 4) (.con (D.int 300))) (.con (D.int 9)))) .nil)))
 bh2))) .nil bh3
structure Bi (S T:R.St) (m:Int) (a l L:Nat) (xs:List D):Prop where
 up:Up S T
 fz:T.frz=S.frz++S.new
 lk:T.lk=[]
 ga:T.get a=some (.lst (od m L))
 gl:T.get l=some (.lst xs)
 gL:T.get L=some (.lst [])
 nl:S.len<=l
 ne:a≠l
 ne2:L≠l
theorem Bi.put (B:Bi S T m a l L xs)(ys:List D):∃U,T.put l (.lst ys)=some U/\Bi S U m a l L ys:=by
 obtain⟨U,e1,e2,e3,e4,e5,e6⟩:=zcw (.lst ys) (by rw[B.fz,length_append];have:=B.nl;unfold St.len at this;exact this) (by rw[B.lk];rfl);refine⟨U,e1,fun i o g=>?_,e2.trans B.fz,e3.trans B.lk,by rw[e5 a B.ne];exact B.ga,e6 (za9 B.gl),by rw[e5 L B.ne2];exact B.gL,B.nl,B.ne,B.ne2⟩;rw[e5 i (by have:=za9 g;have:=B.nl;omega)];exact B.up i o g
theorem Bi.fin (B:Bi S T m a l L xs)(ty:∀x∈xs,Ty T x)(ln:xs.length<=hs.length+2)(res:(f=.non/\xs=hs.map .int)\/∃x,f=.tup [.int 1,x]/\xs.find? (fun d=>!gh m d)=some x/\Od m T x) :
  BH S ⟨S.frz,S.new++T.new,S.lk⟩ m hs l f xs:=by
 have k:∀i,(R.St.mk S.frz (S.new++T.new) S.lk).get i=T.get i:=fun i=>zbp B.fz;have u:Up T ⟨S.frz,S.new++T.new,S.lk⟩:=fun i o g=>by rw[k];exact g
 refine⟨B.up.trans u,by unfold St.len;simp,rfl,rfl,u _ _ B.gl,B.nl,fun x hx=>(ty x hx).mono u,ln,?_⟩;rcases res with h|⟨x,h1,h2,h3⟩
 . exact .inl h
 . exact .inr ⟨x,h1,h2,h3.mono u⟩
theorem znI (m:Int)(L:Nat)(c:Int):∃x,R.atI (od m L) (c % 9)=some x/\x∈od m L:=by
 obtain⟨j,ej,hj⟩:=zcf c (k:=9) (by decide);have ej':c % 9=(j:Int):=ej;have hj':j<(od m L).length:=hj;exact⟨(od m L)[j],by rw[ej'];exact zbh (List.getElem?_eq_getElem hj'),List.getElem_mem hj'⟩
theorem zch (h:N<=l):R.flat N (.tup [.ref l,f])=false:=by
 rw[za0,zgM];have:R.flat N (.ref l)=false:=by simp[R.flat];omega
 rw[this];rfl
theorem zle {ns hs:List Int}(m0:0<m)(g:S.get lh=some (.lst (hs.map .int)))(hi:∀i∈hs,0<=i/\i<m)(hl:hs.length<=60) :
  W (app (callF prog (n+2)) 19 [.fix (ns.map .int),.ref lh,.int m] S) fun d T=>∃l f xs,d=.tup [.ref l,f]/\BH S T m hs l f xs:=by
 apply zfl rfl rfl;change by decide
 change by decide
 change show 9<=16777216 by decide
 specialize zcl;exists zam (zam (by rw[zau];exact g));change by rw[length_map];omega
 generalize zcu ns 4=c;have B0:Bi S (((S.enter.push (.lst [])).push (.lst (od m S.enter.len))).push (.lst (hs.map D.int))) m (S.enter.push (.lst [])).len ((S.enter.push (.lst [])).push (.lst (od m S.enter.len))).len S.enter.len (hs.map .int):=by
  refine⟨((zdp S _).trans (.push _ _)).trans (.push _ _),rfl,rfl,zam (zaf _ _),zaf _ _,zam (zam (zaf _ _)),?_,?_,?_⟩
  . rw[plen,plen,R.enter_len];omega
  . have:=plen (S.enter.push (.lst [])) (.lst (od m S.enter.len));omega
  . have:=plen (S.enter.push (.lst [])) (.lst (od m S.enter.len));have:=plen S.enter (.lst []);omega
 refine (show wS _ bh1 (Eb ns lh m (S.enter.push (.lst [])).len c ((S.enter.push (.lst [])).push (.lst (od m S.enter.len))).len .non none) (((S.enter.push (.lst [])).push (.lst (od m S.enter.len))).push (.lst (hs.map D.int))) _ from ?_);generalize (((S.enter.push (.lst [])).push (.lst (od m S.enter.len))).push (.lst (hs.map D.int)))=T at B0⊢;generalize ((S.enter.push (.lst [])).push (.lst (od m S.enter.len))).len=l at B0⊢;generalize S.enter.len=L at B0⊢;have tyh:∀(U:R.St),∀x∈hs.map D.int,Ty U x:=fun U x hx=>by obtain⟨z,_,rfl⟩:=mem_map.mp hx;trivial
 have ghh:∀x∈hs.map D.int,gh m x=true:=fun x hx=>by obtain⟨z,hz,rfl⟩:=mem_map.mp hx;exact zfY (hi z hz)
 change by decide
 refine zbS (fun c3=>?_) (fun c3=>?_)
 . left;change by decide
   exists B0.gl;change by rw[length_map];omega
   have hk:((hs.map D.int).length:Int)+1=((hs.length+1:Nat):Int):=by rw[length_map];omega
   rw[hk];obtain⟨p,ep,hp⟩:=zcf (c / 3) (k:=hs.length+1) (by omega);rw[ep];exists B0.gl;change by decide
   change by decide
   exists B0.ga;obtain⟨x,ex,mx⟩:=znI m L (c / 300);exists ex;obtain⟨U,eU,BU⟩:=B0.put ((hs.map D.int).take p++x::(hs.map D.int).drop p);have hlen:((hs.map D.int).take p++x::(hs.map D.int).drop p).length=hs.length+1:=by
    rw[length_append,length_cons,length_take,List.length_drop,length_map];omega
   have ei:zc8 T (.ref l) (.int (p:Nat)) x=.ok .non U:=by
    unfold zc8;dsimp only;rw[B0.gl];dsimp only;rw[if_pos ⟨by omega,by rw[length_map];omega⟩,show (p:Int).toNat=p by omega];unfold wr;rw[if_pos (by rw[hlen];omega),eU]
   specialize ei;change by decide
   change by decide
   exists BU.ga;exists ex;change show 2<=16777216 by decide
   have ox:=zjD m0 BU.gL x mx;have tyU:∀y∈(hs.map D.int).take p++x::(hs.map D.int).drop p,Ty U y:=fun y hy=>by
    rcases mem_append.mp hy with hy|hy
    . exact tyh U y (List.mem_of_mem_take hy)
    . rcases mem_cons.mp hy with rfl|hy
      . exact ox.ty
      . exact tyh U y (List.mem_of_mem_drop hy)
   change by decide
   change by decide
   refine zbS (fun c4=>?_) (fun c4=>?_)
   . left;exists BU.gl;change by decide
     change by decide
     exists BU.ga;obtain⟨y,ey,my⟩:=znI m L (c / 5400);exists ey;exists BU.gl;change by rw[length_append,hlen];simp;omega
     obtain⟨V,eV,BV⟩:=BU.put ((hs.map D.int).take p++x::(hs.map D.int).drop p++[y]);exists eV;change show 2<=16777216 by decide
     refine zbm (zch B0.nl) ⟨l,_,_,rfl,BV.fin (fun z hz=>?_) (by rw[length_append,hlen];simp only[length_cons,List.length_nil];omega) (.inr ⟨x,rfl,?_,zjD m0 BV.gL x mx⟩)⟩
     . rcases mem_append.mp hz with hz|hz
       . rcases mem_append.mp hz with hz|hz
         . exact tyh V z (List.mem_of_mem_take hz)
         . rcases mem_cons.mp hz with rfl|hz
           . exact (zjD m0 BV.gL _ mx).ty
           . exact tyh V z (List.mem_of_mem_drop hz)
       . rw[mem_singleton.mp hz];exact (zjD m0 BV.gL y my).ty
     . rw[List.append_assoc,List.cons_append];exact zil (fun z hz=>ghh z (List.mem_of_mem_take hz)) ox.bad
   . unfold bh3;change show 2<=16777216 by decide
     exact zbm (zch B0.nl) ⟨l,_,_,rfl,BU.fin tyU (by rw[hlen];omega) (.inr ⟨x,rfl,zil (fun z hz=>ghh z (List.mem_of_mem_take hz)) ox.bad,ox⟩)⟩
 . unfold bh3;change show 2<=16777216 by decide
   exact zbm (zch B0.nl) ⟨l,_,_,rfl,B0.fin (tyh T) (by rw[length_map];omega) (.inl ⟨rfl,rfl⟩)⟩
noncomputable def pr:Nat->D->Prop
 |_,.non=>True
 |_,.bl _=>True
 |_,.int _=>True
 |_,.str x=>PySem.PyData.strOk x=true
 |k+1,.tup ds=>ds.length<=1000/\∀x∈ds,pr k x
 |_,_=>False
theorem pr.ty (h:pr k d)(U:R.St):Ty U d:=by
 cases d with
 |ref l=>cases k<;>exact h.elim
 |fix l=>cases k<;>exact h.elim
 |_=>trivial
theorem pr.flat:∀{k:Nat} {d:D},pr k d->∀N,R.flat N d=true:=by
 intro k;induction k with
 |zero=>intro d h N;cases d<;>first|exact h.elim|rfl
 | succ k ih=>
   intro d h N;cases d with
   |tup ds=>rw[za0,zaG];exact fun x hx=>ih (h.2 x hx) N
   |ref l=>exact h.elim
   |fix l=>exact h.elim
   |_=>rfl
theorem zag:pr k (.int z):=by cases k<;>trivial
theorem zeh:pr k .non:=by cases k<;>trivial
theorem zjl:pr k (.bl b):=by cases k<;>trivial
theorem zhA (h:PySem.PyData.strOk x=true):pr k (.str x):=by cases k<;>exact h
theorem zbO (hl:ds.length<=1000)(h:∀x∈ds,pr k x):pr (k+1) (.tup ds):=⟨hl,h⟩
theorem zfF (hx:∀x∈xs,pr k x)(hy:∀x∈ys,pr k x)(hl:(xs++ys).length<=1000):pr (k+1) (.tup (xs++ys)):=zbO hl fun x h=>(mem_append.mp h).elim (hx x) (hy x)
theorem zaw {rs:List Int}(h:rs.length<=1000):pr (k+1) (.tup (rs.map .int)):=zbO (by rw[length_map];exact h) (fun x hx=>by obtain⟨r,_,rfl⟩:=mem_map.mp hx;exact zag)
theorem pr.tyl (h:pr k d)(U:R.St):Tyl U d:=by
 refine⟨h.ty U,fun ds e x hx=>?_,fun ds e rs hr y hy=>?_⟩
 . subst e;cases k with
   |zero=>exact h.elim
   |succ k=>exact (h.2 x hx).ty U
 . subst e;cases k with
   |zero=>exact h.elim
   | succ k=>
     have h2:=h.2 _ hr;cases k with
     |zero=>exact h2.elim
     |succ k=>exact (h2.2 y hy).ty U
theorem zba (o:Option Int):pr k (oD o):=by cases o<;>first|exact zeh|exact zag
theorem pr4 (ha:pr k a)(hb:pr k b)(hc:pr k c)(hd:pr k d):pr (k+1) (.tup [a,b,c,d]):=zbO (show 4<=1000 by decide) (by simp[ha,hb,hc,hd])
structure El (S:R.St) (m:Int) (T:R.St) (d:D):Prop where
 bad:lieB m d=false
 ty:Tyl T d
 cs:R.flat S.len d=true\/(∃ds,d=.tup ds)\/∃l ds,d=.ref l/\T.get l=some (.lst ds)/\flats S.len ds=true
theorem El.mono (h:El S m T d)(u:Up T T'):El S m T' d:=by
 refine⟨h.bad,h.ty.mono u,?_⟩;rcases h.cs with z|z|⟨l,ds,z1,z2,z3⟩
 . exact .inl z
 . exact .inr (.inl z)
 . exact .inr (.inr ⟨l,ds,z1,u _ _ z2,z3⟩)
theorem zal (h:pr k d)(hb:lieB m d=false):El S m T d:=⟨hb,h.tyl T,.inl (h.flat _)⟩
section
variable {m:Int} {t p h w:D}
theorem zgY (e:gt t=false):lieB m (.tup [t,p,h,w])=false:=by simp[lieB,e]
theorem zeJ (e:paB m p=false):lieB m (.tup [t,p,h,w])=false:=by simp[lieB,e]
theorem ziK (e:gh m h=false):lieB m (.tup [t,p,h,w])=false:=by simp[lieB,e]
theorem zkC (e:inP h p=true):lieB m (.tup [t,p,h,w])=false:=by simp[lieB,e]
theorem ziJ (e:wdB w=false):lieB m (.tup [t,p,h,w])=false:=by simp[lieB,e]
end
theorem zfH (hx:x∈ds)(hg:gh m x=false):paB m (.tup ds)=false:=by
 have:ds.all (gh m)=false:=by rw[List.all_eq_false];exact⟨x,hx,by rw[hg];simp⟩
 simp[paB,this]
theorem zgO (hn:p.Nodup)(hx:x∈p):dedup (p++[x])=p:=by
 have e:dedup p=p:=zf7 hn;unfold dedup at e⊢;rw[List.foldl_append,e,List.foldl_cons,List.foldl_nil,if_pos (by simpa using hx)]
structure Tn (S:R.St) (m:Int) (b:Nat) (T:R.St) (l:Nat) (xs:List D):Prop where
 up:Up S T
 fz:T.frz=S.frz++S.new
 at_:T.get l=some (.lst xs)
 el:∀d∈xs,El S m T d
 ne:0<xs.length
 len:xs.length<=b
noncomputable abbrev Et (x:Ly)(w m:Int)(o:Option D):Ev:=[some (lyD x),some (.int w),some (.int m),some (.int x.t),some (pD x.p),some (.int x.h),some (oD x.w),o]
noncomputable abbrev Okd (S:R.St)(m:Int)(T:R.St)(ds:List D)(T':R.St):Prop:=Up T T'/\T'.frz=T.frz/\ds.length<=10/\∀d∈ds,El S m T' d
theorem za2 (I:Tn S m b T l xs)(hb:b<=500)(hw:wEs cf es (Et x w m (some (.ref l))) T fun ds T'=>Okd S m T ds T')
  (k:∀T' l' xs',Tn S m (b+10) T' l' xs'->W (exS cf r (Et x w m (some (.ref l'))) T') Q):W (exS cf (.asg 7 (.bin .Add (.loc 7) (.lst es)) r) (Et x w m (some (.ref l))) T) Q:=by
 rw[exS,zaa,evE,zaa];have e6:evE cf (.loc 7) (Et x w m (some (.ref l))) T=.ok (.ref l) T:=by simp only[evE];rfl
 have hl:=I.len;rw[e6,W_ok,zaa,evE,zaa];refine (zdo _ hw).mono fun ds T' ⟨u,f,h10,he⟩=>?_;unfold lay;rw[if_pos (by omega),W_ok];have g1:(T'.push (.lst ds)).get l=some (.lst xs):=zam (u _ _ I.at_);have g2:(T'.push (.lst ds)).get T'.len=some (.lst ds):=zaf _ _;unfold binD;dsimp only;rw[g1,g2];dsimp only;unfold lay;rw[if_pos (by rw[length_append];omega),W_ok];refine k _ _ (xs++ds) ⟨((I.up.trans u).trans (.push _ _)).trans (.push _ _),by show T'.frz=_;rw[f,I.fz],zaf _ _,fun d hd=>?_,by rw[length_append];have:=I.ne;omega,by rw[length_append];omega⟩;rcases mem_append.mp hd with hd|hd
 . exact (I.el d hd).mono ((u.trans (.push _ _)).trans (.push _ _))
 . exact (he d hd).mono ((Up.push _ _).trans (.push _ _))
noncomputable def tA:CEs:=(.cons (.tup (.cons (.con (D.int 0)) (.cons (.loc 4) (.cons (.loc 5) (.cons (.loc 6) .nil))))) (.cons (.tup (.cons (.con (D.int 31)) (.cons (.loc 4) (.cons (.loc 5) (.cons (.loc 6) .nil))))) (.cons (.tup (.cons (.bin .Sub (.con (D.int 0)) (.loc 3)) (.cons (.loc 4) (.cons (.loc 5) (.cons (.loc 6) .nil))))) (.cons (.tup (.cons (.con D.non) (.cons (.loc 4) (.cons (.loc 5) (.cons (.loc 6) .nil))))) .nil))))
noncomputable def tB:CEs:=(.cons (.tup (.cons (.con (D.bl true)) (.cons (.loc 4) (.cons (.loc 5) (.cons (.loc 6) .nil))))) (.cons (.tup (.cons (.con (D.str "1")) (.cons (.loc 4) (.cons (.loc 5) (.cons (.loc 6) .nil))))) (.cons (.tup (.cons (.loc 3) (.cons (.tup .nil) (.cons (.loc 5) (.cons (.loc 6) .nil))))) (.cons (.tup (.cons (.loc 3) (.cons (.mkL (.val (.loc 4))) (.cons (.loc 5) (.cons (.loc 6) .nil))))) .nil))))
noncomputable def tC:CEs:=(.cons (.tup (.cons (.loc 3) (.cons (.bin .Add (.loc 4) (.sl (.loc 4) false true (.con .non) (.con (D.int 1)))) (.cons (.loc 5) (.cons (.loc 6) .nil))))) (.cons (.tup (.cons (.loc 3) (.cons (.bin .Add (.loc 4) (.tup (.cons (.loc 2) .nil))) (.cons (.loc 5) (.cons (.loc 6) .nil))))) .nil))
noncomputable def tD:CEs:=(.cons (.tup (.cons (.loc 3) (.cons (.bin .Add (.tup (.cons (.bin .Sub (.con (D.int 0)) (.con (D.int 1))) .nil)) (.loc 4)) (.cons (.loc 5) (.cons (.loc 6) .nil))))) (.cons (.tup (.cons (.loc 3) (.cons (.bin .Add (.loc 4) (.tup (.cons (.con D.non) .nil))) (.cons (.loc 5) (.cons (.loc 6) .nil))))) .nil))
noncomputable def tE:CEs:=(.cons (.tup (.cons (.loc 3) (.cons (.tup (.cons (.con (D.bl true)) .nil)) (.cons (.con (D.int 0)) (.cons (.loc 6) .nil))))) (.cons (.tup (.cons (.loc 3) (.cons (.ix (.loc 4) (.con (D.int 0))) (.cons (.loc 5) (.cons (.loc 6) .nil))))) .nil))
noncomputable def tF:CEs:=(.cons (.tup (.cons (.loc 3) (.cons (.loc 4) (.cons (.ix (.loc 4) (.con (D.int 0))) (.cons (.loc 6) .nil))))) (.cons (.tup (.cons (.loc 3) (.cons (.loc 4) (.cons (.ix (.loc 4) (.neg (.con (D.int 1)))) (.cons (.loc 6) .nil))))) (.cons (.tup (.cons (.loc 3) (.cons (.loc 4) (.cons (.loc 2) (.cons (.loc 6) .nil))))) .nil)))
noncomputable def tG:CEs:=(.cons (.tup (.cons (.loc 3) (.cons (.loc 4) (.cons (.bin .Sub (.con (D.int 0)) (.con (D.int 1))) (.cons (.loc 6) .nil))))) (.cons (.tup (.cons (.loc 3) (.cons (.loc 4) (.cons (.con D.non) (.cons (.loc 6) .nil))))) (.cons (.tup (.cons (.loc 3) (.cons (.loc 4) (.cons (.tup (.cons (.loc 5) .nil)) (.cons (.loc 6) .nil))))) .nil)))
noncomputable def tH:CEs:=(.cons (.tup (.cons (.loc 3) (.cons (.loc 4) (.cons (.con (D.bl true)) (.cons (.loc 6) .nil))))) (.cons (.tup (.cons (.loc 3) (.cons (.loc 4) (.cons (.loc 5) (.cons (.bin .Pow (.con (D.int 10)) (.con (D.int 60))) .nil))))) (.cons (.tup (.cons (.loc 3) (.cons (.loc 4) (.cons (.loc 5) (.cons (.bin .Sub (.con (D.int 0)) (.bin .Pow (.con (D.int 10)) (.con (D.int 60)))) .nil))))) .nil)))
noncomputable def tI:CEs:=(.cons (.tup (.cons (.loc 3) (.cons (.loc 4) (.cons (.loc 5) (.cons (.con (D.bl true)) .nil))))) (.cons (.tup (.cons (.loc 3) (.cons (.loc 4) (.cons (.loc 5) (.cons (.con (D.str "5")) .nil))))) (.cons (.tup (.cons (.loc 3) (.cons (.loc 4) (.cons (.loc 5) (.cons (.tup (.cons (.con (D.int 5)) .nil)) .nil))))) (.cons (.tup (.cons (.loc 3) (.cons (.loc 4) (.cons (.loc 5) .nil)))) .nil))))
noncomputable def tJ:CEs:=(.cons (.tup (.cons (.loc 3) (.cons (.loc 4) (.cons (.loc 5) (.cons (.loc 6) (.cons (.loc 6) .nil)))))) (.cons (.lst (.cons (.loc 3) (.cons (.loc 4) (.cons (.loc 5) (.cons (.loc 6) .nil))))) (.cons (.tup .nil) (.cons (.con D.non) (.cons (.con (D.int 7)) (.cons (.con (D.str "lie")) .nil))))))
theorem zkL:c_law_turned.body=.asgT [3,4,5,6] (.loc 0) (.asg 7 (.lst tA) (.asg 7 (.bin .Add (.loc 7) (.lst tB)) (.asg 7 (.bin .Add (.loc 7) (.lst tC)) (.asg 7 (.bin .Add (.loc 7) (.lst tD)) (.asg 7 (.bin .Add (.loc 7) (.lst tE)) (.asg 7 (.bin .Add (.loc 7) (.lst tF)) (.asg 7 (.bin .Add (.loc 7) (.lst tG)) (.asg 7 (.bin .Add (.loc 7) (.lst tH)) (.asg 7 (.bin .Add (.loc 7) (.lst tI)) (.asg 7 (.bin .Add (.loc 7) (.lst tJ)) (.ret (.ix (.loc 7) (.bin .Mod (.loc 1) (.bi .len (.cons (.loc 7) .nil)))) .nil))))))))))):=rfl
section
variable {cf:CF} {S T:R.St} {m w:Int} {x:Ly} {l:Nat} (hx:LyOk m x)
include hx
theorem zdI:x.p.length<=7/\(x.p.map D.int).length=x.p.length:=⟨hx.p7,length_map ..⟩
theorem gt_t:gt (.int (0 - x.t))=false:=by have:=hx.t1;simp[gt];omega
theorem l_B:wEs cf tB (Et x w m (some (.ref l))) T fun ds T'=>Okd S m T ds T':=by
 have r7:=zdI hx
 repeat (refine wNeed_of (by first|exact (show 4<=16777216 by decide)|exact (by decide)|exact (by decide)|exact (by decide)|exact (by decide)|decide|exact (show (x.p.map D.int).length<=16777216 by omega)|exact (by omega)|exact (by omega)) ?_;conv=>whnf)
 refine⟨.push _ _,rfl,by simp,fun d hd=>?_⟩;simp at hd;rcases hd with rfl|rfl|rfl|rfl
 . exact zal (k:=3) (pr4 zjl (zaw (by omega)) zag (zba _)) (zgY rfl)
 . exact zal (k:=3) (pr4 (zhA (by decide +kernel)) (zaw (by omega)) zag (zba _)) (zgY rfl)
 . exact zal (k:=3) (pr4 zag (zbO (by decide) (fun y hy=>nomatch hy)) zag (zba _)) (zeJ rfl)
 . exact⟨zeJ rfl,⟨trivial,fun ds e y hy=>by
    cases e;simp at hy;rcases hy with rfl|rfl|rfl|rfl
    . trivial
    . exact⟨_,zaf _ _⟩
    . trivial
    . exact zmu _ _,fun ds e rs hr y hy=>by
    cases e;simp only[mem_cons,not_mem_nil,or_false] at hr;rcases hr with hr|hr|hr|hr
    . cases hr
    . cases hr
    . cases hr
    . cases hw:x.w<;>(rw[hw] at hr;cases hr)⟩,.inr (.inl ⟨_,rfl⟩)⟩
theorem zny:∃q,R.atI (x.p.map D.int) 0=some (.int q)/\q∈x.p:=by
 have h:=hx.p1;refine⟨x.p[0],?_,List.getElem_mem _⟩;exact zbh (by rw[getElem?_map,List.getElem?_eq_getElem h];rfl)
theorem zpb:∃q,R.atI (x.p.map D.int) (-1)=some (.int q)/\q∈x.p:=by
 have h:=hx.p1;refine⟨x.p[x.p.length - 1]'(by omega),?_,List.getElem_mem _⟩;unfold atI ixN;rw[if_neg (by omega),if_pos (by rw[length_map];omega),bind_some,length_map,show (-1+(x.p.length:Int)).toNat=x.p.length - 1 by omega,getElem?_map,List.getElem?_eq_getElem (by omega)];rfl
theorem zjA:paB m (.tup (x.p.map D.int++cut (x.p.map D.int) none (some 1)))=false:=by
 have h:=hx.p1;have e:cut (x.p.map D.int) none (some 1)=[D.int x.p[0]]:=by
  have:=zf8 (x.p.map D.int) 1;rw[show cut (x.p.map D.int) none (some 1)=(x.p.map D.int).take 1 from this];obtain⟨q,r,e⟩:∃q r,x.p=q::r:=by
   match hp:x.p with
   | []=>rw[hp] at h;simp at h
   |q::r=>exact⟨q,r,rfl⟩
  simp[e,map_cons,List.take_succ_cons,List.take_zero,List.getElem_cons_zero]
 rw[e,show x.p.map D.int++[D.int x.p[0]]=(x.p++[x.p[0]]).map D.int by simp];unfold paB;dsimp only;rw[zbz,zgO hx.pn (List.getElem_mem _),length_map,length_append];have:¬x.p.length=x.p.length+1:=by omega
 simp
theorem gh_m:gh m (.int m)=false:=by simp[gh]
theorem zku:gh m (.int (0 - 1))=false:=by simp[gh]
theorem in_p (h:q∈x.p):inP (.int q) (pD x.p)=true:=by simp[inP,zbz,h]
omit hx in
theorem prs {k:Nat}{p:List Int}:∀y∈p.map D.int,pr k y:=fun y hy=>by obtain⟨r,_,rfl⟩:=mem_map.mp hy;exact zag
omit hx in
theorem prc {k:Nat}{p:List Int}{a b:Option Int}:∀y∈cut (p.map D.int) a b,pr k y:=fun y hy=>prs y (List.mem_of_mem_drop (List.mem_of_mem_take hy))
theorem l_C:wEs cf tC (Et x w m (some (.ref l))) T fun ds T'=>Okd S m T ds T':=by
 have r7:=zdI hx
 repeat (first|(refine wNeed_of (by first|exact (show 4<=16777216 by decide)|exact (by decide)|exact (show 1<=16777216 by decide)|exact (by decide)|exact (by decide)|decide|exact (by omega)|exact (show (x.p.map D.int).length+1<=16777216 by omega)|exact (by omega)|exact le_trans (Nat.add_le_add_left (zb9 _ _ _) _) (by omega)) ?_;conv=>whnf)|(refine wOpt_of h0 ?_;conv=>whnf)|(refine wOpt_of h1 ?_;conv=>whnf))
 refine⟨.refl _,rfl,by simp,fun d hd=>?_⟩;simp at hd;rcases hd with rfl|rfl
 . exact zal (k:=3) (pr4 zag (zfF prs prc (by rw[length_append];have:=zb9 (x.p.map D.int) none (some 1);omega)) zag (zba _)) (zeJ (zjA hx))
 . exact zal (k:=3) (pr4 zag (zfF prs (by simp;exact zag) (by rw[length_append];simp;omega)) zag (zba _)) (zeJ (zfH (by simp) (gh_m hx)))
theorem l_D:wEs cf tD (Et x w m (some (.ref l))) T fun ds T'=>Okd S m T ds T':=by
 have r7:=zdI hx
 repeat (first|(refine wNeed_of (by first|exact (show 4<=16777216 by decide)|exact (by decide)|exact (by decide)|exact (by decide)|exact (by decide)|decide|exact (by omega)|exact (show (x.p.map D.int).length+1<=16777216 by omega)|exact (show 1+(x.p.map D.int).length<=16777216 by omega)|exact le_trans (Nat.add_le_add_left (zb9 _ _ _) _) (by omega)) ?_;conv=>whnf)|(refine wOpt_of h0 ?_;conv=>whnf)|(refine wOpt_of h1 ?_;conv=>whnf))
 refine⟨.refl _,rfl,by simp,fun d hd=>?_⟩;simp only[mem_cons,not_mem_nil,or_false] at hd;rcases hd with rfl|rfl
 . exact zal (k:=3) (pr4 zag (zfF (by simp;exact zag) prs (by rw[length_append];simp;omega)) zag (zba _)) (zeJ (zfH (by simp) (zku hx)))
 . exact zal (k:=3) (pr4 zag (zfF prs (by simp;exact zeh) (by rw[length_append];simp;omega)) zag (zba _)) (zeJ (zfH (x:=.non) (by simp) rfl))
theorem l_E:wEs cf tE (Et x w m (some (.ref l))) T fun ds T'=>Okd S m T ds T':=by
 obtain⟨q0,h0,m0⟩:=zny hx
 repeat (first|(refine wNeed_of (by first|exact (show 4<=16777216 by decide)|exact (by decide)|exact (by decide)|exact (by decide)|exact (by decide)|decide|exact (by omega)|exact (by omega)|exact (by omega)|exact le_trans (Nat.add_le_add_left (zb9 _ _ _) _) (by omega)) ?_;conv=>whnf)|(refine wOpt_of h0 ?_;conv=>whnf)|(refine wOpt_of h1 ?_;conv=>whnf))
 refine⟨.refl _,rfl,by simp,fun d hd=>?_⟩;simp at hd;rcases hd with rfl|rfl
 . exact zal (k:=3) (pr4 zag (zbO (by decide) (by simp;exact zjl)) zag (zba _)) (zeJ (zfH (x:=.bl true) (by simp) rfl))
 . exact zal (k:=3) (pr4 zag zag zag (zba _)) (zeJ rfl)
theorem l_F:wEs cf tF (Et x w m (some (.ref l))) T fun ds T'=>Okd S m T ds T':=by
 have r7:=zdI hx;obtain⟨q0,h0,m0⟩:=zny hx;obtain⟨q1,h1,m1⟩:=zpb hx
 repeat (first|(refine wNeed_of (by first|exact (show 4<=16777216 by decide)|exact (by decide)|exact (by decide)|exact (by decide)|exact (by decide)|decide|exact (by omega)|exact (by omega)|exact (by omega)|exact le_trans (Nat.add_le_add_left (zb9 _ _ _) _) (by omega)) ?_;conv=>whnf)|(refine wOpt_of h0 ?_;conv=>whnf)|(refine wOpt_of h1 ?_;conv=>whnf))
 refine⟨.refl _,rfl,by simp,fun d hd=>?_⟩;simp at hd;rcases hd with rfl|rfl|rfl
 . exact zal (k:=3) (pr4 zag (zaw (by omega)) zag (zba _)) (zkC (in_p hx m0))
 . exact zal (k:=3) (pr4 zag (zaw (by omega)) zag (zba _)) (zkC (in_p hx m1))
 . exact zal (k:=3) (pr4 zag (zaw (by omega)) zag (zba _)) (ziK (gh_m hx))
theorem l_G:wEs cf tG (Et x w m (some (.ref l))) T fun ds T'=>Okd S m T ds T':=by
 have r7:=zdI hx
 repeat (first|(refine wNeed_of (by first|exact (show 4<=16777216 by decide)|exact (by decide)|exact (show 1<=16777216 by decide)|exact (by decide)|exact (by decide)|decide|exact (by omega)|exact (by omega)|exact (by omega)|exact le_trans (Nat.add_le_add_left (zb9 _ _ _) _) (by omega)) ?_;conv=>whnf)|(refine wOpt_of h0 ?_;conv=>whnf)|(refine wOpt_of h1 ?_;conv=>whnf))
 refine⟨.refl _,rfl,by simp,fun d hd=>?_⟩;simp at hd;rcases hd with rfl|rfl|rfl
 . exact zal (k:=3) (pr4 zag (zaw (by omega)) zag (zba _)) (ziK (zku hx))
 . exact zal (k:=3) (pr4 zag (zaw (by omega)) zeh (zba _)) (ziK rfl)
 . exact zal (k:=3) (pr4 zag (zaw (by omega)) (zbO (show 1<=1000 by decide) (by simp;exact zag)) (zba _)) (ziK rfl)
omit hx in
theorem zn6:wdB (.int (10 ^ Int.toNat 60))=false:=by
 rw[show Int.toNat 60=60 from rfl];simp[wdB,gw]
omit hx in
theorem zn5:wdB (.int (0 - 10 ^ Int.toNat 60))=false:=by
 rw[show Int.toNat 60=60 from rfl];simp[wdB,gw]
theorem l_H:wEs cf tH (Et x w m (some (.ref l))) T fun ds T'=>Okd S m T ds T':=by
 have r7:=zdI hx
 repeat (first|(refine wNeed_of (by first|exact (show 4<=16777216 by decide)|exact (by decide)|exact (by decide)|exact (by decide)|exact (by decide)|decide|exact (by omega)|exact (by omega)|exact (by omega)|exact le_trans (Nat.add_le_add_left (zb9 _ _ _) _) (by omega)) ?_;conv=>whnf)|(refine wOpt_of h0 ?_;conv=>whnf)|(refine wOpt_of h1 ?_;conv=>whnf))
 refine⟨.refl _,rfl,by simp,fun d hd=>?_⟩;simp at hd;rcases hd with rfl|rfl|rfl
 . exact zal (k:=3) (pr4 zag (zaw (by omega)) zjl (zba _)) (ziK rfl)
 . exact zal (k:=3) (pr4 zag (zaw (by omega)) zag zag) (ziJ zn6)
 . exact zal (k:=3) (pr4 zag (zaw (by omega)) zag zag) (ziJ zn5)
theorem l_I:wEs cf tI (Et x w m (some (.ref l))) T fun ds T'=>Okd S m T ds T':=by
 have r7:=zdI hx
 repeat (first|(refine wNeed_of (by first|exact (show 4<=16777216 by decide)|exact (by decide)|exact (by decide)|exact (show 3<=16777216 by decide)|exact (by decide)|decide|exact (by omega)|exact (by omega)|exact (by omega)|exact le_trans (Nat.add_le_add_left (zb9 _ _ _) _) (by omega)) ?_;conv=>whnf)|(refine wOpt_of h0 ?_;conv=>whnf)|(refine wOpt_of h1 ?_;conv=>whnf))
 refine⟨.refl _,rfl,by simp,fun d hd=>?_⟩;simp at hd;rcases hd with rfl|rfl|rfl|rfl
 . exact zal (k:=3) (pr4 zag (zaw (by omega)) zag zjl) (ziJ rfl)
 . exact zal (k:=3) (pr4 zag (zaw (by omega)) zag (zhA (by decide +kernel))) (ziJ rfl)
 . exact zal (k:=3) (pr4 zag (zaw (by omega)) zag (zbO (by decide) (by simp;exact zag))) (ziJ rfl)
 . exact zal (k:=3) (zbO (show 3<=1000 by decide) (by simp;exact⟨zag,(zaw (by omega)),zag⟩)) rfl
theorem l_J:wEs cf tJ (Et x w m (some (.ref l))) T fun ds T'=>Okd S m T ds T':=by
 have r7:=zdI hx
 repeat (first|(refine wNeed_of (by first|exact (show 4<=16777216 by decide)|exact (by decide)|exact (by decide)|exact (by decide)|exact (show 5<=16777216 by decide)|decide|exact (by omega)|exact (by omega)|exact (by omega)|exact le_trans (Nat.add_le_add_left (zb9 _ _ _) _) (by omega)) ?_;conv=>whnf)|(refine wOpt_of h0 ?_;conv=>whnf)|(refine wOpt_of h1 ?_;conv=>whnf))
 refine⟨.push _ _,rfl,by simp,fun d hd=>?_⟩;simp at hd;rcases hd with rfl|rfl|rfl|rfl|rfl|rfl
 . exact zal (k:=3) (zbO (show 5<=1000 by decide) (by simp;exact⟨zag,(zaw (by omega)),zag,zba _⟩)) rfl
 . exact⟨rfl,⟨⟨_,zaf _ _⟩,(fun ds e=>nomatch e),(fun ds e=>nomatch e)⟩,.inr (.inr ⟨_,_,rfl,zaf _ _,(zaG ..).mpr (fun y hy=>by
    simp at hy;rcases hy with rfl|rfl|rfl|rfl
    . rfl
    . exact (show pr 1 (pD x.p) from zaw (by omega)).flat _
    . rfl
    . exact (zba (k:=0) _).flat _)⟩)⟩
 . exact zal (k:=3) (zbO (by decide) (fun y hy=>nomatch hy)) rfl
 . exact zal (k:=3) zeh rfl
 . exact zal (k:=3) zag rfl
 . exact zal (k:=3) (zhA (by decide +kernel)) rfl
end
structure Tu (S T:R.St) (m:Int) (d:D):Prop where
 bad:lieB m d=false
 ty:Tyl T d
 up:Up S T
 len:S.len<=T.len
 fz:T.frz=S.frz
 lk:T.lk=S.lk
theorem zmx (u:Up S T)(hT:T.frz=S.frz++S.new)(h:El S m T d):wFin S (.rt d) T fun d T'=>Tu S T' m d:=by
 have k:∀i,(R.St.mk S.frz (S.new++T.new) S.lk).get i=T.get i:=fun i=>zbp hT;have uk:Up T ⟨S.frz,S.new++T.new,S.lk⟩:=fun i o g=>by rw[k];exact g
 have hlen:S.len<=(R.St.mk S.frz (S.new++T.new) S.lk).len:=by unfold St.len;simp
 cases hf:R.flat S.len d with
 | true=>
   refine zac hf ⟨h.bad,?_,.refl _,le_refl _,rfl,rfl⟩;have back:∀y,R.flat S.len y=true->Ty T y->Ty S y:=fun y hy ht=>by
    cases y with
    | ref l=>
      obtain⟨ds,e⟩:=ht;have hl:l<S.len:=by simpa[R.flat] using hy
      exact⟨ds,by rw[<-get_frz hT hl];exact e⟩
    |_=>exact ht
   refine⟨back d hf h.ty.ty,fun ds e y hy=>?_,fun ds e rs hr y hy=>?_⟩
   . subst e;rw[za0,zaG] at hf;exact back y (hf y hy) (h.ty.sub ds rfl y hy)
   . subst e;rw[za0,zaG] at hf;have h1:=hf _ hr;rw[za0,zaG] at h1;exact back y (h1 y hy) (h.ty.sub2 ds rfl rs hr y hy)
 | false=>
   rcases h.cs with z|⟨ds,rfl⟩|⟨l,ds,rfl,g,fl⟩
   . rw[z] at hf;cases hf
   . exact zbm hf ⟨h.bad,h.ty.mono uk,u.trans uk,hlen,rfl,rfl⟩
   . have hl:S.len<=l:=by simpa[R.flat] using hf
     refine zg6 hl g fl ⟨rfl,⟨⟨ds,zaf _ _⟩,(fun ds e=>nomatch e),(fun ds e=>nomatch e)⟩,.push _ _,by rw[plen];omega,rfl,rfl⟩
theorem zdx (hx:LyOk m x):W (app (callF prog (n+1)) 15 [lyD x,.int w,.int m] S) fun d T=>Tu S T m d:=by
 apply zgZ rfl rfl;rw[zkL];have e0:evE (callF prog n) (.loc 0) (zap c_law_turned [lyD x,.int w,.int m]) S.enter=.ok (lyD x) S.enter:=by simp[evE];rfl
 rw[exS,e0,zao,show asgG [3,4,5,6] (lyD x) (zap c_law_turned [lyD x,.int w,.int m])=some (Et x w m none) from rfl,zaO,zao,exS,zaa,evE,zaa];have hA:wEs (callF prog n) tA (Et x w m none) S.enter fun ds T'=>Okd S m S.enter ds T'/\0<ds.length:=by
  have r7:=zdI hx
  repeat (refine wNeed_of (show 4<=16777216 by decide) ?_;conv=>whnf)
  refine⟨⟨.refl _,rfl,by simp,fun d hd=>?_⟩,by simp⟩;simp only[mem_cons,not_mem_nil,or_false] at hd;rcases hd with rfl|rfl|rfl|rfl
  . exact zal (k:=3) (pr4 zag (zaw (by omega)) zag (zba _)) (zgY rfl)
  . exact zal (k:=3) (pr4 zag (zaw (by omega)) zag (zba _)) (zgY rfl)
  . exact zal (k:=3) (pr4 zag (zaw (by omega)) zag (zba _)) (zgY (gt_t hx))
  . exact zal (k:=3) (pr4 zeh (zaw (by omega)) zag (zba _)) (zgY rfl)
 refine (zdo _ hA).mono fun ds T0 ⟨⟨u,f,h10,he⟩,hne⟩=>?_;unfold lay;rw[if_pos (by omega),W_ok];have I0:Tn S m 10 (T0.push (.lst ds)) T0.len ds:=⟨((Up.enter S).trans u).trans (.push _ _),by show T0.frz=_;rw[f];rfl,zaf _ _,fun d hd=>(he d hd).mono (.push _ _),hne,h10⟩;refine za2 I0 (by decide) (l_B hx) fun T1 l1 x1 I1=>?_;refine za2 I1 (by decide) (l_C hx) fun T2 l2 x2 I2=>?_;refine za2 I2 (by decide) (l_D hx) fun T3 l3 x3 I3=>?_;refine za2 I3 (by decide) (l_E hx) fun T4 l4 x4 I4=>?_;refine za2 I4 (by decide) (l_F hx) fun T5 l5 x5 I5=>?_;refine za2 I5 (by decide) (l_G hx) fun T6 l6 x6 I6=>?_;refine za2 I6 (by decide) (l_H hx) fun T7 l7 x7 I7=>?_;refine za2 I7 (by decide) (l_I hx) fun T8 l8 x8 I8=>?_;refine za2 I8 (by decide) (l_J hx) fun T9 l9 x9 I9=>?_;apply wS_W _;exists I9.at_;change (by have:=I9.ne;omega);obtain⟨j,ej,hj⟩:=zcf w I9.ne;rw[ej];exists I9.at_;exists zbh (List.getElem?_eq_getElem hj);exact zmx I9.up I9.fz (I9.el _ (List.getElem_mem hj))
theorem zdu:∀{xs:List D} {k p:Nat},(∀i,i<p->∃a,xs[i]?=some a/\lieB m a=true)->(∃a,xs[p]?=some a/\lieB m a=false)->za5 m k xs=some (k+p)
 | [],k,p,_,⟨a,e,_⟩=>by simp at e
 | x::xs,k,0,_,⟨a,e,h⟩=>by
   have:x=a:=by simpa using e
   subst this;rw[za5,if_neg (by rw[h];decide)];rfl
 | x::xs,k,p+1,hg,hb=>by
   obtain⟨a,e,h⟩:=hg 0 (by omega);have:x=a:=by simpa using e
   subst this;rw[za5,if_pos h,zdu (p:=p) (fun i hi=>by simpa using hg (i+1) (by omega)) (by simpa using hb)];congr 1;omega
theorem zcC:∀{xs:List D} {k:Nat},(∀a∈xs,lieB m a=true)->za5 m k xs=none
 | [],_,_=>rfl
 |x::xs,k,h=>by rw[za5,if_pos (h x (by simp))];exact zcC fun a ha=>h a (by simp[ha])
structure BL (S T:R.St) (m:Int) (n l:Nat) (f:D) (xs:List D):Prop where
 up:Up S T
 len:S.len<=T.len
 fz:T.frz=S.frz
 lk:T.lk=S.lk
 at_:T.get l=some (.lst xs)
 nw:S.len<=l
 ty:∀x∈xs,Tyl T x
 ln:xs.length=n
 res:(f=.non/\za5 m 0 xs=none)\/∃p:Nat,f=.tup [.int 2,.int p]/\za5 m 0 xs=some p
structure Li (S T:R.St) (l n:Nat) (xs:List D):Prop where
 up:Up S T
 fz:T.frz=S.frz++S.new
 lk:T.lk=[]
 gl:T.get l=some (.lst xs)
 nl:S.len<=l
 ty:∀x∈xs,Tyl T x
 ln:xs.length=n
theorem Ty.put (o:∀i,i≠l->U.get i=T.get i)(g:U.get l=some (.lst ys))(h:Ty T d):Ty U d:=by
 cases d with
 | ref j=>
   obtain⟨ds,e⟩:=h;by_cases hj:j=l
   . subst hj;exact⟨ys,g⟩
   . exact⟨ds,by rw[o j hj];exact e⟩
 |_=>exact h
theorem Tyl.put (o:∀i,i≠l->U.get i=T.get i)(g:U.get l=some (.lst ys))(h:Tyl T d):Tyl U d:=⟨h.ty.put o g,fun ds e x hx=>(h.sub ds e x hx).put o g,fun ds e rs hr y hy=>(h.sub2 ds e rs hr y hy).put o g⟩
theorem Li.put (I:Li S T l n xs)(t:Tu T T' m d)(hp:p<n):∃U,dPut T' (.ref l) (.int p) d=some U/\Li S U l n (xs.set p d):=by
 have g':=t.up _ _ I.gl;obtain⟨U,e1,e2,e3,e4,e5,e6⟩:=zcw (.lst (xs.set p d)) (by rw[t.fz,I.fz,length_append];have:=I.nl;unfold St.len at this;exact this) (by rw[t.lk,I.lk];rfl);have gU:=e6 (za9 g');refine⟨U,?_,fun i o g=>?_,by rw[e2,t.fz];exact I.fz,by rw[e3,t.lk];exact I.lk,gU,I.nl,fun x hx=>?_,by rw[List.length_set];exact I.ln⟩
 . unfold dPut;dsimp only;rw[g'];have ei:ixN xs.length (p:Int)=some p:=by
    unfold ixN;rw[if_pos (by omega),if_pos (by rw[I.ln];omega)];simp
   simp[zdR,bind_some,ei];exact e1
 . rw[e5 i (by have:=za9 g;have:=I.nl;omega)];exact t.up _ _ (I.up i o g)
 . rcases List.mem_or_eq_of_mem_set hx with hx|rfl
   . exact ((I.ty x hx).mono t.up).put e5 gU
   . exact t.ty.put e5 gU
theorem Li.fin (I:Li S T l n xs)(res:(f=.non/\za5 m 0 xs=none)\/∃p:Nat,f=.tup [.int 2,.int p]/\za5 m 0 xs=some p):BL S ⟨S.frz,S.new++T.new,S.lk⟩ m n l f xs:=by
 have u:Up T ⟨S.frz,S.new++T.new,S.lk⟩:=fun i o g=>by rw[zbp I.fz];exact g
 exact⟨I.up.trans u,by unfold St.len;simp,rfl,rfl,u _ _ I.gl,I.nl,fun x hx=>(I.ty x hx).mono u,I.ln,res⟩
noncomputable def bl3:CS:=.ret (.tup (.cons (.loc 4) (.cons (.loc 5) .nil))) .nil
noncomputable def bl2:CS:=.ifS (.cmp .Eq (.bin .Mod (.bin .FloorDiv (.loc 3) (.con (D.int 20000))) (.con (D.int 2))) (.con (D.int 1))) (.asg 7 (.bin .Add (.loc 6) (.bin .Mod (.bin .FloorDiv (.loc 3) (.con (D.int 40000))) (.bin .Sub (.bi .len (.cons (.loc 1) .nil)) (.loc 6)))) (.setIx (.loc 4) (.loc 7) (.call 15 0 (.cons (.ix (.loc 1) (.loc 7)) (.cons (.bin .FloorDiv (.loc 3) (.bin .Pow (.con (D.int 10)) (.con (D.int 7)))) (.cons (.loc 2) .nil)))) .nil)) .nil .nil
noncomputable def bl1:CS:=.ifS (.and (.cmp .Eq (.bin .Mod (.loc 3) (.con (D.int 2))) (.con (D.int 0))) (.cmp .Gt (.bi .len (.cons (.loc 1) .nil)) (.con (D.int 0)))) (.asg 6 (.bin .Mod (.bin .FloorDiv (.loc 3) (.con (D.int 2))) (.bi .len (.cons (.loc 1) .nil))) (.setIx (.loc 4) (.loc 6) (.call 15 0 (.cons (.ix (.loc 1) (.loc 6)) (.cons (.bin .FloorDiv (.loc 3) (.con (D.int 200))) (.cons (.loc 2) .nil)))) (.asg 5 (.tup (.cons (.con (D.int 2)) (.cons (.loc 6) .nil)))
 bl2))) .nil bl3
theorem zl8:c_law_bad_lies.body=.asg 3 (.call 11 0 (.cons (.loc 0) (.cons (.con (D.int 5)) .nil))) (.asg 4 (.mkL (.val (.loc 1))) (.asg 5 (.con D.non) bl1)):=rfl
noncomputable abbrev Ebl (ns:List Int)(lz:Nat)(m c:Int)(l:Nat)(f:D)(a b:Option D):Ev:=[some (.fix (ns.map .int)),some (.ref lz),some (.int m),some (.int c),some (.ref l),some f,a,b]
theorem zkr (Ls:List Ly):((Ls.map lyD).length:Int)=(Ls.length:Nat):=by rw[length_map]
theorem zlf {ns:List Int}{Ls:List Ly}(g:S.get lz=some (.lst (Ls.map lyD)))(hi:∀x∈Ls,LyOk m x)(hl:Ls.length<=60) :
  W (app (callF prog (n+2)) 20 [.fix (ns.map .int),.ref lz,.int m] S) fun d T=>∃l f xs,d=.tup [.ref l,f]/\BL S T m Ls.length l f xs:=by
 apply zfl rfl rfl;rw[zl8];have gE:S.enter.get lz=some (.lst (Ls.map lyD)):=by rw[zau];exact g
 specialize zcl;exists gE;change by rw[length_map];omega
 generalize zcu ns 5=c;have I0:Li S (S.enter.push (.lst (Ls.map lyD))) S.enter.len Ls.length (Ls.map lyD):=⟨zdp S _,rfl,rfl,zaf _ _,nw_e S,fun x hx=>by obtain⟨y,_,rfl⟩:=mem_map.mp hx;exact zg8 _ y,length_map ..⟩;generalize S.enter.push (.lst (Ls.map lyD))=T at I0⊢;generalize S.enter.len=l at I0⊢;have good:∀a∈Ls.map lyD,lieB m a=true:=fun a ha=>by obtain⟨y,hy,rfl⟩:=mem_map.mp ha;exact zdQ (hi y hy)
 have fin0:wS (callF prog (n+1)) bl3 (Ebl ns lz m c l .non none none) T fun r T'=>wFin S r T' fun d T=>∃l f xs,d=.tup [.ref l,f]/\BL S T m Ls.length l f xs:=by
  change show 2<=16777216 by decide
  exact zbm (zch I0.nl) ⟨l,_,_,rfl,I0.fin (.inl ⟨rfl,zcC good⟩)⟩
 change by decide
 refine zbS (fun c2=>?_) (fun c2=>?_)
 . left;exists I0.up _ _ g;refine zbS (fun c0=>?_) (fun c0=>?_)
   . have h0:0<Ls.length:=by simpa using c0
     change by decide
     exists I0.up _ _ g;change by rw[length_map];omega
     obtain⟨p,ep,hp⟩:=zcf (c / 2) h0;rw[zkr,ep];exists I0.up _ _ g;have gp:(Ls.map lyD)[p]?=some (lyD Ls[p]):=by simp[hp]
     exists zbh gp;change by decide
     refine zcz ((zdx (hi _ (List.getElem_mem hp))).mono fun d T1 t1=>?_);obtain⟨U,eU,IU⟩:=I0.put t1 hp;exists eU;change show 2<=16777216 by decide
     change by decide
     change by decide
     have pre:∀i,i<p->((Ls.map lyD).set p d)[i]?=(Ls.map lyD)[i]?:=fun i hi=>getElem?_set_ne (by omega);have preg:∀i,i<p->∃a,(Ls.map lyD)[i]?=some a/\lieB m a=true:=fun i hi=>⟨_,List.getElem?_eq_getElem (by rw[length_map];omega),good _ (List.getElem_mem _)⟩;refine zbS (fun c4=>?_) (fun c4=>?_)
     . left;change by decide
       exists IU.up _ _ g;change by rw[length_map];omega
       obtain⟨j,ej,hj⟩:=zcf (c / 40000) (k:=Ls.length - p) (by omega);have ej':c / 40000 % (((Ls.map lyD).length:Int) - (p:Int))=j:=by rw[zkr,show ((Ls.length:Nat):Int) - (p:Int)=((Ls.length - p:Nat):Int) by omega];exact ej
       rw[ej'];left;have eq:(p:Int)+(j:Int)=((p+j:Nat):Int):=by omega
       rw[eq];generalize hq:p+j=q;exists IU.up _ _ g;have hq':q<Ls.length:=by omega
       have gq:(Ls.map lyD)[q]?=some (lyD Ls[q]):=by simp[hq']
       exists zbh gq;change by decide
       change by decide
       refine zcz ((zdx (hi _ (List.getElem_mem hq'))).mono fun d2 T2 t2=>?_);obtain⟨V,eV,IV⟩:=IU.put t2 hq';exists eV;change show 2<=16777216 by decide
       refine zbm (zch I0.nl) ⟨l,_,_,rfl,IV.fin (.inr ⟨p,rfl,?_⟩)⟩;have:=zdu (m:=m) (xs:=((Ls.map lyD).set p d).set q d2) (k:=0) (p:=p) (fun i hi=>?_) ?_
       . rw[zero_add] at this;exact this
       . rw[getElem?_set_ne (by omega),pre i hi];exact preg i hi
       . by_cases hpq:q=p
         . subst hpq;exact⟨d2,by rw[getElem?_set_self (by rw[List.length_set,length_map];omega)],t2.bad⟩
         . exact⟨d,by rw[getElem?_set_ne hpq,getElem?_set_self (by rw[length_map];omega)],t1.bad⟩
     . unfold bl3;change show 2<=16777216 by decide
       refine zbm (zch I0.nl) ⟨l,_,_,rfl,IU.fin (.inr ⟨p,rfl,?_⟩)⟩;have:=zdu (m:=m) (xs:=(Ls.map lyD).set p d) (k:=0) (p:=p) (fun i hi=>?_) ?_
       . rw[zero_add] at this;exact this
       . rw[pre i hi];exact preg i hi
       . exact⟨d,by rw[getElem?_set_self (by rw[length_map];omega)],t1.bad⟩
   . left;exact fin0
 . left;exact fin0
noncomputable def zpv:CS:=.asg 5 (.call 15 0 (.cons (.ix (.loc 1) (.loc 4)) (.cons (.bin .Mod (.bin .Mult (.call 11 0 (.cons (.loc 0) (.cons (.bin .Add (.con (D.int 9)) (.loc 4)) .nil))) (.con (D.int 48271))) (.con (D.int 2147483647))) (.cons (.loc 2) .nil)))) (.asg 6 (.call 17 0 (.cons (.loc 2) (.cons (.loc 3) (.cons (.lst .nil) (.cons (.lst (.cons (.ix (.loc 1) (.loc 4)) (.cons (.loc 5) .nil))) .nil))))) (.ifS (.or (.cmp .Is (.loc 6) (.con D.non)) (.nt (.tst (.call 18 0 (.cons (.loc 6) (.cons (.tup (.cons (.con (D.int 2)) (.cons (.con (D.int 1)) .nil))) .nil)))))) (.ret (.con (D.bl false)) .nil) .nil .nil))
noncomputable abbrev Ee (ns:List Int)(lz:Nat)(m b:Int)(o5 o6 o7:Option D):Ev:=[some (.fix (ns.map .int)),some (.ref lz),some (.int m),some (.int b),o5,o6,o7]
theorem zl5 (m1:1<=m)(m7:m<=7)(b0:0<=b)(b5:b<=5)(hx:LyOk m x)(hd:lieB m d=false):due (.int m) (.int b) [] [lyD x,d]=some (3,("place":PySem.Str),D.int (1:Nat)):=by
 have c1:cn 1 7 (.int m)=true:=by simp[cn,m1,m7]
 have c2:cn 0 5 (.int b)=true:=by simp[cn,b0,b5]
 have s:za5 m 0 [lyD x,d]=some 1:=zdu (p:=1) (fun i hi=>by
  have:i=0:=by omega
  subst this;exact⟨lyD x,rfl,zdQ hx⟩) ⟨d,rfl,hd⟩
 unfold due;rw[c1,c2];simp[List.find?_nil,iv,s]
theorem zoe {S T:R.St}{Ls:List Ly}(m1:1<=m)(m7:m<=7)(b0:0<=b)(b5:b<=5)(g:T.get lz=some (.lst (Ls.map lyD)))(hi:∀x∈Ls,LyOk m x)(hk:k<Ls.length) :
  W (exS (callF prog (n+7)) zpv (Ee ns lz m b (some (.int (k:Nat))) o5 o6) T) fun f T'=>match f with|.nx δ=>(∃a b' c,δ=Ee ns lz m b a b' c)/\Up T T'|.rt _=>False|.ex _=>False:=by
 apply wS_W _;have gk:(Ls.map lyD)[k]?=some (lyD Ls[k]):=by simp[hk]
 have hx:=hi _ (List.getElem_mem hk);generalize Ls[k]=x at gk hx;exists g;exists zbh gk;specialize zcl;generalize zcu ns (9+k)=z;change by simp[zdL]
 change by decide
 refine zcz ((zdx hx).mono fun d T1 t1=>?_);change by decide
 exists zam (t1.up _ _ g);exists zbh gk;change show 2<=16777216 by decide
 have u2:Up T1 ((T1.push (.lst [])).push (.lst [lyD x,d])):=(Up.push _ _).trans (.push _ _);have hin:In ((T1.push (.lst [])).push (.lst [lyD x,d])) (.int m) (.int b) T1.len (T1.push (.lst [])).len [] [lyD x,d]:=by
  refine⟨trivial,trivial,zam (zaf _ _),zaf _ _,(fun y hy=>nomatch hy),fun y hy=>?_,by decide,show 2<=1000 by decide⟩;simp at hy;rcases hy with rfl|rfl
  . exact zg8 _ x
  . exact t1.ty.mono u2
 obtain⟨e,T2,q,C⟩:=zf5 hin (zl5 m1 m7 b0 b5 hx t1.bad);specialize q;change by decide
 specialize zea C.at_ (.inr (.inr ⟨rfl,rfl,rfl⟩)) trivial ⟨_,rfl⟩;exact⟨⟨_,_,_,rfl⟩,(t1.up.trans u2).trans C.up⟩
theorem zki {ns:List Int}{Ls:List Ly}(m1:1<=m)(m7:m<=7)(b0:0<=b)(b5:b<=5)(g:S.get lz=some (.lst (Ls.map lyD)))(hi:∀x∈Ls,LyOk m x)(hl:Ls.length<=60) :
  app (callF prog (n+8)) 21 [.fix (ns.map .int),.ref lz,.int m,.int b] S=.ok (.bl true) S:=by
 apply zcq rfl rfl;have gE:S.enter.get lz=some (.lst (Ls.map lyD)):=by rw[zau];exact g
 exists gE;change by rw[length_map];omega
 apply zaY;have e0:((List.range ((Ls.map lyD).length:Int).toNat).map fun (k:Nat)=>D.int k)=(List.range Ls.length).map fun (k:Nat)=>D.int k:=by rw[length_map];rfl
 rw[e0];refine W.mono (zca (fun i δ T=>(∃a b' c,δ=Ee ns lz m b a b' c)/\Up S T) (fun _ _=>False) _ 0 _ _ ⟨⟨none,none,none,rfl⟩,?_⟩ ?_) ?_
 . exact Up.enter S
 . rintro i d δ T hd ⟨⟨a,b',c,rfl⟩,u⟩;rw[getElem?_map] at hd;cases hr:(List.range Ls.length)[i]? with
   |none=>rw[hr] at hd;cases hd
   | some j=>
     rw[hr] at hd;obtain⟨hlt,hj⟩:=List.getElem?_eq_some_iff.mp hr;subst hj;have hd:D.int (i:Nat)=d:=by simpa using hd
     subst hd;refine⟨Ee ns lz m b (some (.int (i:Nat))) b' c,rfl,?_⟩;refine (zoe (S:=S) m1 m7 b0 b5 (u _ _ g) hi (by simpa using hlt)).mono fun f T' q=>?_;cases f with
     |nx δ=>exact⟨q.1,u.trans q.2⟩
     |rt d=>exact q
     |ex d=>exact q
 . rintro f T h;cases f with
   |rt d=>exact h.elim
   |ex d=>exact h.elim
   | nx δ=>
     exact zac rfl ⟨rfl,rfl⟩
noncomputable def w3:CS:=.ret (.cmp .Is (.call 17 0 (.cons (.loc 1) (.cons (.loc 2) (.cons (.mkL (.val (.loc 3))) (.cons (.mkL (.val (.loc 4))) .nil))))) (.con D.non)) .nil
noncomputable def w2:CS:=.ifS (.nt (.tst (.call 21 0 (.cons (.loc 0) (.cons (.loc 4) (.cons (.loc 1) (.cons (.loc 2) .nil))))))) (.ret (.con (D.bl false)) .nil) .nil (.ifS (.cmp .Is (.loc 12) (.con D.non)) (.ret (.cmp .Is (.loc 13) (.con D.non)) .nil) .nil (.ifS (.or (.cmp .Is (.loc 13) (.con D.non)) (.nt (.tst (.call 18 0 (.cons (.loc 13) (.cons (.loc 12) .nil)))))) (.ret (.con (D.bl false)) .nil) .nil w3))
noncomputable def w1:CS:=.asg 13 (.call 17 0 (.cons (.loc 6) (.cons (.loc 7) (.cons (.mkL (.val (.loc 8))) (.cons (.mkL (.val (.loc 10))) .nil))))) w2
noncomputable abbrev Ew (ns:List Int)(m b:Int)(l3 l4:Nat)(o5:Option D)(d6 d7:D)(l8:Nat)(f9:D)(l10:Nat)(f11:D)(o12 o13:Option D):Ev:=
 [some (.fix (ns.map .int)),some (.int m),some (.int b),some (.ref l3),some (.ref l4),o5,some d6,some d7,some (.ref l8),some f9,some (.ref l10),some f11,o12,o13]
structure Dr (T:R.St) (m b:Int) (l3 l4:Nat) (hs:List Int) (Ls:List Ly):Prop where
 m1:1<=m
 m7:m<=7
 b0:0<=b
 b5:b<=5
 g3:T.get l3=some (.lst (hs.map .int))
 g4:T.get l4=some (.lst (Ls.map lyD))
 hi:∀i∈hs,0<=i/\i<m
 li:∀x∈Ls,LyOk m x
 hl:hs.length<=60
 ll:Ls.length<=60
theorem Dr.up (h:Dr T m b l3 l4 hs Ls)(u:Up T U):Dr U m b l3 l4 hs Ls:=⟨h.m1,h.m7,h.b0,h.b5,u _ _ h.g3,u _ _ h.g4,h.hi,h.li,h.hl,h.ll⟩
theorem cn_m (h:Dr T m b l3 l4 hs Ls):cn 1 7 (.int m)=true:=by simp[cn,h.m1,h.m7]
theorem cn_b (h:Dr T m b l3 l4 hs Ls):cn 0 5 (.int b)=true:=by simp[cn,h.b0,h.b5]
theorem zes {hs:List Int}(hi:∀i∈hs,0<=i/\i<m):(hs.map D.int).find? (fun d=>!gh m d)=none:=by
 rw[List.find?_eq_none];intro x hx;obtain⟨z,hz,rfl⟩:=mem_map.mp hx;rw[zfY (hi z hz)];decide
theorem zjV (h:Dr T m b l3 l4 hs Ls):due (.int m) (.int b) (hs.map .int) (Ls.map lyD)=none:=by
 unfold due;rw[cn_m h,cn_b h];simp[iv,zes h.hi];rw[zcC fun a ha=>by obtain⟨y,hy,rfl⟩:=mem_map.mp ha;exact zdQ (h.li y hy)]
theorem zlS (h:Dr T m b l3 l4 hs Ls):In ((T.push (.lst (hs.map .int))).push (.lst (Ls.map lyD))) (.int m) (.int b) T.len (T.push (.lst (hs.map .int))).len (hs.map .int) (Ls.map lyD):=
 ⟨trivial,trivial,zam (zaf _ _),zaf _ _,fun x hx=>by obtain⟨z,_,rfl⟩:=mem_map.mp hx;trivial,fun x hx=>by obtain⟨z,_,rfl⟩:=mem_map.mp hx;exact zg8 _ z,by rw[length_map];have:=h.hl;omega,by rw[length_map];have:=h.ll;omega⟩
section
variable {T:R.St} {ns:List Int} {m b:Int} {l3 l4 l8 l10:Nat} {o5:Option D} {d6 d7 f9 f11 d12:D} {hs:List Int} {Ls:List Ly} {xs ys:List D} {Q:Fl->R.St->Prop}
theorem t3 (hQ:∀T,Q (.rt (.bl true)) T)(h:Dr T m b l3 l4 hs Ls):wS (callF prog 8) w3 (Ew ns m b l3 l4 o5 d6 d7 l8 f9 l10 f11 (some d12) o13) T Q:=by
 have hl:=h.hl;have ll:=h.ll;exists h.g3;change by rw[length_map];omega
 exists zam h.g4;change by rw[length_map];omega
 specialize zfB (zlS h) (zjV h);exact hQ _
noncomputable def Du (T:R.St)(o:Option (Nat × PySem.Str × D))(d12:D):Prop:=(o=none/\d12=.non)\/∃c f d k,o=some (c,f,d)/\d12=.tup [.int k,d]/\kd c f k/\Ty T d/\∃a,pd T 60 d=some a
theorem t1 (hQ:∀T,Q (.rt (.bl true)) T)(h:Dr T m b l3 l4 hs Ls)(s6:Sc d6)(s7:Sc d7)(g8:T.get l8=some (.lst xs))(g10:T.get l10=some (.lst ys))(t8:∀x∈xs,Ty T x)(t10:∀y∈ys,Tyl T y)(n8:xs.length<=62)(n10:ys.length<=60)(hd:Du T (due d6 d7 xs ys) d12) :
  wS (callF prog 8) w1 (Ew ns m b l3 l4 o5 d6 d7 l8 f9 l10 f11 (some d12) none) T Q:=by
 exists g8;change show xs.length<=16777216 by omega
 exists zam g10;change show ys.length<=16777216 by omega
 have u2:Up T ((T.push (.lst xs)).push (.lst ys)):=(Up.push _ _).trans (.push _ _);have hin:In ((T.push (.lst xs)).push (.lst ys)) d6 d7 T.len (T.push (.lst xs)).len xs ys:=⟨s6.ty,s7.ty,zam (zaf _ _),zaf _ _,fun x hx=>(t8 x hx).mono u2,fun y hy=>(t10 y hy).mono u2,by omega,by omega⟩;have h2:=h.up u2;rcases hd with ⟨e,rfl⟩|⟨c,f,d,k,e,rfl,hk,ty,a,ea⟩
 . specialize zfB hin e;specialize zki h2.m1 h2.m7 h2.b0 h2.b5 h2.g4 h2.li h2.ll;exact hQ _
 . obtain⟨x,T3,q,C⟩:=zf5 hin e;specialize q;have h3:=h2.up C.up;specialize zki h3.m1 h3.m7 h3.b0 h3.b5 h3.g4 h3.li h3.ll;specialize zea C.at_ hk (ty.mono (u2.trans C.up)) ⟨a,zgA (u2.trans C.up) ea⟩;exact t3 hQ h3
end
noncomputable def v4:CS:=.ifS (.nt (.tst (.call 16 0 (.cons (.loc 6) (.cons (.loc 1) .nil))))) (.asg 12 (.tup (.cons (.con (D.int 0)) (.cons (.loc 6) .nil))) .nil) .nil w1
noncomputable def v3:CS:=.ifS (.nt (.tst (.call 16 0 (.cons (.loc 7) (.cons (.loc 2) .nil))))) (.asg 12 (.tup (.cons (.con (D.int 0)) (.cons (.loc 7) .nil))) .nil) .nil v4
noncomputable def v2:CS:=.asg 12 (.loc 11) (.ifS (.cmp .IsNot (.loc 9) (.con D.non)) (.asg 12 (.loc 9) .nil) .nil v3)
theorem znc (hg:cn lo hi (.int g)=true)(h:cn lo hi d=false):sI g d=false:=by
 cases d with
 | int z=>
   simp[sI,decide_eq_false_iff_not];intro e;rw[e,hg] at h;cases h
 |_=>rfl
section
variable {T:R.St} {ns:List Int} {m b:Int} {l3 l4 l8 l10:Nat} {o5 o12:Option D} {d6 d7 f9 f11 d12:D} {hs:List Int} {Ls:List Ly} {xs ys:List D} {Q:Fl->R.St->Prop}
structure To (T:R.St) (m b:Int) (l8 l10:Nat) (d6 d7 f9 f11:D) (hs:List Int) (xs ys:List D):Prop where
 s6:Sc d6
 s7:Sc d7
 r6:d6=.int m\/cn 1 7 d6=false
 r7:d7=.int b\/cn 0 5 d7=false
 g8:T.get l8=some (.lst xs)
 g10:T.get l10=some (.lst ys)
 t8:∀x∈xs,Ty T x
 t10:∀y∈ys,Tyl T y
 n8:xs.length<=62
 n10:ys.length<=60
 r9:(f9=.non/\xs=hs.map .int)\/∃x,f9=.tup [.int 1,x]/\xs.find? (fun d=>!gh m d)=some x/\Od m T x
 r11:(f11=.non/\za5 m 0 ys=none)\/∃p:Nat,f11=.tup [.int 2,.int p]/\za5 m 0 ys=some p
theorem u4 (hQ:∀T,Q (.rt (.bl true)) T)(h:Dr T m b l3 l4 hs Ls)(t:To T m b l8 l10 d6 d7 f9 f11 hs xs ys)(hd:cn 1 7 d6=true->Du T (due d6 d7 xs ys) d12) :
  wS (callF prog 8) v4 (Ew ns m b l3 l4 o5 d6 d7 l8 f9 l10 f11 (some d12) none) T Q:=by
 specialize zhm t.s6.ty;rcases t.r6 with e|e
 . have es:sI m d6=true:=by rw[e];simp[sI]
   rw[es];exact t1 hQ h t.s6 t.s7 t.g8 t.g10 t.t8 t.t10 t.n8 t.n10 (hd (by rw[e];exact cn_m h))
 . rw[znc (cn_m h) e];change show 2<=16777216 by decide
   refine t1 hQ h t.s6 t.s7 t.g8 t.g10 t.t8 t.t10 t.n8 t.n10 (.inr ⟨0,"told",d6,0,?_,rfl,.inl ⟨rfl,rfl,rfl⟩,t.s6.ty,t.s6.pd 60⟩);unfold due;rw[e]
theorem u3 (hQ:∀T,Q (.rt (.bl true)) T)(h:Dr T m b l3 l4 hs Ls)(t:To T m b l8 l10 d6 d7 f9 f11 hs xs ys)(hd:cn 1 7 d6=true->cn 0 5 d7=true->Du T (due d6 d7 xs ys) d12) :
  wS (callF prog 8) v3 (Ew ns m b l3 l4 o5 d6 d7 l8 f9 l10 f11 (some d12) none) T Q:=by
 specialize zhm t.s7.ty;rcases t.r7 with e|e
 . have es:sI b d7=true:=by rw[e];simp[sI]
   rw[es];exact u4 hQ h t fun c=>hd c (by rw[e];exact cn_b h)
 . rw[znc (cn_b h) e];change show 2<=16777216 by decide
   refine u4 hQ h t fun c=>.inr ⟨0,"told",d7,0,?_,rfl,.inl ⟨rfl,rfl,rfl⟩,t.s7.ty,t.s7.pd 60⟩;unfold due;rw[c,e]
theorem iv_m (r:d=.int m\/cn 1 7 d=false)(c:cn 1 7 d=true):iv d=m:=by
 rcases r with rfl|r
 . rfl
 . rw[c] at r;cases r
theorem u2 (hQ:∀T,Q (.rt (.bl true)) T)(h:Dr T m b l3 l4 hs Ls)(t:To T m b l8 l10 d6 d7 f9 f11 hs xs ys) :
  wS (callF prog 8) v2 (Ew ns m b l3 l4 o5 d6 d7 l8 f9 l10 f11 none none) T Q:=by
 rcases t.r9 with ⟨rfl,e8⟩|⟨x,rfl,e8,ox⟩
 . left;refine u3 hQ h t fun c1 c2=>?_;unfold due;rw[c1,c2];rw[iv_m t.r6 c1,e8,zes h.hi];rcases t.r11 with ⟨rfl,e⟩|⟨p,rfl,e⟩
   . rw[e];exact .inl ⟨rfl,rfl⟩
   . rw[e];exact .inr ⟨3,"place",_,2,rfl,rfl,.inr (.inr ⟨rfl,rfl,rfl⟩),trivial,_,rfl⟩
 . left;refine u3 hQ h t fun c1 c2=>?_;unfold due;rw[c1,c2];rw[iv_m t.r6 c1,e8];exact .inr ⟨1,"hand",_,1,rfl,rfl,.inr (.inl ⟨rfl,rfl,rfl⟩),ox.ty,ox.pd⟩
end
noncomputable def v1:CS:=.asgT [8,9] (.call 19 0 (.cons (.loc 0) (.cons (.loc 3) (.cons (.loc 1) .nil)))) (.asgT [10,11] (.call 20 0 (.cons (.loc 0) (.cons (.loc 4) (.cons (.loc 1) .nil)))) v2)
noncomputable def v0:CS:=.asg 6 (.call 22 0 (.cons (.call 11 0 (.cons (.loc 0) (.cons (.con (D.int 2)) .nil))) (.cons (.loc 1) (.cons (.con (D.int 8)) (.cons (.con (D.int 1)) (.cons (.con (D.int 7)) .nil)))))) (.asg 7 (.call 22 0 (.cons (.call 11 0 (.cons (.loc 0) (.cons (.con (D.int 3)) .nil))) (.cons (.loc 2) (.cons (.con (D.int 6)) (.cons (.con (D.int 0)) (.cons (.con (D.int 5)) .nil)))))) v1)
noncomputable abbrev E0 (ns:List Int)(m b:Int)(l3 l4:Nat)(o5 o6 o7:Option D):Ev:=[some (.fix (ns.map .int)),some (.int m),some (.int b),some (.ref l3),some (.ref l4),o5,o6,o7,none,none,none,none,none,none]
section
variable {T:R.St} {ns:List Int} {m b:Int} {l3 l4:Nat} {o5:Option D} {d6 d7:D} {hs:List Int} {Ls:List Ly} {Q:Fl->R.St->Prop}
theorem u1 (hQ:∀T,Q (.rt (.bl true)) T)(h:Dr T m b l3 l4 hs Ls)(s6:Sc d6)(s7:Sc d7)(r6:d6=.int m\/cn 1 7 d6=false)(r7:d7=.int b\/cn 0 5 d7=false):wS (callF prog 8) v1 (E0 ns m b l3 l4 o5 (some d6) (some d7)) T Q:=by
 have m1:=h.m1;refine zcz ((zle (by omega) h.g3 h.hi h.hl).mono fun d T1 q=>?_);obtain⟨l8,f9,xs,rfl,B⟩:=q;have h1:=h.up B.up;exists rfl;refine zcz ((zlf h1.g4 h1.li h1.ll).mono fun d T2 q=>?_);obtain⟨l10,f11,ys,rfl,C⟩:=q;exists rfl;have hl:=h.hl;have ll:=h.ll;refine u2 hQ (h1.up C.up) ⟨s6,s7,r6,r7,C.up _ _ B.at_,C.at_,fun x hx=>(B.ty x hx).mono C.up,C.ty,by have:=B.ln;omega,by rw[C.ln];exact ll,?_,C.res⟩;rcases B.res with z|⟨x,z1,z2,z3⟩
 . exact .inl z
 . exact .inr ⟨x,z1,z2,z3.mono C.up⟩
theorem u0 (hQ:∀T,Q (.rt (.bl true)) T)(h:Dr T m b l3 l4 hs Ls):wS (callF prog 8) v0 (E0 ns m b l3 l4 o5 none none) T Q:=by
 obtain⟨d6,e6,s6,r6⟩:=zfA (sh:=8) (by decide) (by decide);obtain⟨d7,e7,s7,r7⟩:=zfA (sh:=6) (by decide) (by decide);specialize zcl;specialize e6;specialize zcl;specialize e7;exact u1 hQ h s6 s7 r6 r7
end
theorem zd5 {rest:Ev}{α:Type}(f:α->D)(P:α->Prop):∀(xs:List Int) (o:Option D),(∀y∈xs,∃x,evE cf e (some (.int y)::rest) S=.ok (f x) S/\P x)->
  ∃ys:List α,za4 [0] (evT cf (.tst (.con (.bl true)))) (evE cf e) (xs.map D.int) (o::rest) S=.ok (ys.map f) S/\ys.length=xs.length/\∀x∈ys,P x
 | [],o,_=>⟨[],rfl,rfl,fun x h=>by cases h⟩
 | y::xs,o,h=>by
   obtain⟨x,e1,pd⟩:=h y mem_cons_self;obtain⟨ys,e2,l2,p2⟩:=zd5 f P xs (some (.int y)) fun z hz=>h z (mem_cons_of_mem _ hz);refine⟨x::ys,?_,by simp[l2],fun z hz=>?_⟩
   . simp[map_cons,za4,asgG,List.set_cons_zero];show Out.bind (.ok true S) _=_;rw[zao,if_pos rfl,e1,zao,e2,zao]
   . rcases mem_cons.mp hz with e|e
     . rw[e];exact pd
     . exact p2 z e
theorem law_true (ns:List Int)(h:ns.length<=63):W (callF prog 9 23 [.fix (ns.map .int)] ⟨[],[],[]⟩) fun d _=>d=.bl true:=by
 apply zoj rfl rfl;have hb0:=emod_nonneg (zcu ns 1) (by decide:(6:Int)≠0);have hb6:=Int.emod_lt_of_pos (zcu ns 1) (by decide:(0:Int)<6);obtain⟨m,hm⟩:∃m:Nat,1+zcu ns 0 % 7=m:=⟨(1+zcu ns 0 % 7).toNat,by omega⟩;have m7:m<=7:=by omega
 have hc60:∀(a c:Nat),c<=a+60->(cut ns (some (a:Int)) (some (c:Int))).length<=60:=fun a c hac=>by
  unfold cut;rw[length_take];apply le_trans (Nat.min_le_left _ _);unfold sIx;dsimp only;rw[if_neg (by omega),if_neg (by omega)];omega
 left;specialize zcl;left;change by decide
 left;rw[hm];specialize zcl;left;change by decide
 left;generalize zcu ns 1 % 6=b at *;rw[zfg];have c69:(cut ns (some 6) (some 9)).length<=60:=hc60 6 9 (by decide);change by rw[length_map];exact le_trans c69 (by decide)
 left;apply zbb rfl;left;apply zaY;refine W.of (zdb (fun d=>match d with|.int v=>.int (v % 10 ^ 64 % m)|d=>d) _ none (fun z hz=>rfl) (fun z hz=>?_)) ?_
 . obtain⟨v,_,rfl⟩:=mem_map.mp hz;refine W.eq (wE_W _ ?_);left;change by first|decide|omega|(simp;done)|(simp;omega)
   left;change by first|decide|omega|(simp;done)|(simp;omega)
   left;change by omega
   left;exact⟨rfl,rfl⟩
 rw[map_map,show ((fun d=>match d with|D.int v=>D.int (v % 10 ^ 64 % m)|d=>d)∘D.int)=D.int∘(fun v:Int=>v % 10 ^ 64 % m) from rfl,<-map_map];obtain⟨hs,ehs⟩:∃hs,hs=(cut ns (some 6) (some 9)).map fun v:Int=>v % 10 ^ 64 % m:=⟨_,rfl⟩;have hi:∀i∈hs,0<=i/\i<(m:Int):=fun i hi=>by
  rw[ehs] at hi;obtain⟨v,_,rfl⟩:=mem_map.mp hi;exact⟨emod_nonneg _ (by omega),Int.emod_lt_of_pos _ (by omega)⟩
 have hl:hs.length<=60:=by rw[ehs,length_map];exact c69
 rw[<-ehs];change by rw[length_map];omega
 left;change by rw[length_map];omega
 left;change by first|decide|omega|(simp;done)|(simp;omega)
 left;generalize (MO.lst ((cut ns (some 6) (some 9)).map .int))=o0;refine zbS (fun c=>?_) (fun c=>?_)
 . left;specialize zcl;left;change by decide
   left;change by decide
   left;generalize decide (zcu ns 0 / 7 % 2=1)=dg;have c62:(cut ns (some 9) (some 62)).length<=60:=hc60 9 62 (by decide);rw[zfg];change by rw[length_map];exact le_trans c62 (by decide)
   left;have hx:∀(S:R.St),∀y∈cut ns (some 9) (some 62),∃x,evE (callF prog 8) (.call 14 0 (.cons (.call 13 0 (.cons (.loc 0) (.cons (.loc 2) .nil))) (.cons (.loc 1) .nil))) [some (.int y),some (.int m),some (.bl dg)] S=.ok (lyD x) S/\LyOk m x:=fun S y _=>by
    obtain⟨v,hv,v0⟩:=zi7;obtain⟨x,hx,ok⟩:=zna (by omega) m7 v0;refine⟨x,W.eq (wE_W _ ?_),ok⟩;left;specialize hv;left;specialize hx;left;exact⟨rfl,rfl⟩
   exists zaf _ _;left;apply zaY;obtain⟨Ls,e1,l1,p1⟩:=zd5 lyD (LyOk m) (cut ns (some 9) (some 62)) none (hx _);apply W.of e1;change by rw[length_map];omega
   left;change by rw[length_map];omega
   left;refine u0 (fun T=>rfl) ⟨by omega,by omega,hb0,by omega,?_,?_,hi,p1,hl,by omega⟩
   . rfl
   . exact zaf _ _
 . left;refine u0 (Ls:=[]) (fun T=>rfl) ⟨by omega,by omega,hb0,by omega,?_,?_,hi,(fun x hx=>nomatch hx),hl,by decide⟩
   . rfl
   . rfl
end
section
open PySem R L2
end
end Kz
open PySem PySem.W PyProof.Rows
set_option maxRecDepth 100000 in
set_option maxHeartbeats 0 in
theorem PySem.Challenge.cw_traitorround_k22_settings_refused_holds : PySem.Challenge.rw_traitorround_k22_settings_refused.Holds := by
 w_on;o_law;k_head;(case hw=>w_witness2)
 k_fill
 refine L2.walk_of (l:=PySem.Challenge.rw_traitorround_k22_settings_refused) (n:=63) (k:=19) (x:="_law_script") (CX:=fun _=>L2.CX0) (sp:=fun w=>R.spF _ (R.callF Kz.prog 9) 23) rfl (by decide) rfl ⟨rfl,by decide,by decide⟩ (fun w h Y=>PySem.W.kIn_of Y) ?F (fun _ _ a ns hl hO hS=>R.law_sp rfl hO hS (Kz.law_true ns hl)) fun _ _ _ _ _ z=>z
 case F=>
  intro w mg fa h KX G hmg;apply R.all_of0 (n:=8) KX G hmg Kz.O24 (le_refl _)
  . (repeat' (first|exact trivial|apply R.AllAtG.cons|apply R.AllInG.cons))
    . apply R.clOk (c:=0) KX G rfl<;>first|k_is|((repeat' (first|exact trivial|apply R.AllAtG.cons|apply R.AllInG.cons))<;>k_is)
  . (repeat' (first|exact trivial|apply R.AllAtG.cons|apply R.AllInG.cons))<;>k_is
  . (repeat' (first|exact trivial|apply R.AllAtG.cons|apply R.AllInG.cons))<;>(apply R.coOk;k_is)
  . intro base
    (repeat' (first|exact trivial|apply R.AllAtG.cons|apply R.AllInG.cons))
    . apply R.dOk KX G Kz.O23<;>k_is
    . apply R.dOk KX G Kz.O14<;>k_is
    . apply R.dOk KX G Kz.O20<;>k_is
    . apply R.dOk KX G Kz.O21<;>k_is
    . apply R.dOk KX G Kz.O15<;>k_is
    . apply R.dOk KX G Kz.O17<;>k_is
    . apply R.dOk KX G Kz.O18<;>k_is
    . apply R.dOk KX G Kz.O6<;>k_is
    . apply R.dOk KX G Kz.O7<;>k_is
    . apply R.dOk KX G Kz.O22<;>k_is
    . apply R.dOk KX G Kz.O19<;>k_is
    . apply R.dOk KX G Kz.O4<;>k_is
    . apply R.dOk KX G Kz.O16<;>k_is
    . apply R.dOk KX G Kz.O10<;>k_is
    . apply R.dOk KX G Kz.O13<;>k_is
    . apply R.dOk KX G Kz.O8<;>k_is
    . apply R.dOk KX G Kz.O12<;>k_is
    . apply R.dOk KX G Kz.O9<;>k_is
    . apply R.dOk KX G Kz.O5<;>k_is
    . apply R.dOk KX G Kz.O1<;>k_is
    . apply R.dOk KX G Kz.O3<;>k_is
    . apply R.dOk KX G Kz.O11<;>k_is
    . apply R.dOk KX G Kz.O0<;>k_is
    . apply R.dOk KX G Kz.O24<;>k_is
  . intro hc
    (repeat' (first|exact trivial|apply R.AllAtG.cons|apply R.AllInG.cons))
  . (repeat' (first|exact trivial|apply R.AllAtG.cons|apply R.AllInG.cons))
    . apply R.iOkD (c:=0) (n:=5) (items:=#[Value.none,Value.none]) Kz.O2 rfl (fun _ _ _ _ _ _ _=>Kz.us5 fun _ _ _ _ _=>⟨_,rfl,rfl⟩) rfl<;>k_is
  . (repeat' (first|exact trivial|apply R.AllAtG.cons|apply R.AllInG.cons))
  . (repeat' (first|exact trivial|apply R.AllAtG.cons|apply R.AllInG.cons))
  . decide +kernel
  . (repeat' (first|exact trivial|apply R.AllAtG.cons|apply R.AllInG.cons))<;>apply R.XGet.mk<;>k_is
  . (repeat' (first|exact trivial|apply R.AllAtG.cons|apply R.AllInG.cons))<;>apply R.IsaOk.mk<;>k_is
  . (repeat' (first|exact trivial|apply R.AllAtG.cons|apply R.AllInG.cons))
    . apply R.xcOk (c:=0) KX G Kz.ox_NoCount rfl<;>first|k_is|with_unfolding_all rfl
    . apply R.xcOk (c:=1) KX G Kz.ox_NoHand rfl<;>first|k_is|with_unfolding_all rfl
    . apply R.xcOk (c:=3) KX G Kz.ox_NoLetter rfl<;>first|k_is|with_unfolding_all rfl
  . (repeat' (first|exact trivial|apply R.AllAtG.cons|apply R.AllInG.cons))<;>(repeat' (first|exact trivial|apply R.AllAtG.cons|apply R.AllInG.cons))<;>k_is
  . (repeat' (first|exact trivial|apply R.AllAtG.cons|apply R.AllInG.cons))
    . apply R.xisOk KX G<;>first|k_is|((repeat' (first|exact trivial|apply R.AllAtG.cons|apply R.AllInG.cons))<;>first|k_is|with_unfolding_all rfl)
    . apply R.xisOk KX G<;>first|k_is|((repeat' (first|exact trivial|apply R.AllAtG.cons|apply R.AllInG.cons))<;>first|k_is|with_unfolding_all rfl)
    . apply R.xisOk KX G<;>first|k_is|((repeat' (first|exact trivial|apply R.AllAtG.cons|apply R.AllInG.cons))<;>first|k_is|with_unfolding_all rfl)
    . apply R.xisOk KX G<;>first|k_is|((repeat' (first|exact trivial|apply R.AllAtG.cons|apply R.AllInG.cons))<;>first|k_is|with_unfolding_all rfl)
    . apply R.xisOk KX G<;>first|k_is|((repeat' (first|exact trivial|apply R.AllAtG.cons|apply R.AllInG.cons))<;>first|k_is|with_unfolding_all rfl)
    . apply R.xisOk KX G<;>first|k_is|((repeat' (first|exact trivial|apply R.AllAtG.cons|apply R.AllInG.cons))<;>first|k_is|with_unfolding_all rfl)
  . (repeat' (first|exact trivial|apply R.AllAtG.cons|apply R.AllInG.cons))
    . apply R.xibOk KX G (by decide) rfl<;>first|k_is|((repeat' (first|exact trivial|apply R.AllAtG.cons|apply R.AllInG.cons))<;>first|k_is|with_unfolding_all rfl)
  . (repeat' (first|exact trivial|apply R.AllAtG.cons|apply R.AllInG.cons))
    . apply R.xtrOk KX G<;>first|k_is|((repeat' (first|exact trivial|apply R.AllAtG.cons|apply R.AllInG.cons))<;>first|k_is|with_unfolding_all rfl)
  all_goals k_is
end

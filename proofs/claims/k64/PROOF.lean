import PyProof.Rows.All
import Wide.All
import OpenK.AllK
import Wide.FinOn
import Lean
import PyProof.EqAt
import PyProof.EqKinds
import PyProof.TupleCall
import PyProof.P3Statements
import PyProof.Dict
import PySem.Syntax
import PySem.Challenge.RW_traitorround_k64_heard_and_ended
set_option Elab.async false
set_option linter.all false
set_option maxHeartbeats 4000000
set_option maxRecDepth 100000
set_option bootstrap.genMatcherCode false
open PySem.W (Frag KatTups Looks callWith_K callWith_K0 cellsFrom_some codeHdIn codeIn emptyDict findCls findIn fnOf handedIn hasDictIn instObj isFn kat_cons kat_no kat_one keepIn kia_one kitOne kitx_dict kitx_list kla_fn kla_obj lookIn makesIn methodObj mg_of mroIn nsIn plainGet plainGet_of plainOver readsIn specialIn tabObj takerIn takesIn)
open Bool (and_eq_true not_eq_true' or_eq_true)
open Nat (le_of_eq le_of_lt le_refl le_succ le_trans lt_irrefl lt_of_lt_of_le lt_succ_of_lt lt_succ_self lt_trans ne_of_gt ne_of_lt zero_add zero_le)
open List (Pairwise all_cons all_eq_true any_cons append_assoc append_nil contains_cons ext_getElem? flatten_cons getElem?_append_left getElem?_append_right getElem?_map getElem?_set getElem?_set_ne getElem?_set_self isEmpty_iff length_append length_cons length_eq_zero_iff length_filter_le length_map length_mapIdx length_nil length_range length_replicate length_take lookup_cons mapM_cons map_append map_cons map_nil mem_append mem_append_left mem_append_right mem_cons mem_cons_of_mem mem_cons_self mem_filter mem_iff_getElem? mem_map mem_of_getElem? mem_range mem_singleton nodup_append nodup_cons not_mem_nil of_mem_zip pairwise_cons pairwise_map prefix_append prefix_refl replicate_succ size_toArray)
open Array (length_toList)
open Option (bind_some)
open Int (emod_nonneg)
namespace PySem.W.Fast
def tw7387056480560541752:=0
def tw10279197678785186108:=0
def tw10257505048842304541:=0
def tw1251861330573806627:=0
def tw12116469213371349290:=0
def tw15553199654357623870:=0
def tw9380821086154353724:=0
def tw656922440737718342:=0
def tw7218216758039982121:=0
def tw2493076429570659935:=0
def tw2102238527617490740:=0
def tw1277282578440207666:=0
def tw7237699497230133579:=0
def tw8788262806383768420:=0
def tw13832951802193557188:=0
def tw1601894997596388104:=0
def tw10448101064216105081:=0
def tw15754325655849469626:=0
def tw9873038502233044556:=0
def tw10632847399319856803:=0
def tw5753682776083824809:=0
def tw1381472894230482834:=0
def tw16007067998039888709:=0
def tw15107214235553776637:=0
def tw7573728126784803831:=0
def tw13861537151441693535:=0
def tw16290358101271328893:=0
def tw14933549227302364629:=0
def tw15919965220306957268:=0
def tw10974101885132031259:=0
def tw13405158331869983769:=0
def tw5681838578854957776:=0
def tw16443895258956544445:=0
def tw3170497952024024363:=0
def tw4913836620577209415:=0
def tw15799096628393209452:=0
def tw7308612514541581462:=0
def tw2871487334914699839:=0
def tw8068863855168247160:=0
def tw13717674704206221228:=0
def tw7263364035856053721:=0
def tw8467405884306506053:=0
def tw16768171200777064420:=0
def tw5998667983599688178:=0
def tw6062610806476512712:=0
def tw1957592935619557460:=0
def tw2011963646191834699:=0
def tw8159020194076655858:=0
def tw17828217590101326432:=0
def tw2129727031605648131:=0
def tw888150029578207949:=0
def tw9281584126447687649:=0
def tw9073447267877540705:=0
def tw3798826118640616113:=0
def tw3265953638805353440:=0
def tw10868285423983084666:=0
def tw4526490516290173229:=0
def tw18324661934808055166:=0
def tw12919952862177906612:=0
def tw12022950189936382070:=0
def tw10681173703751143603:=0
def tw3023458934561895509:=0
def tw17316140203155602395:=0
def tw14254860763121722391:=0
def tw684078109588701514:=0
def tw14161198617281060589:=0
def tw14981218005420134938:=0
def tw17382606871669992338:=0
def tw18093292806834244302:=0
def tw10424781652434072203:=0
def tw16079764005656272282:=0
def tw16892108898955227285:=0
def tw7212828445608304922:=0
def tw1570478049669374674:=0
def tw6725595103096897062:=0
def tw15602979513141331976:=0
def tw16264243968829847020:=0
def tw6966617746457841260:=0
def tw17214177626393106637:=0
def tw13506054275010914076:=0
def tw13730485874655131324:=0
def tw14925418221312011652:=0
def tw5857590524972610383:=0
def tw11443582387409400738:=0
def tw8810313090294792211:=0
def tw12881674897983750596:=0
def tw10256173921656116756:=0
def tw5699771530905320624:=0
def tw685444126296014180:=0
def tw3513880413430701869:=0
def tw15428246510062276258:=0
def tw5384640300221266188:=0
def tw5461045113388355256:=0
def tw5035975167714016424:=0
def tw4338158073278523742:=0
def tw2381778563304928600:=0
def tw8041205395471922021:=0
def tw13934453037989957109:=0
def tw8305006567748406433:=0
def tw2359126185311648431:=0
def tw9422455892629098495:=0
def tw142060035732416464:=0
def tw2257000472205205634:=0
def tw11818691156770403352:=0
def tw7582057156851116389:=0
def tw8550475981758952503:=0
def tw2351989649814515734:=0
def tw16632782277414508425:=0
def tw12946917217529136471:=0
def tw2272782581024234439:=0
def tw8465241050248160439:=0
def tw4320816603756585004:=0
def tw10542165459940338959:=0
def tw3607918171017959977:=0
def tw5343514639928609057:=0
def tw2792838771878040842:=0
def tw12399265222509982386:=0
def tw5354932886772803529:=0
def tw17503451029468081048:=0
def tw11739422097912155819:=0
def tw9134979831036762141:=0
def tw859326439221562577:=0
def tw7837555410842167745:=0
def tw7811265979262363382:=0
def tw16541448807691044788:=0
def tw12053994205831030273:=0
def tw16747214431365762332:=0
def tw9263919600570729399:=0
def tw16993191898908812302:=0
def tw17348756489535435117:=0
def tw11145924409304658856:=0
def tw4177429408633516993:=0
def tw17521800615941241357:=0
def tw4570123579362289441:=0
def tw17768552624433217379:=0
def tw8767983569766733443:=0
def tw4802497398341784981:=0
def tw15130118482551304870:=0
def tw5561456684041337950:=0
def tw6262777429637568711:=0
def tw17906775367408719821:=0
def tw3238133374143493116:=0
def tw4914328916914157712:=0
def tw9045273001958678481:=0
def tw14841954243196959980:=0
def tw1564971016644535076:=0
def tw5416050092218487503:=0
def tw5626299320637787144:=0
def tw13116841714673493512:=0
def tw15587376881036390525:=0
def tw6861936849209723784:=0
def tw12083940853289983140:=0
def tw846659662178588470:=0
def tw10606867104503564411:=0
def tw8991867897612738062:=0
def tw6586024101837113558:=0
def tw619035988714003354:=0
def tw14361265964381534977:=0
def tw5649511248756580129:=0
def tw2485029831959991868:=0
def tw6637792871750579409:=0
def tw13469315011028211210:=0
def tw15802830266235115275:=0
def tw11165597708556011686:=0
def tw8508534170864567564:=0
def tw16363521088736412284:=0
def tw3112285484286427807:=0
def tw8011320239517131473:=0
def tw13515598535623933243:=0
def tw4007102977987173053:=0
def tw13310547888299105146:=0
def tw13067588912200497170:=0
def tw13535877889184566523:=0
def tw11913939084423742490:=0
def tw8056923703071901678:=0
def tw8606116643037587963:=0
def tw7794231550974395514:=0
def tw911290032598380735:=0
def tw5606251267619237493:=0
def tw16453580349593528684:=0
def tw1423317661333271140:=0
def tw1550690387197803161:=0
def tw15886282663938287000:=0
def tw17372304863726645925:=0
def tw13456752913383606499:=0
def tw6414652714370556435:=0
def tw18435561356634322401:=0
def tw18127068164075872603:=0
def tw8223526778365455597:=0
def tw8510809977056043143:=0
def tw9315957287963644184:=0
def tw9271617306506694157:=0
def tw16782636239819380864:=0
def tw6783991168014483062:=0
def tw15576378474076529100:=0
def tw1755643160130561816:=0
def tw10343168605014253805:=0
def tw15740195580126121389:=0
def tw16828753264249192738:=0
def tw16691428658201335000:=0
def tw12824647145477317866:=0
def tw5517108133848429537:=0
def tw13688977915423758159:=0
def tw2404647279977639419:=0
def tw4744168515539725963:=0
def tw5008727789084807600:=0
def tw17686191872408986494:=0
def tw12174964194884683768:=0
def tw11877513683393363684:=0
def tw1250858275349627213:=0
def tw10973341735837962296:=0
def tw10746575604288267853:=0
def tw3254246856669841966:=0
def tw14499525102920145846:=0
def tw5906475176704500850:=0
def tw2100560190881441290:=0
def tw11456570914368723035:=0
def tw4878070313310877608:=0
def tw4943671071221355554:=0
def tw9855341236788870938:=0
def tw12580919922483804677:=0
def tw16217468455831260757:=0
def tw9764179856487525589:=0
def tw7456089349601188941:=0
def tw1525434373784080434:=0
def tw5044412495473471765:=0
def tw1208385423560570059:=0
def tw14246037147174159742:=0
def tw16824508833983142448:=0
def tw7002740577644906310:=0
def tw8375146143004005765:=0
def tw5930728083131475710:=0
def tw5286392393735560211:=0
def tw6188988205533574866:=0
def tw11848445138470131253:=0
def tw8091067979023884300:=0
def tw7245559382716800697:=0
def tw8286038592513354473:=0
def tw11726508604596589876:=0
def tw5182533612580114143:=0
def tw4059425483221791105:=0
def tw15489479997674123379:=0
def tw8832247740968655307:=0
def tw8836697807532750377:=0
def tw7115386308277575637:=0
def tw1679850172394337509:=0
def tw1037829322376238610:=0
def tw17499043813116796888:=0
def tw15959359263695078945:=0
def tw13125011437745404174:=0
end PySem.W.Fast
namespace L2
theorem ex5{α β:Type}{A B C:α->β->Prop}{P:Prop}(f:∀a b,A a b->B a b->C a b->P):(∃a b,A a b/\B a b/\C a b)->P:=fun⟨a,b,h1,h2,h3⟩=>f a b h1 h2 h3
open PySem PySem.Spec PyProof.Rows
abbrev Key:=Sum Int Str
noncomputable def zfz:Key->Value->Bool
 |.inl k,v=>Value.isInt k v|.inr x,v=>Value.isStrOf x v
noncomputable def keyH(w:World):Key->Int
 |.inl k=>hashInt k|.inr x=>hashStr w x
theorem zaz:∀{k:Key}{v:Value},zfz k v=true->(∃i t,k=Sum.inl i/\v=Value.int i t)\/(∃x t,k=Sum.inr x/\v=Value.str x t)
 |.inl i,v,h=>by obtain⟨t,e⟩:=Value.isInt_shape h;exact .inl ⟨i,t,rfl,e⟩| .inr x,v,h=>by obtain⟨t,e⟩:=Value.isStrOf_shape h;exact .inr ⟨x,t,rfl,e⟩
theorem zjP(i:Int)(t:Tok):zfz (.inl i) (.int i t)=true:=by simp[zfz,Value.isInt]
theorem zjO(x:Str)(t:Tok):zfz (.inr x) (.str x t)=true:=by simp[zfz,Value.isStrOf]
theorem zqZ(a b:Int):decide ((Sum.inl a:Key)=Sum.inl b)=(a==b):=by grind
theorem zqW(a b:Str):decide ((Sum.inr a:Key)=Sum.inr b)=decide (a=b):=by simp
theorem zqY(a:Int)(b:Str):decide ((Sum.inl a:Key)=Sum.inr b)=false:=decide_eq_false (fun q=>nomatch q)
theorem zqX(a:Str)(b:Int):decide ((Sum.inr a:Key)=Sum.inl b)=false:=decide_eq_false (fun q=>nomatch q)
noncomputable def zas(prog:Program)(w:World):PySem.KeyKind prog w Key where
 is:=zfz
 hash:=keyH w
 inj:=fun v a b ha hb=>by rcases zaz ha with⟨i,t,rfl,rfl⟩|⟨x,t,rfl,rfl⟩;rcases zaz hb with⟨j,u,rfl,e⟩|⟨y,u,rfl,e⟩;injection e with e1 _;rw[e1];exact nomatch e;rcases zaz hb with⟨j,u,rfl,e⟩|⟨y,u,rfl,e⟩;exact nomatch e;injection e with e1 _;rw[e1]
 byValue:=fun k v h=>by rcases zaz h with⟨i,t,rfl,rfl⟩|⟨x,t,rfl,rfl⟩<;>rfl
 pyHash:=fun hv h=>by rcases zaz hv with⟨i,t,rfl,rfl⟩|⟨x,t,rfl,rfl⟩;exact wpAny_pyHash_int h;exact wpAny_pyHash_str h
 eqBool:=fun hu hv h=>by rcases zaz hu with⟨i,t,rfl,rfl⟩|⟨x,t,rfl,rfl⟩;rcases zaz hv with⟨j,u,rfl,rfl⟩|⟨y,u,rfl,rfl⟩;rw[zqZ]at h;exact wpAny_eqBool_int h;rw[zqY]at h;exact SeqAt.EqAt.int_str i t y u _ _ _ _ h;rcases zaz hv with⟨j,u,rfl,rfl⟩|⟨y,u,rfl,rfl⟩;rw[zqX]at h;exact SeqAt.EqAt.str_int x t j u _ _ _ _ h;rw[zqW]at h;exact wpAny_eqBool_str h
 «strs»:=fun k x t v h=>by
  rcases zaz h with⟨i,u,rfl,e⟩|⟨y,u,rfl,e⟩;exact nomatch e
  . injection e with e1 _;subst e1;cases v<;>rfl
theorem zgp(prog:Program)(w:World)(i:Int)(t:Tok):(zas prog w).is (.inl i) (.int i t)=true:=zjP i t
theorem zgo(prog:Program)(w:World)(x:Str)(t:Tok):(zas prog w).is (.inr x) (.str x t)=true:=zjO x t
inductive V where
 |non|bl (b:Bool)|int (i:Int)|str (x:Str)|byt (b:Array UInt8)|flt (b:UInt64)|ref (a:Addr)|ty (n:String)
 deriving DecidableEq
def RelV:V->Value->Prop
 |.non,u=>u=Value.none|.bl b,u=>u=Value.bool b|.int i,u=>∃t,u=Value.int i t|.str x,u=>∃t,u=Value.str x t|.byt b,u=>∃t,u=Value.bytes b t|.flt b,u=>∃t,u=Value.float b t|.ref a,u=>u=Value.ref a|.ty n,u=>u=Value.type n
abbrev Vals:List V->List Value->Prop:=Paired RelV
theorem Vals.length(r:Vals xs us):xs.length=us.length:=Paired.length r
theorem Vals.get:∀{xs:List V}{us:List Value}{i:Nat}{x:V},Vals xs us->xs[i]?=some x->∃u,us[i]?=some u/\RelV x u
 |_,_,_,_,.nil,e=>by simp at e|_,_,0,_,.cons r _,e=>by simp at e;subst e;exact⟨_,rfl,r⟩| _,_,i+1,x,.cons _ t,e=>by obtain⟨u,h1,h2⟩:=Vals.get t (by simpa using e);exact⟨u,by simpa using h1,h2⟩
theorem Vals.set(r:RelV x u):∀{xs:List V}{us:List Value}(i:Nat),Vals xs us->Vals (xs.set i x) (us.set i u)
 |_,_,_,.nil=>.nil|_,_,0,.cons _ t=>.cons r t|_,_,i+1,.cons q t=>.cons q (Vals.set r i t)
theorem Vals.append:∀{xs ys:List V}{us ws:List Value},Vals xs us->Vals ys ws->Vals (xs++ys) (us++ws)
 |_,_,_,_,.nil,s=>s|_,_,_,_,.cons r t,s=>.cons r (Vals.append t s)
theorem Vals.take:∀{xs:List V}{us:List Value}(n:Nat),Vals xs us->Vals (xs.take n) (us.take n)
 |_,_,0,_=>.nil|_,_,_+1,.nil=>.nil|_,_,n+1,.cons r t=>.cons r (Vals.take n t)
theorem Vals.drop:∀{xs:List V}{us:List Value}(n:Nat),Vals xs us->Vals (xs.drop n) (us.drop n)
 |_,_,0,r=>r|_,_,_+1,.nil=>.nil|_,_,n+1,.cons _ t=>Vals.drop n t
def RelO:Option V->Option Value->Prop
 |some v,some u=>RelV v u|none,none=>True|_,_=>False
def KV:List (κ×V)->List (κ×Value)->Prop:=Paired fun(p:κ×V) (q:κ×Value)=>p.1=q.1/\RelV p.2 q.2
noncomputable def kV:Key->V
 |.inl i=>.int i|.inr x=>.str x
inductive HO where
 |lst (xs:List V)
 |tup (xs:List V)
 |dK (kvs:List (Key×V))|dT (kvs:List (List Key×V))
 |set (S:Int->Bool) (n:Nat)
 |ins (C dx:Addr) (fs:List (Str×V))
 |own (x:Addr)
 |xd (fs:List (Str×V))
 |met (f x:Addr)
 |rng (lo hi:Int)
 |frz (o:Obj) (u:HO)
 |tbl (ps:Array Value)
 |ext (φ:Heap->Prop)
abbrev Hp:=Addr->Option HO
noncomputable def upd(H:Hp)(a:Addr)(o:HO):Hp:=fun b=>if b=a then some o else H b
theorem zal:upd H a o a=some o:=by unfold upd;rw[if_pos rfl]
theorem zag(h:b≠a):upd H a o b=H b:=by unfold upd;rw[if_neg h]
theorem ne_of{H:Hp}(h:H a=some o)(h':H b=some u)(d:o≠u):a≠b:=by intro e;subst e;rw[h]at h';exact d (Option.some.inj h')
theorem zam{H:Hp}(h:H a=some o)(h':H b=none):a≠b:=by intro e;subst e;rw[h]at h';cases h'
section
variable(P:Program)(w:World)
def ObjOk(H:Hp)(h:Heap)(a:Addr):HO->Prop
 |.lst xs=>xs.length<=sizeLine/\∃(its:List Value) (n:Nat),Vals xs its/\h.get? a=some {cls:=.type "list",data:=.seq its.toArray n}|.tup xs=>xs.length<=sizeLine/\∃its:List Value,Vals xs its/\IsTup h a its.toArray|.dK kvs=>kvs.length<=sizeLine/\(a==sysModules)=false/\∃vs,KV kvs vs/\h.DictOf (zas P w) a vs
 |.dT kvs=>kvs.length<=sizeLine/\(a==sysModules)=false/\∃xs:List (List Key×Addr×Value),
  Paired (fun(p:List Key×V) (q:List Key×Addr×Value)=>p.1=q.1/\H q.2.1=some (.tup (p.1.map kV))/\RelV p.2 q.2.2) kvs xs/\
  ∃o es ep,h.get? a=some o/\o.ExactDict/\o.data=.dict es ep/\es.toList=xs.map (entryOfKey (tupleKind (zas P w)))/\(xs.map (·.1)).Nodup
 |.set S n=>h.SetOf (intKind P w) a S n
 |.ins C dx fs=>H dx=some (.own a)/\fs.length<=1000/\dx≠a/\h.get? a=some (instObj C dx)/\
  ∃mA,h.Ns1 dx mA/\(∀f,RelO (fs.lookup f) (mA f))/\PySem.Within mA (fs.map (·.1))
 |.own _=>∃o,h.get? a=some o|.xd fs=>∃mA,h.Ns1 a mA/\∀f,RelO (fs.lookup f) (mA f)|.rng lo hi=>∃t u v,h.get? a=some {cls:=.type "range",data:=.fields #[.int lo t,.int hi u,.int 1 v]}|.frz o u=>h.get? a=some o/\ObjOk H h a u|.tbl ps=>h.get? a=some {cls:=.none,data:=.fields ps}|.met f x=>h.get? a=some (methodObj (.ref f) (.ref x))|.ext φ=>φ h/\(∃o,h.get? a=some o)/\∀h1 h2:Heap,φ h1->(∀o,h1.get? a=some o->h2.get? a=some o)->φ h2
def HOk(H:Hp)(h:Heap):Prop:=∀a o,H a=some o->ObjOk P w H h a o
end
section
variable{P:Program}{w:World}{H H':Hp}{h h':Heap}{a:Addr}{o:HO}
theorem ObjOk.lt(x:ObjOk P w H h a o):a<h.objs.size:=by cases o with|lst xs=>obtain⟨_,_,_,_,e⟩:=x;exact Heap.lt_size e|tup xs=>obtain⟨_,_,_,p⟩:=x;exact p.lt|dK kvs=>obtain⟨_,_,_,_,o,_,_,e,_⟩:=x;exact Heap.lt_size e|dT kvs=>obtain⟨_,_,_,_,o,_,_,e,_⟩:=x;exact Heap.lt_size e|set S n=>obtain⟨o,_,_,_,e,_⟩:=x;exact Heap.lt_size e|ins C dx fs=>obtain⟨_,_,_,e,_⟩:=x;exact Heap.lt_size e|own y=>obtain⟨_,e⟩:=x;exact Heap.lt_size e|xd fs=>obtain⟨_,⟨_,_,_,e,_⟩,_⟩:=x;exact Heap.lt_size e|rng lo hi=>obtain⟨_,_,_,e⟩:=x;exact Heap.lt_size e|frz ob u=>obtain⟨e,_⟩:=x;exact Heap.lt_size e|tbl ps=>exact Heap.lt_size x|met f y=>exact Heap.lt_size x|ext φ=>obtain⟨_,⟨_,e⟩,_⟩:=x;exact Heap.lt_size e
theorem Paired.mapP:∀{l₁:List α}{l₂:List β},Paired F l₁ l₂->(∀a b,F a b->G a b)->Paired G l₁ l₂
 |_,_,.nil,_=>.nil|_,_,.cons r t,f=>.cons (f _ _ r) (Paired.mapP t f)
theorem ObjOk.stay(x:ObjOk P w H h a o)(k:∀b u,(b=a\/H b=some (.own a))->h.get? b=some u->h'.get? b=some u)
  (ho:∀b,H b=some (.own a)->H' b=some (.own a)) (ht:∀b xs,H b=some (.tup xs)->H' b=some (.tup xs)):ObjOk P w H' h' a o:=by
 induction o with|lst xs=>obtain⟨z,its,n,r,e⟩:=x;exact⟨z,its,n,r,k _ _ (.inl rfl) e⟩|tup xs=>obtain⟨z,its,r,ob,e,c⟩:=x;exact⟨z,its,r,ob,k _ _ (.inl rfl) e,c⟩|dK kvs=>obtain⟨z,y,vs,r,ob,es,ep,e,c⟩:=x;exact⟨z,y,vs,r,ob,es,ep,k _ _ (.inl rfl) e,c⟩| dT kvs=>obtain⟨z,y,xs,r,ob,es,ep,e,c⟩:=x;exact⟨z,y,xs,Paired.mapP r fun p q z=>⟨z.1,ht _ _ z.2.1,z.2.2⟩,ob,es,ep,k _ _ (.inl rfl) e,c⟩|set S n=>obtain⟨ob,es,ep,t,e,c⟩:=x;exact⟨ob,es,ep,t,k _ _ (.inl rfl) e,c⟩| ins C dx fs=>obtain⟨d,z,ne,e,mA,⟨od,es,ep,e2,c⟩,r⟩:=x;exact⟨ho _ d,z,ne,k _ _ (.inl rfl) e,mA,⟨od,es,ep,k _ _ (.inr d) e2,c⟩,r⟩|own y=>obtain⟨ob,e⟩:=x;exact⟨ob,k _ _ (.inl rfl) e⟩|xd fs=>obtain⟨mA,⟨od,es,ep,e,c⟩,r⟩:=x;exact⟨mA,⟨od,es,ep,k _ _ (.inl rfl) e,c⟩,r⟩|rng lo hi=>obtain⟨t,u,v,e⟩:=x;exact⟨t,u,v,k _ _ (.inl rfl) e⟩|frz ob u ih=>obtain⟨e,q⟩:=x;exact⟨k _ _ (.inl rfl) e,ih q⟩| tbl ps=>have e:h.get? a=some {cls:=.none,data:=.fields ps}:=x;exact k a _ (.inl rfl) e| met f y=>have e:h.get? a=some (methodObj (.ref f) (.ref y)):=x;exact k a _ (.inl rfl) e|ext φ=>obtain⟨p,⟨o,e⟩,st⟩:=x;exact⟨st _ _ p fun o q=>k _ _ (.inl rfl) q,⟨o,k _ _ (.inl rfl) e⟩,st⟩
theorem HOk.lt(x:HOk P w H h)(e:H a=some o):a<h.objs.size:=(x a o e).lt
theorem HOk.fresh(x:HOk P w H h)(e:h.objs.size<=a):H a=none:=by cases q:H a with|none=>rfl|some u=>exact absurd (lt_of_lt_of_le (x.lt q) e) (lt_irrefl _)
theorem HOk.kept(x:HOk P w H h)(k:∀b u,h.get? b=some u->h'.get? b=some u):HOk P w H h':=fun a o e=>(x a o e).stay (fun b u _ q=>k b u q) (fun _ q=>q) fun _ _ q=>q
theorem HOk.laid(x:HOk P w H h)(k:∀b u,h.get? b=some u->h'.get? b=some u)(hp:h.objs.size<=a)(new:ObjOk P w (upd H a o) h' a o):HOk P w (upd H a o) h':=fun b u e=>by have hn:=x.fresh hp;by_cases hb:b=a;subst hb;rw[zal]at e;cases e;exact new;rw[zag hb]at e;exact(x b u e).stay (fun c v _ q=>k c v q) (fun c q=>by rw[zag (zam q hn)];exact q) fun c xs q=>by rw[zag (zam q hn)];exact q
end
def Rd(H:Hp)(a:Addr)(u:HO):Prop:=H a=some u\/∃o,H a=some (.frz o u)
theorem Rd.of(h:H a=some u):Rd H a u:=.inl h
theorem Rd.ok(r:Rd H a u)(x:HOk P w H h):ObjOk P w H h a u:=by rcases r with r|⟨o,r⟩;exact x a u r;obtain⟨_,q⟩:=x a _ r;exact q
def Mut:Option HO->Prop
 |some (.lst _)=>True|some (.dK _)=>True|some (.dT _)=>True|some (.set _ _)=>True|some (.ins _ _ _)=>True|some (.ext _)=>True|_=>False
section
variable{P:Program}{w:World}{H:Hp}{h h':Heap}{x e:Addr}{o':HO}
theorem HOk.write(ok:HOk P w H h)(mu:Mut (H x))(he:e=x\/H e=some (.own x))(k:∀b u,b≠e->h.get? b=some u->h'.get? b=some u)(heo:∃u,h'.get? e=some u)
  (new:ObjOk P w (upd H x o') h' x o'):HOk P w (upd H x o') h':=fun b u q=>by
 have nown:∀c y,H c=some (.own y)->c≠x:=fun c y r z=>by subst z;rw[r]at mu;exact mu
 have ntup:∀c xs,H c=some (.tup xs)->c≠x:=fun c xs r z=>by subst z;rw[r]at mu;exact mu
 by_cases hb:b=x;subst hb;rw[zal]at q;cases q;exact new;rw[zag hb]at q;by_cases hbe:b=e;have q':H b=some (.own x):=by rcases he with z|z;exact absurd (hbe.trans z) hb;rw[hbe];exact z
 rw[q]at q';cases q';obtain⟨v,hv⟩:=heo;exact⟨v,by rw[hbe];exact hv⟩;refine(ok b u q).stay (fun c v hc r=>k c v ?_ r) (fun c r=>by rw[zag (nown c b r)];exact r) fun c xs r=>by rw[zag (ntup c xs r)];exact r
 rcases hc with rfl|hc;exact hbe;rintro rfl;rcases he with z|z;exact nown c b hc z;rw[hc]at z;cases z;exact hb rfl
end
structure Un(fs ex:List Addr)(H H':Hp)(h h':Heap):Prop where
 keep:∀b o,h.get? b=some o->H b=none->b∉fs->b∉ex->h'.get? b=some o
 slot:∀b o,h.get? b=some o->H b=none->b∈fs->b∉ex->∃sl,h'.get? b=some {o with slots:=sl}
 free:∀b o,h.get? b=some o->H b=none->b∉ex->H' b=none
 there:∀b o,h.get? b=some o->b∉ex->∃o',h'.get? b=some o'
 tups:∀b xs,H b=some (.tup xs)->H' b=some (.tup xs)
 frzs:∀b o u,H b=some (.frz o u)->H' b=some (.frz o u)
 tbls:∀b ps,H b=some (.tbl ps)->∃more,H' b=some (.tbl (ps++more))
section
variable{fs fs' ex ex':List Addr}{H H1 H2:Hp}{h h1 h2 h':Heap}{a x e:Addr}{o:HO}
theorem Un.any(u:Un fs ex H H1 h h1)(q:h.get? b=some ob)(n:H b=none)(hx:b∉ex):∃sl,h1.get? b=some {ob with slots:=sl}:=by by_cases hb:b∈fs;exact u.slot b ob q n hb hx;exact⟨ob.slots,u.keep b ob q n hb hx⟩
theorem Un.kept(k:∀b u,h.get? b=some u->h'.get? b=some u):Un fs ex H H h h':=⟨fun b ob q _ _ _=>k b ob q,fun b ob q _ _ _=>⟨ob.slots,k b ob q⟩,fun _ _ _ n _=>n,fun b ob q _=>⟨ob,k b ob q⟩,fun _ _ q=>q,fun _ _ _ q=>q,fun _ ps q=>⟨#[],by rw[q];simp⟩⟩
theorem Un.refl:Un fs ex H H h h:=Un.kept fun _ _ q=>q
theorem Un.laid(k:∀b u,h.get? b=some u->h'.get? b=some u)(hp:h.objs.size<=a)(hn:H a=none):Un fs ex H (upd H a o) h h' where
 keep:=fun b u q _ _ _=>k b u q
 slot:=fun b u q _ _ _=>⟨u.slots,k b u q⟩
 free:=fun b u q n _=>by rw[zag (ne_of_lt (lt_of_lt_of_le (Heap.lt_size q) hp))];exact n
 there:=fun b u q _=>⟨u,k b u q⟩
 tups:=fun b xs q=>by rw[zag (zam q hn)];exact q
 frzs:=fun b u xs q=>by rw[zag (zam q hn)];exact q
 tbls:=fun b ps q=>⟨#[],by rw[zag (zam q hn),q];simp⟩
theorem Un.write(mu:Mut (H x))(he:e=x\/H e=some (.own x))(k:∀b u,b≠e->h.get? b=some u->h'.get? b=some u)(heo:∃u,h'.get? e=some u):Un fs ex H (upd H x o) h h':=by
 have hx:∀b,H b=none->b≠x:=fun b n z=>by subst z;rw[n]at mu;exact mu
 have hb:∀b,H b=none->b≠e:=fun b n z=>by subst z;rcases he with r|r;exact hx b n r;rw[n]at r;cases r
 have hm:∀b u,H b=some u->¬Mut (some u)->b≠x:=fun b u q nm z=>by subst z;rw[q]at mu;exact nm mu
 refine⟨fun b u q n _ _=>k b u (hb b n) q,fun b u q n _ _=>⟨u.slots,k b u (hb b n) q⟩,fun b u q n _=>by rw[zag (hx b n)];exact n,fun b u q _=>?_,
  fun b xs q=>by rw[zag (hm b _ q fun z=>z)];exact q,fun b u xs q=>by rw[zag (hm b _ q fun z=>z)];exact q,fun b ps q=>⟨#[],by rw[zag (hm b _ q fun z=>z),q];simp⟩⟩
 by_cases hbe:b=e;subst hbe;exact heo;exact⟨u,k b u hbe q⟩
end
noncomputable def trk(h:Heap)(H:Hp):List Addr:=(List.range h.objs.size).filter fun a=>(H a).isSome
noncomputable def hidT(h:Heap)(H:Hp):Heap:=PySem.W.hideAll h (trk h H)
theorem zj4(h:Heap)(H:Hp):(hidT h H).objs.size=h.objs.size:=PySem.W.hideAll_size _ _
theorem zl8(e:h.get? b=some o)(n:H b=none):(hidT h H).get? b=some o:=PySem.W.hideAll_get _ e fun hm=>by have q:(H b).isSome=true:=(mem_filter.mp hm).2;rw[n]at q;simp at q
theorem zog(e:(hidT h H).get? b=some o):h.get? b=some o/\H b=none:=by have e':h.get? b=some o:=PySem.W.of_hideAll (trk h H) e;refine⟨e',?_⟩;cases q:H b with|none=>rfl| some x=>have hm:b∈trk h H:=mem_filter.mpr ⟨mem_range.mpr (Heap.lt_size e'),by simp[q]⟩;have z:(hidT h H).get? b=none:=PySem.W.hideAll_none (trk h H) hm;rw[z]at e;cases e
structure Mod(K:Frag)(mg:Str->Option Value)(base:Heap):Prop where
 kin:K.In base
 glob:base.Ns mainGlobals mg
 blt:∃mb,base.Ns builtinsNs mb/\∀x:Str,x≠"__name__"->mb x=bootBuiltins x
 nolimit:base.NoLimit
structure Cx where
 prog:Program
 w:World
 K:Frag
 mg:Str->Option Value
 base:Heap
 A:Around
 N:List Str
 s₀:Shared
 H₀:Hp
 env:Env
 outer:List Env
 stack:List Env
 ex:List Addr
 fn:Str->Bool
 calm:Bool
 pn:List (Addr×Obj)
 xe:Value->Shared->Prop
noncomputable def frs(l:List Env):List Addr:=l.filterMap (·.frame)
noncomputable abbrev Cx.fs(X:Cx):List Addr:=frs X.outer
def Vis(sc:Scope)(x:Str):Prop:=sc.names.lookup x=some .local\/sc.names.lookup x=some .cell\/sc.names.lookup x=some .free
def Loc(sc:Scope)(x:Str):Prop:=sc.names.lookup x=some .local\/sc.names.lookup x=some .cell
def Look(env:Env)(h:Heap)(m:Str->Option Value)(x:Str)(u:Value):Prop:=(env.kindOf x=some .local/\m x=some u)\/((env.kindOf x=some .cell\/env.kindOf x=some .free)/\∃c,env.cells.lookup x=some c/\h.IsCell c (some u))
structure Cx.Ok(X:Cx):Prop where
 mod:Mod X.K X.mg X.base
 kind:X.env.scope.kind=.function
 glob:X.env.globals=mainGlobals
 blt:X.env.builtins=builtinsNs
 above:X.s₀.heap.objs.size<=X.env.locals
 inj:∀x y c,X.env.cells.lookup x=some c->X.env.cells.lookup y=some c->x=y
 has:∀x,(X.env.kindOf x=some .cell\/X.env.kindOf x=some .free)->∃c,X.env.cells.lookup x=some c
 cab:∀x c,X.fn x=true->X.env.cells.lookup x=some c->X.s₀.heap.objs.size<=c
 hd:X.calm=true->X.A.handled=none
 frames:X.A.frames=some X.stack
 stk:X.stack=X.outer\/(X.stack=X.env::X.outer/\X.env.frame=some X.env.locals)
 exf:∀b∈X.ex,b≠X.env.locals/\∀x c,X.env.cells.lookup x=some c->c≠b
 bs:∀b o,X.base.get? b=some o->X.s₀.heap.get? b=some o/\X.H₀ b=none
 bsz:X.base.objs.size<=X.s₀.heap.objs.size
 noex:∀b o,X.base.get? b=some o->b∉X.ex
 exfs:∀b∈X.ex,b∉X.fs
 funs:X.s₀.heap.FunFrames X.base X.outer
 frf:∀b∈X.fs,X.H₀ b=none
structure Inv(X:Cx)(pins:List (Addr×Obj))(σ:List (Option V))(H:Hp)(s:Shared):Prop where
 ok:X.Ok
 os:s.os=X.s₀.os
 bare:AllBare s.gens
 base:Un X.fs X.ex X.H₀ H X.s₀.heap s.heap
 loc:∃m,s.heap.Ns X.env.locals m/\∀(i:Nat)(x:Str)(v:V),X.N[i]?=some x->σ[i]?=some (some v)->Vis X.env.scope x->∃u,RelV v u/\Look X.env s.heap m x u
 cell:∀x c,X.env.cells.lookup x=some c->∃v,s.heap.IsCell c v
 free:H X.env.locals=none
 freeC:∀x c,X.env.cells.lookup x=some c->H c=none
 pin:∀p∈X.pn++pins,s.heap.get? p.1=some p.2/\H p.1=none/\p.1≠X.env.locals/\p.1∉X.fs/\∀v,p.2.data≠.cell v
 hok:HOk X.prog X.w H s.heap
 len:σ.length=X.N.length
section
variable{X:Cx}{pins:List (Addr×Obj)}{σ:List (Option V)}{H H':Hp}{s:Shared}{h':Heap}
theorem Cx.Ok.nofr(ok:X.Ok)(e:X.base.get? b=some o):b∉X.fs:=fun hb=>by have:=(ok.funs.mem hb).1;rw[e]at this;cases this
theorem Inv.bs(I:Inv X pins σ H s):∀b o,X.base.get? b=some o->s.heap.get? b=some o/\H b=none:=fun b o e=>⟨I.base.keep b o (I.ok.bs b o e).1 (I.ok.bs b o e).2 (I.ok.nofr e) (I.ok.noex b o e),I.base.free b o (I.ok.bs b o e).1 (I.ok.bs b o e).2 (I.ok.noex b o e)⟩
theorem Inv.bk(I:Inv X pins σ H s):∀b o,X.base.get? b=some o->s.heap.get? b=some o:=fun b o e=>(I.bs b o e).1
theorem Inv.mod(I:Inv X pins σ H s):Mod X.K X.mg X.base:=I.ok.mod
theorem Inv.kIn(I:Inv X pins σ H s):X.K.In s.heap:=I.ok.mod.kin.keeps I.bk
theorem Inv.lt(I:Inv X pins σ H s):X.env.locals<s.heap.objs.size:=let ⟨_,hn,_⟩:=I.loc;hn.lt
theorem Inv.sz(I:Inv X pins σ H s):X.s₀.heap.objs.size<=s.heap.objs.size:=le_trans I.ok.above (le_of_lt I.lt)
theorem Inv.nofs(I:Inv X pins σ H s){a:Addr}(h:s.heap.objs.size<=a):a∉X.fs:=fun hb=>by obtain⟨_,o,ho,_⟩:=I.ok.funs.mem hb;exact absurd (lt_of_lt_of_le (Heap.lt_size ho) (le_trans I.sz h)) (lt_irrefl _)
theorem Inv.cne(I:Inv X pins σ H s):∀x c,X.env.cells.lookup x=some c->c≠X.env.locals:=fun x c e z=>by obtain⟨v,o,ho,hd⟩:=I.cell x c e;obtain⟨m,⟨o',es,ep,ho',hd',_⟩,_⟩:=I.loc;rw[z,ho']at ho;cases ho;rw[hd']at hd;cases hd
theorem Inv.funs(I:Inv X pins σ H s):s.heap.FunFrames X.base X.outer:=by
 have all:∀(l:List Env),(∀b∈frs l,b∈X.fs)->X.s₀.heap.FunFrames X.base l->s.heap.FunFrames X.base l:=by intro l;induction l with|nil=>intro _ _;trivial| cons env r ih=>intro hs hl;obtain⟨hk,⟨L,o,hf,hn,ho,hd⟩,hr⟩:=hl;have hL:L∈X.fs:=hs L (by unfold frs;rw[List.filterMap_cons,hf];exact mem_cons_self);obtain⟨sl,e⟩:=I.base.slot L o ho (I.ok.frf L hL) hL fun z=>I.ok.exfs L z hL;exact⟨hk,⟨L,_,hf,hn,e,hd⟩,ih (fun b hb=>hs b (by unfold frs;rw[List.filterMap_cons,hf];exact mem_cons_of_mem _ hb)) hr⟩
 exact all X.outer (fun _ hb=>hb) I.ok.funs
theorem Inv.stack(I:Inv X pins σ H s):s.heap.FunFrames X.base X.stack:=by rcases I.ok.stk with e|⟨e,hf⟩;rw[e];exact I.funs;rw[e];obtain⟨m,hn,_⟩:=I.loc;refine .cons (by rw[I.ok.kind];decide) hf hn ?_ I.funs;exact Heap.get?_none_of_le (le_trans I.ok.bsz I.ok.above)
theorem Inv.stkSub(I:Inv X pins σ H s):∀b∈frs X.stack,b∈X.env.locals::X.fs:=fun b hb=>by rcases I.ok.stk with e|⟨e,hf⟩;rw[e]at hb;exact mem_cons_of_mem _ hb;rw[e]at hb;unfold frs at hb;rw[List.filterMap_cons,hf]at hb;exact hb
theorem Inv.stkFree(I:Inv X pins σ H s):∀b∈frs X.stack,H b=none:=fun b hb=>by rcases mem_cons.mp (I.stkSub b hb) with e|hb;rw[e];exact I.free;obtain⟨_,o,ho,_⟩:=I.ok.funs.mem hb;exact I.base.free b o ho (I.ok.frf b hb) fun z=>I.ok.exfs b z hb
theorem Inv.step{ch:List Addr}(I:Inv X pins σ H s)
  (hch:∀b∈ch,(b∈X.ex\/X.s₀.heap.objs.size<=b)/\b≠X.env.locals/\(∀x c,X.env.cells.lookup x=some c->c≠b)/\∀p∈X.pn++pins,p.1≠b)
  (keep:∀b o,b≠X.env.locals->b∉X.fs->b∉ch->s.heap.get? b=some o->H b=none->h'.get? b=some o)
  (slot:∀b o,b≠X.env.locals->b∈X.fs->b∉ch->s.heap.get? b=some o->H b=none->∃sl,h'.get? b=some {o with slots:=sl}) (free:∀b o,b∉ch->s.heap.get? b=some o->H b=none->H' b=none)
  (there:∀b o,b∉ch->s.heap.get? b=some o->∃o',h'.get? b=some o')
  (tups:∀b xs,H b=some (.tup xs)->H' b=some (.tup xs)) (frzs:∀b o u,H b=some (.frz o u)->H' b=some (.frz o u)) (tbls:∀b ps,H b=some (.tbl ps)->∃more,H' b=some (.tbl (ps++more)))
  (ns:∀m,s.heap.Ns X.env.locals m->h'.Ns X.env.locals m) (hok:HOk X.prog X.w H' h') (hg:AllBare g') :
  Inv X pins σ H' {s with heap:=h',gens:=g',drawn:=d',toks:=t'}:=by
 have neL:∀b o,X.s₀.heap.get? b=some o->b≠X.env.locals:=fun b o e=>ne_of_lt (lt_of_lt_of_le (Heap.lt_size e) I.ok.above);have neC:∀b o,X.s₀.heap.get? b=some o->b∉X.ex->b∉ch:=fun b o e hx hb=>by rcases(hch b hb).1 with z|z;exact hx z;exact absurd (lt_of_lt_of_le (Heap.lt_size e) z) (lt_irrefl _)
 have cellK:∀x c,X.env.cells.lookup x=some c->∀v,s.heap.IsCell c v->h'.IsCell c v:=fun x c e v ⟨o,ho,hd⟩=>by have nch:c∉ch:=fun z=>(hch c z).2.2.1 x c e rfl;by_cases hc:c∈X.fs;obtain⟨sl,q⟩:=slot c o (I.cne x c e) hc nch ho (I.freeC x c e);exact⟨_,q,hd⟩;exact⟨o,keep c o (I.cne x c e) hc nch ho (I.freeC x c e),hd⟩
 refine⟨I.ok,I.os,hg,⟨fun b o e n hb hx=>?_,fun b o e n hb hx=>?_,fun b o e n hx=>?_,fun b o e hx=>?_,fun b xs e=>tups b xs (I.base.tups b xs e),fun b o xs e=>frzs b o xs (I.base.frzs b o xs e),fun b ps e=>?_⟩,?_,fun x c e=>?_,?_,fun x c e=>?_,fun p hp=>?_,hok,I.len⟩;exact keep b o (neL b o e) hb (neC b o e hx) (I.base.keep b o e n hb hx) (I.base.free b o e n hx);obtain⟨sl,e1⟩:=I.base.slot b o e n hb hx;obtain⟨sl',e2⟩:=slot b _ (neL b o e) hb (neC b o e hx) e1 (I.base.free b o e n hx);exact⟨sl',e2⟩;obtain⟨o',e1⟩:=I.base.there b o e hx;exact free b o' (neC b o e hx) e1 (I.base.free b o e n hx);obtain⟨o',e1⟩:=I.base.there b o e hx;exact there b o' (neC b o e hx) e1;obtain⟨m1,e1⟩:=I.base.tbls b ps e;obtain⟨m2,e2⟩:=tbls b _ e1;exact⟨m1++m2,by rw[e2,Array.append_assoc]⟩;obtain⟨m,hn,hl⟩:=I.loc;refine⟨m,ns m hn,fun i x v e1 e2 e3=>?_⟩;obtain⟨u,r,l⟩:=hl i x v e1 e2 e3;refine⟨u,r,?_⟩;rcases l with l|⟨k,c,e,z⟩;exact .inl l;exact .inr ⟨k,c,e,cellK x c e _ z⟩;obtain⟨v,z⟩:=I.cell x c e;exact⟨v,cellK x c e v z⟩;obtain⟨m,⟨o,_,_,ho,_⟩,_⟩:=I.loc;exact free _ o (fun z=>(hch _ z).2.1 rfl) ho I.free;obtain⟨v,o,ho,hd⟩:=I.cell x c e;exact free c o (fun z=>(hch c z).2.2.1 x c e rfl) ho (I.freeC x c e);obtain⟨e,n,ne,nf,d⟩:=I.pin p hp;have nch:p.1∉ch:=fun z=>(hch p.1 z).2.2.2 p hp rfl;exact⟨keep p.1 p.2 ne nf nch e n,free p.1 p.2 nch e n,ne,nf,d⟩
theorem Inv.un(I:Inv X pins σ H s)(u:Un X.fs [] H H' s.heap h')(hok:HOk X.prog X.w H' h'):Inv X pins σ H' {s with heap:=h',toks:=t'}:=by obtain⟨m,⟨o,es,ep,ho,r⟩,_⟩:=id I.loc;obtain⟨sl,hL⟩:=u.any ho I.free (by simp);exact I.step (g':=s.gens) (d':=s.drawn) (ch:=[]) (fun _ z=>nomatch z) (fun b o _ hb _ e n=>u.keep b o e n hb (by simp)) (fun b o _ hb _ e n=>u.slot b o e n hb (by simp)) (fun b o _ e n=>u.free b o e n (by simp)) (fun b o _ e=>u.there b o e (by simp)) u.tups u.frzs u.tbls (fun m' hm=>by obtain⟨o',es',ep',ho',r'⟩:=hm;rw[ho]at ho';cases ho';exact⟨_,es',ep',hL,r'⟩) hok I.bare
theorem Inv.call(I:Inv X pins σ H s)(u:Un (frs X.stack) ch H H' s.heap h')(hok:HOk X.prog X.w H' h')(hg:AllBare g')
  (hch:∀b∈ch,(b∈X.ex\/X.s₀.heap.objs.size<=b)/\b≠X.env.locals/\(∀x c,X.env.cells.lookup x=some c->c≠b)/\∀p∈X.pn++pins,p.1≠b) :
  Inv X pins σ H' {s with heap:=h',gens:=g',drawn:=d',toks:=t'}:=by
 obtain⟨m,⟨o,es,ep,ho,r⟩,_⟩:=id I.loc;obtain⟨sl,hL⟩:=u.any ho I.free fun z=>(hch _ z).2.1 rfl;exact I.step hch (fun b o hL hb hc e n=>u.keep b o e n (fun z=>(mem_cons.mp (I.stkSub b z)).elim hL hb) hc) (fun b o _ _ hc e n=>u.any e n hc) (fun b o hc e n=>u.free b o e n hc) (fun b o hc e=>u.there b o e hc) u.tups u.frzs u.tbls (fun m' hm=>by obtain⟨o',es',ep',ho',r'⟩:=hm;rw[ho]at ho';cases ho';exact⟨_,es',ep',hL,r'⟩) hok hg
theorem Inv.turned(I:Inv X pins σ H s)(k:∀b o,b≠it->s.heap.get? b=some o->h'.get? b=some o)(hn:H it=none)(hL:it≠X.env.locals)
  (h1:it∈X.ex\/X.s₀.heap.objs.size<=it) (h2:∀x c,X.env.cells.lookup x=some c->c≠it) (h3:∀p∈X.pn++pins,p.1≠it):Inv X pins σ H {s with heap:=h',toks:=t'}:=by
 have nit:∀b u,H b=some u->b≠it:=fun b u e z=>by rw[z,hn]at e;cases e
 refine I.step (g':=s.gens) (d':=s.drawn) (ch:=[it]) (fun b hb=>?_) (fun b o _ _ hc e _=>k b o (fun z=>hc (by simp[z])) e) (fun b o _ _ hc e _=>⟨o.slots,k b o (fun z=>hc (by simp[z])) e⟩) (fun _ _ _ _ n=>n)
  (fun b o hc e=>⟨o,k b o (fun z=>hc (by simp[z])) e⟩) (fun _ _ e=>e) (fun _ _ _ e=>e) (fun b ps e=>⟨#[],by rw[e];simp⟩) (fun m hm=>?_) (fun b u e=>?_) I.bare
 have e:b=it:=by simpa using hb
 subst e;exact⟨h1,hL,h2,h3⟩;obtain⟨o,es,ep,ho,r⟩:=hm;exact⟨o,es,ep,k _ o (Ne.symm hL) ho,r⟩;refine(I.hok b u e).stay (fun c v hc q=>k c v ?_ q) (fun _ q=>q) fun _ _ q=>q;rcases hc with z|z;rw[z];exact nit b u e;exact nit c _ z
theorem Inv.tok(I:Inv X pins σ H s)(t:Nat):Inv X pins σ H {s with toks:=t}:=I.un (h':=s.heap) (t':=t) Un.refl I.hok
theorem Inv.kept(I:Inv X pins σ H s)(k:∀b u,s.heap.get? b=some u->h'.get? b=some u):Inv X pins σ H {s with heap:=h',toks:=t'}:=I.un (Un.kept k) (I.hok.kept k)
theorem Inv.laid{a:Addr}(I:Inv X pins σ H s)(k:∀b u,s.heap.get? b=some u->h'.get? b=some u)(hp:s.heap.objs.size<=a)(new:ObjOk X.prog X.w (upd H a o) h' a o) :
 Inv X pins σ (upd H a o) {s with heap:=h',toks:=t'}:=I.un (Un.laid k hp (I.hok.fresh hp)) (I.hok.laid k hp new)
theorem Inv.write(I:Inv X pins σ H s)(mu:Mut (H x))(he:e=x\/H e=some (.own x))(k:∀b u,b≠e->s.heap.get? b=some u->h'.get? b=some u)(heo:∃u,h'.get? e=some u)
 (new:ObjOk X.prog X.w (upd H x o) h' x o):Inv X pins σ (upd H x o) {s with heap:=h',toks:=t'}:=I.un (Un.write mu he k heo) (I.hok.write mu he k heo new)
theorem Inv.pins_of(I:Inv X pins σ H s)(h:∀p∈pins',s.heap.get? p.1=some p.2/\H p.1=none/\p.1≠X.env.locals/\p.1∉X.fs/\∀v,p.2.data≠.cell v):Inv X pins' σ H s:=⟨I.ok,I.os,I.bare,I.base,I.loc,I.cell,I.free,I.freeC,fun p hp=>(mem_append.mp hp).elim (fun z=>I.pin p (mem_append_left _ z)) (h p),I.hok,I.len⟩
theorem zg7{N:List Str}(hN:N.Nodup){i j:Nat}(a:N[i]?=some x)(b:N[j]?=some x):i=j:=by obtain⟨h1,e1⟩:=List.getElem?_eq_some_iff.mp a;obtain⟨h2,e2⟩:=List.getElem?_eq_some_iff.mp b;exact(List.getElem_inj hN).mp (e1.trans e2.symm)
theorem zfb(I:Inv X pins σ H s)(hN:X.N.Nodup)(hi:X.N[i]?=some x)(hx:Loc X.env.scope x)(r:RelV v u)
  (h:∀s',Inv X pins (σ.set i (some v)) H s'->(∃a,Heap.SameBut a s.heap s'.heap/\(a=X.env.locals\/X.env.cells.lookup x=some a))->Q () s') (hf:X.fn x=true\/X.env.scope.names.lookup x=some .local:=by first|exact .inl rfl|exact .inr rfl|assumption):wpAny M A (storeName X.env x u) Q E s:=by
 obtain⟨m,hn,hl⟩:=id I.loc;have hcls:(X.env.scope.kind==.class||(X.env.scope.kind==.module&&X.env.locals != X.env.globals))=false:=by rw[I.ok.kind];rfl
 have hiσ:i<σ.length:=by rw[I.len];exact(List.getElem?_eq_some_iff.mp hi).1
 have cne:=I.cne;have tracked:∀{a:Addr}{h':Heap},(∃o,s.heap.get? a=some o/\H a=none)->Heap.SameBut a s.heap h'->HOk X.prog X.w H h':=fun {a h'} ha hs b ob e=>by obtain⟨_,_,hfree⟩:=ha;refine(I.hok b ob e).stay (fun c w' hc q=>(hs.2 c ?_).trans q) (fun _ q=>q) fun _ _ q=>q;rintro rfl;rcases hc with rfl|hc;rw[hfree]at e;cases e;rw[hfree]at hc;cases hc
 rcases hx with hk|hk;refine wpAny_storeName_local hk hn (fun h' hn' hs=>?_) hcls;obtain⟨oL,_,_,hoL,_⟩:=id hn;refine h _ ⟨I.ok,I.os,I.bare,⟨fun b o e n hb hx=>?_,fun b o e n hb hx=>?_,I.base.free,fun b o e hx=>?_,I.base.tups,I.base.frzs,I.base.tbls⟩,⟨_,hn',fun j y v' e1 e2 e3=>?_⟩,fun y c e=>?_,I.free,I.freeC,fun p hp=>?_,tracked ⟨oL,hoL,I.free⟩ hs,by simpa using I.len⟩ ⟨_,hs,.inl rfl⟩;exact(hs.2 b (ne_of_lt (lt_of_lt_of_le (Heap.lt_size e) I.ok.above))).trans (I.base.keep b o e n hb hx);obtain⟨sl,e1⟩:=I.base.slot b o e n hb hx;exact⟨sl,(hs.2 b (ne_of_lt (lt_of_lt_of_le (Heap.lt_size e) I.ok.above))).trans e1⟩;obtain⟨o',e1⟩:=I.base.there b o e hx;exact⟨o',(hs.2 b (ne_of_lt (lt_of_lt_of_le (Heap.lt_size e) I.ok.above))).trans e1⟩;by_cases hj:j=i;subst hj;rw[hi]at e1;cases e1;rw[getElem?_set_self hiσ]at e2;cases e2;exact⟨u,r,.inl ⟨hk,by simp⟩⟩;rw[getElem?_set_ne (Ne.symm hj)]at e2;obtain⟨u',r',q⟩:=hl j y v' e1 e2 e3;refine⟨u',r',?_⟩;rcases q with⟨k,e⟩|⟨k,c,e,z⟩;refine .inl ⟨k,?_⟩;have:y≠x:=fun e=>hj (zg7 hN e1 (e▸hi));simp[this,e];exact .inr ⟨k,c,e,z.sameBut hs (cne y c e)⟩;obtain⟨w',z⟩:=I.cell y c e;exact⟨w',z.sameBut hs (cne y c e)⟩;obtain⟨e,n,ne,nf,d⟩:=I.pin p hp;exact⟨(hs.2 p.1 ne).trans e,n,ne,nf,d⟩;have hfn:X.fn x=true:=by rcases hf with z|z;exact z;rw[z]at hk;cases hk
 obtain⟨c,hc⟩:=I.ok.has x (.inl hk);obtain⟨w',z⟩:=I.cell x c hc;refine wpAny_storeName_cell I.ok.kind hk hc z (fun h' hc' hs=>?_);obtain⟨oc,hoc,hocd⟩:=id z;refine h {s with heap:=h'} ⟨I.ok,I.os,I.bare,⟨fun b o e n hb hx=>?_,fun b o e n hb hx=>?_,I.base.free,fun b o e hx=>?_,I.base.tups,I.base.frzs,I.base.tbls⟩,⟨m,hn.sameBut hs (Ne.symm (cne x c hc)),fun j y v' e1 e2 e3=>?_⟩,fun y c' e=>?_,I.free,I.freeC,fun p hp=>?_,tracked ⟨oc,hoc,I.freeC x c hc⟩ hs,by simpa using I.len⟩ ⟨c,hs,.inr hc⟩;exact(hs.2 b (ne_of_lt (lt_of_lt_of_le (Heap.lt_size e) (I.ok.cab x c hfn hc)))).trans (I.base.keep b o e n hb hx);obtain⟨sl,e1⟩:=I.base.slot b o e n hb hx;exact⟨sl,(hs.2 b (ne_of_lt (lt_of_lt_of_le (Heap.lt_size e) (I.ok.cab x c hfn hc)))).trans e1⟩;obtain⟨o',e1⟩:=I.base.there b o e hx;exact⟨o',(hs.2 b (ne_of_lt (lt_of_lt_of_le (Heap.lt_size e) (I.ok.cab x c hfn hc)))).trans e1⟩;by_cases hj:j=i;subst hj;rw[hi]at e1;cases e1;rw[getElem?_set_self hiσ]at e2;cases e2;exact⟨u,r,.inr ⟨.inl hk,c,hc,hc'⟩⟩;rw[getElem?_set_ne (Ne.symm hj)]at e2;obtain⟨u',r',q⟩:=hl j y v' e1 e2 e3;refine⟨u',r',?_⟩;rcases q with q|⟨k,c',e,z'⟩;exact .inl q;refine .inr ⟨k,c',e,z'.sameBut hs ?_⟩;rintro rfl;exact hj (zg7 hN e1 (I.ok.inj _ _ _ e hc▸hi));by_cases hcc:c'=c;subst hcc;exact⟨_,hc'⟩;obtain⟨w2,z2⟩:=I.cell y c' e;exact⟨w2,z2.sameBut hs hcc⟩;obtain⟨e,n,ne,nf,d⟩:=I.pin p hp;refine⟨(hs.2 p.1 ?_).trans e,n,ne,nf,d⟩;intro q;rw[q,hoc]at e;have q':oc=p.2:=Option.some.inj e;exact d w' (by rw[<-q'];exact hocd)
theorem zgR(I:Inv X pins σ H s)(hN:X.N.Nodup)(hi:X.N[i]?=some x)(hx:Loc X.env.scope x)(r:RelV v u)
  (h:∀s',Inv X pins (σ.set i (some v)) H s'->Q () s') (hf:X.fn x=true\/X.env.scope.names.lookup x=some .local:=by first|exact .inl rfl|exact .inr rfl|assumption):wpAny M A (storeName X.env x u) Q E s:=
 zfb I hN hi hx r (fun s' I' _=>h s' I') hf
theorem Inv.call'(I:Inv X pins σ H s)(ho:s'.os=s.os)(u:Un (frs X.stack) ch H H' s.heap s'.heap)(hok:HOk X.prog X.w H' s'.heap)(hg:AllBare s'.gens)
  (hch:∀b∈ch,(b∈X.ex\/X.s₀.heap.objs.size<=b)/\b≠X.env.locals/\(∀x c,X.env.cells.lookup x=some c->c≠b)/\∀p∈X.pn++pins,p.1≠b):Inv X pins σ H' s':=by
 obtain⟨h',g',d',t',o'⟩:=s';have e:o'=s.os:=ho;subst e;exact I.call (g':=g') (t':=t') (d':=d') u hok hg hch
end
abbrev XK:=Value->Option Addr->Hp->Prop
abbrev St:=List (Option V)
abbrev VK:=V->Hp->Prop
abbrev TE:=St->Hp->VK->Prop
abbrev TT:=St->Hp->(Bool->Hp->Prop)->Prop
abbrev TA:=St->Hp->(List V->Hp->Prop)->Prop
structure Ends where
 nx:St->Hp->Prop
 rt:VK
 bk:St->Hp->Prop:=fun _ _=>False
 ct:St->Hp->Prop:=fun _ _=>False
abbrev TS:=Ends->St->Hp->Prop
def EP(X:Cx)(pins:List (Addr×Obj))(σ:St)(Q:VK)(u:Value)(s':Shared):Prop:=∃v H',Inv X pins σ H' s'/\RelV v u/\Q v H'
def TP(X:Cx)(pins:List (Addr×Obj))(σ:St)(Q:Bool->Hp->Prop)(b:Bool)(s':Shared):Prop:=∃H',Inv X pins σ H' s'/\Q b H'
def AP(X:Cx)(pins:List (Addr×Obj))(σ:St)(Q:List V->Hp->Prop)(us:List Value)(s':Shared):Prop:=∃vs H',Inv X pins σ H' s'/\Vals vs us/\Q vs H'
def SP(X:Cx)(pins:List (Addr×Obj))(D:Ends)(f:Flow)(s':Shared):Prop:=match f with|.next=>∃σ' H',Inv X pins σ' H' s'/\D.nx σ' H'|.brk=>∃σ' H',Inv X pins σ' H' s'/\D.bk σ' H'|.cont=>∃σ' H',Inv X pins σ' H' s'/\D.ct σ' H'|.ret u=>∃v σ' H',Inv X pins σ' H' s'/\RelV v u/\D.rt v H'
def PE(X:Cx)(e:Expr)(t:TE):Prop:=∀(pins:List (Addr×Obj))(s:Shared)(σ:St)(H:Hp)(Q:VK),Inv X pins σ H s->t σ H Q->wpAny (model X.prog X.w) X.A (eval e X.env) (EP X pins σ Q) X.xe s
def PT(X:Cx)(e:Expr)(t:TT):Prop:=∀(pins:List (Addr×Obj))(s:Shared)(σ:St)(H:Hp)(Q:Bool->Hp->Prop),Inv X pins σ H s->t σ H Q->wpAny (model X.prog X.w) X.A (isTrue e X.env (eval e X.env)) (TP X pins σ Q) X.xe s
def PW(X:Cx)(e:Expr)(t:TT):Prop:=∀(whole:Sem Value)(pins:List (Addr×Obj))(s:Shared)(σ:St)(H:Hp)(Q:Bool->Hp->Prop),Inv X pins σ H s->t σ H Q->wpAny (model X.prog X.w) X.A (isTrue e X.env whole) (TP X pins σ Q) X.xe s
theorem PW.pt(h:PW X e t):PT X e t:=h _
def PA(X:Cx)(es:List Expr)(t:TA):Prop:=∀(pos:Pos)(pins:List (Addr×Obj))(s:Shared)(σ:St)(H:Hp)(Q:List V->Hp->Prop),Inv X pins σ H s->t σ H Q->wpAny (model X.prog X.w) X.A (spliced (backTo pos (starEach es X.env))) (AP X pins σ Q) X.xe s
def PS(X:Cx)(st:Stmt)(t:TS):Prop:=∀(pins:List (Addr×Obj))(s:Shared)(σ:St)(H:Hp)(D:Ends),Inv X pins σ H s->t D σ H->wpAny (model X.prog X.w) X.A (exec st X.env) (SP X pins D) X.xe s
def PSs(X:Cx)(st:List Stmt)(t:TS):Prop:=∀(pins:List (Addr×Obj))(s:Shared)(σ:St)(H:Hp)(D:Ends),Inv X pins σ H s->t D σ H->wpAny (model X.prog X.w) X.A (execs st X.env) (SP X pins D) X.xe s
theorem thn(h:wpAny M A t Q E s)(hQ:∀a s,Q a s->Q' a s):wpAny M A t Q' E s:=wpAny_mono h hQ fun _ _ x=>x
section
variable{X:Cx}
def tVar(i:Nat):TE:=fun σ H Q=>∃v,σ[i]?=some (some v)/\Q v H
def tC(v:V):TE:=fun _ H Q=>Q v H
theorem zmB{pos:Pos}(hN:X.N[i]?=some x)(hv:Vis X.env.scope x)(hd:(x==("__debug__":Str))=false:=by decide)(hcd:(x==("__classdict__":Str))=false:=by decide):PE X (.Name x pos) (tVar i):=by intro pins s σ H Q I h;obtain⟨v,e,h⟩:=h;obtain⟨m,hn,hl⟩:=I.loc;obtain⟨u,r,l⟩:=hl i x v hN e hv;have fin:EP X pins σ Q u s:=⟨v,H,I,r,h⟩;rcases l with⟨hk,hm⟩|⟨hk,c,hc,hcell⟩;exact wpAny_Name (wpAny_loadName_local I.ok.kind hk hn hm fin) hd;rcases hk with hk|hk;exact wpAny_Name (wpAny_loadName_cell I.ok.kind hk hc hcell fin) hd;exact wpAny_Name (wpAny_loadName_free I.ok.kind hk hc hcell fin hcd) hd
theorem zjo{i j pos}:PE X (.Constant (.int i) j pos) (tC (.int i)):=fun _ _ _ H _ I h=>wpAny_Constant_int ⟨.int i,H,I.tok _,⟨_,rfl⟩,h⟩
theorem zse{b j pos}:PE X (.Constant (.bool b) j pos) (tC (.bl b)):=fun _ _ _ H _ I h=>Constant_bool ⟨.bl b,H,I,rfl,h⟩
theorem zqn{j pos}:PE X (.Constant .none j pos) (tC .non):=fun _ _ _ H _ I h=>Constant_none ⟨.non,H,I,rfl,h⟩
theorem zqj{x j pos}:PE X (.Constant (.str x) j pos) (tC (.str x)):=fun _ _ _ H _ I h=>Calls.Constant_str ⟨.str x,H,I.tok _,⟨_,rfl⟩,h⟩
def Gl(X:Cx)(x:Str):Prop:=X.env.kindOf x=some .globalImplicit
theorem zdr{σ:St}(I:Inv X pins σ H s)(hg:Gl X x)(hm:X.mg x=some u)(h:Q u s)
  (hd:(x==("__debug__":Str))=false:=by decide):wpAny (model X.prog X.w) X.A (eval (.Name x pos) X.env) Q E s:=
 Calls.Name_function_global I.ok.kind hg (Calls.loadGlobal_global (by rw[I.ok.glob];exact I.mod.glob.keeps I.bk) hm h) hd
theorem zds{E:Value->Shared->Prop}{σ:St}{pos:Pos}(I:Inv X pins σ H s)(hg:Gl X x)(hm:X.mg x=none)(hv:bootBuiltins x=some u)(h:Q u s)
  (hn:x≠"__name__":=by decide) (hd:(x==("__debug__":Str))=false:=by decide):wpAny (model X.prog X.w) X.A (eval (.Name x pos) X.env) Q E s:=by
 obtain⟨mb,h1,h2⟩:=I.mod.blt;exact Calls.Name_function_global I.ok.kind hg (Calls.loadGlobal_builtin (by rw[I.ok.glob];exact I.mod.glob.keeps I.bk) hm (by rw[I.ok.blt];exact h1.keeps I.bk) ((h2 x hn).trans hv) h) hd
theorem zjp(hg:Gl X x)(hm:X.mg x=some u)(r:RelV v u)(hd:(x==("__debug__":Str))=false:=by decide):PE X (.Name x pos) (tC v):=fun _ _ _ H _ I h=>zdr I hg hm ⟨v,H,I,r,h⟩ hd
theorem zoa{pos:Pos}(hg:Gl X x)(hm:X.mg x=none)(hv:bootBuiltins x=some u)(r:RelV v u)(hn:x≠"__name__":=by decide)(hd:(x==("__debug__":Str))=false:=by decide):PE X (.Name x pos) (tC v):=fun _ _ _ H _ I h=>zds I hg hm hv ⟨v,H,I,r,h⟩ hn hd
variable{a b:Expr}{ta tb:TE}{pos:Pos}
theorem RelV.none_iff(r:RelV x v):(v==Value.none)=decide (x=.non):=by cases x with|non=>cases r;rfl|bl _=>cases r;rfl|int _=>obtain⟨t,rfl⟩:=r;rfl|str _=>obtain⟨t,rfl⟩:=r;rfl|byt _=>obtain⟨t,rfl⟩:=r;rfl|flt _=>obtain⟨t,rfl⟩:=r;rfl|ref _=>cases r;rfl|ty _=>cases r;rfl
variable{tA tB':TT}{rest:List Expr}
def tAnd(t u:TT):TT:=fun σ H Q=>t σ H fun c H1=>if c=true then u σ H1 Q else Q false H1
def tOr(t u:TT):TT:=fun σ H Q=>t σ H fun c H1=>if c=true then Q true H1 else u σ H1 Q
def tNot(t:TT):TT:=fun σ H Q=>t σ H fun c H1=>Q (!c) H1
theorem znT(ha:PT X a tA):PW X (.BoolOp .And [a] pos) tA:=by intro wh pins s σ H Q I h;refine isTrue_and (thn (ha pins s σ H Q I h) fun c s1 e=>?_);cases c with|true=>exact isTrue_and_nil e|false=>exact e
theorem zp8(ha:PT X a tA):PW X (.BoolOp .Or [a] pos) tA:=by intro wh pins s σ H Q I h;refine isTrue_or (thn (ha pins s σ H Q I h) fun c s1 e=>?_);cases c with|false=>exact isTrue_or_nil e|true=>exact e
theorem zp9(ha:PT X a tA)(hb:PW X (.BoolOp .And (b::rest) pos) tB'):PW X (.BoolOp .And (a::b::rest) pos) (tAnd tA tB'):=by intro wh pins s σ H Q I h;refine isTrue_and (thn (ha pins s σ H _ I h) fun c s1 ⟨H1,I1,q1⟩=>?_);cases c with|true=>exact hb wh pins s1 σ H1 Q I1 q1|false=>exact⟨H1,I1,q1⟩
theorem zr8(ha:PT X a tA)(hb:PW X (.BoolOp .Or (b::rest) pos) tB'):PW X (.BoolOp .Or (a::b::rest) pos) (tOr tA tB'):=by intro wh pins s σ H Q I h;refine isTrue_or (thn (ha pins s σ H _ I h) fun c s1 ⟨H1,I1,q1⟩=>?_);cases c with|true=>exact⟨H1,I1,q1⟩|false=>exact hb wh pins s1 σ H1 Q I1 q1
theorem zqa(ha:PT X a tA):PT X (.UnaryOp .Not a pos) (tNot tA):=by intro pins s σ H Q I h;exact isTrue_not (ha pins s σ H (fun c H1=>Q (!c) H1) I h)
def zrT(ta tb:TE):TE:=fun σ H Q=>ta σ H fun x H1=>∃c,x=.bl c/\if c=true then tb σ H1 Q else Q (.bl false) H1
def tOrV(ta tb:TE):TE:=fun σ H Q=>ta σ H fun x H1=>∃c,x=.bl c/\if c=true then Q (.bl true) H1 else tb σ H1 Q
def zrP(ta:TE):TE:=fun σ H Q=>ta σ H fun x H1=>∃c,x=.bl c/\Q (.bl (!c)) H1
theorem zmC{op}(h:PE X a t):PE X (.BoolOp op [a] pos) t:=fun pins s σ H Q I hw=>BoolOp_one (h pins s σ H Q I hw)
theorem zqv(ha:PE X a ta)(hb:PE X (.BoolOp .And (b::rest) pos) tb):PE X (.BoolOp .And (a::b::rest) pos) (zrT ta tb):=by intro pins s σ H Q I h;refine BoolOp_and (thn (ha pins s σ H _ I h) fun v s1=>ex5 fun x H1 I1 r1 q1=>?_);obtain⟨c,rfl,q1⟩:=q1;cases r1;apply wpAny_truthy_bool;cases c with|true=>exact hb pins s1 σ H1 Q I1 q1|false=>exact⟨.bl false,H1,I1,rfl,q1⟩
theorem zsc(ha:PE X a ta)(hb:PE X (.BoolOp .Or (b::rest) pos) tb):PE X (.BoolOp .Or (a::b::rest) pos) (tOrV ta tb):=by intro pins s σ H Q I h;refine BoolOp_or (thn (ha pins s σ H _ I h) fun v s1=>ex5 fun x H1 I1 r1 q1=>?_);obtain⟨c,rfl,q1⟩:=q1;cases r1;apply wpAny_truthy_bool;cases c with|false=>exact hb pins s1 σ H1 Q I1 q1|true=>exact⟨.bl true,H1,I1,rfl,q1⟩
theorem zqm(ha:PE X a ta):PE X (.UnaryOp .Not a pos) (zrP ta):=by intro pins s σ H Q I h;refine UnaryOp_ (thn (ha pins s σ H _ I h) fun v s1=>ex5 fun x H1 I1 r1 q1=>?_);obtain⟨c,rfl,q1⟩:=q1;cases r1;exact not_of (wpAny_truthy_bool ⟨.bl (!c),H1,I1,rfl,q1⟩)
def tIf(t:TT)(ta tb:TE):TE:=fun σ H Q=>t σ H fun c H1=>if c=true then ta σ H1 Q else tb σ H1 Q
theorem zlF(hc:PT X c tA)(ha:PE X a ta)(hb:PE X b tb):PE X (.IfExp c a b pos) (tIf tA ta tb):=by intro pins s σ H Q I h;refine wpAny_IfExp (thn (hc pins s σ H _ I h) fun d s1 ⟨H1,I1,q1⟩=>?_);cases d with|true=>exact ha pins s1 σ H1 Q I1 q1|false=>exact hb pins s1 σ H1 Q I1 q1
end
def SqL(K:Frag)(H:Hp)(a:Addr)(xs:List V):Prop:=
 Rd H a (.lst xs)\/
  ∃(o:Obj) (its:Array Value) (n:Nat),K.lookup a=some o/\o.cls=.type "list"/\o.dict=none/\o.data=.seq its n/\its.size<=sizeLine/\Vals xs its.toList
def SqT(K:Frag)(H:Hp)(a:Addr)(xs:List V):Prop:=
 Rd H a (.tup xs)\/
  ∃(o:Obj) (its:Array Value) (n:Nat),K.lookup a=some o/\o.cls=.type "tuple"/\o.data=.seq its n/\its.size<=sizeLine/\Vals xs its.toList
noncomputable def absV:Value->Option V
 |.none=>some .non|.bool b=>some (.bl b)|.int i _=>some (.int i)|.str x _=>some (.str x)|.bytes b _=>some (.byt b)|.float b _=>some (.flt b)|.ref a=>some (.ref a)|.type n=>some (.ty n)|_=>none
theorem RelV.abs(r:RelV x u):absV u=some x:=by cases x with|non=>cases r;rfl|bl _=>cases r;rfl|int _=>obtain⟨t,rfl⟩:=r;rfl|str _=>obtain⟨t,rfl⟩:=r;rfl|byt _=>obtain⟨t,rfl⟩:=r;rfl|flt _=>obtain⟨t,rfl⟩:=r;rfl|ref _=>cases r;rfl|ty _=>cases r;rfl
theorem RelV.inj(r:RelV x u)(q:RelV y u):x=y:=Option.some.inj (r.abs.symm.trans q.abs)
theorem Vals.inj:∀{xs ys:List V}{us:List Value},Vals xs us->Vals ys us->xs=ys
 |_,_,_,.nil,.nil=>rfl|_,_,_,.cons r t,.cons r' t'=>by rw[r.inj r',Vals.inj t t']
section
variable{X:Cx}{pins:List (Addr×Obj)}{σ:St}{H:Hp}{s:Shared}{a:Addr}{xs ys:List V}
theorem SqL.of{K:Frag}(h:H a=some (.lst xs)):SqL K H a xs:=.inl (.inl h)
theorem SqT.of{K:Frag}(h:H a=some (.tup xs)):SqT K H a xs:=.inl (.inl h)
theorem Inv.list(I:Inv X pins σ H s)(h:SqL X.K H a xs):∃its:List Value,Vals xs its/\PlainL s.heap a its.toArray/\xs.length<=sizeLine:=by rcases h with h|⟨o,its,n,hk,hc,hd,hs,hz,r⟩;obtain⟨z,its,n,r,e⟩:=h.ok I.hok;exact⟨its,r,⟨_,n,e,rfl,rfl,rfl⟩,z⟩;refine⟨its.toList,r,⟨o,n,I.kIn a o hk,hc,hd,by simpa using hs⟩,?_⟩;have e:=r.length;simp at e;omega
theorem Inv.tuple(I:Inv X pins σ H s)(h:SqT X.K H a xs):∃its:List Value,Vals xs its/\IsTup s.heap a its.toArray/\xs.length<=sizeLine:=by rcases h with h|⟨o,its,n,hk,hc,hs,hz,r⟩;obtain⟨z,its,r,p⟩:=h.ok I.hok;exact⟨its,r,p,z⟩;refine⟨its.toList,r,⟨o,I.kIn a o hk,hc,n,by simpa using hs⟩,?_⟩;have e:=r.length;simp at e;omega
theorem Inv.list_inj(I:Inv X pins σ H s)(h:SqL X.K H a xs)(h':SqL X.K H a ys):xs=ys:=by
 obtain⟨its,r,⟨o,n,e,_,_,d⟩,_⟩:=I.list h;obtain⟨its',r',⟨o',n',e',_,_,d'⟩,_⟩:=I.list h';rw[e]at e';cases e';rw[d]at d';injection d' with d1 _;have:its=its':=by simpa using congrArg Array.toList d1
 subst this;exact r.inj r'
theorem Inv.tuple_inj(I:Inv X pins σ H s)(h:SqT X.K H a xs)(h':SqT X.K H a ys):xs=ys:=by
 obtain⟨its,r,⟨o,e,_,n,d⟩,_⟩:=I.tuple h;obtain⟨its',r',⟨o',e',_,n',d'⟩,_⟩:=I.tuple h';rw[e]at e';cases e';rw[d]at d';injection d' with d1 _;have:its=its':=by simpa using congrArg Array.toList d1
 subst this;exact r.inj r'
end
noncomputable abbrev Cx.wish(X:Cx)(E:Value->Shared->Prop):Cx:={X with xe:=E}
noncomputable abbrev Cx.nox(X:Cx):Cx:=X.wish fun _ _=>False
theorem Cx.Ok.wish{X:Cx}(ok:X.Ok)(E:Value->Shared->Prop):(X.wish E).Ok:=⟨ok.mod,ok.kind,ok.glob,ok.blt,ok.above,ok.inj,ok.has,ok.cab,ok.hd,ok.frames,ok.stk,ok.exf,ok.bs,ok.bsz,ok.noex,ok.exfs,ok.funs,ok.frf⟩
theorem Cx.Ok.unwish{X:Cx}(ok:(X.wish E).Ok):X.Ok:=⟨ok.mod,ok.kind,ok.glob,ok.blt,ok.above,ok.inj,ok.has,ok.cab,ok.hd,ok.frames,ok.stk,ok.exf,ok.bs,ok.bsz,ok.noex,ok.exfs,ok.funs,ok.frf⟩
section
variable{X:Cx}{pins:List (Addr×Obj)}{σ:St}{H:Hp}{s:Shared}{E:Value->Shared->Prop}
theorem Inv.wish(I:Inv X pins σ H s)(E:Value->Shared->Prop):Inv (X.wish E) pins σ H s:=⟨I.ok.wish E,I.os,I.bare,I.base,I.loc,I.cell,I.free,I.freeC,I.pin,I.hok,I.len⟩
theorem Inv.unwish(I:Inv (X.wish E) pins σ H s):Inv X pins σ H s:=⟨I.ok.unwish,I.os,I.bare,I.base,I.loc,I.cell,I.free,I.freeC,I.pin,I.hok,I.len⟩
theorem SP.unwish(h:SP (X.wish E) pins D f s'):SP X pins D f s':=by cases f with|next=>obtain⟨σ',H',I,q⟩:=h;exact⟨σ',H',I.unwish,q⟩|brk=>obtain⟨σ',H',I,q⟩:=h;exact⟨σ',H',I.unwish,q⟩|cont=>obtain⟨σ',H',I,q⟩:=h;exact⟨σ',H',I.unwish,q⟩|ret u=>obtain⟨v,σ',H',I,r,q⟩:=h;exact⟨v,σ',H',I.unwish,r,q⟩
theorem PSs.nox{st:List Stmt}(h:PSs X.nox st t):PSs X st t:=fun pins s σ H D I hw=>wpAny_mono (h pins s σ H D (I.wish _) hw) (fun _ _ q=>q.unwish) fun _ _ z=>False.elim z
end
section
variable{X:Cx}{st:Stmt}{rest:List Stmt}{t u:TS}{e:Expr}{te:TE}{pos:Pos}
def zrQ:TS:=fun D σ H=>D.nx σ H
def tSeq(t u:TS):TS:=fun D σ H=>t {D with nx:=u D} σ H
theorem znX:PSs X [] zrQ:=fun _ _ σ H _ I h=>wpAny_execs_nil ⟨σ,H,I,h⟩
theorem za2(h1:PS X st t)(h2:PSs X rest u):PSs X (st::rest) (tSeq t u):=by intro pins s σ H D I h;refine wpAny_execs_cons (thn (h1 pins s σ H {D with nx:=u D} I h) fun f s1 q=>?_);cases f with| next=>obtain⟨σ',H',I',q⟩:=q;exact h2 pins s1 σ' H' D I' q|ret v=>exact q|brk=>exact q|cont=>exact q
theorem Inv.quiet{σ:St}(I:Inv X pins σ H s):interactive X.env=false:=by simp[interactive,I.ok.kind]
def zrR(te:TE):TS:=fun D σ H=>te σ H fun _ H1=>D.nx σ H1
theorem znZ(he:PE X e te)(hs:swapsWith e none pos.line X.env=pure false:=by rfl):PS X (.Expr e pos) (zrR te):=by intro pins s σ H D I h;exact wpAny_Expr_any (thn (he pins s σ H _ I h) fun v s1=>ex5 fun x H1 I1 r1 q1=>⟨σ,H1,I1,q1⟩) I.quiet hs
def tRet(te:TE):TS:=fun D σ H=>te σ H D.rt
theorem zqb(he:PE X e te):PS X (.Return (some e) pos) (tRet te):=by intro pins s σ H D I h;exact wpAny_Return_some (thn (he pins s σ H _ I h) fun v s1=>ex5 fun x H1 I1 r1 q1=>⟨x,σ,H1,I1,r1,q1⟩)
def tIfS(c:TT)(t u:TS):TS:=fun D σ H=>c σ H fun b H1=>if b=true then t D σ H1 else u D σ H1
theorem zr9(hc:PT X c tc)(ha:PSs X a t)(hb:PSs X b u):PS X (.If c a b pos) (tIfS tc t u):=by intro pins s σ H D I h;refine wpAny_If (thn (hc pins s σ H _ I h) fun d s1 ⟨H1,I1,q1⟩=>?_);cases d with|true=>exact ha pins s1 σ H1 D I1 q1|false=>exact hb pins s1 σ H1 D I1 q1
end
abbrev TG:=V->St->Hp->(St->Hp->Prop)->Prop
abbrev TGs:=List V->St->Hp->(St->Hp->Prop)->Prop
def PG(X:Cx)(target:Expr)(t:TG):Prop:=
 ∀(pins:List (Addr×Obj))(s:Shared)(σ:St)(H:Hp)(v:V)(u:Value)(Q:St->Hp->Prop),Inv X pins σ H s->RelV v u->t v σ H Q->
  wpAny (model X.prog X.w) X.A (assign target X.env u) (fun _ s'=>∃σ' H',Inv X pins σ' H' s'/\Q σ' H') X.xe s
def PGs(X:Cx)(ts:List Expr)(t:TGs):Prop:=
 ∀(pins:List (Addr×Obj))(s:Shared)(σ:St)(H:Hp)(vs:List V)(us:List Value)(Q:St->Hp->Prop),Inv X pins σ H s->Vals vs us->t vs σ H Q->
  wpAny (model X.prog X.w) X.A (assignInOrder ((assignEach ts X.env).map (·.2)) us) (fun _ s'=>∃σ' H',Inv X pins σ' H' s'/\Q σ' H') X.xe s
abbrev TSet:=V->V->V->Hp->(Hp->Prop)->Prop
def PSet(X:Cx)(t:TSet):Prop:=
 ∀(pins:List (Addr×Obj))(s:Shared)(σ:St)(H:Hp)(o i v:V)(ov iv u:Value)(Q:Hp->Prop),Inv X pins σ H s->RelV o ov->RelV i iv->RelV v u->t o i v H Q->
  wpAny (model X.prog X.w) X.A (setItem ov iv u) (fun _ s'=>∃H',Inv X pins σ H' s'/\Q H') X.xe s
section
variable{X:Cx}{pos:Pos}
def zkc(i:Nat):TG:=fun v σ H Q=>Q (σ.set i (some v)) H
theorem zjm(hN:X.N.Nodup)(hi:X.N[i]?=some x)(hx:Loc X.env.scope x)(hf:X.fn x=true\/X.env.scope.names.lookup x=some .local:=by first|exact .inl rfl|exact .inr rfl|assumption):PG X (.Name x pos) (zkc i):=by intro pins s σ H v u Q I r h;exact wpAny_assign_Name (zgR I hN hi hx r (fun s' I'=>⟨_,H,I',h⟩) hf)
def gNil:TGs:=fun vs σ H Q=>vs=[]/\Q σ H
def zsw(t:TG)(u:TGs):TGs:=fun vs σ H Q=>∃v r,vs=v::r/\t v σ H fun σ' H'=>u r σ' H' Q
theorem zn4:PGs X [] gNil:=by intro pins s σ H vs us Q I r h;obtain⟨e,h⟩:=h;exact assignInOrder_nil ⟨σ,H,I,h⟩
theorem zlB(h1:PG X e t)(h2:PGs X es u)
  (hs:(assignEach (e::es) X.env).map (·.2)=assign e X.env::(assignEach es X.env).map (·.2):=by rfl):PGs X (e::es) (zsw t u):=by
 intro pins s σ H vs us Q I r h;obtain⟨v,vr,e1,h⟩:=h;subst e1;cases r with| cons r rr=>rw[hs];refine assignInOrder_cons (thn (h1 pins s σ H _ _ _ I r h) fun _ s1 ⟨σ1,H1,I1,q1⟩=>?_);exact h2 pins s1 σ1 H1 _ _ Q I1 rr q1
def gTup(K:Frag)(n:Nat)(t:TGs):TG:=fun v σ H Q=>∃a xs,v=.ref a/\SqT K H a xs/\xs.length=n/\t xs σ H Q
theorem zqh{k:Nat}(hc:X.calm=true)(h:PGs X es t)
  (hn:(assignEach es X.env).length=n:=by rfl) (hst:(assignEach es X.env).findIdx? (·.1)=none:=by rfl):PG X (.Tuple es k pos) (gTup X.K n t):=by
 intro pins s σ H v u Q I r hw;obtain⟨a,xs,e1,hq,hl,hw⟩:=hw;subst e1;cases r;obtain⟨its,rv,ht,hz⟩:=I.tuple hq;refine assign_Tuple_tuple (I.ok.hd hc) ht (by simp[hn,<-hl,rv.length]) hst fun h' hx=>?_;have I1:Inv X pins σ H {s with heap:=h'}:=I.kept (t':=s.toks) fun b o e=>hx b o (ne_of_lt (Heap.lt_size e)) e;exact h pins _ σ H xs _ Q I1 (by simpa using rv) hw
def tAsg(te:TE)(g:TG):TS:=fun D σ H=>te σ H fun x H1=>g x σ H1 D.nx
theorem zqe(he:PE X e te)(hg:PG X tg g)(hs:swapsWithSole [tg] e pos.line X.env=pure false:=by rfl)(hw:swappedStores [tg] e X.env=pure none:=by rfl)
  (h1:(assignEach [tg] X.env).map (·.2)=[assign tg X.env]:=by rfl):PS X (.Assign [tg] e pos) (tAsg te g):=by
 intro pins s σ H D I h;refine wpAny_Assign_stores (thn (he pins s σ H _ I h) fun v s1=>ex5 fun x H1 I1 r1 q1=>?_) hs hw;rw[h1];exact thn (hg pins s1 σ H1 x v _ I1 r1 q1) fun _ s2 q=>q
theorem zmA(hN:X.N.Nodup)(hi:X.N[i]?=some x)(hx:Loc X.env.scope x)(he:PE X e te)(hs:swapsWith e (some (.Name x pos')) pos.line X.env=pure false:=by rfl)(hf:X.fn x=true\/X.env.scope.names.lookup x=some .local:=by first|exact .inl rfl|exact .inr rfl|assumption) :
  PS X (.Assign [.Name x pos'] e pos) (tAsg te (zkc i)):=by
 intro pins s σ H D I h;refine wpAny_Assign_Name (thn (he pins s σ H _ I h) fun v s1=>ex5 fun y H1 I1 r1 q1=>?_) hs;exact zgR I1 hN hi hx r1 (fun s2 I2=>⟨_,H1,I2,q1⟩) hf
end
structure It where
 go:Nat->Hp->Prop
 yld:Nat->Hp->V->Hp->Prop
 stop:Nat->Hp->Prop
def FpOk(X:Cx)(pins:List (Addr×Obj))(H:Hp)(b:Addr):Prop:=H b=none/\b≠X.env.locals/\b∉X.fs/\(b∈X.ex\/X.s₀.heap.objs.size<=b)/\(∀x c,X.env.cells.lookup x=some c->c≠b)/\∀p∈X.pn++pins,p.1≠b
theorem Inv.fpOk{σ:St}{b:Addr}(I:Inv X pins σ H s)(hb:s.heap.objs.size<=b)(hn:H' b=none):FpOk X pins H' b:=by refine⟨hn,ne_of_gt (lt_of_lt_of_le I.lt hb),I.nofs hb,.inr (le_trans I.sz hb),fun x c e z=>?_,fun p hp z=>?_⟩;obtain⟨v,q⟩:=I.cell x c e;exact absurd (lt_of_lt_of_le q.lt (by rw[z];exact hb)) (lt_irrefl _);exact absurd (lt_of_lt_of_le (Heap.lt_size (I.pin p hp).1) (by rw[z];exact hb)) (lt_irrefl _)
structure Turn(P:Program)(w:World)(K:Frag)(tg:Expr)(J:It)(fp:List Addr)(it:Addr)(tn:Nat->Heap->Prop):Prop where
 mem:it∈fp
 obj:∀i h,tn i h->∀b∈fp,∃o,h.get? b=some o/\∀v,o.data≠.cell v
 keep:∀i h h',tn i h->(∀b∈fp,∀o,h.get? b=some o->h'.get? b=some o)->tn i h'
 item:∀(X:Cx),X.prog=P->X.w=w->X.K=K->X.calm=true->∀(i:Nat)(pins:List (Addr×Obj))(s:Shared)(σ:St)(H:Hp)(E:Value->Shared->Prop),Inv X pins σ H s->(∀b∈fp,FpOk X pins H b)->tn i s.heap->J.go i H->
  wpAny (model P w) X.A (pyNext (.ref it)) (fun r s1=>∃u,r=some u/\
   wpAny (model P w) X.A (letOwnedTupleGo tg (.ref it) u) (fun _ s2=>∃x H',Inv X pins σ H' s2/\RelV x u/\J.yld i H x H'/\tn (i+1) s2.heap/\∀b∈fp,H' b=none) E s1) E s
 done:∀(X:Cx),X.prog=P->X.w=w->X.K=K->X.calm=true->∀(i:Nat)(pins:List (Addr×Obj))(s:Shared)(σ:St)(H:Hp)(E:Value->Shared->Prop),Inv X pins σ H s->(∀b∈fp,FpOk X pins H b)->tn i s.heap->J.stop i H->
  wpAny (model P w) X.A (pyNext (.ref it)) (fun r s1=>r=none/\Inv X pins σ H s1) E s
 self:∀(A:Around)(i:Nat)(s:Shared)(Q:Value->Shared->Prop)(E:Value->Shared->Prop),tn i s.heap->Q (.ref it) s->wpAny (model P w) A (pyIter (.ref it)) Q E s
abbrev TI:=St->Hp->(It->Hp->Prop)->Prop
def PIE(X:Cx)(pins:List (Addr×Obj))(σ:St)(tg:Expr)(R:It->Hp->Prop)(itv:Value)(s2:Shared):Prop:=∃(it:Addr) (fp:List Addr) (tn:Nat->Heap->Prop) (J:It) (H':Hp),itv=.ref it/\Inv X pins σ H' s2/\Turn X.prog X.w X.K tg J fp it tn/\tn 0 s2.heap/\(∀b∈fp,FpOk X pins H' b)/\R J H'
def PI(X:Cx)(tg iter:Expr)(wi:TI):Prop:=
 ∀(pins:List (Addr×Obj))(s:Shared)(σ:St)(H:Hp)(R:It->Hp->Prop),Inv X pins σ H s->wi σ H R->
  wpAny (model X.prog X.w) X.A (eval iter X.env) (fun v s1=>wpAny (model X.prog X.w) X.A (pyIter v) (PIE X pins σ tg R) X.xe s1) X.xe s
theorem zoG(ho:s.heap.get? it=some o)(hc:o.cls=.type n)(hd:o.data=.fields vs)
  (hn:["enumerate","zip","dict_itemiterator","dict_reverseitemiterator","odict_iterator","itertools.zip_longest","itertools.pairwise"].contains n=false) (hQ:Q () s):wpAny M A (letOwnedTupleGo tg (.ref it) u) Q E s:=by
 cases tg<;>first
  |exact wpAny_pure hQ
  |(cases u<;>first
   |exact wpAny_pure hQ
   | (refine wpAny_bind (wpAny_load ho ?_)
      rw[hc,hd];show wpAny M A (if(["enumerate","zip","dict_itemiterator","dict_reverseitemiterator","odict_iterator","itertools.zip_longest","itertools.pairwise"].contains n&&vs[0]?==some (rawInt _))=true then _ else _) Q E s;rw[if_neg (by intro h;rw[hn,Bool.false_and]at h;cases h)];exact wpAny_pure hQ))
noncomputable def Itl(K:Frag)(a:Addr):It:=⟨fun i H=>∃xs x,SqL K H a xs/\xs[i]?=some x,fun i H x H'=>H'=H/\∀xs,SqL K H a xs->xs[i]?=some x,fun i H=>∃xs,SqL K H a xs/\xs.length<=i⟩
noncomputable def Itt(K:Frag)(a:Addr):It:=⟨fun i H=>∃xs x,SqT K H a xs/\xs[i]?=some x,fun i H x H'=>H'=H/\∀xs,SqT K H a xs->xs[i]?=some x,fun i H=>∃xs,SqT K H a xs/\xs.length<=i⟩
noncomputable def Itr(lo:Int)(n:Nat):It:=⟨fun i _=>i<n,fun i H x H'=>H'=H/\x=.int (lo+i),fun i _=>n<=i⟩
theorem ziG{K:Frag}(a it:Addr):Turn P w K tg (Itl K a) [it] it (fun i h=>h.IsListIter it a i) where
 mem:=by simp
 obj:=fun i h st b hb=>by
  have e:b=it:=by simpa using hb
  subst e;obtain⟨o,e,c,d⟩:=st;exact⟨o,e,fun v z=>by rw[d]at z;cases z⟩
 keep:=fun i h h' st k=>st.at fun o e=>k it (by simp) o e
 item:=by intro X hP hw hK hc i pins s σ H E I hf st hg;subst hP hw hK;obtain⟨xs,x,hq,hx⟩:=hg;obtain⟨its,rv,p,hz⟩:=I.list hq;obtain⟨u,hu,ru⟩:=rv.get hx;obtain⟨f0,f1,f2,f3,f4,f5⟩:=hf it (by simp);refine wpAny_pyNext_list_item st p.isList (by simpa using hu) fun h' st' sb=>?_;have I1:Inv X pins σ H {s with heap:=h'}:=I.turned (t':=s.toks) (fun b o hb e=>(sb.2 b hb).trans e) f0 f1 f3 f4 f5;obtain⟨o,e,c,d⟩:=id st';exact⟨u,rfl,zoG e c d (by decide) ⟨x,H,I1,ru,⟨rfl,fun ys hy=>by rw[I.list_inj hy hq];exact hx⟩,st',fun b hb=>(hf b hb).1⟩⟩
 done:=by intro X hP hw hK hc i pins s σ H E I hf st hg;subst hP hw hK;obtain⟨xs,hq,hx⟩:=hg;obtain⟨its,rv,p,hz⟩:=I.list hq;obtain⟨f0,f1,f2,f3,f4,f5⟩:=hf it (by simp);have hl:=rv.length;exact wpAny_pyNext_list_end (I.ok.hd hc) st p.isList (by simp;omega) fun h' eb=>⟨rfl,I.turned (t':=s.toks) (fun b o hb e=>eb b o hb e) f0 f1 f3 f4 f5⟩
 self:=fun _ _ _ _ _ st h=>wpAny_pyIter_listiter st h
theorem zhG{K:Frag}(a it:Addr):Turn P w K tg (Itt K a) [it] it (fun i h=>h.IsTupleIter it a i) where
 mem:=by simp
 obj:=fun i h st b hb=>by
  have e:b=it:=by simpa using hb
  subst e;obtain⟨o,e,c,d⟩:=st;exact⟨o,e,fun v z=>by rw[d]at z;cases z⟩
 keep:=fun i h h' st k=>st.at fun o e=>k it (by simp) o e
 item:=by intro X hP hw hK hc i pins s σ H E I hf st hg;subst hP hw hK;obtain⟨xs,x,hq,hx⟩:=hg;obtain⟨its,rv,p,hz⟩:=I.tuple hq;obtain⟨u,hu,ru⟩:=rv.get hx;obtain⟨f0,f1,f2,f3,f4,f5⟩:=hf it (by simp);refine wpAny_pyNext_tuple_item st p (by simpa using hu) fun h' st' sb=>?_;have I1:Inv X pins σ H {s with heap:=h'}:=I.turned (t':=s.toks) (fun b o hb e=>(sb.2 b hb).trans e) f0 f1 f3 f4 f5;obtain⟨o,e,c,d⟩:=id st';exact⟨u,rfl,zoG e c d (by decide) ⟨x,H,I1,ru,⟨rfl,fun ys hy=>by rw[I.tuple_inj hy hq];exact hx⟩,st',fun b hb=>(hf b hb).1⟩⟩
 done:=by intro X hP hw hK hc i pins s σ H E I hf st hg;subst hP hw hK;obtain⟨xs,hq,hx⟩:=hg;obtain⟨its,rv,p,hz⟩:=I.tuple hq;obtain⟨f0,f1,f2,f3,f4,f5⟩:=hf it (by simp);have hl:=rv.length;exact wpAny_pyNext_tuple_end (I.ok.hd hc) st p (by simp;omega) fun h' eb=>⟨rfl,I.turned (t':=s.toks) (fun b o hb e=>eb b o hb e) f0 f1 f3 f4 f5⟩
 self:=fun _ _ _ _ _ st h=>wpAny_pyIter_tupleiter st h
theorem zhH{K:Frag}(it:Addr)(lo:Int)(n:Nat):Turn P w K tg (Itr lo n) [it] it (fun i h=>IsRangeIter h it (lo+(i:Nat)*1) ((n:Int)-(i:Nat)) 1) where
 mem:=by simp
 obj:=fun i h st b hb=>by
  have e:b=it:=by simpa using hb
  subst e;exact⟨_,st,fun v z=>by have z':Data.fields _=Data.cell v:=z;cases z'⟩
 keep:=fun i h h' st k=>k it (by simp) _ st
 item:=by intro X hP hw hK hc i pins s σ H E I hf st hg;subst hP hw hK;obtain⟨f0,f1,f2,f3,f4,f5⟩:=hf it (by simp);have W:=Walks.range (prog:=X.prog) (w:=X.w) (I.ok.hd hc) it lo 1 n;refine W.item i s _ _ hg st fun v h' tk hv st' kk=>?_;obtain⟨t,rfl⟩:=hv;have I1:Inv X pins σ H {s with heap:=h',toks:=tk}:=I.turned (fun b o hb e=>kk b o (by simpa using hb) e) f0 f1 f3 f4 f5;refine⟨_,rfl,zoG st' rfl rfl (by decide) ⟨.int (lo+i),H,I1,⟨t,?_⟩,⟨rfl,rfl⟩,st',fun b hb=>(hf b hb).1⟩⟩;rw[Int.mul_one]
 done:=by intro X hP hw hK hc i pins s σ H E I hf st hg;obtain⟨f0,f1,f2,f3,f4,f5⟩:=hf it (by simp);exact wpAny_pyNext_range_end (I.ok.hd hc) st (by have:n<=i:=hg;omega) fun h' eb=>⟨rfl,I.turned (t':=s.toks) (fun b o hb e=>eb b o hb e) f0 f1 f3 f4 f5⟩
 self:=fun _ _ _ _ _ st h=>wpAny_pyIter_rangeiter st h
section
variable{X:Cx}{tg:Expr}
theorem zg0{σ:St}{lo hi:Int}(I:Inv X pins σ H s)(h1:-(2^62)<=lo)(h2:lo<2^62)(h3:-(2^62)<=hi)(h4:hi<2^62)
  (q:R (Itr lo (hi-lo).toNat) H):wpAny (model X.prog X.w) X.A (pyIter (.ref s.heap.objs.size)) (PIE X pins σ tg R) E {s with heap:=s.heap.push {cls:=.type "range",data:=.fields #[.int lo t,.int hi u,.int 1 v]},toks:=tk}:=by
 apply wpAny_pyIter_range (IsRange.new ..) (small_one h1 h2 h3 h4);have I1:Inv X pins σ H {s with heap:=s.heap.push {cls:=.type "range",data:=.fields #[.int lo t,.int hi u,.int 1 v]},toks:=tk}:=I.kept fun b o e=>Heap.get?_push_of_some _ e;refine⟨(s.heap.push {cls:=.type "range",data:=.fields #[.int lo t,.int hi u,.int 1 v]}).objs.size,[(s.heap.push {cls:=.type "range",data:=.fields #[.int lo t,.int hi u,.int 1 v]}).objs.size],_,_,H,rfl,
  I1.kept (t':=tk) fun b o e=>Heap.get?_push_of_some _ e,zhH _ lo (hi-lo).toNat,?_,fun b hb=>?_,q⟩
 have e1:lo+((0:Nat):Int)*1=lo:=by simp
 have e2:(((hi-lo).toNat:Nat):Int)-((0:Nat):Int)=Builtin.Range.rangeSize lo hi 1:=by rw[rangeSize_one];split<;>omega
 rw[e1,e2];exact Heap.get?_push_size _ rfl;have e:b=(s.heap.push {cls:=.type "range",data:=.fields #[.int lo t,.int hi u,.int 1 v]}).objs.size:=by simpa using hb
 subst e;exact I1.fpOk (le_refl _) (I1.hok.fresh (le_refl _))
def zss(ta:TA):TI:=fun σ H R=>ta σ H fun vs H1=>∃j:Int,vs=[.int j]/\-(2^62)<=j/\j<2^62/\R (Itr 0 j.toNat) H1
def zsr(ta:TA):TI:=fun σ H R=>ta σ H fun vs H1=>∃i j:Int,vs=[.int i,.int j]/\(-(2^62)<=i/\i<2^62/\-(2^62)<=j/\j<2^62)/\R (Itr i (j-i).toNat) H1
theorem zjl(hg:Gl X "range")(hm:X.mg "range"=none)(ha:PA X [a] ta)(hs:starEach [a] X.env=[(false,eval a X.env)]:=by rfl):PI X tg (.Call (.Name "range" p) [a] [] pos) (zss ta):=by intro pins s σ H R I h;refine Call_ (zds I hg hm boot_range (PyProof.Rows.callWith_type1 (thn (ha pos pins s σ H _ I h) fun us s1=>ex5 fun vs H1 I1 r1 q1=>?_) hs rfl));obtain⟨j,e,q1,q2,q⟩:=q1;subst e;cases r1 with| cons r rr=>cases rr;obtain⟨t,rfl⟩:=r;exact call_range_1 (zg0 I1 (by omega) (by omega) q1 q2 (by simpa using q))
theorem zjk{p pos:Pos}(hg:Gl X "range")(hm:X.mg "range"=none)(ha:PA X [a,b] ta)(hs:starEach [a,b] X.env=[(false,eval a X.env),(false,eval b X.env)]:=by rfl)(hs2:starEach [b] X.env=[(false,eval b X.env)]:=by rfl) :
  PI X tg (.Call (.Name "range" p) [a,b] [] pos) (zsr ta):=by
 intro pins s σ H R I h;refine Call_ (zds I hg hm boot_range (PyProof.Rows.callWith_type1 (thn (ha pos pins s σ H _ I h) fun us s1=>ex5 fun vs H1 I1 r1 q1=>?_) (by rw[hs,hs2]) (by rw[hs2];rfl)));obtain⟨i,j,e,⟨q1,q2,q3,q4⟩,q⟩:=q1;subst e;cases r1 with| cons r rr=>cases rr with| cons r' rr=>cases rr;obtain⟨t,rfl⟩:=r;obtain⟨t',rfl⟩:=r';exact call_range_2 (zg0 I1 q1 q2 q3 q4 q)
def tFor(wi:TI)(g:TG)(tb:TS):TS:=fun D σ H=>wi σ H fun J H1=>∃W:Nat->Nat->St->Hp->Prop,(∃m,W 0 m σ H1)/\∀i m σ H,W i m σ H->
 (J.stop i H/\D.nx σ H)\/(J.go i H/\∃N:St->Hp->Prop,(∀σ' H',N σ' H'->∃m',m'<m/\W (i+1) m' σ' H')/\∀x H',J.yld i H x H'->g x σ H' fun σ2 H2=>tb {D with nx:=N,ct:=N,bk:=D.nx} σ2 H2)
noncomputable def zfr(fp:List Addr)(h:Heap):List (Addr×Obj):=fp.filterMap fun b=>(h.get? b).map fun o=>(b,o)
theorem zb1(hb:b∈fp)(e:h.get? b=some o):(b,o)∈zfr fp h:=List.mem_filterMap.mpr ⟨b,hb,by rw[e];rfl⟩
theorem zjr(hp:p∈zfr fp h):p.1∈fp/\h.get? p.1=some p.2:=by
 obtain⟨b,hb,e⟩:=List.mem_filterMap.mp hp;cases q:h.get? b with
 |none=>rw[q]at e;cases e
 |some o=>rw[q]at e;have e':(b,o)=p:=Option.some.inj e;subst e';exact⟨hb,q⟩
theorem Inv.pinned{σ:St}(I:Inv X pins σ H s)(hf:∀b∈fp,FpOk X pins H b)(ho:∀b∈fp,∃o,s.heap.get? b=some o/\∀v,o.data≠.cell v):Inv X (pins++zfr fp s.heap) σ H s:=I.pins_of fun p hp=>(mem_append.mp hp).elim (fun z=>I.pin p (mem_append_right _ z)) fun z=>by obtain⟨hb,e⟩:=zjr z;obtain⟨f0,f1,f2,_⟩:=hf p.1 hb;obtain⟨o,e',d⟩:=ho p.1 hb;rw[e]at e';cases e';exact⟨e,f0,f1,f2,d⟩
theorem Inv.unpinned{σ:St}(I:Inv X (pins++pl) σ H s):Inv X pins σ H s:=I.pins_of fun p hp=>I.pin p (mem_append_right _ (mem_append_left _ hp))
theorem zqc(hp:PassesOwn (model X.prog X.w) X.A X.env X.xe)(hc:X.calm=true)(hi:PI X tg iter wi)(hg:PG X tg g)(hb:PSs X body tb)
  (hs:∀x,foldedSetIterable iter X.env x=pure x:=by intro _;rfl):PS X (.For tg iter body [] pos) (tFor wi g tb):=by
 intro pins s σ H D I h;refine wpAny_For (thn (hi pins s σ H _ I h) fun v s1 h1=>thn h1 fun itv s2 h2=>?_) hs;obtain⟨it,fp,tn,J,H2,e,I2,T,st2,f2,W,⟨m0,w0⟩,turn⟩:=h2;subst e;have stat:∀{H':Hp},(∀b∈fp,H' b=none)->∀b∈fp,FpOk X pins H' b:=fun hn b hb=>⟨hn b hb,(f2 b hb).2⟩;refine codeAny_forLoop_any (fun n s'=>∃i σ' H',Inv X pins σ' H' s'/\tn i s'.heap/\(∀b∈fp,H' b=none)/\W i n σ' H') ?_ m0 ⟨0,σ,H2,I2,st2,fun b hb=>(f2 b hb).1,w0⟩;rintro n s3 ⟨i,σ3,H3,I3,st3,fr3,w3⟩;rcases turn i n σ3 H3 w3 with⟨stop,qn⟩|⟨go,N,hN,step⟩;refine wpAny_passesOwn hp (thn (T.done X rfl rfl rfl hc i pins s3 σ3 H3 X.xe I3 (stat fr3) st3 stop) fun r s4 ⟨hr,I4⟩=>?_);subst hr;exact wpAny_execs_nil ⟨σ3,H3,I4,qn⟩;refine wpAny_passesOwn hp (thn (T.item X rfl rfl rfl hc i pins s3 σ3 H3 X.xe I3 (stat fr3) st3 go) fun r s4 ⟨u,hr,h4⟩=>?_);subst hr;refine wpAny_passesOwn hp (thn h4 fun _ s5=>ex5 fun x H5 I5 r5 ⟨y5,st5,fr5⟩=>?_);have I5':=I5.pinned (stat fr5) (T.obj _ _ st5);refine wpAny_passesOwn hp (thn (hg _ s5 σ3 H5 x u _ I5' r5 (step x H5 y5)) fun _ s6 ⟨σ6,H6,I6,q6⟩=>?_);refine wpAny_passesOwn hp (thn (hb _ s6 σ6 H6 _ I6 q6) fun f s7 q7=>?_);have again:∀{σ7:St}{H7:Hp},Inv X (pins++zfr fp s5.heap) σ7 H7 s7->N σ7 H7->∃m,m<n/\∃i σ' H',Inv X pins σ' H' s7/\tn i s7.heap/\(∀b∈fp,H' b=none)/\W i m σ' H':=fun {σ7 H7} I7 n7=>by obtain⟨m',hm,w7⟩:=hN σ7 H7 n7;refine⟨m',hm,i+1,σ7,H7,I7.unpinned,T.keep _ _ _ st5 fun b hb o e=>(I7.pin (b,o) (mem_append_right _ (mem_append_right _ (zb1 hb e)))).1,fun b hb=>?_,w7⟩;obtain⟨o,e,d⟩:=T.obj _ _ st5 b hb;exact(I7.pin (b,o) (mem_append_right _ (mem_append_right _ (zb1 hb e)))).2.1
 cases f with|next=>obtain⟨σ7,H7,I7,n7⟩:=q7;exact again I7 n7|cont=>obtain⟨σ7,H7,I7,n7⟩:=q7;exact again I7 n7|brk=>obtain⟨σ7,H7,I7,q7⟩:=q7;exact⟨σ7,H7,I7.unpinned,q7⟩|ret v=>obtain⟨x7,σ7,H7,I7,r7,q7⟩:=q7;exact⟨x7,σ7,H7,I7.unpinned,r7,q7⟩
end
abbrev R2:=V->V->Hp->VK->Prop
def OpR(X:Cx)(f:Value->Value->Sem Value)(r:R2):Prop:=
 ∀(pins:List (Addr×Obj))(s:Shared)(σ:St)(H:Hp)(x y:V)(v u:Value)(Q:VK),Inv X pins σ H s->RelV x v->RelV y u->r x y H Q->
  wpAny (model X.prog X.w) X.A (f v u) (EP X pins σ Q) X.xe s
def UnR(X:Cx)(f:Value->Sem Value)(r:V->Hp->VK->Prop):Prop:=
 ∀(pins:List (Addr×Obj))(s:Shared)(σ:St)(H:Hp)(x:V)(v:Value)(Q:VK),Inv X pins σ H s->RelV x v->r x H Q->
  wpAny (model X.prog X.w) X.A (f v) (EP X pins σ Q) X.xe s
def zbi(X:Cx)(f:Value)(r:List V->Hp->VK->Prop):Prop:=
 ∀(pins:List (Addr×Obj))(s:Shared)(σ:St)(H:Hp)(xs:List V)(us:List Value)(Q:VK),Inv X pins σ H s->Vals xs us->r xs H Q->
  wpAny (model X.prog X.w) X.A (call f us) (EP X pins σ Q) X.xe s
def TruR(X:Cx)(r:V->Hp->(Bool->Hp->Prop)->Prop):Prop:=
 ∀(pins:List (Addr×Obj))(s:Shared)(σ:St)(H:Hp)(x:V)(v:Value)(Q:Bool->Hp->Prop),Inv X pins σ H s->RelV x v->r x H Q->
  wpAny (model X.prog X.w) X.A (truthy v) (TP X pins σ Q) X.xe s
def tOp(r:R2)(ta tb:TE):TE:=fun σ H Q=>ta σ H fun x H1=>tb σ H1 fun y H2=>r x y H2 Q
def tUn(r:V->Hp->VK->Prop)(ta:TE):TE:=fun σ H Q=>ta σ H fun x H1=>r x H1 Q
def rI(C:Int->Int->Prop)(g:Int->Int->V):R2:=fun x y H Q=>∃i j,x=.int i/\y=.int j/\C i j/\Q (g i j) H
def rI0(g:Int->Int->V):R2:=fun x y H Q=>∃i j,x=.int i/\y=.int j/\Q (g i j) H
def rU(g:Int->V):V->Hp->VK->Prop:=fun x H Q=>∃i,x=.int i/\Q (g i) H
section
variable{X:Cx}{a b c:Expr}{ta tb tc:TE}{pos:Pos}
theorem binT(ha:PE X a ta)(hb:PE X b tb){σ:St}{R:V->V->Hp->Prop}(I:Inv X pins σ H s)
  (h:ta σ H fun x H1=>tb σ H1 fun y H2=>R x y H2) {f:Value->Value->Sem Value}
  (hf:∀v u s2 x y H2,Inv X pins σ H2 s2->RelV x v->RelV y u->R x y H2->wpAny (model X.prog X.w) X.A (f v u) Q X.xe s2) :
  wpAny (model X.prog X.w) X.A (eval a X.env) (fun v s₁=>wpAny (model X.prog X.w) X.A (eval b X.env) (fun u s₂=>wpAny (model X.prog X.w) X.A (f v u) Q X.xe s₂) X.xe s₁) X.xe s:=by
 refine thn (ha pins s σ H _ I h) fun v s1=>ex5 fun x H1 I1 r1 q1=>?_;refine thn (hb pins s1 σ H1 _ I1 q1) fun u s2=>ex5 fun y H2 I2 r2 q2=>?_;exact hf v u s2 x y H2 I2 r1 r2 q2
theorem zql(ho:OpR X (binaryOp op) r)(ha:PE X a ta)(hb:PE X b tb):PE X (.BinOp a op b pos) (tOp r ta tb):=by intro pins s σ H Q I h;exact wpAny_BinOp (binT ha hb I h fun v u s2 x y H2 I2 rx ry q=>ho pins s2 σ H2 x y v u Q I2 rx ry q)
theorem zsb(ho:UnR X (unaryOp op) r)(ha:PE X a ta):PE X (.UnaryOp op a pos) (tUn r ta):=by intro pins s σ H Q I h;exact UnaryOp_ (thn (ha pins s σ H _ I h) fun v s1=>ex5 fun x H1 I1 r1 q1=>ho pins s1 σ H1 x v Q I1 r1 q1)
theorem opI{g:Int->Int->Int}
  (rule:∀(i j:Int)(t u:Tok)(s:Shared)(Q:Value->Shared->Prop)(E:Value->Shared->Prop),C i j->Q (.int (g i j) s.toks) {s with toks:=s.toks+1}->wpAny (model X.prog X.w) X.A (f (.int i t) (.int j u)) Q E s) :
  OpR X f (rI C fun i j=>.int (g i j)):=by
 intro pins s σ H x y v u Q I rx ry h;obtain⟨i,j,rfl,rfl,hc,q⟩:=h;obtain⟨t,rfl⟩:=rx;obtain⟨t',rfl⟩:=ry;exact rule i j t t' s _ _ hc ⟨.int (g i j),H,I.tok _,⟨_,rfl⟩,q⟩
theorem opI0{g:Int->Int->Int}
  (rule:∀(i j:Int)(t u:Tok)(s:Shared)(Q:Value->Shared->Prop)(E:Value->Shared->Prop),Q (.int (g i j) s.toks) {s with toks:=s.toks+1}->wpAny (model X.prog X.w) X.A (f (.int i t) (.int j u)) Q E s) :
  OpR X f (rI0 fun i j=>.int (g i j)):=by
 intro pins s σ H x y v u Q I rx ry h;obtain⟨i,j,rfl,rfl,q⟩:=h;obtain⟨t,rfl⟩:=rx;obtain⟨t',rfl⟩:=ry;exact rule i j t t' s _ _ ⟨.int (g i j),H,I.tok _,⟨_,rfl⟩,q⟩
theorem opB0{g:Int->Int->Bool}
  (rule:∀(i j:Int)(t u:Tok)(s:Shared)(Q:Value->Shared->Prop)(E:Value->Shared->Prop),Q (.bool (g i j)) s->wpAny (model X.prog X.w) X.A (f (.int i t) (.int j u)) Q E s) :
  OpR X f (rI0 fun i j=>.bl (g i j)):=by
 intro pins s σ H x y v u Q I rx ry h;obtain⟨i,j,rfl,rfl,q⟩:=h;obtain⟨t,rfl⟩:=rx;obtain⟨t',rfl⟩:=ry;exact rule i j t t' s _ _ ⟨.bl (g i j),H,I,rfl,q⟩
def CDiv(i j:Int):Prop:=0<j/\j<1073741824
def CPow(i j:Int):Prop:=0<=j/\j<=1000000/\i.natAbs<2^64
def CMul(i j:Int):Prop:=(-(2^64)<i/\i<2^64)\/(-(2^64)<j/\j<2^64)
theorem CMul.ok(h:CMul i j):IntMulOk i j:=by rcases h with⟨h1,h2⟩|⟨h1,h2⟩;exact .of_left (intBits_le_64 h1 h2);exact .of_right (intBits_le_64 h1 h2)
theorem zqF:OpR X (binaryOp .Add) (rI0 fun i j=>.int (i+j)):=opI0 fun _ _ _ _ _ _ _ q=>add_int q
theorem zqx:OpR X (binaryOp .Sub) (rI0 fun i j=>.int (i-j)):=opI0 fun _ _ _ _ _ _ _ q=>sub_int q
theorem zqB:OpR X (binaryOp .Mult) (rI CMul fun i j=>.int (i*j)):=opI fun _ _ _ _ _ _ _ hc q=>mul_int q hc.ok
theorem zod:OpR X (binaryOp .FloorDiv) (rI CDiv fun i j=>.int (i/j)):=opI fun i j _ _ _ _ _ hc q=>by have h1:(0:Int)<j:=hc.1;have h2:j<1073741824:=hc.2;exact floordiv_int (by omega) (by rw[Int.fdiv_eq_ediv_of_nonneg i (by omega)];exact q) (.inl (PyProof.noPylong_small (by omega)))
theorem zqC:OpR X (binaryOp .Mod) (rI (fun _ j=>0<j) fun i j=>.int (i%j)):=opI fun i j _ _ _ _ _ hc q=>by exact mod_int' (by omega) (by rw[Int.fmod_eq_emod_of_nonneg i (by omega)];exact q)
theorem zqz:OpR X (binaryOp .Pow) (rI CPow fun i j=>.int (i^j.toNat)):=opI fun _ _ _ _ _ _ _ hc q=>pow_int_small hc.1 hc.2.1 hc.2.2 q
theorem unI{g:Int->Int}
  (rule:∀(i:Int)(t:Tok)(s:Shared)(Q:Value->Shared->Prop)(E:Value->Shared->Prop),Q (.int (g i) s.toks) {s with toks:=s.toks+1}->wpAny (model X.prog X.w) X.A (f (.int i t)) Q E s) :
  UnR X f (rU fun i=>.int (g i)):=by
 intro pins s σ H x v Q I rx h;obtain⟨i,rfl,q⟩:=h;obtain⟨t,rfl⟩:=rx;exact rule i t s _ _ ⟨.int (g i),H,I.tok _,⟨_,rfl⟩,q⟩
theorem zpg:UnR X (unaryOp .USub) (rU fun i=>.int (-i)):=unI fun _ _ _ _ _ q=>neg_int q
end
noncomputable def scal:V->V->Bool
 |.non,.non=>true|.non,.int _=>true|.int _,.non=>true|.non,.bl _=>true|.bl _,.non=>true|.non,.str _=>true|.str _,.non=>true
 |.int _,.int _=>true|.bl _,.bl _=>true|.str _,.str _=>true|.byt _,.byt _=>true
 |.int _,.str _=>true|.str _,.int _=>true|.bl _,.str _=>true|.str _,.bl _=>true
 |_,_=>false
def rEq:R2:=fun x y H Q=>scal x y=true/\Q (.bl (decide (x=y))) H
def rNe:R2:=fun x y H Q=>scal x y=true/\Q (.bl (!decide (x=y))) H
theorem zku:decide (V.int i=V.int j)=(i==j):=by rw[Bool.eq_iff_iff];simp
theorem zmR:decide (V.bl i=V.bl j)=(i==j):=by rw[Bool.eq_iff_iff];simp
theorem zkt:decide (V.str i=V.str j)=(i==j):=by rw[Bool.eq_iff_iff];simp
theorem zkv:decide (V.byt i=V.byt j)=(i.toList==j.toList):=by rw[Bool.eq_iff_iff];cases i;cases j;simp
section
variable{X:Cx}{a b c:Expr}{ta tb tc:TE}{pos:Pos}
theorem zat{σ:St}(I:Inv X pins σ H s)(q:Q (.bl k) H)(e:k=k'):EP X pins σ Q (.bool k') s:=by subst e;exact⟨.bl k,H,I,rfl,q⟩
theorem zsk:OpR X (compareOp .Eq) rEq:=by
 intro pins s σ H x y v u Q I rx ry h;obtain⟨hs,q⟩:=h;cases x with
 |non=>cases rx;cases y with|non=>cases ry;exact PySem.EqNone.eq_none_none (zat I q (by simp))|bl j=>cases ry;exact PySem.EqNone.eq_none_bool (zat I q (by simp))|int j=>obtain⟨t',rfl⟩:=ry;exact PySem.EqNone.eq_none_int (zat I q (by simp))|str j=>obtain⟨t',rfl⟩:=ry;exact PySem.EqNone.eq_none_str (zat I q (by simp))|_=>exact absurd hs Bool.false_ne_true
 |bl i=>cases rx;cases y with|non=>cases ry;exact PySem.EqNone.eq_bool_none (zat I q (by simp))|bl j=>cases ry;exact eq_bool (zat I q zmR)|str j=>obtain⟨t',rfl⟩:=ry;exact PySem.EqMixed.eq_bool_str (zat I q (by simp))|_=>exact absurd hs Bool.false_ne_true
 |int i=>obtain⟨t,rfl⟩:=rx;cases y with|non=>cases ry;exact PySem.EqNone.eq_int_none (zat I q (by simp))|int j=>obtain⟨t',rfl⟩:=ry;exact eq_int (zat I q zku)|str j=>obtain⟨t',rfl⟩:=ry;exact PySem.EqMixed.eq_int_str (zat I q (by simp))|_=>exact absurd hs Bool.false_ne_true
 |str i=>obtain⟨t,rfl⟩:=rx;cases y with|non=>cases ry;exact PySem.EqNone.eq_str_none (zat I q (by simp))|bl j=>cases ry;exact PySem.EqMixed.eq_str_bool (zat I q (by simp))|int j=>obtain⟨t',rfl⟩:=ry;exact PySem.EqMixed.eq_str_int (zat I q (by simp))|str j=>obtain⟨t',rfl⟩:=ry;exact eq_str (zat I q zkt)|_=>exact absurd hs Bool.false_ne_true
 |byt i=>obtain⟨t,rfl⟩:=rx;cases y with|byt j=>obtain⟨t',rfl⟩:=ry;exact PySem.W.eq_bytes (zat I q zkv)|_=>exact absurd hs Bool.false_ne_true
 |_=>cases y<;>exact absurd hs Bool.false_ne_true
theorem zsf:OpR X (compareOp .NotEq) rNe:=by
 intro pins s σ H x y v u Q I rx ry h;obtain⟨hs,q⟩:=h;cases x with
 |non=>cases rx;cases y with|non=>cases ry;exact PySem.EqNone.ne_none_none (zat I q (by simp))|bl j=>cases ry;exact PySem.EqNone.ne_none_bool (zat I q (by simp))|int j=>obtain⟨t',rfl⟩:=ry;exact PySem.EqNone.ne_none_int (zat I q (by simp))|str j=>obtain⟨t',rfl⟩:=ry;exact PySem.EqNone.ne_none_str (zat I q (by simp))|_=>exact absurd hs Bool.false_ne_true
 |bl i=>cases rx;cases y with|non=>cases ry;exact PySem.EqNone.ne_bool_none (zat I q (by simp))|bl j=>cases ry;exact ne_bool (zat I q (congrArg not zmR))|str j=>obtain⟨t',rfl⟩:=ry;exact PySem.EqMixed.ne_bool_str (zat I q (by simp))|_=>exact absurd hs Bool.false_ne_true
 |int i=>obtain⟨t,rfl⟩:=rx;cases y with|non=>cases ry;exact PySem.EqNone.ne_int_none (zat I q (by simp))|int j=>obtain⟨t',rfl⟩:=ry;exact ne_int (zat I q (congrArg not zku))|str j=>obtain⟨t',rfl⟩:=ry;exact PySem.EqMixed.ne_int_str (zat I q (by simp))|_=>exact absurd hs Bool.false_ne_true
 |str i=>obtain⟨t,rfl⟩:=rx;cases y with|non=>cases ry;exact PySem.EqNone.ne_str_none (zat I q (by simp))|bl j=>cases ry;exact PySem.EqMixed.ne_str_bool (zat I q (by simp))|int j=>obtain⟨t',rfl⟩:=ry;exact PySem.EqMixed.ne_str_int (zat I q (by simp))|str j=>obtain⟨t',rfl⟩:=ry;exact ne_str (zat I q (congrArg not zkt))|_=>exact absurd hs Bool.false_ne_true
 |byt i=>obtain⟨t,rfl⟩:=rx;cases y with|byt j=>obtain⟨t',rfl⟩:=ry;exact PySem.W.ne_bytes (zat I q (congrArg not zkv))|_=>exact absurd hs Bool.false_ne_true
 |_=>cases y<;>exact absurd hs Bool.false_ne_true
theorem zsg:OpR X (compareOp .Lt) (rI0 fun i j=>.bl (decide (i<j))):=opB0 fun _ _ _ _ _ _ _ q=>lt_int q
theorem zsh:OpR X (compareOp .LtE) (rI0 fun i j=>.bl (decide (i<=j))):=opB0 fun _ _ _ _ _ _ _ q=>le_int q
theorem zsi:OpR X (compareOp .Gt) (rI0 fun i j=>.bl (decide (j<i))):=opB0 fun _ _ _ _ _ _ _ q=>gt_int q
theorem zsj:OpR X (compareOp .GtE) (rI0 fun i j=>.bl (decide (j<=i))):=opB0 fun _ _ _ _ _ _ _ q=>ge_int q
theorem zn8(ho:OpR X (compareOp op) r)(ha:PE X a ta)(hb:PE X b tb)(hm:behindInMarks op b=false):PE X (.Compare a [op] [b] pos) (tOp r ta tb):=by intro pins s σ H Q I h;exact wpAny_Compare1 (binT ha hb I h fun v u s2 x y H2 I2 rx ry q=>ho pins s2 σ H2 x y v u Q I2 rx ry q) hm
def zpp(t:TE):TT:=fun σ H Q=>t σ H fun x H'=>∃k,x=.bl k/\Q k H'
theorem znW(ho:OpR X (compareOp op) r)(ha:PE X a ta)(hb:PE X b tb)(hm:behindInMarks op b=false):PT X (.Compare a [op] [b] pos) (zpp (tOp r ta tb)):=by intro pins s σ H Q I h;refine wpAny_isTrue_Compare1 (thn (ha pins s σ H _ I h) fun v s1=>ex5 fun x H1 I1 r1 q1=>thn (hb pins s1 σ H1 _ I1 q1) fun u s2=>ex5 fun y H2 I2 r2 q2=>thn (ho pins s2 σ H2 x y v u _ I2 r1 r2 q2) fun c s3=>ex5 fun z H3 I3 r3 ⟨k,e,q3⟩=>?_) hm;subst e;cases r3;exact wpAny_truthy_bool ⟨H3,I3,q3⟩
def zmp(r r':R2)(ta tb tc:TE):TE:=fun σ H Q=>ta σ H fun x H1=>tb σ H1 fun y H2=>r x y H2 fun z H3=>∃k,z=.bl k/\
 (if k=true then tc σ H3 fun w' H4=>r' y w' H4 Q else Q (.bl false) H3)
theorem zlJ(ho:OpR X (compareOp op) r)(ho':OpR X (compareOp op') r')(ha:PE X a ta)(hb:PE X b tb)(hc:PE X c tc)
  (hm:lastMarks [op,op'] [b,c]=false:=by with_unfolding_all rfl):PE X (.Compare a [op,op'] [b,c] pos) (zmp r r' ta tb tc):=by
 intro pins s σ H Q I h;refine Compare_chain (thn (ha pins s σ H _ I h) fun v s1=>ex5 fun x H1 I1 r1 q1=>chain_link (thn (hb pins s1 σ H1 _ I1 q1) fun u s2=>ex5 fun y H2 I2 r2 q2=>thn (ho pins s2 σ H2 x y v u _ I2 r1 r2 q2) fun d s3=>ex5 fun z H3 I3 r3 ⟨k,e,q3⟩=>?_)) hm;subst e;cases r3;apply wpAny_truthy_bool;cases k with|false=>exact ite_ff ⟨.bl false,H3,I3,rfl,q3⟩|true=>exact ite_tt (chain_last (thn (hc pins s3 σ H3 _ I3 q3) fun w' s4 ⟨z',H4,I4,r4,q4⟩=>ho' pins s4 σ H4 y z' u w' Q I4 r2 r4 q4))
theorem zlu(ho:OpR X (compareOp op) r)(ho':OpR X (compareOp op') r')(ha:PE X a ta)(hb:PE X b tb)(hc:PE X c tc)
  (hm:lastMarks [op,op'] [b,c]=false:=by with_unfolding_all rfl):PT X (.Compare a [op,op'] [b,c] pos) (zpp (zmp r r' ta tb tc)):=by
 intro pins s σ H Q I h;refine isTrue_chain (thn (ha pins s σ H _ I h) fun v s1=>ex5 fun x H1 I1 r1 q1=>test_link (thn (hb pins s1 σ H1 _ I1 q1) fun u s2=>ex5 fun y H2 I2 r2 q2=>thn (ho pins s2 σ H2 x y v u _ I2 r1 r2 q2) fun d s3=>ex5 fun z H3 I3 r3 ⟨k,e,q3⟩=>?_)) hm;subst e;cases r3;apply wpAny_truthy_bool;cases k with| false=>obtain⟨k',e',q'⟩:=q3;cases e';exact ite_ff ⟨H3,I3,q'⟩| true=>refine ite_tt (test_last (thn (hc pins s3 σ H3 _ I3 q3) fun w' s4 ⟨z',H4,I4,r4,q4⟩=>thn (ho' pins s4 σ H4 y z' u w' _ I4 r2 r4 q4) fun d' s5 ⟨z2,H5,I5,r5,k2,e2,q5⟩=>?_));subst e2;cases r5;exact wpAny_truthy_bool ⟨H5,I5,q5⟩
def TruV(K:Frag)(x:V)(H:Hp)(k:Bool):Prop:=match x with|.non=>k=false|.bl b=>k=b|.int i=>k=(i != 0)|.str y=>y.length<=sizeLine/\k=((y.length:Int) != 0)|.byt y=>y.size<=sizeLine/\k=((y.size:Int) != 0)|.ref p=>(∃xs,SqL K H p xs/\k = !xs.isEmpty)\/(∃xs,SqT K H p xs/\k = !xs.isEmpty)\/∃kvs,H p=some (.dK kvs)/\k = !kvs.isEmpty|_=>False
theorem zib{kvs:List (κ×V)}{vs:List (κ×Value)}(r:KV kvs vs):(!vs.isEmpty) = !kvs.isEmpty:=by cases r<;>rfl
theorem zea(r:Vals xs its):(!its.toArray.isEmpty) = !xs.isEmpty:=by cases r<;>simp
theorem zfu:(sizeLine:Nat)<2^63:=by rw[sizeLine_eq];decide
theorem zpi:TruR X (fun x H Q=>∃k,TruV X.K x H k/\Q k H):=by
 intro pins s σ H x v Q I rx h;obtain⟨k,e,q⟩:=h;have hs:sizeLine=16777216:=sizeLine_eq;cases x with
 |non=>cases rx;have e':k=false:=e;subst e';exact truthy_none ⟨H,I,q⟩| bl b=>cases rx;have e':k=b:=e;subst e';exact wpAny_truthy_bool ⟨H,I,q⟩| int i=>obtain⟨t,rfl⟩:=rx;have e':k=(i != 0):=e;subst e';exact PySem.P.truthy_int ⟨H,I,q⟩| str y=>obtain⟨t,rfl⟩:=rx;obtain⟨hy,e'⟩:y.length<=sizeLine/\k=((y.length:Int) != 0):=e;subst e';exact PySem.P.truthy_str (by omega) ⟨H,I.tok _,q⟩| byt y=>obtain⟨t,rfl⟩:=rx;obtain⟨hy,e'⟩:y.size<=sizeLine/\k=((y.size:Int) != 0):=e;subst e';exact PySem.W.truthy_bytes (by omega) ⟨H,I.tok _,q⟩| ref p=>cases rx;have e':(∃xs,SqL X.K H p xs/\k = !xs.isEmpty)\/(∃xs,SqT X.K H p xs/\k = !xs.isEmpty)\/∃kvs,H p=some (.dK kvs)/\k = !kvs.isEmpty:=e;rcases e' with⟨xs,hx,e'⟩|⟨xs,hx,e'⟩|⟨kvs,hx,e'⟩;subst e';obtain⟨its,r,pl,hz⟩:=I.list hx;have hlen:=r.length;exact wpAny_truthy_list pl.isList (by simp;omega) ⟨H,I.tok _,by rw[zea r];exact q⟩;subst e';obtain⟨its,r,pl,hz⟩:=I.tuple hx;have hlen:=r.length;exact truthy_tuple pl (by simp;omega) ⟨H,I.tok _,by rw[zea r];exact q⟩;subst e';obtain⟨hz,hS,vs,r,m⟩:kvs.length<=sizeLine/\(p==sysModules)=false/\∃vs,KV kvs vs/\s.heap.DictOf (zas X.prog X.w) p vs:=I.hok p _ hx;have hlen:kvs.length=vs.length:=Paired.length r;exact wpAny_truthy_dict hS m (by omega) ⟨H,I.tok _,by rw[zib r];exact q⟩
 |_=>exact e.elim
theorem zlt(ha:PE X a ta)(he:∀whole,isTrue a X.env whole=(do let v <-whole;standAt a.pos;holding [v] (truthy v))) :
  PT X a (fun σ H Q=>ta σ H fun x H'=>∃k,TruV X.K x H' k/\Q k H'):=by
 intro pins s σ H Q I h;exact isTrue_plain (thn (ha pins s σ H _ I h) fun v s1=>ex5 fun x H1 I1 r1 q1=>zpi pins s1 σ H1 x v Q I1 r1 q1) (he _)
theorem zk0(r:Vals [x] us):∃u,us=[u]/\RelV x u:=by cases r with|cons r1 r2=>cases r2;exact⟨_,rfl,r1⟩
theorem zpf(r:Vals [x,y] us):∃u w',us=[u,w']/\RelV x u/\RelV y w':=by cases r with| cons r1 r2=>cases r2 with|cons r3 r4=>cases r4;exact⟨_,_,rfl,r1,r3⟩
theorem zmi:zbi X (.builtin "abs") (fun xs H Q=>∃i,xs=[.int i]/\Q (.int (if i<0 then -i else i)) H):=by intro pins s σ H xs us Q I r h;obtain⟨i,rfl,q⟩:=h;obtain⟨u,rfl,t,rfl⟩:=zk0 r;exact call_abs_int fun u tk=>⟨.int (if i<0 then -i else i),H,I.tok _,⟨_,rfl⟩,q⟩
theorem zkD(hc:X.calm=true):zbi X (.builtin "min") (fun xs H Q=>∃i j,xs=[.int i,.int j]/\Q (.int (if j<i then j else i)) H):=by intro pins s σ H xs us Q I r h;obtain⟨i,j,rfl,q⟩:=h;obtain⟨u,w',rfl,⟨t,rfl⟩,⟨t',rfl⟩⟩:=zpf r;refine min_two_ints (I.ok.hd hc) fun h' tk k=>⟨_,H,I.kept k,?_,q⟩;by_cases hj:j<i;rw[if_pos hj,if_pos hj];exact⟨_,rfl⟩;rw[if_neg hj,if_neg hj];exact⟨_,rfl⟩
end
structure ObjM(h:Heap)(x dx C:Addr)(mA:Str->Option Value):Prop where
 obj:h.get? x=some (instObj C dx)
 ns:h.Ns1 dx mA
 ne:dx≠x
theorem zjB{h:Heap}(n:h.Ns1 dx mA):∃od,h.get? dx=some od/\∀name,lookIn name od=some (mA name):=by
 obtain⟨o,es,ep,ho,hd,hk,_,hm⟩:=n;refine⟨o,ho,fun name=>?_⟩;have e:=hm name;unfold nsFind findBy at e;rw[<-Array.find?_toList]at e;unfold lookIn;rw[hd];dsimp only;split;rename_i y q;rw[q]at e;exact congrArg some e;rename_i q;rw[q]at e;have a:es.toList.any (·.refKey)=false:=by rw[List.any_eq_false];intro y hy;obtain⟨z,t,hkey⟩:=hk y (Array.mem_toList_iff.mp hy);simp[DictEntry.refKey,hkey]
 have a':¬es.toList.any (·.refKey)=true:=by rw[a];exact Bool.false_ne_true
 rw[if_neg a'];exact congrArg some e
theorem ObjM.look(I:ObjM h x dx C mA):∃od,PySem.W.InstAt h x (instObj C dx) C (some od)/\∀name,lookIn name od=some (mA name):=
 let ⟨od,ho,hl⟩:=zjB I.ns
 ⟨od,⟨I.obj,rfl,rfl,ho⟩,hl⟩
section
variable{prog:Program}{w:World}{A:Around}{E:Value->Shared->Prop}{s:Shared}{K:Frag}{x dx C f:Addr}{mA:Str->Option Value}{name:Str}{v:Value}
theorem zoI(X:K.In s.heap)(I:ObjM s.heap x dx C mA)(hg:plainGet K C name=true)(hh:hasDictIn K C=true)
  (ha:findIn K (.ref C) name=some none) (hv:mA name=some v) (hv':handedIn v=true) (h:Q v {s with toks:=s.toks+1}) :
  wpAny (model prog w) A (getAttr (.ref x) name expr) Q E s:=by
 obtain⟨od,J,hl⟩:=I.look;exact PySem.W.get_value X J (plainGet_of hg).1 (PySem.W.findObj_own hh ha rfl (by rw[hl,hv])) hv' h
theorem zmd(X:K.In s.heap)(I:ObjM s.heap x dx C mA)(hg:plainGet K C name=true)
  (hf:findIn K (.ref C) name=some (some (.ref f))) (ht:isFn K (.ref f)=true) (hv:mA name=none) (h:Q (.ref f,[.ref x]) s) :
  wpAny (model prog w) A (getMethod (.ref x) name pl) Q E s:=by
 obtain⟨od,J,hl⟩:=I.look;exact PySem.W.method_fn X J (plainGet_of hg).1 (plainGet_of hg).2 hf (beq_iff_eq.mp ht) (by show(lookIn name od).map (·.isSome)=some false;rw[hl,hv];rfl) h
theorem znn(X:K.In s.heap)(I:ObjM s.heap x dx C mA)
  (hs:findIn K (.ref C) "__setattr__"=some (some (.builtin "object.__setattr__"))) (hp:plainOver K C=true) (ht:takerIn K C name=some none) (hh:hasDictIn K C=true)
  (hw:PySem.Within mA ns) (hsz:ns.length<=sizeLine)
  (h:∀h',ObjM h' x dx C (fun y=>if y=name then some v else mA y)->Heap.SameBut dx s.heap h'->Q () {s with heap:=h',toks:=s.toks+2}) :
  wpAny (model prog w) A (setAttr (.ref x) name v) Q E s:=by
 obtain⟨od,J,hl⟩:=I.look;refine PySem.W.set_plain X J hs (PySem.W.osa_open X J hp ht fun b=>?_);obtain⟨cd,hc,hd'⟩:=PySem.W.any_some hh;have hx:s.heap.get? x=some ⟨.ref C,some dx,.plain,#[]⟩:=I.obj;refine wpAny_bind (wpAny_pure (wpAny_bind (wpAny_bind (wpAny_loadPart hx (wpAny_bind (Looks.here (PySem.W.looks_clsIn X hc) ?_))))));rw[hd'];refine wpAny_pure (wpAny_bind (wpAny_pure (wpAny_bind ?_)));refine wpAny_nsSet1 I.ns fun h' hn2 hs2=>?_;obtain⟨oD,esD,epD,hoD,hdD,hcD⟩:=hn2.count (PySem.Within.cons name v hw);refine wpAny_bind (wpAny_lookBehind hoD (by rw[hdD];exact pastItsLine_dict (le_trans hcD (by rw[length_cons];omega))) ?_);exact wpAny_pure (h _ ⟨(hs2.2 _ (Ne.symm I.ne)).trans I.obj,hn2,I.ne⟩ hs2)
theorem zlR(X:K.In s.heap)(hm:makesIn K C=true)
 (hi:findIn K (.ref C) "__init__"=some (some (.ref f))) (hf:PySem.W.typeIn K (.ref f)=some (.type "function"))
 (h:codeAny (model prog w) (A.under (.builtin "type.__call__" ⟨.ref C::vs,kw⟩)) (.call (.ref f) ⟨.ref (s.heap.objs.size+1)::vs,kw⟩) (PySem.W.InitBack (s.heap.objs.size+1) R)
  {s with heap:=(s.heap.push emptyDict).push (instObj C s.heap.objs.size)}) :
 codeAny (model prog w) A (.call (.ref C) ⟨vs,kw⟩) R s:=PySem.W.make_core (PySem.W.makes_of X hm) (PySem.W.looks_findIn X hi) (fun self=>PySem.W.bind_fn X self hf) (.inl rfl) h
end
noncomputable def putF(f:Str)(v:V):List (Str×V)->List (Str×V)
 | []=>[(f,v)]|(g,x)::r=>if g=f then(g,v)::r else(g,x)::putF f v r
theorem zdo(f g:Str)(v:V):∀fs:List (Str×V),(putF f v fs).lookup g=if g=f then some v else fs.lookup g
 | []=>by show List.lookup g [(f,v)]=_;by_cases h:g=f;have hb:(g==f)=true:=beq_iff_eq.mpr h;simp[List.lookup,hb,if_pos h];have hb:(g==f)=false:=beq_eq_false_iff_ne.mpr h;simp[List.lookup,hb,if_neg h]| (k,x)::r=>by have ih:=zdo f g v r;rw[show putF f v ((k,x)::r)=(if k=f then(k,v)::r else(k,x)::putF f v r) from rfl];by_cases hk:k=f;rw[if_pos hk];by_cases h:g=k;have hb:(g==k)=true:=beq_iff_eq.mpr h;simp[List.lookup,hb,if_pos (h.trans hk)];have hb:(g==k)=false:=beq_eq_false_iff_ne.mpr h;simp[List.lookup,hb,if_neg (fun e:g=f=>h (e.trans hk.symm))];rw[if_neg hk];by_cases h:g=k;have hb:(g==k)=true:=beq_iff_eq.mpr h;simp[List.lookup,hb,if_neg (fun e:g=f=>hk (h.symm.trans e))];have hb:(g==k)=false:=beq_eq_false_iff_ne.mpr h;simp[List.lookup,hb];exact ih
theorem zdt(f:Str)(v:V):∀fs:List (Str×V),f∈(putF f v fs).map (·.1)/\∀g,g∈fs.map (·.1)->g∈(putF f v fs).map (·.1)
 | []=>⟨by simp[putF],fun g h=>by simp at h⟩| (k,x)::r=>by obtain⟨i1,i2⟩:=zdt f v r;rw[show putF f v ((k,x)::r)=(if k=f then(k,v)::r else(k,x)::putF f v r) from rfl];by_cases hk:k=f;rw[if_pos hk];subst hk;exact⟨by simp,fun g h=>by simpa using h⟩;rw[if_neg hk];refine⟨?_,fun g h=>?_⟩;rw[map_cons];exact mem_cons_of_mem _ i1;rw[map_cons]at h⊢;rcases mem_cons.mp h with e|e;exact mem_cons.mpr (.inl e);exact mem_cons_of_mem _ (i2 g e)
theorem zdq(f:Str)(v:V):∀fs:List (Str×V),(putF f v fs).length<=fs.length+1
 | []=>by simp[putF]| (k,x)::r=>by have ih:=zdq f v r;rw[show putF f v ((k,x)::r)=(if k=f then(k,v)::r else(k,x)::putF f v r) from rfl];by_cases hk:k=f;rw[if_pos hk,length_cons,length_cons];omega;rw[if_neg hk,length_cons,length_cons];omega
theorem RelO.some_of(r:RelO (some v) o):∃u,o=some u/\RelV v u:=by cases o with|none=>exact r.elim|some u=>exact⟨u,rfl,r⟩
theorem RelO.none_of(r:RelO none o):o=none:=by cases o with|none=>rfl|some u=>exact r.elim
theorem zj8(r:RelV v u):handedIn u=true:=by cases v with|non=>cases r;rfl|bl b=>cases r;rfl|int i=>obtain⟨t,e⟩:=r;cases e;rfl|str x=>obtain⟨t,e⟩:=r;cases e;rfl|byt b=>obtain⟨t,e⟩:=r;cases e;rfl|flt b=>obtain⟨t,e⟩:=r;cases e;rfl|ref a=>cases r;rfl|ty n=>cases r;rfl
section
variable{P:Program}{w:World}{H H':Hp}{h h':Heap}{a C dx:Addr}{fs fs':List (Str×V)}
theorem zeU(hok:HOk P w H h)(e:H a=some (.ins C dx fs)):∃mA,ObjM h a dx C mA/\(∀f,RelO (fs.lookup f) (mA f))/\PySem.Within mA (fs.map (·.1))/\fs.length<=1000/\H dx=some (.own a):=by obtain⟨d,z,ne,ob,mA,n,r,q⟩:=(hok a _ e);exact⟨mA,⟨ob,n,ne⟩,r,q,z,d⟩
end
structure Cls(K:Frag)(C:Addr):Prop where
 pg:plainGet K C Str.empty=true
 hd:hasDictIn K C=true
 po:plainOver K C=true
 sa:findIn K (.ref C) "__setattr__"=some (some (.builtin "object.__setattr__"))
theorem Cls.get{K:Frag}(c:Cls K C)(f:Str):plainGet K C f=true:=c.pg
def NoAttr(K:Frag)(C:Addr)(f:Str):Prop:=findIn K (.ref C) f=some none
theorem NoAttr.taker{K:Frag}(n:NoAttr K C f):takerIn K C f=some none:=by unfold takerIn;rw[show findIn K (.ref C) f=some none from n];rfl
structure Con(K:Frag)(C:Addr)(f:Str)(v:V)(u:Value):Prop where
 at_:findIn K (.ref C) f=some (some u)
 rel:RelV v u
 get:specialIn K u "__get__"=some none
 cp:PySem.W.copiedNames.contains f=false
structure Meth(K:Frag)(C:Addr)(m:Str)(f:Addr):Prop where
 at_:findIn K (.ref C) m=some (some (.ref f))
 fn:isFn K (.ref f)=true
 kp:keepIn K (.ref f)=true
section
variable{X:Cx}{pins:List (Addr×Obj)}{σ:St}{H:Hp}{s:Shared}{a C dx:Addr}{fs:List (Str×V)}{f:Str}{v:V}{A:Around}{E:Value->Shared->Prop}
theorem zid(I:Inv X pins σ H s)(e:H a=some (.ins C dx fs))(c:Cls X.K C)(n:NoAttr X.K C f)(l:fs.lookup f=some v)
  (h:∀u s',Inv X pins σ H s'->RelV v u->Q u s'):wpAny (model X.prog X.w) A (getAttr (.ref a) f b) Q E s:=by
 obtain⟨mA,O,r,_,_,_⟩:=zeU I.hok e;obtain⟨u,hu,ru⟩:=RelO.some_of (by rw[<-l];exact r f);exact zoI I.kIn O (c.get f) c.hd n hu (zj8 ru) (h u _ (I.tok _) ru)
theorem zec(I:Inv X pins σ H s)(e:H a=some (.ins C dx fs))(c:Cls X.K C)(k:Meth X.K C m g)(l:fs.lookup m=none)
  (h:Q (.ref g,[.ref a]) s):wpAny (model X.prog X.w) A (getMethod (.ref a) m pl) Q E s:=by
 obtain⟨mA,O,r,_,_,_⟩:=zeU I.hok e;have hn:mA m=none:=RelO.none_of (by rw[<-l];exact r m);exact zmd I.kIn O (c.get m) k.at_ k.fn hn h
theorem zhO(I:Inv X pins σ H s)(e:H a=some (.ins C dx fs))(c:Cls X.K C)(n:NoAttr X.K C f)(hl:fs.length<1000)(ry:RelV y u)
  (h:∀s',Inv X pins σ (upd H a (.ins C dx (putF f y fs))) s'->Q () s'):wpAny (model X.prog X.w) A (setAttr (.ref a) f u) Q E s:=by
 obtain⟨mA,O,r,wi,_,ho⟩:=zeU I.hok e;have hz:(fs.map (·.1)).length<=sizeLine:=by rw[length_map,sizeLine_eq];omega
 refine znn I.kIn O c.sa c.po n.taker c.hd wi hz fun h' O' sb=>h _ ?_;have hd:∃o,h'.get? dx=some o:=let ⟨o,_,_,e',_⟩:=O'.ns;⟨o,e'⟩;apply I.write (by rw[e];exact True.intro) (.inr ho) (fun b q hb z=>(sb.2 b hb).trans z) hd;refine⟨by rw[zag O.ne];exact ho,?_,O.ne,O'.obj,_,O'.ns,fun g=>?_,fun g hg=>?_⟩
 have:=zdq f y fs;omega;show RelO ((putF f y fs).lookup g) (if g=f then some u else mA g);rw[zdo];by_cases q:g=f;rw[if_pos q,if_pos q];exact ry;rw[if_neg q,if_neg q];exact r g;by_cases q:g=f;rw[q];exact(zdt f y fs).1;refine(zdt f y fs).2 g (wi g fun z=>hg ?_);show(if g=f then some u else mA g)=none;rw[if_neg q];exact z
theorem Inv.made(I:Inv X pins σ H s):Inv X pins σ (upd (upd H s.heap.objs.size (.own (s.heap.objs.size+1))) (s.heap.objs.size+1) (.ins C s.heap.objs.size []))
  {s with heap:=(s.heap.push emptyDict).push (instObj C s.heap.objs.size)}:=by
 have e1:(s.heap.push emptyDict).get? s.heap.objs.size=some emptyDict:=Heap.get?_push_size s.heap rfl;have e2:((s.heap.push emptyDict).push (instObj C s.heap.objs.size)).get? (s.heap.objs.size+1)=some (instObj C s.heap.objs.size):=by
  have:=Heap.get?_push_size (s.heap.push emptyDict) (o:=instObj C s.heap.objs.size) rfl
  rwa [Heap.size_push]at this
 have e3:(s.heap.push emptyDict).Ns s.heap.objs.size (fun _=>none):=⟨emptyDict,#[],_,e1,rfl,(fun e he=>absurd he (by simp)),fun _=>rfl⟩;have I1:=I.laid (o:=.own (s.heap.objs.size+1)) (h':=s.heap.push emptyDict) (t':=s.toks) (fun b u q=>Heap.get?_push_of_some _ q) (le_refl _) ⟨_,e1⟩;refine I1.laid (t':=s.toks) (fun b u q=>Heap.get?_push_of_some _ q) (le_of_eq (Heap.size_push _ _)) ?_;have ne:s.heap.objs.size≠s.heap.objs.size+1:=ne_of_lt (lt_succ_self _);refine⟨by rw[zag ne,zal],zero_le _,ne,e2,fun _=>none,(Heap.Ns1.of_empty e3).at fun o q=>Heap.get?_push_of_some _ q,fun _=>True.intro,fun y hy=>absurd rfl hy⟩
theorem zoY(hb:attributeBase e f env (eval e env)=eval e env)
  (h:wpAny (model prog w) A (eval e env) (fun o s₁=>wpAny (model prog w) A (getAttr o f true) Q E s₁) E s):wpAny (model prog w) A (eval (.Attribute e f pos) env) Q E s:=
 Attribute_any_ h (by rw[arm_eval_Attribute,hb])
end
def tFld(K:Frag)(ta:TE)(f:Str):TE:=fun σ H Q=>ta σ H fun x H1=>∃a C dx fs v,x=.ref a/\H1 a=some (.ins C dx fs)/\Cls K C/\NoAttr K C f/\fs.lookup f=some v/\Q v H1
def sFld(K:Frag)(ta tv:TE)(f:Str):TS:=fun D σ H=>tv σ H fun y H1=>ta σ H1 fun x H2=>∃a C dx fs,x=.ref a/\H2 a=some (.ins C dx fs)/\Cls K C/\NoAttr K C f/\fs.length<1000/\
 D.nx σ (upd H2 a (.ins C dx (putF f y fs)))
section
variable{X:Cx}{o e value:Expr}{f:Str}{pos pos' tpos:Pos}{ta tv:TE}
theorem zqs(he:PE X e ta)(hb:attributeBase e f X.env (eval e X.env)=eval e X.env):PE X (.Attribute e f pos) (tFld X.K ta f):=by intro pins s σ H Q I h;refine zoY hb (thn (he pins s σ H _ I h) fun u s1=>ex5 fun x H1 I1 rx ⟨a,C,dx,fs,v,ex,ea,c,n,l,q⟩=>?_);subst ex;obtain rfl:u=Value.ref a:=rx;exact zid I1 ea c n l fun u' s2 I2 ru=>⟨v,H1,I2,ru,q⟩
theorem zqd(ha:PE X o ta)(hv:PE X value tv)(hs:swapsWith value (some (.Attribute o f pos')) pos.line X.env=pure false):PS X (.Assign [.Attribute o f pos'] value pos) (sFld X.K ta tv f):=by intro pins s σ H D I h;refine plainObj_wpAny_Assign_Attribute (thn (hv pins s σ H _ I h) fun u s1=>ex5 fun y H1 I1 ry q=>thn (ha pins s1 σ H1 _ I1 q) fun ov s2=>ex5 fun x H2 I2 rx ⟨a,C,dx,fs,ex,ea,c,n,l,q2⟩=>?_) hs;subst ex;obtain rfl:ov=Value.ref a:=rx;exact zhO I2 ea c n l ry fun s3 I3=>⟨σ,_,I3,q2⟩
end
section
variable{X:Cx}{pins:List (Addr×Obj)}{σ:St}{H:Hp}{s:Shared}{A:Around}{E:Value->Shared->Prop}{Q:Value->Shared->Prop}{c:Value}{b:Bool}
inductive TyOf(K:Frag)(H:Hp):V->Value->Prop where
 |non:TyOf K H .non (.type "NoneType")
 |bl (x:Bool):TyOf K H (.bl x) (.type "bool")
 |int (i:Int):TyOf K H (.int i) (.type "int")
 |str (x:Str):TyOf K H (.str x) (.type "str")
 |flt (x:UInt64):TyOf K H (.flt x) (.type "float")
 |lst {a:Addr} {xs:List V} (e:H a=some (.lst xs)):TyOf K H (.ref a) (.type "list")
 |frz {a:Addr} {o:Obj} {xs:List V} (e:H a=some (.frz o (.lst xs))):TyOf K H (.ref a) (.type "list")
 |tup {a:Addr} {xs:List V} (e:H a=some (.tup xs)):TyOf K H (.ref a) (.type "tuple")
 |dK {a:Addr} {kvs:List (Key×V)} (e:H a=some (.dK kvs)):TyOf K H (.ref a) (.type "dict")
 |dT {a:Addr} {kvs:List (List Key×V)} (e:H a=some (.dT kvs)):TyOf K H (.ref a) (.type "dict")
 |ins {a C dx:Addr} {fs:List (Str×V)} (e:H a=some (.ins C dx fs)) (cl:Cls K C) (ha:findIn K (.ref C) "__class__"=some (some (.builtin "object.__class__")))
  (hn:specialIn K (.builtin "object.__class__") "__get__"=some (some (.builtin "getset_descriptor.__get__"))) (htk:takesIn K (.builtin "object.__class__")=some true)
  (hm:mroIn K C (.type "object")=some true):TyOf K H (.ref a) (.ref C)
theorem zjS(I:Inv X pins σ H s)(rx:RelV x u)(ty:TyOf X.K H x t)(e:kitOne X.K t c=some b)(h:∀tk,Q (.bool b) {s with toks:=tk}) :
  wpAny (model X.prog X.w) A (call (.builtin "isinstance") [u,c]) Q E s:=by
 cases ty with|non=>cases rx;exact kia_one PySem.W.kitx_none I.kIn True.intro e (fun z=>nomatch z) h|bl y=>cases rx;exact kia_one PySem.W.kitx_bool I.kIn True.intro e (fun z=>nomatch z) h|int i=>obtain⟨t,q⟩:=rx;cases q;exact kia_one PySem.W.kitx_int I.kIn True.intro e (fun z=>nomatch z) h|str y=>obtain⟨t,q⟩:=rx;cases q;exact kia_one PySem.W.kitx_str I.kIn True.intro e (fun z=>nomatch z) h|flt y=>obtain⟨t,q⟩:=rx;cases q;exact kia_one PySem.W.kitx_float I.kIn True.intro e (fun z=>nomatch z) h| @lst a xs ea=>cases rx;obtain⟨_,_,n,_,h1⟩:=(I.hok a _ ea);exact kia_one kitx_list I.kIn ⟨_,h1,rfl⟩ e (fun z=>nomatch z) h| @frz a ob xs ea=>cases rx;obtain⟨_,_,_,n,_,h1⟩:=(I.hok a _ ea);exact kia_one kitx_list I.kIn ⟨_,h1,rfl⟩ e (fun z=>nomatch z) h| @tup a xs ea=>cases rx;obtain⟨_,_,_,p⟩:=(I.hok a _ ea);obtain⟨o,h1,h2,_⟩:=p;exact kia_one PySem.W.kitx_tuple I.kIn ⟨o,h1,h2⟩ e (fun z=>nomatch z) h| @dK a kvs ea=>cases rx;obtain⟨_,_,vs,_,p⟩:=(I.hok a _ ea);obtain⟨o,es,ep,h1,h2,_⟩:=p;exact kia_one kitx_dict I.kIn ⟨o,h1,h2.1⟩ e (fun z=>nomatch z) h| @dT a kvs ea=>cases rx;obtain⟨_,_,xs,_,o,es,ep,h1,h2,_⟩:=(I.hok a _ ea);exact kia_one kitx_dict I.kIn ⟨o,h1,h2.1⟩ e (fun z=>nomatch z) h| @ins a C dx fs ea cl ha hn htk hm=>cases rx;obtain⟨mA,O,_⟩:=zeU I.hok ea;obtain⟨od,J,_⟩:=O.look;exact kia_one (PySem.W.kitx_own (cl.get _) cl.hd ha hn htk hm) I.kIn J e (fun z=>nomatch z) h
end
structure Room(k:Nat)(A:Around):Prop where
 hd:A.handled=none
 dp:A.depth+3*k+5<recursionLimit
 un:A.units+16*k+200<cLine
theorem Room.mono(r:Room k A)(h:j<=k):Room j A:=⟨r.hd,by have:=r.dp;omega,by have:=r.un;omega⟩
theorem Room.deeper(r:Room (k+1) A)(env:Env):Room k (A.deeper env):=⟨r.hd,by have:=r.dp;show A.depth+1+3*k+5<_;omega,by have:=r.un;show A.units+3+16*k+200<_;omega⟩
theorem Room.in1(r:Room (k+1) A):Room k A.in1:=⟨r.hd,by have:=r.dp;show A.depth+3*k+5<_;omega,by have:=r.un;show A.units+1+16*k+200<_;omega⟩
theorem zh7{A:Around}:(A.under (.builtin "type.__call__" ⟨.ref C::us,kw⟩)).depth=A.depth+1:=by first|rfl|simp
theorem zh6{A:Around}:(A.under (.builtin "type.__call__" ⟨.ref C::us,kw⟩)).units=A.units+1:=rfl
theorem Room.make(r:Room (k+1) A)(C:Addr)(us:List Value)(kw:List (Str×Value)):Room k (A.under (.builtin "type.__call__" ⟨.ref C::us,kw⟩)):=⟨r.hd,by have:=r.dp;rw[zh7];omega,by have:=r.un;rw[zh6];omega⟩
theorem Room.depth(r:Room k A):A.depth<recursionLimit:=by have:=r.dp;omega
def tNil:TA:=fun _ H Q=>Q [] H
def ziM(ta:TE)(tr:TA):TA:=fun σ H Q=>ta σ H fun x H1=>tr σ H1 fun xs H2=>Q (x::xs) H2
section
variable{X:Cx}{e:Expr}{es:List Expr}{te:TE}{t:TA}{pos:Pos}
theorem zg4:PA X [] tNil:=fun _ _ _ _ H Q I h=>Calls.spliced_nil ⟨[],H,I,.nil,h⟩
theorem zcI(ha:PE X e te)(hr:PA X es t)(hs:starEach (e::es) X.env=(false,eval e X.env)::starEach es X.env:=by rfl):PA X (e::es) (ziM te t):=by intro pos pins s σ H Q I h;rw[hs];refine Calls.spliced_cons (thn (ha pins s σ H _ I h) fun u s1=>ex5 fun x H1 I1 r1 q1=>?_);exact thn (hr pos pins s1 σ H1 _ I1 q1) fun us s2=>ex5 fun xs H2 I2 r2 q2=>⟨x::xs,H2,I2,.cons r1 r2,q2⟩
def tTup(t:TA):TE:=fun σ H Q=>t σ H fun xs H1=>xs.length<=sizeLine/\∀p,H1 p=none->Q (.ref p) (upd H1 p (.tup xs))
def tLst(t:TA):TE:=fun σ H Q=>t σ H fun xs H1=>xs.length<=sizeLine/\∀p,H1 p=none->Q (.ref p) (upd H1 p (.lst xs))
theorem zqi{x1}(h:PA X es t):PE X (.Tuple es x1 pos) (tTup t):=by intro pins s σ H Q I hq;refine wpAny_Tuple_spliced (thn (h pos pins s σ H _ I hq) fun us s1=>ex5 fun xs H1 I1 r ⟨z,q⟩=>⟨by rw[<-r.length];exact z,?_⟩);have hf:H1 s1.heap.objs.size=none:=I1.hok.fresh (le_refl _);refine⟨.ref s1.heap.objs.size,upd H1 s1.heap.objs.size (.tup xs),I1.laid (t':=s1.toks) (fun b u e=>Heap.get?_push_of_some _ e) (le_refl _) ?_,rfl,q _ hf⟩;exact⟨z,us,r,⟨_,Heap.get?_push_size _ rfl,rfl,_,rfl⟩⟩
theorem zqo(h:PA X es t):PE X (.List es pos) (tLst t):=by intro pins s σ H Q I hq;refine wpAny_List_spliced (thn (h pos pins s σ H _ I hq) fun us s1=>ex5 fun xs H1 I1 r ⟨z,q⟩=>⟨by rw[<-r.length];exact z,?_⟩);have hf:H1 s1.heap.objs.size=none:=I1.hok.fresh (le_refl _);refine⟨.ref s1.heap.objs.size,upd H1 s1.heap.objs.size (.lst xs),I1.laid (t':=s1.toks) (fun b u e=>Heap.get?_push_of_some _ e) (le_refl _) ?_,rfl,q _ hf⟩;exact⟨z,us,0,r,Heap.get?_push_size _ rfl⟩
end
abbrev Sp:=List V->Hp->VK->XK->Prop
abbrev CXT:=List Env->Hp->Shared->XK->Value->Shared->Prop
structure Env0(P:Program)(w:World)(K:Frag)(mg:Str->Option Value)(base:Heap)(A:Around)(outer:List Env)(s:Shared)(H:Hp):Prop where
 frames:A.frames=some outer
 mod:Mod K mg base
 bs:∀b o,base.get? b=some o->s.heap.get? b=some o/\H b=none
 bsz:base.objs.size<=s.heap.objs.size
 funs:s.heap.FunFrames base outer
 frf:∀b∈frs outer,H b=none
 hok:HOk P w H s.heap
 bare:AllBare s.gens
def CE(outer:List Env)(P:Program)(w:World)(H:Hp)(s:Shared)(Q:VK)(u:Value)(s':Shared):Prop:=∃v H',s'.os=s.os/\AllBare s'.gens/\Un (frs outer) [] H H' s.heap s'.heap/\HOk P w H' s'.heap/\RelV v u/\Q v H'
def CR(CX:CXT)(outer:List Env)(P:Program)(w:World)(H:Hp)(s:Shared)(Q:VK)(E:XK)(r:Result)(s':Shared):Prop:=match r with|.ok (.ret u)=>CE outer P w H s Q u s'|.ok _=>False|.error e=>CX outer H s E e s'
structure FnOk(P:Program)(w:World)(K:Frag)(mg:Str->Option Value)(base:Heap)(CX:CXT)(k:Nat)(f:Addr)(fd:FuncData)(ps:List Str)(sp:Sp):Prop where
 len:∀vs H Q E,sp vs H Q E->vs.length=ps.length
 run:∀(A:Around)(outer:List Env)(s:Shared)(H:Hp)(args:Args)(us:List Value)(vs:List V)(Q:VK)(E:XK),Room k A->Env0 P w K mg base A outer s H->BindsTo s fd args (ps.zip us)->Vals vs us->sp vs H Q E->
  codeAny (model P w) A (.call (.ref f) args) (CR CX outer P w H s Q E) s
theorem FnOk.mono{K:Frag}(F:FnOk P w K mg base CX j f fd ps sp)(h:j<=k) :
 FnOk P w K mg base CX k f fd ps sp:=⟨F.len,fun A outer s H args us vs Q E hr=>F.run A outer s H args us vs Q E (hr.mono h)⟩
theorem Env0.make{K:Frag}(e:Env0 P w K mg base A outer s H)(C:Addr)(us:List Value)(kw:List (Str×Value)) :
 Env0 P w K mg base (A.under (.builtin "type.__call__" ⟨.ref C::us,kw⟩)) outer s H:=⟨by first|exact e.frames|(simpa[Around.under,Code.envs,Code.isFrame,pushEnvs]using e.frames),e.mod,e.bs,e.bsz,e.funs,e.frf,e.hok,e.bare⟩
theorem Env0.in1{K:Frag}(e:Env0 P w K mg base A outer s H) :
 Env0 P w K mg base A.in1 outer s H:=⟨e.frames,e.mod,e.bs,e.bsz,e.funs,e.frf,e.hok,e.bare⟩
section
variable{X:Cx}{pins:List (Addr×Obj)}{σ:St}{H:Hp}{s s':Shared}
theorem Inv.env0(I:Inv X pins σ H s):Env0 X.prog X.w X.K X.mg X.base X.A X.stack s H:=⟨I.ok.frames,I.ok.mod,I.bs,le_trans I.ok.bsz I.sz,I.stack,I.stkFree,I.hok,I.bare⟩
theorem Inv.after(I:Inv X pins σ H s)(h:CE X.stack X.prog X.w H s Q u s'):EP X pins σ Q u s':=by obtain⟨v,H',os,bare,un,hok,r,q⟩:=h;obtain⟨hh,g,d,t,os'⟩:=s';obtain rfl:os'=s.os:=os;exact⟨v,H',I.call (h':=hh) (g':=g) (d':=d) (t':=t) un hok bare (fun b z=>absurd z (by simp)),r,q⟩
end
def zeq(sp:Sp)(dvs:List V)(E:XK)(t:TA):TE:=fun σ H Q=>t σ H fun vs H1=>sp (vs++dvs) H1 Q E
def zm9(C:Addr)(sp:Sp)(dvs:List V)(E:XK)(t:TA):TE:=fun σ H Q=>t σ H fun vs H1=>∀x dx,H1 x=none->H1 dx=none->dx≠x->
 sp (.ref x::(vs++dvs)) (upd (upd H1 dx (.own x)) x (.ins C dx [])) (fun v H2=>v=.non/\Q (.ref x) H2) E
def Binds(K:Frag)(fd:FuncData)(ps:List Str)(ds:List Value):Prop:=∀(s:Shared)(us:List Value),K.In s.heap->(us++ds).length=ps.length->BindsTo s fd ⟨us,[]⟩ (ps.zip (us++ds))
theorem Binds.all{K:Frag}(h:∀us:List Value,us.length=ps.length->bindArgs fd ⟨us,[]⟩=pure (ps.zip us)):Binds K fd ps []:=fun s us _ hl=>by rw[append_nil]at hl⊢;exact .of_eq (h us hl)
def zdI(CX:CXT)(X:Cx)(E:XK):Prop:=∀(pins:List (Addr×Obj))(σ:St)(H:Hp)(s:Shared)(e:Value)(s':Shared),Inv X pins σ H s->CX X.stack H s E e s'->X.xe e s'
section
variable{X:Cx}{CX:CXT}{k:Nat}{f C:Addr}{fd:FuncData}{ps:List Str}{sp:Sp}{dvs:List V}{ds:List Value}{E:XK}{x m:Str}{p pos apos:Pos}{e o:Expr}{es:List Expr}{ta:TE}{t:TA}
theorem zfg{σ:St}(F:FnOk X.prog X.w X.K X.mg X.base CX k f fd ps sp)(hr:Room k X.A)(hb:Binds X.K fd ps ds)(hd:Vals dvs ds)(hx:zdI CX X E)
  (I:Inv X pins σ H s) (r:Vals vs us) (h:sp (vs++dvs) H Q E):wpAny (model X.prog X.w) X.A (call (.ref f) us) (EP X pins σ Q) X.xe s:=by
 have r2:Vals (vs++dvs) (us++ds):=r.append hd;have hl:(us++ds).length=ps.length:=by rw[<-r2.length];exact F.len _ _ _ _ h
 refine wpAny_call (codeAny_mono (F.run X.A X.stack s H ⟨us,[]⟩ (us++ds) (vs++dvs) Q E hr I.env0 (hb s us I.kIn hl) r2 h) fun r s' hq=>?_);cases r with|error e=>exact hx pins σ H s e s' I hq| ok fl=>cases fl with|ret u=>exact I.after hq|next=>exact False.elim hq|brk=>exact False.elim hq|cont=>exact False.elim hq
theorem zn9(F:FnOk X.prog X.w X.K X.mg X.base CX k f fd ps sp)(hr:Room k X.A)(hg:Gl X x)(hm:X.mg x=some (.ref f))(hk:keepIn X.K (.ref f)=true)(hb:Binds X.K fd ps ds)(hd:Vals dvs ds)(hx:zdI CX X E)
  (ha:PA X (e::es) t) (hdb:(x==("__debug__":Str))=false:=by decide) (he:starEach (e::es) X.env=(false,eval e X.env)::starEach es X.env:=by rfl) (hpl:(backTo pos (starEach es X.env)).any (·.1)=false:=by rfl) :
  PE X (.Call (.Name x p) (e::es) [] pos) (zeq sp dvs E t):=by
 intro pins s σ H Q I h;refine wpAny_Call_Name_kw (zdr I hg hm ?_ hdb);refine callWith_K I.ok.mod.kin hk (thn (ha pos pins s σ H _ I h) fun us s1=>ex5 fun vs H1 I1 r q=>⟨I1.kIn,?_⟩) he hpl;exact zfg F hr hb hd hx I1 r q
theorem zlL(F:FnOk X.prog X.w X.K X.mg X.base CX k f fd ps sp)(hr:Room k X.A)(hg:Gl X x)(hm:X.mg x=some (.ref f))(hk:keepIn X.K (.ref f)=true)(hb:Binds X.K fd ps ds)(hd:Vals dvs ds)(hx:zdI CX X E)
  (hdb:(x==("__debug__":Str))=false:=by decide):PE X (.Call (.Name x p) [] [] pos) (zeq sp dvs E tNil):=by
 intro pins s σ H Q I h;refine wpAny_Call_Name_kw (zdr I hg hm ?_ hdb);exact callWith_K0 I.kIn hk (zfg F hr hb hd hx I .nil h)
structure Mk(K:Frag)(C f:Addr):Prop where
 makes:makesIn K C=true
 init:findIn K (.ref C) "__init__"=some (some (.ref f))
 fn:isFn K (.ref f)=true
 kp:keepIn K (.ref C)=true
theorem zgW{σ:St}(M:Mk X.K C f)(F:FnOk X.prog X.w X.K X.mg X.base CX k f fd ps sp)(hr:Room (k+1) X.A)(hb:Binds X.K fd ps ds)(hd:Vals dvs ds)
  (hx:zdI CX X E) (I:Inv X pins σ H s) (r:Vals vs us)
  (h:∀x dx,H x=none->H dx=none->dx≠x->sp (.ref x::(vs++dvs)) (upd (upd H dx (.own x)) x (.ins C dx [])) (fun v H2=>v=.non/\Q (.ref x) H2) E) :
  wpAny (model X.prog X.w) X.A (call (.ref C) us) (EP X pins σ Q) X.xe s:=by
 have hq:=h (s.heap.objs.size+1) s.heap.objs.size (I.hok.fresh (le_succ _)) (I.hok.fresh (le_refl _)) (ne_of_lt (lt_succ_self _));have I2:=Inv.made (C:=C) I;have r2:Vals (V.ref (s.heap.objs.size+1)::(vs++dvs)) (Value.ref (s.heap.objs.size+1)::(us++ds)):=.cons rfl (r.append hd);have hl:(Value.ref (s.heap.objs.size+1)::us++ds).length=ps.length:=by have e:=r2.length;rw[F.len _ _ _ _ hq]at e;exact e.symm
 refine wpAny_call (zlR I.kIn M.makes M.init (beq_iff_eq.mp M.fn) (codeAny_mono (F.run _ X.stack _ _ ⟨Value.ref (s.heap.objs.size+1)::us,[]⟩ (Value.ref (s.heap.objs.size+1)::(us++ds)) _ _ E (hr.make C us [])
  (I2.env0.make C us []) (hb _ (Value.ref (s.heap.objs.size+1)::us) I2.kIn hl) r2 hq) fun r s' hq'=>?_))
 cases r with|error e=>exact hx pins σ _ _ e s' I2 hq'| ok fl=>cases fl with| ret u=>obtain⟨v,H',I3,rv,ev,q3⟩:=I2.after hq';subst ev;exact⟨rv,⟨V.ref (s.heap.objs.size+1),H',I3,rfl,q3⟩⟩|next=>exact False.elim hq'|brk=>exact False.elim hq'|cont=>exact False.elim hq'
theorem zn6(M:Mk X.K C f)(F:FnOk X.prog X.w X.K X.mg X.base CX k f fd ps sp)(hr:Room (k+1) X.A)(hg:Gl X x)(hm:X.mg x=some (.ref C))(hb:Binds X.K fd ps ds)(hd:Vals dvs ds)(hx:zdI CX X E)
  (ha:PA X (e::es) t) (hdb:(x==("__debug__":Str))=false:=by decide) (he:starEach (e::es) X.env=(false,eval e X.env)::starEach es X.env:=by rfl) (hpl:(backTo pos (starEach es X.env)).any (·.1)=false:=by rfl) :
  PE X (.Call (.Name x p) (e::es) [] pos) (zm9 C sp dvs E t):=by
 intro pins s σ H Q I h;refine wpAny_Call_Name_kw (zdr I hg hm ?_ hdb);refine callWith_K I.ok.mod.kin M.kp (thn (ha pos pins s σ H _ I h) fun us s1=>ex5 fun vs H1 I1 r q=>⟨I1.kIn,?_⟩) he hpl;exact zgW M F hr hb hd hx I1 r q
theorem zlD(M:Mk X.K C f)(F:FnOk X.prog X.w X.K X.mg X.base CX k f fd ps sp)(hr:Room (k+1) X.A)(hg:Gl X x)(hm:X.mg x=some (.ref C))(hb:Binds X.K fd ps ds)(hd:Vals dvs ds)(hx:zdI CX X E)
  (hdb:(x==("__debug__":Str))=false:=by decide):PE X (.Call (.Name x p) [] [] pos) (zm9 C sp dvs E tNil):=by
 intro pins s σ H Q I h;refine wpAny_Call_Name_kw (zdr I hg hm ?_ hdb);exact callWith_K0 I.kIn M.kp (zgW M F hr hb hd hx I .nil h)
end
def PK(X:Cx)(kws:List Keyword)(t:TA):Prop:=∀(pos:Pos)(pins:List (Addr×Obj))(s:Shared)(σ:St)(H:Hp)(Q:List V->Hp->Prop),Inv X pins σ H s->t σ H Q->wpAny (model X.prog X.w) X.A (evalAll ((backToKw pos (keywordEach kws X.env)).map (·.2))) (AP X pins σ Q) X.xe s
section
variable{X:Cx}{CX:CXT}{k:Nat}{f C:Addr}{fd:FuncData}{ps ks:List Str}{sp:Sp}{E:XK}{x m:Str}{p pos apos kpos:Pos}{e o:Expr}{es:List Expr}{kws:List Keyword}{te ta:TE}{t tk:TA}{nm:Option Str}
theorem zqf:PK X [] tNil:=fun _ _ _ _ H Q I h=>wpAny_evalAll_nil ⟨[],H,I,.nil,h⟩
theorem zn3(ha:PE X e te)(hr:PK X kws t):PK X (⟨nm,e,kpos⟩::kws) (ziM te t):=by intro pos pins s σ H Q I h;refine wpAny_evalAll_cons (wpAny_bind (thn (ha pins s σ H _ I h) fun u s1=>ex5 fun x H1 I1 r1 q1=>wpAny_bind (wpAny_standAt (wpAny_pure ?_))));exact thn (hr pos pins s1 σ H1 _ I1 q1) fun us s2=>ex5 fun xs H2 I2 r2 q2=>⟨x::xs,H2,I2,.cons r1 r2,q2⟩
structure KBinds(K:Frag)(fd:FuncData)(ps ks:List Str)(g:List Value->List Value->List Value)(gV:List V->List V->List V):Prop where
 to:∀(s:Shared)(us ws:List Value),K.In s.heap->(g us ws).length=ps.length->BindsTo s fd ⟨us,ks.zip ws⟩ (ps.zip (g us ws))
 rel:∀{vs:List V}{us:List Value}{zs:List V}{ws:List Value},Vals vs us->Vals zs ws->Vals (gV vs zs) (g us ws)
end
structure FnScope(N P:List Str)(sc:Scope):Prop where
 kind:sc.kind=.function
 co:sc.isCoroutine=false
 gen:sc.isGenerator=false
 nd:N.Nodup
 pre:N.take P.length=P
 par:∀x∈P,sc.names.lookup x=some .local\/sc.names.lookup x=some .cell
 nofree:∀y∈sc.names,y.2≠.free
theorem zfV{kindOf:Str->Option NameKind}:∀{binds:List (Str×Value)}{m:Str->Option Value},(∀v,(x,v)∉binds)->bindL kindOf binds m x=m x
 | [],_,_=>rfl| (n,v)::r,m,h=>by
  unfold bindL;rw[zfV fun w hw=>h w (mem_cons_of_mem _ hw)];split;have:x≠n:=by rintro rfl;exact h v mem_cons_self
  simp[this];rfl
theorem zfX{kindOf:Str->Option NameKind}:∀{binds:List (Str×Value)}{m:Str->Option Value},(∀v,(x,v)∉binds)->bindC kindOf binds m x=m x
 | [],_,_=>rfl| (n,v)::r,m,h=>by
  unfold bindC;rw[zfX fun w hw=>h w (mem_cons_of_mem _ hw)];split;rfl;have:x≠n:=by rintro rfl;exact h v mem_cons_self
  simp[this]
theorem zfW{kindOf:Str->Option NameKind}:∀{P:List Str}{vs:List Value}{i:Nat}{m:Str->Option Value},P.Nodup->P[i]?=some x->vs[i]?=some v->kindOf x=some .local->
  bindL kindOf (P.zip vs) m x=some v
 | [],_,_,_,_,h,_,_=>by simp at h|_::_,[],_,_,_,_,h,_=>by simp at h| p::P,w::vs,0,m,nd,h1,h2,hk=>by simp at h1 h2;subst h1;subst h2;show bindL kindOf ((p,w)::P.zip vs) m p=_;unfold bindL;rw[zfV fun v hv=>(nodup_cons.mp nd).1 (of_mem_zip hv).1,if_pos hk];simp| p::P,w::vs,i+1,m,nd,h1,h2,hk=>by show bindL kindOf ((p,w)::P.zip vs) m x=_;exact zfW (nodup_cons.mp nd).2 (by simpa using h1) (by simpa using h2) hk
theorem zfY{kindOf:Str->Option NameKind}:∀{P:List Str}{vs:List Value}{i:Nat}{m:Str->Option Value},P.Nodup->P[i]?=some x->vs[i]?=some v->kindOf x≠some .local->
  bindC kindOf (P.zip vs) m x=some v
 | [],_,_,_,_,h,_,_=>by simp at h|_::_,[],_,_,_,_,h,_=>by simp at h| p::P,w::vs,0,m,nd,h1,h2,hk=>by simp at h1 h2;subst h1;subst h2;show bindC kindOf ((p,w)::P.zip vs) m p=_;unfold bindC;rw[zfX fun v hv=>(nodup_cons.mp nd).1 (of_mem_zip hv).1,if_neg hk];simp| p::P,w::vs,i+1,m,nd,h1,h2,hk=>by show bindC kindOf ((p,w)::P.zip vs) m x=_;exact zfY (nodup_cons.mp nd).2 (by simpa using h1) (by simpa using h2) hk
noncomputable def start(N:List Str)(vs:List V):St:=vs.map some++List.replicate (N.length-vs.length) none
noncomputable def cxOf(CX:CXT)(P:Program)(w:World)(K:Frag)(mg:Str->Option Value)(base:Heap)(N:List Str)(qual:Str)(scope:Scope)(f:Addr)(cd:Value)(A:Around)(outer:List Env)(s:Shared)(H:Hp)(E:XK):Cx where
 prog:=P
 w:=w
 K:=K
 mg:=mg
 base:=base
 A:=A.deeper (envOfC qual scope s.heap.objs.size f cd)
 N:=N
 s₀:=s
 H₀:=H
 env:=envOfC qual scope s.heap.objs.size f cd
 outer:=outer
 stack:=envOfC qual scope s.heap.objs.size f cd::outer
 ex:=[]
 calm:=true
 fn:=fun _=>true
 pn:=[]
 xe:=fun e s'=>wpAny (model P w) (A.deeper (envOfC qual scope s.heap.objs.size f cd)) (leaving (envOfC qual scope s.heap.objs.size f cd) e) (fun _ s''=>CX outer H s E e s'') (fun e' s''=>CX outer H s E e' s'') s'
theorem zhx{sc:Scope}(h:sc.names.lookup x=some .cell):∃c,(cellsFrom n sc.names []).lookup x=some c:=by have q:=cellsFrom_some sc.names n [] (.inl h);exact Option.isSome_iff_exists.mp q
theorem zfD{K:Frag}
  (S:FnScope N ps scope) (hd:A.handled=none) (e0:Env0 P w K mg base A outer s H) (hl:vs.length=ps.length) (r:Vals vs us)
  (x:InCallC s s.heap.objs.size (bindL (envOfC qual scope s.heap.objs.size f cd).kindOf (ps.zip us) fun _=>none) (cellsFrom (s.heap.objs.size+1) scope.names []) (bindC (envOfC qual scope s.heap.objs.size f cd).kindOf (ps.zip us) fun _=>none) s1) :
  Inv (cxOf CX P w K mg base N qual scope f cd A outer s H E) [] (start N vs) H s1:=by
 have hpl:ps.length<=N.length:=by have:=congrArg List.length S.pre;rw[length_take]at this;omega
 obtain⟨h1,tk,rfl,hk⟩:=x.done;have noA:∀b:Addr,b∉(cxOf CX P w K mg base N qual scope f cd A outer s H E).ex:=fun b z=>absurd (show b∈([]:List Addr) from z) (by simp);refine⟨⟨e0.mod,S.kind,rfl,rfl,le_refl _,fun y z c h1 h2=>?_,fun y hy=>?_,fun y c _ h=>?_,fun _=>hd,Around.frames_deeper e0.frames,.inr ⟨rfl,rfl⟩,fun b z=>absurd z (noA b),e0.bs,e0.bsz,fun b _ _=>noA b,fun b z=>absurd z (noA b),e0.funs,e0.frf⟩,
  rfl,e0.bare,Un.kept hk,⟨_,x.toInCall.ns,fun i y v h1 h2 h3=>?_⟩,fun y c h=>⟨_,x.cell y c h⟩,e0.hok.fresh (le_refl _),fun y c h=>?_,fun p hp=>absurd (show p∈([]:List (Addr×Obj)) from hp) (by simp),e0.hok.kept hk,?_⟩
 exact name_of_addr x.apart (PySem.mem_of_lookup h1) (PySem.mem_of_lookup h2);have hy:scope.names.lookup y=some .cell\/scope.names.lookup y=some .free:=hy;rcases hy with hy|hy;exact zhx hy;exact absurd rfl (S.nofree _ (PySem.mem_of_lookup hy));exact le_of_lt (x.above y c (PySem.mem_of_lookup h));have hi:i<vs.length:=by
  unfold start at h2;by_cases hi:i<vs.length;exact hi
  . rw[getElem?_append_right (by simpa using hi)]at h2;rw[List.getElem?_replicate]at h2;split at h2<;>cases h2
 have ha:vs[i]?=some v:=by
  unfold start at h2;rw[getElem?_append_left (by simpa using hi),getElem?_map]at h2;cases e:vs[i]? with
  |none=>rw[e]at h2;cases h2
  |some a=>rw[e]at h2;cases h2;rfl
 obtain⟨u,hu,rv⟩:=r.get ha;have hp:ps[i]?=some y:=by rw[<-S.pre,List.getElem?_take_of_lt (by omega)];exact h1
 have ndP:ps.Nodup:=by rw[<-S.pre];exact S.nd.sublist (List.take_sublist _ _)
 refine⟨u,rv,?_⟩;rcases S.par y (mem_of_getElem? hp) with k|k;exact .inl ⟨k,zfW ndP hp hu k⟩;obtain⟨c,e⟩:=zhx k;refine .inr ⟨.inl k,c,e,?_⟩;have q:=x.cell y c e;rw[zfY ndP hp hu (by show scope.names.lookup y≠_;rw[k];decide)]at q;exact q;exact e0.hok.fresh (le_of_lt (x.above y c (PySem.mem_of_lookup h)));unfold start;show _=N.length;rw[length_append,length_map,length_replicate];omega
theorem zrb{K:Frag}{dV kV doc pm cdv ct oc:Value}
 (lk:K.lookup f=some ⟨oc,od,.func (fnOf name qual params body scope dV kV doc pm an cdv ct),osl⟩) (hcd:codeIn K cdv qual=true) (S:FnScope N ps scope)
   (len:∀vs H Q E,sp vs H Q E->vs.length=ps.length)
   (hbody:∀(A:Around)(outer:List Env)(s:Shared)(H:Hp)(vs:List V)(Q:VK)(E:XK),Room k (A.deeper (envOfC qual scope s.heap.objs.size f cdv))->sp vs H Q E->
    ∃t,PSs (cxOf CX P w K mg base N qual scope f cdv A outer s H E) body t/\t {nx:=fun _ H'=>Q .non H',rt:=Q} (start N vs) H) :
   FnOk P w K mg base CX (k+1) f (fnOf name qual params body scope dV kV doc pm an cdv ct) ps sp:=by
  refine⟨len,fun A outer s H args us vs Q E hr e0 hb r hsp=>?_⟩;have hl:=len _ _ _ _ hsp;have KX:K.In s.heap:=e0.mod.kin.keeps fun b o e=>(e0.bs b o e).1;have lim:s.heap.NoLimit:=e0.mod.nolimit.keeps fun b o e=>(e0.bs b o e).1;have hkind:∀y∈ps.zip us,scope.names.lookup y.1=some .local\/(scope.names.lookup y.1=some .cell/\((cellsFrom (s.heap.objs.size+1) scope.names []).lookup y.1).isSome=true):=fun⟨n,v⟩ hy=>by rcases S.par n (of_mem_zip hy).1 with q|q;exact .inl q;exact .inr ⟨q,cellsFrom_some _ _ _ (.inl q)⟩
  refine codeAny_call_function hr.depth (KX _ _ lk) rfl S.co S.gen rfl (PySem.W.codeRec_of KX hcd) (hb _ _ _ _ ?_);refine wpAny_newFunctionEnv_cells S.kind hkind fun env he s1 x=>?_;subst he;refine⟨lim.keeps x.toInCall.keep,codeAny_func ?_⟩;obtain⟨t,ht,hq⟩:=hbody A outer s H vs Q E (hr.deeper _) hsp;have I:Inv (cxOf CX P w K mg base N qual scope f cdv A outer s H E) [] (start N vs) H s1:=zfD S hr.hd e0 hl r x;refine wpAny_mono (ht [] s1 (start N vs) H _ I hq) (fun fl s' hs=>?_) fun e s' hs=>hs;have fin:∀{σ':St}{H':Hp}{v:V}{u:Value},Inv (cxOf CX P w K mg base N qual scope f cdv A outer s H E) [] σ' H' s'->RelV v u->Q v H'->CE outer P w H s Q u s':=fun {σ' H' v u} J rv q=>⟨v,H',J.os,J.bare,J.base,J.hok,rv,q⟩;cases fl with| ret u=>obtain⟨v,σ',H',J,rv,q⟩:=hs;exact fin J rv q| next=>obtain⟨σ',H',J,q⟩:=hs;exact fin (v:=V.non) J rfl q| brk=>obtain⟨_,_,_,q⟩:=hs;exact False.elim q| cont=>obtain⟨_,_,_,q⟩:=hs;exact False.elim q
section
variable{X:Cx}{x:Str}{p pos:Pos}{e:Expr}{es:List Expr}{t:TA}{id T:String}{r:List V->Hp->VK->Prop}
def tCB(r:List V->Hp->VK->Prop)(t:TA):TE:=fun σ H Q=>t σ H fun vs H1=>r vs H1 Q
theorem zbr(hc:zbi X (.builtin id) r)(hg:Gl X x)(hm:X.mg x=none)(hv:bootBuiltins x=some (.builtin id))(ha:PA X (e::es) t)(hn:x≠"__name__":=by decide)(hdb:(x==("__debug__":Str))=false:=by decide)
  (he:starEach (e::es) X.env=(false,eval e X.env)::starEach es X.env:=by rfl) (hpl:(backTo pos (starEach es X.env)).any (·.1)=false:=by rfl):PE X (.Call (.Name x p) (e::es) [] pos) (tCB r t):=by
 intro pins s σ H Q I h;refine wpAny_Call_Name_kw (zds I hg hm hv ?_ hn hdb);exact PyProof.Rows.callWith_builtin1 (thn (ha pos pins s σ H _ I h) fun us s1=>ex5 fun vs H1 I1 r1 q1=>hc pins s1 σ H1 vs us Q I1 r1 q1) he hpl
theorem za6(hc:zbi X (.type T) r)(hg:Gl X x)(hm:X.mg x=none)(hv:bootBuiltins x=some (.type T))(ha:PA X (e::es) t)(hn:x≠"__name__":=by decide)(hdb:(x==("__debug__":Str))=false:=by decide)
  (he:starEach (e::es) X.env=(false,eval e X.env)::starEach es X.env:=by rfl) (hpl:(backTo pos (starEach es X.env)).any (·.1)=false:=by rfl):PE X (.Call (.Name x p) (e::es) [] pos) (tCB r t):=by
 intro pins s σ H Q I h;refine wpAny_Call_Name_kw (zds I hg hm hv ?_ hn hdb);exact PyProof.Rows.callWith_type1 (thn (ha pos pins s σ H _ I h) fun us s1=>ex5 fun vs H1 I1 r1 q1=>hc pins s1 σ H1 vs us Q I1 r1 q1) he hpl
end
section
variable{κ:Type}[DecidableEq κ]
noncomputable def valV(kvs:List (κ×V))(k:κ):Option V:=(kvs.find? fun kv=>decide (kv.1=k)).map (·.2)
noncomputable def putK(kvs:List (κ×V))(k:κ)(v:V):List (κ×V):=if(kvs.any fun kv=>decide (kv.1=k))=true then kvs.map (fun kv=>if kv.1=k then(kv.1,v) else kv) else kvs++[(k,v)]
theorem zel{p:κ×V}(e:p.1=k):valV (p::r) k=some p.2:=by simp[valV,e]
theorem zem{p:κ×V}(e:¬p.1=k):valV (p::r) k=valV r k:=by simp[valV,e]
theorem zgO(k:κ):∀kvs:List (κ×V),(kvs.any fun kv=>decide (kv.1=k))=(valV kvs k).isSome
 | []=>rfl| p::r=>by rw[any_cons];by_cases e:p.1=k;simp[zel e,decide_eq_true e,Bool.true_or,Option.isSome_some];rw[zem e,decide_eq_false e,Bool.false_or];exact zgO k r
theorem zbs(kvs:List (κ×V))(k:κ)(v:V):(putK kvs k v).length<=kvs.length+1:=by unfold putK;split;rw[length_map];omega;rw[length_append,length_cons,length_nil];omega
theorem RelO.isSome_eq(r:RelO o u):o.isSome=u.isSome:=by
 cases o with
 |none=>cases u with
  |none=>rfl|some _=>exact r.elim
 |some _=>cases u with|none=>exact r.elim|some _=>rfl
theorem RelO.getD(r:RelO o u)(rd:RelV d d'):RelV (o.getD d) (u.getD d'):=by
 cases o with
 |none=>cases u with
  |none=>exact rd|some _=>exact r.elim
 |some _=>cases u with|none=>exact r.elim|some _=>exact r
theorem KV.val(r:KV kvs vs)(k:κ):RelO (valV kvs k) (valueAt vs k):=by
 induction r with
 |nil=>exact True.intro| @cons p q ps qs h t ih=>
  obtain⟨h1,h2⟩:=h;by_cases e:p.1=k;have e':q.1=k:=h1.symm.trans e;have b:valueAt (q::qs) k=some q.2:=by simp[valueAt,e']
  rw[zel e,b];exact h2;have e':¬q.1=k:=fun z=>e (h1.trans z);have b:valueAt (q::qs) k=valueAt qs k:=by simp[valueAt,e']
  rw[zem e,b];exact ih
theorem KV.any(r:KV kvs vs)(k:κ):(kvs.any fun kv=>decide (kv.1=k))=vs.any fun kv=>decide (kv.1=k):=by induction r with|nil=>rfl|cons h t ih=>rw[any_cons,any_cons,ih,h.1]
theorem KV.repl(r:KV kvs vs)(k:κ)(ry:RelV y u) :
  KV (kvs.map fun kv=>if kv.1=k then(kv.1,y) else kv) (vs.map fun kv=>if kv.1=k then(kv.1,u) else kv):=by
 induction r with|nil=>exact .nil| @cons p q ps qs h t ih=>rw[map_cons,map_cons];refine .cons ?_ ih;obtain⟨h1,h2⟩:=h;by_cases e:p.1=k;rw[if_pos e,if_pos (h1.symm.trans e)];exact⟨h1,ry⟩;rw[if_neg e,if_neg (fun z=>e (h1.trans z))];exact⟨h1,h2⟩
theorem KV.put(r:KV kvs vs)(k:κ)(ry:RelV y u):KV (putK kvs k y) (stored vs k u):=by unfold putK stored;rw[r.any k];by_cases e:(vs.any fun kv=>decide (kv.1=k))=true;rw[if_pos e,if_pos e];exact r.repl k ry;rw[if_neg e,if_neg e];exact Paired.snoc r ⟨rfl,ry⟩
theorem KV.length{kvs:List (κ×V)}(r:KV kvs vs):kvs.length=vs.length:=Paired.length r
end
theorem zjQ(r:RelV (kV k) u):(zas P w).is k u=true:=by cases k with|inl i=>obtain⟨t,e⟩:=r;subst e;exact zgp P w i t|inr x=>obtain⟨t,e⟩:=r;subst e;exact zgo P w x t
theorem zfA:∀{ks:List Key}{us:List Value},Vals (ks.map kV) us->ItemsAre (zas P w) ks us
 | [],_,r=>by rw[map_nil]at r;cases r;exact .nil| k::ks,_,r=>by cases r with|cons h t=>exact .cons (zjQ h) (zfA t)
abbrev KT(H:Hp):List (List Key×V)->List (List Key×Addr×Value)->Prop:=Paired fun p q=>p.1=q.1/\H q.2.1=some (.tup (p.1.map kV))/\RelV p.2 q.2.2
theorem KT.val(r:KT H kvs xs)(k:List Key):RelO (valV kvs k) ((atKey xs k).map (·.2)):=by
 induction r with
 |nil=>exact True.intro| @cons p q ps qs h t ih=>
  obtain⟨h1,_,h2⟩:=h;by_cases e:p.1=k;have e':q.1=k:=h1.symm.trans e;have b:atKey (q::qs) k=some q.2:=by simp[atKey,e']
  rw[zel e,b];exact h2;have e':¬q.1=k:=fun z=>e (h1.trans z);have b:atKey (q::qs) k=atKey qs k:=by simp[atKey,e']
  rw[zem e,b];exact ih
theorem KT.repl(r:KT H kvs xs)(k:List Key)(ry:RelV y u) :
  KT H (kvs.map fun kv=>if kv.1=k then(kv.1,y) else kv) (xs.map (putAt k u)):=by
 induction r with|nil=>exact .nil| @cons p q ps qs h t ih=>rw[map_cons,map_cons];refine .cons ?_ ih;obtain⟨h1,h2,h3⟩:=h;unfold putAt;by_cases e:p.1=k;rw[if_pos e,if_pos (h1.symm.trans e)];exact⟨h1,h2,ry⟩;rw[if_neg e,if_neg (fun z=>e (h1.trans z))];exact⟨h1,h2,h3⟩
theorem KT.put(r:KT H kvs xs)(k:List Key)(hb:H b=some (.tup (k.map kV)))(ry:RelV y u) :
  KT H (putK kvs k y) (storedH xs k b u):=by
 have e:(kvs.any fun kv=>decide (kv.1=k))=(atKey xs k).isSome:=by rw[zgO,(r.val k).isSome_eq,Option.isSome_map]
 unfold putK storedH;rw[e];by_cases q:(atKey xs k).isSome=true;rw[if_pos q,if_pos q];exact r.repl k ry;rw[if_neg q,if_neg q];exact Paired.snoc r ⟨rfl,hb,ry⟩
theorem KT.keeps(r:KT H kvs xs)(ht:∀b ys,H b=some (.tup ys)->H' b=some (.tup ys)):KT H' kvs xs:=Paired.mapP r fun _ _ z=>⟨z.1,ht _ _ z.2.1,z.2.2⟩
section
variable{P:Program}{w:World}{H:Hp}{h:Heap}{a:Addr}
theorem zp2(ok:HOk P w H h)(e:Rd H a u):ObjOk P w H h a u:=e.ok ok
theorem zoO(ok:HOk P w H h)(e:Rd H a (.dK kvs)):kvs.length<=sizeLine/\(a==sysModules)=false/\∃vs,KV kvs vs/\h.DictOf (zas P w) a vs:=show ObjOk P w H h a (.dK kvs) from zp2 ok e
theorem zko(ok:HOk P w H h)(e:H a=some (.dK kvs)):kvs.length<=sizeLine/\(a==sysModules)=false/\∃vs,KV kvs vs/\h.DictOf (zas P w) a vs:=zoO ok (.inl e)
theorem zhi(ok:HOk P w H h)(e:H a=some (.tup (ks.map kV))):(tupleKind (zas P w)).is h ks a:=by obtain⟨_,its,r,o,h1,h2,n,h3⟩:=(ok a _ e);exact⟨o,its.toArray,n,h1,h2,h3,by simpa using zfA r⟩
theorem zoN(ok:HOk P w H h)(e:Rd H a (.dT kvs)):kvs.length<=sizeLine/\(a==sysModules)=false/\
  ∃xs,KT H kvs xs/\h.DictOfH (tupleKind (zas P w)) a xs:=by
 obtain⟨z,y,xs,r,o,es,ep,h1,h2,h3,h4,h5⟩:=(zp2 ok e);refine⟨z,y,xs,r,o,es,ep,h1,h2,h3,h4,fun x hx=>?_,h5⟩;have all:∀{l:List (List Key×V)}{m:List (List Key×Addr×Value)},KT H l m->∀x∈m,(tupleKind (zas P w)).is h x.1 x.2.1:=by
  intro l m q;induction q with
  |nil=>intro x hx;exact nomatch hx
  | @cons p q ps qs hq t ih=>intro x hx;rcases mem_cons.mp hx with e|hx;subst e;exact zhi ok (by rw[<-hq.1];exact hq.2.1);exact ih x hx
 exact all r x hx
theorem zsz(ok:HOk P w H h)(e:H a=some (.dT kvs)):kvs.length<=sizeLine/\(a==sysModules)=false/\
 ∃xs,KT H kvs xs/\h.DictOfH (tupleKind (zas P w)) a xs:=zoN ok (.inl e)
end
def DGet(H:Hp)(a:Addr)(y:V)(r:Option V):Prop:=(∃kvs k,Rd H a (.dK kvs)/\y=kV k/\r=valV kvs k)\/∃kvs k b,Rd H a (.dT kvs)/\y=.ref b/\H b=some (.tup (k.map kV))/\r=valV kvs k
def DPut(H:Hp)(a:Addr)(y v:V)(H':Hp):Prop:=
 (∃kvs k,H a=some (.dK kvs)/\y=kV k/\kvs.length<sizeLine/\H'=upd H a (.dK (putK kvs k v)))\/
 ∃kvs k b,H a=some (.dT kvs)/\y=.ref b/\H b=some (.tup (k.map kV))/\kvs.length<sizeLine/\H'=upd H a (.dT (putK kvs k v))
theorem DGet.k{k:Key}(e:H a=some (.dK kvs)):DGet H a (kV k) (valV kvs k):=.inl ⟨kvs,k,.inl e,rfl,rfl⟩
theorem DPut.k{k:Key}(e:H a=some (.dK kvs))(hl:kvs.length<sizeLine):DPut H a (kV k) v (upd H a (.dK (putK kvs k v))):=.inl ⟨kvs,k,e,rfl,hl,rfl⟩
section
variable{X:Cx}{pins:List (Addr×Obj)}{σ:St}{H:Hp}{s:Shared}{a:Addr}{y v:V}{u r:Value}{o:Option V}{A:Around}{E:Value->Shared->Prop}
theorem Inv.big(I:Inv X pins σ H s):sysModules<s.heap.objs.size:=by have h:mainGlobals<s.heap.objs.size:=(I.mod.glob.keeps I.bk).lt;exact lt_trans (by decide) h
theorem zeX(I:Inv X pins σ H s)(mu:Mut (H a))(hs:Heap.SameBut a s.heap h')(he:∃q,h'.get? a=some q)(new:ObjOk X.prog X.w (upd H a ob) h' a ob) :
  Inv X pins σ (upd H a ob) {s with heap:=h',toks:=t'}:=
 I.write mu (.inl rfl) (fun b q hb z=>(hs.2 b hb).trans z) he new
theorem zkp(z:kvs.length<=sizeLine)(hd:(a==sysModules)=false)(rel:KV kvs vs)(dd:h'.DictOf (zas P w) a vs) :
 ObjOk P w H' h' a (.dK kvs):=⟨z,hd,vs,rel,dd⟩
theorem zkw(hu:A.units+1<cLine)(I:Inv X pins σ H s)(g:DPut H a y v H')(ry:RelV y u)(rv:RelV v r)(h:∀s',Inv X pins σ H' s'->Q () s') :
  wpAny (model X.prog X.w) A (setItem (.ref a) u r) Q E s:=by
 rcases g with⟨kvs,k,e,ey,l,eH⟩|⟨kvs,k,b,e,ey,eb,l,eH⟩
 . subst ey eH;obtain⟨z,hd,vs,rel,dd⟩:=zko I.hok e;have hz:vs.length<=sizeLine:=by rw[<-rel.length];exact z
   have hl:(putK kvs k v).length<=sizeLine:=by have:=zbs kvs k v;omega
   refine wpAny_setItem_pairs (zjQ ry) dd fun h' dd' hs=>h _ ?_;have he:∃q,h'.get? a=some q:=let ⟨q,_,_,hq,_⟩:=dd';⟨q,hq⟩;exact zeX I (by rw[e];exact True.intro) hs he (zkp hl hd (rel.put k rv) dd')
 subst ey eH;cases ry;obtain⟨z,hd,xs,rel,dd⟩:=zsz I.hok e;have hz:xs.length<=sizeLine:=by rw[<-Paired.length rel];exact z
 have hl:(putK kvs k v).length<=sizeLine:=by have:=zbs kvs k v;omega
 refine wpAny_setItem_heap (tupleKind_room_in1 hu) (zhi I.hok eb) dd fun h' dd' hs=>h _ ?_;obtain⟨q,es,ep,hq,h2,h3,h4,_,h5⟩:=dd';refine zeX I (by rw[e];exact True.intro) hs ⟨q,hq⟩ ⟨hl,hd,_,(rel.put k eb rv).keeps fun c ys ec=>?_,q,es,ep,hq,h2,h3,h4,h5⟩;rw[zag (ne_of ec e (fun z=>nomatch z))];exact ec
end
theorem zht(h:Heap)(hb:sysModules<h.objs.size):ObjOk P w H (h.push {cls:=.type "dict",data:=.dict #[]}) h.objs.size (.dK []):=⟨zero_le _,beq_eq_false_iff_ne.mpr (Ne.symm (ne_of_lt hb)),[],.nil,Heap.DictOf.new h⟩
def zps:TE:=fun _ H Q=>∀p,H p=none->Q (.ref p) (upd H p (.dK []))
section
variable{X:Cx}{pos:Pos}
theorem zlH:PE X (.Dict [] [] pos) zps:=fun pins s σ H Q I h=>wpAny_Dict_empty ⟨.ref s.heap.objs.size,_,I.laid (t':=s.toks) (fun _ _ q=>Heap.get?_push_of_some _ q) (le_refl _) (zht s.heap I.big),rfl,h _ (I.hok.fresh (le_refl _))⟩
end
def ziK:List (TE×TE)->St->Hp->(List (V×V)->Hp->Prop)->Prop
 | [],_,H,Q=>Q [] H|(tk,tv)::r,σ,H,Q=>tk σ H fun x H1=>tv σ H1 fun y H2=>ziK r σ H2 fun ps H3=>Q ((x,y)::ps) H3
abbrev VV:List (V×V)->List (Value×Value)->Prop:=Paired fun p q=>RelV p.1 q.1/\RelV p.2 q.2
def PPs(X:Cx)(pos:Pos)(keys:List (Option Expr))(values:List Expr)(trs:List (TE×TE)):Prop:=
 ∀(pins:List (Addr×Obj))(s:Shared)(σ:St)(H:Hp)(Q:List (V×V)->Hp->Prop),Inv X pins σ H s->ziK trs σ H Q->
  wpAny (model X.prog X.w) X.A (evalPairs (pairTrees keys values X.env pos)) (fun vs s'=>∃ps H',Inv X pins σ H' s'/\VV ps vs/\Q ps H') X.xe s
theorem zn2:PPs X pos [] [] []:=fun pins s σ H Q I h=>pairTrees_nil_walk ⟨[],H,I,.nil,h⟩
theorem zlw(hk:PE X k tk)(hv:PE X v tv)(hr:PPs X pos ks vs trs) :
  PPs X pos (some k::ks) (v::vs) ((tk,tv)::trs):=fun pins s σ H Q I h=>
 pairTrees_cons_walk (thn (hk pins s σ H _ I h) fun u s1=>ex5 fun x H1 I1 rx q1=>thn (hv pins s1 σ H1 _ I1 q1) fun w2 s2=>ex5 fun y H2 I2 ry q2=>thn (hr pins s2 σ H2 _ I2 q2) fun ws s3=>ex5 fun ps H3 I3 rel q3=>⟨(x,y)::ps,H3,I3,.cons ⟨rx,ry⟩ rel,q3⟩)
noncomputable def zcW(kvs more:List (Key×V)):List (Key×V):=more.foldl (fun acc kv=>putK acc kv.1 kv.2) kvs
theorem KV.merge:∀{more:List (Key×V)}{rs:List (Key×Value)}{kvs:List (Key×V)}{vs:List (Key×Value)},KV more rs->KV kvs vs->KV (zcW kvs more) (merged vs rs):=by
 intro more rs kvs vs r;induction r generalizing kvs vs with
 |nil=>intro q;exact q| @cons p q ps qs h t ih=>
  intro r0;have e:KV (putK kvs p.1 p.2) (stored vs q.1 q.2):=by have:=r0.put p.1 h.2;rw[<-h.1];exact this
  exact ih e
theorem zcx:∀(more kvs:List (Key×V)),(zcW kvs more).length<=kvs.length+more.length
 | [],kvs=>by show kvs.length<=kvs.length+0;omega| p::r,kvs=>by have h1:=zcx r (putK kvs p.1 p.2);have h2:=zbs kvs p.1 p.2;show(zcW (putK kvs p.1 p.2) r).length<=_;rw[length_cons];omega
theorem zeg:∀{kvs:List (Key×V)}{ws:List (Value×Value)},VV (kvs.map fun kv=>(kV kv.1,kv.2)) ws->∃rs,Carries (zas P w) ws rs/\KV kvs rs
 | [],_,r=>by rw[map_nil]at r;cases r;exact⟨[],True.intro,.nil⟩| p::kvs,_,r=>by rw[map_cons]at r;cases r with| @cons a b as bs h t=>obtain⟨rs,c,q⟩:=zeg t;obtain⟨b1,b2⟩:=b;exact⟨(p.1,b2)::rs,⟨zjQ h.1,rfl,c⟩,.cons ⟨rfl,h.2⟩ q⟩
def zrS(trs:List (TE×TE)):TE:=fun σ H Q=>∀p,H p=none->ziK trs σ (upd H p (.dK [])) fun ps H2=>H2 p=some (.dK [])/\∃kvs:List (Key×V),ps=kvs.map (fun kv=>(kV kv.1,kv.2))/\kvs.length<=15/\Q (.ref p) (upd H2 p (.dK (zcW [] kvs)))
theorem zn7(h:PPs X pos keys values trs)(hall:keys.all (·.isSome)=true)(hl:keys.length=values.length)(h0:keys≠[])
  (h15:keys.length<=15):PE X (.Dict keys values pos) (zrS trs):=by
 intro pins s σ H Q I q;have hn:=I.hok.fresh (le_refl s.heap.objs.size);have I1:=I.laid (h':=s.heap.push {cls:=.type "dict",data:=.dict #[]}) (t':=s.toks) (fun _ _ q=>Heap.get?_push_of_some _ q) (le_refl _) (zht s.heap I.big);refine wpAny_Dict_walk (knd:=zas X.prog X.w) hall hl h0 h15 (thn (h pins _ σ _ _ I1 (q _ hn)) fun ws s2=>ex5 fun ps H2 I2 rel ⟨e,kvs,ep,lk,q2⟩=>?_);subst ep;obtain⟨rs,c,rk⟩:=zeg rel;obtain⟨z,hd,vs0,r0,dd⟩:=zko I2.hok e;cases r0;refine⟨rs,c,dd,fun h' dd' hs=>⟨.ref s.heap.objs.size,_,?_,rfl,q2⟩⟩;have hz:(zcW [] kvs).length<=sizeLine:=by have h1:=zcx kvs [];rw[length_nil]at h1;rw[sizeLine_eq];omega
 have he:∃q,h'.get? s.heap.objs.size=some q:=let ⟨q,_,_,hq,_⟩:=dd';⟨q,hq⟩;exact zeX I2 (by rw[e];exact True.intro) hs he (zkp hz hd (rk.merge .nil) dd')
structure M1(X:Cx)(o:Expr)(m:Str)(apos:Pos)(e:Expr)(cpos:Pos):Prop where
 base:attributeBase o m X.env (eval o X.env)=eval o X.env
 few:((backTo cpos (starEach [e] X.env)).all (fun x=>!x.1)&&(backToKw cpos (keywordEach [] X.env)).all (fun x=>x.1.isSome)
  && decide (([e]:List Expr).length+([]:List Keyword).length+(if([]:List Keyword).isEmpty then 0 else 1)<30))=true
 line:(apos.endLine==cpos.line)=true
 trees:backTo cpos (starEach [e] X.env)=[(false,eval e X.env)]
structure M2(X:Cx)(o:Expr)(m:Str)(apos:Pos)(e f:Expr)(cpos:Pos):Prop where
 base:attributeBase o m X.env (eval o X.env)=eval o X.env
 few:((backTo cpos (starEach [e,f] X.env)).all (fun x=>!x.1)&&(backToKw cpos (keywordEach [] X.env)).all (fun x=>x.1.isSome)
  && decide (([e,f]:List Expr).length+([]:List Keyword).length+(if([]:List Keyword).isEmpty then 0 else 1)<30))=true
 line:(apos.endLine==cpos.line)=true
 trees:backTo cpos (starEach [e,f] X.env)=[(false,eval e X.env),(false,eval f X.env)]
def IsD(H:Hp)(a:Addr):Prop:=(∃kvs,Rd H a (.dK kvs))\/∃kvs,Rd H a (.dT kvs)
theorem zmL{σ:St}(I:Inv X pins σ H s)(d:IsD H a) :
  s.TypeIs (.ref a) "dict"/\(∀b,Value.ref a=.ref b->∃ob,s.heap.get? b=some ob/\ob.dict=none)/\(a==sysModules)=false:=by
 rcases d with⟨kvs,e⟩|⟨kvs,e⟩;obtain⟨_,hd,vs,_,dd⟩:=zoO I.hok e;refine⟨dd.typeIs,fun b q=>?_,hd⟩;cases q;obtain⟨ob,_,_,h1,h2,_⟩:=dd;exact⟨ob,h1,h2.2.1⟩;obtain⟨_,hd,xs,_,dd⟩:=zoN I.hok e;refine⟨dd.typeIs,fun b q=>?_,hd⟩;cases q;obtain⟨ob,_,_,h1,h2,_⟩:=dd;exact⟨ob,h1,h2.2.1⟩
section
variable{X:Cx}{pins:List (Addr×Obj)}{σ:St}{H:Hp}{s:Shared}{a:Addr}{y d:V}{u r:Value}{o:Option V}{A:Around}{E:Value->Shared->Prop}
theorem zrl(hu:A.units+1<cLine)(I:Inv X pins σ H s)(g:DGet H a y o)(ry:RelV y u)(rd:RelV d r)(h:∀w' s',Inv X pins σ H s'->RelV (o.getD d) w'->Q w' s') :
  wpAny (model X.prog X.w) A (call (.builtin "dict.get") [.ref a,u,r]) Q E s:=by
 rcases g with⟨kvs,k,e,ey,l⟩|⟨kvs,k,b,e,ey,eb,l⟩;subst ey;obtain⟨z,hd,vs,rel,dd⟩:=zoO I.hok e;refine call_meetsIn PySem.F.slot_dict_get dd.typeIs PySem.F.entry_dict_get (PySem.F.args_dict_get_3 _ _ _) (meets_dict_get_default (zas X.prog X.w) a (zjQ ry) hd r) ⟨_,dd.mapOf,h _ _ (I.tok _) ?_⟩;rw[l];exact(rel.val k).getD rd;subst ey;cases ry;obtain⟨z,hd,xs,rel,dd⟩:=zoN I.hok e;refine call_meetsIn PySem.F.slot_dict_get dd.typeIs PySem.F.entry_dict_get (PySem.F.args_dict_get_3 _ _ _) (meetsH_dict_get_default (tupleKind (zas X.prog X.w)) a b hd r) ⟨tupleKind_room_in1 hu,k,xs,zhi I.hok eb,dd,h _ _ (I.tok _) ?_⟩;rw[l];exact(rel.val k).getD rd
end
def zpt(td ty tx:TE):TE:=fun σ H Q=>td σ H fun x H1=>∃a,x=.ref a/\IsD H1 a/\ty σ H1 fun y H2=>tx σ H2 fun z H3=>∃o,DGet H3 a y o/\Q (o.getD z) H3
section
variable{X:Cx}{o e f:Expr}{apos cpos:Pos}{td ty tx:TE}
theorem zlI(hu:X.A.units+1<cLine)(ho:PE X o td)(he:PE X e ty)(hf:PE X f tx)(m:M2 X o "get" apos e f cpos):PE X (.Call (.Attribute o "get" apos) [e,f] [] cpos) (zpt td ty tx):=by intro pins s σ H Q I h;refine wpAny_Call_method m.base m.few m.line PySem.F.plainAttrs_dict PySem.F.slot_dict_get PySem.F.type_dict_get (thn (ho pins s σ H _ I h) fun u s1=>ex5 fun x H1 I1 rx ⟨a,ex,d,q1⟩=>?_);subst ex;obtain rfl:u=Value.ref a:=rx;obtain⟨t1,t2,_⟩:=zmL I1 d;refine⟨t1,t2,?_⟩;rw[m.trees];refine Calls.callWith_builtin rfl (Calls.evalArgs_plain (Calls.spliced_cons (thn (he pins s1 σ H1 _ I1 q1) fun iv s2=>ex5 fun y H2 I2 ry q2=>Calls.spliced_cons (thn (hf pins s2 σ H2 _ I2 q2) fun fv s3=>ex5 fun z H3 I3 rz ⟨ov,g,q3⟩=>Calls.spliced_nil ?_))));exact zrl hu I3 g ry rz fun w' s4 I4 rw'=>⟨_,H3,I4,rw',q3⟩
end
end L2
namespace HT
open PySem PyProof.Rows
noncomputable def lexLt:List Int->List Int->Bool
 | [],[]=>false| [],_::_=>true|_::_,[]=>false|x::xs,y::ys=>if x=y then lexLt xs ys else decide (x<y)
theorem zh9(x y:Int)(xs ys:List Int):lexLt (x::xs) (y::ys)=if x=y then lexLt xs ys else decide (x<y):=rfl
theorem zeO:lexLt [] []=false:=rfl
theorem zdQ(y:Int)(ys:List Int):lexLt [] (y::ys)=true:=rfl
theorem zdR(x:Int)(xs:List Int):lexLt (x::xs) []=false:=rfl
theorem zme(A:Around)(s:Shared)(a:Int)(t:Tok)(c:Int)(u:Tok):∃e,SeqAt.EqAt A s (.int a t) (.int c u) e/\(e=true↔a=c):=⟨(a==c),SeqAt.EqAt.int_int a t c u,by simp⟩
theorem zlr(A:Around)(s:Shared)(a:Int)(t:Tok)(c:Int)(u:Tok)(prog:Program)(w:World)(E:Value->Shared->Prop)(Q:Value->Shared->Prop)(h:Q (.bool (decide (a<c))) s) :
  wpAny (model prog w) A (richCompare .Lt (.int a t) (.int c u)) Q E s:=
 (PyProof.Rows.lt_int h:wpAny (model prog w) A (compareOp .Lt (.int a t) (.int c u)) Q E s)
section
open PySem.SeqAt
open PySem.AutoSeq1 (wpAny_loadPart')
open PySem.MeetsSeq PySem.MeetsSeq2 PySem.MeetsSeq3
theorem zep(l b:Addr)(items items2:Array Value)(n n2:Nat)(dd dd2:Option Addr)(sl sl2:Array (Option Value))(ns ms:List Int)(hi:IntsAre items.toList ns)(hj:IntsAre items2.toList ms) :
  Meets (Builtin.«tuple.__lt__» ⟨[.ref l,.ref b],[]⟩)
   (fun _ R s=>s.heap.get? l=some {cls:=.type "tuple",dict:=dd,data:=.seq items n,slots:=sl}/\s.heap.get? b=some {cls:=.type "tuple",dict:=dd2,data:=.seq items2 n2,slots:=sl2}/\
    R (.ok (.ret (.bool (lexLt ns ms)))) s):=
 .of_wp fun prog w A R s h=>by
  obtain⟨hp,g,d,tk,os⟩:=s;obtain⟨hl,hb,h⟩:=h;have f2:=AutoSeq1.sub_tuple_tuple;have z1:items.size=ns.length:=by rw[<-hi.length];simp
  have z2:items2.size=ms.length:=by rw[<-hj.length];simp
  wp_walk using wpAny_loadPart' hl,wpAny_loadPart' hb,wpAny_forIn_list _ (fun rest b s'=>b.1=none/\s'=⟨hp,g,d,tk,os⟩/\∃(vs ws:List Value) (ns' ms':List Int),rest=vs.zip ws/\
   IntsAre vs ns'/\IntsAre ws ms'/\ns'.length+items2.size=ms'.length+items.size/\R (.ok (.ret (.bool (lexLt ns' ms')))) ⟨hp,g,d,tk,os⟩) _
  case turn=>
   rintro⟨y,x⟩ rest b s' ⟨hb',rfl,vs,ws,ns',ms',hz,hvi,hwi,hlen,hR⟩;cases hvi with
   |nil=>rw[List.zip_nil_left]at hz;cases hz
   |cons a t hvi'=>
    cases hwi with
    |nil=>rw[List.zip_nil_right]at hz;cases hz
    |cons c u hwi'=>
     rw[List.zip_cons_cons]at hz;injection hz with hyx hrest;injection hyx with hy hx;subst hy hx;rw[zh9]at hR;simp only[length_cons]at hlen;obtain⟨e,he,hiff⟩:=zme A.in1 ⟨hp,g,d,tk,os⟩ a t c u;refine wpAny_bind (he prog w _ _ ?_);cases e with
     |true=>
      rw[if_pos (hiff.mp rfl)]at hR
      wp_walk
      exact⟨rfl,rfl,_,_,_,_,hrest,hvi',hwi',by omega,hR⟩
     |false=>
      rw[if_neg (fun q=>absurd (hiff.mpr q) Bool.false_ne_true)]at hR;have hri:=zlr A.in1 ⟨hp,g,d,tk,os⟩ a t c u prog w
      wp_walk using hri
      exact⟨_,rfl,by simpa using hR⟩
  case fin=>
   rintro⟨b1,b2⟩ s' ⟨hb',rfl,vs,ws,ns',ms',hz,hvi,hwi,hlen,hR⟩;simp only at hb';subst hb';have hv:lexLt ns' ms'=decide (items.size<items2.size):=by
    cases hvi with
    |nil=>cases hwi with| nil=>simp only[length_nil]at hlen;rw[zeO];exact(decide_eq_false (by omega)).symm| cons c u hw=>simp only[length_nil,length_cons]at hlen;rw[zdQ];exact(decide_eq_true (by omega)).symm
    |cons a t hv=>cases hwi with| nil=>simp only[length_nil,length_cons]at hlen;rw[zdR];exact(decide_eq_false (by omega)).symm| cons c u hw=>rw[List.zip_cons_cons]at hz;cases hz
   rw[hv]at hR
   wp_walk
   exact⟨_,rfl,by simpa[Builtin.Tuple.tupleCompareSizes]using hR⟩
  case h=>exact⟨rfl,rfl,items.toList,items2.toList,ns,ms,rfl,hi,hj,by omega,h⟩
end
section
variable{prog:Program}{w:World}{A:Around}{E:Value->Shared->Prop}{s:Shared}
theorem lt_tupInts(hl:IsTup s.heap l items)(hb:IsTup s.heap b items2)(hi:IntsAre items.toList ns)(hj:IntsAre items2.toList ms)
  (hu:A.units<cLine) (h:Q (.bool (lexLt ns ms)) s):wpAny (model prog w) A (compareOp .Lt (.ref l) (.ref b)) Q E s:=by
 obtain⟨⟨cls,dd,data,sl⟩,ho,hc,n,hd⟩:=id hl;obtain⟨⟨cls2,dd2,data2,sl2⟩,ho2,hc2,n2,hd2⟩:=id hb;subst hc hd hc2 hd2;exact richCompare_meets_room (op:=.Lt) ⟨_,ho,rfl⟩ ⟨_,ho2,rfl⟩ PySem.F.slot_tuple_lt PySem.F.entry_tuple_lt (PySem.F.args_tuple_lt_2 _ _) (zep l b items items2 n n2 dd dd2 sl sl2 ns ms hi hj)
  ⟨ho,ho2,show Value.bool (lexLt ns ms)≠Value.notImplemented/\Q (.bool (lexLt ns ms)) s from⟨(fun x=>nomatch x),h⟩⟩ hu
theorem cat_tup(ht:IsTup s.heap t vs.toArray)(hb:IsTup s.heap b ws.toArray)(hv:vs≠[])
  (h1:ws=[]->Q (.ref t) s) (h2:ws≠[]->Q (.ref s.heap.objs.size) {s with heap:=s.heap.push {cls:=.type "tuple",data:=.seq (vs++ws).toArray}})
  (hsz:vs.length+ws.length<=sizeLine):wpAny (model prog w) A (binaryOp .Add (.ref t) (.ref b)) Q E s:=by
 obtain⟨⟨cls,dd,data,sl⟩,ho,hc,n,hd⟩:=id ht;obtain⟨⟨cls2,dd2,data2,sl2⟩,ho2,hc2,n2,hd2⟩:=id hb;subst hc hd hc2 hd2;have e:vs.toArray++ws.toArray=(vs++ws).toArray:=by simp
 by_cases hw:ws=[]
 exact concat_meets ⟨_,ho,rfl⟩ ⟨_,ho2,rfl⟩ noFill_tuple_add seq_tuple_add PySem.F.slot_tuple_add PySem.F.entry_tuple_add (PySem.F.args_tuple_add_2 _ _)
  (tuple_addW1 t b vs.toArray ws.toArray n n2 dd dd2 sl sl2 (by simpa using hv) (by simp[hw])) ⟨ho,ho2,h1 hw⟩
 refine concat_meets ⟨_,ho,rfl⟩ ⟨_,ho2,rfl⟩ noFill_tuple_add seq_tuple_add PySem.F.slot_tuple_add PySem.F.entry_tuple_add (PySem.F.args_tuple_add_2 _ _)
  (tuple_addW2 t b vs.toArray ws.toArray n n2 dd dd2 sl sl2 (by simpa using hv) (by simpa using hw) (by rw[size_toArray,size_toArray];exact hsz)) ⟨ho,ho2,?_⟩
 rw[e];exact h2 hw
noncomputable def sIx(n d:Nat):Option Int->Nat
 |none=>d|some v=>if v<0 then(v+(n:Int)).toNat else min v.toNat n
theorem zsG(n d:Nat)(hd:d<=n)(o:Option Int):sIx n d o<=n:=by cases o with|none=>exact hd| some v=>show(if v<0 then(v+(n:Int)).toNat else min v.toNat n)<=n;by_cases hv:v<0;rw[if_pos hv];omega;rw[if_neg hv];exact Nat.min_le_right _ _
theorem zkC(v:Int)(n d:Nat):(if v<0 then max (v+(n:Int)) 0 else min v (n:Int))=((sIx n d (some v):Nat):Int):=by show(if v<0 then max (v+(n:Int)) 0 else min v (n:Int))=(((if v<0 then(v+(n:Int)).toNat else min v.toNat n):Nat):Int);by_cases hv:v<0;simp only[if_pos hv];omega;simp[if_neg hv];omega
theorem ziu(lo hi:Option Int)(n:Nat):Builtin.Slice.sliceAdjust lo hi 1 (n:Int)=(((sIx n 0 lo:Nat):Int),((sIx n n hi:Nat):Int)):=by
 refine Prod.ext ?_ ?_;cases lo with|none=>rfl|some v=>exact zkC v n 0
 cases hi with|none=>rfl|some v=>exact zkC v n n
theorem zh1(i j:Nat):Builtin.Slice.slicePlaces (i:Int) (j:Int) 1=j-i:=by unfold Builtin.Slice.slicePlaces;split<;>omega
theorem zd4(p:IsPart v o)(h:Q o s):wpAny (model prog w) A (Builtin.Slice.slicePartIndex v) Q E s:=by cases p with|none=>exact slicePart_none h|int i t=>exact slicePart_int h
theorem sliceApplied_gen{lo hi:Option Int}{n:Nat}(hs:s.heap.IsSliceOf sl vl vu .none)(pl:IsPart vl lo)(pu:IsPart vu hi)
  (h:Q (((sIx n 0 lo:Nat):Int),1,sIx n n hi-sIx n 0 lo) s):wpAny (model prog w) A (Builtin.Slice.sliceApplied (.ref sl) (pure (n:Int))) Q E s:=by
 obtain⟨os,hos,hcs,hds⟩:=id hs;refine wpAny_bind (wpAny_bind (wpAny_field hos hds rfl (wpAny_bind (wpAny_field hos hds rfl (wpAny_bind (wpAny_field hos hds rfl (wpAny_pure ?_)))))));refine wpAny_bind (slicePart_none ?_);refine wpAny_bind (zd4 pl (wpAny_bind (zd4 pu (wpAny_bind (wpAny_pure ?_)))));show wpAny _ _ (match Builtin.Slice.sliceAdjust lo hi 1 (n:Int) with|(lo,hi)=>pure (lo,(1:Int),Builtin.Slice.slicePlaces lo hi 1)) _ _ s;rw[ziu lo hi n];show wpAny _ _ (pure (((sIx n 0 lo:Nat):Int),(1:Int),Builtin.Slice.slicePlaces ((sIx n 0 lo:Nat):Int) ((sIx n n hi:Nat):Int) 1)) _ _ s;rw[zh1];exact wpAny_pure h
theorem zly(xs:Array Value)(i k:Nat):((List.range k).filterMap fun(m:Nat)=>xs[((i:Int)+(m:Int)*1).toNat]?).toArray=((xs.toList.drop i).take k).toArray:=by
 have e:(fun(m:Nat)=>xs[((i:Int)+(m:Int)*1).toNat]?)=fun m=>xs[i+m]?:=by
  funext m;have:((i:Int)+(m:Int)*1).toNat=i+m:=by omega
  rw[this]
 rw[e];have:=pick_run xs i k;rw[List.filterMap_map]at this;have e2:((fun x=>xs[x]?)∘fun x=>i+x)=fun m=>xs[i+m]?:=rfl;rw[e2]at this;rw[this]
theorem getItem_tuple_cut{lo hi:Option Int}(ht:IsTup s.heap t items)(hs:s.heap.IsSliceOf sl vl vu .none)(pl:IsPart vl lo)(pu:IsPart vu hi)
  (hw:¬(sIx items.size 0 lo=0/\sIx items.size items.size hi=items.size))
  (h:Q (.ref s.heap.objs.size) {s with heap:=s.heap.push {cls:=.type "tuple",data:=.seq ((items.toList.drop (sIx items.size 0 lo)).take (sIx items.size items.size hi-sIx items.size 0 lo)).toArray}})
  (hsz:items.size<=sizeLine):wpAny (model prog w) A (getItem (.ref t) (.ref sl)) Q E s:=by
 have htake:sizeOk (.seq ((items.toList.drop (sIx items.size 0 lo)).take (sIx items.size items.size hi-sIx items.size 0 lo)).toArray):=by show((items.toList.drop (sIx items.size 0 lo)).take (sIx items.size items.size hi-sIx items.size 0 lo)).toArray.size<=sizeLine;rw[size_toArray,length_take,List.length_drop,length_toList];omega
 obtain⟨os,hos,hcs,hds⟩:=id hs;have hTs:s.TypeIs (.ref sl) "slice":=⟨os,hos,hcs⟩;unfold getItem
 try with_reducible apply wpAny_holding
 refine wpAny_bind (wpAny_sequenceKey ht.typeIs (by decide) ?_);refine wpAny_bind (wpAny_callSpecial?_slot ht.typeIs PyProof.Rows.slot_tuple_getitem
  (wpAny_call_entry PyProof.Rows.slot_tuple_getitem ht.typeIs entry_tuple_getitem ?_ (args_tuple_getitem _ _)))
 show wpAny _ _ (Builtin.Tuple.tupleItemsOf (.ref t)>>=_) _ _ s;refine wpAny_bind (tupleItemsOf_ ht ?_);refine wpAny_bind (wpAny_typeOf hTs ?_);refine wpAny_bind (sliceApplied_gen hs pl pu ?_);have hno:¬((((sIx items.size 0 lo:Nat):Int)==0&&(1:Int)==1&&(sIx items.size items.size hi-sIx items.size 0 lo)==items.size)=true):=by intro q;rw[and_eq_true,and_eq_true]at q;have q1:((sIx items.size 0 lo:Nat):Int)=0:=eq_of_beq q.1.1;have q2:sIx items.size items.size hi-sIx items.size 0 lo=items.size:=eq_of_beq q.2;exact hw ⟨by omega,by omega⟩
 show wpAny _ _ (if(((sIx items.size 0 lo:Nat):Int)==0&&(1:Int)==1&&(sIx items.size items.size hi-sIx items.size 0 lo)==items.size)=true then _ else _) _ _ s;rw[if_neg hno,zly]
 first
  |exact wpAny_bind (wpAny_newObj_type (wpAny_pure ⟨_,rfl,wpAny_pure h⟩) htake)
  |exact wpAny_bind (wpAny_newObj_type (wpAny_bind (wpAny_pure (wpAny_pure ⟨_,rfl,wpAny_pure h⟩))) htake)
  |exact wpAny_bind (wpAny_bind (wpAny_newObj_type (wpAny_pure (wpAny_pure ⟨_,rfl,wpAny_pure h⟩)) htake))
  |exact wpAny_bind (wpAny_bind (wpAny_newObj_type (wpAny_pure ⟨_,rfl,wpAny_pure h⟩) htake))
end
end HT
namespace L2
open PySem PySem.Spec PyProof.Rows
abbrev TO:=St->Hp->(Option Int->Hp->Prop)->Prop
def PO(X:Cx)(e:Option Expr)(t:TO):Prop:=
 ∀(pins:List (Addr×Obj))(s:Shared)(σ:St)(H:Hp)(Q:Option Int->Hp->Prop),Inv X pins σ H s->t σ H Q->
  wpAny (model X.prog X.w) X.A (evalPart e X.env) (fun u s'=>∃o H',Inv X pins σ H' s'/\IsPart u o/\Q o H') X.xe s
def zm8:TO:=fun _ H Q=>Q none H
def zpq(t:TE):TO:=fun σ H Q=>t σ H fun x H1=>∃i,x=.int i/\Q (some i) H1
theorem zcL:∀{us:List Value},Vals (ns.map V.int) us->IntsAre us ns:=by induction ns with|nil=>intro us r;rw[map_nil]at r;cases r;exact .nil| cons n ns ih=>intro us r;cases r with| cons r1 r2=>obtain⟨t,e⟩:=r1;subst e;exact .cons n t (ih r2)
section
variable{X:Cx}{e:Expr}{te:TE}{lo hi:Option Expr}{tl th:TO}{pos p2:Pos}
theorem zgl:PO X none zm8:=by intro pins s σ H Q I h;exact wpAny_pure ⟨none,H,I,.none,h⟩
theorem zeB(h:PE X e te):PO X (some e) (zpq te):=by intro pins s σ H Q I hw;refine thn (h pins s σ H _ I hw) fun u s1=>ex5 fun x H1 I1 r1 q1=>?_;obtain⟨i,rfl,q⟩:=q1;obtain⟨t,rfl⟩:=r1;exact⟨some i,H1,I1,.int i t,q⟩
def SlR(X:Cx)(r:V->Option Int->Option Int->Hp->VK->Prop):Prop:=
 ∀(pins:List (Addr×Obj))(s:Shared)(σ:St)(H:Hp)(x:V)(v vl vu:Value)(lo hi:Option Int)(sl:Addr)(Q:VK),Inv X pins σ H s->RelV x v->s.heap.IsSliceOf sl vl vu .none->IsPart vl lo->IsPart vu hi->r x lo hi H Q->
  ∃T id,typeLookup (.type T) "__getitem__"=pure (some (.builtin id))/\s.TypeIs v T/\wpAny (model X.prog X.w) X.A (getItem v (.ref sl)) (EP X pins σ Q) X.xe s
theorem SlR.or(h:SlR X r)(h':SlR X r'):SlR X (fun x lo hi H Q=>r x lo hi H Q\/r' x lo hi H Q):=by intro pins s σ H x v vl vu lo hi sl Q I rx hs pl pu q;rcases q with q|q;exact h pins s σ H x v vl vu lo hi sl Q I rx hs pl pu q;exact h' pins s σ H x v vl vu lo hi sl Q I rx hs pl pu q
def tSl(r:V->Option Int->Option Int->Hp->VK->Prop)(te:TE)(tl th:TO):TE:=fun σ H Q=>te σ H fun x H1=>tl σ H1 fun l H2=>th σ H2 fun u H3=>r x l u H3 Q
theorem zg3(hr:SlR X r)(he:PE X e te)(hl:PO X lo tl)(hu:PO X hi th):PE X (.Subscript e (.Slice lo hi none p2) pos) (tSl r te tl th):=by intro pins s σ H Q I h;refine Subscript_ (thn (he pins s σ H _ I h) fun v s1=>ex5 fun x H1 I1 r1 q1=>?_);refine wpAny_Slice (thn (hl pins s1 σ H1 _ I1 q1) fun vl s2=>ex5 fun l H2 I2 pl q2=>thn (hu pins s2 σ H2 _ I2 q2) fun vu s3=>ex5 fun u H3 I3 pu q3=>?_);apply wpAny_pure;have I4:Inv X pins σ H3 {s3 with heap:=s3.heap.push {cls:=.type "slice",data:=.fields #[vl,vu,.none]}}:=I3.kept (t':=s3.toks) fun b ob q=>Heap.get?_push_of_some _ q;obtain⟨T,id,hT,ht,hg⟩:=hr pins {s3 with heap:=s3.heap.push {cls:=.type "slice",data:=.fields #[vl,vu,.none]}} σ H3 x v vl vu l u s3.heap.objs.size Q I4 r1 (Heap.IsSliceOf.new ..) pl pu q3;exact tail_any ht hT hg (by with_unfolding_all rfl)
noncomputable def cutV(xs:List V)(lo hi:Option Int):List V:=(xs.drop (HT.sIx xs.length 0 lo)).take (HT.sIx xs.length xs.length hi-HT.sIx xs.length 0 lo)
theorem zdC(xs:List V)(lo hi:Option Int):(cutV xs lo hi).length<=xs.length:=by unfold cutV;rw[length_take,List.length_drop];omega
def rSlT(K:Frag):V->Option Int->Option Int->Hp->VK->Prop:=fun x lo hi H Q=>∃a xs,x=.ref a/\SqT K H a xs/\
 ¬(HT.sIx xs.length 0 lo=0/\HT.sIx xs.length xs.length hi=xs.length)/\∀p,H p=none->Q (.ref p) (upd H p (.tup (cutV xs lo hi)))
theorem zmr:SlR X (rSlT X.K):=by
 intro pins s σ H x v vl vu lo hi sl Q I rx hs pl pu h;obtain⟨a,xs,rfl,hx,hw,q⟩:=h;cases rx;obtain⟨its,r,ht,hz⟩:=I.tuple hx;have hlen:its.toArray.size=xs.length:=by rw[size_toArray];exact r.length.symm
 refine⟨"tuple",_,PyProof.Rows.slot_tuple_getitem.lookup,ht.typeIs,?_⟩;refine HT.getItem_tuple_cut ht hs pl pu (by rw[hlen];exact hw) ?_ (by rw[hlen];exact hz);rw[hlen];refine⟨.ref s.heap.objs.size,_,I.laid (t':=s.toks) (fun b ob q=>Heap.get?_push_of_some _ q) (le_refl _) ?_,rfl,q _ (I.hok.fresh (le_refl _))⟩;exact⟨le_trans (zdC xs lo hi) hz,_,(r.drop (HT.sIx xs.length 0 lo)).take (HT.sIx xs.length xs.length hi-HT.sIx xs.length 0 lo),IsTup.new _ _⟩
def zr7(K:Frag):R2:=fun x y H Q=>∃a b xs ys,x=.ref a/\y=.ref b/\SqT K H a xs/\SqT K H b ys/\xs≠[]/\xs.length+ys.length<=sizeLine/\
 (ys=[]->Q (.ref a) H)/\(ys≠[]->∀p,H p=none->Q (.ref p) (upd H p (.tup (xs++ys))))
theorem Vals.nil_iff(r:Vals xs us):us=[]↔xs=[]:=by cases r with|nil=>simp|cons _ _=>simp
theorem zoe:OpR X (binaryOp .Add) (zr7 X.K):=by intro pins s σ H x y v u Q I rx ry h;obtain⟨a,b,xs,ys,rfl,rfl,ha,hb,hx,hz,q1,q2⟩:=h;cases rx;cases ry;obtain⟨its,r1,p1,_⟩:=I.tuple ha;obtain⟨its2,r2,p2,_⟩:=I.tuple hb;refine HT.cat_tup p1 p2 (fun z=>hx (r1.nil_iff.mp z)) (fun z=>⟨.ref a,H,I,rfl,q1 (r2.nil_iff.mp z)⟩) (fun z=>?_) (by rw[<-r1.length,<-r2.length];exact hz);refine⟨.ref s.heap.objs.size,_,I.laid (t':=s.toks) (fun b ob q=>Heap.get?_push_of_some _ q) (le_refl _) ?_,rfl,q2 (fun w=>z (r2.nil_iff.mpr w)) _ (I.hok.fresh (le_refl _))⟩;exact⟨by rw[length_append];exact hz,_,r1.append r2,IsTup.new _ _⟩
end
noncomputable def ixN(n:Nat)(i:Int):Option Nat:=if 0<=i then(if i<n then some i.toNat else none) else if -(n:Int)<=i then some (i+n).toNat else none
noncomputable def atI{α:Type}(xs:List α)(i:Int):Option α:=(ixN xs.length i).bind fun j=>xs[j]?
theorem zjR(h:ixN n i=some j):seqIndex? i n=some j/\j<n/\-(n:Int)<=i/\i<n:=by unfold ixN at h;by_cases h0:0<=i;rw[if_pos h0]at h;by_cases h1:i<n;rw[if_pos h1]at h;have e:i.toNat=j:=Option.some.inj h;exact⟨by rw[seqIndex_of h0 h1,e],by omega,by omega,h1⟩;rw[if_neg h1]at h;cases h;rw[if_neg h0]at h;by_cases h1:-(n:Int)<=i;rw[if_pos h1]at h;have e:(i+n).toNat=j:=Option.some.inj h;exact⟨by rw[seqIndex_neg (by omega) h1,e],by omega,h1,by omega⟩;rw[if_neg h1]at h;cases h
theorem zgI(h:atI xs i=some v):∃j,seqIndex? i xs.length=some j/\xs[j]?=some v/\j<xs.length/\-(xs.length:Int)<=i/\i<xs.length:=by
 unfold atI at h;cases e:ixN xs.length i with
 |none=>rw[e]at h;cases h
 |some j=>rw[e]at h;obtain⟨h1,h2,h3,h4⟩:=zjR e;exact⟨j,h1,h,h2,h3,h4⟩
def zkV(b:Expr):Prop:=∀o i,subscripted b false o i=operate [o,i] (getItem o i)
def IxR(X:Cx)(r:R2):Prop:=
 ∀(value slice:Expr)(pins:List (Addr×Obj))(s:Shared)(σ:St)(H:Hp)(x y:V)(v u:Value)(Q:VK),Inv X pins σ H s->RelV x v->RelV y u->r x y H Q->
  subscripted slice false v u=operate [v,u] (getItem v u)->wpAny (model X.prog X.w) X.A (subscriptTail value slice v u) (EP X pins σ Q) X.xe s
def MtR(X:Cx)(id:String)(r:V->List V->Hp->VK->Prop):Prop:=
 ∀(pins:List (Addr×Obj))(s:Shared)(σ:St)(H:Hp)(x:V)(xs:List V)(v:Value)(us:List Value)(Q:VK),Inv X pins σ H s->RelV x v->Vals xs us->r x xs H Q->
  wpAny (model X.prog X.w) X.A (call (.builtin id) (v::us)) (EP X pins σ Q) X.xe s
section
variable{X:Cx}{a b:Expr}{ta tb:TE}{pos:Pos}
theorem IxR.or(h:IxR X r)(h':IxR X r'):IxR X (fun x y H Q=>r x y H Q\/r' x y H Q):=by intro value slice pins s σ H x y v u Q I rx ry q hs;rcases q with q|q;exact h value slice pins s σ H x y v u Q I rx ry q hs;exact h' value slice pins s σ H x y v u Q I rx ry q hs
theorem zsd(hr:IxR X r)(ha:PE X a ta)(hb:PE X b tb)(hs:zkV b):PE X (.Subscript a b pos) (tOp r ta tb):=by intro pins s σ H Q I h;exact Subscript_ (binT ha hb I h fun v u s2 x y H2 I2 rx ry q=>hr a b pins s2 σ H2 x y v u Q I2 rx ry q (hs _ _))
def rIxL(K:Frag):R2:=fun x y H Q=>∃p xs i v,x=.ref p/\y=.int i/\SqL K H p xs/\atI xs i=some v/\Q v H
def rIxT(K:Frag):R2:=fun x y H Q=>∃p xs i v,x=.ref p/\y=.int i/\SqT K H p xs/\atI xs i=some v/\Q v H
def rIxS:R2:=fun x y H Q=>∃z i c,x=.str z/\y=.int i/\z.length<=sizeLine/\atI z.cps.toList i=some c/\Q (.str ⟨#[c]⟩) H
theorem ix_list:IxR X (rIxL X.K):=by
 intro value slice pins s σ H x y v u Q I rx ry h hs;obtain⟨p,xs,i,z,rfl,rfl,hq,he,q⟩:=h;cases rx;obtain⟨t,rfl⟩:=ry;obtain⟨its,r,pl,hz⟩:=I.list hq;obtain⟨j,h1,h2,h3,h4,h5⟩:=zgI he;obtain⟨w,ew,rw'⟩:=r.get h2;have hl:=r.length;have hn:=zfu;have fin:EP X pins σ Q w s:=⟨z,H,I,rw',q⟩;by_cases h0:0<=i;have hj:i.toNat=j:=by rw[seqIndex_of h0 h5]at h1;exact Option.some.inj h1
 exact item_listR pl.isList h0 (by omega) (by rw[hj];simpa using ew) fin hs;have hj:(i+(its.toArray.size:Int)).toNat=j:=by rw[seqIndex_neg (by omega) h4]at h1;rw[size_toArray,<-hl];exact Option.some.inj h1
 exact subscriptTail_builtinR pl.isList.typeIs slot_list_getitem.lookup
  (wpAny_getItem_list_neg pl.isList (by omega) (by rw[size_toArray]<;>omega) (by omega) (by rw[hj];simpa using ew) ⟨rfl,fin⟩) hs
theorem ix_tup:IxR X (rIxT X.K):=by
 intro value slice pins s σ H x y v u Q I rx ry h hs;obtain⟨p,xs,i,z,rfl,rfl,hq,he,q⟩:=h;cases rx;obtain⟨t,rfl⟩:=ry;obtain⟨its,r,pl,hz⟩:=I.tuple hq;obtain⟨j,h1,h2,h3,h4,h5⟩:=zgI he;obtain⟨w,ew,rw'⟩:=r.get h2;have hl:=r.length;have hn:=zfu;have fin:EP X pins σ Q w s:=⟨z,H,I,rw',q⟩;exact subscriptTail_builtinR pl.typeIs slot_tuple_getitem.lookup
  (getItem_tuple pl (by omega) (by omega) (by rw[size_toArray,<-hl];exact h1) (by simpa using ew) ⟨rfl,fin⟩) hs
theorem zq0:IxR X rIxS:=by
 intro value slice pins s σ H x y v u Q I rx ry h hs;obtain⟨z,i,c,rfl,rfl,hz,he,q⟩:=h;obtain⟨t,rfl⟩:=rx;obtain⟨t',rfl⟩:=ry;obtain⟨j,h1,h2,h3,h4,h5⟩:=zgI he;have hl:z.cps.toList.length=z.length:=by simp[Str.length]
 rw[hl]at h1 h4 h5;have hn:=zfu;exact tail_any (typeIs_str s z t) slot_str_getitem.lookup (getItem_str (by
  have e1:decide (i < -(2^63:Int))=false:=decide_eq_false (by omega);have e2:decide (i≥2^63)=false:=decide_eq_false (by omega);rw[e1,e2,Bool.or_false]) (by rw[h1];simpa using h2) ⟨.str ⟨#[c]⟩,H,I.tok _,⟨_,rfl⟩,q⟩) hs
def rIx(K:Frag):R2:=fun x y H Q=>rIxL K x y H Q\/rIxT K x y H Q\/rIxS x y H Q
theorem zq1:IxR X (rIx X.K):=ix_list.or (ix_tup.or zq0)
theorem zh5(its:List Value)(n j:Nat)(u:Value):Obj.mapSeq (·.setIfInBounds j u) {cls:=.type "list",data:=.seq its.toArray n}={cls:=.type "list",data:=.seq (its.set j u).toArray n}:=by simp[Obj.mapSeq]
theorem Inv.lst{σ:St}(I:Inv X pins σ H s)(h:H p=some (.lst xs)) :
  ∃(its:List Value) (n:Nat),Vals xs its/\s.heap.get? p=some {cls:=.type "list",data:=.seq its.toArray n}/\xs.length<=sizeLine:=by
 obtain⟨z,its,n,r,e⟩:=I.hok p _ h;exact⟨its,n,r,e,z⟩
theorem Inv.lstUpd{σ:St}{its its':List Value}(I:Inv X pins σ H s)(h:H p=some (.lst xs))
  (ho:s.heap.get? p=some {cls:=.type "list",data:=.seq its.toArray n}) (hf:f {cls:=.type "list",data:=.seq its.toArray n}={cls:=.type "list",data:=.seq its'.toArray n'}) (r:Vals ys its') (hz:ys.length<=sizeLine) (t:Nat) :
  Inv X pins σ (upd H p (.lst ys)) {s with heap:=s.heap.update p f,toks:=t}:=by
 have e:(s.heap.update p f).get? p=some {cls:=.type "list",data:=.seq its'.toArray n'}:=by rw[Heap.get?_update_self f ho (by rw[hf]<;>rfl),hf]
 refine I.write (by rw[h];trivial) (.inl rfl) (fun b u hb q=>(Heap.get?_update_other _ _ (Ne.symm hb)).trans q) ⟨_,e⟩ ?_;exact⟨hz,its',n',r,e⟩
def zr6:V->V->V->Hp->(Hp->Prop)->Prop:=fun o i v H Q=>∃p xs k j,o=.ref p/\i=.int k/\H p=some (.lst xs)/\ixN xs.length k=some j/\Q (upd H p (.lst (xs.set j v)))
theorem zk5:PSet X zr6:=by
 intro pins s σ H o i v ov iv u Q I ro ri rv h;obtain⟨p,xs,k,j,rfl,rfl,hp,hj,q⟩:=h;cases ro;obtain⟨t,rfl⟩:=ri;obtain⟨its,n,r,ho,hz⟩:=I.lst hp;obtain⟨h1,h2,h3,h4⟩:=zjR hj;have hl:=r.length;have hn:=zfu;have I':Inv X pins σ (upd H p (.lst (xs.set j v))) {s with heap:=s.heap.update p (Obj.mapSeq (·.setIfInBounds j u))}:=I.lstUpd hp ho (zh5 its n j u) (r.set rv j) (by rw[List.length_set];exact hz) s.toks;by_cases h0:0<=k;have hk:k.toNat=j:=by rw[seqIndex_of h0 h4]at h1;exact Option.some.inj h1
 exact PySem.W.ki_setAt ho h0 (by omega) (by rw[size_toArray,<-hl];exact h4) (by rw[hk];exact⟨_,I',q⟩);have hk:(k+(its.toArray.size:Int)).toNat=j:=by rw[seqIndex_neg (by omega) h3]at h1;rw[size_toArray,<-hl];exact Option.some.inj h1
 exact PySem.W.ki_setBack ho (by omega) (by rw[size_toArray,<-hl];exact h3) (by omega) (by rw[hk];exact⟨_,I',q⟩)
theorem zfc(lo hi:Option Int)(n:Nat):(sliceBounds lo hi none n).1=((HT.sIx n 0 lo:Nat):Int)/\(sliceBounds lo hi none n).2.1=((HT.sIx n n hi:Nat):Int)/\(sliceBounds lo hi none n).2.2=1:=by
 refine⟨?_,?_,rfl⟩;cases lo with
 |none=>simp[sliceBounds,HT.sIx]| some i=>
  simp[sliceBounds,HT.sIx,Option.getD_none,if_true];by_cases h:i<0
  . simp[h,if_true]<;>omega
  . simp[h,if_false]<;>omega
 cases hi with
 |none=>simp[sliceBounds,HT.sIx]| some i=>
  simp[sliceBounds,HT.sIx,Option.getD_none,if_true];by_cases h:i<0
  . simp[h,if_true]<;>omega
  . simp[h,if_false]<;>omega
theorem zes(its:List Value)(lo hi:Option Int):slicePick its.toArray lo hi none=((its.drop (HT.sIx its.length 0 lo)).take (HT.sIx its.length its.length hi-HT.sIx its.length 0 lo)).toArray:=by obtain⟨h1,h2,h3⟩:=zfc lo hi its.toArray.size;unfold slicePick;rw[h1,h2,h3];simp only[sliceRange_one,pick_run]<;>rfl
def rSlL(K:Frag):V->Option Int->Option Int->Hp->VK->Prop:=fun x lo hi H Q=>∃a xs,x=.ref a/\SqL K H a xs/\∀p,H p=none->Q (.ref p) (upd H p (.lst (cutV xs lo hi)))
theorem zni:SlR X (rSlL X.K):=by intro pins s σ H x v vl vu lo hi sl Q I rx hs pl pu h;obtain⟨a,xs,rfl,hx,q⟩:=h;cases rx;obtain⟨its,r,ht,hz⟩:=I.list hx;have hlen:=r.length;refine⟨"list",_,slot_list_getitem.lookup,ht.isList.typeIs,?_⟩;refine wpAny_getItem_list_slice ht.isList hs pl pu .none (by simp) ?_ (by rw[size_toArray]<;>omega);rw[zes,<-hlen];refine⟨.ref s.heap.objs.size,_,I.laid (t':=s.toks) (fun b ob q=>Heap.get?_push_of_some _ q) (le_refl _) ?_,rfl,q _ (I.hok.fresh (le_refl _))⟩;exact⟨le_trans (zdC xs lo hi) hz,_,0,(r.drop (HT.sIx xs.length 0 lo)).take (HT.sIx xs.length xs.length hi-HT.sIx xs.length 0 lo),Heap.get?_push_size _ rfl⟩
theorem zbU:zbi X (.builtin "len") (fun xs H Q=>∃p ys,xs=[.ref p]/\(SqL X.K H p ys\/SqT X.K H p ys)/\Q (.int ys.length) H):=by intro pins s σ H xs us Q I r h;obtain⟨p,ys,rfl,hq,q⟩:=h;obtain⟨u,rfl,rx⟩:=zk0 r;cases rx;have hn:=zfu;rcases hq with hq|hq;obtain⟨its,r',pl,hz⟩:=I.list hq;have hlen:=r'.length;exact Calls.call_len_list pl.isList (by simp<;>omega) ⟨.int ys.length,H,I.tok _,⟨s.toks+1,by rw[size_toArray,hlen]⟩,q⟩;obtain⟨its,r',pl,hz⟩:=I.tuple hq;have hlen:=r'.length;exact len_tuple pl (by simp<;>omega) ⟨.int ys.length,H,I.tok _,⟨s.toks+1,by rw[size_toArray,hlen]⟩,q⟩
theorem zfS:zbi X (.type "list") (fun xs H Q=>∃p ys,xs=[.ref p]/\(SqL X.K H p ys\/SqT X.K H p ys)/\∀l,H l=none->Q (.ref l) (upd H l (.lst ys))):=by
 intro pins s σ H xs us Q I r h;obtain⟨p,ys,rfl,hq,q⟩:=h;obtain⟨u,rfl,rx⟩:=zk0 r;cases rx;have fin:∀(its:List Value),Vals ys its->ys.length<=sizeLine->∀(h':Heap)(c':Nat),(∀b o',s.heap.get? b=some o'->h'.get? b=some o')->
   h'.get? s.heap.objs.size=some {cls:=.type "list",dict:=none,data:=.seq its.toArray c',slots:=#[]}->EP X pins σ Q (.ref s.heap.objs.size) {s with heap:=h'}:=fun its r' hz h' c' kp e=>
  ⟨.ref s.heap.objs.size,_,I.laid (t':=s.toks) kp (le_refl _) (show ObjOk X.prog X.w _ h' _ (.lst ys) from⟨hz,its,c',r',e⟩),rfl,q _ (I.hok.fresh (le_refl _))⟩
 rcases hq with hq|hq;obtain⟨its,r',pl,hz⟩:=I.list hq;have hlen:=r'.length;obtain⟨o,ho,hc,n,hd⟩:=pl.isList;exact call_list_seq p (.inl rfl) ho hc hd (fun h' c' kp e=>fin its r' hz h' c' kp e) (by simp<;>omega);obtain⟨its,r',pl,hz⟩:=I.tuple hq;have hlen:=r'.length;obtain⟨o,ho,hc,n,hd⟩:=pl;exact call_list_seq p (.inr rfl) ho hc hd (fun h' c' kp e=>fin its r' hz h' c' kp e) (by simp<;>omega)
theorem ze0:zbi X (.type "tuple") (fun xs H Q=>∃p ys,xs=[.ref p]/\((SqL X.K H p ys/\∀l,H l=none->Q (.ref l) (upd H l (.tup ys)))\/(SqT X.K H p ys/\Q (.ref p) H))):=by intro pins s σ H xs us Q I r h;obtain⟨p,ys,rfl,h⟩:=h;obtain⟨u,rfl,rx⟩:=zk0 r;cases rx;rcases h with⟨hq,q⟩|⟨hq,q⟩;obtain⟨its,r',pl,hz⟩:=I.list hq;have hlen:=r'.length;refine call_tuple_list pl.isList (fun h' kp=>?_) (by simp<;>omega);have I1:Inv X pins σ H {s with heap:=h'}:=I.kept (t':=s.toks) kp;have I2:Inv X pins σ (upd H h'.objs.size (.tup ys)) {s with heap:=h'.push {cls:=.type "tuple",data:=.seq its.toArray}}:=I1.laid (t':=s.toks) (fun b o e=>Heap.get?_push_of_some _ e) (le_refl _) (⟨hz,its,r',IsTup.new _ _⟩);exact⟨.ref h'.objs.size,_,I2,rfl,q _ (I1.hok.fresh (le_refl _))⟩;obtain⟨its,r',pl,hz⟩:=I.tuple hq;exact call_tuple_same pl ⟨.ref p,H,I,rfl,q⟩
def tyV(K:Frag)(T:String)(x:V)(H:Hp):Prop:=match x with
 |.str _=>T="str"|.int _=>T="int"
 |.ref p=>(T="list"/\∃xs,SqL K H p xs)\/(T="tuple"/\∃o,K.lookup p=some o/\o.cls=.type "tuple"/\o.dict=none)\/
  (T="dict"/\((∃kvs,H p=some (.dK kvs))\/∃kvs,H p=some (.dT kvs)))\/(T="set"/\∃S n,H p=some (.set S n))
 |_=>False
theorem zmn{σ:St}(I:Inv X pins σ H s)(r:RelV x v)(ty:tyV X.K T x H) :
  s.TypeIs v T/\∀a,v=.ref a->∃ob,s.heap.get? a=some ob/\ob.dict=none:=by
 cases x with
 |str z=>obtain⟨t,rfl⟩:=r;cases ty;exact⟨typeIs_str s z t,fun _ e=>nomatch e⟩| int i=>obtain⟨t,rfl⟩:=r;cases ty;exact⟨typeIs_int s i t,fun _ e=>nomatch e⟩| ref p=>
  cases r;rcases ty with⟨rfl,xs,hq⟩|⟨rfl,o,hk,hc,hd⟩|⟨rfl,hk⟩|⟨rfl,S,n,hk⟩;obtain⟨its,_,pl,_⟩:=I.list hq;refine⟨pl.isList.typeIs,fun a e=>?_⟩;cases e;obtain⟨o,n,e,c,hd,_⟩:=pl;exact⟨o,e,hd⟩;refine⟨⟨o,I.kIn p o hk,hc⟩,fun a e=>?_⟩;cases e;exact⟨o,I.kIn _ o hk,hd⟩;have z:∃o,s.heap.get? p=some o/\o.ExactDict:=by rcases hk with⟨kvs,hk⟩|⟨kvs,hk⟩;obtain⟨_,_,_,_,o,_,_,e,ex,_⟩:=I.hok p _ hk;exact⟨o,e,ex⟩;obtain⟨_,_,_,_,o,_,_,e,ex,_⟩:=I.hok p _ hk;exact⟨o,e,ex⟩
  obtain⟨o,e,ex⟩:=z;refine⟨⟨o,e,ex.1⟩,fun a e2=>?_⟩;cases e2;exact⟨o,e,ex.2.1⟩;obtain⟨o,_,_,_,e,ex,_⟩:=I.hok p _ hk;refine⟨⟨o,e,ex.1⟩,fun a e2=>?_⟩;cases e2;exact⟨o,e,ex.2.1⟩
 |_=>exact False.elim ty
def tBM0(K:Frag)(T:String)(r:V->List V->Hp->VK->Prop)(to:TE):TE:=fun σ H Q=>to σ H fun x H1=>tyV K T x H1/\r x [] H1 Q
def tBM(K:Frag)(T:String)(r:V->List V->Hp->VK->Prop)(to:TE)(t:TA):TE:=fun σ H Q=>to σ H fun x H1=>tyV K T x H1/\t σ H1 fun xs H2=>r x xs H2 Q
variable{o e:Expr}{es:List Expr}{to:TE}{t:TA}{name:Str}{apos cpos:Pos}{T id:String}{r:V->List V->Hp->VK->Prop}
theorem zqt(pa:PlainAttrs T)(slot:Slot T name id)(hty:typeOf (.builtin id)=pure (.type "method_descriptor"))(hm:MtR X id r)(ho:PE X o to)
  (hbase:attributeBase o name X.env (eval o X.env)=eval o X.env:=by rfl) (hline:(apos.endLine==cpos.line)=true:=by rfl):PE X (.Call (.Attribute o name apos) [] [] cpos) (tBM0 X.K T r to):=by
 intro pins s σ H Q I h;refine wpAny_Call_method0_late hbase hline (thn (ho pins s σ H _ I h) fun v s1=>ex5 fun x H1 I1 r1 ⟨ty,q1⟩=>?_);obtain⟨h1,h2⟩:=zmn I1 r1 ty;exact⟨T,id,pa,slot,hty,h1,h2,Calls.callWith_builtin rfl (PySem.evalArgs_none (hm pins s1 σ H1 x [] v [] Q I1 r1 .nil q1))⟩
theorem zqu(pa:PlainAttrs T)(slot:Slot T name id)(hty:typeOf (.builtin id)=pure (.type "method_descriptor"))(hm:MtR X id r)(ho:PE X o to)(ha:PA X (e::es) t)
  (hbase:attributeBase o name X.env (eval o X.env)=eval o X.env:=by rfl)
  (hfew:((backTo cpos (starEach (e::es) X.env)).all (fun x=>!x.1)&&(backToKw cpos (keywordEach [] X.env)).all (fun x=>x.1.isSome)
   && decide ((e::es).length+([]:List Keyword).length+(if([]:List Keyword).isEmpty then 0 else 1)<30))=true:=by rfl)
  (hline:(apos.endLine==cpos.line)=true:=by rfl) (hs:starEach (e::es) X.env=(false,eval e X.env)::starEach es X.env:=by rfl) (hplain:(backTo cpos (starEach es X.env)).any (·.1)=false:=by rfl) :
  PE X (.Call (.Attribute o name apos) (e::es) [] cpos) (tBM X.K T r to t):=by
 intro pins s σ H Q I h;refine wpAny_Call_method_late hbase hfew hline rfl (thn (ho pins s σ H _ I h) fun v s1=>ex5 fun x H1 I1 r1 ⟨ty,q1⟩=>?_);obtain⟨h1,h2⟩:=zmn I1 r1 ty;refine⟨T,id,pa,slot,hty,h1,h2,?_⟩;have hA:=ha cpos pins s1 σ H1 _ I1 q1;rw[hs]at hA⊢;refine Calls.callWith_builtin (by show(false||(backTo cpos (starEach es X.env)).any (·.1))=false;rw[hplain]<;>rfl) (Calls.evalArgs_plain ?_);exact thn hA fun us s2=>ex5 fun vs H2 I2 r2 q2=>hm pins s2 σ H2 x vs v us Q I2 r1 r2 q2
end
def MtM(X:Cx)(id:String)(r:V->List V->Hp->VK->Prop):Prop:=
 ∀(pins:List (Addr×Obj))(s:Shared)(σ:St)(H:Hp)(x:V)(xs:List V)(v:Value)(us:List Value)(Q:VK),Inv X pins σ H s->RelV x v->Vals xs us->r x xs H Q->
  wpAny (model X.prog X.w) X.A (call (.builtin id) (v::us)) (EP X pins σ Q) X.xe s
theorem Vals.one:∀{x:V}{us:List Value},Vals [x] us->∃u,us=[u]/\RelV x u
 |_,_,.cons r .nil=>⟨_,rfl,r⟩
theorem Vals.zero:∀{us:List Value},Vals [] us->us=[]
 |_,.nil=>rfl
theorem Vals.rep(h:Vals xs us):∀k:Nat,Vals (List.replicate k xs).flatten (List.replicate k us).flatten
 |0=>.nil| k+1=>by exact Vals.append h (Vals.rep h k)
theorem zfJ(its:List Value):∀(k:Nat)(acc:List Value),
  List.foldl (fun x1 x2=>x1++x2) acc.toArray (List.replicate k its.toArray)=(acc++(List.replicate k its).flatten).toArray
 |0,acc=>by simp| k+1,acc=>by
  have e:acc.toArray++its.toArray=(acc++its).toArray:=by simp
  have e2:(acc++its)++(List.replicate k its).flatten=acc++(List.replicate (k+1) its).flatten:=by rw[replicate_succ,flatten_cons,append_assoc]
  rw[<-e2,<-zfJ its k (acc++its),<-e,replicate_succ,List.foldl_cons]
section
variable{X:Cx}{pins:List (Addr×Obj)}{σ:St}{H:Hp}{s:Shared}{l b:Addr}{xs ys zs:List V}
theorem Inv.lset{its its':List Value}(I:Inv X pins σ H s)(hH:H l=some (.lst xs))
  (e:s.heap.get? l=some {cls:=.type "list",data:=.seq its.toArray n}) (hf:f its.toArray=its'.toArray) (hv:Vals ys its') (hz:ys.length<=sizeLine) :
  Inv X pins σ (upd H l (.lst ys)) {s with heap:=s.heap.update l (Obj.mapSeq f),toks:=t'}:=by
 have q:=PySem.IsL.update e f;rw[hf]at q;refine I.write (by rw[hH];exact trivial) (.inl rfl) (fun b' u hb hu=>(Heap.get?_update_other s.heap (Obj.mapSeq f) (Ne.symm hb)).trans hu) ⟨_,q⟩ ?_;exact⟨hz,its',_,hv,q⟩
theorem Inv.lnew(I:Inv X pins σ H s)(hv:Vals ys its)(hz:ys.length<=sizeLine) :
  Inv X pins σ (upd H s.heap.objs.size (.lst ys)) {s with heap:=s.heap.push {cls:=.type "list",data:=.seq its.toArray},toks:=t'}:=
 I.laid (fun _ _ q=>Heap.get?_push_of_some _ q) (le_refl _) ⟨hz,its,0,hv,Heap.get?_push_size _ rfl⟩
theorem Inv.fresh(I:Inv X pins σ H s):H s.heap.objs.size=none:=I.hok.fresh (le_refl _)
theorem Inv.lstM(I:Inv X pins σ H s)(hH:H l=some (.lst xs)):xs.length<=sizeLine/\∃(its:List Value) (n:Nat),Vals xs its/\xs.length=its.length/\s.heap.get? l=some {cls:=.type "list",data:=.seq its.toArray n}:=by obtain⟨z,its,n,r,e⟩:=I.hok l _ hH;exact⟨z,its,n,r,r.length,e⟩
theorem zg6(h:n<=sizeLine):Builtin.List.listTooLong n=false:=decide_eq_false (by omega)
end
section
variable{X:Cx}
def znR:V->List V->Hp->VK->Prop:=fun x vs H Q=>∃l xs y,x=.ref l/\vs=[y]/\H l=some (.lst xs)/\xs.length<sizeLine/\Q .non (upd H l (.lst (xs++[y])))
theorem zft:MtM X "list.append" znR:=by intro pins s σ H x vs v us Q I rx rv h;obtain⟨l,xs,y,rfl,rfl,hH,hz,q⟩:=h;cases rx;obtain⟨u,rfl,ru⟩:=rv.one;obtain⟨z,its,n,r,hl,e⟩:=I.lstM hH;refine call_meets F.slot_list_append ⟨_,e,rfl⟩ F.entry_list_append (F.args_list_append_2 _ _) (PySem.list_append l its.toArray n u (by rw[size_toArray];omega)) ⟨e,?_⟩;refine⟨.non,_,I.lset (its':=its++[u]) hH e (by simp) (r.append (.cons ru .nil)) ?_,rfl,q⟩;rw[length_append,List.length_singleton];omega
def znQ:V->List V->Hp->VK->Prop:=fun x vs H Q=>∃l b xs zs,x=.ref l/\vs=[.ref b]/\H l=some (.lst xs)/\H b=some (.lst zs)/\xs.length+zs.length<=sizeLine/\Q .non (upd H l (.lst (xs++zs)))
theorem zju:MtM X "list.extend" znQ:=by
 intro pins s σ H x vs v us Q I rx rv h;obtain⟨l,b,xs,zs,rfl,rfl,hH,hB,hz,q⟩:=h;cases rx;obtain⟨u,rfl,ru⟩:=rv.one;cases ru;obtain⟨z,its,n,r,hl,e⟩:=I.lstM hH;obtain⟨z2,its2,n2,r2,hl2,e2⟩:=I.lstM hB;have hsz:its.toArray.size+its2.toArray.size<=sizeLine:=by rw[size_toArray,size_toArray];omega
 have hlong:¬(!its.toArray.isEmpty&&Builtin.List.listTooLong (its.toArray.size+its2.toArray.size))=true:=by rw[zg6 hsz,Bool.and_false];exact Bool.false_ne_true
 refine call_meets F.slot_list_extend ⟨_,e,rfl⟩ F.entry_list_extend (F.args_list_extend_2 _ _)
  (AutoSeq1.list_extend_list_list_0 l its.toArray n b its2.toArray n2 hlong (by rw[size_toArray];omega) (by omega)) ⟨e,e2,?_⟩
 refine⟨.non,_,I.lset (its':=its++its2) hH e (by simp) (r.append r2) ?_,rfl,q⟩;rw[length_append];omega
def zp6:V->List V->Hp->VK->Prop:=fun x vs H Q=>∃l xs,x=.ref l/\vs=[]/\H l=some (.lst xs)/\Q .non (upd H l (.lst []))
theorem zlP:MtM X "list.clear" zp6:=by intro pins s σ H x vs v us Q I rx rv h;obtain⟨l,xs,rfl,rfl,hH,q⟩:=h;cases rx;have hus:=rv.zero;subst hus;obtain⟨z,its,n,r,hl,e⟩:=I.lstM hH;refine call_meets F.slot_list_clear ⟨_,e,rfl⟩ F.entry_list_clear (F.args_list_clear_1 _) (AutoSeq1.list_clear_list_0 l its.toArray n (by rw[size_toArray];omega)) ⟨e,?_⟩;exact⟨.non,_,I.lset (its':=[]) hH e rfl .nil (zero_le _),rfl,q⟩
def rCat:R2:=fun x y H Q=>∃l b xs zs,x=.ref l/\y=.ref b/\H l=some (.lst xs)/\H b=some (.lst zs)/\xs.length+zs.length<=sizeLine/\∀p,H p=none->Q (.ref p) (upd H p (.lst (xs++zs)))
theorem zqE:OpR X (binaryOp .Add) rCat:=by
 intro pins s σ H x y v u Q I rx ry h;obtain⟨l,b,xs,zs,rfl,rfl,hH,hB,hz,q⟩:=h;cases rx;cases ry;obtain⟨z,its,n,r,hl,e⟩:=I.lstM hH;obtain⟨z2,its2,n2,r2,hl2,e2⟩:=I.lstM hB;refine PySem.P.add_list e e2 ?_ (by rw[size_toArray,size_toArray];omega);have ea:its.toArray++its2.toArray=(its++its2).toArray:=by simp
 rw[ea];exact⟨.ref _,_,I.lnew (t':=s.toks) (r.append r2) (by rw[length_append];omega),rfl,q _ I.fresh⟩
def rRep:R2:=fun x y H Q=>∃l k xs,x=.ref l/\y=.int k/\H l=some (.lst xs)/\-(2^63)<=k/\k<2^63/\xs.length*k.toNat<=sizeLine/\
 ∀p,H p=none->Q (.ref p) (upd H p (.lst (List.replicate k.toNat xs).flatten))
theorem zjJ{α:Type}(xs:List α)(k:Nat):(List.replicate k xs).flatten.length=k*xs.length:=by simp
theorem zqy:OpR X (binaryOp .Mult) rRep:=by
 intro pins s σ H x y v u Q I rx ry h;obtain⟨l,k,xs,rfl,rfl,hH,h1,h2,hz,q⟩:=h;cases rx;obtain⟨t,rfl⟩:=ry;obtain⟨z,its,n,r,hl,e⟩:=I.lstM hH;have hlen:its.toArray.size*k.toNat<=sizeLine:=by rw[size_toArray,<-hl];exact hz
 have hcap:¬its.toArray.size*k.toNat>(2^63-1)/8:=by
  have:(sizeLine:Nat)<=(2^63-1)/8:=by decide
  omega
 have hfit:¬(!Builtin.List.listFitsIndex k)=true:=by rw[fitsIndex_both h1 h2];exact Bool.false_ne_true
 have hlong:¬Builtin.List.listTooLong (its.toArray.size*k.toNat)=true:=by rw[zg6 hlen];exact Bool.false_ne_true
 have hnew:List.foldl (fun x1 x2=>x1++x2) #[] (List.replicate (if its.toArray.isEmpty=true then 0 else k.toNat) its.toArray)=(List.replicate k.toNat its).flatten.toArray:=by
  have f0:∀m:Nat,List.foldl (fun x1 x2=>x1++x2) #[] (List.replicate m its.toArray)=(List.replicate m its).flatten.toArray:=fun m=>by have:=zfJ its m [];exact this
  rw[f0];cases its with|nil=>simp|cons a r'=>rw[if_neg (by simp)]
 refine wpAny_binaryOp_repeat_ref (by decide) ⟨_,e,rfl⟩ (fun s'=>typeIs_int s' k t) noFill_list_mul F.fills_int_mul F.slot_int_rmul repeat_list F.slot_int_index.lookup
  (call_meets F.slot_int_rmul (typeIs_int s k t) F.entry_int_rmul (F.args_int_rmul_2 _ _) (int___rmul___int_list k t l its.toArray n)
   ⟨e,rfl,⟨_,e,rfl⟩,call_meets F.slot_list_mul ⟨_,e,rfl⟩ F.entry_list_mul (F.args_list_mul_2 _ _) (AutoListH.list___mul___list_int_3 l its.toArray n k t hfit hcap hlong) ⟨e,?_⟩⟩)
 rw[hnew];exact⟨.ref _,_,I.lnew (t':=s.toks) (r.rep k.toNat) (by rw[zjJ,Nat.mul_comm];exact hz),rfl,q _ I.fresh⟩
end
end L2
namespace Att
open PySem PySem.W PySem.Calls PyProof.Rows
theorem zdu:∀(ns:List Int)(vs:List Value),WellAll P h vs (ns.map WData.int)->IntsAre vs ns:=by intro ns;induction ns with| nil=>intro vs w;cases w;exact .nil| cons n ns ih=>intro vs w;cases w with| cons a b=>cases a;exact .cons _ _ (ih _ b)
theorem ziR{l:OpenLaw}(hn:l.most=some n)
  (hpre:l.row.toRowW.claim.pre args=true) (hwl:WellAll P h vals args) :
  ∃a vs ns,vals=[Value.ref a]/\args=[WData.list (ns.map WData.int)]/\h.get? a=some {cls:=.type "list",data:=.seq vs.toArray}/\IntsAre vs ns/\ns.length<=n:=by
 have hsh:WShape.hasAll [] args [.list .int]=true:=(pre_splitW hpre).1;have hc:l.pre.holds [] {args:=args}=true:=(pre_splitW hpre).2;obtain⟨d,r,rfl,h1,h2⟩:=hasAllW_cons hsh;obtain rfl:=hasAllW_nil h2;obtain⟨xs,rfl,h3⟩:=hasW_list h1;obtain⟨ns,rfl⟩:=items_int h3;have hlen:ns.length<=n:=by
  have h4:(WTm.not (.lt (.lit (.int (n:Int))) (.len (.arg 0)))).holds [] {args:=[.list (ns.map .int)]}=true:=by have h4:=(holds_andW hc).1;rw[hn]at h4;exact h4
  have h5:=condW_of h4 (w_not (w_lt w_lit (w_len_list (w_arg rfl))))
  first
   |(rw[decide_eq_true q']at h5;exact absurd h5 (by decide))
   |(simp at h5;omega)
 cases hwl with| cons w1 w2=>cases w2;cases w1 with|list ho hall=>exact⟨_,_,ns,rfl,rfl,ho,zdu ns _ hall,hlen⟩
theorem zjh(l:OpenLaw)(args:List WData):l.row.toRowW.claim.post args (.bool true) args=true:=
 postW_of
  (by first|rfl|decide|simp)
  (w_eq_bool (w_res rfl) w_lit) rfl
theorem attach_call{l:OpenLaw}
  (hn:l.most=some n) (hdf:d.params.defaults=[])
  (call:∀(w:World)(s₀ s₁:Shared)(mg mb:Str->Option Value)(fa:Addr)(o:Obj)(pm cd doc:Value)(a:Addr)(vs:List Value)(ns:List Int),
   Ground q loose [] XP w s₀ mg mb s₁.heap->YP w s₁.heap->
   s₁.heap.get? fa=some o->o.data=.func (docDef d.name d.params d.body d.scope pm cd doc)->s₁.heap.CodeRec cd d.name->mg d.name=some (.ref fa)->
   s₁.heap.get? a=some {cls:=.type "list",data:=.seq vs.toArray}->IntsAre vs ns->ns.length<=n->s₁.gens = #[]->
   codeAny (model l.prog w) callerA (.call (.ref fa) ⟨[.ref a],[]⟩) (fun r s'=>r=.ok (.ret (.bool true))/\OldK s₁.heap s'.heap/\s'.os=s₁.os/\AllBare s'.gens) s₁) :
  WalkO q loose XP YP l.row.toRowW d [] (fun f vs=>PySem.call f vs):=by
 intro w s₀ s₁ mg mb G Y fa o pm cd doc dV kV ho hd hcd hD hmg hg args vals as hpre hlay hrd hwl hlo;obtain rfl:dV=.none:=Dflts.none hD hdf;obtain rfl:kV=.none:=Dflts.noKw hD;obtain⟨a,vs,ns,rfl,rfl,hobj,hints,hlen⟩:=ziR hn hpre hwl;refine enter_call (codeAny_mono (call w s₀ s₁ mg mb fa o pm cd doc a vs ns G Y ho (fd_plain hd) hcd hmg hobj hints hlen hg) fun r s' hq=>?_);obtain⟨rfl,h2,h3,h4⟩:=hq;exact⟨.inl ⟨.bool true,.bool true,[],rfl,fun _=>rfl,.bool true,zjh l _,fun _=>⟨Pairwise.nil,fun _ hm=>(nomatch hm)⟩⟩,h2,h3,h4⟩
end Att
namespace L2
open PySem PySem.Spec PyProof.Rows
theorem zbo:∀{vs:List Value}{ns:List Int},IntsAre vs ns->Vals (ns.map V.int) vs
 |_,_,.nil=>.nil|_,_,.cons n t h=>.cons ⟨t,rfl⟩ (zbo h)
noncomputable def zax(s:Stmt):Arguments:=match s with|.FunctionDef _ a _ _ _ _ _ _ _ _=>a|_=>{posonlyargs:=[],args:=[],vararg:=none,kwonlyargs:=[],kw_defaults:=[],kwarg:=none,defaults:=[]}
noncomputable def zao(s:Stmt):List Stmt:=match s with|.FunctionDef _ _ b _ _ _ _ _ _ _=>b|_=>[]
noncomputable def zad(s:Stmt):Scope:=match s with|.FunctionDef _ _ _ _ _ _ sc _ _ _=>sc|_=>{kind:=.function,names:=[],isGenerator:=false,isCoroutine:=false}
abbrev CX0:CXT:=fun _ _ _ _ _ _=>False
abbrev E0:XK:=fun _ _ _=>False
theorem zgn:zdI CX0 X E0:=fun _ _ _ _ _ _ _ h=>h.elim
structure Fun(K:Frag)(x qual:Str)(st:Stmt)(f:Addr)(fd:FuncData):Prop where
 ex:∃(oc:Value) (od:Option Addr) (kV doc pm:Value) (an:Option Addr) (cdv ct:Value) (osl:Array (Option Value)),
  fd=fnOf x qual (zax st) (zao st) (zad st) .none kV doc pm an cdv ct/\K.lookup f=some ⟨oc,od,.func fd,osl⟩/\codeIn K cdv qual=true
 kp:keepIn K (.ref f)=true
def Same(H H':Hp):Prop:=∀b o,H b=some o->H' b=some o
noncomputable def za9(cells:List (Str×Addr))(y:Str×NameKind)(acc:List (Str×Addr)):List (Str×Addr):=if(y.2==NameKind.free)=true then(match cells.lookup y.1 with|some c=>(y.1,c)::acc|none=>acc) else acc
noncomputable def zgA(cells:List (Str×Addr))(names:List (Str×NameKind))(acc:List (Str×Addr)):List (Str×Addr):=names.foldl (fun a y=>za9 cells y a) acc
theorem zdy{α β:Type}(f:α->β->Sem (ForInStep β))(g:α->β->β):∀(l:List α)(b:β),(∀x∈l,∀b,f x b=pure (.yield (g x b)))->forIn l b f=(pure (l.foldl (fun b x=>g x b) b):Sem β)
 | [],b,_=>rfl| x::l,b,h=>by rw[List.forIn_cons,h x mem_cons_self,pure_bind];exact zdy f g l _ fun y hy=>h y (mem_cons_of_mem _ hy)
theorem zbD(h:∀y∈scope.names,y.2=.free->∃c,env.cells.lookup y.1=some c) :
  closureFor scope env=pure (zgA env.cells scope.names []):=by
 unfold closureFor zgA;dsimp only;rw[zdy _ (fun y a=>za9 env.cells y a)];simp;intro y hy a;obtain⟨n,k⟩:=y;by_cases hk:k=.free;obtain⟨c,hc⟩:=h _ hy hk;subst hk;simp[cellOf,hc,za9];have:(k==NameKind.free)=false:=by simpa using hk
 simp[this,za9]
theorem zfR:∀(names:List (Str×NameKind))(acc:List (Str×Addr)),(∀x c,acc.lookup x=some c->cells.lookup x=some c)->
  ∀x c,(zgA cells names acc).lookup x=some c->cells.lookup x=some c
 | [],acc,h=>h| y::r,acc,h=>by
  apply zfR r (za9 cells y acc);intro x c e;unfold za9 at e;split at e;split at e;rename_i c' hc';rw[lookup_cons]at e;cases hx:x==y.1 with| true=>rw[hx]at e;have q:x=y.1:=beq_iff_eq.mp hx;have e':c'=c:=Option.some.inj e;rw[q,<-e'];exact hc'|false=>rw[hx]at e;exact h x c e
  exact h x c e;exact h x c e
theorem zdD:∀(names:List (Str×NameKind))(acc:List (Str×Addr))(x:Str),(∀y∈names,y.2=.free->∃c,cells.lookup y.1=some c)->
  ((∃c,acc.lookup x=some c)\/(x,NameKind.free)∈names)->∃c,(zgA cells names acc).lookup x=some c
 | [],acc,x,_,h=>by rcases h with h|h;exact h;cases h
 |y::r,acc,x,hf,h=>by
  apply zdD r (za9 cells y acc) x (fun z hz=>hf z (mem_cons_of_mem _ hz));rcases h with⟨c,h⟩|h;left;unfold za9;split;split;rename_i c' hc';rw[lookup_cons];cases hx:x==y.1 with|true=>exact⟨c',rfl⟩|false=>exact⟨c,h⟩
  exact⟨c,h⟩;exact⟨c,h⟩;rcases mem_cons.mp h with h|h;left;subst h;obtain⟨c,hc⟩:=hf _ mem_cons_self rfl;simp[za9,hc];exact .inr h
noncomputable def zb3(env:Env)(y:Str×NameKind):Str×NameKind:=if(y.2==.free&&env.scope.kind==.function&&env.kindOf y.1==some .cell)=true then(y.1,.cell) else y
theorem zcl(scope:Scope)(env:Env):(relabel scope env).names=scope.names.map (zb3 env):=rfl
theorem zdd(env:Env)(y:Str×NameKind):(zb3 env y).1=y.1:=by unfold zb3;split<;>rfl
theorem zdc(env:Env)(y:Str×NameKind):(zb3 env y).2=y.2\/(y.2=.free/\(zb3 env y).2=.cell):=by unfold zb3;split;rename_i h;simp at h;exact .inr ⟨h.1.1,rfl⟩;exact .inl rfl
theorem zbJ(env:Env)(x:Str):∀names:List (Str×NameKind),∀k,(names.map (zb3 env)).lookup x=some k->∃k0,(x,k0)∈names/\names.lookup x=some k0/\(k=k0\/(k0=.free/\k=.cell))
 | [],k,h=>by simp at h| y::r,k,h=>by rw[map_cons]at h;have f1:=zdd env y;have f2:=zdc env y;obtain⟨n,k1⟩:=y;generalize hz:zb3 env (n,k1)=z at *;obtain⟨zn,zk⟩:=z;subst f1;rw[lookup_cons]at h;rw[lookup_cons];cases hx:x==zn with| true=>rw[hx]at h;have q:x=zn:=beq_iff_eq.mp hx;subst q;have e:zk=k:=Option.some.inj h;subst e;exact⟨k1,mem_cons_self,rfl,f2⟩| false=>rw[hx]at h;obtain⟨k0,m,l,q⟩:=zbJ env x r k h;exact⟨k0,mem_cons_of_mem _ m,l,q⟩
theorem zbq(env:Env)(x:Str):∀names:List (Str×NameKind),names.lookup x=some .free->(names.map (zb3 env)).lookup x=some .free\/(names.map (zb3 env)).lookup x=some .cell
 | [],h=>by simp at h| y::r,h=>by
  rw[map_cons];have f1:=zdd env y;have f2:=zdc env y;obtain⟨n,k1⟩:=y;generalize hz:zb3 env (n,k1)=z at *;obtain⟨zn,zk⟩:=z;simp only at f1 f2;subst f1;rw[lookup_cons]at h;rw[lookup_cons];cases hx:x==zn with
  |true=>rw[hx]at h;have e:k1=.free:=Option.some.inj h;subst e;rcases f2 with f2|⟨_,f2⟩;left;show some zk=_;rw[f2];right;show some zk=_;rw[f2]
  |false=>rw[hx]at h;exact zbq env x r h
structure CompOk(sc scope:Scope)(N0:List Str)(js:List Nat):Prop where
 kind:scope.kind=.function
 nocell:∀y∈scope.names,y.2≠.cell
 locs:∀y∈scope.names,y.2=.local->scope.names.lookup y.1=some .local
 frees:∀y∈scope.names,y.2=.free->sc.names.lookup y.1=some .cell\/sc.names.lookup y.1=some .free
 caps:∀j∈js,scope.names.lookup (N0.getD j "")=some .free/\j<N0.length
noncomputable abbrev zaG(X:Cx)(N':List Str)(scope:Scope)(cl:List (Str×Addr))(C:Addr)(fp:List Addr)(s:Shared)(H:Hp)(pn:List (Addr×Obj)):Cx:={X with N:=N',s₀:=s,H₀:=H,env:=compEnvC scope cl C X.env,outer:=X.stack,stack:=X.stack,ex:=fp,fn:=fun _=>false,pn:=pn,xe:=fun _ _=>False}
noncomputable def csl(nt:Nat)(js:List Nat)(σ:St):St:=List.replicate nt none++js.map fun j=>(σ[j]?).join
noncomputable abbrev capN(N0:List Str)(tgs:List Str)(js:List Nat):List Str:=tgs++js.map fun j=>N0.getD j ""
def PTs(X:Cx)(ifs:List Expr)(t:TT):Prop:=
 ∀(pins:List (Addr×Obj))(s:Shared)(σ:St)(H:Hp)(Q:Bool->Hp->Prop),Inv X pins σ H s->t σ H Q->
  wpAny (model X.prog X.w) X.A (forIn ifs true fun c r=>if r=true then do let ok <-isTrue c X.env (eval c X.env);pure (ForInStep.yield ok) else pure (ForInStep.yield r)) (TP X pins σ Q) X.xe s
def tYes:TT:=fun _ H Q=>Q true H
theorem znV:PTs X [] tYes:=fun pins s σ H Q I h=>wpAny_tests_nil ⟨H,I,h⟩
theorem zjf(h:PT X c t):PTs X [c] t:=fun pins s σ H Q I q=>wpAny_tests_one (h pins s σ H Q I q)
def zna(nt:Nat)(js:List Nat)(wi:TI)(g:TG)(tt:TT)(te:TE):TE:=fun σ H Q=>wi σ H fun J H1=>∀p,H1 p=none->
 ∃W:Nat->Nat->St->Hp->Prop,(∃m,W 0 m (csl nt js σ) (upd H1 p (.lst [])))/\∀i m σ' H',W i m σ' H'->
  (J.stop i H'/\Q (.ref p) H')\/(J.go i H'/\∃N:St->Hp->Prop,(∀σ2 H2,N σ2 H2->∃m',m'<m/\W (i+1) m' σ2 H2)/\
   ∀x H2,J.yld i H' x H2->g x σ' H2 fun σ2 H3=>tt σ2 H3 fun b H4=>if b=true then te σ2 H4 fun v H5=>∃acc,H5 p=some (.lst acc)/\acc.length<sizeLine/\N σ2 (upd H5 p (.lst (acc++[v]))) else N σ2 H4)
section
variable{prog:Program}{w:World}{A:Around}{R:Result->Shared->Prop}{s:Shared}
theorem zif(J:Nat->Shared->Prop)
  (turn:∀n s,J n s->wpAny (model prog w) A (pyNext it) (fun r s₁=>(r=none/\R (.ok .next) s₁)\/∃v,r=some v/\
   wpAny (model prog w) A (letOwnedTupleGo tg it v) (fun _ s₀=>wpAny (model prog w) A (assign tg env v) (fun _ s₂=>
    wpAny (model prog w) A (forIn ifs true fun c r=>if r=true then do let ok <-isTrue c env (eval c env);pure (ForInStep.yield ok) else pure (ForInStep.yield r)) (fun ok s₃=>
     if ok=true then wpAny (model prog w) A (eval elt env) (fun x s₄=>wpAny (model prog w) A (call (.builtin "list.append") [acc,x]) (fun _ s₅=>∃m,m<n/\J m s₅) (fun _ _=>False) s₄) (fun _ _=>False) s₃
     else ∃m,m<n/\J m s₃) (fun _ _=>False) s₂) (fun _ _=>False) s₀) (fun _ _=>False) s₁) (fun _ _=>False) s)
  (n:Nat) (h:J n s):codeAny (model prog w) A (.compLoop (.ListComp elt [⟨tg,iter,ifs,0⟩] scope pos) 0 it acc env) R s:=by
 refine codeAny_loop rfl J (fun n s hI=>?_) n h;apply wpAny_noted;refine wpAny_bind (wpAny_standAt (wpAny_bind (wpAny_mono (turn n s hI) (fun r s₁ h₁=>?_) fun _ _ f=>f.elim)));rcases h₁ with⟨rfl,h₁⟩|⟨v,rfl,h₁⟩;exact wpAny_pure h₁;refine wpAny_bind (wpAny_mono h₁ (fun _ s₀ h₀=>?_) fun _ _ f=>f.elim);refine wpAny_bind (wpAny_mono h₀ (fun _ s₂ h₂=>?_) fun _ _ f=>f.elim);refine wpAny_bind (wpAny_mono h₂ (fun ok s₃ h₃=>?_) fun _ _ f=>f.elim);cases ok with|false=>exact wpAny_pure ⟨rfl,h₃⟩| true=>refine wpAny_bind (wpAny_bind (wpAny_mono h₃ (fun x s₄ h₄=>?_) fun _ _ f=>f.elim));exact wpAny_bind (wpAny_mono h₄ (fun _ s₅ h₅=>wpAny_pure (wpAny_pure ⟨rfl,h₅⟩)) fun _ _ f=>f.elim)
end
section
variable{X:Cx}{sc scope:Scope}{tgs:List Str}{js:List Nat}{elt tg iter:Expr}{ifs:List Expr}{pos:Pos}{wi:TI}{g:TG}{tt:TT}{te:TE}
theorem zd9(hc:X.calm=true)(hsc:X.env.scope=sc)(ok:CompOk sc scope X.N js)
  (hg:∀cl C fp s H pn,PG (zaG X (capN X.N tgs js) scope cl C fp s H pn) tg g)
  (ht:∀cl C fp s H pn,PTs (zaG X (capN X.N tgs js) scope cl C fp s H pn) ifs tt)
  (he:∀cl C fp s H pn,PE (zaG X (capN X.N tgs js) scope cl C fp s H pn) elt te)
 {σ:St} {RR:Value->Addr->Result->Shared->Prop} {Q:VK}
   (I2:Inv X pins σ H2 s2) (T:Turn X.prog X.w X.K tg J fp it tn) (st2:tn 0 s2.heap) (f2:∀b∈fp,FpOk X pins H2 b)
   (rd:∀p,H2 p=none->∃W:Nat->Nat->St->Hp->Prop,(∃m,W 0 m (csl tgs.length js σ) (upd H2 p (.lst [])))/\∀i m σ' H',W i m σ' H'->
    (J.stop i H'/\Q (.ref p) H')\/(J.go i H'/\∃N:St->Hp->Prop,(∀σ2 H2,N σ2 H2->∃m',m'<m/\W (i+1) m' σ2 H2)/\
     ∀x H2,J.yld i H' x H2->g x σ' H2 fun σ2 H3=>tt σ2 H3 fun b H4=>if b=true then te σ2 H4 fun v H5=>∃acc,H5 p=some (.lst acc)/\acc.length<sizeLine/\N σ2 (upd H5 p (.lst (acc++[v]))) else N σ2 H4))
   (fin:∀p C H' s',Inv X pins σ H' s'->(∃m,s'.heap.Ns C m)->s2.heap.objs.size<C->H' C=none->Q (.ref p) H'->RR (.ref p) C (.ok .next) s') :
   wpAny (model X.prog X.w) X.A (newList []) (fun acc s₃=>wpAny (model X.prog X.w) X.A (newFunctionEnv scope X.env.globals (zgA X.env.cells scope.names []) [] X.env.qual none .none (some X.env)) (fun cenv s₄=>codeAny (model X.prog X.w) X.A (.compStart (.ListComp elt [⟨tg,iter,ifs,0⟩] scope pos) 0 (.ref it) acc {cenv with scope:=relabel scope X.env}) (RR acc cenv.locals) s₄) E s₃) E s2:=by
  subst hsc;refine wpAny_newObj_type (wpAny_newFunctionEnv ok.nocell (by intro y hy;simp at hy) (fun h₁ hns₁ hsb₁=>?_) ok.kind);have I3:Inv X pins σ (upd H2 s2.heap.objs.size (.lst [])) {s2 with heap:=s2.heap.push {cls:=.type "list",data:=.seq ([]:List Value).toArray}}:=I2.lnew (t':=s2.toks) .nil (zero_le _);obtain⟨W,⟨m0,w0⟩,turn⟩:=rd _ I2.fresh;generalize hp:s2.heap.objs.size=p at *;generalize hs3:({s2 with heap:=s2.heap.push {cls:=.type "list",data:=.seq ([]:List Value).toArray}}:Shared)=s3 at I3;have e3:s3.heap=s2.heap.push {cls:=.type "list",data:=.seq ([]:List Value).toArray}:=by rw[<-hs3]
  have sz3:s3.heap.objs.size=p+1:=by rw[e3,Heap.size_push,hp]
  generalize hH3:upd H2 p (.lst [])=H3 at *;have hns:h₁.Ns s3.heap.objs.size (fun x=>([]:List (Str×Value)).reverse.lookup x):=by rw[e3];exact hns₁
  have hsb:Heap.SameBut s3.heap.objs.size (s3.heap.push {cls:=.type "dict",data:=.dict #[]}) h₁:=by rw[e3];exact hsb₁
  have old:∀b o,s3.heap.get? b=some o->h₁.get? b=some o:=fun b o e=>(hsb.2 b (ne_of_lt (Heap.lt_size e))).trans (Heap.get?_push_of_some _ e);have frees:∀y∈scope.names,y.2=.free->∃c,X.env.cells.lookup y.1=some c:=fun y hy hk=>I2.ok.has y.1 (ok.frees y hy hk);have cellX:∀x c,(zgA X.env.cells scope.names []).lookup x=some c->X.env.cells.lookup x=some c:=zfR scope.names [] (fun x c e=>by simp at e);generalize hcl:zgA X.env.cells scope.names []=cl at *;have okX:(zaG X (capN X.N tgs js) scope cl s3.heap.objs.size fp s3 H3 (X.pn++pins)).Ok:=
   {mod:=I3.ok.mod,kind:=ok.kind,glob:=I3.ok.glob,blt:=I3.ok.blt,above:=le_refl _,
    inj:=fun x y c e1 e2=>I3.ok.inj x y c (cellX x c e1) (cellX y c e2),
    has:=fun x hk=>by
     have hk':(scope.names.map (zb3 X.env)).lookup x=some .cell\/(scope.names.map (zb3 X.env)).lookup x=some .free:=by rw[<-zcl];exact hk
     rw[<-hcl];refine zdD scope.names [] x frees (.inr ?_);rcases hk' with q|q;obtain⟨k0,m,_,e⟩:=zbJ X.env x _ _ q;rcases e with e|⟨e,_⟩;subst e;exact absurd rfl (ok.nocell _ m);subst e;exact m;obtain⟨k0,m,_,e⟩:=zbJ X.env x _ _ q;rcases e with e|⟨e,z⟩;subst e;exact m;exact absurd z (fun h=>(nomatch h)),
    cab:=fun x c e=>absurd e Bool.false_ne_true,hd:=I3.ok.hd,frames:=I3.ok.frames,stk:=.inl rfl,
    exf:=fun b hb=>⟨ne_of_lt (by
     obtain⟨o,ho,_⟩:=T.obj 0 _ st2 b hb;rw[sz3,<-hp];exact lt_succ_of_lt (Heap.lt_size ho)),fun x c e=>(f2 b hb).2.2.2.2.1 x c (cellX x c e)⟩,
    bs:=I3.bs,bsz:=le_trans I3.ok.bsz I3.sz,
    noex:=fun b o e hb=>by rcases(f2 b hb).2.2.2.1 with z|z;exact I3.ok.noex b o e z;exact absurd (lt_of_lt_of_le (Heap.lt_size e) (le_trans I3.ok.bsz z)) (lt_irrefl _),
    exfs:=fun b hb hx=>by rcases mem_cons.mp (I3.stkSub b hx) with z|z;exact(f2 b hb).2.1 z;exact(f2 b hb).2.2.1 z,
    funs:=I3.stack,frf:=I3.stkFree}
  have I4:Inv (zaG X (capN X.N tgs js) scope cl s3.heap.objs.size fp s3 H3 (X.pn++pins)) [] (csl tgs.length js σ) H3 {s3 with heap:=h₁}:=
   {ok:=okX,os:=rfl,bare:=I3.bare,base:=Un.kept old,
    loc:=⟨_,hns,fun i x v e1 e2 e3=>by
     have e2:(List.replicate tgs.length none++js.map fun j=>(σ[j]?).join)[i]?=some (some v):=e2;by_cases hi:i<tgs.length;rw[getElem?_append_left (by rw[length_replicate];exact hi),List.getElem?_replicate,if_pos hi]at e2;cases e2;rw[getElem?_append_right (by omega),getElem?_map]at e1;rw[getElem?_append_right (by rw[length_replicate];omega),length_replicate,getElem?_map]at e2;cases hj:js[i-tgs.length]? with
     |none=>rw[hj]at e1;cases e1
     |some j=>
      rw[hj]at e1 e2;have e1:X.N.getD j ""=x:=Option.some.inj e1;have e2:(σ[j]?).join=some v:=Option.some.inj e2;have hjm:j∈js:=mem_of_getElem? hj;obtain⟨hfr,hjl⟩:=ok.caps j hjm;rw[e1]at hfr;have hNj:X.N[j]?=some x:=by rw[List.getElem?_eq_getElem hjl];rw[List.getD_eq_getElem?_getD,List.getElem?_eq_getElem hjl]at e1;exact congrArg some e1
      have hσ:σ[j]?=some (some v):=by
       cases q:σ[j]? with
       |none=>rw[q]at e2;cases e2
       |some o=>rw[q]at e2;have e2:o=some v:=e2;rw[e2]
      have hmem:(x,NameKind.free)∈scope.names:=by obtain⟨l1,l2,h3,_⟩:=List.lookup_eq_some_iff.mp hfr;rw[h3];simp
      have hkX:=ok.frees _ hmem rfl;have hvis:Vis X.env.scope x:=hkX.elim (fun z=>.inr (.inl z)) fun z=>.inr (.inr z);obtain⟨m,hn,hl⟩:=I3.loc;obtain⟨u,r,lk⟩:=hl j x v hNj hσ hvis;refine⟨u,r,.inr ⟨?_,?_⟩⟩;have q:=zbq X.env x scope.names hfr;exact q.symm;rcases lk with⟨k,_⟩|⟨_,c,ec,z⟩
      . exfalso;have k:X.env.scope.names.lookup x=some .local:=k;rcases hkX with q|q<;>(rw[k]at q;cases q)
      let ⟨c',hc'⟩:∃c',cl.lookup x=some c':=by rw[<-hcl];exact zdD scope.names [] x frees (.inr hmem)
      have q:=cellX x c' hc';rw[ec]at q;cases q;obtain⟨o,ho,hd⟩:=z;exact⟨c,hc',o,old _ _ ho,hd⟩⟩,
    cell:=fun x c e=>by obtain⟨v,o,ho,hd⟩:=I3.cell x c (cellX x c e);exact⟨v,o,old _ _ ho,hd⟩,
    free:=I3.fresh,
    freeC:=fun x c e=>I3.freeC x c (cellX x c e),
    pin:=fun q hq=>by
     have hq:q∈X.pn++pins:=by simpa using hq
     obtain⟨e,n,ne,nf,d⟩:=I3.pin q hq;refine⟨old _ _ e,n,ne_of_lt (Heap.lt_size e),fun z=>?_,d⟩;rcases mem_cons.mp (I3.stkSub _ z) with z|z;exact ne z;exact nf z,
    hok:=I3.hok.kept old,
    len:=by show(List.replicate tgs.length none++js.map fun j=>(σ[j]?).join).length=(tgs++js.map fun j=>X.N.getD j "").length;simp}
  have stat:∀{H':Hp},(∀b∈fp,H' b=none)->∀b∈fp,FpOk (zaG X (capN X.N tgs js) scope cl s3.heap.objs.size fp s3 H3 (X.pn++pins)) [] H' b:=fun hn b hb=>
   ⟨hn b hb,(okX.exf b hb).1,okX.exfs b hb,.inl hb,(okX.exf b hb).2,fun q hq=>by
    have hq:q∈X.pn++pins:=by simpa using hq
    exact(f2 b hb).2.2.2.2.2 q hq⟩
  have fr3:∀b∈fp,H3 b=none:=fun b hb=>by obtain⟨o,ho,_⟩:=T.obj 0 _ st2 b hb;rw[<-hH3,zag (ne_of_lt (hp▸Heap.lt_size ho))];exact(f2 b hb).1
  have st4:tn 0 h₁:=T.keep 0 _ _ st2 fun b hb o e=>old b o (by rw[e3];exact Heap.get?_push_of_some _ e);have loop:codeAny (model X.prog X.w) X.A (.compLoop (.ListComp elt [⟨tg,iter,ifs,0⟩] scope pos) 0 (.ref it) (.ref p) (compEnvC scope cl s3.heap.objs.size X.env)) (RR (.ref p) s3.heap.objs.size) {s3 with heap:=h₁}:=by
   refine zif (fun n s'=>∃i σ' H',Inv (zaG X (capN X.N tgs js) scope cl s3.heap.objs.size fp s3 H3 (X.pn++pins)) [] σ' H' s'/\tn i s'.heap/\(∀b∈fp,H' b=none)/\W i n σ' H') ?_ m0 ⟨0,_,H3,I4,st4,fr3,w0⟩;rintro n s4 ⟨i,σ4,H4,J4,st4,fr4,w4⟩;rcases turn i n σ4 H4 w4 with⟨stop,qn⟩|⟨go,N,hN,step⟩;refine thn (T.done (zaG X (capN X.N tgs js) scope cl s3.heap.objs.size fp s3 H3 (X.pn++pins)) rfl rfl rfl hc i [] s4 σ4 H4 _ J4 (stat fr4) st4 stop) fun r s5 ⟨hr,J5⟩=>.inl ⟨hr,?_⟩;have hX:Inv X pins σ H4 s5:=I3.call' J5.os J5.base J5.hok J5.bare fun b hb=>⟨(f2 b hb).2.2.2.1,(f2 b hb).2.1,(f2 b hb).2.2.2.2.1,(f2 b hb).2.2.2.2.2⟩;obtain⟨m,hm,_⟩:=J5.loc;exact fin p _ H4 s5 hX ⟨m,hm⟩ (by rw[sz3];exact lt_succ_self _) J5.free qn
   refine thn (T.item (zaG X (capN X.N tgs js) scope cl s3.heap.objs.size fp s3 H3 (X.pn++pins)) rfl rfl rfl hc i [] s4 σ4 H4 _ J4 (stat fr4) st4 go) fun r s5 ⟨u,hr,h5⟩=>.inr ⟨u,hr,?_⟩;refine thn h5 fun _ s6=>ex5 fun x H6 J6 r6 ⟨y6,st6,fr6⟩=>?_;have J6':=J6.pinned (stat fr6) (T.obj _ _ st6);refine thn (hg _ _ _ _ _ _ _ s6 σ4 H6 x u _ J6' r6 (step x H6 y6)) fun _ s7 ⟨σ7,H7,J7,q7⟩=>?_;refine thn (ht _ _ _ _ _ _ _ s7 σ7 H7 _ J7 q7) fun ok8 s8 ⟨H8,J8,q8⟩=>?_;have again:∀{s9:Shared}{H9:Hp},Inv (zaG X (capN X.N tgs js) scope cl s3.heap.objs.size fp s3 H3 (X.pn++pins)) ([]++zfr fp s6.heap) σ7 H9 s9->N σ7 H9->
     ∃m,m<n/\∃i σ' H',Inv (zaG X (capN X.N tgs js) scope cl s3.heap.objs.size fp s3 H3 (X.pn++pins)) [] σ' H' s9/\tn i s9.heap/\(∀b∈fp,H' b=none)/\W i m σ' H':=fun {s9 H9} J9 n9=>by
    obtain⟨m',hm,w9⟩:=hN σ7 H9 n9;refine⟨m',hm,i+1,σ7,H9,J9.unpinned,T.keep _ _ _ st6 fun b hb o e=>(J9.pin (b,o) (mem_append_right _ (mem_append_right _ (zb1 hb e)))).1,fun b hb=>?_,w9⟩;obtain⟨o,e,d⟩:=T.obj _ _ st6 b hb;exact(J9.pin (b,o) (mem_append_right _ (mem_append_right _ (zb1 hb e)))).2.1
   cases ok8 with|false=>exact again J8 q8| true=>refine thn (he _ _ _ _ _ _ _ s8 σ7 H8 _ J8 q8) fun y s9=>ex5 fun v H9 J9 r9 ⟨acc,ha,hl,q9⟩=>?_;refine thn (zft _ s9 σ7 H9 (.ref p) [v] (.ref p) [y] (fun _ H=>N σ7 H) J9 rfl (.cons r9 .nil) ⟨p,acc,v,rfl,rfl,ha,hl,q9⟩) fun _ s10=>ex5 fun _ H10 J10 _ q10=>?_;exact again J10 q10
  exact codeAny_compStart_list loop (T.self _ 0 _ _ _ st4 loop)
theorem zlE(sc:Scope)(tgs:List Str)(js:List Nat)(hc:X.calm=true)(hsc:X.env.scope=sc)(ok:CompOk sc scope X.N js)(hi:PI X tg iter wi)
  (hg:∀cl C fp s H pn,PG (zaG X (capN X.N tgs js) scope cl C fp s H pn) tg g)
  (ht:∀cl C fp s H pn,PTs (zaG X (capN X.N tgs js) scope cl C fp s H pn) ifs tt)
  (he:∀cl C fp s H pn,PE (zaG X (capN X.N tgs js) scope cl C fp s H pn) elt te)
  (hs:∀x,foldedSetIterable iter X.env x=pure x:=by intro _;rfl) :
  PE X (.ListComp elt [⟨tg,iter,ifs,0⟩] scope pos) (zna tgs.length js wi g tt te):=by
 intro pins s σ H Q I h;have frees:∀y∈scope.names,y.2=.free->∃c,X.env.cells.lookup y.1=some c:=fun y hy hk=>I.ok.has y.1 (by
  have q:=ok.frees y hy hk;rw[<-hsc]at q;exact q)
 refine wpAny_comprehension_free rfl hs (zbD frees) ok.kind ok.locs (thn (hi pins s σ H _ I h) fun v s1 h1=>thn h1 fun itv s2 h2=>?_);obtain⟨it,fp,tn,J,H2,e,I2,T,st2,f2,rd⟩:=h2;subst e;refine zd9 hc hsc ok hg ht he I2 T st2 f2 rd fun p C H' s' I' hm hC hn q=>?_;obtain⟨m,hm⟩:=hm;refine⟨m,hm,fun h' hs'=>⟨.ref p,H',?_,rfl,q⟩⟩;exact I'.turned (t':=s'.toks) (fun b o hb e=>(hs'.2 b hb).trans e) hn (ne_of_gt (lt_trans I2.lt hC)) (.inr (le_trans I2.sz (le_of_lt hC))) (fun x c e=>by obtain⟨v,o,ho,_⟩:=I2.cell x c e;exact ne_of_lt (lt_trans (Heap.lt_size ho) hC)) fun q hq=>ne_of_lt (lt_trans (Heap.lt_size (I2.pin q hq).1) hC)
theorem znY(sc:Scope)(tgs:List Str)(js:List Nat){py spos:Pos}(hN:X.N.Nodup)(hi':X.N[i]?=some y)(hy:Loc X.env.scope y)(hc:X.calm=true)(hsc:X.env.scope=sc)(ok:CompOk sc scope X.N js)(hi:PI X tg iter wi)
  (hg:∀cl C fp s H pn,PG (zaG X (capN X.N tgs js) scope cl C fp s H pn) tg g)
  (ht:∀cl C fp s H pn,PTs (zaG X (capN X.N tgs js) scope cl C fp s H pn) ifs tt)
  (he:∀cl C fp s H pn,PE (zaG X (capN X.N tgs js) scope cl C fp s H pn) elt te)
  (hsw:swapsWith (.ListComp elt [⟨tg,iter,ifs,0⟩] scope pos) (some (.Name y py)) spos.line X.env=pure true:=by rfl)
  (hs:∀x,foldedSetIterable iter X.env x=pure x:=by intro _;rfl)
  (hf:X.fn y=true\/X.env.scope.names.lookup y=some .local:=by first|exact .inl rfl|exact .inr rfl|assumption) :
  PS X (.Assign [.Name y py] (.ListComp elt [⟨tg,iter,ifs,0⟩] scope pos) spos) (tAsg (zna tgs.length js wi g tt te) (zkc i)):=by
 intro pins s σ H D I h;have frees:∀y∈scope.names,y.2=.free->∃c,X.env.cells.lookup y.1=some c:=fun y hy hk=>I.ok.has y.1 (by
  have q:=ok.frees y hy hk;rw[<-hsc]at q;exact q)
 rw[exec_Assign_Name_used _ _ _ _ hsw];refine wpAny_bind (wpAny_standAt (wpAny_bind ?_));refine wpAny_bind (wpAny_mono (wpAny_comprehension_free rfl hs (zbD frees) ok.kind ok.locs
  (thn (hi pins s σ H _ I h) fun v s1 h1=>thn h1 fun itv s2 h2=>?_)) (fun _ s' hq=>wpAny_pure (wpAny_pure hq)) fun _ _ e=>e)
 obtain⟨it,fp,tn,J,H2,e,I2,T,st2,f2,rd⟩:=h2;subst e;refine zd9 hc hsc ok hg ht he I2 T st2 f2 rd (Q:=fun x H1=>zkc i x σ H1 D.nx) fun p C H' s' I' hm hC hn q=>?_;obtain⟨m,hm⟩:=hm;have hL:C≠X.env.locals:=ne_of_gt (lt_trans I2.lt hC);have hCc:∀x c,X.env.cells.lookup x=some c->c≠C:=fun x c e=>by obtain⟨v,o,ho,_⟩:=I2.cell x c e;exact ne_of_lt (lt_trans (Heap.lt_size ho) hC)
 refine wpAny_assign_Name (zfb I' hN hi' hy (v:=.ref p) rfl (fun s'' I'' hch=>?_) hf);obtain⟨a,hsb,ha⟩:=hch;have hCa:C≠a:=by rcases ha with z|z;rw[z];exact hL;exact fun e=>hCc y a z e.symm
 refine⟨m,hm.sameBut hsb hCa,fun h' hs'=>⟨σ.set i (some (.ref p)),H',?_,q⟩⟩;exact I''.turned (t':=s''.toks) (fun b o hb e=>(hs'.2 b hb).trans e) hn hL (.inr (le_trans I2.sz (le_of_lt hC))) hCc fun q hq=>ne_of_lt (lt_trans (Heap.lt_size (I2.pin q hq).1) hC)
end
structure FunV(K:Frag)(x qual:Str)(st:Stmt)(dV:Value)(f:Addr)(fd:FuncData):Prop where
 ex:∃(oc:Value) (od:Option Addr) (kV doc pm:Value) (an:Option Addr) (cdv ct:Value) (osl:Array (Option Value)),
  fd=fnOf x qual (zax st) (zao st) (zad st) dV kV doc pm an cdv ct/\K.lookup f=some ⟨oc,od,.func fd,osl⟩/\codeIn K cdv qual=true
 kp:keepIn K (.ref f)=true
theorem zdx{K:Frag}{st:Stmt}{dV kV doc pm cdv ct:Value}(l:K.lookup f=some ⟨oc,od,.func (fnOf x qual (zax st) (zao st) (zad st) dV kV doc pm an cdv ct),osl⟩)
 (c:codeIn K cdv qual=true) (k:keepIn K (.ref f)=true):FunV K x qual st dV f (fnOf x qual (zax st) (zao st) (zad st) dV kV doc pm an cdv ct):=⟨⟨oc,od,kV,doc,pm,an,cdv,ct,osl,rfl,l,c⟩,k⟩
section
variable{P:Program}{w:World}{K:Frag}{mg:Str->Option Value}{base:Heap}
theorem FunV.ok{st:Stmt}(F:FunV K x qual st dV f fd)(S:FnScope N ps (zad st))(len:∀vs H Q E,sp vs H Q E->vs.length=ps.length)
  (hbody:∀(cdv:Value)(A:Around)(outer:List Env)(s:Shared)(H:Hp)(vs:List V)(Q:VK)(E:XK),Room k (A.deeper (envOfC qual (zad st) s.heap.objs.size f cdv))->sp vs H Q E->
   ∃t,PSs (cxOf CX0 P w K mg base N qual (zad st) f cdv A outer s H E).nox (zao st) t/\t {nx:=fun _ H'=>Q .non H',rt:=Q} (start N vs) H):FnOk P w K mg base CX0 (k+1) f fd ps sp:=by
 obtain⟨oc,od,kV,doc,pm,an,cdv,ct,osl,rfl,lk,hcd⟩:=F.ex;refine zrb lk hcd S len fun A outer s H vs Q E hr hsp=>?_;obtain⟨t,h,q⟩:=hbody cdv A outer s H vs Q E hr hsp;exact⟨t,h.nox,q⟩
theorem FunV.binds{st:Stmt}(F:FunV K x qual st dV f fd)
  (h:∀(kV doc pm:Value)(an:Option Addr)(cdv ct:Value)(us:List Value),us.length=ps.length->bindArgs (fnOf x qual (zax st) (zao st) (zad st) dV kV doc pm an cdv ct) ⟨us,[]⟩=pure (ps.zip us)):Binds K fd ps []:=by
 obtain⟨oc,od,kV,doc,pm,an,cdv,ct,osl,rfl,lk,hcd⟩:=F.ex;exact .all (h kV doc pm an cdv ct)
structure Has(P:Program)(w:World)(K:Frag)(mg:Str->Option Value)(base:Heap)(k:Nat)(x:Str)(ps:List Str)(dvs:List V)(sp:Sp):Prop where
 ex:∃(f:Addr) (fd:FuncData) (ds:List Value),FnOk P w K mg base CX0 k f fd ps sp/\mg x=some (.ref f)/\keepIn K (.ref f)=true/\Binds K fd ps ds/\Vals dvs ds
end
theorem zqr{p pos:Pos}(G:Has X.prog X.w X.K X.mg X.base k x ps dvs sp)(hr:Room k X.A)(ha:PA X (e::es) t)(hg:Gl X x:=by rfl)
  (hdb:(x==("__debug__":Str))=false:=by decide) (he:starEach (e::es) X.env=(false,eval e X.env)::starEach es X.env:=by rfl) (hpl:(backTo pos (starEach es X.env)).any (·.1)=false:=by rfl) :
  PE X (.Call (.Name x p) (e::es) [] pos) (zeq sp dvs E0 t):=by
 obtain⟨f,fd,ds,F,hm,hk,hb,hd⟩:=G.ex;exact zn9 F hr hg hm hk hb hd zgn ha hdb he hpl
theorem zqq{p pos:Pos}(G:Has X.prog X.w X.K X.mg X.base k x ps dvs sp)(hr:Room k X.A)(hg:Gl X x:=by rfl)
  (hdb:(x==("__debug__":Str))=false:=by decide):PE X (.Call (.Name x p) [] [] pos) (zeq sp dvs E0 tNil):=by
 obtain⟨f,fd,ds,F,hm,hk,hb,hd⟩:=G.ex;exact zlL F hr hg hm hk hb hd zgn hdb
mutual
def Rep(H:Hp):PyData->V->Prop
 |.none,v=>v=.non|.bool b,v=>v=.bl b|.int i,v=>v=.int i|.str x,v=>v=.str x|.list ds,v=>∃a vs,v=.ref a/\H a=some (.lst vs)/\RepAll H ds vs|.tuple ds,v=>∃a vs,v=.ref a/\H a=some (.tup vs)/\RepAll H ds vs|.dict _,_=>False
def RepAll(H:Hp):List PyData->List V->Prop
 | [],vs=>vs=[]|d::ds,vs=>∃v r,vs=v::r/\Rep H d v/\RepAll H ds r
end
mutual
noncomputable def imm:PyData->Bool
 |.none=>true|.bool _=>true|.int _=>true|.str _=>true|.list _=>false|.tuple ds=>zfG ds|.dict _=>false
noncomputable def zfG:List PyData->Bool
 | []=>true|d::ds=>imm d&&zfG ds
end
def Tups(H H':Hp):Prop:=∀b xs,H b=some (.tup xs)->H' b=some (.tup xs)
theorem Tups.refl(H:Hp):Tups H H:=fun _ _ h=>h
theorem Tups.trans(a:Tups H H1)(b:Tups H1 H2):Tups H H2:=fun c xs h=>b c xs (a c xs h)
theorem Tups.upd(h:∀xs,H p≠some (.tup xs)):Tups H (upd H p o):=fun b xs e=>by
 have hb:b≠p:=fun z=>by subst z;exact h xs e
 rw[zag hb];exact e
theorem Tups.upd_lst(h:H p=some (.lst xs)):Tups H (L2.upd H p o):=Tups.upd fun ys e=>by rw[h]at e;cases e
theorem Tups.upd_new(h:H p=none):Tups H (L2.upd H p o):=Tups.upd fun ys e=>by rw[h]at e;cases e
mutual
theorem Rep.same{H H':Hp}(hs:Same H H'):∀{d:PyData}{v:V},Rep H d v->Rep H' d v
 |.none,_,h=>h|.bool _,_,h=>h|.int _,_,h=>h|.str _,_,h=>h| .list ds,v,h=>by obtain⟨a,vs,e,ha,r⟩:=h;exact⟨a,vs,e,hs _ _ ha,RepAll.same hs r⟩| .tuple ds,v,h=>by obtain⟨a,vs,e,ha,r⟩:=h;exact⟨a,vs,e,hs _ _ ha,RepAll.same hs r⟩|.dict _,_,h=>h
theorem RepAll.same{H H':Hp}(hs:Same H H'):∀{ds:List PyData}{vs:List V},RepAll H ds vs->RepAll H' ds vs
 | [],_,h=>h| d::ds,vs,h=>by obtain⟨v,r,e,h1,h2⟩:=h;exact⟨v,r,e,Rep.same hs h1,RepAll.same hs h2⟩
end
mutual
theorem Rep.tups{H H':Hp}(hs:Tups H H'):∀{d:PyData}{v:V},imm d=true->Rep H d v->Rep H' d v
 |.none,_,_,h=>h|.bool _,_,_,h=>h|.int _,_,_,h=>h|.str _,_,_,h=>h|.list ds,v,i,h=>by simp[imm]at i| .tuple ds,v,i,h=>by obtain⟨a,vs,e,ha,r⟩:=h;exact⟨a,vs,e,hs _ _ ha,RepAll.tups hs (by simpa[imm]using i) r⟩|.dict _,_,_,h=>h
theorem RepAll.tups{H H':Hp}(hs:Tups H H'):∀{ds:List PyData}{vs:List V},zfG ds=true->RepAll H ds vs->RepAll H' ds vs
 | [],_,_,h=>h| d::ds,vs,i,h=>by
  obtain⟨v,r,e,h1,h2⟩:=h;have i':imm d=true/\zfG ds=true:=by simpa[zfG]using i
  exact⟨v,r,e,Rep.tups hs i'.1 h1,RepAll.tups hs i'.2 h2⟩
end
mutual
theorem Rep.reads{X:Cx}{pins:List (Addr×Obj)}{σ:St}{H:Hp}{s:Shared}(I:Inv X pins σ H s):∀(d:PyData)(v:V)(u:Value),Rep H d v->RelV v u->∃as,Reads s.heap u d as
 |.none,v,u,h,r=>by cases(show v=.non from h);cases(show u=Value.none from r);exact⟨_,.none⟩| .bool b,v,u,h,r=>by cases(show v=.bl b from h);cases(show u=Value.bool b from r);exact⟨_,.bool b⟩| .int i,v,u,h,r=>by cases(show v=.int i from h);obtain⟨t,rfl⟩:=(show ∃t,u=Value.int i t from r);exact⟨_,.int i t⟩| .str x,v,u,h,r=>by cases(show v=.str x from h);obtain⟨t,rfl⟩:=(show ∃t,u=Value.str x t from r);exact⟨_,.str x t⟩| .list ds,v,u,h,r=>by obtain⟨a,vs,rfl,ha,hr⟩:=h;cases(show u=Value.ref a from r);obtain⟨its,n,rv,e,_⟩:=I.lst ha;obtain⟨as,q⟩:=RepAll.reads I ds vs its hr rv;exact⟨_,.list e rfl rfl q⟩| .tuple ds,v,u,h,r=>by obtain⟨a,vs,rfl,ha,hr⟩:=h;cases(show u=Value.ref a from r);obtain⟨its,rv,⟨o,e1,e2,n,e3⟩,_⟩:=I.tuple (SqT.of (K:=X.K) ha);obtain⟨as,q⟩:=RepAll.reads I ds vs its hr rv;exact⟨_,.tuple e1 e2 e3 q⟩|.dict _,_,_,h,_=>False.elim h
theorem RepAll.reads{X:Cx}{pins:List (Addr×Obj)}{σ:St}{H:Hp}{s:Shared}(I:Inv X pins σ H s):∀(ds:List PyData)(vs:List V)(us:List Value),RepAll H ds vs->Vals vs us->∃as,ReadsAll s.heap us ds as
 | [],vs,us,h,r=>by cases(show vs=[] from h);cases r;exact⟨_,.nil⟩| d::ds,vs,us,h,r=>by obtain⟨v,vr,rfl,h1,h2⟩:=h;cases r with| cons r1 r2=>obtain⟨as,q1⟩:=Rep.reads I d v _ h1 r1;obtain⟨bs,q2⟩:=RepAll.reads I ds vr _ h2 r2;exact⟨_,.cons q1 q2⟩
end
theorem eqv_int(i j:Int):PyData.eqv (.int i) (.int j)=(i==j):=by simp[PyData.eqv]
section
variable{X:Cx}
def rEqD(g:Bool->Bool):R2:=fun x y H Q=>∃da db,Rep H da x/\Rep H db y/\da.canLay0=true/\db.canLay0=true/\min da.depth db.depth<=60/\Q (.bl (g (PyData.eqv da db))) H
theorem zqD(hu:X.A.units+64<cLine):OpR X (compareOp .Eq) (rEqD id):=by intro pins s σ H x y v u Q I rx ry h;obtain⟨da,db,h1,h2,l1,l2,hd,q⟩:=h;obtain⟨as,r1⟩:=Rep.reads I da x v h1 rx;obtain⟨bs,r2⟩:=Rep.reads I db y u h2 ry;exact SeqAt.compareEq_reads r1 r2 l1 l2 (by omega) (zat I q rfl)
theorem zqA(hu:X.A.units+64<cLine):OpR X (compareOp .NotEq) (rEqD not):=by intro pins s σ H x y v u Q I rx ry h;obtain⟨da,db,h1,h2,l1,l2,hd,q⟩:=h;obtain⟨as,r1⟩:=Rep.reads I da x v h1 rx;obtain⟨bs,r2⟩:=Rep.reads I db y u h2 ry;exact SeqAt.compareNe_reads r1 r2 l1 l2 (by omega) (zat I q rfl)
noncomputable def zcU(H:Hp):V->Option String
 |.non=>some "NoneType"|.bl _=>some "bool"|.int _=>some "int"|.str _=>some "str"
 |.ref a=>match H a with
  |some (.lst _)=>some "list"|some (.frz _ (.lst _))=>some "list"|some (.tup _)=>some "tuple"|some (.dK _)=>some "dict"|some (.dT _)=>some "dict"|_=>none
 |_=>none
theorem ziE{K:Frag}(h:zcU H x=some a):TyOf K H x (.type a):=by
 cases x with
 |non=>cases h;exact .non|bl b=>cases h;exact .bl b|int i=>cases h;exact .int i|str y=>cases h;exact .str y|byt _=>cases h
 |flt _=>cases h
 |ty _=>cases h
 |ref p=>
  unfold zcU at h;cases e:H p with
  |none=>simp[e]at h| some o=>
   cases o with
   |lst xs=>simp[e]at h;subst h;exact .lst e|tup xs=>simp[e]at h;subst h;exact .tup e|dK kvs=>simp[e]at h;subst h;exact .dK e|dT kvs=>simp[e]at h;subst h;exact .dT e| frz ob q=>cases q with|lst xs=>simp[e]at h;subst h;exact .frz e|_=>simp[e]at h
   |_=>simp[e]at h
noncomputable def subT(a b:String):Bool:=a==b||(a=="bool"&&b=="int")
theorem zoC(K:Frag)(ha:a∈["NoneType","bool","int","str","list","tuple","dict"])(hb:b∈["bool","int","str","list","tuple","dict"]):kitOne K (.type a) (.type b)=some (subT a b):=by simp at ha hb;rcases ha with rfl|rfl|rfl|rfl|rfl|rfl|rfl<;>rcases hb with rfl|rfl|rfl|rfl|rfl|rfl<;>rfl
theorem zhF(h:zcU H x=some a):a∈["NoneType","bool","int","str","list","tuple","dict"]:=by
 cases x with
 |non=>cases h;simp|bl b=>cases h;simp|int i=>cases h;simp|str y=>cases h;simp|byt _=>cases h
 |flt _=>cases h
 |ty _=>cases h
 |ref p=>unfold zcU at h;simp only at h;split at h<;>first|(cases h;simp)|cases h
theorem zgB:zbi X (.builtin "isinstance") (fun xs H Q=>∃x c a,xs=[x,.ty c]/\zcU H x=some a/\c∈["bool","int","str","list","tuple","dict"]/\Q (.bl (subT a c)) H):=by intro pins s σ H xs us Q I r h;obtain⟨x,c,a,rfl,hx,hc,q⟩:=h;obtain⟨u,w',rfl,rx,rc⟩:=zpf r;cases rc;exact zjS I rx (ziE hx) (zoC X.K (zhF hx) hc) fun tk=>⟨.bl (subT a c),H,I.tok tk,rfl,q⟩
end
section
variable{X:Cx}(K:Frag)(hK:X.K=K)
include hK
end
end L2
namespace TM
structure Good(m:Nat)(wo:Option Int)(s:Int)(n:Nat)(p:List Int):Prop where
 len:p.length=n
 head:p.head?=some s
 nd:p.Nodup
 rng:∀h∈p,0<=h/\h<m/\wo≠some h
end TM
namespace L2
open PySem PySem.Spec PyProof.Rows
theorem zrv:bootBuiltins "len"=some (.builtin "len"):=by decide +kernel
theorem zry:bootBuiltins "abs"=some (.builtin "abs"):=by decide +kernel
theorem zrx:bootBuiltins "all"=some (.builtin "all"):=by decide +kernel
theorem ze9:bootBuiltins "isinstance"=some (.builtin "isinstance"):=by decide +kernel
theorem zrw:bootBuiltins "int"=some (.type "int"):=by decide +kernel
theorem zoX:bootBuiltins "bool"=some (.type "bool"):=by decide +kernel
theorem zrt:bootBuiltins "str"=some (.type "str"):=by decide +kernel
theorem ze8:bootBuiltins "list"=some (.type "list"):=by decide +kernel
theorem ze7:bootBuiltins "tuple"=some (.type "tuple"):=by decide +kernel
theorem zoW:bootBuiltins "dict"=some (.type "dict"):=by decide +kernel
theorem zru:bootBuiltins "set"=some (.type "set"):=by decide +kernel
theorem zmT{K:Frag}{st:Stmt}(n:Nat)(hn:ps.length=n+ds.length)(F:FunV K x qual st (.ref d) f fd)
  (e:K.lookup d=some ⟨xc,xd,.seq items xn,xs⟩)
  (h:∀(kV doc pm:Value)(an:Option Addr)(cdv ct:Value)(us:List Value),us.length=n->∃k,bindArgs (fnOf x qual (zax st) (zao st) (zad st) (.ref d) kV doc pm an cdv ct) ⟨us,[]⟩=seqItems? (.ref d)>>=k/\k (some items)=pure (ps.zip (us++ds))) :
  Binds K fd ps ds:=by
 obtain⟨oc,od,kV,doc,pm,an,cdv,ct,osl,rfl,lk,hcd⟩:=F.ex;intro s us KX hl;obtain⟨k,h1,h2⟩:=h kV doc pm an cdv ct us (by rw[length_append]at hl;omega);exact BindsTo.of_defaults rfl (KX _ _ e) rfl h1 h2
end L2
namespace R
abbrev K3:=Int×List Int×Int
noncomputable def lexZ:List Int->List Int->Bool
 | [],[]=>false| [],_::_=>true|_::_,[]=>false|x::xs,y::ys=>if x=y then lexZ xs ys else decide (x<y)
theorem zdp(x y:Int)(xs ys:List Int):lexZ (x::xs) (y::ys)=if x=y then lexZ xs ys else decide (x<y):=rfl
theorem zcK:∀l:List Int,lexZ l l=false
 | []=>rfl|x::l=>by rw[zdp,if_pos rfl];exact zcK l
theorem zfv:∀{a b c:List Int},lexZ a b=true->lexZ b c=true->lexZ a c=true
 | [],[],c,h,k=>by cases h| [],y::b,[],h,k=>by cases k| [],y::b,z::c,h,k=>rfl|x::a,[],c,h,k=>by cases h|x::a,y::b,[],h,k=>by cases k| x::a,y::b,z::c,h,k=>by rw[zdp]at h k⊢;split at h;rename_i e1;split at k;rename_i e2;rw[if_pos (e1.trans e2)];exact zfv h k;rename_i e2;have k:=of_decide_eq_true k;rw[if_neg (by omega)];exact decide_eq_true (by omega);rename_i e1;have h:=of_decide_eq_true h;split at k;rename_i e2;rw[if_neg (by omega)];exact decide_eq_true (by omega);rename_i e2;have k:=of_decide_eq_true k;rw[if_neg (by omega)];exact decide_eq_true (by omega)
def Lt3(a b:K3):Prop:=a.1<b.1\/(a.1=b.1/\(lexZ a.2.1 b.2.1=true\/(a.2.1=b.2.1/\a.2.2<b.2.2)))
noncomputable instance(a b:K3):Decidable (Lt3 a b):=by unfold Lt3;infer_instance
theorem zd7(a:K3):¬Lt3 a a:=by unfold Lt3;rw[zcK];simp
theorem zjz(h:Lt3 a b)(k:Lt3 b c):Lt3 a c:=by rcases h with h|⟨h1,h2⟩;rcases k with k|⟨k1,k2⟩;exact .inl (by omega);exact .inl (by omega);rcases k with k|⟨k1,k2⟩;exact .inl (by omega);refine .inr ⟨h1.trans k1,?_⟩;rcases h2 with h2|⟨h2,h3⟩;rcases k2 with k2|⟨k2,k3⟩;exact .inl (zfv h2 k2);exact .inl (k2▸h2);rcases k2 with k2|⟨k2,k3⟩;exact .inl (h2▸k2);exact .inr ⟨h2.trans k2,by omega⟩
end R
namespace R
open PySem PySem.Spec PyProof.Rows L2
section
variable{prog:Program}{w:World}{A:Around}{E:Value->Shared->Prop}{s:Shared}
theorem zoD{x y:List Int}(h:(x.map Sum.inl:List Key)=y.map Sum.inl):x=y:=(List.map_inj_right (fun a b e=>Sum.inl.inj e)).mp h
end
end R
namespace R
open PySem (Str PyData Operator CmpOp)
inductive D where
 |non|bl (b:Bool)|int (i:Int)|str (x:Str)|tup (ds:List D)|ref (l:Nat)
 |fix (ds:List D)
inductive MO where
 |lst (ds:List D)|dic (kvs:List (Int×D))|ins (c:Nat) (fs:List (Str×D))
structure St where
 frz:List MO
 new:List MO
 lk:List Nat
inductive Out(α:Type) where
 |ok (a:α) (S:St)
 |bad
noncomputable def Out.bind(o:Out α)(f:α->St->Out β):Out β:=match o with|.ok a S=>f a S|.bad=>.bad
noncomputable def lift(S:St):Option α->Out α
 |some a=>.ok a S|none=>.bad
namespace St
noncomputable def get(S:St)(l:Nat):Option MO:=if l<S.frz.length then S.frz[l]? else S.new[l-S.frz.length]?
noncomputable def len(S:St):Nat:=S.frz.length+S.new.length
noncomputable def push(S:St)(o:MO):St:={S with new:=S.new++[o]}
noncomputable def put(S:St)(l:Nat)(o:MO):Option St:=if l<S.frz.length then none else if S.lk.contains l then none else some {S with new:=S.new.set (l-S.frz.length) o}
noncomputable def enter(S:St):St:=⟨S.frz++S.new,[],[]⟩
end St
noncomputable def lay(S:St)(ds:List D):Out D:=if ds.length<=16777216 then .ok (.ref S.len) (S.push (.lst ds)) else .bad
noncomputable def wr(S:St)(l:Nat)(ds:List D)(d:D):Out D:=if ds.length<=16777216 then(match S.put l (.lst ds) with|some S'=>.ok d S'|none=>.bad) else .bad
noncomputable def pd(S:St):Nat->D->Option PyData
 |_,.non=>some .none|_,.bl b=>some (.bool b)|_,.int i=>some (.int i)|_,.str x=>if PySem.PyData.strOk x then some (.str x) else none|n+1,.tup ds=>(ds.mapM (pd S n)).map PyData.tuple
 |n+1,.ref l=>match S.get l with
  |some (.lst ds)=>(ds.mapM (pd S n)).map PyData.list|_=>none
 |_,.fix _=>none|0,_=>none
mutual
noncomputable def flat(n:Nat):D->Bool
 |.tup ds=>flats n ds|.ref l=>decide (l<n)|.fix ds=>flats n ds|_=>true
noncomputable def flats(n:Nat):List D->Bool
 | []=>true|d::ds=>flat n d&&flats n ds
end
noncomputable def zcc(S:St):D->Option (List D)
 |.tup ds=>some ds|.fix ds=>some ds
 |.ref l=>match S.get l with
  |some (.lst ds)=>some ds|_=>none
 |_=>none
noncomputable def lkOf(S:St):D->List Nat
 |.ref l=>[l]|_=>[]
noncomputable def tru(S:St):D->Option Bool
 |.non=>some false|.bl b=>some b|.int i=>some (i != 0)|.tup ds=>some (!ds.isEmpty)
 |.ref l=>match S.get l with
  |some (.lst ds)=>some (!ds.isEmpty)|_=>none
 |_=>none
noncomputable def tyOf(S:St):D->Option String
 |.non=>some "NoneType"|.bl _=>some "bool"|.int _=>some "int"|.str _=>some "str"|.tup _=>some "tuple"
 |.ref l=>match S.get l with
  |some (.lst _)=>some "list"|some (.dic _)=>some "dict"|_=>none
 |.fix _=>none
noncomputable def ixN(n:Nat)(i:Int):Option Nat:=if 0<=i then(if i<n then some i.toNat else none) else if -(n:Int)<=i then some (i+n).toNat else none
noncomputable def atI{α:Type}(xs:List α)(i:Int):Option α:=(ixN xs.length i).bind fun j=>xs[j]?
noncomputable def sIx(n d:Nat):Option Int->Nat
 |none=>d|some i=>if i<0 then(i+n).toNat else min i.toNat n
noncomputable def cut{α:Type}(xs:List α)(lo hi:Option Int):List α:=(xs.drop (sIx xs.length 0 lo)).take (sIx xs.length xs.length hi-sIx xs.length 0 lo)
noncomputable def zbG:D->Option Int
 |.int i=>some i|_=>none
noncomputable def zbM(m:Bool)(d:D):Option (Option Int):=if m then(match d with|.int i=>some (some i)|_=>none) else some none
noncomputable def zlO(i j:Int):Bool:=decide (-(2^64)<i/\i<2^64)||decide (-(2^64)<j/\j<2^64)
noncomputable def binI(S:St)(op:Operator)(i j:Int):Out D:=match op with|.Add=>.ok (.int (i+j)) S|.Sub=>.ok (.int (i-j)) S|.Mult=>if zlO i j then .ok (.int (i*j)) S else .bad|.FloorDiv=>if 0<j/\j<1073741824 then .ok (.int (i/j)) S else .bad|.Mod=>if 0<j then .ok (.int (i%j)) S else .bad|.Pow=>if 0<=j/\j<=1000000/\-18446744073709551616<i/\i<18446744073709551616 then .ok (.int (i^j.toNat)) S else .bad|_=>.bad
noncomputable def binD(S:St)(op:Operator)(x y:D):Out D:=match x,y with|.int i,.int j=>binI S op i j|.tup xs,.tup ys=>(match op with|.Add=>if xs.length+ys.length<=16777216 then .ok (.tup (xs++ys)) S else .bad|_=>.bad)|.ref a,.ref b=>(match op,S.get a,S.get b with|.Add,some (.lst xs),some (.lst ys)=>lay S (xs++ys)|_,_,_=>.bad)|_,_=>.bad
noncomputable def eqD(S:St)(x y:D):Option Bool:=(pd S 60 x).bind fun a=>(pd S 60 y).map fun b=>PyData.eqv a b
noncomputable def inD(S:St)(x:D)(ys:List D):Option Bool:=(ys.mapM fun z=>eqD S z x).map fun bs=>bs.any id
noncomputable def zb9(ds:List D):Option (List Int):=ds.mapM zbG
noncomputable def cmpI(op:CmpOp)(i j:Int):Option Bool:=match op with|.Eq=>some (decide (i=j))|.NotEq=>some (!decide (i=j))|.Lt=>some (decide (i<j))|.LtE=>some (decide (i<=j))|.Gt=>some (decide (j<i))|.GtE=>some (decide (j<=i))|_=>none
noncomputable def zl6:D->Bool|.non=>true|_=>false
noncomputable def zdS:D->Option K3
 |.tup [_,.tup ds,.int b,_]=>(zb9 ds).map fun p=>(0,p,b)|_=>none
noncomputable def zd8(S:St)(x:D):Option (List D×List K3):=match x with|.ref p=>(match S.get p with|some (.lst ds)=>(ds.mapM zdS).map fun ks=>(ds,ks)|_=>none)|_=>none
noncomputable def cmpO(S:St)(op:CmpOp)(x y:D):Option Bool:=match op with|.Eq=>eqD S x y|.NotEq=>(eqD S x y).map (!·)|.Is=>(match y with|.non=>some (zl6 x)|_=>none)|.IsNot=>(match y with|.non=>some (!zl6 x)|_=>none)|.In=>(zcc S y).bind fun ys=>inD S x ys|.NotIn=>((zcc S y).bind fun ys=>inD S x ys).map (!·)|_=>none
noncomputable def cmpD(S:St)(op:CmpOp)(x y:D):Option Bool:=match x,y with|.int i,.int j=>cmpI op i j|_,_=>cmpO S op x y
inductive Bi where
 |len|abs|min2|isin (t:String)
inductive Mt where
 |append
noncomputable def bi(S:St):Bi->List D->Out D
 |.len,[x]=>(match x with
  |.tup ds=>.ok (.int ds.length) S|.fix ds=>.ok (.int ds.length) S|.ref l=>(match S.get l with|some (.lst ds)=>.ok (.int ds.length) S|_=>.bad)|_=>.bad)
 |.abs,[.int i]=>.ok (.int (if i<0 then -i else i)) S|.min2,[.int i,.int j]=>.ok (.int (if j<i then j else i)) S|.isin t,[x]=>(match tyOf S x with|some a=>.ok (.bl (a==t||(a=="bool"&&t=="int"))) S|none=>.bad)|_,_=>.bad
noncomputable def isL(S:St):D->Bool
 |.ref l=>(match S.get l with|some (.lst _)=>true|_=>false)|_=>false
noncomputable def mt(S:St):Mt->D->List D->Out D
 |.append,.ref l,[y]=>(match S.get l with|some (.lst ds)=>wr S l (ds++[y]) .non|_=>.bad)|_,_,_=>.bad
noncomputable def putI:List (Int×D)->Int->D->List (Int×D)
 | [],k,v=>[(k,v)]|(j,d)::r,k,v=>if j=k then(j,v)::r else(j,d)::putI r k v
noncomputable def dicI(S:St)(x:D):Option (List Int):=match x with|.ref p=>(match S.get p with|some (.dic kvs)=>some (kvs.map (·.1))|_=>none)|_=>none
noncomputable def dPut(S:St)(x y v:D):Option St:=match x with
 |.ref l=>(match S.get l with
  |some (.dic kvs)=>(zbG y).bind fun k=>if kvs.length<16777216 then S.put l (.dic (putI kvs k v)) else none|some (.lst ds)=>(zbG y).bind fun i=>(ixN ds.length i).bind fun j=>S.put l (.lst (ds.set j v))|_=>none)
 |_=>none
noncomputable def lsts(S:St)(x y:D):Option (Nat×List D×List D):=match x,y with|.ref p,.ref r=>(match S.get p,S.get r with|some (.lst ds),some (.lst es)=>some (p,ds,es)|_,_=>none)|_,_=>none
noncomputable def valI(kvs:List (Int×D))(k:Int):Option D:=(kvs.find? fun kv=>decide (kv.1=k)).map (·.2)
noncomputable def isDi(S:St):D->Bool
 |.ref l=>(match S.get l with|some (.dic _)=>true|_=>false)|_=>false
noncomputable def zeY(S:St)(x y:D):Option (Option D):=match x with|.ref l=>(match S.get l with|some (.dic kvs)=>(zbG y).map fun k=>valI kvs k|_=>none)|_=>none
noncomputable def zdT(S:St)(x y v:D):Option (D×St):=match zeY S x y with|some (some u)=>some (u,S)|some none=>(dPut S x y v).map fun T=>(v,T)|none=>none
noncomputable def zbh(S:St):D->Option (Nat×List (Str×D))
 |.ref l=>(match S.get l with|some (.ins c fs)=>some (c,fs)|_=>none)|_=>none
noncomputable def zje(f:Str)(v:D):List (Str×D)->List (Str×D)
 | []=>[(f,v)]|(g,x)::r=>if g=f then(g,v)::r else(g,x)::zje f v r
noncomputable def zbB(S:St)(x:D)(f:Str)(v:D):Option St:=match x with|.ref l=>(match S.get l with|some (.ins c fs)=>if fs.length<1000 then S.put l (.ins c (zje f v fs)) else none|_=>none)|_=>none
noncomputable def zmK:D->Bool|.non=>true|_=>false
noncomputable def stpI(n:Nat)(k:Int):List Nat:=PySem.sliceRange (if k>0 then 0 else(n:Int)-1) (if k>0 then(n:Int) else -1) k
noncomputable def stp{α:Type}(xs:List α)(k:Int):List α:=(stpI xs.length k).filterMap (xs[·]?)
mutual
inductive CE where
 |loc (i:Nat)|con (d:D)
 |tst (a:CE)
 |bin (op:Operator) (a b:CE)|neg (a:CE)|nt (a:CE)
 |cmp (op:CmpOp) (a b:CE)|cmp2 (op op':CmpOp) (a b c:CE)
 |and (a b:CE)|or (a b:CE)|ite (c a b:CE)
 |tup (es:CEs)|lst (es:CEs)|dnew|srtK (a:CE)|dgetI (a b c:CE)|dsetI (a b c:CE)|rep (a b:CE)|dic1 (a b:CE)|dsrt (a:CE)|dlst (a:CE)|srt (a:CE)|clr (a:CE)|extv (a b:CE)
 |ix (a b:CE)
 |fld (a:CE) (f:Str)|mk (c f:Nat) (x:Str) (j:Nat) (es:CEs)|meth (m:Str) (tb:List (Nat×Nat)) (o:CE) (es:CEs)|callC (f:Nat) (x m:Str) (es:CEs)
 |sl (a:CE) (ml mh:Bool) (lo hi:CE)|slS (a b:CE)
 |call (f j:Nat) (es:CEs)|callW (f j:Nat) (es:CEs)|bi (b:Bi) (es:CEs)|mt (m:Mt) (o:CE) (es:CEs)
 |mkL (l:CL)|mkT (l:CL)|all (l:CL)|sset (a:CE)|min1 (a:CE)
inductive CEs where
 |nil|cons (e:CE) (r:CEs)
inductive CL where
 |val (e:CE)|rng1 (a:CE)|rng2 (a b:CE)|enum (a:CE)
 |comp (nt:Nat) (js:List Nat) (g:List Nat) (it:CL) (c:CE) (e:CE)
end
inductive CS where
 |nil|stop|asg (i:Nat) (e:CE) (r:CS)|asgT (g:List Nat) (e:CE) (r:CS)|setIx (a b e:CE) (r:CS)|setF (a:CE) (f:Str) (e:CE) (r:CS)
 |ifS (c:CE) (t u:CS) (r:CS)|forS (g:List Nat) (l:CL) (b:CS) (r:CS)|ret (e:CE) (r:CS)|expr (e:CE) (r:CS)
abbrev Ev:=List (Option D)
noncomputable def zeh:List Nat->List D->Ev->Ev
 |i::is,d::ds,δ=>zeh is ds (δ.set i (some d))|_,_,δ=>δ
noncomputable def asgG(g:List Nat)(x:D)(δ:Ev):Option Ev:=match g with| [i]=>some (δ.set i (some x))|is=>(match x with|.tup ds=>if ds.length=is.length then some (zeh is ds δ) else none|_=>none)
noncomputable def zcv(x y:D):D:=.tup [x,y]
noncomputable def zbQ(S:St):D->Option (List D×List Nat)
 |.ref l=>(match S.get l with|some (.lst xs)=>some (xs.mapIdx fun i d=>zcv (.int i) d,[l])|_=>none)|.tup xs=>some (xs.mapIdx fun i d=>zcv (.int i) d,[])|_=>none
abbrev CF:=Nat->List D->St->Out D
noncomputable def zcy(S:St)(d:D)(T:St):Out D:=
 if flat S.len d then .ok d S else
 let keep:Out D:=.ok d ⟨S.frz,S.new++T.new,S.lk⟩
 match d with
  |.ref l=>(match T.get l with
   |some (.lst ds)=>if flats S.len ds then .ok (.ref S.len) (S.push (.lst ds)) else keep|some (.dic kvs)=>if flats S.len (kvs.map (·.2)) then .ok (.ref S.len) (S.push (.dic kvs)) else keep|_=>keep)
  |_=>keep
noncomputable def zjK(S:St)(d:D)(T:St):Out (List D):=match d with|.ref l=>if l<S.len then .bad else(match T.get l with|some (.lst ds)=>if flats S.len ds then .ok ds S else .bad|_=>.bad)|_=>.bad
@[irreducible]noncomputable def app(cf:CF)(f:Nat)(ds:List D)(S:St):Out D:=(cf f ds S.enter).bind fun d T=>zcy S d T
@[irreducible]noncomputable def appL(cf:CF)(f:Nat)(ds:List D)(S:St):Out (List D):=(cf f ds S.enter).bind fun d T=>zjK S d T
@[irreducible]noncomputable def appW(cf:CF)(f:Nat)(ds:List D)(S:St):Out D:=cf f ds S
noncomputable def csl(nt:Nat)(js:List Nat)(δ:Ev):Ev:=List.replicate nt none++js.map fun j=>(δ[j]?).join
noncomputable def zaI(g:List Nat)(c:Ev->St->Out Bool)(e:Ev->St->Out D):List D->Ev->St->Out (List D)
 | [],_,S=>.ok [] S| x::xs,δ,S=>match asgG g x δ with|none=>.bad|some δ'=>(c δ' S).bind fun b S1=>if b then(e δ' S1).bind fun d S2=>(zaI g c e xs δ' S2).bind fun ds S3=>.ok (d::ds) S3 else zaI g c e xs δ' S1
noncomputable def zbg(ls:List Nat)(S:St)(f:St->Out α):Out α:=(f {S with lk:=ls++S.lk}).bind fun a S'=>.ok a {S' with lk:=S.lk}
noncomputable def zdF:D->Option Bool
 |.bl b=>some b|_=>none
noncomputable def allD(ds:List D):Option Bool:=(ds.mapM zdF).map fun bs=>bs.all id
noncomputable def insZ(x:Int):List Int->List Int
 | []=>[x]|y::l=>if x<=y then x::y::l else y::insZ x l
noncomputable def zak:List Int->List Int
 | []=>[]|x::l=>insZ x (zak l)
noncomputable def minZ:List Int->Option Int
 | []=>none|x::l=>match minZ l with|none=>some x|some k=>some (if x<=k then x else k)
noncomputable def lstI(S:St)(x:D):Option (List Int):=match x with|.ref p=>(match S.get p with|some (.lst ds)=>zb9 ds|_=>none)|_=>none
noncomputable def dedup(xs:List Int):List Int:=xs.foldl (fun acc x=>if acc.contains x then acc else acc++[x]) []
section
variable(cf:CF)
mutual
noncomputable def evE(e₀:CE)(δ:Ev)(S:St):Out D:=match e₀ with
 |.loc i=>lift S (δ[i]?).join|.con d=>.ok d S|.tst _=>.bad|.bin op a b=>(evE a δ S).bind fun x S1=>(evE b δ S1).bind fun y S2=>binD S2 op x y|.neg a=>(evE a δ S).bind fun x S1=>match x with|.int i=>.ok (.int (-i)) S1|_=>.bad
 |.nt a=>(evE a δ S).bind fun x S1=>match x with|.bl b=>.ok (.bl (!b)) S1|_=>.bad
 |.cmp op a b=>(evE a δ S).bind fun x S1=>(evE b δ S1).bind fun y S2=>(lift S2 (cmpD S2 op x y)).bind fun k S3=>.ok (.bl k) S3|.cmp2 op op' a b c=>(evE a δ S).bind fun x S1=>(evE b δ S1).bind fun y S2=>(lift S2 (cmpD S2 op x y)).bind fun k S3=>if k then(evE c δ S3).bind fun z S4=>(lift S4 (cmpD S4 op' y z)).bind fun k' S5=>.ok (.bl k') S5 else .ok (.bl false) S3|.and a b=>(evE a δ S).bind fun x S1=>match x with|.bl k=>if k then evE b δ S1 else .ok (.bl false) S1|_=>.bad
 |.or a b=>(evE a δ S).bind fun x S1=>match x with|.bl k=>if k then .ok (.bl true) S1 else evE b δ S1|_=>.bad
 |.ite c a b=>(evT c δ S).bind fun k S1=>if k then evE a δ S1 else evE b δ S1|.tup es=>(evEs es δ S).bind fun ds S1=>if ds.length<=16777216 then .ok (.tup ds) S1 else .bad|.lst es=>(evEs es δ S).bind fun ds S1=>lay S1 ds|.dnew=>.ok (.ref S.len) (S.push (.dic []))|.srtK a=>(evE a δ S).bind fun x S1=>(lift S1 (zd8 S1 x)).bind fun q S2=>if q.2.length<64/\q.2.Pairwise Lt3 then lay S2 q.1 else .bad
 |.rep a b=>(evE a δ S).bind fun x S1=>(evE b δ S1).bind fun y S2=>match x,y with
  |.ref p,.int k=>if -(2^63)<=k/\k<2^63 then(match S2.get p with|some (.lst ds)=>lay S2 (List.replicate k.toNat ds).flatten|_=>.bad) else .bad|_,_=>.bad
 |.dic1 a b=>(evE a δ S).bind fun x S1=>(evE b δ S1).bind fun v S2=>(lift S2 (zbG x)).bind fun k S3=>.ok (.ref S3.len) (S3.push (.dic [(k,v)]))|.dlst a=>(evE a δ S).bind fun x S1=>(lift S1 (dicI S1 x)).bind fun is S2=>lay S2 (is.map .int)|.srt a=>(evE a δ S).bind fun x S1=>(lift S1 (lstI S1 x)).bind fun is S2=>if is.length<64 then lay S2 ((zak is).map .int) else .bad|.clr a=>(evE a δ S).bind fun x S1=>if isL S1 x then(match x with|.ref l=>wr S1 l [] .non|_=>.bad) else .bad|.dsrt a=>(evE a δ S).bind fun x S1=>(lift S1 (dicI S1 x)).bind fun is S2=>if is.length<64 then lay S2 ((zak is).map .int) else .bad|.dgetI a b c=>(evE a δ S).bind fun x S1=>if isDi S1 x then(evE b δ S1).bind fun y S2=>(evE c δ S2).bind fun z S3=>(lift S3 (zeY S3 x y)).bind fun o S4=>.ok (o.getD z) S4 else .bad|.dsetI a b c=>(evE a δ S).bind fun x S1=>if isDi S1 x then(evE b δ S1).bind fun y S2=>(evE c δ S2).bind fun z S3=>(lift S3 (zdT S3 x y z)).bind fun o _=>.ok o.1 o.2 else .bad|.extv a b=>(evE a δ S).bind fun x S1=>if isL S1 x then(evE b δ S1).bind fun y S2=>(lift S2 (lsts S2 x y)).bind fun o S3=>wr S3 o.1 (o.2.1++o.2.2) .non else .bad|.fld a f=>(evE a δ S).bind fun x S1=>lift S1 ((zbh S1 x).bind fun p=>p.2.lookup f)|.mk c f _ j es=>(evEs es δ S).bind fun ds S1=>(appW cf f (.ref S1.len::(ds++List.replicate j .non)) (S1.push (.ins c []))).bind fun d S2=>if zmK d then .ok (.ref S1.len) S2 else .bad|.meth m tb o es=>(evE o δ S).bind fun x S1=>(lift S1 (zbh S1 x)).bind fun p S1=>(lift S1 (tb.lookup p.1)).bind fun f S1=>if(p.2.lookup m).isNone then(evEs es δ S1).bind fun ds S2=>appW cf f (x::ds) S2 else .bad|.callC f _ _ es=>(evEs es δ S).bind fun ds S1=>appW cf f ds S1|.ix a b=>(evE a δ S).bind fun x S1=>(evE b δ S1).bind fun y S2=>match zcc S2 x,y with|some ds,.int i=>lift S2 (atI ds i)|_,_=>.bad
 |.slS a b=>(evE a δ S).bind fun x S1=>(evE b δ S1).bind fun y S2=>match x,y with
  |.ref p,.int k=>if k=0 then .bad else(match S2.get p with|some (.lst ds)=>lay S2 (stp ds k)|_=>.bad)|_,_=>.bad
 |.sl a ml mh lo hi=>(evE a δ S).bind fun x S1=>(evE lo δ S1).bind fun y S2=>(evE hi δ S2).bind fun z S3=>match zbM ml y,zbM mh z with
  |some l,some h=>(match x with
   |.tup ds=>.ok (.tup (cut ds l h)) S3|.fix ds=>lay S3 (cut ds l h)|.ref p=>(match S3.get p with|some (.lst ds)=>lay S3 (cut ds l h)|_=>.bad)|_=>.bad)
  |_,_=>.bad
 |.call f j es=>(evEs es δ S).bind fun ds S1=>app cf f (ds++List.replicate j .non) S1|.callW f j es=>(evEs es δ S).bind fun ds S1=>appW cf f (ds++List.replicate j .non) S1|.bi b es=>(evEs es δ S).bind fun ds S1=>R.bi S1 b ds|.mt m o es=>(evE o δ S).bind fun x S1=>if isL S1 x then(evEs es δ S1).bind fun ds S2=>R.mt S2 m x ds else .bad|.mkL l=>(evL l δ S).bind fun r S1=>lay S1 r.1|.mkT l=>(evL l δ S).bind fun r S1=>if r.1.length<=16777216 then .ok (.tup r.1) S1 else .bad|.all l=>(evL l δ S).bind fun r S1=>(lift S1 (allD r.1)).bind fun b S2=>.ok (.bl b) S2|.min1 a=>(evE a δ S).bind fun x S1=>(lift S1 (lstI S1 x)).bind fun is S2=>(lift S2 (minZ is)).bind fun k S3=>.ok (.int k) S3|.sset a=>(evE a δ S).bind fun x S1=>(lift S1 (lstI S1 x)).bind fun is S2=>if is.length<64 then lay S2 ((zak (dedup is)).map .int) else .bad
noncomputable def evEs(e₀:CEs)(δ:Ev)(S:St):Out (List D):=match e₀ with|.nil=>.ok [] S|.cons e r=>(evE e δ S).bind fun d S1=>(evEs r δ S1).bind fun ds S2=>.ok (d::ds) S2
noncomputable def evT(e₀:CE)(δ:Ev)(S:St):Out Bool:=match e₀ with|.cmp op a b=>(evE a δ S).bind fun x S1=>(evE b δ S1).bind fun y S2=>lift S2 (cmpD S2 op x y)|.cmp2 op op' a b c=>(evE a δ S).bind fun x S1=>(evE b δ S1).bind fun y S2=>(lift S2 (cmpD S2 op x y)).bind fun k S3=>if k then(evE c δ S3).bind fun z S4=>lift S4 (cmpD S4 op' y z) else .ok false S3|.nt a=>(evT a δ S).bind fun k S1=>.ok (!k) S1|.and a b=>(evT a δ S).bind fun k S1=>if k then evT b δ S1 else .ok false S1|.or a b=>(evT a δ S).bind fun k S1=>if k then .ok true S1 else evT b δ S1|.tst e=>(evE e δ S).bind fun x S1=>lift S1 (tru S1 x)|_=>.bad
noncomputable def evL(e₀:CL)(δ:Ev)(S:St):Out (List D×List Nat):=match e₀ with
 |.val e=>(evE e δ S).bind fun x S1=>(lift S1 (zcc S1 x)).bind fun ds S2=>.ok (ds,lkOf S2 x) S2|.rng1 a=>(evE a δ S).bind fun x S1=>match x with|.int j=>if -(2^62)<=j/\j<2^62 then .ok ((List.range j.toNat).map fun(k:Nat)=>.int k,[]) S1 else .bad|_=>.bad
 |.rng2 a b=>(evE a δ S).bind fun x S1=>(evE b δ S1).bind fun y S2=>match x,y with
  |.int i,.int j=>if -(2^62)<=i/\i<2^62/\-(2^62)<=j/\j<2^62 then .ok ((List.range (j-i).toNat).map fun(k:Nat)=>.int (i+k),[]) S2 else .bad|_,_=>.bad
 |.enum a=>(evE a δ S).bind fun x S1=>lift S1 (zbQ S1 x)|.comp n js g it c e=>(evL it δ S).bind fun r S1=>(zbg r.2 S1 fun S2=>zaI g (evT c) (evE e) r.1 (csl n js δ) S2).bind fun ds S3=>if ds.length<=16777216 then .ok (ds,[]) S3 else .bad
end
inductive Fl where
 |nx (δ:Ev)|rt (d:D)
noncomputable def zaB(g:List Nat)(b:Ev->St->Out Fl):List D->Ev->St->Out Fl
 | [],δ,S=>.ok (.nx δ) S| x::xs,δ,S=>match asgG g x δ with|none=>.bad| some δ'=>(b δ' S).bind fun f S1=>match f with|.nx δ2=>zaB g b xs δ2 S1|.rt d=>.ok (.rt d) S1
noncomputable def exS(e₀:CS)(δ:Ev)(S:St):Out Fl:=match e₀ with
 |.nil=>.ok (.nx δ) S|.stop=>.bad|.asg i e r=>(evE cf e δ S).bind fun x S1=>exS r (δ.set i (some x)) S1|.asgT g e r=>(evE cf e δ S).bind fun x S1=>(lift S1 (asgG g x δ)).bind fun δ' S2=>exS r δ' S2|.setIx a b e r=>(evE cf e δ S).bind fun v S1=>(evE cf a δ S1).bind fun x S2=>(evE cf b δ S2).bind fun y S3=>match dPut S3 x y v with|some S4=>exS r δ S4|none=>.bad
 |.setF a f e r=>(evE cf e δ S).bind fun v S1=>(evE cf a δ S1).bind fun x S2=>match zbB S2 x f v with|some S3=>exS r δ S3|none=>.bad
 |.ifS c t u r=>(evT cf c δ S).bind fun k S1=>(if k then exS t δ S1 else exS u δ S1).bind fun f S2=>match f with
  |.nx δ'=>exS r δ' S2|.rt d=>.ok (.rt d) S2
 |.forS g l b r=>(evL cf l δ S).bind fun q S1=>(zbg q.2 S1 fun S2=>zaB g (exS b) q.1 δ S2).bind fun f S3=>match f with
  |.nx δ'=>exS r δ' S3|.rt d=>.ok (.rt d) S3
 |.ret e _=>(evE cf e δ S).bind fun x S1=>.ok (.rt x) S1|.expr e r=>(evE cf e δ S).bind fun _ S1=>exS r δ S1
end
inductive Prim where
 |lam
structure Fn where
 np:Nat
 nn:Nat
 body:CS
 prim:Option Prim
noncomputable def zaE(F:Fn)(ds:List D):Ev:=ds.map some++List.replicate (F.nn-F.np) none
noncomputable def callF(P:List Fn):Nat->CF
 |0,_,_,_=>.bad
 |n+1,f,ds,S=>match P[f]? with
  | some F=>if ds.length=F.np then(match F.prim with
     |some .lam=>if 3<=n then(exS (callF P n) F.body (zaE F ds) S).bind fun r T=>(match r with
      |.nx _=>.ok .non T|.rt d=>.ok d T) else .bad
     |none=>(exS (callF P n) F.body (zaE F ds) S).bind fun r T=>match r with|.nx _=>.ok .non T|.rt d=>.ok d T)
    else .bad
  |none=>.bad
@[simp]theorem zaD(a:α)(S:St)(f:α->St->Out β):(Out.ok a S).bind f=f a S:=rfl
@[simp]theorem zrK(f:α->St->Out β):(Out.bad:Out α).bind f=.bad:=rfl
@[simp]theorem zaU(S:St)(a:α):lift S (some a)=.ok a S:=rfl
theorem zaC(S:St):S.enter.get=S.get:=by funext l;simp only[St.get,St.enter,length_append,List.getElem?_append];by_cases h:l<S.frz.length;simp[lt_of_lt_of_le h (Nat.le_add_right _ _)];simp only[h];split;rfl;simp only[List.getElem?_nil];exact(List.getElem?_eq_none (by omega)).symm
@[simp]theorem zfK(S:St):S.enter.frz=S.frz++S.new:=rfl
@[simp]theorem zrj(S:St):S.enter.new=[]:=rfl
@[simp]theorem zrJ(S:St):S.enter.lk=[]:=rfl
@[simp]theorem enter_len(S:St):S.enter.len=S.len:=by simp[St.len]
theorem zce(S:St):(S.frz++S.new).length=S.len:=by simp[St.len]
theorem zai{S:St}(h:S.get l=some o):l<S.len:=by unfold St.get at h;unfold St.len;split at h;omega;have:=(List.getElem?_eq_some_iff.mp h).1;omega
theorem zoH{S:St}(h:S.get l=some o)(nw:List MO)(lk:List Nat):(St.mk (S.frz++S.new) nw lk).get l=some o:=by
 have hl:=zai h;rw[<-zaC]at h;unfold St.get at h⊢;have e:l<(S.frz++S.new).length:=by rw[zce];exact hl
 simp only[zfK,e]at h⊢;exact h
@[simp]theorem zrG(n:Nat):flat n .non=true:=by simp[flat]
@[simp]theorem zsx(n:Nat)(b:Bool):flat n (.bl b)=true:=by simp[flat]
@[simp]theorem zrH(n:Nat)(i:Int):flat n (.int i)=true:=by simp[flat]
@[simp]theorem zrF(n:Nat)(x:Str):flat n (.str x)=true:=by simp[flat]
@[simp]theorem zrE(n:Nat)(ds:List D):flat n (.tup ds)=flats n ds:=by simp[flat]
@[simp]theorem zrI(n:Nat)(ds:List D):flat n (.fix ds)=flats n ds:=by simp[flat]
@[simp]theorem zrc(n:Nat):flats n []=true:=by simp[flats]
@[simp]theorem zo6(n:Nat)(d:D)(ds:List D):flats n (d::ds)=(flat n d&&flats n ds):=by simp[flats]
@[simp]theorem zcY(n:Nat):∀ds es:List D,flats n (ds++es)=(flats n ds&&flats n es)
  | [],es=>by simp|d::ds,es=>by simp[zcY n ds es,Bool.and_assoc]
theorem zaV(n:Nat):∀ds:List D,flats n ds=true↔∀d∈ds,flat n d=true
 | []=>by simp|d::ds=>by simp[zaV n ds]
@[simp]theorem zo5(n:Nat)(ns:List Int):flats n (ns.map D.int)=true:=by rw[zaV];simp
@[simp]theorem zia(S:St)(d:D)(T:St)(h:flat S.len d=true):zcy S d T=.ok d S:=by simp[zcy,h]
def W(o:Out α)(Q:α->St->Prop):Prop:=match o with|.ok a S=>Q a S|_=>False
@[simp]theorem W_ok(a:α)(S:St)(Q:α->St->Prop):W (.ok a S) Q=Q a S:=rfl
@[simp]theorem zsI(Q:α->St->Prop):W (.bad:Out α) Q=False:=rfl
@[simp]theorem zaa(o:Out α)(f:α->St->Out β)(Q:β->St->Prop):W (o.bind f) Q=W o fun a S=>W (f a S) Q:=by cases o<;>rfl
theorem W.mono(h:W o Q)(hq:∀a S,Q a S->Q' a S):W o Q':=by cases o with|ok a S=>exact hq a S h|bad=>exact h
theorem W.eq(h:W o fun a T=>a=d/\T=S):o=.ok d S:=by cases o with|ok a T=>obtain⟨rfl,rfl⟩:=h;rfl|bad=>exact False.elim h
theorem W.of(h:o=.ok d S)(q:Q d S):W o Q:=by rw[h];exact q
theorem W.iff:W o Q↔∃a S,o=.ok a S/\Q a S:=by cases o with|ok a S=>exact⟨fun h=>⟨a,S,rfl,h⟩,fun⟨_,_,e,h⟩=>by cases e;exact h⟩|bad=>exact⟨fun h=>h.elim,fun⟨_,_,e,_⟩=>nomatch e⟩
noncomputable def fin(S:St)(r:Fl)(T:St):Out D:=match r with|.nx _=>zcy S .non T|.rt d=>zcy S d T
@[simp]theorem zhn(S T:St)(d:D):fin S (.rt d) T=zcy S d T:=rfl
@[simp]theorem zsH(S T:St)(δ:Ev):fin S (.nx δ) T=.ok .non S:=by simp[fin]
theorem zhC(h:P[f]?=some F)(hl:ds.length=F.np)(hp:F.prim=none:=by rfl) :
  app (callF P (n+1)) f ds S=(exS (callF P n) F.body (zaE F ds) S.enter).bind fun r T=>fin S r T:=by
 simp[app,callF,h,hl,hp];generalize exS (callF P n) F.body (zaE F ds) S.enter=o;cases o with|ok r T=>cases r<;>rfl|bad=>rfl
noncomputable def finL(S:St)(r:Fl)(T:St):Out (List D):=match r with|.nx _=>.bad|.rt d=>zjK S d T
@[simp]theorem zsy(S T:St)(d:D):finL S (.rt d) T=zjK S d T:=rfl
theorem zcD(I:Nat->Ev->St->Prop)(Rt:D->St->Prop):∀(xs:List D)(k:Nat)(δ:Ev)(S:St),I k δ S->
  (∀i x δ S,xs[i]?=some x->I (k+i) δ S->∃δ',asgG g x δ=some δ'/\W (b δ' S) fun f S'=>match f with|.nx δ2=>I (k+i+1) δ2 S'|.rt d=>Rt d S')->
  W (zaB g b xs δ S) fun f S'=>match f with|.nx δ'=>I (k+xs.length) δ' S'|.rt d=>Rt d S'
 | [],k,δ,S,h,_=>by simpa[zaB]using h| x::xs,k,δ,S,h,step=>by obtain⟨δ',e,w⟩:=step 0 x δ S rfl h;simp[zaB,e,zaa];refine w.mono fun f S1 hf=>?_;cases f with|rt d=>exact hf| nx δ2=>have ih:=zcD I Rt xs (k+1) δ2 S1 hf (fun i y δ S hy hi=>by have:=step (i+1) y δ S (by simpa using hy) (by rw[show k+(i+1)=k+1+i by omega];exact hi);rw[show k+(i+1)+1=k+1+i+1 by omega]at this;exact this);rw[show k+1+xs.length=k+(x::xs).length by simp;omega]at ih;exact ih
theorem zbp{rest:Ev}(p:D->Bool)(f:D->D):∀(xs:List D)(o:Option D),
  (∀x∈xs,c (some x::rest) S=.ok (p x) S)->(∀x∈xs,p x=true->e (some x::rest) S=.ok (f x) S)->zaI [0] c e xs (o::rest) S=.ok ((xs.filter p).map f) S
 | [],o,_,_=>rfl| x::xs,o,hc,he=>by have ih:=zbp p f xs (some x) (fun y hy=>hc y (mem_cons_of_mem _ hy)) (fun y hy=>he y (mem_cons_of_mem _ hy));simp[zaI,asgG,List.set_cons_zero,hc x mem_cons_self];cases hp:p x with|false=>simp[ih,hp]|true=>simp[ih,hp,he x mem_cons_self hp]
theorem zba{rest:Ev}(f:D->D)(xs:List D)(o:Option D)
  (hc:∀x∈xs,c (some x::rest) S=.ok true S) (he:∀x∈xs,e (some x::rest) S=.ok (f x) S):zaI [0] c e xs (o::rest) S=.ok (xs.map f) S:=by
 have:=zbp (fun _=>true) f xs o hc (fun x hx _=>he x hx);rw[List.filter_eq_self.mpr (fun _ _=>rfl)]at this;exact this
@[simp]theorem zo4(S:St)(f:St->Out α):zbg [] S f=(f S).bind fun a S'=>.ok a {S' with lk:=S.lk}:=rfl
def wIf(c:Bool)(P Q:Prop):Prop:=match c with|true=>P|false=>Q
@[irreducible]def wOpt{α:Type}(o:Option α)(k:α->Prop):Prop:=match o with|some a=>k a|none=>False
@[irreducible]def zaA(p k:Prop):Prop:=p/\k
@[irreducible]def wOut(o:Out α)(Q:α->St->Prop):Prop:=W o Q
theorem ziC(h:c=true)(k:P):wIf c P Q:=by subst h;exact k
theorem zpc(h:c=false)(k:Q):wIf c P Q:=by subst h;exact k
theorem zrM(h1:c=true->P)(h2:c=false->Q):wIf c P Q:=by cases c with|true=>exact ziC rfl (h1 rfl)|false=>exact zpc rfl (h2 rfl)
theorem zek[Decidable p](h1:p->P)(h2:¬p->Q):wIf (decide p) P Q:=zrM (fun h=>h1 (of_decide_eq_true h)) (fun h=>h2 (of_decide_eq_false h))
theorem wOpt_of(h:o=some a)(q:k a):wOpt o k:=by unfold wOpt;rw[h];exact q
theorem wNeed_of(h:p)(q:k):zaA p k:=by unfold zaA;exact⟨h,q⟩
theorem wOut_of(h:o=.ok a S)(q:Q a S):wOut o Q:=by unfold wOut;rw[h];exact q
theorem za4(h:W o Q):wOut o Q:=by unfold wOut;exact h
abbrev wGet(S:St)(l:Nat)(k:MO->Prop):Prop:=wOpt (S.get l) k
abbrev wPut(S:St)(l:Nat)(o:MO)(k:St->Prop):Prop:=wOpt (S.put l o) k
def wLay(S:St)(ds:List D)(Q:D->St->Prop):Prop:=zaA (ds.length<=16777216) (Q (.ref S.len) (S.push (.lst ds)))
theorem zbA(h:wLay S ds Q):W (lay S ds) Q:=by unfold wLay zaA at h;unfold lay;rw[if_pos h.1];exact h.2
def wWr(S:St)(l:Nat)(ds:List D)(d:D)(Q:D->St->Prop):Prop:=zaA (ds.length<=16777216) (wPut S l (.lst ds) fun S'=>Q d S')
theorem zm4(h:wWr S l ds d Q):W (wr S l ds d) Q:=by unfold wWr zaA wPut wOpt at h;unfold wr;rw[if_pos h.1];have h2:=h.2;cases e:S.put l (.lst ds) with|none=>rw[e]at h2;exact h2.elim|some S'=>rw[e]at h2;exact h2
def zpe(S:St)(op:Operator)(i j:Int)(Q:D->St->Prop):Prop:=match op with|.Add=>Q (.int (i+j)) S|.Sub=>Q (.int (i-j)) S|.Mult=>zaA (zlO i j=true) (Q (.int (i*j)) S)|.FloorDiv=>zaA (0<j/\j<1073741824) (Q (.int (i/j)) S)|.Mod=>zaA (0<j) (Q (.int (i%j)) S)|.Pow=>zaA (0<=j/\j<=1000000/\-18446744073709551616<i/\i<18446744073709551616) (Q (.int (i^j.toNat)) S)|_=>False
def wBin(S:St)(op:Operator)(x y:D)(Q:D->St->Prop):Prop:=match x,y with|.int i,.int j=>zpe S op i j Q|.tup xs,.tup ys=>(match op with|.Add=>zaA (xs.length+ys.length<=16777216) (Q (.tup (xs++ys)) S)|_=>False)|.ref a,.ref b=>(match op with|.Add=>wGet S a fun o=>wGet S b fun u=>(match o,u with|.lst xs,.lst ys=>wLay S (xs++ys) Q|_,_=>False)|_=>False)|_,_=>False
theorem zpd(h:wBin S op x y Q):W (binD S op x y) Q:=by
 unfold wBin at h;unfold binD;split at h
 . unfold zpe zaA at h;unfold binI;split at h<;>(try dsimp only)<;>first|exact h|(rw[if_pos h.1];exact h.2)|exact False.elim h
 split at h
 . unfold zaA at h
   (try simp only)
   rw[if_pos h.1];exact h.2
 exact h.elim;split at h
 . unfold wGet wOpt at h
   (try simp only)
   cases ea:S.get _ with|none=>simp[ea]at h| some o=>simp[ea]at h;cases eb:S.get _ with|none=>simp[eb]at h| some u=>simp[eb]at h;cases o<;>cases u<;>first|exact zbA h|exact h.elim
 exact h.elim;exact h.elim
def wCmp(S:St)(op:CmpOp)(x y:D)(Q:Bool->Prop):Prop:=match x,y with|.int i,.int j=>(match cmpI op i j with|some k=>Q k|none=>False)| _,_=>(match op with|.Is=>(match cmpO S .Is x y with|some k=>Q k|none=>False)|.IsNot=>(match cmpO S .IsNot x y with|some k=>Q k|none=>False)|_=>wOpt (cmpO S op x y) Q)
theorem zoU(h:∀i j,x=.int i->y=.int j->False):cmpD S op x y=cmpO S op x y:=by unfold cmpD;split;rename_i i j;exact(h i j rfl rfl).elim;rfl
theorem zf5(h:wCmp S op x y Q):∃k,cmpD S op x y=some k/\Q k:=by
 have fin:∀o:Option Bool,(match o with|some k=>Q k|none=>False)->∃k,o=some k/\Q k:=fun o q=>by cases o with|none=>exact q.elim|some k=>exact⟨k,rfl,q⟩
 unfold wCmp at h;split at h;exact fin _ h;rename_i hn;rw[zoU hn];split at h;exact fin _ h;exact fin _ h;unfold wOpt at h;cases e:cmpO S op x y with|none=>rw[e]at h;exact h.elim|some k=>rw[e]at h;exact⟨k,rfl,h⟩
theorem zgN(h:wCmp S op x y fun k=>Q k S):W (lift S (cmpD S op x y)) Q:=by obtain⟨k,e,q⟩:=zf5 h;rw[e];exact q
def wBi(S:St)(b:Bi)(ds:List D)(Q:D->St->Prop):Prop:=match b,ds with
 |.len,[x]=>(match x with
  |.tup ds=>Q (.int ds.length) S|.fix ds=>Q (.int ds.length) S|.ref l=>wGet S l fun o=>(match o with|.lst ds=>Q (.int ds.length) S|_=>False)|_=>False)
 |.abs,[.int i]=>Q (.int (if i<0 then -i else i)) S|.min2,[.int i,.int j]=>Q (.int (if j<i then j else i)) S|.isin t,[x]=>wOpt (tyOf S x) fun a=>Q (.bl (a==t||(a=="bool"&&t=="int"))) S|_,_=>False
theorem zrN(h:wBi S b ds Q):W (bi S b ds) Q:=by
 unfold wBi at h;split at h;split at h;exact h;exact h;rename_i l;unfold wGet wOpt at h;simp[bi];cases e:S.get l with|none=>rw[e]at h;exact h.elim|some o=>rw[e]at h;cases o<;>first|exact h|exact h.elim
 exact h.elim;exact h;exact h;rename_i t x;unfold wOpt at h;simp[bi];cases e:tyOf S x with|none=>rw[e]at h;exact h.elim|some a=>rw[e]at h;exact h
 exact h.elim
def wIsL(S:St)(x:D)(P:Prop):Prop:=match x with|.ref l=>wGet S l fun o=>(match o with|.lst _=>P|_=>False)|_=>False
theorem zf4(h:wIsL S x P):isL S x=true/\P:=by
 unfold wIsL at h;split at h;rename_i l;unfold wGet wOpt at h;unfold isL;cases e:S.get l with|none=>rw[e]at h;exact h.elim| some o=>rw[e]at h;cases o with|lst ds=>exact⟨by simp[e],h⟩|_=>exact False.elim h
 exact h.elim
def wMt(S:St)(m:Mt)(x:D)(ds:List D)(Q:D->St->Prop):Prop:=match m,x,ds with|.append,.ref l,[y]=>wGet S l fun o=>(match o with|.lst ds=>wWr S l (ds++[y]) .non Q|_=>False)|_,_,_=>False
theorem zrL(h:wMt S m x ds Q):W (mt S m x ds) Q:=by
 unfold wMt at h;split at h;rename_i l y;unfold wGet wOpt at h;simp[mt];cases e:S.get l with|none=>rw[e]at h;exact h.elim|some o=>rw[e]at h;cases o<;>first|exact zm4 h|exact h.elim
 exact h.elim
def wSeq(S:St)(x:D)(k:List D->Prop):Prop:=match x with|.tup ds=>k ds|.fix ds=>k ds|.ref l=>wGet S l fun o=>(match o with|.lst ds=>k ds|_=>False)|_=>False
theorem ziA(h:wSeq S x k):∃ds,zcc S x=some ds/\k ds:=by
 unfold wSeq at h;unfold zcc;split at h;exact⟨_,rfl,h⟩;exact⟨_,rfl,h⟩;rename_i l;unfold wGet wOpt at h;cases e:S.get l with|none=>rw[e]at h;exact h.elim| some o=>rw[e]at h;cases o with|lst ds=>exact⟨ds,by simp[e],h⟩|dic _=>exact False.elim h|ins _ _=>exact False.elim h
 exact h.elim
def wTru(S:St)(x:D)(Q:Bool->Prop):Prop:=match x with|.bl b=>Q b|.non=>Q false|.int i=>Q (i != 0)|.tup ds=>Q (!ds.isEmpty)|.ref l=>wGet S l fun o=>(match o with|.lst ds=>Q (!ds.isEmpty)|_=>False)|_=>False
theorem zpb(h:wTru S x fun k=>Q k S):W (lift S (tru S x)) Q:=by
 unfold wTru at h;unfold tru;split at h;exact h;exact h;exact h;exact h;rename_i l;unfold wGet wOpt at h;simp only;cases e:S.get l with|none=>rw[e]at h;exact h.elim|some o=>rw[e]at h;cases o<;>first|exact h|exact h.elim
 exact h.elim
@[irreducible]def zhE(ls:List Nat)(S:St)(f:St->Out α)(Q:α->St->Prop):Prop:=W (zbg ls S f) Q
theorem ziB(h:zhE ls S f Q):W (zbg ls S f) Q:=by unfold zhE at h;exact h
theorem zaw(h:W (f {S with lk:=ls++S.lk}) fun a T=>Q a {T with lk:=S.lk}):zhE ls S f Q:=by unfold zhE zbg;rw[zaa];exact h
section
variable(cf:CF)
mutual
def wE(e₀:CE)(δ:Ev)(S:St)(Q:(D->St->Prop)):Prop:=match e₀ with
 |.loc i=>(match (δ[i]?).join with|some d=>Q d S|none=>False)|.con d=>Q d S|.tst _=>False|.bin op a b=>wE a δ S fun x S1=>wE b δ S1 fun y S2=>wBin S2 op x y Q|.neg a=>wE a δ S fun x S1=>(match x with|.int i=>Q (.int (-i)) S1|_=>False)|.nt a=>wE a δ S fun x S1=>(match x with|.bl b=>Q (.bl (!b)) S1|_=>False)|.cmp op a b=>wE a δ S fun x S1=>wE b δ S1 fun y S2=>wCmp S2 op x y fun k=>Q (.bl k) S2|.cmp2 op op' a b c=>wE a δ S fun x S1=>wE b δ S1 fun y S2=>wCmp S2 op x y fun k=>wIf k (wE c δ S2 fun z S4=>wCmp S4 op' y z fun k'=>Q (.bl k') S4) (Q (.bl false) S2)|.and a b=>wE a δ S fun x S1=>(match x with|.bl k=>wIf k (wE b δ S1 Q) (Q (.bl false) S1)|_=>False)|.or a b=>wE a δ S fun x S1=>(match x with|.bl k=>wIf k (Q (.bl true) S1) (wE b δ S1 Q)|_=>False)|.ite c a b=>wT c δ S fun k S1=>wIf k (wE a δ S1 Q) (wE b δ S1 Q)|.tup es=>wEs es δ S fun ds S1=>zaA (ds.length<=16777216) (Q (.tup ds) S1)|.lst es=>wEs es δ S fun ds S1=>wLay S1 ds Q|.dnew=>Q (.ref S.len) (S.push (.dic []))|.srtK a=>wE a δ S fun r S1=>wOpt (zd8 S1 r) fun q=>zaA (q.2.length<64/\q.2.Pairwise Lt3) (wLay S1 q.1 Q)
 |.rep a b=>wE a δ S fun x S1=>wE b δ S1 fun y S2=>(match x,y with
  |.ref p,.int k=>zaA (-(2^63)<=k/\k<2^63) (wGet S2 p fun o=>(match o with|.lst ds=>wLay S2 (List.replicate k.toNat ds).flatten Q|_=>False))|_,_=>False)
 |.dic1 a b=>wE a δ S fun x S1=>wE b δ S1 fun v S2=>wOpt (zbG x) fun k=>Q (.ref S2.len) (S2.push (.dic [(k,v)]))|.dlst a=>wE a δ S fun r S1=>wOpt (dicI S1 r) fun is=>wLay S1 (is.map .int) Q|.srt a=>wE a δ S fun r S1=>wOpt (lstI S1 r) fun is=>zaA (is.length<64) (wLay S1 ((zak is).map .int) Q)|.clr a=>wE a δ S fun x S1=>wIsL S1 x (match x with|.ref l=>wWr S1 l [] .non Q|_=>False)|.dsrt a=>wE a δ S fun r S1=>wOpt (dicI S1 r) fun is=>zaA (is.length<64) (wLay S1 ((zak is).map .int) Q)|.dgetI a b c=>wE a δ S fun x S1=>zaA (isDi S1 x=true) (wE b δ S1 fun y S2=>wE c δ S2 fun z S3=>wOpt (zeY S3 x y) fun o=>Q (o.getD z) S3)|.dsetI a b c=>wE a δ S fun x S1=>zaA (isDi S1 x=true) (wE b δ S1 fun y S2=>wE c δ S2 fun z S3=>wOpt (zdT S3 x y z) fun o=>Q o.1 o.2)|.extv a b=>wE a δ S fun x S1=>wIsL S1 x (wE b δ S1 fun y S2=>wOpt (lsts S2 x y) fun o=>wWr S2 o.1 (o.2.1++o.2.2) .non Q)|.fld a f=>wE a δ S fun x S1=>wOpt ((zbh S1 x).bind fun p=>p.2.lookup f) fun v=>Q v S1|.mk c f _ j es=>wEs es δ S fun ds S1=>wOut (appW cf f (.ref S1.len::(ds++List.replicate j .non)) (S1.push (.ins c []))) fun d S2=>zaA (zmK d=true) (Q (.ref S1.len) S2)|.meth m tb o es=>wE o δ S fun x S1=>wOpt (zbh S1 x) fun p=>wOpt (tb.lookup p.1) fun f=>zaA ((p.2.lookup m).isNone=true) (wEs es δ S1 fun ds S2=>wOut (appW cf f (x::ds) S2) Q)|.callC f _ _ es=>wEs es δ S fun ds S1=>wOut (appW cf f ds S1) Q|.ix a b=>wE a δ S fun x S1=>wE b δ S1 fun y S2=>wSeq S2 x fun ds=>(match y with|.int i=>wOpt (atI ds i) fun d=>Q d S2|_=>False)
 |.slS a b=>wE a δ S fun x S1=>wE b δ S1 fun y S2=>(match x,y with
  |.ref p,.int k=>zaA (k≠0) (wGet S2 p fun o=>(match o with|.lst ds=>wLay S2 (stp ds k) Q|_=>False))|_,_=>False)
 |.sl a ml mh lo hi=>wE a δ S fun x S1=>wE lo δ S1 fun y S2=>wE hi δ S2 fun z S3=>(match zbM ml y,zbM mh z with
  |some l,some h=>(match x with
   |.tup ds=>Q (.tup (cut ds l h)) S3|.fix ds=>wLay S3 (cut ds l h) Q|.ref p=>wGet S3 p fun o=>(match o with|.lst ds=>wLay S3 (cut ds l h) Q|_=>False)|_=>False)
  |_,_=>False)
 |.call f j es=>wEs es δ S fun ds S1=>wOut (app cf f (ds++List.replicate j .non) S1) Q|.callW f j es=>wEs es δ S fun ds S1=>wOut (appW cf f (ds++List.replicate j .non) S1) Q|.bi b es=>wEs es δ S fun ds S1=>wBi S1 b ds Q|.mt m o es=>wE o δ S fun x S1=>wIsL S1 x (wEs es δ S1 fun ds S2=>wMt S2 m x ds Q)|.mkL l=>wL l δ S fun r S1=>wLay S1 r.1 Q|.mkT l=>wL l δ S fun r S1=>zaA (r.1.length<=16777216) (Q (.tup r.1) S1)|.all l=>wL l δ S fun r S1=>wOpt (allD r.1) fun b=>Q (.bl b) S1|.min1 a=>wE a δ S fun r S1=>wOpt (lstI S1 r) fun is=>wOpt (minZ is) fun k=>Q (.int k) S1|.sset a=>wE a δ S fun r S1=>wOpt (lstI S1 r) fun is=>zaA (is.length<64) (wLay S1 ((zak (dedup is)).map .int) Q)
def wEs(e₀:CEs)(δ:Ev)(S:St)(Q:(List D->St->Prop)):Prop:=match e₀ with|.nil=>Q [] S|.cons e r=>wE e δ S fun d S1=>wEs r δ S1 fun ds S2=>Q (d::ds) S2
def wT(e₀:CE)(δ:Ev)(S:St)(Q:(Bool->St->Prop)):Prop:=match e₀ with|.cmp op a b=>wE a δ S fun x S1=>wE b δ S1 fun y S2=>wCmp S2 op x y fun k=>Q k S2|.cmp2 op op' a b c=>wE a δ S fun x S1=>wE b δ S1 fun y S2=>wCmp S2 op x y fun k=>wIf k (wE c δ S2 fun z S4=>wCmp S4 op' y z fun k'=>Q k' S4) (Q false S2)|.nt a=>wT a δ S fun k S1=>Q (!k) S1|.and a b=>wT a δ S fun k S1=>wIf k (wT b δ S1 Q) (Q false S1)|.or a b=>wT a δ S fun k S1=>wIf k (Q true S1) (wT b δ S1 Q)|.tst e=>wE e δ S fun x S1=>wTru S1 x fun k=>Q k S1|_=>False
def wL(e₀:CL)(δ:Ev)(S:St)(Q:(List D×List Nat->St->Prop)):Prop:=match e₀ with
 |.val e=>wE e δ S fun x S1=>wSeq S1 x fun ds=>Q (ds,lkOf S1 x) S1|.rng1 a=>wE a δ S fun x S1=>(match x with|.int j=>zaA (-(2^62)<=j/\j<2^62) (Q ((List.range j.toNat).map fun(k:Nat)=>.int k,[]) S1)|_=>False)
 |.rng2 a b=>wE a δ S fun x S1=>wE b δ S1 fun y S2=>(match x,y with
  |.int i,.int j=>zaA (-(2^62)<=i/\i<2^62/\-(2^62)<=j/\j<2^62) (Q ((List.range (j-i).toNat).map fun(k:Nat)=>.int (i+k),[]) S2)|_,_=>False)
 |.enum a=>wE a δ S fun x S1=>wOpt (zbQ S1 x) fun r=>Q r S1|.comp n js g it c e=>wL it δ S fun r S1=>zhE r.2 S1 (fun S2=>zaI g (evT cf c) (evE cf e) r.1 (csl n js δ) S2) fun ds S3=>zaA (ds.length<=16777216) (Q (ds,[]) S3)
end
def wS(e₀:CS)(δ:Ev)(S:St)(Q:(Fl->St->Prop)):Prop:=match e₀ with|.nil=>Q (.nx δ) S|.stop=>False|.asg i e r=>wE cf e δ S fun x S1=>wS r (δ.set i (some x)) S1 Q|.asgT g e r=>wE cf e δ S fun x S1=>wOpt (asgG g x δ) fun δ'=>wS r δ' S1 Q|.setIx a b e r=>wE cf e δ S fun v S1=>wE cf a δ S1 fun x S2=>wE cf b δ S2 fun y S3=>wOpt (dPut S3 x y v) fun S4=>wS r δ S4 Q|.setF a f e r=>wE cf e δ S fun v S1=>wE cf a δ S1 fun x S2=>wOpt (zbB S2 x f v) fun S3=>wS r δ S3 Q|.ifS c t u r=>wT cf c δ S fun k S1=>wIf k (wS t δ S1 fun f S2=>(match f with|.nx δ'=>wS r δ' S2 Q|.rt d=>Q (.rt d) S2)) (wS u δ S1 fun f S2=>(match f with|.nx δ'=>wS r δ' S2 Q|.rt d=>Q (.rt d) S2))|.forS g l b r=>wL cf l δ S fun q S1=>zhE q.2 S1 (fun S2=>zaB g (exS cf b) q.1 δ S2) fun f S3=>(match f with|.nx δ'=>wS r δ' S3 Q|.rt d=>Q (.rt d) S3)|.ret e _=>wE cf e δ S fun x S1=>Q (.rt x) S1|.expr e r=>wE cf e δ S fun _ S1=>wS r δ S1 Q
end
section
variable{cf:CF}
mutual
theorem wE_W:∀(e:CE){δ:Ev}{S:St}{Q:D->St->Prop},wE cf e δ S Q->W (evE cf e δ S) Q
 |.loc i,δ,S,Q,h=>by simp only[evE];change(match (δ[i]?).join with|some d=>Q d S|none=>False) at h;cases e:(δ[i]?).join with|none=>rw[e]at h;exact h.elim|some d=>rw[e]at h;exact h
 |.con d,δ,S,Q,h=>by simp only[evE];exact h|.tst _,δ,S,Q,h=>False.elim h| .bin op a b,δ,S,Q,h=>by simp only[evE,zaa];exact(wE_W a h).mono fun x S1 h1=>(wE_W b h1).mono fun y S2 h2=>zpd h2| .neg a,δ,S,Q,h=>by simp only[evE,zaa];refine(wE_W a h).mono fun x S1 h1=>?_;cases x<;>first|exact h1|exact h1.elim
 |.nt a,δ,S,Q,h=>by simp only[evE,zaa];refine(wE_W a h).mono fun x S1 h1=>?_;cases x<;>first|exact h1|exact h1.elim
 |.cmp op a b,δ,S,Q,h=>by simp only[evE,zaa,W_ok];exact(wE_W a h).mono fun x S1 h1=>(wE_W b h1).mono fun y S2 h2=>zgN (Q:=fun k S=>Q (.bl k) S) h2| .cmp2 op op' a b c,δ,S,Q,h=>by simp only[evE,zaa];refine(wE_W a h).mono fun x S1 h1=>(wE_W b h1).mono fun y S2 h2=>?_;obtain⟨k,e,hk⟩:=zf5 h2;rw[e];unfold wIf at hk;cases k with|false=>exact hk| true=>simp only[if_true,lift,W_ok,zaa]at hk⊢;exact(wE_W c hk).mono fun z S4 h4=>zgN (Q:=fun k S=>Q (.bl k) S) h4
 |.and a b,δ,S,Q,h=>by
  simp only[evE,zaa];refine(wE_W a h).mono fun x S1 h1=>?_;cases x with
  |bl k=>unfold wIf at h1;cases k with|false=>exact h1|true=>exact wE_W b h1
  |_=>exact h1.elim
 |.or a b,δ,S,Q,h=>by
  simp only[evE,zaa];refine(wE_W a h).mono fun x S1 h1=>?_;cases x with
  |bl k=>unfold wIf at h1;cases k with|true=>exact h1|false=>exact wE_W b h1
  |_=>exact h1.elim
 |.ite c a b,δ,S,Q,h=>by simp only[evE,zaa];refine(wT_W c h).mono fun k S1 h1=>?_;unfold wIf at h1;cases k with|true=>exact wE_W a h1|false=>exact wE_W b h1
 |.tup es,δ,S,Q,h=>by simp only[evE,zaa];refine(zdJ es h).mono fun ds S1 h1=>?_;unfold zaA at h1;rw[if_pos h1.1];exact h1.2| .lst es,δ,S,Q,h=>by simp only[evE,zaa];exact(zdJ es h).mono fun ds S1 h1=>zbA h1|.dnew,δ,S,Q,h=>by simp only[evE];exact h| .dgetI a b c,δ,S,Q,h=>by simp only[evE,zaa];refine(wE_W a h).mono fun x S1 h1=>?_;unfold zaA at h1;rw[if_pos h1.1,zaa];refine(wE_W b h1.2).mono fun y S2 h2=>?_;rw[zaa];refine(wE_W c h2).mono fun z S3 h3=>?_;unfold wOpt at h3;cases e:zeY S3 x y with|none=>rw[e]at h3;exact h3.elim|some o=>rw[e]at h3;exact h3
 |.dsetI a b c,δ,S,Q,h=>by simp only[evE,zaa];refine(wE_W a h).mono fun x S1 h1=>?_;unfold zaA at h1;rw[if_pos h1.1,zaa];refine(wE_W b h1.2).mono fun y S2 h2=>?_;rw[zaa];refine(wE_W c h2).mono fun z S3 h3=>?_;unfold wOpt at h3;cases e:zdT S3 x y z with|none=>rw[e]at h3;exact h3.elim|some o=>rw[e]at h3;exact h3
 |.extv a b,δ,S,Q,h=>by simp only[evE,zaa];refine(wE_W a h).mono fun x S1 h1=>?_;obtain⟨c,h1⟩:=zf4 h1;rw[if_pos c,zaa];refine(wE_W b h1).mono fun y S2 h2=>?_;unfold wOpt at h2;cases e:lsts S2 x y with|none=>rw[e]at h2;exact h2.elim|some o=>rw[e]at h2;exact zm4 h2
 |.fld a f,δ,S,Q,h=>by simp only[evE,zaa];refine(wE_W a h).mono fun x S1 h1=>?_;unfold wOpt at h1;cases e:(zbh S1 x).bind fun p=>p.2.lookup f with|none=>rw[e]at h1;exact h1.elim|some o=>rw[e]at h1;exact h1
 |.mk c f _ j es,δ,S,Q,h=>by simp only[evE,zaa];refine(zdJ es h).mono fun ds S1 h1=>?_;unfold wOut at h1;refine h1.mono fun d S2 h2=>?_;unfold zaA at h2;rw[if_pos h2.1];exact h2.2| .meth m tb o es,δ,S,Q,h=>by simp only[evE,zaa];refine(wE_W o h).mono fun x S1 h1=>?_;unfold wOpt at h1;cases e:zbh S1 x with|none=>rw[e]at h1;exact h1.elim| some p=>rw[e]at h1;dsimp only at h1;cases e2:tb.lookup p.1 with|none=>rw[e2]at h1;exact h1.elim| some f=>rw[e2]at h1;unfold zaA at h1;simp only[zaU,W_ok];rw[e2,zaU,W_ok,if_pos h1.1,zaa];refine(zdJ es h1.2).mono fun ds S2 h2=>?_;unfold wOut at h2;exact h2
 |.callC f _ _ es,δ,S,Q,h=>by simp only[evE,zaa];refine(zdJ es h).mono fun ds S1 h1=>?_;unfold wOut at h1;exact h1| .ix a b,δ,S,Q,h=>by
  simp only[evE,zaa];refine(wE_W a h).mono fun x S1 h1=>(wE_W b h1).mono fun y S2 h2=>?_;obtain⟨ds,e,h3⟩:=ziA h2;rw[e];cases y with
  |int i=>unfold wOpt at h3;simp only at h3⊢;cases e2:atI ds i with|none=>rw[e2]at h3;exact h3.elim|some d=>rw[e2]at h3;exact h3
  |_=>exact h3.elim
 |.slS a b,δ,S,Q,h=>by
  simp only[evE,zaa];refine(wE_W a h).mono fun x S1 h1=>(wE_W b h1).mono fun y S2 h2=>?_;cases x with
  |ref p=>
   cases y with
   |int k=>dsimp only at h2⊢;unfold zaA at h2;rw[if_neg h2.1];have h3:=h2.2;unfold wGet wOpt at h3;cases e:S2.get p with|none=>rw[e]at h3;exact h3.elim|some o=>rw[e]at h3;cases o<;>first|exact zbA h3|exact h3.elim
   |_=>exact h2.elim
  |_=>exact h2.elim
 |.sl a ml mh lo hi,δ,S,Q,h=>by
  simp only[evE,zaa];refine(wE_W a h).mono fun x S1 h1=>(wE_W lo h1).mono fun y S2 h2=>(wE_W hi h2).mono fun z S3 h3=>?_;cases ey:zbM ml y with
  |none=>rw[ey]at h3;exact h3.elim| some l=>
   cases ez:zbM mh z with
   |none=>rw[ey,ez]at h3;exact h3.elim| some u=>
    rw[ey,ez]at h3;cases x with
    |tup ds=>exact h3|fix ds=>exact zbA h3| ref p=>unfold wGet wOpt at h3;simp only at h3⊢;cases e:S3.get p with|none=>rw[e]at h3;exact h3.elim|some o=>rw[e]at h3;cases o<;>first|exact zbA h3|exact h3.elim
    |_=>exact h3.elim
 |.call f j es,δ,S,Q,h=>by simp only[evE,zaa];refine(zdJ es h).mono fun ds S1 h1=>?_;unfold wOut at h1;exact h1| .callW f j es,δ,S,Q,h=>by simp only[evE,zaa];refine(zdJ es h).mono fun ds S1 h1=>?_;unfold wOut at h1;exact h1| .bi b es,δ,S,Q,h=>by simp only[evE,zaa];exact(zdJ es h).mono fun ds S1 h1=>zrN h1| .mt m o es,δ,S,Q,h=>by simp only[evE,zaa];refine(wE_W o h).mono fun x S1 h1=>?_;obtain⟨c,h2⟩:=zf4 h1;rw[if_pos c,zaa];exact(zdJ es h2).mono fun ds S2 h3=>zrL h3| .mkL l,δ,S,Q,h=>by simp only[evE,zaa];exact(wL_W l h).mono fun ds S1 h1=>zbA h1| .mkT l,δ,S,Q,h=>by simp only[evE,zaa];refine(wL_W l h).mono fun r S1 h1=>?_;unfold zaA at h1;rw[if_pos h1.1];exact h1.2| .all l,δ,S,Q,h=>by simp only[evE,zaa];refine(wL_W l h).mono fun r S1 h1=>?_;unfold wOpt at h1;cases e:allD r.1 with|none=>rw[e]at h1;exact h1.elim|some d=>rw[e]at h1;exact h1
 |.dlst a,δ,S,Q,h=>by simp only[evE,zaa];refine(wE_W a h).mono fun r S1 h1=>?_;unfold wOpt at h1;cases e:dicI S1 r with|none=>rw[e]at h1;exact h1.elim| some d=>rw[e]at h1;simp only[lift,W_ok];exact zbA h1
 |.srt a,δ,S,Q,h=>by simp only[evE,zaa];refine(wE_W a h).mono fun r S1 h1=>?_;unfold wOpt at h1;cases e:lstI S1 r with|none=>rw[e]at h1;exact h1.elim| some d=>rw[e]at h1;unfold zaA at h1;simp only[lift,W_ok];rw[if_pos h1.1];exact zbA h1.2
 |.clr a,δ,S,Q,h=>by simp only[evE,zaa];refine(wE_W a h).mono fun x S1 h1=>?_;obtain⟨h2,h3⟩:=zf4 h1;rw[if_pos h2];cases x with|ref l=>exact zm4 h3|_=>exact h3.elim
 |.dsrt a,δ,S,Q,h=>by simp only[evE,zaa];refine(wE_W a h).mono fun r S1 h1=>?_;unfold wOpt at h1;cases e:dicI S1 r with|none=>rw[e]at h1;exact h1.elim| some d=>rw[e]at h1;unfold zaA at h1;simp only[lift,W_ok];rw[if_pos h1.1];exact zbA h1.2
 |.dic1 a b,δ,S,Q,h=>by simp only[evE,zaa];refine(wE_W a h).mono fun x S1 h1=>(wE_W b h1).mono fun v S2 h2=>?_;unfold wOpt at h2;cases e:zbG x with|none=>rw[e]at h2;exact h2.elim|some k=>rw[e]at h2;exact h2
 |.srtK a,δ,S,Q,h=>by simp only[evE,zaa];refine(wE_W a h).mono fun r S1 h1=>?_;unfold wOpt at h1;cases e:zd8 S1 r with|none=>rw[e]at h1;exact h1.elim| some d=>rw[e]at h1;unfold zaA at h1;simp only[lift,W_ok];rw[if_pos h1.1];exact zbA h1.2
 |.rep a b,δ,S,Q,h=>by
  simp only[evE,zaa];refine(wE_W a h).mono fun x S1 h1=>(wE_W b h1).mono fun y S2 h2=>?_;cases x with
  |ref p=>
   cases y with
   |int k=>dsimp only at h2⊢;unfold zaA at h2;rw[if_pos h2.1];have h3:=h2.2;unfold wGet wOpt at h3;cases e:S2.get p with|none=>rw[e]at h3;exact h3.elim|some o=>rw[e]at h3;cases o<;>first|exact zbA h3|exact h3.elim
   |_=>exact h2.elim
  |_=>exact h2.elim
 |.min1 a,δ,S,Q,h=>by simp only[evE,zaa];refine(wE_W a h).mono fun r S1 h1=>?_;unfold wOpt at h1;cases e:lstI S1 r with|none=>rw[e]at h1;exact h1.elim| some d=>rw[e]at h1;dsimp only at h1;simp only[lift,W_ok];cases e2:minZ d with|none=>rw[e2]at h1;exact h1.elim|some k=>rw[e2]at h1;exact h1
 |.sset a,δ,S,Q,h=>by simp only[evE,zaa];refine(wE_W a h).mono fun r S1 h1=>?_;unfold wOpt at h1;cases e:lstI S1 r with|none=>rw[e]at h1;exact h1.elim| some d=>rw[e]at h1;unfold zaA at h1;simp only[lift,W_ok];rw[if_pos h1.1];exact zbA h1.2
theorem zdJ:∀(es:CEs){δ:Ev}{S:St}{Q:List D->St->Prop},wEs cf es δ S Q->W (evEs cf es δ S) Q
 |.nil,δ,S,Q,h=>by simp only[evEs];exact h| .cons e r,δ,S,Q,h=>by simp only[evEs,zaa];exact(wE_W e h).mono fun d S1 h1=>(zdJ r h1).mono fun ds S2 h2=>h2
theorem wT_W:∀(e:CE){δ:Ev}{S:St}{Q:Bool->St->Prop},wT cf e δ S Q->W (evT cf e δ S) Q
 |.cmp op a b,δ,S,Q,h=>by simp only[evT,zaa];exact(wE_W a h).mono fun x S1 h1=>(wE_W b h1).mono fun y S2 h2=>zgN h2| .cmp2 op op' a b c,δ,S,Q,h=>by simp only[evT,zaa];refine(wE_W a h).mono fun x S1 h1=>(wE_W b h1).mono fun y S2 h2=>?_;obtain⟨k,e,hk⟩:=zf5 h2;rw[e];unfold wIf at hk;cases k with|false=>exact hk| true=>simp only[if_true,lift,W_ok,zaa]at hk⊢;exact(wE_W c hk).mono fun z S4 h4=>zgN h4
 |.nt a,δ,S,Q,h=>by simp only[evT,zaa];exact(wT_W a h).mono fun k S1 h1=>h1| .and a b,δ,S,Q,h=>by simp only[evT,zaa];refine(wT_W a h).mono fun k S1 h1=>?_;unfold wIf at h1;cases k with|false=>exact h1|true=>exact wT_W b h1
 |.or a b,δ,S,Q,h=>by simp only[evT,zaa];refine(wT_W a h).mono fun k S1 h1=>?_;unfold wIf at h1;cases k with|true=>exact h1|false=>exact wT_W b h1
 |.tst e,δ,S,Q,h=>by simp only[evT,zaa];exact(wE_W e h).mono fun x S1 h1=>zpb h1|.loc i,δ,S,Q,h=>False.elim h|.con d,δ,S,Q,h=>False.elim h|.bin op a b,δ,S,Q,h=>False.elim h|.neg a,δ,S,Q,h=>False.elim h|.ite c a b,δ,S,Q,h=>False.elim h|.tup es,δ,S,Q,h=>False.elim h|.lst es,δ,S,Q,h=>False.elim h|.dnew,δ,S,Q,h=>False.elim h|.dgetI a b c,δ,S,Q,h=>False.elim h|.dsetI a b c,δ,S,Q,h=>False.elim h|.extv a b,δ,S,Q,h=>False.elim h|.fld a f,δ,S,Q,h=>False.elim h|.mk c f x j es,δ,S,Q,h=>False.elim h|.meth m tb o es,δ,S,Q,h=>False.elim h|.callC f x m es,δ,S,Q,h=>False.elim h|.ix a b,δ,S,Q,h=>False.elim h|.slS a b,δ,S,Q,h=>False.elim h|.sl a ml mh lo hi,δ,S,Q,h=>False.elim h|.call f j es,δ,S,Q,h=>False.elim h|.callW f j es,δ,S,Q,h=>False.elim h|.bi b es,δ,S,Q,h=>False.elim h|.mt m o es,δ,S,Q,h=>False.elim h|.mkL l,δ,S,Q,h=>False.elim h|.mkT l,δ,S,Q,h=>False.elim h|.all l,δ,S,Q,h=>False.elim h|.sset a,δ,S,Q,h=>False.elim h|.srtK a,δ,S,Q,h=>False.elim h|.rep a b,δ,S,Q,h=>False.elim h|.dlst a,δ,S,Q,h=>False.elim h|.srt a,δ,S,Q,h=>False.elim h|.clr a,δ,S,Q,h=>False.elim h|.dsrt a,δ,S,Q,h=>False.elim h|.dic1 a b,δ,S,Q,h=>False.elim h|.min1 a,δ,S,Q,h=>False.elim h
theorem wL_W:∀(l:CL){δ:Ev}{S:St}{Q:List D×List Nat->St->Prop},wL cf l δ S Q->W (evL cf l δ S) Q
 |.val e,δ,S,Q,h=>by simp only[evL,zaa];refine(wE_W e h).mono fun x S1 h1=>?_;obtain⟨ds,e,h2⟩:=ziA h1;rw[e];exact h2| .rng1 a,δ,S,Q,h=>by simp only[evL,zaa];refine(wE_W a h).mono fun x S1 h1=>?_;cases x with| int j=>unfold zaA at h1;simp only;rw[if_pos h1.1];exact h1.2|_=>exact h1.elim
 |.rng2 a b,δ,S,Q,h=>by
  simp only[evL,zaa];refine(wE_W a h).mono fun x S1 h1=>(wE_W b h1).mono fun y S2 h2=>?_;cases x with
  |int i=>cases y with| int j=>unfold zaA at h2;simp only;rw[if_pos h2.1];exact h2.2|_=>exact h2.elim
  |_=>exact h2.elim
 |.enum a,δ,S,Q,h=>by simp only[evL,zaa];refine(wE_W a h).mono fun x S1 h1=>?_;unfold wOpt at h1;cases e:zbQ S1 x with|none=>rw[e]at h1;exact h1.elim|some r=>rw[e]at h1;exact h1
 |.comp n js g it c e,δ,S,Q,h=>by simp only[evL,zaa];refine(wL_W it h).mono fun r S1 h1=>(ziB h1).mono fun ds S3 h3=>?_;unfold zaA at h3;rw[if_pos h3.1];exact h3.2
end
theorem wS_W:∀(s:CS){δ:Ev}{S:St}{Q:Fl->St->Prop},wS cf s δ S Q->W (exS cf s δ S) Q
 |.nil,δ,S,Q,h=>by simp[exS];exact h|.stop,δ,S,Q,h=>False.elim h| .asg i e r,δ,S,Q,h=>by simp[exS,zaa];exact(wE_W e h).mono fun x S1 h1=>wS_W r h1| .asgT g e r,δ,S,Q,h=>by simp[exS,zaa];refine(wE_W e h).mono fun x S1 h1=>?_;unfold wOpt at h1;cases e:asgG g x δ with|none=>rw[e]at h1;exact h1.elim|some d=>rw[e]at h1;exact wS_W r h1
 |.setIx a b e r,δ,S,Q,h=>by simp[exS,zaa];refine(wE_W e h).mono fun v S1 h1=>(wE_W a h1).mono fun x S2 h2=>(wE_W b h2).mono fun y S3 h3=>?_;unfold wOpt at h3;cases e:dPut S3 x y v with|none=>rw[e]at h3;exact h3.elim|some S4=>rw[e]at h3;exact wS_W r h3
 |.setF a f e r,δ,S,Q,h=>by simp[exS,zaa];refine(wE_W e h).mono fun v S1 h1=>(wE_W a h1).mono fun x S2 h2=>?_;unfold wOpt at h2;cases e:zbB S2 x f v with|none=>rw[e]at h2;exact h2.elim|some S3=>rw[e]at h2;exact wS_W r h2
 |.ifS c t u r,δ,S,Q,h=>by
  simp[exS,zaa];refine(wT_W c h).mono fun k S1 h1=>?_;have nx:∀(f:Fl)(S2:St),(match f with|.nx δ'=>wS cf r δ' S2 Q|.rt d=>Q (.rt d) S2)->W (match f with|.nx δ'=>exS cf r δ' S2|.rt d=>.ok (.rt d) S2) Q:=fun f S2 q=>by cases f with|nx δ'=>exact wS_W r q|rt d=>exact q
  cases k with|true=>exact(wS_W t h1).mono nx|false=>exact(wS_W u h1).mono nx
 |.forS g l b r,δ,S,Q,h=>by simp[exS,zaa];refine(wL_W l h).mono fun q S1 h1=>(ziB h1).mono fun f S2 q=>?_;cases f with|nx δ'=>exact wS_W r q|rt d=>exact q
 |.ret e r,δ,S,Q,h=>by simp[exS,zaa];exact(wE_W e h).mono fun x S1 h1=>h1| .expr e r,δ,S,Q,h=>by simp[exS,zaa];exact(wE_W e h).mono fun x S1 h1=>wS_W r h1
@[irreducible]def wFin(S:St)(r:Fl)(T:St)(Q:D->St->Prop):Prop:=W (fin S r T) Q
theorem zsB(h:P[f]?=some F)(hl:ds.length=F.np)(w:wS (callF P n) F.body (zaE F ds) S.enter fun r T=>wFin S r T Q)(hp:F.prim=none:=by rfl) :
  W (app (callF P (n+1)) f ds S) Q:=by
 rw[zhC h hl hp,zaa];refine(wS_W _ w).mono fun r T q=>?_;unfold wFin at q;exact q
theorem zbE(h:P[f]?=some F)(hl:ds.length=F.np)(w:wS (callF P n) F.body (zaE F ds) S.enter fun r T=>wFin S r T fun a T'=>a=d/\T'=S')(hp:F.prim=none:=by rfl) :
 app (callF P (n+1)) f ds S=.ok d S':=W.eq (zsB h hl w hp)
theorem zan(h:flat S.len d=true)(q:Q d S):wFin S (.rt d) T Q:=by unfold wFin;rw[zhn,zia S d T h];exact q
theorem zbI(hl:S.len<=l)(hg:T.get l=some (.lst ds))(h:flats S.len ds=true)(q:Q (.ref S.len) (S.push (.lst ds))):wFin S (.rt (.ref l)) T Q:=by
 have h0:flat S.len (.ref l)=false:=by simp[flat];omega
 unfold wFin;rw[zhn];unfold zcy;simp[h0,hg,h];exact q
end
structure Frm(S S':St):Prop where
 frz:S'.frz=S.frz
 lk:S'.lk=S.lk
 len:S.new.length<=S'.new.length
 same:∀l∈S.lk,l<S.len->S'.get l=S.get l
theorem Frm.refl(S:St):Frm S S:=⟨rfl,rfl,le_refl _,fun _ _ _=>rfl⟩
theorem Frm.lens(h:Frm S S'):S.len<=S'.len:=by unfold St.len;rw[h.frz];have:=h.len;omega
theorem Frm.trans(a:Frm S S1)(b:Frm S1 S2):Frm S S2:=⟨b.frz.trans a.frz,b.lk.trans a.lk,le_trans a.len b.len,fun l hl h=>(b.same l (by rw[a.lk];exact hl) (lt_of_lt_of_le h a.lens)).trans (a.same l hl h)⟩
theorem Frm.push(S:St)(o:MO):Frm S (S.push o):=by refine⟨rfl,rfl,by simp[St.push],fun l _ h=>?_⟩;unfold St.len at h;unfold St.get St.push;simp only;split;rfl;rw[getElem?_append_left (by omega)]
theorem Frm.put(h:S.put l o=some S'):Frm S S':=by
 unfold St.put at h;split at h;cases h;split at h;cases h;rename_i h1 h2;injection h with h;subst h;refine⟨rfl,rfl,by simp,fun m hm hl=>?_⟩;have hne:m≠l:=fun e=>by subst e;exact h2 (by simpa using hm)
 unfold St.get;simp only;split;rfl;rw[getElem?_set_ne (by omega)]
abbrev WF(S:St)(o:Out α)(Q:α->St->Prop):Prop:=W o fun a S'=>Q a S'/\Frm S S'
theorem WF.bind{f:α->St->Out β}(h:WF S o fun a S1=>W (f a S1) Q)(hf:∀a S1,W (f a S1) Q->WF S1 (f a S1) Q):WF S (o.bind f) Q:=by rw[WF,zaa];exact h.mono fun a S1 ⟨q,f1⟩=>(hf a S1 q).mono fun b S2 ⟨q2,f2⟩=>⟨q2,f1.trans f2⟩
theorem zc1(h:W (lay S ds) Q):WF S (lay S ds) Q:=by unfold lay at h⊢;split;rename_i c;rw[if_pos c]at h;exact⟨h,Frm.push _ _⟩;rename_i c;rw[if_neg c]at h;exact h.elim
theorem wr_F(h:W (wr S l ds d) Q):WF S (wr S l ds d) Q:=by
 unfold wr at h⊢;split;rename_i c;rw[if_pos c]at h;cases e:S.put l (.lst ds) with|none=>rw[e]at h;exact h.elim|some S'=>rw[e]at h;exact⟨h,Frm.put e⟩
 rename_i c;rw[if_neg c]at h;exact h.elim
theorem zaF(h:W (lift S o) Q):WF S (lift S o) Q:=by cases o with|none=>exact h.elim|some a=>exact⟨h,Frm.refl S⟩
theorem zrs(h:W (binD S op x y) Q):WF S (binD S op x y) Q:=by
 unfold binD at h⊢;split
 . unfold binI at h⊢;cases op<;>dsimp only at h⊢<;> first
    |exact⟨h,Frm.refl S⟩
    |exact h.elim
    | (split at h
       rename_i c;rw[if_pos c];exact⟨h,Frm.refl S⟩;exact h.elim)
 . dsimp only at h;cases op<;>dsimp only at h⊢<;> first
    |exact False.elim h
    | (split at h
       rename_i c;rw[if_pos c];exact⟨h,Frm.refl S⟩;exact False.elim h)
 dsimp only at h;split at h;exact zc1 h;exact False.elim h;rename_i h1 h2 h3;split at h;exact(h1 _ _ rfl rfl).elim;exact(h2 _ _ rfl rfl).elim;exact(h3 _ _ rfl rfl).elim;exact False.elim h
theorem bi_F(h:W (bi S b ds) Q):WF S (bi S b ds) Q:=by
 unfold bi at h⊢;split;rename_i x;cases x with
 |tup ds=>exact⟨h,Frm.refl S⟩|fix ds=>exact⟨h,Frm.refl S⟩| ref l=>dsimp only at h⊢;cases e:S.get l with|none=>rw[e]at h;exact False.elim h|some o=>rw[e]at h;cases o<;>first|exact⟨h,Frm.refl S⟩|exact False.elim h
 |_=>exact False.elim h
 exact⟨h,Frm.refl S⟩;exact⟨h,Frm.refl S⟩;dsimp only at h;split at h;exact⟨h,Frm.refl S⟩;exact False.elim h;exact False.elim (by simpa using h)
theorem mt_F(h:W (mt S m x ds) Q):WF S (mt S m x ds) Q:=by unfold mt at h⊢;split;dsimp only at h;split at h;exact wr_F h;exact False.elim h;exact False.elim (by simpa using h)
theorem Frm.keep(S T:St):Frm S ⟨S.frz,S.new++T.new,S.lk⟩:=by refine⟨rfl,rfl,by simp,fun l _ h=>?_⟩;unfold St.len at h;unfold St.get;simp only;split;rfl;rw[getElem?_append_left (by omega)]
theorem zo1{f:α->St->Out β}(h:W (lift S o) fun a T=>W (f a T) Q):∃a,o=some a/\W (f a S) Q:=by cases o with|none=>exact h.elim|some a=>exact⟨a,rfl,h⟩
theorem zk8(h:zbB S x f v=some S'):Frm S S':=by unfold zbB at h;split at h;split at h;split at h;exact Frm.put h;cases h;cases h;cases h
theorem zmS(h:dPut S x y v=some S'):Frm S S':=by
 unfold dPut at h;split at h;split at h;cases e:zbG y with
 |none=>rw[e]at h;cases h
 |some k=>rw[e]at h;split at h;exact Frm.put h;cases h
 cases e:zbG y with
 |none=>rw[e]at h;cases h
 |some k=>
  rw[e,bind_some]at h;rename_i ds _;cases e2:ixN ds.length k with
  |none=>rw[e2]at h;cases h
  |some j=>rw[e2,bind_some]at h;exact Frm.put h
 cases h;cases h
theorem zoP(h:zdT S x y v=some o):Frm S o.2:=by
 unfold zdT at h;split at h;cases h;exact Frm.refl _;cases e:dPut S x y v with
 |none=>rw[e]at h;cases h
 |some T=>rw[e]at h;cases h;exact zmS e
 cases h
theorem zoy(h:W (zcy S d T) Q):WF S (zcy S d T) Q:=by unfold zcy at h⊢;split;rename_i c;rw[if_pos c]at h;exact⟨h,Frm.refl S⟩;rename_i c;rw[if_neg c]at h;split at h;split at h;split at h;rename_i c;rw[if_pos c];exact⟨h,Frm.push _ _⟩;rename_i c;rw[if_neg c];exact⟨h,Frm.keep _ _⟩;split at h;rename_i c;rw[if_pos c];exact⟨h,Frm.push _ _⟩;rename_i c;rw[if_neg c];exact⟨h,Frm.keep _ _⟩;exact⟨h,Frm.keep _ _⟩;exact⟨h,Frm.keep _ _⟩
theorem zsC(h:W (app cf f ds S) Q):WF S (app cf f ds S) Q:=by unfold app at h⊢;cases e:cf f ds S.enter with|ok d T=>rw[e]at h;exact zoy h|bad=>rw[e]at h;exact h.elim
theorem Frm.unlock(h:Frm {S with lk:=ls++S.lk} T):Frm S {T with lk:=S.lk}:=⟨h.frz,rfl,h.len,fun l hl hn=>h.same l (mem_append_right _ hl) hn⟩
theorem zhe(h:W (zbg ls S f) Q)(hf:∀Q',W (f {S with lk:=ls++S.lk}) Q'->WF {S with lk:=ls++S.lk} (f {S with lk:=ls++S.lk}) Q'):WF S (zbg ls S f) Q:=by unfold zbg at h⊢;rw[zaa]at h;rw[WF,zaa];exact(hf _ h).mono fun a T ⟨q,fr⟩=>⟨q,fr.unlock⟩
theorem zeo(hc:∀δ S Q,W (c δ S) Q->WF S (c δ S) Q)(he:∀δ S Q,W (e δ S) Q->WF S (e δ S) Q) :
  ∀(xs:List D)(δ:Ev)(S:St)(Q:List D->St->Prop),W (zaI g c e xs δ S) Q->WF S (zaI g c e xs δ S) Q
 | [],δ,S,Q,h=>⟨h,Frm.refl S⟩| x::xs,δ,S,Q,h=>by simp[zaI]at h⊢;cases ea:asgG g x δ with|none=>rw[ea]at h;exact h.elim| some δ'=>rw[ea]at h;rw[zaa]at h;refine WF.bind (hc _ _ _ h) fun b S1 h1=>?_;cases b with| false=>exact zeo hc he xs δ' S1 Q h1| true=>simp only[if_true]at h1⊢;rw[zaa]at h1;refine WF.bind (he _ _ _ h1) fun d S2 h2=>?_;rw[zaa]at h2;exact WF.bind (zeo hc he xs δ' S2 _ h2) fun ds S3 h3=>⟨h3,Frm.refl _⟩
theorem zgP(hb:∀δ S Q,W (b δ S) Q->WF S (b δ S) Q) :
  ∀(xs:List D)(δ:Ev)(S:St)(Q:Fl->St->Prop),W (zaB g b xs δ S) Q->WF S (zaB g b xs δ S) Q
 | [],δ,S,Q,h=>⟨h,Frm.refl S⟩| x::xs,δ,S,Q,h=>by simp[zaB]at h⊢;cases ea:asgG g x δ with|none=>rw[ea]at h;exact h.elim| some δ'=>rw[ea]at h;rw[zaa]at h;refine WF.bind (hb _ _ _ h) fun f S1 h1=>?_;cases f with|nx δ2=>exact zgP hb xs δ2 S1 Q h1|rt d=>exact⟨h1,Frm.refl _⟩
def CFok(cf:CF):Prop:=∀f ds S d T,cf f ds S=.ok d T->Frm S T
theorem appW_F(hcf:CFok cf)(h:W (appW cf f ds S) Q):WF S (appW cf f ds S) Q:=by unfold appW at h⊢;cases e:cf f ds S with|ok d T=>rw[e]at h;exact⟨h,hcf f ds S d T e⟩|bad=>rw[e]at h;exact h.elim
section
variable{cf:CF}(hcf:CFok cf)
include hcf
mutual
theorem zaq:∀(e:CE)(δ:Ev)(S:St)(Q:D->St->Prop),W (evE cf e δ S) Q->WF S (evE cf e δ S) Q
 |.loc i,δ,S,Q,h=>by simp only[evE]at h⊢;exact zaF h|.con d,δ,S,Q,h=>by simp only[evE]at h⊢;exact⟨h,Frm.refl S⟩|.tst _,δ,S,Q,h=>by simp only[evE]at h;exact h.elim| .bin op a b,δ,S,Q,h=>by simp only[evE]at h⊢;rw[zaa]at h;refine WF.bind (zaq a δ S _ h) fun x S1 h1=>?_;rw[zaa]at h1;exact WF.bind (zaq b δ S1 _ h1) fun y S2 h2=>zrs h2| .neg a,δ,S,Q,h=>by simp only[evE]at h⊢;rw[zaa]at h;refine WF.bind (zaq a δ S _ h) fun x S1 h1=>?_;cases x<;>first|exact⟨h1,Frm.refl _⟩|exact h1.elim
 |.nt a,δ,S,Q,h=>by simp only[evE]at h⊢;rw[zaa]at h;refine WF.bind (zaq a δ S _ h) fun x S1 h1=>?_;cases x<;>first|exact⟨h1,Frm.refl _⟩|exact h1.elim
 |.cmp op a b,δ,S,Q,h=>by simp only[evE]at h⊢;rw[zaa]at h;refine WF.bind (zaq a δ S _ h) fun x S1 h1=>?_;rw[zaa]at h1;refine WF.bind (zaq b δ S1 _ h1) fun y S2 h2=>?_;rw[zaa]at h2;exact WF.bind (zaF h2) fun k S3 h3=>⟨h3,Frm.refl _⟩| .cmp2 op op' a b c,δ,S,Q,h=>by simp only[evE]at h⊢;rw[zaa]at h;refine WF.bind (zaq a δ S _ h) fun x S1 h1=>?_;rw[zaa]at h1;refine WF.bind (zaq b δ S1 _ h1) fun y S2 h2=>?_;rw[zaa]at h2;refine WF.bind (zaF h2) fun k S3 h3=>?_;cases k with|false=>exact⟨h3,Frm.refl _⟩| true=>simp only[if_true]at h3⊢;rw[zaa]at h3;refine WF.bind (zaq c δ S3 _ h3) fun z S4 h4=>?_;rw[zaa]at h4;exact WF.bind (zaF h4) fun k S3 h3=>⟨h3,Frm.refl _⟩
 |.and a b,δ,S,Q,h=>by
  simp only[evE]at h⊢;rw[zaa]at h;refine WF.bind (zaq a δ S _ h) fun x S1 h1=>?_;cases x with
  |bl k=>cases k with|false=>exact⟨h1,Frm.refl _⟩|true=>exact zaq b δ S1 Q h1
  |_=>exact h1.elim
 |.or a b,δ,S,Q,h=>by
  simp only[evE]at h⊢;rw[zaa]at h;refine WF.bind (zaq a δ S _ h) fun x S1 h1=>?_;cases x with
  |bl k=>cases k with|true=>exact⟨h1,Frm.refl _⟩|false=>exact zaq b δ S1 Q h1
  |_=>exact h1.elim
 |.ite c a b,δ,S,Q,h=>by simp only[evE]at h⊢;rw[zaa]at h;refine WF.bind (zeW c δ S _ h) fun k S1 h1=>?_;cases k with|true=>exact zaq a δ S1 Q h1|false=>exact zaq b δ S1 Q h1
 |.tup es,δ,S,Q,h=>by simp only[evE]at h⊢;rw[zaa]at h;refine WF.bind (zca es δ S _ h) fun ds S1 h1=>?_;split at h1;rename_i c;rw[if_pos c];exact⟨h1,Frm.refl _⟩;exact h1.elim| .lst es,δ,S,Q,h=>by simp only[evE]at h⊢;rw[zaa]at h;exact WF.bind (zca es δ S _ h) fun ds S1 h1=>zc1 h1|.dnew,δ,S,Q,h=>by simp only[evE]at h⊢;exact⟨h,Frm.push _ _⟩| .dgetI a b c,δ,S,Q,h=>by simp only[evE]at h⊢;rw[zaa]at h;refine WF.bind (zaq a δ S _ h) fun x S1 h1=>?_;split at h1;rename_i c;rw[if_pos c];rw[zaa]at h1;refine WF.bind (zaq b δ S1 _ h1) fun y S2 h2=>?_;rw[zaa]at h2;refine WF.bind (zaq _ δ S2 _ h2) fun z S3 h3=>?_;rw[zaa]at h3;exact WF.bind (zaF h3) fun k S3 h3=>⟨h3,Frm.refl _⟩;exact h1.elim| .dsetI a b c,δ,S,Q,h=>by simp only[evE]at h⊢;rw[zaa]at h;refine WF.bind (zaq a δ S _ h) fun x S1 h1=>?_;split at h1;rename_i c;rw[if_pos c];rw[zaa]at h1;refine WF.bind (zaq b δ S1 _ h1) fun y S2 h2=>?_;rw[zaa]at h2;refine WF.bind (zaq _ δ S2 _ h2) fun z S3 h3=>?_;rw[zaa]at h3;obtain⟨o,e,h4⟩:=zo1 h3;rw[e];exact⟨h4,zoP e⟩;exact h1.elim| .extv a b,δ,S,Q,h=>by simp only[evE]at h⊢;rw[zaa]at h;refine WF.bind (zaq a δ S _ h) fun x S1 h1=>?_;split at h1;rename_i c;rw[if_pos c];rw[zaa]at h1;refine WF.bind (zaq b δ S1 _ h1) fun y S2 h2=>?_;rw[zaa]at h2;exact WF.bind (zaF h2) fun o S3 h3=>wr_F h3;exact h1.elim| .fld a f,δ,S,Q,h=>by simp only[evE]at h⊢;rw[zaa]at h;exact WF.bind (zaq a δ S _ h) fun x S1 h1=>zaF h1| .mk c f _ j es,δ,S,Q,h=>by simp only[evE]at h⊢;rw[zaa]at h;refine WF.bind (zca es δ S _ h) fun ds S1 h1=>?_;rw[zaa]at h1;have h2:=(appW_F hcf h1:WF (S1.push (.ins c [])) _ _);refine WF.bind (h2.mono fun d T q=>⟨q.1,(Frm.push S1 _).trans q.2⟩) fun d S2 h3=>?_;split at h3;rename_i c;rw[if_pos c];exact⟨h3,Frm.refl _⟩;exact h3.elim| .meth m tb o es,δ,S,Q,h=>by simp only[evE]at h⊢;rw[zaa]at h;refine WF.bind (zaq o δ S _ h) fun x S1 h1=>?_;rw[zaa]at h1;refine WF.bind (zaF h1) fun p S2 h2=>?_;rw[zaa]at h2;refine WF.bind (zaF h2) fun f S3 h3=>?_;split at h3;rename_i c;rw[if_pos c];rw[zaa]at h3;exact WF.bind (zca es δ S3 _ h3) fun ds S4 h4=>appW_F hcf h4;exact h3.elim| .callC f _ _ es,δ,S,Q,h=>by simp only[evE]at h⊢;rw[zaa]at h;exact WF.bind (zca es δ S _ h) fun ds S1 h1=>appW_F hcf h1| .ix a b,δ,S,Q,h=>by simp only[evE]at h⊢;rw[zaa]at h;refine WF.bind (zaq a δ S _ h) fun x S1 h1=>?_;rw[zaa]at h1;refine WF.bind (zaq b δ S1 _ h1) fun y S2 h2=>?_;split at h2;exact zaF h2;exact h2.elim| .slS a b,δ,S,Q,h=>by
  simp only[evE]at h⊢;rw[zaa]at h;refine WF.bind (zaq a δ S _ h) fun x S1 h1=>?_;rw[zaa]at h1;refine WF.bind (zaq b δ S1 _ h1) fun y S2 h2=>?_;cases x with
  |ref p=>
   cases y with
   |int k=>dsimp only at h2⊢;by_cases hk:k=0;rw[if_pos hk]at h2;exact h2.elim;rw[if_neg hk]at h2⊢;cases e:S2.get p with|none=>rw[e]at h2;exact h2.elim| some o=>rw[e]at h2;cases o<;>first|exact zc1 h2|exact h2.elim
   |_=>exact h2.elim
  |_=>exact h2.elim
 |.sl a ml mh lo hi,δ,S,Q,h=>by simp only[evE]at h⊢;rw[zaa]at h;refine WF.bind (zaq a δ S _ h) fun x S1 h1=>?_;rw[zaa]at h1;refine WF.bind (zaq lo δ S1 _ h1) fun y S2 h2=>?_;rw[zaa]at h2;refine WF.bind (zaq hi δ S2 _ h2) fun z S3 h3=>?_;split at h3;split at h3;exact⟨h3,Frm.refl _⟩;exact zc1 h3;split at h3;exact zc1 h3;exact h3.elim;exact h3.elim;exact h3.elim| .call f j es,δ,S,Q,h=>by simp only[evE]at h⊢;rw[zaa]at h;exact WF.bind (zca es δ S _ h) fun ds S1 h1=>zsC h1| .callW f j es,δ,S,Q,h=>by simp only[evE]at h⊢;rw[zaa]at h;exact WF.bind (zca es δ S _ h) fun ds S1 h1=>appW_F hcf h1| .bi b es,δ,S,Q,h=>by simp only[evE]at h⊢;rw[zaa]at h;exact WF.bind (zca es δ S _ h) fun ds S1 h1=>bi_F h1| .mt m o es,δ,S,Q,h=>by simp only[evE]at h⊢;rw[zaa]at h;refine WF.bind (zaq o δ S _ h) fun x S1 h1=>?_;split at h1;rename_i c;rw[if_pos c];rw[zaa]at h1;exact WF.bind (zca es δ S1 _ h1) fun ds S2 h2=>mt_F h2;exact h1.elim| .mkL l,δ,S,Q,h=>by simp only[evE]at h⊢;rw[zaa]at h;exact WF.bind (zkj l δ S _ h) fun r S1 h1=>zc1 h1| .mkT l,δ,S,Q,h=>by simp only[evE]at h⊢;rw[zaa]at h;refine WF.bind (zkj l δ S _ h) fun r S1 h1=>?_;split at h1;rename_i c;rw[if_pos c];exact⟨h1,Frm.refl _⟩;exact h1.elim| .all l,δ,S,Q,h=>by simp only[evE]at h⊢;rw[zaa]at h;refine WF.bind (zkj l δ S _ h) fun r S1 h1=>?_;rw[zaa]at h1;exact WF.bind (zaF h1) fun k S3 h3=>⟨h3,Frm.refl _⟩| .dlst a,δ,S,Q,h=>by simp only[evE]at h⊢;rw[zaa]at h;refine WF.bind (zaq a δ S _ h) fun r S1 h1=>?_;rw[zaa]at h1;exact WF.bind (zaF h1) fun k S3 h3=>zc1 h3| .srt a,δ,S,Q,h=>by simp only[evE]at h⊢;rw[zaa]at h;refine WF.bind (zaq a δ S _ h) fun r S1 h1=>?_;rw[zaa]at h1;refine WF.bind (zaF h1) fun k S3 h3=>?_;split at h3;rename_i c;rw[if_pos c];exact zc1 h3;exact h3.elim| .clr a,δ,S,Q,h=>by
  simp only[evE]at h⊢;rw[zaa]at h;refine WF.bind (zaq a δ S _ h) fun x S1 h1=>?_;split at h1;rename_i c;rw[if_pos c];cases x with|ref l=>exact wr_F h1|_=>exact h1.elim
  exact h1.elim
 |.dsrt a,δ,S,Q,h=>by simp only[evE]at h⊢;rw[zaa]at h;refine WF.bind (zaq a δ S _ h) fun r S1 h1=>?_;rw[zaa]at h1;refine WF.bind (zaF h1) fun k S3 h3=>?_;split at h3;rename_i c;rw[if_pos c];exact zc1 h3;exact h3.elim| .dic1 a b,δ,S,Q,h=>by simp only[evE]at h⊢;rw[zaa]at h;refine WF.bind (zaq a δ S _ h) fun r S1 h1=>?_;rw[zaa]at h1;refine WF.bind (zaq b δ S1 _ h1) fun v S2 h2=>?_;rw[zaa]at h2;exact WF.bind (zaF h2) fun k S3 h3=>⟨h3,Frm.push _ _⟩| .srtK a,δ,S,Q,h=>by simp only[evE]at h⊢;rw[zaa]at h;refine WF.bind (zaq a δ S _ h) fun r S1 h1=>?_;rw[zaa]at h1;refine WF.bind (zaF h1) fun k S3 h3=>?_;split at h3;rename_i c;rw[if_pos c];exact zc1 h3;exact h3.elim| .rep a b,δ,S,Q,h=>by
  simp only[evE]at h⊢;rw[zaa]at h;refine WF.bind (zaq a δ S _ h) fun x S1 h1=>?_;rw[zaa]at h1;refine WF.bind (zaq b δ S1 _ h1) fun y S2 h2=>?_;cases x with
  |ref p=>
   cases y with
   |int k=>
    dsimp only at h2⊢;split at h2;rename_i c;rw[if_pos c];cases e:S2.get p with|none=>rw[e]at h2;exact h2.elim| some o=>rw[e]at h2;cases o<;>first|exact zc1 h2|exact h2.elim
    exact h2.elim
   |_=>exact h2.elim
  |_=>exact h2.elim
 |.min1 a,δ,S,Q,h=>by simp only[evE]at h⊢;rw[zaa]at h;refine WF.bind (zaq a δ S _ h) fun r S1 h1=>?_;rw[zaa]at h1;refine WF.bind (zaF h1) fun k S3 h3=>?_;rw[zaa]at h3;exact WF.bind (zaF h3) fun k S4 h4=>⟨h4,Frm.refl _⟩| .sset a,δ,S,Q,h=>by simp only[evE]at h⊢;rw[zaa]at h;refine WF.bind (zaq a δ S _ h) fun r S1 h1=>?_;rw[zaa]at h1;refine WF.bind (zaF h1) fun k S3 h3=>?_;split at h3;rename_i c;rw[if_pos c];exact zc1 h3;exact h3.elim
theorem zca:∀(es:CEs)(δ:Ev)(S:St)(Q:List D->St->Prop),W (evEs cf es δ S) Q->WF S (evEs cf es δ S) Q
 |.nil,δ,S,Q,h=>by simp only[evEs]at h⊢;exact⟨h,Frm.refl S⟩| .cons e r,δ,S,Q,h=>by simp only[evEs]at h⊢;rw[zaa]at h;refine WF.bind (zaq e δ S _ h) fun x S1 h1=>?_;rw[zaa]at h1;exact WF.bind (zca r δ S1 _ h1) fun k S3 h3=>⟨h3,Frm.refl _⟩
theorem zeW:∀(e:CE)(δ:Ev)(S:St)(Q:Bool->St->Prop),W (evT cf e δ S) Q->WF S (evT cf e δ S) Q
 |.cmp op a b,δ,S,Q,h=>by simp only[evT]at h⊢;rw[zaa]at h;refine WF.bind (zaq a δ S _ h) fun x S1 h1=>?_;rw[zaa]at h1;exact WF.bind (zaq b δ S1 _ h1) fun y S2 h2=>zaF h2| .cmp2 op op' a b c,δ,S,Q,h=>by simp only[evT]at h⊢;rw[zaa]at h;refine WF.bind (zaq a δ S _ h) fun x S1 h1=>?_;rw[zaa]at h1;refine WF.bind (zaq b δ S1 _ h1) fun y S2 h2=>?_;rw[zaa]at h2;refine WF.bind (zaF h2) fun k S3 h3=>?_;cases k with|false=>exact⟨h3,Frm.refl _⟩| true=>simp only[if_true]at h3⊢;rw[zaa]at h3;exact WF.bind (zaq c δ S3 _ h3) fun z S4 h4=>zaF h4
 |.nt a,δ,S,Q,h=>by simp only[evT]at h⊢;rw[zaa]at h;exact WF.bind (zeW a δ S _ h) fun k S3 h3=>⟨h3,Frm.refl _⟩| .and a b,δ,S,Q,h=>by simp only[evT]at h⊢;rw[zaa]at h;refine WF.bind (zeW a δ S _ h) fun k S1 h1=>?_;cases k with|false=>exact⟨h1,Frm.refl _⟩|true=>exact zeW b δ S1 Q h1
 |.or a b,δ,S,Q,h=>by simp only[evT]at h⊢;rw[zaa]at h;refine WF.bind (zeW a δ S _ h) fun k S1 h1=>?_;cases k with|true=>exact⟨h1,Frm.refl _⟩|false=>exact zeW b δ S1 Q h1
 |.tst e,δ,S,Q,h=>by simp only[evT]at h⊢;rw[zaa]at h;exact WF.bind (zaq e δ S _ h) fun k S3 h3=>zaF h3|.loc i,δ,S,Q,h=>by simp only[evT]at h;exact h.elim|.con d,δ,S,Q,h=>by simp only[evT]at h;exact h.elim|.bin op a b,δ,S,Q,h=>by simp only[evT]at h;exact h.elim|.neg a,δ,S,Q,h=>by simp only[evT]at h;exact h.elim|.ite c a b,δ,S,Q,h=>by simp only[evT]at h;exact h.elim|.tup es,δ,S,Q,h=>by simp only[evT]at h;exact h.elim|.lst es,δ,S,Q,h=>by simp only[evT]at h;exact h.elim|.dnew,δ,S,Q,h=>by simp only[evT]at h;exact h.elim|.dgetI a b c,δ,S,Q,h=>by simp only[evT]at h;exact h.elim|.dsetI a b c,δ,S,Q,h=>by simp only[evT]at h;exact h.elim|.extv a b,δ,S,Q,h=>by simp only[evT]at h;exact h.elim|.fld a f,δ,S,Q,h=>by simp only[evT]at h;exact h.elim|.mk c f x j es,δ,S,Q,h=>by simp only[evT]at h;exact h.elim|.meth m tb o es,δ,S,Q,h=>by simp only[evT]at h;exact h.elim|.callC f x m es,δ,S,Q,h=>by simp only[evT]at h;exact h.elim|.ix a b,δ,S,Q,h=>by simp only[evT]at h;exact h.elim|.slS a b,δ,S,Q,h=>by simp only[evT]at h;exact h.elim|.sl a ml mh lo hi,δ,S,Q,h=>by simp only[evT]at h;exact h.elim|.call f j es,δ,S,Q,h=>by simp only[evT]at h;exact h.elim|.callW f j es,δ,S,Q,h=>by simp only[evT]at h;exact h.elim|.bi b es,δ,S,Q,h=>by simp only[evT]at h;exact h.elim|.mt m o es,δ,S,Q,h=>by simp only[evT]at h;exact h.elim|.mkL l,δ,S,Q,h=>by simp only[evT]at h;exact h.elim|.mkT l,δ,S,Q,h=>by simp only[evT]at h;exact h.elim|.all l,δ,S,Q,h=>by simp only[evT]at h;exact h.elim|.sset a,δ,S,Q,h=>by simp only[evT]at h;exact h.elim|.srtK a,δ,S,Q,h=>by simp only[evT]at h;exact h.elim|.rep a b,δ,S,Q,h=>by simp only[evT]at h;exact h.elim|.dlst a,δ,S,Q,h=>by simp only[evT]at h;exact h.elim|.srt a,δ,S,Q,h=>by simp only[evT]at h;exact h.elim|.clr a,δ,S,Q,h=>by simp only[evT]at h;exact h.elim|.dsrt a,δ,S,Q,h=>by simp only[evT]at h;exact h.elim|.dic1 a b,δ,S,Q,h=>by simp only[evT]at h;exact h.elim|.min1 a,δ,S,Q,h=>by simp only[evT]at h;exact h.elim
theorem zkj:∀(l:CL)(δ:Ev)(S:St)(Q:List D×List Nat->St->Prop),W (evL cf l δ S) Q->WF S (evL cf l δ S) Q
 |.val e,δ,S,Q,h=>by simp only[evL]at h⊢;rw[zaa]at h;refine WF.bind (zaq e δ S _ h) fun x S1 h1=>?_;rw[zaa]at h1;exact WF.bind (zaF h1) fun k S3 h3=>⟨h3,Frm.refl _⟩| .rng1 a,δ,S,Q,h=>by simp only[evL]at h⊢;rw[zaa]at h;refine WF.bind (zaq a δ S _ h) fun x S1 h1=>?_;cases x with| int j=>dsimp only at h1⊢;split at h1;rename_i c;rw[if_pos c];exact⟨h1,Frm.refl _⟩;exact h1.elim|_=>exact h1.elim
 |.rng2 a b,δ,S,Q,h=>by simp only[evL]at h⊢;rw[zaa]at h;refine WF.bind (zaq a δ S _ h) fun x S1 h1=>?_;rw[zaa]at h1;refine WF.bind (zaq b δ S1 _ h1) fun y S2 h2=>?_;split at h2;split at h2;rename_i c;rw[if_pos c];exact⟨h2,Frm.refl _⟩;exact h2.elim;exact h2.elim| .enum a,δ,S,Q,h=>by simp only[evL]at h⊢;rw[zaa]at h;exact WF.bind (zaq a δ S _ h) fun x S1 h1=>zaF h1| .comp n js g it c e,δ,S,Q,h=>by simp only[evL]at h⊢;rw[zaa]at h;refine WF.bind (zkj it δ S _ h) fun r S1 h1=>?_;rw[zaa]at h1;exact WF.bind (zhe h1 fun Q' h2=>zeo (fun δ S Q=>zeW c δ S Q) (fun δ S Q=>zaq e δ S Q) _ _ _ _ h2) fun k S3 h3=>by split at h3;rename_i c;rw[if_pos c];exact⟨h3,Frm.refl _⟩;exact h3.elim
end
theorem zcM:∀(s:CS)(δ:Ev)(S:St)(Q:Fl->St->Prop),W (exS cf s δ S) Q->WF S (exS cf s δ S) Q
 |.nil,δ,S,Q,h=>by simp[exS]at h⊢;exact⟨h,Frm.refl S⟩|.stop,δ,S,Q,h=>by simp only[exS]at h;exact h.elim| .asg i e r,δ,S,Q,h=>by simp only[exS]at h⊢;rw[zaa]at h;exact WF.bind (zaq hcf e δ S _ h) fun x S1 h1=>zcM r _ S1 Q h1| .asgT g e r,δ,S,Q,h=>by simp only[exS]at h⊢;rw[zaa]at h;refine WF.bind (zaq hcf e δ S _ h) fun x S1 h1=>?_;rw[zaa]at h1;exact WF.bind (zaF h1) fun δ' S2 h2=>zcM r _ S2 Q h2| .setIx a b e r,δ,S,Q,h=>by simp only[exS]at h⊢;rw[zaa]at h;refine WF.bind (zaq hcf e δ S _ h) fun v S1 h1=>?_;rw[zaa]at h1;refine WF.bind (zaq hcf a δ S1 _ h1) fun x S2 h2=>?_;rw[zaa]at h2;refine WF.bind (zaq hcf b δ S2 _ h2) fun y S3 h3=>?_;cases ed:dPut S3 x y v with|none=>rw[ed]at h3;exact h3.elim| some S4=>rw[ed]at h3;have f1:=zmS ed;have f2:=zcM r δ S4 Q h3;exact f2.mono fun a T ⟨q,f⟩=>⟨q,f1.trans f⟩
 |.setF a f e r,δ,S,Q,h=>by simp only[exS]at h⊢;rw[zaa]at h;refine WF.bind (zaq hcf e δ S _ h) fun v S1 h1=>?_;rw[zaa]at h1;refine WF.bind (zaq hcf a δ S1 _ h1) fun x S2 h2=>?_;cases ed:zbB S2 x f v with|none=>rw[ed]at h2;exact h2.elim| some S3=>rw[ed]at h2;exact(zcM r δ S3 Q h2).mono fun a S' q=>⟨q.1,(zk8 ed).trans q.2⟩
 |.ifS c t u r,δ,S,Q,h=>by
  simp only[exS]at h⊢;rw[zaa]at h;refine WF.bind (zeW hcf c δ S _ h) fun k S1 h1=>?_;rw[zaa]at h1;refine WF.bind ?_ fun f S2 h2=>?_;cases k with|true=>exact zcM t δ S1 _ h1|false=>exact zcM u δ S1 _ h1
  cases f with|nx δ'=>exact zcM r _ S2 Q h2|rt d=>exact⟨h2,Frm.refl _⟩
 |.forS g l b r,δ,S,Q,h=>by simp only[exS]at h⊢;rw[zaa]at h;refine WF.bind (zkj hcf l δ S _ h) fun q S1 h1=>?_;rw[zaa]at h1;refine WF.bind (zhe h1 fun Q' h2=>zgP (fun δ S Q=>zcM b δ S Q) _ _ _ _ h2) fun f S3 h3=>?_;cases f with|nx δ'=>exact zcM r _ S3 Q h3|rt d=>exact⟨h3,Frm.refl _⟩
 |.ret e r,δ,S,Q,h=>by simp only[exS]at h⊢;rw[zaa]at h;exact WF.bind (zaq hcf e δ S _ h) fun x S1 h1=>⟨h1,Frm.refl _⟩| .expr e r,δ,S,Q,h=>by simp only[exS]at h⊢;rw[zaa]at h;exact WF.bind (zaq hcf e δ S _ h) fun x S1 h1=>zcM r _ S1 Q h1
end
end R
namespace R
open PySem L2
def KL(K:Frag)(a:Addr)(xs:List V):Prop:=∃(o:Obj) (its:Array Value) (n:Nat),K.lookup a=some o/\o.cls=.type "list"/\o.dict=none/\o.data=.seq its n/\its.size<=sizeLine/\Vals xs its.toList
def FixL(K:Frag)(H:Hp)(a:Addr)(xs:List V):Prop:=(∃o,H a=some (.frz o (.lst xs)))\/KL K a xs
theorem FixL.sq(h:FixL K H a xs):SqL K H a xs:=h.elim (fun⟨o,e⟩=>.inl (.inr ⟨o,e⟩)) .inr
class Mks where
 ts:List (Addr×Str)
 cl:List Addr
variable[Mks]
def TabIn(H:Hp)(P:Addr)(q:Str):Prop:=∃ps:Array Value,H P=some (.tbl ps)/\TriplesOk ps.toList/\
 ∀(pos:Pos)(v:Value),codeAmong pos ps.toList=some v->∃(c:Addr) (oc:Obj) (vs:Array Value) (t:Tok),v=.ref c/\H c=some (.frz oc (.own 0))/\oc.data=.fields vs/\vs[1]?=some (.str q t)
theorem TabIn.up(t:TabIn H P q)(e:H' P=H P)(f:∀b o u,H b=some (.frz o u)->H' b=some (.frz o u)):TabIn H' P q:=by obtain⟨ps,h1,h2,h3⟩:=t;refine⟨ps,by rw[e];exact h1,h2,fun pos v hv=>?_⟩;obtain⟨c,oc,vs,t,a1,a2,a3⟩:=h3 pos v hv;exact⟨c,oc,vs,t,a1,f _ _ _ a2,a3⟩
def TB(H:Hp):Prop:=∀p∈Mks.ts,TabIn H p.1 p.2
structure Kp(H H':Hp):Prop where
 tups:Tups H H'
 frzs:∀b o u,H b=some (.frz o u)->H' b=some (.frz o u)
 tab:TB H->TB H'
theorem Kp.refl(H:Hp):Kp H H:=⟨Tups.refl H,fun _ _ _ h=>h,fun h=>h⟩
theorem Kp.trans(a:Kp H H1)(b:Kp H1 H2):Kp H H2:=⟨a.tups.trans b.tups,fun c o u h=>b.frzs c o u (a.frzs c o u h),fun h=>b.tab (a.tab h)⟩
theorem Kp.same(a:Tups H H')(b:∀b o u,H b=some (.frz o u)->H' b=some (.frz o u))(c:∀P ps,H P=some (.tbl ps)->H' P=some (.tbl ps)):Kp H H':=⟨a,b,fun h p hp=>by obtain⟨ps,h1,_⟩:=id (h p hp);exact(h p hp).up ((c _ _ h1).trans h1.symm) b⟩
theorem FixL.kp(h:FixL K H a xs)(k:Kp H H'):FixL K H' a xs:=h.elim (fun⟨o,e⟩=>.inl ⟨o,k.frzs _ _ _ e⟩) .inr
mutual
def RV(K:Frag)(ι:List Addr)(H:Hp):D->V->Prop
 |.non,v=>v=.non|.bl b,v=>v=.bl b|.int i,v=>v=.int i|.str x,v=>v=.str x|.tup ds,v=>∃a xs,v=.ref a/\H a=some (.tup xs)/\RVs K ι H ds xs|.ref l,v=>∃a,ι[l]?=some a/\v=.ref a|.fix ds,v=>∃a xs,v=.ref a/\FixL K H a xs/\RVs K ι H ds xs
def RVs(K:Frag)(ι:List Addr)(H:Hp):List D->List V->Prop
 | [],vs=>vs=[]|d::ds,vs=>∃v r,vs=v::r/\RV K ι H d v/\RVs K ι H ds r
end
def RIs(K:Frag)(ι:List Addr)(H:Hp):List (Int×D)->List (Key×V)->Prop
 | [],ws=>ws=[]|(k,d)::r,ws=>∃v w,ws=((Sum.inl k:Key),v)::w/\RV K ι H d v/\RIs K ι H r w
def RFs(K:Frag)(ι:List Addr)(H:Hp):List (Str×D)->List (Str×V)->Prop
 | [],ws=>ws=[]|(f,d)::r,ws=>∃v w,ws=(f,v)::w/\RV K ι H d v/\RFs K ι H r w
def RO(K:Frag)(ι:List Addr)(H:Hp)(a:Addr):MO->Prop
 |.lst ds=>∃xs,H a=some (.lst xs)/\RVs K ι H ds xs|.dic kvs=>(kvs.map (·.1)).Nodup/\∃ws,H a=some (.dK ws)/\RIs K ι H kvs ws|.ins c fs=>∃C dx ws,Mks.cl[c]?=some C/\H a=some (.ins C dx ws)/\RFs K ι H fs ws
structure RH(K:Frag)(ι:List Addr)(H:Hp)(S:St):Prop where
 len:ι.length=S.len
 nd:ι.Nodup
 obj:∀l o,S.get l=some o->∃a,ι[l]?=some a/\RO K ι H a o
 tab:TB H
structure Ext(ι:List Addr)(H:Hp)(ι':List Addr)(H':Hp):Prop where
 pre:ι <+: ι'
 kp:Kp H H'
 rest:∀a o,a∉ι->H a=some o->(H' a=some o\/((∃ps,o=.tbl ps)/\∃ps,H' a=some (.tbl ps)))/\a∉ι'
theorem Ext.refl(ι:List Addr)(H:Hp):Ext ι H ι H:=⟨prefix_refl _,Kp.refl H,fun a o h e=>⟨.inl e,h⟩⟩
theorem Ext.trans(a:Ext ι H ι1 H1)(b:Ext ι1 H1 ι2 H2):Ext ι H ι2 H2:=⟨a.pre.trans b.pre,a.kp.trans b.kp,fun x o h e=>by obtain⟨e1,h1⟩:=a.rest x o h e;rcases e1 with e1|⟨t,ps,e1⟩;exact b.rest x o h1 e1;obtain⟨e2,h2⟩:=b.rest x _ h1 e1;refine⟨.inr ⟨t,?_⟩,h2⟩;rcases e2 with e2|⟨_,e2⟩;exact⟨ps,e2⟩;exact e2⟩
theorem Ext.keep(x:Ext ι H ι1 H1)(h:a∉ι)(e:H a=some o)(n:∀ps,o≠.tbl ps):H1 a=some o:=(x.rest a o h e).1.elim id fun⟨⟨ps,z⟩,_⟩=>absurd z (n ps)
theorem zbL{ι ι':List Addr}(h:ι <+: ι'){l:Nat}(e:ι[l]?=some a):ι'[l]?=some a:=by obtain⟨t,rfl⟩:=h;rw[getElem?_append_left (List.getElem?_eq_some_iff.mp e).1];exact e
mutual
theorem RV.up{K:Frag}{ι ι':List Addr}{H H':Hp}(hp:ι <+: ι')(hk:Kp H H'):∀{d:D}{v:V},RV K ι H d v->RV K ι' H' d v
 |.non,_,r=>r|.bl _,_,r=>r|.int _,_,r=>r|.str _,_,r=>r| .tup ds,_,r=>by obtain⟨a,xs,e,ha,q⟩:=r;exact⟨a,xs,e,hk.tups _ _ ha,RVs.up hp hk q⟩| .ref l,_,r=>by obtain⟨a,e,q⟩:=r;exact⟨a,zbL hp e,q⟩| .fix ds,_,r=>by obtain⟨a,xs,e,ha,q⟩:=r;exact⟨a,xs,e,ha.kp hk,RVs.up hp hk q⟩
theorem RVs.up{K:Frag}{ι ι':List Addr}{H H':Hp}(hp:ι <+: ι')(hk:Kp H H'):∀{ds:List D}{vs:List V},RVs K ι H ds vs->RVs K ι' H' ds vs
 | [],_,r=>r| d::ds,vs,r=>by obtain⟨v,w,e,r1,r2⟩:=r;exact⟨v,w,e,RV.up hp hk r1,RVs.up hp hk r2⟩
end
theorem RIs.up(hp:ι <+: ι')(hk:Kp H H'):∀{kvs:List (Int×D)}{ws:List (Key×V)},RIs K ι H kvs ws->RIs K ι' H' kvs ws
 | [],_,r=>r| (k,d)::kvs,ws,r=>by obtain⟨v,w,e,r1,r2⟩:=r;exact⟨v,w,e,RV.up hp hk r1,RIs.up hp hk r2⟩
theorem RFs.up(hp:ι <+: ι')(hk:Kp H H'):∀{fs:List (Str×D)}{ws:List (Str×V)},RFs K ι H fs ws->RFs K ι' H' fs ws
 | [],_,h=>h| (f,d)::r,_,h=>by obtain⟨v,w,e,r1,r2⟩:=h;exact⟨v,w,e,RV.up hp hk r1,RFs.up hp hk r2⟩
theorem RFs.length:∀{fs:List (Str×D)}{ws:List (Str×V)},RFs K ι H fs ws->ws.length=fs.length
 | [],_,h=>by cases h;rfl| (f,d)::r,_,h=>by obtain⟨v,w,rfl,r1,r2⟩:=h;simp[RFs.length r2]
theorem RFs.look(f:Str):∀{fs:List (Str×D)}{ws:List (Str×V)},RFs K ι H fs ws->(fs.lookup f=none/\ws.lookup f=none)\/∃d v,fs.lookup f=some d/\ws.lookup f=some v/\RV K ι H d v
 | [],_,h=>by cases h;exact .inl ⟨rfl,rfl⟩| (g,d)::r,_,h=>by
  obtain⟨v,w,rfl,r1,r2⟩:=h;by_cases c:(f==g)=true;exact .inr ⟨d,v,by simp[List.lookup,c],by simp[List.lookup,c],r1⟩;have c:(f==g)=false:=by simpa using c
  simp only[List.lookup,c];exact RFs.look f r2
theorem RFs.put(f:Str)(q:RV K ι H d v):∀{fs:List (Str×D)}{ws:List (Str×V)},RFs K ι H fs ws->RFs K ι H (zje f d fs) (putF f v ws)
 | [],_,h=>by cases h;exact⟨v,[],rfl,q,rfl⟩| (g,x)::r,_,h=>by obtain⟨u,w,rfl,r1,r2⟩:=h;unfold zje putF;by_cases c:g=f;rw[if_pos c,if_pos c];exact⟨v,w,rfl,q,r2⟩;rw[if_neg c,if_neg c];exact⟨u,_,rfl,r1,RFs.put f q r2⟩
theorem RIs.length:∀{kvs:List (Int×D)}{ws:List (Key×V)},RIs K ι H kvs ws->ws.length=kvs.length
 | [],_,r=>by rw[show _=[] from r];rfl| (k,d)::kvs,ws,r=>by obtain⟨v,w,rfl,_,r2⟩:=r;simp[RIs.length r2]
theorem zjd[DecidableEq κ]{x:κ×V}(h:x.1≠k):putK (x::r) k v=x::putK r k v:=by unfold putK;have:decide (x.1=k)=false:=decide_eq_false h;simp only[any_cons,this,Bool.false_or];split;rw[map_cons,if_neg h];rfl
theorem RIs.keys:∀{kvs:List (Int×D)}{ws:List (Key×V)},RIs K ι H kvs ws->ws.map (·.1)=kvs.map (fun p=>(Sum.inl p.1:Key))
 | [],_,r=>by rw[show _=[] from r];rfl| (k,d)::kvs,ws,r=>by obtain⟨v,w,rfl,_,r2⟩:=r;simp[RIs.keys r2]
theorem RIs.put(k:Int)(q:RV K ι H d v):∀{kvs:List (Int×D)}{ws:List (Key×V)},(kvs.map (·.1)).Nodup->RIs K ι H kvs ws->RIs K ι H (putI kvs k d) (putK ws (Sum.inl k:Key) v)
 | [],_,_,r=>by rw[show _=[] from r];exact⟨v,[],rfl,q,rfl⟩| (j,e)::kvs,ws,nd,r=>by
  obtain⟨u,w,rfl,r1,r2⟩:=r;simp only[map_cons,nodup_cons]at nd;by_cases z:j=k;subst z;have h1:putI ((j,e)::kvs) j d=(j,d)::kvs:=by simp[putI]
  have h2:putK (((Sum.inl j:Key),u)::w) (Sum.inl j:Key) v=((Sum.inl j:Key),v)::w:=by
   unfold putK;have:((((Sum.inl j:Key),u)::w).any fun kv=>decide (kv.1=(Sum.inl j:Key)))=true:=by simp
   rw[if_pos this,map_cons,if_pos rfl,List.map_congr_left,List.map_id];intro kv hkv;have hm:kv.1∈w.map (·.1):=mem_map.mpr ⟨kv,hkv,rfl⟩;rw[r2.keys]at hm;obtain⟨p,hp,ep⟩:=mem_map.mp hm;have:kv.1≠(Sum.inl j:Key):=fun y=>nd.1 (by
    rw[<-ep]at y;rw[<-Sum.inl.inj y];exact mem_map.mpr ⟨p,hp,rfl⟩)
   simp[this]
  rw[h1,h2];exact⟨v,w,rfl,q,r2⟩;have h1:putI ((j,e)::kvs) k d=(j,e)::putI kvs k d:=by simp[putI,z]
  have h2:putK (((Sum.inl j:Key),u)::w) (Sum.inl k:Key) v=((Sum.inl j:Key),u)::putK w (Sum.inl k:Key) v:=zjd fun y=>z (Sum.inl.inj y);rw[h1,h2];exact⟨u,_,rfl,r1,RIs.put k q nd.2 r2⟩
theorem zfq(k:Int)(d:D):∀kvs:List (Int×D),(putI kvs k d).map (·.1)=if k∈kvs.map (·.1) then kvs.map (·.1) else kvs.map (·.1)++[k]
 | []=>by simp[putI]| (j,e)::r=>by unfold putI;by_cases z:j=k;subst z;simp;have ih:=zfq k d r;rw[if_neg z];simp only[map_cons,mem_cons,ih];by_cases h:k∈r.map (·.1);rw[if_pos h,if_pos (.inr h)];rw[if_neg h,if_neg (by rintro(y|y);exact z y.symm;exact h y)];rfl
theorem zd6(h:(kvs.map (·.1)).Nodup):((putI kvs k d).map (·.1)).Nodup:=by rw[zfq];split;exact h;rename_i n;rw[nodup_append];refine⟨h,by simp,fun a ha b hb=>?_⟩;rw[mem_singleton]at hb;subst hb;exact fun z=>n (z▸ha)
theorem RV.ext(h:Ext ι H ι' H')(r:RV K ι H d v):RV K ι' H' d v:=r.up h.pre h.kp
theorem RVs.ext(h:Ext ι H ι' H')(r:RVs K ι H ds vs):RVs K ι' H' ds vs:=r.up h.pre h.kp
theorem RVs.length:∀{ds:List D}{vs:List V},RVs K ι H ds vs->vs.length=ds.length
 | [],_,r=>by rw[show _=[] from r];rfl| d::ds,vs,r=>by obtain⟨v,w,rfl,_,r2⟩:=r;simp[RVs.length r2]
theorem RVs.get:∀{ds:List D}{vs:List V}{i:Nat}{d:D},RVs K ι H ds vs->ds[i]?=some d->∃v,vs[i]?=some v/\RV K ι H d v
 | [],_,_,_,_,e=>by simp at e| d::ds,vs,0,d',r,e=>by obtain⟨v,w,rfl,r1,_⟩:=r;simp at e;subst e;exact⟨v,rfl,r1⟩| d::ds,vs,i+1,d',r,e=>by obtain⟨v,w,rfl,_,r2⟩:=r;obtain⟨u,e1,e2⟩:=RVs.get r2 (by simpa using e);exact⟨u,by simpa using e1,e2⟩
theorem RVs.get'{i:Nat}(r:RVs K ι H ds vs)(e:vs[i]?=some v):∃d,ds[i]?=some d/\RV K ι H d v:=by
 have hi:i<ds.length:=by rw[<-r.length];exact(List.getElem?_eq_some_iff.mp e).1
 obtain⟨u,e1,e2⟩:=r.get (List.getElem?_eq_getElem hi);rw[e]at e1;cases e1;exact⟨_,List.getElem?_eq_getElem hi,e2⟩
theorem RVs.append:∀{ds es:List D}{vs us:List V},RVs K ι H ds vs->RVs K ι H es us->RVs K ι H (ds++es) (vs++us)
 | [],_,_,_,r,q=>by rw[show _=[] from r];exact q| d::ds,es,vs,us,r,q=>by obtain⟨v,w,rfl,r1,r2⟩:=r;exact⟨v,w++us,rfl,r1,RVs.append r2 q⟩
theorem RVs.take:∀{ds:List D}{vs:List V}(n:Nat),RVs K ι H ds vs->RVs K ι H (ds.take n) (vs.take n)
 |_,_,0,_=>rfl| [],_,n+1,r=>by rw[show _=[] from r];rfl| d::ds,vs,n+1,r=>by obtain⟨v,w,rfl,r1,r2⟩:=r;exact⟨v,w.take n,rfl,r1,RVs.take n r2⟩
theorem RVs.drop:∀{ds:List D}{vs:List V}(n:Nat),RVs K ι H ds vs->RVs K ι H (ds.drop n) (vs.drop n)
 |_,_,0,r=>r| [],_,n+1,r=>by rw[show _=[] from r];rfl| d::ds,vs,n+1,r=>by obtain⟨v,w,rfl,r1,r2⟩:=r;exact RVs.drop n r2
theorem RVs.set(q:RV K ι H d v):∀{ds:List D}{vs:List V}(n:Nat),RVs K ι H ds vs->RVs K ι H (ds.set n d) (vs.set n v)
 | [],_,n,r=>by rw[show _=[] from r];rfl| _::ds,vs,0,r=>by obtain⟨_,w,rfl,r1,r2⟩:=r;exact⟨v,w,rfl,q,r2⟩| _::ds,vs,n+1,r=>by obtain⟨u,w,rfl,r1,r2⟩:=r;exact⟨u,w.set n v,rfl,r1,RVs.set q n r2⟩
theorem RVs.ints:∀ns:List Int,RVs K ι H (ns.map D.int) (ns.map V.int)
 | []=>rfl|n::ns=>⟨_,_,rfl,rfl,RVs.ints ns⟩
theorem RVs.ints_eq:∀{ns:List Int}{vs:List V},RVs K ι H (ns.map D.int) vs->vs=ns.map V.int
 | [],_,h=>h| n::ns,vs,h=>by obtain⟨v,r,rfl,h1,h2⟩:=h;rw[RVs.ints_eq h2,show v=.int n from h1];rfl
theorem zeS:∀{ds:List D}{ns:List Int},zb9 ds=some ns->ds=ns.map D.int:=by
 intro ds;unfold zb9;induction ds with
 |nil=>intro ns h;simp at h;subst h;rfl| cons d ds ih=>
  intro ns h;rw[mapM_cons]at h;cases d with
  |int i=>cases e:List.mapM zbG ds with|none=>rw[e]at h;simp at h|some ms=>rw[e]at h;simp[zbG]at h;subst h;simp[ih e]
  |_=>simp[zbG]at h
mutual
theorem RV.flat{K:Frag}{ι:List Addr}{H:Hp}:∀{d:D}{v:V},RV K ι H d v->R.flat ι.length d=true
 |.non,_,_=>by simp[R.flat]|.bl _,_,_=>by simp[R.flat]|.int _,_,_=>by simp[R.flat]|.str _,_,_=>by simp[R.flat]| .tup ds,_,r=>by obtain⟨a,xs,e,ha,q⟩:=r;simp only[R.flat];exact RVs.flats q| .ref l,_,r=>by obtain⟨a,e,q⟩:=r;simp only[R.flat,decide_eq_true_eq];exact(List.getElem?_eq_some_iff.mp e).1| .fix ds,_,r=>by obtain⟨a,xs,e,ha,q⟩:=r;simp only[R.flat];exact RVs.flats q
theorem RVs.flats{K:Frag}{ι:List Addr}{H:Hp}:∀{ds:List D}{vs:List V},RVs K ι H ds vs->R.flats ι.length ds=true
 | [],_,_=>by simp[R.flats]| d::ds,vs,r=>by obtain⟨v,w,e,r1,r2⟩:=r;simp only[R.flats,and_eq_true];exact⟨RV.flat r1,RVs.flats r2⟩
end
mutual
theorem RV.restrict{K:Frag}{ι ι':List Addr}{H:Hp}(hp:ι <+: ι'):∀{d:D}{v:V},R.flat ι.length d=true->RV K ι' H d v->RV K ι H d v
 |.non,_,_,r=>r|.bl _,_,_,r=>r|.int _,_,_,r=>r|.str _,_,_,r=>r| .tup ds,_,f,r=>by obtain⟨a,xs,e,ha,q⟩:=r;simp only[R.flat]at f;exact⟨a,xs,e,ha,RVs.restrict hp f q⟩| .ref l,_,f,r=>by obtain⟨a,e,q⟩:=r;simp only[R.flat,decide_eq_true_eq]at f;refine⟨a,?_,q⟩;obtain⟨t,rfl⟩:=hp;rw[getElem?_append_left f]at e;exact e| .fix ds,_,f,r=>by obtain⟨a,xs,e,ha,q⟩:=r;simp only[R.flat]at f;exact⟨a,xs,e,ha,RVs.restrict hp f q⟩
theorem RVs.restrict{K:Frag}{ι ι':List Addr}{H:Hp}(hp:ι <+: ι'):∀{ds:List D}{vs:List V},R.flats ι.length ds=true->RVs K ι' H ds vs->RVs K ι H ds vs
 | [],_,_,r=>r| d::ds,vs,f,r=>by obtain⟨v,w,e,r1,r2⟩:=r;simp only[R.flats,and_eq_true]at f;exact⟨v,w,e,RV.restrict hp f.1 r1,RVs.restrict hp f.2 r2⟩
end
theorem RIs.flats:∀{kvs:List (Int×D)}{ws:List (Key×V)},RIs K ι H kvs ws->R.flats ι.length (kvs.map (·.2))=true
 | [],_,_=>by simp| (k,d)::kvs,ws,r=>by obtain⟨v,w,e,r1,r2⟩:=r;simp;exact⟨RV.flat r1,RIs.flats r2⟩
theorem RIs.restrict(hp:ι <+: ι'):∀{kvs:List (Int×D)}{ws:List (Key×V)},R.flats ι.length (kvs.map (·.2))=true->RIs K ι' H kvs ws->RIs K ι H kvs ws
 | [],_,_,r=>r| (k,d)::kvs,ws,f,r=>by obtain⟨v,w,e,r1,r2⟩:=r;simp at f;exact⟨v,w,e,RV.restrict hp f.1 r1,RIs.restrict hp f.2 r2⟩
theorem RFs.flats:∀{fs:List (Str×D)}{ws:List (Str×V)},RFs K ι H fs ws->R.flats ι.length (fs.map (·.2))=true
 | [],_,_=>by simp| (f,d)::r,_,h=>by obtain⟨v,w,_,r1,r2⟩:=h;simp;exact⟨RV.flat r1,RFs.flats r2⟩
theorem RFs.restrict(hp:ι <+: ι'):∀{fs:List (Str×D)}{ws:List (Str×V)},R.flats ι.length (fs.map (·.2))=true->RFs K ι' H fs ws->RFs K ι H fs ws
 | [],_,_,h=>h| (f,d)::r,_,f0,h=>by obtain⟨v,w,e,r1,r2⟩:=h;simp at f0;exact⟨v,w,e,RV.restrict hp f0.1 r1,RFs.restrict hp f0.2 r2⟩
theorem RO.up(h:RO K ι H a o)(hp:ι <+: ι')(hk:Kp H H')(e:H' a=H a):RO K ι' H' a o:=by cases o with|lst ds=>obtain⟨xs,h1,h2⟩:=h;exact⟨xs,e.trans h1,h2.up hp hk⟩|dic kvs=>obtain⟨h0,ws,h1,h2⟩:=h;exact⟨h0,ws,e.trans h1,h2.up hp hk⟩|ins c fs=>obtain⟨C,dx,ws,h0,h1,h2⟩:=h;exact⟨C,dx,ws,h0,e.trans h1,h2.up hp hk⟩
theorem RO.stay(h:RO K ι H a o)(x:Ext ι H ι' H')(e:H' a=H a):RO K ι' H' a o:=h.up x.pre x.kp e
section
variable{K:Frag}{ι ι':List Addr}{H H':Hp}{S S' T:St}{l:Nat}{a p:Addr}
theorem RH.mem(h:RH K ι H S)(e:S.get l=some o):∃a,ι[l]?=some a/\RO K ι H a o/\a∈ι:=by obtain⟨a,h1,h2⟩:=h.obj l o e;exact⟨a,h1,h2,mem_of_getElem? h1⟩
theorem zmc(h:l<S.len):∃o,S.get l=some o:=by unfold St.len at h;unfold St.get;split;rename_i c;exact⟨_,List.getElem?_eq_getElem c⟩;exact⟨_,List.getElem?_eq_getElem (by omega)⟩
theorem RH.off(h:RH K ι H S)(x:Ext ι H ι H')(e:∀a∈ι,H' a=H a):RH K ι H' S:=⟨h.len,h.nd,fun l o q=>let ⟨a,h1,h2,hm⟩:=h.mem q;⟨a,h1,h2.stay x (e a hm)⟩,x.kp.tab h.tab⟩
theorem RH.live(h:RH K ι H S)(ha:a∈ι):∃o,H a=some o/\(∀xs,o≠.tup xs)/\(∀z u,o≠.frz z u)/\∀ps,o≠.tbl ps:=by
 obtain⟨l,hl⟩:=mem_iff_getElem?.mp ha;have hlt:l<S.len:=by rw[<-h.len];exact(List.getElem?_eq_some_iff.mp hl).1
 obtain⟨o,e⟩:=zmc hlt;obtain⟨b,h1,h2⟩:=h.obj l o e;rw[hl]at h1;cases h1;cases o with|lst ds=>obtain⟨xs,q,_⟩:=h2;exact⟨_,q,⟨fun _ z=>(by cases z),fun _ _ z=>(by cases z),fun _ z=>(by cases z)⟩⟩|dic kvs=>obtain⟨_,ws,q,_⟩:=h2;exact⟨_,q,⟨fun _ z=>(by cases z),fun _ _ z=>(by cases z),fun _ z=>(by cases z)⟩⟩|ins c fs=>obtain⟨C,dx,ws,_,q,_⟩:=h2;exact⟨_,q,⟨fun _ z=>(by cases z),fun _ _ z=>(by cases z),fun _ z=>(by cases z)⟩⟩
theorem RH.fresh(h:RH K ι H S)(hp:H p=Option.none):p∉ι:=fun hm=>by obtain⟨o,e,_⟩:=h.live hm;rw[hp]at e;cases e
theorem RH.notup(h:RH K ι H S)(hp:H p=some (.tup xs)):p∉ι:=fun hm=>by obtain⟨o,e,q,_⟩:=h.live hm;rw[hp]at e;cases e;exact q _ rfl
theorem Kp.new(hp:H p=Option.none)(o:HO):Kp H (upd H p o):=.same (Tups.upd_new hp) (fun b z u e=>by rw[zag (zam e hp)];exact e) fun b ps e=>by rw[zag (zam e hp)];exact e
theorem Ext.new(hp:H p=Option.none)(o:HO):Ext ι H ι (upd H p o):=⟨prefix_refl _,Kp.new hp o,fun a u h e=>⟨.inl (by rw[zag (zam e hp)];exact e),h⟩⟩
theorem RH.new(h:RH K ι H S)(hp:H p=Option.none)(o:HO):RH K ι (upd H p o) S:=h.off (Ext.new hp o) fun a ha=>zag fun e=>h.fresh hp (e▸ha)
theorem zeV(S:St)(o:MO):(S.push o).get S.len=some o:=by unfold St.get St.push;unfold St.len;simp
theorem zcf(h:l<S.len):(S.push o).get l=S.get l:=by unfold St.len at h;unfold St.get St.push;simp only;split;rfl;rw[getElem?_append_left (by omega)]
theorem zb0(S:St)(o:MO):(S.push o).len=S.len+1:=by simp[St.push,St.len];omega
theorem Ext.obj(h:RH K ι H S)(hp:H p=Option.none)(u:HO):Ext ι H (ι++[p]) (upd H p u):=
 ⟨prefix_append _ _,Kp.new hp u,fun a o ha e=>⟨.inl (by rw[zag (zam e hp)];exact e),by
  intro z;rcases mem_append.mp z with z|z;exact ha z;simp at z;exact zam e hp z⟩⟩
theorem RH.obj'(h:RH K ι H S)(hp:H p=Option.none)(u:HO)(o:MO)(ho:RO K (ι++[p]) (upd H p u) p o):RH K (ι++[p]) (upd H p u) (S.push o):=by
 refine⟨by rw[length_append,h.len,zb0];rfl,?_,fun l o' e=>?_,(Kp.new hp u).tab h.tab⟩;rw[nodup_append];refine⟨h.nd,by simp,fun a ha b hb=>?_⟩;simp at hb;subst hb;exact fun z=>h.fresh hp (z▸ha);by_cases hl:l<S.len;rw[zcf hl]at e;obtain⟨a,h1,h2,hm⟩:=h.mem e;exact⟨a,zbL (prefix_append _ _) h1,h2.stay (Ext.obj h hp u) (zag fun z=>h.fresh hp (z▸hm))⟩;have hl2:=zai e;rw[zb0]at hl2;have:l=S.len:=by omega
 subst this;rw[zeV]at e;cases e;exact⟨p,by rw[<-h.len];simp,ho⟩
theorem RH.lay(h:RH K ι H S)(hp:H p=Option.none)(r:RVs K ι H ds xs):RH K (ι++[p]) (upd H p (.lst xs)) (S.push (.lst ds)):=h.obj' hp _ _ ⟨xs,zal,r.ext (Ext.obj h hp _)⟩
theorem RH.last(h:RH K ι H S)(p:Addr):(ι++[p])[S.len]?=some p:=by rw[<-h.len];simp
theorem Ext.wr(h:RH K ι H S)(e:S.get l=some o)(hl:ι[l]?=some a)(u:HO):Ext ι H ι (upd H a u):=by have hm:=mem_of_getElem? hl;refine⟨prefix_refl _,.same (fun b xs hb=>?_) (fun b z v hb=>?_) fun b ps hb=>?_,fun b o hb e=>⟨.inl ((zag fun(z:b=a)=>hb (by rw[z];exact hm)).trans e),hb⟩⟩;rw[zag];exact hb;rintro rfl;exact h.notup hb hm;rw[zag];exact hb;rintro rfl;obtain⟨o,e,_,q,_⟩:=h.live hm;rw[hb]at e;cases e;exact q _ _ rfl;rw[zag];exact hb;rintro rfl;obtain⟨o,e,_,_,q⟩:=h.live hm;rw[hb]at e;cases e;exact q _ rfl
theorem znU(e:S.put l o=some S'):S'.len=S.len/\(l<S.len->S'.get l=some o)/\(∀m,m≠l->S'.get m=S.get m)/\S.frz.length<=l:=by unfold St.put at e;split at e;cases e;split at e;cases e;injection e with e;subst e;rename_i c1 c2;refine⟨by simp[St.len],fun hl=>?_,fun m hm=>?_,by omega⟩;unfold St.len at hl;unfold St.get;simp[c1,if_false];rw[getElem?_set_self (by omega)];unfold St.get;simp only;split;rfl;rw[getElem?_set_ne (by omega)]
theorem RH.wr(h:RH K ι H S)(e:S.get l=some o)(hl:ι[l]?=some a)(w:S.put l o'=some S')(ho:RO K ι (upd H a u) a o'):RH K ι (upd H a u) S':=by obtain⟨h1,h2,h3,_⟩:=znU w;refine⟨h.len.trans h1.symm,h.nd,fun m o2 e2=>?_,(Ext.wr h e hl u).kp.tab h.tab⟩;by_cases hm:m=l;subst hm;rw[h2 (zai e)]at e2;cases e2;exact⟨a,hl,ho⟩;rw[h3 m hm]at e2;obtain⟨b,q1,q2,_⟩:=h.mem e2;refine⟨b,q1,q2.stay (Ext.wr h e hl u) (zag ?_)⟩;rintro rfl;obtain⟨i1,e1⟩:=List.getElem?_eq_some_iff.mp hl;obtain⟨i2,e2⟩:=List.getElem?_eq_some_iff.mp q1;exact hm ((List.getElem_inj h.nd).mp (e2.trans e1.symm))
end
end R
namespace R
open PySem PySem.Spec PyProof.Rows L2
section
variable{prog:Program}{w:World}{K:Type}[DecidableEq K]{knd:HeapKind prog w K}{A:Around}{E:Value->Shared->Prop}{s:Shared}{xs:List (K×Addr×Value)}{d j:Addr}{i ep:Nat}
def HAt(knd:HeapKind prog w K)(h:Heap)(d:Addr)(xs:List (K×Addr×Value))(ep:Nat):Prop:=∃o es,h.get? d=some o/\o.ExactDict/\o.data=.dict es ep/\es.toList=xs.map (entryOfKey knd)
theorem HAt.at(x:HAt knd h d xs ep)(e:∀o,h.get? d=some o->h'.get? d=some o):HAt knd h' d xs ep:=let ⟨o,es,ho,r⟩:=x;⟨o,es,e _ ho,r⟩
theorem zoE(ty:s.TypeIs (.ref d) "dict")(h:Q false s):wpAny (model prog w) A (Builtin.List.listLengthHint (.ref d)) Q E s:=by refine wpAny_bind (wpAny_specialOf ty F.slot_dict_len.lookup ?_);generalize hid:("dict.__len__":String)=id0;subst hid;refine wpAny_bind (wpAny_isInstance ty isSubtype_dict_dict ?_);refine wpAny_bind (wpAny_typeOf ty ?_);exact wpAny_pure h
end
end R
namespace R
open PySem PySem.Spec PyProof.Rows L2
variable[Mks]
def Lf(K:Frag)(ι:List Addr)(H:Hp)(Q:D->R.St->Prop):VK:=fun v H'=>∃d ι' S',Ext ι H ι' H'/\RV K ι' H' d v/\RH K ι' H' S'/\Q d S'
section
variable{K:Frag}{ι ι':List Addr}{H H':Hp}{S S':R.St}{Q:D->R.St->Prop}{d:D}{v:V}{p:Addr}
theorem Lf.of(h:RH K ι H S)(r:RV K ι H d v)(q:Q d S):Lf K ι H Q v H:=⟨d,ι,S,Ext.refl ι H,r,h,q⟩
theorem Lf.up(x:Ext ι H ι' H')(h:Lf K ι' H' Q v p'):Lf K ι H Q v p':=by obtain⟨d,ι2,S2,x2,r⟩:=h;exact⟨d,ι2,S2,x.trans x2,r⟩
theorem Lf.tup(h:RH K ι H S)(hp:H p=Option.none)(r:RVs K ι H ds xs)(q:Q (.tup ds) S):Lf K ι H Q (.ref p) (upd H p (.tup xs)):=⟨.tup ds,ι,S,Ext.new hp _,⟨p,xs,rfl,zal,r.ext (Ext.new hp _)⟩,h.new hp _,q⟩
theorem Lf.lst(h:RH K ι H S)(hp:H p=Option.none)(r:RVs K ι H ds xs)(q:Q (.ref S.len) (S.push (.lst ds))):Lf K ι H Q (.ref p) (upd H p (.lst xs)):=⟨.ref S.len,ι++[p],S.push (.lst ds),Ext.obj h hp _,⟨p,h.last p,rfl⟩,h.lay hp r,q⟩
theorem Lf.wr(h:RH K ι H S)(e:S.get l=some o)(hl:ι[l]?=some a)(w:S.put l (.lst ds)=some S')(r:RVs K ι H ds xs)(rv:RV K ι H d v)(q:Q d S'):Lf K ι H Q v (upd H a (.lst xs)):=⟨d,ι,S',Ext.wr h e hl _,rv.ext (Ext.wr h e hl _),h.wr e hl w ⟨xs,zal,r.ext (Ext.wr h e hl _)⟩,q⟩
end
theorem zbC(h:W (lay S ds) Q):ds.length<=sizeLine/\Q (.ref S.len) (S.push (.lst ds)):=by unfold lay at h;split at h;rename_i c;exact⟨by rw[sizeLine_eq];exact c,h⟩;exact h.elim
theorem zmY(h:W (wr S l ds d) Q):ds.length<=sizeLine/\∃S',S.put l (.lst ds)=some S'/\Q d S':=by
 unfold wr at h;split at h;rename_i c;refine⟨by rw[sizeLine_eq];exact c,?_⟩;cases e:S.put l (.lst ds) with|none=>rw[e]at h;exact h.elim|some S'=>rw[e]at h;exact⟨S',rfl,h⟩
 exact h.elim
def rD2(K:Frag)(f:R.St->D->D->Out D):R2:=fun x y H Qv=>∃ι S d e Qd,RV K ι H d x/\RV K ι H e y/\RH K ι H S/\W (f S d e) Qd/\∀v H',Lf K ι H Qd v H'->Qv v H'
section
variable{X:Cx}
theorem zmh{vs ws:List Value}(ht:IsTup s.heap t vs.toArray)(hb:IsTup s.heap b ws.toArray)(hv:vs=[])
  (h1:Q (.ref b) s):wpAny (model prog w) A (binaryOp .Add (.ref t) (.ref b)) Q E s:=by
 obtain⟨⟨cls,dd,data,sl⟩,ho,hc,n,hd⟩:=id ht;obtain⟨⟨cls2,dd2,data2,sl2⟩,ho2,hc2,n2,hd2⟩:=id hb;subst hc hd hc2 hd2;exact concat_meets ⟨_,ho,rfl⟩ ⟨_,ho2,rfl⟩ noFill_tuple_add seq_tuple_add PySem.F.slot_tuple_add PySem.F.entry_tuple_add (PySem.F.args_tuple_add_2 _ _)
  (tuple_addW0 t b vs.toArray ws.toArray n n2 dd dd2 sl sl2 (by simp[hv])) ⟨ho,ho2,h1⟩
theorem zlN:OpR X (binaryOp .Add) (fun x y H Q=>∃a b ys,x=.ref a/\y=.ref b/\SqT X.K H a []/\SqT X.K H b ys/\Q (.ref b) H):=by intro pins s σ H x y v u Q I rx ry h;obtain⟨a,b,ys,rfl,rfl,ha,hb,q⟩:=h;cases rx;cases ry;obtain⟨its,r1,p1,_⟩:=I.tuple ha;obtain⟨its2,r2,p2,_⟩:=I.tuple hb;exact zmh p1 p2 (r1.nil_iff.mpr rfl) ⟨.ref b,H,I,rfl,q⟩
theorem zrr(op:Operator):OpR X (binaryOp op) (rD2 X.K fun S d e=>binD S op d e):=by
 intro pins s σ H x y v u Qv I rx ry ⟨ι,S,d,e,Qd,hd,he,hH,hw,q⟩;dsimp only at hw;unfold binD at hw;split at hw;rename_i i j;obtain rfl:x=.int i:=hd;obtain rfl:y=.int j:=he;have fin:∀k:Int,Qd (.int k) S->Qv (.int k) H:=fun k hk=>q _ _ (Lf.of (d:=.int k) hH rfl hk);unfold binI at hw;split at hw;exact zqF pins s σ H _ _ v u Qv I rx ry ⟨i,j,rfl,rfl,fin _ hw⟩;exact zqx pins s σ H _ _ v u Qv I rx ry ⟨i,j,rfl,rfl,fin _ hw⟩;split at hw;rename_i c;refine zqB pins s σ H _ _ v u Qv I rx ry ⟨i,j,rfl,rfl,?_,fin _ hw⟩;unfold zlO at c;rw[or_eq_true,decide_eq_true_eq,decide_eq_true_eq]at c;exact c;exact hw.elim;split at hw;rename_i c;exact zod pins s σ H _ _ v u Qv I rx ry ⟨i,j,rfl,rfl,c,fin _ hw⟩;exact hw.elim;split at hw;rename_i c;exact zqC pins s σ H _ _ v u Qv I rx ry ⟨i,j,rfl,rfl,c,fin _ hw⟩;exact hw.elim;split at hw;rename_i c;exact zqz pins s σ H _ _ v u Qv I rx ry ⟨i,j,rfl,rfl,⟨c.1,c.2.1,by omega⟩,fin _ hw⟩;exact hw.elim;exact hw.elim;rename_i xs ys;split at hw;split at hw;rename_i c;obtain⟨a,us,rfl,ha,r1⟩:=hd;obtain⟨b,ws,rfl,hb,r2⟩:=he;by_cases hn:us=[];subst hn;have hx:xs=[]:=by have:=r1.length;simpa using this.symm
 subst hx;refine zlN pins s σ H _ _ v u Qv I rx ry ⟨a,b,ws,rfl,rfl,SqT.of ha,SqT.of hb,?_⟩;exact q _ _ (Lf.of (d:=.tup ys) hH ⟨b,ws,rfl,hb,r2⟩ (by simpa using hw));refine zoe pins s σ H _ _ v u Qv I rx ry ⟨a,b,us,ws,rfl,rfl,SqT.of ha,SqT.of hb,hn,?_,fun hy=>?_,fun hy p hp=>?_⟩;rw[r1.length,r2.length,sizeLine_eq];exact c;subst hy;have hx:ys=[]:=by have:=r2.length;simpa using this.symm
 subst hx;exact q _ _ (Lf.of (d:=.tup xs) hH ⟨a,us,rfl,ha,r1⟩ (by simpa using hw));exact q _ _ (Lf.tup hH hp (r1.append r2) hw);exact hw.elim;exact hw.elim;rename_i a b;split at hw;rename_i xs ys e1 e2;obtain⟨a1,h1,rfl⟩:=hd;obtain⟨b1,h2,rfl⟩:=he;obtain⟨a2,h3,us,ha,r1⟩:=hH.obj _ _ e1;obtain⟨b2,h4,ws,hb,r2⟩:=hH.obj _ _ e2;rw[h1]at h3;cases h3;rw[h2]at h4;cases h4;obtain⟨z,hq⟩:=zbC hw;refine zqE pins s σ H _ _ v u Qv I rx ry ⟨a1,b1,us,ws,rfl,rfl,ha,hb,?_,fun p hp=>?_⟩;rw[r1.length,r2.length];rw[length_append]at z;exact z;exact q _ _ (Lf.lst hH hp (r1.append r2) hq);exact hw.elim;exact hw.elim
theorem za3{α β:Type}{f:α->Option β}{x:α}{xs:List α}{ys:List β}(h:(x::xs).mapM f=some ys):∃y r,f x=some y/\xs.mapM f=some r/\ys=y::r:=by
 rw[mapM_cons]at h;cases e:f x with
 |none=>rw[e]at h;cases h
 |some y=>
  rw[e]at h;cases e2:xs.mapM f with
  |none=>rw[e2]at h;cases h
  |some r=>rw[e2]at h;injection h with h;exact⟨y,r,rfl,rfl,h.symm⟩
theorem zh3(hH:RH X.K ι H S):∀(n:Nat)(d:D)(pdd:PyData)(v:V),pd S n d=some pdd->RV X.K ι H d v->Rep H pdd v/\pdd.canLay0=true/\pdd.depth<=n:=by
 intro n;induction n with
 |zero=>
  intro d p v h r;cases d<;>simp only[pd]at h
  cases h;exact⟨r,rfl,le_refl _⟩;cases h;exact⟨r,rfl,le_refl _⟩;cases h;exact⟨r,rfl,le_refl _⟩;split at h;rename_i c;cases h;exact⟨r,c,le_refl _⟩;cases h
  all_goals cases h
 |succ n ih=>
  have all:∀(ds:List D)(ps:List PyData)(vs:List V),ds.mapM (pd S n)=some ps->RVs X.K ι H ds vs->RepAll H ps vs/\PyData.canLayAll0 ps=true/\PyData.depthAll ps<=n:=by
   intro ds;induction ds with
   |nil=>
    intro ps vs h r;have h:ps=[]:=by simpa using h.symm
    subst h;exact⟨r,rfl,zero_le _⟩
   |cons d ds ihd=>intro ps vs h r;obtain⟨y,rr,h1,h2,rfl⟩:=za3 h;obtain⟨v,w,rfl,r1,r2⟩:=r;obtain⟨a1,a2,a3⟩:=ih d y v h1 r1;obtain⟨b1,b2,b3⟩:=ihd rr w h2 r2;refine⟨⟨v,w,rfl,a1,b1⟩,by simp[PyData.canLayAll0,a2,b2],?_⟩;simp[PyData.depthAll];omega
  intro d p v h r;cases d with
  |non=>simp[pd]at h;cases h;exact⟨r,rfl,zero_le _⟩|bl b=>simp[pd]at h;cases h;exact⟨r,rfl,zero_le _⟩|int i=>simp[pd]at h;cases h;exact⟨r,rfl,zero_le _⟩| str x=>simp only[pd]at h;split at h;rename_i c;cases h;exact⟨r,c,zero_le _⟩;cases h
  |tup ds=>
   simp only[pd]at h;cases e:ds.mapM (pd S n) with
   |none=>rw[e]at h;cases h
   |some ps=>
    rw[e]at h;have h:PyData.tuple ps=p:=by simpa using h
    subst h;obtain⟨a,xs,rfl,ha,rr⟩:=r;obtain⟨b1,b2,b3⟩:=all ds ps xs e rr;refine⟨⟨a,xs,rfl,ha,b1⟩,by simp[PyData.canLay0,b2],?_⟩;simp[PyData.depth];omega
  |ref l=>
   simp[pd]at h;split at h;rename_i ds eg;cases e:ds.mapM (pd S n) with
   |none=>rw[e]at h;cases h
   |some ps=>
    rw[e]at h;have h:PyData.list ps=p:=by simpa using h
    subst h;obtain⟨a,h1,rfl⟩:=r;obtain⟨a2,h2,xs,ha,rr⟩:=hH.obj _ _ eg;rw[h1]at h2;cases h2;obtain⟨b1,b2,b3⟩:=all ds ps xs e rr;refine⟨⟨a,xs,rfl,ha,b1⟩,by simp[PyData.canLay0,b2],?_⟩;simp[PyData.depth];omega
   cases h
  |fix ds=>simp only[pd]at h;cases h
def rC2(K:Frag)(op:CmpOp):R2:=fun x y H Qv=>∃ι S d e k,RV K ι H d x/\RV K ι H e y/\RH K ι H S/\cmpD S op d e=some k/\Qv (.bl k) H
theorem zhr(h:eqD S d e=some k):∃a b,pd S 60 d=some a/\pd S 60 e=some b/\k=PyData.eqv a b:=by
 unfold eqD at h;cases e1:pd S 60 d with
 |none=>rw[e1]at h;cases h
 |some a=>
  rw[e1]at h;cases e2:pd S 60 e with
  |none=>rw[e2]at h;cases h
  |some b=>rw[e2]at h;injection h with h;exact⟨a,b,rfl,rfl,h.symm⟩
open Classical in
noncomputable def eqRd(h:Heap)(p:PyData)(u:Value):Bool:=if c:∃q as,Reads h u q as/\q.canLay0=true then PyData.eqv c.choose p else false
theorem zoL(r:Reads h u q as)(c:q.canLay0=true):eqRd h p u=PyData.eqv q p:=by have ex:∃q as,Reads h u q as/\q.canLay0=true:=⟨q,as,r,c⟩;unfold eqRd;rw[dif_pos ex];obtain⟨as',r',c'⟩:=ex.choose_spec;rw[SeqAt.Reads.unique _ _ _ _ _ c r r']
theorem zl7{σ:L2.St}(I:Inv X pins σ H s)(hA:A.units+62<cLine)(hH:RH X.K ι H S)(hx:pd S 60 x=some px)(rx:RV X.K ι H x vx)(qx:RelV vx ux) :
  ∀{ds:List D}{vs:List V}{us:List Value}{bs:List Bool},RVs X.K ι H ds vs->Vals vs us->ds.mapM (fun z=>eqD S z x)=some bs->us.any (eqRd s.heap px)=bs.any id/\∀u∈us,SeqAt.EqAt A s u ux (eqRd s.heap px u):=by
 obtain⟨x1,x2,x3⟩:=zh3 hH 60 x px vx hx rx;obtain⟨asx,rdx⟩:=Rep.reads I px vx ux x1 qx;intro ds;induction ds with
 |nil=>
  intro vs us bs r rv h;cases r;cases rv;have h:bs=[]:=by simpa using h.symm
  subst h;exact⟨rfl,fun u hu=>nomatch hu⟩
 |cons d ds ih=>intro vs us bs r rv h;obtain⟨v,w,rfl,r1,r2⟩:=r;obtain⟨b,rr,e,h2,rfl⟩:=za3 h;cases rv with| cons q1 q2=>rename_i u us';obtain⟨a,b',e1,e2,rfl⟩:=zhr e;rw[hx]at e2;cases e2;obtain⟨p1,p2,p3⟩:=zh3 hH 60 d a v e1 r1;obtain⟨as,rd⟩:=Rep.reads I a v u p1 q1;have hq:=zoL (p:=px) rd p2;obtain⟨i1,i2⟩:=ih r2 q2 h2;refine⟨by simp[hq,i1],fun z hz=>?_⟩;rcases mem_cons.mp hz with rfl|hz;rw[hq];exact SeqAt.eqAt_reads a px A s z ux as asx rd rdx p2 x2 (by omega);exact i2 z hz
theorem zmu(hH:RH X.K ι H S)(h:zcc S d=some ds)(r:RV X.K ι H d v):∃a xs,v=.ref a/\(SqL X.K H a xs\/SqT X.K H a xs)/\RVs X.K ι H ds xs:=by
 cases d with
 |tup es=>cases h;obtain⟨a,xs,rfl,ha,rr⟩:=r;exact⟨a,xs,rfl,.inr (SqT.of ha),rr⟩| fix es=>cases h;obtain⟨a,xs,rfl,ha,rr⟩:=r;exact⟨a,xs,rfl,.inl ha.sq,rr⟩| ref l=>simp[zcc]at h;split at h;rename_i ds' e;cases h;obtain⟨a,h1,rfl⟩:=r;obtain⟨a2,h2,xs,ha,rr⟩:=hH.obj _ _ e;rw[h1]at h2;cases h2;exact⟨a,xs,rfl,.inl (SqL.of ha),rr⟩;cases h
 |_=>cases h
theorem zq4(h:inD S x ys=some k):∃bs,ys.mapM (fun z=>eqD S z x)=some bs/\k=bs.any id:=by
 unfold inD at h;cases e:ys.mapM (fun z=>eqD S z x) with
 |none=>rw[e]at h;cases h
 |some bs=>rw[e]at h;injection h with h;exact⟨bs,rfl,h.symm⟩
theorem nonV{K:Frag}(hd:RV K ι H d x):decide (x=V.non)=zl6 d:=by cases d with|non=>rw[show x=.non from hd];rfl|bl b=>rw[show x=.bl b from hd];rfl|int b=>rw[show x=.int b from hd];rfl|str b=>rw[show x=.str b from hd];rfl|tup b=>obtain⟨_,_,rfl,_⟩:=hd;rfl|ref b=>obtain⟨_,_,rfl⟩:=hd;rfl|fix b=>obtain⟨_,_,rfl,_⟩:=hd;rfl
theorem zef(hu:X.A.units+128<cLine)(op:CmpOp):OpR X (compareOp op) (rC2 X.K op):=by
 intro pins s σ H x y v u Qv I rx ry ⟨ι,S,d,e,k,hd,he,hH,hc,q⟩;unfold cmpD at hc;split at hc;rename_i i j;obtain rfl:x=.int i:=hd;obtain rfl:y=.int j:=he;unfold cmpI at hc;split at hc;cases hc;exact zsk pins s σ H _ _ v u Qv I rx ry ⟨rfl,by simpa using q⟩;cases hc;exact zsf pins s σ H _ _ v u Qv I rx ry ⟨rfl,by simpa using q⟩;cases hc;exact zsg pins s σ H _ _ v u Qv I rx ry ⟨i,j,rfl,rfl,q⟩;cases hc;exact zsh pins s σ H _ _ v u Qv I rx ry ⟨i,j,rfl,rfl,q⟩;cases hc;exact zsi pins s σ H _ _ v u Qv I rx ry ⟨i,j,rfl,rfl,q⟩;cases hc;exact zsj pins s σ H _ _ v u Qv I rx ry ⟨i,j,rfl,rfl,q⟩;cases hc;unfold cmpO at hc;have isin:∀(k:Bool),((zcc S e).bind fun ys=>inD S d ys)=some k->∃a xs,y=.ref a/\(SqL X.K H a xs\/SqT X.K H a xs)/\∃(px:PyData),∀us,Vals xs us->us.any (eqRd s.heap px)=k/\∀z∈us,SeqAt.EqAt X.A.in1 s z v (eqRd s.heap px z):=by
  intro k h;cases es:zcc S e with
  |none=>rw[es]at h;cases h
  |some ys=>
   rw[es]at h;obtain⟨bs,hb,rfl⟩:=zq4 h;obtain⟨a,xs,rfl,hq,rr⟩:=zmu hH es he;refine⟨a,xs,rfl,hq,?_⟩;cases hp:pd S 60 d with
   |some px=>exact⟨px,fun us hus=>zl7 I (show X.A.units+1+62<cLine by omega) hH hp hd rx rr hus hb⟩| none=>
    cases ys with
    |nil=>
     refine⟨.none,fun us hus=>?_⟩;cases rr;cases hus;have hb:bs=[]:=by simpa using hb.symm
     subst hb;exact⟨rfl,fun z hz=>nomatch hz⟩
    |cons z zs=>obtain⟨b,r,h1,_⟩:=za3 hb;obtain⟨_,_,_,h3,_⟩:=zhr h1;rw[hp]at h3;cases h3
 split at hc
 . skip
   obtain⟨a,b,h1,h2,rfl⟩:=zhr hc;obtain⟨p1,p2,p3⟩:=zh3 hH 60 d a x h1 hd;obtain⟨q1,q2,q3⟩:=zh3 hH 60 e b y h2 he;exact zqD (by omega) pins s σ H x y v u Qv I rx ry ⟨a,b,p1,q1,p2,q2,by omega,q⟩
 cases hk:eqD S d e with
 |none=>rw[hk]at hc;cases hc
 |some k'=>
  rw[hk]at hc;obtain⟨a,b,h1,h2,rfl⟩:=zhr hk;obtain⟨p1,p2,p3⟩:=zh3 hH 60 d a x h1 hd;obtain⟨q1,q2,q3⟩:=zh3 hH 60 e b y h2 he;have hc:k = !PyData.eqv a b:=by simpa using hc.symm
  subst hc;exact zqA (by omega) pins s σ H x y v u Qv I rx ry ⟨a,b,p1,q1,p2,q2,by omega,q⟩
 split at hc;obtain rfl:y=.non:=he;cases hc;obtain rfl:u=Value.none:=ry;refine is_none_gen ⟨.bl _,H,I,rfl,?_⟩;rw[rx.none_iff,nonV hd];exact q;cases hc;split at hc;obtain rfl:y=.non:=he;cases hc;obtain rfl:u=Value.none:=ry;refine isnot_none_gen ⟨.bl _,H,I,rfl,?_⟩;rw[rx.none_iff,nonV hd];exact q;cases hc
 . skip
   obtain⟨a,xs,rfl,hq,px,hp⟩:=isin _ hc;cases ry;rcases hq with hq|hq;obtain⟨its,r,pl,hz⟩:=I.list hq;obtain⟨h1,h2⟩:=hp its r;exact SeqAt.in_listAt (eqRd s.heap px) pl.isList (fun w hw=>h2 w (by simpa using hw)) (zat I q (by simpa using h1.symm));obtain⟨its,r,pl,hz⟩:=I.tuple hq;obtain⟨h1,h2⟩:=hp its r;exact SeqAt.in_tupleAt (eqRd s.heap px) pl (fun w hw=>h2 w (by simpa using hw)) (zat I q (by simpa using h1.symm))
 cases hk:(zcc S e).bind fun ys=>inD S d ys with
 |none=>rw[hk]at hc;cases hc
 |some k'=>
  rw[hk]at hc;have hc:k = !k':=by simpa using hc.symm
  subst hc;obtain⟨a,xs,rfl,hq,px,hp⟩:=isin k' hk;cases ry;rcases hq with hq|hq;obtain⟨its,r,pl,hz⟩:=I.list hq;obtain⟨h1,h2⟩:=hp its r;exact SeqAt.notIn_listAt (eqRd s.heap px) pl.isList (fun w hw=>h2 w (by simpa using hw)) (zat I q (by simpa using congrArg (!·) h1.symm));obtain⟨its,r,pl,hz⟩:=I.tuple hq;obtain⟨h1,h2⟩:=hp its r;exact SeqAt.notIn_tupleAt (eqRd s.heap px) pl (fun w hw=>h2 w (by simpa using hw)) (zat I q (by simpa using congrArg (!·) h1.symm))
 cases hc
end
noncomputable def zah:Expr->Bool|.Starred _ _=>false|_=>true
noncomputable def zbm:Expr->Bool|.ListComp ..=>false|.SetComp ..=>false|.DictComp ..=>false|_=>true
noncomputable def zeD:Expr->Bool|.Slice ..=>false|_=>true
noncomputable def zaX:Expr->Bool|.Set ..=>false|_=>true
noncomputable def za7:Expr->Bool|.Call (.Name _ _) [] [] _=>false|_=>true
noncomputable def zg2:Expr->Bool|.UnaryOp .Not _ _=>false|.BoolOp ..=>false|.IfExp ..=>false|.Compare ..=>false|_=>true
theorem zaj(h:zah e=true)(es:List Expr)(env:Env):starEach (e::es) env=(false,eval e env)::starEach es env:=by cases e<;>first|rfl|cases h
theorem zer(h:zbm e=true)(t:Option Expr)(l:Nat)(env:Env):swapsWith e t l env=pure false:=by cases e<;>first|rfl|cases h
theorem zsp(h:zeD e=true):zkV e:=by intro o i;cases e<;>first|rfl|cases h
theorem zeI(h:zaX e=true)(op:CmpOp):behindInMarks op e=false:=by cases e<;>first|rfl|cases h
theorem zcj(h:za7 e=true)(x:Str)(env:Env)(w:Sem Value):attributeBase e x env w=w:=by unfold attributeBase;split;cases h;rfl
theorem zpj(h:zg2 e=true)(env:Env)(w:Sem Value):isTrue e env w=(do let v <-w;standAt e.pos;holding [v] (truthy v)):=by
 cases e with
 |UnaryOp op x p=>cases op<;>first|rfl|cases h
 |_=>first|rfl|cases h
theorem zgx(h:zaX e=true)(env:Env)(x:Value):foldedSetIterable e env x=pure x:=by cases e<;>first|rfl|cases h
theorem zaR:∀{es:List Expr},es.all zah=true->(backTo pos (starEach es env)).any (·.1)=false
 | [],_=>rfl| e::es,h=>by rw[all_cons,and_eq_true]at h;rw[zaj h.1];exact zaR h.2
def BM(mg:Str->Option Value)(base:Heap):Prop:=∃(bm:Addr) (o:Obj),mg "__builtins__"=some (.ref bm)/\bm≠builtinsNs/\bm≠mainGlobals/\base.get? bm=some o/\o.cls=.type "module"/\o.dict=some builtinsNs/\o.data=.plain
structure Maker(X:Cx)(c P:Addr):Prop where
 bm:BM X.mg X.base
 code:X.env.code=.ref c
 hd:codeHdIn X.K c P=true
 mem:(P,X.env.qual ++ "<lambda>")∈Mks.ts
 one:∀p∈Mks.ts,p.1=P->p.2=X.env.qual ++ "<lambda>"
structure Tab where
 blt:List Str
 cons:List (Str×D)
 fns:List (Str×List Str×Nat)
 cls:List Str:=[]
 flds:List Str:=[]
 mts:List (Nat×Str×Nat):=[]
 inits:List (Nat×Nat×Nat):=[]
 cms:List (Str×Str×Nat):=[]
 isas:List (Str×List Nat):=[]
 lam:List Str:=["lambda"]
 lamP:Nat:=0
noncomputable def zl5(sc:Scope)(x:Str):Bool:=match sc.names.lookup x with|some .local=>true|some .cell=>true|some .free=>true|_=>false
noncomputable def zfB(sc:Scope)(x:Str):Bool:=match sc.names.lookup x with|some .local=>true|some .cell=>true|_=>false
noncomputable def isGl(sc:Scope)(x:Str):Bool:=match sc.names.lookup x with|some .globalImplicit=>true|_=>false
noncomputable def eqC:D->D->Bool
 |.non,.non=>true|.bl a,.bl b=>a==b|.int a,.int b=>a==b|.str a,.str b=>a==b|_,_=>false
theorem zri:∀{d e:D},eqC d e=true->d=e:=by intro d e h;cases d<;>cases e<;>first|rfl|(simp[eqC,beq_iff_eq]at h;subst h;rfl)|cases h
noncomputable def sV:D->V
 |.non=>.non|.bl b=>.bl b|.int i=>.int i|.str x=>.str x|_=>.non
noncomputable def znE:D->Bool
 |.non=>true|.bl _=>true|.int _=>true|.str _=>true|_=>false
theorem zr4{K:Frag}(h:znE d=true):RV K ι H d (sV d):=by cases d<;>first|rfl|cases h
noncomputable def conB:D->Const->Bool
 |.non,.none=>true|.bl a,.bool b=>a==b|.int a,.int b=>a==b|.str a,.str b=>a==b|_,_=>false
noncomputable def bltB(T:Tab)(sc:Scope)(x:Str):Bool:=isGl sc x&&T.blt.contains x
def spF(K:Frag)(cf:CF)(f:Nat):Sp:=fun vs H Qv _=>∃ι S ds,RVs K ι H ds vs/\RH K ι H S/\W (cf f ds S) (fun d T=>∀v H' ι',Ext ι H ι' H'->RV K ι' H' d v->RH K ι' H' T->Qv v H')
structure HasM(P:Program)(w:World)(K:Frag)(mg:Str->Option Value)(base:Heap)(k c:Nat)(m:Str)(sp:Sp):Prop where
 ex:∃(C fa:Addr) (fd:FuncData) (ps:List Str),Mks.cl[c]?=some C/\Cls K C/\Meth K C m fa/\FnOk P w K mg base CX0 k fa fd ps sp/\Binds K fd ps []
structure HasI(P:Program)(w:World)(K:Frag)(mg:Str->Option Value)(base:Heap)(k c j:Nat)(sp:Sp):Prop where
 ex:∃(C fa:Addr) (fd:FuncData) (ps:List Str),Mks.cl[c]?=some C/\Mk K C fa/\FnOk P w K mg base CX0 k fa fd ps sp/\Binds K fd ps (List.replicate j Value.none)
structure HasC(P:Program)(w:World)(K:Frag)(mg:Str->Option Value)(base:Heap)(k:Nat)(x m:Str)(sp:Sp):Prop where
 ex:∃(C fa:Addr) (fd:FuncData) (ps:List Str) (mc:Value),mg x=some (.ref C)/\specialIn K (.ref C) "__getattribute__"=some (some (.builtin "type.__getattribute__"))/\readsIn K C mc=true/\findCls K (.ref C) mc m=some (.val (.ref fa))/\
  keepIn K (.ref fa)=true/\FnOk P w K mg base CX0 k fa fd ps sp/\Binds K fd ps []
structure IsaOk(K:Frag)(C:Addr):Prop where
 ha:findIn K (.ref C) "__class__"=some (some (.builtin "object.__class__"))
 hn:specialIn K (.builtin "object.__class__") "__get__"=some (some (.builtin "getset_descriptor.__get__"))
 ht:takesIn K (.builtin "object.__class__")=some true
 hm:mroIn K C (.type "object")=some true
structure TabOk(T:Tab)(cf:CF)(k:Nat)(P:Program)(w:World)(K:Frag)(mg:Str->Option Value)(base:Heap):Prop where
 blt:∀x,T.blt.contains x=true->mg x=none
 con:∀x d,T.cons.lookup x=some d->znE d=true/\∃u,mg x=some u/\RelV (sV d) u
 fns:∀f x ps nd,T.fns[f]?=some (x,ps,nd)->∀j,j<=nd->Has P w K mg base k x ps (List.replicate j .non) (spF K cf f)
 frm:CFok cf
 cls:∀(c:Nat)(x:Str),T.cls[c]?=some x->∃C,Mks.cl[c]?=some C/\Cls K C/\mg x=some (.ref C)/\∀f,T.flds.contains f=true->NoAttr K C f
 mth:∀(c:Nat)(m:Str)(fi:Nat),T.mts.contains (c,m,fi)=true->HasM P w K mg base k c m (spF K cf fi)
 ini:∀(c fi j:Nat),T.inits.contains (c,fi,j)=true->HasI P w K mg base k c j (spF K cf fi)
 cmd:∀(x m:Str)(fi:Nat),T.cms.contains (x,m,fi)=true->HasC P w K mg base k x m (spF K cf fi)
 cln:(T.flds≠[]\/T.inits≠[]\/T.isas≠[])->Mks.cl.length<=T.cls.length
 isa:∀(x:Str)(cs:List Nat),T.isas.contains (x,cs)=true->∃D,mg x=some (.ref D)/\∀c C,Mks.cl[c]?=some C->IsaOk K C/\kitOne K (.ref C) (.ref D)=some (cs.contains c)
structure Gd(T:Tab)(cf:CF)(k:Nat)(N:List Str)(sc:Scope)(X:Cx):Prop where
 nm:X.N=N
 nd:N.Nodup
 loc:∀x,sc.names.lookup x=some .local->X.env.scope.names.lookup x=some .local
 cell:∀x,sc.names.lookup x=some .cell->X.env.scope.names.lookup x=some .cell
 free:∀x,sc.names.lookup x=some .free->X.env.scope.names.lookup x=some .free\/X.env.scope.names.lookup x=some .cell
 glob:∀x,sc.names.lookup x=some .globalImplicit->X.env.scope.names.lookup x=some .globalImplicit
 fn:(∀x,X.fn x=true)\/∀x,sc.names.lookup x≠some .cell
 calm:X.calm=true
 xe:X.xe=fun _ _=>False
 room':Room (k+1) X.A
 tab:TabOk T cf k X.prog X.w X.K X.mg X.base
 lam:N=T.lam->3<=k/\∃c,Maker X c T.lamP
section
variable{T:Tab}{cf:CF}{k:Nat}{N:List Str}{sc:Scope}{X:Cx}
theorem Gd.room(G:Gd T cf k N sc X):Room k X.A:=G.room'.mono (le_succ k)
theorem Gd.hu(G:Gd T cf k N sc X):X.A.units+128<cLine:=by have:=G.room.un;omega
theorem Gd.vis(G:Gd T cf k N sc X)(h:zl5 sc x=true):Vis X.env.scope x:=by unfold zl5 at h;split at h;rename_i e;exact .inl (G.loc x e);rename_i e;exact .inr (.inl (G.cell x e));rename_i e;rcases G.free x e with q|q;exact .inr (.inr q);exact .inr (.inl q);cases h
theorem Gd.lc(G:Gd T cf k N sc X)(h:zfB sc x=true):Loc X.env.scope x/\(X.fn x=true\/X.env.scope.names.lookup x=some .local):=by unfold zfB at h;split at h;rename_i e;exact⟨.inl (G.loc x e),.inr (G.loc x e)⟩;rename_i e;refine⟨.inr (G.cell x e),?_⟩;rcases G.fn with q|q;exact .inl (q x);exact absurd e (q x);cases h
theorem Gd.gl(G:Gd T cf k N sc X)(h:isGl sc x=true):Gl X x:=by unfold isGl at h;split at h;rename_i e;exact G.glob x e;cases h
end
def RS(K:Frag)(ι:List Addr)(H:Hp)(δ:Ev)(σ:L2.St):Prop:=δ.length=σ.length/\∀(i:Nat)(d:D),δ[i]?=some (some d)->∃v,σ[i]?=some (some v)/\RV K ι H d v
theorem RS.ext{K:Frag}(h:RS K ι H δ σ)(x:Ext ι H ι' H'):RS K ι' H' δ σ:=⟨h.1,fun i d e=>let ⟨v,e1,r⟩:=h.2 i d e;⟨v,e1,r.ext x⟩⟩
theorem RS.set{K:Frag}(h:RS K ι H δ σ)(r:RV K ι H d v)(i:Nat):RS K ι H (δ.set i (some d)) (σ.set i (some v)):=by
 refine⟨by simp[h.1],fun j e hj=>?_⟩;by_cases hij:i=j;subst hij;have hl:i<δ.length:=by have:=(List.getElem?_eq_some_iff.mp hj).1;simpa using this
 rw[getElem?_set_self hl]at hj;cases hj;exact⟨v,getElem?_set_self (by rw[<-h.1];exact hl),r⟩;rw[getElem?_set_ne hij]at hj;obtain⟨v',e1,r'⟩:=h.2 j e hj;exact⟨v',by rw[getElem?_set_ne hij];exact e1,r'⟩
theorem ex8{α β γ ε:Type}{A B C E:α->β->γ->ε->Prop}{P:Prop}(f:∀a b c d,A a b c d->B a b c d->C a b c d->E a b c d->P):(∃a b c d,A a b c d/\B a b c d/\C a b c d/\E a b c d)->P:=fun⟨a,b,c,d,h1,h2,h3,h4⟩=>f a b c d h1 h2 h3 h4
def tE(K:Frag)(cf:CF)(ce:CE):TE:=fun σ H Qv=>∃δ ι S Q,RS K ι H δ σ/\RH K ι H S/\W (evE cf ce δ S) Q/\∀v H',Lf K ι H Q v H'->Qv v H'
def LfB(K:Frag)(ι:List Addr)(H:Hp)(Q:Bool->R.St->Prop):Bool->Hp->Prop:=fun b H'=>∃ι' S',Ext ι H ι' H'/\RH K ι' H' S'/\Q b S'
def tT(K:Frag)(cf:CF)(ce:CE):TT:=fun σ H Qv=>∃δ ι S Q,RS K ι H δ σ/\RH K ι H S/\W (evT cf ce δ S) Q/\∀b H',LfB K ι H Q b H'->Qv b H'
def LfA(K:Frag)(ι:List Addr)(H:Hp)(Q:List D->R.St->Prop):List V->Hp->Prop:=fun vs H'=>∃ds ι' S',Ext ι H ι' H'/\RVs K ι' H' ds vs/\RH K ι' H' S'/\Q ds S'
def tAs(K:Frag)(cf:CF)(ces:CEs):TA:=fun σ H Qv=>∃δ ι S Q,RS K ι H δ σ/\RH K ι H S/\W (evEs cf ces δ S) Q/\∀vs H',LfA K ι H Q vs H'->Qv vs H'
inductive SqK(K:Frag)(ι:List Addr)(H:Hp)(S:R.St)(a:Addr)(xs:List V)(ds:List D)(lks:List Nat):Prop where
 |tmp (h:a∉ι) (e:H a=some (.lst xs)):SqK K ι H S a xs ds lks
 |tup (e:H a=some (.tup xs)):SqK K ι H S a xs ds lks
 |fix (e:FixL K H a xs):SqK K ι H S a xs ds lks
 |own (l:Nat) (hl:l∈lks) (hi:ι[l]?=some a) (hs:S.get l=some (.lst ds)) (e:H a=some (.lst xs)):SqK K ι H S a xs ds lks
def Sq(K:Frag)(ι:List Addr)(H:Hp)(S:R.St)(v:V)(ds:List D)(lks:List Nat):Prop:=∃a xs,v=.ref a/\RVs K ι H ds xs/\SqK K ι H S a xs ds lks
def LfL(K:Frag)(ι:List Addr)(H:Hp)(Q:List D×List Nat->R.St->Prop):VK:=fun v H'=>∃ds lks ι' S',Ext ι H ι' H'/\Sq K ι' H' S' v ds lks/\RH K ι' H' S'/\Q (ds,lks) S'
def tL(K:Frag)(cf:CF)(cl:CL):TE:=fun σ H Qv=>∃δ ι S Q,RS K ι H δ σ/\RH K ι H S/\W (evL cf cl δ S) Q/\∀v H',LfL K ι H Q v H'->Qv v H'
def LfT(K:Frag)(ι:List Addr)(H:Hp)(Q:List D×List Nat->R.St->Prop):VK:=fun v H'=>∃ds ι' S' a xs,Ext ι H ι' H'/\v=.ref a/\RVs K ι' H' ds xs/\a∉ι'/\H' a=some (.lst xs)/\RH K ι' H' S'/\H a=none/\Q (ds,[]) S'
def tLt(K:Frag)(cf:CF)(cl:CL):TE:=fun σ H Qv=>∃δ ι S Q,RS K ι H δ σ/\RH K ι H S/\W (evL cf cl δ S) Q/\∀v H',LfT K ι H Q v H'->Qv v H'
theorem LfT.l{K:Frag}(h:LfT K ι H Q v H'):LfL K ι H Q v H':=by obtain⟨ds,ι',S',a,xs,x,rfl,r,ha,e,hh,_,q⟩:=h;exact⟨ds,[],ι',S',x,⟨a,xs,rfl,r,.tmp ha e⟩,hh,q⟩
theorem PE.imp(h:PE X e t)(i:∀σ H Q,t' σ H Q->t σ H Q):PE X e t':=fun pins s σ H Q I q=>h pins s σ H Q I (i σ H Q q)
theorem PT.imp(h:PT X e t)(i:∀σ H Q,t' σ H Q->t σ H Q):PT X e t':=fun pins s σ H Q I q=>h pins s σ H Q I (i σ H Q q)
theorem PW.imp(h:PW X e t)(i:∀σ H Q,t' σ H Q->t σ H Q):PW X e t':=fun wh pins s σ H Q I q=>h wh pins s σ H Q I (i σ H Q q)
theorem PA.imp(h:PA X es t)(i:∀σ H Q,t' σ H Q->t σ H Q):PA X es t':=fun pos pins s σ H Q I q=>h pos pins s σ H Q I (i σ H Q q)
theorem tE.run{K:Frag}(hs:RS K ι H δ σ)(hh:RH K ι H S)(w:W (evE cf a δ S) Q)
  (h:∀d v ι' H' S',Ext ι H ι' H'->RS K ι' H' δ σ->RH K ι' H' S'->RV K ι' H' d v->Q d S'->Qv v H'):tE K cf a σ H Qv:=
 ⟨δ,ι,S,Q,hs,hh,w,fun v H' ⟨d,ι',S',x,r,hh',q⟩=>h d v ι' H' S' x (hs.ext x) hh' r q⟩
theorem tT.run{K:Frag}(hs:RS K ι H δ σ)(hh:RH K ι H S)(w:W (evT cf a δ S) Q)
  (h:∀b ι' H' S',Ext ι H ι' H'->RS K ι' H' δ σ->RH K ι' H' S'->Q b S'->Qv b H'):tT K cf a σ H Qv:=
 ⟨δ,ι,S,Q,hs,hh,w,fun b H' ⟨ι',S',x,hh',q⟩=>h b ι' H' S' x (hs.ext x) hh' q⟩
theorem tAs.run{K:Frag}(hs:RS K ι H δ σ)(hh:RH K ι H S)(w:W (evEs cf a δ S) Q)
  (h:∀ds vs ι' H' S',Ext ι H ι' H'->RS K ι' H' δ σ->RH K ι' H' S'->RVs K ι' H' ds vs->Q ds S'->Qv vs H'):tAs K cf a σ H Qv:=
 ⟨δ,ι,S,Q,hs,hh,w,fun v H' ⟨d,ι',S',x,r,hh',q⟩=>h d v ι' H' S' x (hs.ext x) hh' r q⟩
theorem PE.ofT(h:PE X e (tLt X.K cf cl)):PE X e (tL X.K cf cl):=PE.imp h fun σ H Qv=>ex8 fun δ ι S Q hs hh w q=>⟨δ,ι,S,Q,hs,hh,w,fun v H' l=>q v H' l.l⟩
theorem tLt.run{K:Frag}(hs:RS K ι H δ σ)(hh:RH K ι H S)(w:W (evL cf a δ S) Q)
  (h:∀ds p xs ι' H' S',Ext ι H ι' H'->RS K ι' H' δ σ->RH K ι' H' S'->RVs K ι' H' ds xs->p∉ι'->H' p=some (.lst xs)->H p=none->Q (ds,[]) S'->Qv (.ref p) H'):tLt K cf a σ H Qv:=
 ⟨δ,ι,S,Q,hs,hh,w,fun v H' ⟨ds,ι',S',p,xs,x,e,r,hp,hx,hh',hn,q⟩=>e▸h ds p xs ι' H' S' x (hs.ext x) hh' r hp hx hn q⟩
theorem tL.run{K:Frag}(hs:RS K ι H δ σ)(hh:RH K ι H S)(w:W (evL cf a δ S) Q)
  (h:∀ds lks v ι' H' S',Ext ι H ι' H'->RS K ι' H' δ σ->RH K ι' H' S'->Sq K ι' H' S' v ds lks->Q (ds,lks) S'->Qv v H'):tL K cf a σ H Qv:=
 ⟨δ,ι,S,Q,hs,hh,w,fun v H' ⟨ds,lks,ι',S',x,r,hh',q⟩=>h ds lks v ι' H' S' x (hs.ext x) hh' r q⟩
section
variable{T:Tab}{cf:CF}{k:Nat}{N:List Str}{sc:Scope}{X:Cx}{pos:Pos}
theorem zf0(h:W o Q):∃a S,o=.ok a S/\Q a S:=W.iff.mp h
theorem zar(h:W (lift S o) Q):∃a,o=some a/\Q a S:=by cases o with|none=>exact h.elim|some a=>exact⟨a,rfl,h⟩
theorem zpM(G:Gd T cf k N sc X)(h1:N[i]?=some x)(h2:zl5 sc x=true)(h3:(x==("__debug__":Str))=false)(h4:(x==("__classdict__":Str))=false):PE X (.Name x pos) (tE X.K cf (.loc i)):=by
 refine PE.imp (zmB (by rw[G.nm];exact h1) (G.vis h2) h3 h4) fun σ H Qv=>ex8 fun δ ι S Q hs hh w q=>?_;obtain⟨d,e,hq⟩:=zar w;have e':δ[i]?=some (some d):=by
  cases z:δ[i]? with
  |none=>rw[z]at e;cases e
  |some o=>rw[z]at e;simp at e;rw[e]
 obtain⟨v,ev,r⟩:=hs.2 i d e';exact⟨v,ev,q v H (Lf.of hh r hq)⟩
theorem zpP(h:conB d c=true):PE X (.Constant c j pos) (tE X.K cf (.con d)):=by
 have key:∀{v:V},PE X (.Constant c j pos) (tC v)->(∀K ι H,RV K ι H d v)->PE X (.Constant c j pos) (tE X.K cf (.con d)):=fun {v} hp hr=>PE.imp hp fun σ H Qv=>ex8 fun δ ι S Q hs hh w q=>q v H (Lf.of hh (hr _ _ _) (by simpa[evE]using w))
 cases d<;>cases c<;>first
  |exact key zqn fun _ _ _=>rfl
  |cases h
  |(simp[conB,beq_iff_eq]at h;subst h;exact key zjo fun _ _ _=>rfl)
  |(simp[conB,beq_iff_eq]at h;subst h;exact key zse fun _ _ _=>rfl)
  |(simp[conB,beq_iff_eq]at h;subst h;exact key zqj fun _ _ _=>rfl)
theorem znw(G:Gd T cf k N sc X)(h1:isGl sc x=true)(h2:T.cons.lookup x=some d')(h3:eqC d' d=true)(h4:(x==("__debug__":Str))=false):PE X (.Name x pos) (tE X.K cf (.con d)):=by have e:=zri h3;subst e;obtain⟨hsc,u,hu,r⟩:=G.tab.con x d' h2;exact PE.imp (zjp (G.gl h1) hu r h4) fun σ H Qv=>ex8 fun δ ι S Q hs hh w q=>q (sV d') H (Lf.of hh (zr4 hsc) (by simpa[evE]using w))
theorem zpS(ha:PE X a (tE X.K cf ca))(hb:PE X b (tE X.K cf cb)):PE X (.BinOp a op b pos) (tE X.K cf (.bin op ca cb)):=by refine PE.imp (zql (zrr op) ha hb) fun σ H Qv=>ex8 fun δ ι S Q hs hh w q=>?_;simp[evE,zaa]at w;refine tE.run hs hh w fun d v ι1 H1 S1 x1 hs1 hh1 r1 w1=>tE.run hs1 hh1 w1 fun e u ι2 H2 S2 x2 hs2 hh2 r2 w2=>?_;exact⟨ι2,S2,d,e,Q,r1.ext x2,r2,hh2,w2,fun z H3 l=>q z H3 (Lf.up (x1.trans x2) l)⟩
theorem zpI(ha:PE X a (tE X.K cf ca)):PE X (.UnaryOp .USub a pos) (tE X.K cf (.neg ca)):=by refine PE.imp (zsb zpg ha) fun σ H Qv=>ex8 fun δ ι S Q hs hh w q=>?_;simp[evE,zaa]at w;refine tE.run hs hh w fun d v ι1 H1 S1 x1 hs1 hh1 r1 w1=>?_;cases d with| int i=>obtain rfl:v=.int i:=r1;exact⟨i,rfl,q _ _ (Lf.up x1 (Lf.of (d:=.int (-i)) hh1 rfl w1))⟩|_=>exact w1.elim
theorem zrX(ha:PE X a (tE X.K cf ca)):PE X (.UnaryOp .Not a pos) (tE X.K cf (.nt ca)):=by refine PE.imp (zqm ha) fun σ H Qv=>ex8 fun δ ι S Q hs hh w q=>?_;simp[evE,zaa]at w;refine tE.run hs hh w fun d v ι1 H1 S1 x1 hs1 hh1 r1 w1=>?_;cases d with| bl i=>obtain rfl:v=.bl i:=r1;exact⟨i,rfl,q _ _ (Lf.up x1 (Lf.of (d:=.bl (!i)) hh1 rfl w1))⟩|_=>exact w1.elim
theorem zpQ(G:Gd T cf k N sc X)(ha:PE X a (tE X.K cf ca))(hb:PE X b (tE X.K cf cb))(hm:zaX b=true):PE X (.Compare a [op] [b] pos) (tE X.K cf (.cmp op ca cb)):=by refine PE.imp (zn8 (zef G.hu op) ha hb (zeI hm op)) fun σ H Qv=>ex8 fun δ ι S Q hs hh w q=>?_;simp[evE,zaa]at w;refine tE.run hs hh w fun d v ι1 H1 S1 x1 hs1 hh1 r1 w1=>tE.run hs1 hh1 w1 fun e u ι2 H2 S2 x2 hs2 hh2 r2 w2=>?_;obtain⟨b,hb,w3⟩:=zar w2;exact⟨ι2,S2,d,e,b,r1.ext x2,r2,hh2,hb,q _ _ (Lf.up (x1.trans x2) (Lf.of (d:=.bl b) hh2 rfl w3))⟩
theorem zpw(G:Gd T cf k N sc X)(ha:PE X a (tE X.K cf ca))(hb:PE X b (tE X.K cf cb))(hm:zaX b=true):PT X (.Compare a [op] [b] pos) (tT X.K cf (.cmp op ca cb)):=by refine PT.imp (znW (zef G.hu op) ha hb (zeI hm op)) fun σ H Qv=>ex8 fun δ ι S Q hs hh w q=>?_;simp[evT,zaa]at w;refine tE.run hs hh w fun d v ι1 H1 S1 x1 hs1 hh1 r1 w1=>tE.run hs1 hh1 w1 fun e u ι2 H2 S2 x2 hs2 hh2 r2 w2=>?_;obtain⟨b,hb,w3⟩:=zar w2;exact⟨ι2,S2,d,e,b,r1.ext x2,r2,hh2,hb,b,rfl,q _ _ ⟨ι2,S2,x1.trans x2,hh2,w3⟩⟩
theorem znC(G:Gd T cf k N sc X)(ha:PE X a (tE X.K cf ca))(hb:PE X b (tE X.K cf cb))(hc:PE X c (tE X.K cf cc))(hm:zaX b=true)(hm':zaX c=true) :
  PE X (.Compare a [op,op'] [b,c] pos) (tE X.K cf (.cmp2 op op' ca cb cc)):=by
 refine PE.imp (zlJ (zef G.hu op) (zef G.hu op') ha hb hc (by simp[lastMarks,zeI hm'])) fun σ H Qv=>ex8 fun δ ι S Q hs hh w q=>?_;simp[evE,zaa]at w;refine tE.run hs hh w fun d v ι1 H1 S1 x1 hs1 hh1 r1 w1=>tE.run hs1 hh1 w1 fun e u ι2 H2 S2 x2 hs2 hh2 r2 w2=>?_;obtain⟨b,hb,w3⟩:=zar w2;refine⟨ι2,S2,d,e,b,r1.ext x2,r2,hh2,hb,b,rfl,?_⟩;cases b with|false=>exact q _ _ (Lf.up (x1.trans x2) (Lf.of (d:=.bl false) hh2 rfl w3))| true=>simp at w3⊢;refine tE.run hs2 hh2 w3 fun e' u' ι3 H3 S3 x3 hs3 hh3 r3 w4=>?_;obtain⟨b,hb,w5⟩:=zar w4;exact⟨ι3,S3,e,e',b,r2.ext x3,r3,hh3,hb,q _ _ (Lf.up ((x1.trans x2).trans x3) (Lf.of (d:=.bl b) hh3 rfl w5))⟩
theorem znb(G:Gd T cf k N sc X)(ha:PE X a (tE X.K cf ca))(hb:PE X b (tE X.K cf cb))(hc:PE X c (tE X.K cf cc))(hm:zaX b=true)(hm':zaX c=true) :
  PT X (.Compare a [op,op'] [b,c] pos) (tT X.K cf (.cmp2 op op' ca cb cc)):=by
 refine PT.imp (zlu (zef G.hu op) (zef G.hu op') ha hb hc (by simp[lastMarks,zeI hm'])) fun σ H Qv=>ex8 fun δ ι S Q hs hh w q=>?_;simp[evT,zaa]at w;refine tE.run hs hh w fun d v ι1 H1 S1 x1 hs1 hh1 r1 w1=>tE.run hs1 hh1 w1 fun e u ι2 H2 S2 x2 hs2 hh2 r2 w2=>?_;obtain⟨b,hb,w3⟩:=zar w2;refine⟨ι2,S2,d,e,b,r1.ext x2,r2,hh2,hb,b,rfl,?_⟩;cases b with|false=>exact⟨false,rfl,q _ _ ⟨ι2,S2,x1.trans x2,hh2,w3⟩⟩| true=>simp only[if_true,zaa]at w3⊢;refine tE.run hs2 hh2 w3 fun e' u' ι3 H3 S3 x3 hs3 hh3 r3 w4=>?_;obtain⟨b,hb,w5⟩:=zar w4;exact⟨ι3,S3,e,e',b,r2.ext x3,r3,hh3,hb,b,rfl,q _ _ ⟨ι3,S3,(x1.trans x2).trans x3,hh3,w5⟩⟩
theorem zmw(ha:PE X a (tE X.K cf ca))(hb:PE X (.BoolOp .And (b::rest) pos) (tE X.K cf cb)):PE X (.BoolOp .And (a::b::rest) pos) (tE X.K cf (.and ca cb)):=by
 refine PE.imp (zqv ha hb) fun σ H Qv=>ex8 fun δ ι S Q hs hh w q=>?_;simp[evE,zaa]at w;refine tE.run hs hh w fun d v ι1 H1 S1 x1 hs1 hh1 r1 w1=>?_;cases d with
 |bl c=>obtain rfl:v=.bl c:=r1;refine⟨c,rfl,?_⟩;cases c with|false=>exact q _ _ (Lf.up x1 (Lf.of (d:=.bl false) hh1 rfl w1))|true=>exact⟨δ,ι1,S1,Q,hs1,hh1,w1,fun z H3 l=>q z H3 (Lf.up x1 l)⟩
 |_=>exact w1.elim
theorem zpH(ha:PE X a (tE X.K cf ca))(hb:PE X (.BoolOp .Or (b::rest) pos) (tE X.K cf cb)):PE X (.BoolOp .Or (a::b::rest) pos) (tE X.K cf (.or ca cb)):=by
 refine PE.imp (zsc ha hb) fun σ H Qv=>ex8 fun δ ι S Q hs hh w q=>?_;simp[evE,zaa]at w;refine tE.run hs hh w fun d v ι1 H1 S1 x1 hs1 hh1 r1 w1=>?_;cases d with
 |bl c=>obtain rfl:v=.bl c:=r1;refine⟨c,rfl,?_⟩;cases c with|true=>exact q _ _ (Lf.up x1 (Lf.of (d:=.bl true) hh1 rfl w1))|false=>exact⟨δ,ι1,S1,Q,hs1,hh1,w1,fun z H3 l=>q z H3 (Lf.up x1 l)⟩
 |_=>exact w1.elim
theorem LfB.up{K:Frag}(x:Ext ι H ι' H')(h:LfB K ι' H' Q b H2):LfB K ι H Q b H2:=by obtain⟨ι2,S2,x2,r⟩:=h;exact⟨ι2,S2,x.trans x2,r⟩
theorem zmq(ha:PT X a (tT X.K cf ca))(hb:PW X (.BoolOp .And (b::rest) pos) (tT X.K cf cb)):PW X (.BoolOp .And (a::b::rest) pos) (tT X.K cf (.and ca cb)):=by refine PW.imp (zp9 ha hb) fun σ H Qv=>ex8 fun δ ι S Q hs hh w q=>?_;simp[evT,zaa]at w;refine tT.run hs hh w fun c ι1 H1 S1 x1 hs1 hh1 w1=>?_;cases c with|false=>exact q _ _ ⟨ι1,S1,x1,hh1,w1⟩|true=>exact⟨δ,ι1,S1,Q,hs1,hh1,w1,fun z H3 l=>q z H3 (LfB.up x1 l)⟩
theorem zpv(ha:PT X a (tT X.K cf ca))(hb:PW X (.BoolOp .Or (b::rest) pos) (tT X.K cf cb)):PW X (.BoolOp .Or (a::b::rest) pos) (tT X.K cf (.or ca cb)):=by refine PW.imp (zr8 ha hb) fun σ H Qv=>ex8 fun δ ι S Q hs hh w q=>?_;simp[evT,zaa]at w;refine tT.run hs hh w fun c ι1 H1 S1 x1 hs1 hh1 w1=>?_;cases c with|true=>exact q _ _ ⟨ι1,S1,x1,hh1,w1⟩|false=>exact⟨δ,ι1,S1,Q,hs1,hh1,w1,fun z H3 l=>q z H3 (LfB.up x1 l)⟩
theorem zrU(ha:PT X a (tT X.K cf ca)):PT X (.UnaryOp .Not a pos) (tT X.K cf (.nt ca)):=by refine PT.imp (zqa ha) fun σ H Qv=>ex8 fun δ ι S Q hs hh w q=>?_;simp[evT,zaa]at w;exact tT.run hs hh w fun c ι1 H1 S1 x1 hs1 hh1 w1=>q _ _ ⟨ι1,S1,x1,hh1,w1⟩
theorem zpk(hh:RH X.K ι H S)(r:RV X.K ι H d v)(h:tru S d=some b):TruV X.K v H b:=by
 cases d with
 |non=>obtain rfl:v=.non:=r;cases h;rfl|bl c=>obtain rfl:v=.bl c:=r;cases h;rfl|int i=>obtain rfl:v=.int i:=r;cases h;rfl| tup ds=>obtain⟨a,xs,rfl,ha,rr⟩:=r;cases h;refine .inr (.inl ⟨xs,SqT.of ha,?_⟩);have:=rr.length;cases ds<;>cases xs<;>first|rfl|simp at this
 |ref l=>
  simp[tru]at h;split at h
  . rename_i ds e;cases h;obtain⟨a,h1,rfl⟩:=r;obtain⟨a2,h2,xs,ha,rr⟩:=hh.obj _ _ e;rw[h1]at h2;cases h2;refine .inl ⟨xs,SqL.of ha,?_⟩;have:=rr.length;cases ds<;>cases xs<;>first|rfl|simp at this
  cases h
 |_=>cases h
theorem zpu(ha:PE X a (tE X.K cf ca))(hp:zg2 a=true):PT X a (tT X.K cf (.tst ca)):=by refine PT.imp (zlt ha (zpj hp X.env)) fun σ H Qv=>ex8 fun δ ι S Q hs hh w q=>?_;simp[evT,zaa]at w;refine tE.run hs hh w fun d v ι1 H1 S1 x1 hs1 hh1 r1 w1=>?_;obtain⟨b,hb,w2⟩:=zar w1;exact⟨b,zpk hh1 r1 hb,q _ _ ⟨ι1,S1,x1,hh1,w2⟩⟩
theorem zpN(hc:PT X c (tT X.K cf cc))(ha:PE X a (tE X.K cf ca))(hb:PE X b (tE X.K cf cb)):PE X (.IfExp c a b pos) (tE X.K cf (.ite cc ca cb)):=by refine PE.imp (zlF hc ha hb) fun σ H Qv=>ex8 fun δ ι S Q hs hh w q=>?_;simp[evE,zaa]at w;refine tT.run hs hh w fun c ι1 H1 S1 x1 hs1 hh1 w1=>?_;cases c with|true=>exact⟨δ,ι1,S1,Q,hs1,hh1,w1,fun z H3 l=>q z H3 (Lf.up x1 l)⟩|false=>exact⟨δ,ι1,S1,Q,hs1,hh1,w1,fun z H3 l=>q z H3 (Lf.up x1 l)⟩
theorem zmx:PA X [] (tAs X.K cf .nil):=PA.imp zg4 fun σ H Qv=>ex8 fun δ ι S Q hs hh w q=>q [] H ⟨[],ι,S,Ext.refl _ _,rfl,hh,by simpa[evEs]using w⟩
theorem ziU(he:PE X e (tE X.K cf ce))(hes:PA X es (tAs X.K cf ces))(hn:zah e=true):PA X (e::es) (tAs X.K cf (.cons ce ces)):=by refine PA.imp (zcI he hes (zaj hn es X.env)) fun σ H Qv=>ex8 fun δ ι S Q hs hh w q=>?_;simp[evEs,zaa]at w;refine tE.run hs hh w fun d v ι1 H1 S1 x1 hs1 hh1 r1 w1=>tAs.run hs1 hh1 w1 fun ds vs ι2 H2 S2 x2 hs2 hh2 r2 w2=>?_;exact q _ _ ⟨d::ds,ι2,S2,x1.trans x2,⟨v,vs,rfl,r1.ext x2,r2⟩,hh2,w2⟩
theorem zpD(h:PA X es (tAs X.K cf ces)):PE X (.Tuple es j pos) (tE X.K cf (.tup ces)):=by refine PE.imp (zqi h) fun σ H Qv=>ex8 fun δ ι S Q hs hh w q=>?_;simp[evE,zaa]at w;refine tAs.run hs hh w fun ds vs ι1 H1 S1 x1 hs1 hh1 r1 w1=>?_;split at w1;rename_i c;exact⟨by rw[r1.length,sizeLine_eq];exact c,fun p hp=>q _ _ (Lf.up x1 (Lf.tup hh1 hp r1 w1))⟩;exact w1.elim
theorem zpL(h:PA X es (tAs X.K cf ces)):PE X (.List es pos) (tE X.K cf (.lst ces)):=by refine PE.imp (zqo h) fun σ H Qv=>ex8 fun δ ι S Q hs hh w q=>?_;simp[evE,zaa]at w;refine tAs.run hs hh w fun ds vs ι1 H1 S1 x1 hs1 hh1 r1 w1=>?_;obtain⟨c,w2⟩:=zbC w1;exact⟨by rw[r1.length];exact c,fun p hp=>q _ _ (Lf.up x1 (Lf.lst hh1 hp r1 w2))⟩
theorem znz:PE X (.Dict [] [] pos) (tE X.K cf .dnew):=by refine PE.imp zlH fun σ H Qv=>ex8 fun δ ι S Q hs hh w q=>?_;intro p hp;exact q _ _ ⟨.ref S.len,ι++[p],S.push (.dic []),Ext.obj hh hp _,⟨p,hh.last p,rfl⟩,hh.obj' hp _ _ ⟨List.nodup_nil,[],zal,rfl⟩,w⟩
theorem zso(hh:RH X.K ι H S)(r:RV X.K ι H d v)(hq:zcc S d=some ds)(ha:R.atI ds i=some e):∃u,rIx X.K v (.int i) H (fun z H'=>z=u/\H'=H)/\RV X.K ι H e u:=by
 obtain⟨a,xs,rfl,hx,rr⟩:=zmu hh hq r;have hl:=rr.length;have key:∃u,L2.atI xs i=some u/\RV X.K ι H e u:=by
  unfold R.atI at ha;cases e1:R.ixN ds.length i with
  |none=>rw[e1]at ha;cases ha
  |some j=>
   rw[e1]at ha;obtain⟨u,h1,h2⟩:=rr.get ha;refine⟨u,?_,h2⟩;unfold L2.atI;have:L2.ixN xs.length i=some j:=by rw[hl];exact e1
   rw[this];exact h1
 obtain⟨u,h1,h2⟩:=key;refine⟨u,?_,h2⟩;rcases hx with hx|hx;exact .inl ⟨a,xs,i,u,rfl,rfl,hx,h1,rfl,rfl⟩;exact .inr (.inl ⟨a,xs,i,u,rfl,rfl,hx,h1,rfl,rfl⟩)
theorem znP{K:Frag}(h:rIx K x y H (fun z H'=>z=u/\H'=H))(q:Q u H):rIx K x y H Q:=by rcases h with⟨p,xs,i,v,h1,h2,h3,h4,rfl,_⟩|⟨p,xs,i,v,h1,h2,h3,h4,rfl,_⟩|⟨z,i,c,h1,h2,h3,h4,h5,_⟩;exact .inl ⟨p,xs,i,v,h1,h2,h3,h4,q⟩;exact .inr (.inl ⟨p,xs,i,v,h1,h2,h3,h4,q⟩);exact .inr (.inr ⟨z,i,c,h1,h2,h3,h4,by rw[h5];exact q⟩)
theorem zr0(ha:PE X a (tE X.K cf ca))(hb:PE X b (tE X.K cf cb))(hp:zeD b=true):PE X (.Subscript a b pos) (tE X.K cf (.ix ca cb)):=by refine PE.imp (zsd zq1 ha hb (zsp hp)) fun σ H Qv=>ex8 fun δ ι S Q hs hh w q=>?_;simp[evE,zaa]at w;refine tE.run hs hh w fun d v ι1 H1 S1 x1 hs1 hh1 r1 w1=>tE.run hs1 hh1 w1 fun e u ι2 H2 S2 x2 hs2 hh2 r2 w2=>?_;split at w2;rename_i ds i eq;obtain⟨z,hz,w3⟩:=zar w2;obtain rfl:u=.int i:=r2;obtain⟨u,h1,h2⟩:=zso hh2 (r1.ext x2) eq hz;exact znP h1 (q _ _ (Lf.up (x1.trans x2) (Lf.of hh2 h2 w3)));exact w2.elim
end
section
variable{K:Frag}{ι ι':List Addr}{H H':Hp}{S T:R.St}{d:D}{v:V}
theorem get_frz(hf:T.frz=S.frz++S.new)(h:S.get l=some o):T.get l=some o:=by obtain⟨f,n,k⟩:=T;subst hf;exact zoH h n k
theorem RH.cut(hh:RH K ι H S)(x:Ext ι H ι' H')(hT:RH K ι' H' T)(hf:T.frz=S.frz++S.new):RH K ι H' S:=by refine⟨hh.len,hh.nd,fun l o e=>?_,hT.tab⟩;obtain⟨a,h1,h2⟩:=hh.obj l o e;obtain⟨b,h3,h4⟩:=hT.obj l o (get_frz hf e);rw[zbL x.pre h1]at h3;cases h3;refine⟨a,h1,?_⟩;cases o with| lst ds=>obtain⟨xs,_,r1⟩:=h2;obtain⟨ys,e2,r2⟩:=h4;exact⟨ys,e2,r2.restrict x.pre r1.flats⟩| dic kvs=>obtain⟨_,ws,_,r1⟩:=h2;obtain⟨nd,ys,e2,r2⟩:=h4;exact⟨nd,ys,e2,r2.restrict x.pre r1.flats⟩| ins c fs=>obtain⟨_,_,ws,_,_,r1⟩:=h2;obtain⟨C,dx,ys,e0,e2,r2⟩:=h4;exact⟨C,dx,ys,e0,e2,r2.restrict x.pre r1.flats⟩
theorem Ext.cut(x:Ext ι H ι' H'):Ext ι H ι H':=⟨prefix_refl _,x.kp,fun a o h e=>⟨(x.rest a o h e).1,h⟩⟩
theorem zn0(hp:ι <+: ι')(nd:ι'.Nodup)(hl:ι'[l]?=some a)(h:ι.length<=l):a∉ι:=fun hm=>by obtain⟨t,rfl⟩:=hp;rw[getElem?_append_right h]at hl;have h2:=mem_of_getElem? hl;exact(nodup_append.mp nd).2.2 a hm a h2 rfl
theorem zkh(x:Ext ι H ι' H')(nd:ι'.Nodup)(hl:ι'[l]?=some a)(h:ι.length<=l):Ext ι H (ι++[a]) H':=by refine⟨prefix_append _ _,x.kp,fun b o hb e=>⟨(x.rest b o hb e).1,fun z=>?_⟩⟩;rcases mem_append.mp z with z|z;exact hb z;simp at z;subst z;exact(x.rest b o hb e).2 (mem_of_getElem? hl)
theorem RH.one{l:Nat}(hh:RH K ι H' S)(nd:a∉ι)(ho:RO K (ι++[a]) H' a o):RH K (ι++[a]) H' (S.push o):=by
 refine⟨by rw[length_append,hh.len,zb0];rfl,?_,fun l o' e=>?_,hh.tab⟩;rw[nodup_append];refine⟨hh.nd,by simp,fun b hb c hc=>?_⟩;simp at hc;subst hc;exact fun z=>nd (z▸hb);by_cases hl:l<S.len;rw[zcf hl]at e;obtain⟨b,h1,h2⟩:=hh.obj l o' e;exact⟨b,zbL (prefix_append _ _) h1,h2.up (prefix_append _ _) (Kp.refl _) rfl⟩;have hl2:=zai e;rw[zb0]at hl2;have:l=S.len:=by omega
 subst this;rw[zeV]at e;cases e;exact⟨a,by rw[<-hh.len];simp,ho⟩
theorem RH.keep(hT:RH K ι' H' T)(hf:T.frz=S.frz++S.new):RH K ι' H' ⟨S.frz,S.new++T.new,S.lk⟩:=by
 have hg:∀l,(R.St.mk S.frz (S.new++T.new) S.lk).get l=T.get l:=fun l=>by unfold St.get;rw[hf];simp;by_cases h1:l<S.frz.length;rw[if_pos h1,if_pos (by omega),getElem?_append_left h1];by_cases h2:l<S.frz.length+S.new.length;rw[if_neg h1,if_pos h2,getElem?_append_left (by omega),getElem?_append_right (by omega)];rw[if_neg h1,if_neg h2,getElem?_append_right (by omega)];congr 1;omega
 refine⟨?_,hT.nd,fun l o e=>hT.obj l o (by rw[<-hg];exact e),hT.tab⟩;rw[hT.len];unfold St.len;rw[hf];simp;omega
theorem zhf(hh:RH K ι H S)(x:Ext ι H ι' H')(r:RV K ι' H' d v)(hT:RH K ι' H' T)(hf:T.frz=S.frz++S.new)(w:W (zcy S d T) Q):Lf K ι H Q v H':=by
 have hc:=hh.cut x hT hf;unfold zcy at w;split at w;rename_i c;rw[<-hh.len]at c;exact⟨d,ι,S,x.cut,r.restrict x.pre c,hc,w⟩;rename_i c;split at w;rename_i l;obtain⟨a,h1,rfl⟩:=id r;have hl:ι.length<=l:=by simp[R.flat,decide_eq_true_eq]at c;rw[hh.len];omega
 have ha:=zn0 x.pre hT.nd h1 hl;split at w;rename_i ds e;obtain⟨b,h2,h3⟩:=hT.obj l _ e;rw[h1]at h2;cases h2;split at w;rename_i c2;rw[<-hh.len]at c2;obtain⟨ys,e2,r2⟩:=h3;refine⟨.ref S.len,ι++[a],S.push (.lst ds),zkh x hT.nd h1 hl,⟨a,by rw[<-hh.len];simp,rfl⟩,hc.one (l:=l) ha ⟨ys,e2,(r2.restrict x.pre c2).up (prefix_append _ _) (Kp.refl _)⟩,w⟩;exact⟨_,ι',_,x,r,hT.keep hf,w⟩;rename_i kvs e;obtain⟨b,h2,h3⟩:=hT.obj l _ e;rw[h1]at h2;cases h2;split at w;rename_i c2;rw[<-hh.len]at c2;obtain⟨nd,ys,e2,r2⟩:=h3;refine⟨.ref S.len,ι++[a],S.push (.dic kvs),zkh x hT.nd h1 hl,⟨a,by rw[<-hh.len];simp,rfl⟩,hc.one (l:=l) ha ⟨nd,ys,e2,(r2.restrict x.pre c2).up (prefix_append _ _) (Kp.refl _)⟩,w⟩;exact⟨_,ι',_,x,r,hT.keep hf,w⟩;exact⟨_,ι',_,x,r,hT.keep hf,w⟩;exact⟨_,ι',_,x,r,hT.keep hf,w⟩
end
section
variable{T:Tab}{cf:CF}{k:Nat}{N:List Str}{sc:Scope}{X:Cx}{pos p:Pos}
theorem RVs.nons{K:Frag}:∀j:Nat,RVs K ι H (List.replicate j .non) (List.replicate j .non)
 |0=>rfl|j+1=>⟨.non,List.replicate j .non,rfl,rfl,RVs.nons j⟩
theorem RH.enter{K:Frag}(h:RH K ι H S):RH K ι H S.enter:=⟨by rw[enter_len];exact h.len,h.nd,fun l o e=>h.obj l o (by rw[zaC]at e;exact e),h.tab⟩
theorem zkE(hfr:CFok cf)(h:tE X.K cf (.call f j ces) σ H Qv) :
  zeq (spF X.K cf f) (List.replicate j .non) E0 (tAs X.K cf ces) σ H Qv:=by
 obtain⟨δ,ι,S,Q,hs,hh,w,q⟩:=h;simp[evE,zaa]at w;refine tAs.run hs hh w fun ds vs ι1 H1 S1 x1 hs1 hh1 r1 w1=>?_;unfold app at w1;rw[zaa]at w1;refine⟨ι1,S1.enter,ds++List.replicate j .non,r1.append (RVs.nons j),hh1.enter,?_⟩;obtain⟨d,T',e,w2⟩:=zf0 w1;rw[e];exact fun v H' ι' x r hT=>q v H' (Lf.up x1 (zhf hh1 x r hT (hfr _ _ _ _ _ e).frz w2))
theorem zkQ{K:Frag}(hh:RH K ι1 H1 S1)(x:Ext ι H ι1 H1)(hn:H1 a=none):H a=none:=by
 cases e:H a with
 |none=>rfl| some o=>
  by_cases hm:a∈ι;have h2:a∈ι1:=by obtain⟨t,rfl⟩:=x.pre;exact mem_append_left _ hm
  exact absurd h2 (hh.fresh hn)
  . have:=(x.rest a o hm e).1;rw[hn]at this;rcases this with z|⟨_,_,z⟩<;>cases z
theorem znD(G:Gd T cf k N sc X)(hf:T.fns[f]?=some (x,ps,nd))(hj:j<=nd)(hg:isGl sc x=true)(hd:(x==("__debug__":Str))=false)(ha:PA X (e::es) (tAs X.K cf ces))(hst:(e::es).all zah=true) :
  PE X (.Call (.Name x p) (e::es) [] pos) (tE X.K cf (.call f j ces)):=by
 have Hs:=G.tab.fns f x ps nd hf j hj;rw[all_cons,and_eq_true]at hst;exact PE.imp (zqr Hs G.room ha (G.gl hg) hd (zaj hst.1 es X.env) (zaR hst.2)) fun σ H Qv h=>zkE G.tab.frm h
theorem zlf(G:Gd T cf k N sc X)(hf:T.fns[f]?=some (x,ps,nd))(hj:j<=nd)(hg:isGl sc x=true)(hd:(x==("__debug__":Str))=false) :
  PE X (.Call (.Name x p) [] [] pos) (tE X.K cf (.call f j .nil)):=by
 have Hs:=G.tab.fns f x ps nd hf j hj;refine PE.imp (zqq Hs G.room (G.gl hg) hd) fun σ H Qv=>ex8 fun δ ι S Q hs hh w q=>?_;simp only[evE,evEs,zaD]at w;unfold app at w;rw[zaa]at w;obtain⟨d,T',e,w2⟩:=zf0 w;refine⟨ι,S.enter,[]++List.replicate j .non,RVs.append rfl (RVs.nons j),hh.enter,?_⟩;rw[e];exact fun v H' ι' x r hT=>q v H' (zhf hh x r hT (G.tab.frm _ _ _ _ _ e).frz w2)
theorem zij(h:tE X.K cf (.callW f j ces) σ H Qv) :
  zeq (spF X.K cf f) (List.replicate j .non) E0 (tAs X.K cf ces) σ H Qv:=by
 obtain⟨δ,ι,S,Q,hs,hh,w,q⟩:=h;simp[evE,zaa]at w;refine tAs.run hs hh w fun ds vs ι1 H1 S1 x1 hs1 hh1 r1 w1=>?_;unfold appW at w1;refine⟨ι1,S1,ds++List.replicate j .non,r1.append (RVs.nons j),hh1,?_⟩;obtain⟨d,T',e,w2⟩:=zf0 w1;rw[e];exact fun v H' ι' x r hT=>q v H' (Lf.up x1 ⟨d,ι',T',x,r,hT,w2⟩)
theorem zld(G:Gd T cf k N sc X)(hf:T.fns[f]?=some (x,ps,nd))(hj:j<=nd)(hg:isGl sc x=true)(hd:(x==("__debug__":Str))=false)(ha:PA X (e::es) (tAs X.K cf ces))(hst:(e::es).all zah=true) :
  PE X (.Call (.Name x p) (e::es) [] pos) (tE X.K cf (.callW f j ces)):=by
 have Hs:=G.tab.fns f x ps nd hf j hj;rw[all_cons,and_eq_true]at hst;exact PE.imp (zqr Hs G.room ha (G.gl hg) hd (zaj hst.1 es X.env) (zaR hst.2)) fun σ H Qv h=>zij h
end
section
variable{prog:Program}{w:World}{A:Around}{E:Value->Shared->Prop}{s:Shared}
theorem zcg{lo hi:Option Int}(ht:IsTup s.heap t items)(hs:s.heap.IsSliceOf sl vl vu .none)(pl:IsPart vl lo)(pu:IsPart vu hi)
  (hw:HT.sIx items.size 0 lo=0/\HT.sIx items.size items.size hi=items.size)
  (h:Q (.ref t) s):wpAny (model prog w) A (getItem (.ref t) (.ref sl)) Q E s:=by
 obtain⟨os,hos,hcs,hds⟩:=id hs;have hTs:s.TypeIs (.ref sl) "slice":=⟨os,hos,hcs⟩;unfold getItem
 try with_reducible apply wpAny_holding
 refine wpAny_bind (wpAny_sequenceKey ht.typeIs (by decide) ?_);refine wpAny_bind (wpAny_callSpecial?_slot ht.typeIs PyProof.Rows.slot_tuple_getitem
  (wpAny_call_entry PyProof.Rows.slot_tuple_getitem ht.typeIs entry_tuple_getitem ?_ (args_tuple_getitem _ _)))
 show wpAny _ _ (Builtin.Tuple.tupleItemsOf (.ref t)>>=_) _ _ s;refine wpAny_bind (tupleItemsOf_ ht ?_);refine wpAny_bind (wpAny_typeOf hTs ?_);refine wpAny_bind (HT.sliceApplied_gen hs pl pu ?_);have hyes:(((HT.sIx items.size 0 lo:Nat):Int)==0&&(1:Int)==1&&(HT.sIx items.size items.size hi-HT.sIx items.size 0 lo)==items.size)=true:=by rw[hw.1,hw.2];simp
 show wpAny _ _ (if(((HT.sIx items.size 0 lo:Nat):Int)==0&&(1:Int)==1&&(HT.sIx items.size items.size hi-HT.sIx items.size 0 lo)==items.size)=true then _ else _) _ _ s;rw[if_pos hyes];refine wpAny_bind (wpAny_bind (wpAny_typeOf ht.typeIs (wpAny_pure ?_)));exact wpAny_bind (wpAny_rule (wpAny_pure ⟨_,rfl,wpAny_pure h⟩))
end
section
variable{T:Tab}{cf:CF}{k:Nat}{N:List Str}{sc:Scope}{X:Cx}{pos p:Pos}
def rSlW(K:Frag):V->Option Int->Option Int->Hp->VK->Prop:=fun x lo hi H Q=>∃a xs,x=.ref a/\SqT K H a xs/\
 (HT.sIx xs.length 0 lo=0/\HT.sIx xs.length xs.length hi=xs.length)/\Q (.ref a) H
theorem zk3:SlR X (rSlW X.K):=by
 intro pins s σ H x v vl vu lo hi sl Q I rx hs pl pu h;obtain⟨a,xs,rfl,hx,hw,q⟩:=h;cases rx;obtain⟨its,r,ht,hz⟩:=I.tuple hx;have hlen:its.toArray.size=xs.length:=by rw[size_toArray];exact r.length.symm
 exact⟨"tuple",_,PyProof.Rows.slot_tuple_getitem.lookup,ht.typeIs,zcg ht hs pl pu (by rw[hlen];exact hw) ⟨.ref a,H,I,rfl,q⟩⟩
theorem zgV(n d:Nat)(o:Option Int):R.sIx n d o=HT.sIx n d o:=by cases o<;>rfl
theorem zkx{lo hi:Option Int}(h:HT.sIx xs.length 0 lo=0/\HT.sIx xs.length xs.length hi=xs.length):cut xs lo hi=xs:=by unfold cut;rw[zgV,zgV,h.1,h.2];simp
theorem RVs.cut{K:Frag}(r:RVs K ι H ds xs)(lo hi:Option Int):RVs K ι H (R.cut ds lo hi) (cutV xs lo hi):=by have hl:=r.length;unfold R.cut cutV;rw[zgV,zgV,hl];exact(r.drop _).take _
inductive PartOk(X:Cx)(cf:CF):Bool->CE->Option Expr->Prop where
 |no {c:CE} (h:∃d,c=.con d):PartOk X cf false c none
 |yes {c:CE} {e:Expr} (h:PE X e (tE X.K cf c)):PartOk X cf true c (some e)
theorem zrW{lo hi:Option Expr}(ha:PE X a (tE X.K cf ca))(hlo:PartOk X cf ml clo lo)(hhi:PartOk X cf mh chi hi):PE X (.Subscript a (.Slice lo hi none p2) pos) (tE X.K cf (.sl ca ml mh clo chi)):=by
 have fin:∀{σ:L2.St}{δ:Ev}{ι ι1:List Addr}{H H1:Hp}{S1:R.St}{Q:D->R.St->Prop}{Qv:VK}{d:D}{v:V}{y z:Option Int},Ext ι H ι1 H1->RH X.K ι1 H1 S1->RV X.K ι1 H1 d v->(∀v H',Lf X.K ι H Q v H'->Qv v H')->
   W (match d with|.tup ds=>.ok (.tup (R.cut ds y z)) S1|.fix ds=>lay S1 (R.cut ds y z)|.ref p=>(match S1.get p with|some (.lst ds)=>lay S1 (R.cut ds y z)|_=>.bad)|_=>.bad) Q->
   (rSlL X.K v y z H1 Qv\/rSlT X.K v y z H1 Qv)\/rSlW X.K v y z H1 Qv:=by
  intro σ δ ι ι1 H H1 S1 Q Qv d v y z x hh r q w;cases d with
  |tup ds=>obtain⟨a,xs,rfl,ha,rr⟩:=r;by_cases hw:HT.sIx xs.length 0 y=0/\HT.sIx xs.length xs.length z=xs.length;refine .inr ⟨a,xs,rfl,SqT.of ha,hw,q _ _ (Lf.up x (Lf.of (d:=.tup ds) hh ⟨a,xs,rfl,ha,rr⟩ ?_))⟩;have e:R.cut ds y z=ds:=zkx (by rw[<-rr.length];exact hw);dsimp only at w;rw[e]at w;exact w;exact .inl (.inr ⟨a,xs,rfl,SqT.of ha,hw,fun p hp=>q _ _ (Lf.up x (Lf.tup hh hp (rr.cut y z) w))⟩)| fix ds=>obtain⟨a,xs,rfl,ha,rr⟩:=r;obtain⟨_,w2⟩:=zbC w;exact .inl (.inl ⟨a,xs,rfl,ha.sq,fun p hp=>q _ _ (Lf.up x (Lf.lst hh hp (rr.cut y z) w2))⟩)| ref l=>dsimp only at w;cases e:S1.get l with|none=>rw[e]at w;exact w.elim| some o=>rw[e]at w;cases o with| lst ds=>obtain⟨a,h1,rfl⟩:=r;obtain⟨b,h2,xs,ha,rr⟩:=hh.obj _ _ e;rw[h1]at h2;cases h2;obtain⟨_,w2⟩:=zbC w;exact .inl (.inl ⟨a,xs,rfl,SqL.of ha,fun p hp=>q _ _ (Lf.up x (Lf.lst hh hp (rr.cut y z) w2))⟩)|_=>exact w.elim
  |_=>exact w.elim
 have part:∀{m:Bool}{c:CE}{o:Option Expr},PartOk X cf m c o->∃t,PO X o t/\∀{δ:Ev}{σ:L2.St}{ι:List Addr}{H:Hp}{S:R.St}{Q:D->R.St->Prop}{Qv:Option Int->Hp->Prop},RS X.K ι H δ σ->RH X.K ι H S->W (evE cf c δ S) Q->
   (∀d S',Q d S'->∃z,zbM m d=some z)->
   (∀d ι' H' S' z,Ext ι H ι' H'->RS X.K ι' H' δ σ->RH X.K ι' H' S'->Q d S'->zbM m d=some z->Qv z H')->t σ H Qv:=by
  intro m c o h;cases h with| no h=>obtain⟨d,rfl⟩:=h;refine⟨_,zgl,fun {δ σ ι H S Q Qv} hs hh w hp h=>?_⟩;exact h d ι H S none (Ext.refl _ _) hs hh w rfl| yes h=>refine⟨_,zeB h,fun {δ σ ι H S Q Qv} hs hh w hp h=>?_⟩;refine tE.run hs hh w fun d v ι1 H1 S1 x1 hs1 hh1 r1 w1=>?_;obtain⟨z,hz⟩:=hp d S1 w1;cases d with| int i=>obtain rfl:v=.int i:=r1;exact⟨i,rfl,h _ _ _ _ _ x1 hs1 hh1 w1 rfl⟩|_=>cases hz
 obtain⟨tl,pl,rl⟩:=part hlo;obtain⟨th,ph,rh⟩:=part hhi;refine PE.imp (zg3 (SlR.or (SlR.or zni zmr) zk3) ha pl ph) fun σ H Qv=>ex8 fun δ ι S Q hs hh w q=>?_;simp[evE,zaa]at w;refine tE.run hs hh w fun d v ι1 H1 S1 x1 hs1 hh1 r1 w1=>?_;have hz:∀(b:Bool)(y:D),zbM b y=none\/∃z,zbM b y=some z:=fun b y=>by cases zbM b y<;>simp
 refine rl hs1 hh1 w1 (fun y S2 w2=>?_) fun y ι2 H2 S2 zl x2 hs2 hh2 w2 hzl=>?_;rcases hz ml y with e|e;rw[W.iff]at w2;obtain⟨u,S3,_,w3⟩:=w2;rw[e]at w3;exact w3.elim;exact e;refine rh hs2 hh2 w2 (fun u S3 w3=>?_) fun u ι3 H3 S3 zh x3 hs3 hh3 w3 hzh=>?_;rcases hz mh u with e|e;rw[hzl,e]at w3;exact w3.elim;exact e;rw[hzl,hzh]at w3;exact fin (σ:=σ) (δ:=δ) ((x1.trans x2).trans x3) hh3 (r1.ext (x2.trans x3)) q w3
end
theorem zf7{α β:Type}{P:α->β->Prop}{Z:List α->List β->Prop}(z0:Z [] [])(z1:∀{a b as bs},P a b->Z as bs->Z (a::as) (b::bs)){xs:List α}{ys:List β}(g:∀i:Nat,(∃x y,xs[i]?=some x/\ys[i]?=some y/\P x y)\/(xs[i]?=none/\ys[i]?=none)) :
  ∀is:List Nat,Z (is.filterMap (xs[·]?)) (is.filterMap (ys[·]?))
 | []=>z0| i::is=>by have ih:=zf7 z0 z1 g is;rw[List.filterMap_cons,List.filterMap_cons];rcases g i with⟨x,y,e1,e2,p⟩|⟨e1,e2⟩;rw[e1,e2];exact z1 p ih;rw[e1,e2];exact ih
theorem Vals.stp(r:Vals xs us)(k:Int):Vals (R.stp xs k) (R.stp us k):=by unfold R.stp;rw[r.length];refine zf7 .nil (fun p z=>.cons p z) (fun i=>?_) _;cases e:xs[i]? with|none=>exact .inr ⟨rfl,by rw[List.getElem?_eq_none_iff]at e⊢;have:=r.length;omega⟩| some x=>obtain⟨u,h1,h2⟩:=Vals.get r e;exact .inl ⟨x,u,rfl,h1,h2⟩
theorem RVs.stp{K:Frag}(r:RVs K ι H ds xs)(k:Int):RVs K ι H (R.stp ds k) (R.stp xs k):=by have hl:=r.length;unfold R.stp;rw[hl];refine zf7 (by unfold RVs;trivial) (fun p z=>by unfold RVs;exact⟨_,_,rfl,p,z⟩) (fun i=>?_) _;cases e:ds[i]? with| none=>refine .inr ⟨rfl,?_⟩;rw[List.getElem?_eq_none_iff]at e⊢;omega| some d=>obtain⟨v,h1,h2⟩:=r.get e;exact .inl ⟨d,v,rfl,h1,h2⟩
theorem zlx(its:List Value)(k:Int):slicePick its.toArray none none (some k)=(stp its k).toArray:=by unfold slicePick stp stpI;rw[show(fun(x:Nat)=>its.toArray[x]?)=fun x=>its[x]? from by funext x;simp];rfl
section
variable{X:Cx}{e st:Expr}{te ts:TE}{pos p2:Pos}
noncomputable def tStp(K:Frag)(te ts:TE):TE:=fun σ H Q=>te σ H fun x H1=>zpq ts σ H1 fun o H2=>∃k a xs,o=some k/\k≠0/\x=.ref a/\SqL K H2 a xs/\(stp xs k).length<=sizeLine/\∀p,H2 p=none->Q (.ref p) (upd H2 p (.lst (stp xs k)))
theorem zqk(he:PE X e te)(hs:PE X st ts):PE X (.Subscript e (.Slice none none (some st) p2) pos) (tStp X.K te ts):=by intro pins s σ H Q I h;refine Subscript_ (thn (he pins s σ H _ I h) fun v s1=>ex5 fun x H1 I1 r1 q1=>?_);refine wpAny_Slice (thn (zgl pins s1 σ H1 (fun o H'=>o=none/\H'=H1) I1 ⟨rfl,rfl⟩) fun vl s2=>ex5 fun l H2 I2 pl q2=>?_);obtain⟨rfl,rfl⟩:=q2;refine thn (zgl pins s2 σ H2 (fun o H'=>o=none/\H'=H2) I2 ⟨rfl,rfl⟩) fun vu s3=>ex5 fun u H3 I3 pu q3=>?_;obtain⟨rfl,rfl⟩:=q3;refine thn (zeB hs pins s3 σ H3 _ I3 q1) fun vs s4=>ex5 fun c H4 I4 ps q4=>?_;obtain⟨k,a,xs,rfl,hk,rfl,ha,hz,q⟩:=q4;cases r1;have I5:Inv X pins σ H4 {s4 with heap:=s4.heap.push {cls:=.type "slice",data:=.fields #[vl,vu,vs]}}:=I4.kept (t':=s4.toks) fun b ob q=>Heap.get?_push_of_some _ q;obtain⟨its,r,ht,hz'⟩:=I5.list ha;have hlen:=r.length;refine tail_any ht.isList.typeIs slot_list_getitem.lookup ?_ (by with_unfolding_all rfl);refine wpAny_getItem_list_slice ht.isList (Heap.IsSliceOf.new ..) pl pu ps (by simpa using hk) ?_ (by rw[size_toArray]<;>omega);rw[zlx];refine⟨.ref _,_,I5.laid (t':=s4.toks) (fun b ob q=>Heap.get?_push_of_some _ q) (le_refl _) ?_,rfl,q _ (I5.hok.fresh (le_refl _))⟩;exact⟨hz,_,0,Vals.stp r k,Heap.get?_push_size _ rfl⟩
end
section
variable{X:Cx}{cf:CF}{pos p2:Pos}
theorem zpF(ha:PE X a (tE X.K cf ca))(hb:PE X b (tE X.K cf cb)):PE X (.Subscript a (.Slice none none (some b) p2) pos) (tE X.K cf (.slS ca cb)):=by
 refine PE.imp (zqk ha hb) fun σ H Qv ⟨δ,ι,S,Q,hs,hh,w,q⟩=>?_;simp[evE,zaa]at w;refine tE.run hs hh w fun d v ι1 H1 S1 x1 hs1 hh1 r1 w1=>?_;refine tE.run hs1 hh1 w1 fun y u ι2 H2 S2 x2 hs2 hh2 r2 w2=>?_;cases d with
 |ref l=>
  cases y with
  |int k=>obtain rfl:u=.int k:=r2;dsimp only at w2;by_cases hk:k=0;rw[if_pos hk]at w2;exact w2.elim;rw[if_neg hk]at w2;cases e:S2.get l with|none=>rw[e]at w2;exact w2.elim| some o=>rw[e]at w2;cases o with| lst ds=>have r1':=r1.ext x2;obtain⟨a',h1,rfl⟩:=r1';obtain⟨b',h2,xs,ha',rr⟩:=hh2.obj _ _ e;rw[h1]at h2;cases h2;obtain⟨hz,w3⟩:=zbC w2;refine⟨k,rfl,k,a',xs,rfl,hk,rfl,SqL.of ha',?_,fun p hp=>q _ _ (Lf.up (x1.trans x2) (Lf.lst hh2 hp (rr.stp k) w3))⟩;rw[(rr.stp k).length];exact hz|_=>exact w2.elim
  |_=>exact w2.elim
 |_=>exact w2.elim
end
def rB(K:Frag)(f:R.St->List D->Out D):List V->Hp->VK->Prop:=fun xs H Qv=>∃ι S ds Qd,RVs K ι H ds xs/\RH K ι H S/\W (f S ds) Qd/\∀v H',Lf K ι H Qd v H'->Qv v H'
section
variable{T:Tab}{cf:CF}{k:Nat}{N:List Str}{sc:Scope}{X:Cx}{pos p:Pos}
theorem RVs.one{K:Frag}(r:RVs K ι H [d] xs):∃v,xs=[v]/\RV K ι H d v:=by obtain⟨v,w,rfl,r1,r2⟩:=r;cases r2;exact⟨v,rfl,r1⟩
theorem RVs.two{K:Frag}(r:RVs K ι H [d,e] xs):∃v u,xs=[v,u]/\RV K ι H d v/\RV K ι H e u:=by obtain⟨v,w,rfl,r1,r2⟩:=r;obtain⟨u,rfl,r3⟩:=RVs.one r2;exact⟨v,u,rfl,r1,r3⟩
theorem zqR:zbi X (.builtin "len") (rB X.K fun S ds=>R.bi S .len ds):=by
 intro pins s σ H xs us Qv I rv ⟨ι,S,ds,Qd,r,hh,w,q⟩;dsimp only at w;unfold bi at w;split at w
 case h_1 x=>
  obtain⟨v,rfl,rr⟩:=r.one;split at w;obtain⟨a,xs,rfl,ha,r2⟩:=rr;refine zbU pins s σ H _ us Qv I rv ⟨a,xs,rfl,.inr (SqT.of ha),?_⟩;rw[r2.length];exact q _ _ (Lf.of (d:=.int _) hh rfl w);obtain⟨a,xs,rfl,ha,r2⟩:=rr;refine zbU pins s σ H _ us Qv I rv ⟨a,xs,rfl,.inl ha.sq,?_⟩;rw[r2.length];exact q _ _ (Lf.of (d:=.int _) hh rfl w);rename_i l;obtain⟨a,h1,rfl⟩:=rr;cases e:S.get l with|none=>rw[e]at w;exact w.elim| some o=>rw[e]at w;obtain⟨b,h2,h3⟩:=hh.obj _ _ e;rw[h1]at h2;cases h2;cases o with| lst ds=>obtain⟨xs,ha,r2⟩:=h3;refine zbU pins s σ H _ us Qv I rv ⟨a,xs,rfl,.inl (SqL.of ha),?_⟩;rw[r2.length];exact q _ _ (Lf.of (d:=.int _) hh rfl w)|dic _=>exact w.elim|ins _ _=>exact w.elim
  exact w.elim
 all_goals first|exact w.elim|(rename_i h;cases h)
theorem zrC:zbi X (.builtin "abs") (rB X.K fun S ds=>R.bi S .abs ds):=by
 intro pins s σ H xs us Qv I rv ⟨ι,S,ds,Qd,r,hh,w,q⟩;dsimp only at w;unfold bi at w;split at w
 case h_2 i _=>obtain⟨v,rfl,rr⟩:=r.one;obtain rfl:v=.int i:=rr;exact zmi pins s σ H _ us Qv I rv ⟨i,rfl,q _ _ (Lf.of (d:=.int _) hh rfl w)⟩
 all_goals first|exact w.elim|(rename_i h;cases h)
theorem zqJ(hc:X.calm=true):zbi X (.builtin "min") (rB X.K fun S ds=>R.bi S .min2 ds):=by
 intro pins s σ H xs us Qv I rv ⟨ι,S,ds,Qd,r,hh,w,q⟩;dsimp only at w;unfold bi at w;split at w
 case h_3 i j _=>obtain⟨v,u,rfl,r1,r2⟩:=r.two;obtain rfl:v=.int i:=r1;obtain rfl:u=.int j:=r2;exact zkD hc pins s σ H _ us Qv I rv ⟨i,j,rfl,q _ _ (Lf.of (d:=.int _) hh rfl w)⟩
 all_goals first|exact w.elim|(rename_i h;cases h)
theorem zaP(G:Gd T cf k N sc X)(h:bltB T sc x=true):Gl X x/\X.mg x=none:=by unfold bltB at h;rw[and_eq_true]at h;exact⟨G.gl h.1,G.tab.blt x h.2⟩
theorem zr1{id:String}(hc:zbi X (.builtin id) (rB X.K fun S ds=>R.bi S b ds))(hg:Gl X x/\X.mg x=none)(hv:bootBuiltins x=some (.builtin id))(ha:PA X (e::es) (tAs X.K cf ces))(hst:(e::es).all zah=true)(hn:x≠"__name__")(hdb:(x==("__debug__":Str))=false) :
  PE X (.Call (.Name x p) (e::es) [] pos) (tE X.K cf (.bi b ces)):=by
 rw[all_cons,and_eq_true]at hst;refine PE.imp (zbr hc hg.1 hg.2 hv ha hn hdb (zaj hst.1 es X.env) (zaR hst.2)) fun σ H Qv=>ex8 fun δ ι S Q hs hh w q=>?_;simp[evE,zaa]at w;refine tAs.run hs hh w fun ds vs ι1 H1 S1 x1 hs1 hh1 r1 w1=>?_;exact⟨ι1,S1,ds,Q,r1,hh1,w1,fun v H' l=>q v H' (Lf.up x1 l)⟩
theorem zm5(hh:RH X.K ι H S)(r:RV X.K ι H d v)(h:tyOf S d=some a):zcU H v=some a:=by
 cases d with
 |non=>obtain rfl:v=.non:=r;exact h|bl b=>obtain rfl:v=.bl b:=r;exact h|int b=>obtain rfl:v=.int b:=r;exact h|str b=>obtain rfl:v=.str b:=r;exact h| tup ds=>obtain⟨p,xs,rfl,ha,_⟩:=r;simp only[zcU,ha];exact h| ref l=>
  obtain⟨p,h1,rfl⟩:=r;simp[tyOf]at h;simp[zcU];cases e:S.get l with
  |none=>rw[e]at h;cases h
  |some o=>rw[e]at h;obtain⟨b,h2,h3⟩:=hh.obj _ _ e;rw[h1]at h2;cases h2;cases o with|lst ds=>obtain⟨xs,ha,_⟩:=h3;rw[ha];exact h|dic kvs=>obtain⟨_,ws,ha,_⟩:=h3;rw[ha];exact h|ins _ _=>cases h
 |fix ds=>cases h
theorem znv(G:Gd T cf k N sc X)(hg:Gl X "isinstance"/\X.mg "isinstance"=none)(hy:Gl X y/\X.mg y=none)(hb:bootBuiltins y=some (.type t))(ht:t∈["bool","int","str","list","tuple","dict"])(hyn:y≠"__name__")(hyd:(y==("__debug__":Str))=false)
  (he:PE X e (tE X.K cf ce)) (hst:zah e=true):PE X (.Call (.Name "isinstance" p) [e,.Name y p2] [] pos) (tE X.K cf (.bi (.isin t) (.cons ce .nil))):=by
 refine PE.imp (zbr zgB hg.1 hg.2 ze9 (zcI he (zcI (zoa (v:=.ty t) hy.1 hy.2 hb rfl hyn hyd) zg4) (zaj hst _ X.env)) (by decide) (by decide) (zaj hst _ X.env)) fun σ H Qv=>ex8 fun δ ι S Q hs hh w q=>?_;simp[evE,evEs,zaa,W_ok]at w;refine tE.run hs hh w fun d v ι1 H1 S1 x1 hs1 hh1 r1 w1=>?_;simp[bi]at w1;cases e:tyOf S1 d with|none=>rw[e]at w1;exact w1.elim| some a=>rw[e]at w1;exact⟨v,t,a,rfl,zm5 hh1 r1 e,ht,q _ _ (Lf.up x1 (Lf.of (d:=.bl _) hh1 rfl w1))⟩
theorem zjX(hh:RH X.K ι H S)(r:RV X.K ι H d v)(h:isL S d=true):tyV X.K "list" v H:=by
 cases d with
 |ref l=>
  obtain⟨p,h1,rfl⟩:=r;simp[isL]at h;cases e:S.get l with
  |none=>rw[e]at h;cases h
  |some o=>rw[e]at h;obtain⟨b,h2,h3⟩:=hh.obj _ _ e;rw[h1]at h2;cases h2;cases o with|lst ds=>obtain⟨xs,ha,_⟩:=h3;exact .inl ⟨rfl,xs,SqL.of ha⟩|_=>cases h
 |_=>cases h
def rM(K:Frag)(m:Mt):V->List V->Hp->VK->Prop:=fun x xs H Qv=>∃ι S d ds Qd,RV K ι H d x/\RVs K ι H ds xs/\RH K ι H S/\W (R.mt S m d ds) Qd/\∀v H',Lf K ι H Qd v H'->Qv v H'
theorem zkR:MtR X "list.append" (rM X.K .append):=by
 intro pins s σ H x xs v us Qv I rx rv ⟨ι,S,d,ds,Qd,r,rs,hh,w,q⟩;unfold R.mt at w;split at w
 case h_1 l y _=>obtain⟨a,h1,rfl⟩:=r;obtain⟨u,rfl,ru⟩:=rs.one;cases e:S.get l with|none=>rw[e]at w;exact w.elim| some o=>rw[e]at w;obtain⟨b,h2,h3⟩:=hh.obj _ _ e;rw[h1]at h2;cases h2;cases o with| lst ds=>obtain⟨zs,ha,r2⟩:=h3;obtain⟨c,S',hp,w2⟩:=zmY w;refine zft pins s σ H _ _ v us Qv I rx rv ⟨a,zs,u,rfl,rfl,ha,?_,?_⟩;rw[r2.length];rw[length_append,List.length_singleton]at c;omega;exact q _ _ (Lf.wr (d:=.non) hh e h1 hp (r2.append ⟨u,[],rfl,ru,rfl⟩) rfl w2)|_=>exact w.elim
 all_goals first|exact w.elim|(rename_i h;cases h)
theorem zrY{id:String}(slot:Slot "list" name id)(hty:typeOf (.builtin id)=pure (.type "method_descriptor"))(hm:MtR X id (rM X.K m))(ho:PE X o (tE X.K cf co))(he:PE X e (tE X.K cf ce))(hst:zah e=true)(hsup:za7 o=true)(hl:(apos.endLine==cpos.line)=true) :
  PE X (.Call (.Attribute o name apos) [e] [] cpos) (tE X.K cf (.mt m co (.cons ce .nil))):=by
 refine PE.imp (zqu PySem.F.plainAttrs_list slot hty hm ho (ziU he zmx hst) (zcj hsup name X.env _) (by rw[zaj hst];rfl) hl (zaj hst [] X.env)) fun σ H Qv=>ex8 fun δ ι S Q hs hh w q=>?_;simp[evE,zaa]at w;refine tE.run hs hh w fun d v ι1 H1 S1 x1 hs1 hh1 r1 w1=>?_;split at w1;rename_i c;refine⟨zjX hh1 r1 c,?_⟩;rw[zaa]at w1;refine tAs.run hs1 hh1 w1 fun ds vs ι2 H2 S2 x2 hs2 hh2 r2 w2=>?_;exact⟨ι2,S2,d,ds,Q,r1.ext x2,r2,hh2,w2,fun z H3 l=>q z H3 (Lf.up (x1.trans x2) l)⟩;exact w1.elim
theorem SqK.seq{K:Frag}(h:SqK K ι H S a xs ds lks):SqL K H a xs\/SqT K H a xs:=by cases h with|tmp h e=>exact .inl (SqL.of e)|tup e=>exact .inr (SqT.of e)|fix e=>exact .inl e.sq|own l hl hi hs e=>exact .inl (SqL.of e)
theorem zpC(he:PE X e (tE X.K cf ce)):PE X e (tL X.K cf (.val ce)):=by
 refine PE.imp he fun σ H Qv=>ex8 fun δ ι S Q hs hh w q=>?_;simp[evL,zaa]at w;refine tE.run hs hh w fun d v ι1 H1 S1 x1 hs1 hh1 r1 w1=>?_;obtain⟨ds,eq,w2⟩:=zar w1;refine q v H1 ⟨ds,lkOf S1 d,ι1,S1,x1,?_,hh1,w2⟩;cases d with
 |tup es=>cases eq;obtain⟨a,xs,rfl,ha,rr⟩:=r1;exact⟨a,xs,rfl,rr,.tup ha⟩| fix es=>cases eq;obtain⟨a,xs,rfl,ha,rr⟩:=r1;exact⟨a,xs,rfl,rr,.fix ha⟩| ref l=>simp[zcc]at eq;split at eq;rename_i ds' e;cases eq;obtain⟨a,h1,rfl⟩:=r1;obtain⟨a2,h2,xs,ha,rr⟩:=hh1.obj _ _ e;rw[h1]at h2;cases h2;exact⟨a,xs,rfl,rr,.own l (by simp[lkOf]) h1 e ha⟩;cases eq
 |_=>cases eq
theorem zaJ(he:PE X e te)(hst:zah e=true):PA X [e] (ziM te tNil):=zcI he zg4 (zaj hst [] X.env)
theorem zpJ(G:Gd T cf k N sc X)(hg:Gl X "tuple"/\X.mg "tuple"=none)(he:PE X e (tL X.K cf cl))(hst:zah e=true):PE X (.Call (.Name "tuple" p) [e] [] pos) (tE X.K cf (.mkT cl)):=by
 refine PE.imp (za6 ze0 hg.1 hg.2 ze7 (zaJ he hst) (by decide) (by decide) (zaj hst [] X.env)) fun σ H Qv=>ex8 fun δ ι S Q hs hh w q=>?_;simp[evE,zaa]at w;refine tL.run hs hh w fun ds lks v ι1 H1 S1 x1 hs1 hh1 sq w1=>?_;split at w1;rename_i c;obtain⟨a,xs,rfl,rr,kd⟩:=sq;have fresh:SqL X.K H1 a xs->∃p ys,[V.ref a]=[V.ref p]/\((SqL X.K H1 p ys/\∀l,H1 l=none->Qv (.ref l) (upd H1 l (.tup ys)))\/(SqT X.K H1 p ys/\Qv (.ref p) H1)):=fun h=>⟨a,xs,rfl,.inl ⟨h,fun l hl=>q _ _ (Lf.up x1 (Lf.tup hh1 hl rr w1))⟩⟩;cases kd with|tmp h e=>exact fresh (SqL.of e)|fix e=>exact fresh e.sq|own l hl hi hs e=>exact fresh (SqL.of e)|tup e=>exact⟨a,xs,rfl,.inr ⟨SqT.of e,q _ _ (Lf.up x1 (Lf.of (d:=.tup ds) hh1 ⟨a,xs,rfl,e,rr⟩ w1))⟩⟩
 exact w1.elim
theorem zmv(G:Gd T cf k N sc X)(hg:Gl X "list"/\X.mg "list"=none)(he:PE X e (tL X.K cf cl))(hst:zah e=true):PE X (.Call (.Name "list" p) [e] [] pos) (tE X.K cf (.mkL cl)):=by refine PE.imp (za6 zfS hg.1 hg.2 ze8 (zaJ he hst) (by decide) (by decide) (zaj hst [] X.env)) fun σ H Qv=>ex8 fun δ ι S Q hs hh w q=>?_;simp[evE,zaa]at w;refine tL.run hs hh w fun ds lks v ι1 H1 S1 x1 hs1 hh1 sq w1=>?_;obtain⟨c,w2⟩:=zbC w1;obtain⟨a,xs,rfl,rr,kd⟩:=sq;exact⟨a,xs,rfl,kd.seq,fun l hl=>q _ _ (Lf.up x1 (Lf.lst hh1 hl rr w2))⟩
theorem zjv(h:tE X.K cf (.mkL cl) σ H Qv):tLt X.K cf cl σ H Qv:=by obtain⟨δ,ι,S,Q,hs,hh,w,q⟩:=h;simp[evE,zaa]at w;refine tLt.run hs hh w fun ds p xs ι1 H1 S1 x1 hs1 hh1 r1 hp e hn w1=>?_;obtain⟨c,w2⟩:=zbC w1;refine q _ _ ⟨.ref S1.len,ι1++[p],S1.push (.lst ds),?_,⟨p,hh1.last p,rfl⟩,hh1.one (l:=0) hp ⟨xs,e,r1.up (prefix_append _ _) (Kp.refl _)⟩,w2⟩;refine⟨x1.pre.trans (prefix_append _ _),x1.kp,fun b o hb eb=>⟨(x1.rest b o hb eb).1,fun z=>?_⟩⟩;rcases mem_append.mp z with z|z;exact(x1.rest b o hb eb).2 z;simp at z;subst z;rw[hn]at eb;cases eb
theorem zhA:bootBuiltins "range"=some (.type "range"):=by decide +kernel
theorem zfj:zbi X (.type "range") (fun xs H Q=>∃j,xs=[.int j]/\∀p,H p=none->Q (.ref p) (upd H p (.rng 0 j))):=by intro pins s σ H xs us Q I r h;obtain⟨j,rfl,q⟩:=h;obtain⟨u,rfl,ru⟩:=r.one;obtain⟨t,rfl⟩:=ru;refine call_range_1 ⟨.ref s.heap.objs.size,_,I.laid (fun b ob e=>Heap.get?_push_of_some _ e) (le_refl _) ?_,rfl,q _ (I.hok.fresh (le_refl _))⟩;exact⟨_,_,_,Heap.get?_push_size _ rfl⟩
theorem zlW(hc:X.calm=true):zbi X (.type "list") (fun xs H Q=>∃p hi,xs=[.ref p]/\H p=some (.rng 0 hi)/\-(2^62)<=hi/\hi<2^62/\hi.toNat<=16777216/\∀l,H l=none->Q (.ref l) (upd H l (.lst ((List.range hi.toNat).map fun(j:Nat)=>.int j)))):=by
 intro pins s σ H xs us Q I r h;obtain⟨p,hi,rfl,hp,h1,h2,h3,q⟩:=h;obtain⟨u,rfl,ru⟩:=r.one;cases ru;obtain⟨t,t2,t3,e⟩:=(I.hok p _ hp);have hn:Builtin.Range.rangeSize 0 hi 1=(hi.toNat:Nat):=by rw[rangeSize_one];split<;>omega
 refine call_list_range (I.ok.hd hc) e (small_one (by decide) (by decide) h1 h2) hn h3 fun h' tk acc c kp hg it=>?_;refine⟨.ref s.heap.objs.size,_,I.laid (o:=.lst _) kp (le_refl _) ⟨?_,acc.toList,c,?_,?_⟩,rfl,q _ (I.hok.fresh (le_refl _))⟩;rw[length_map,length_range,sizeLine_eq];exact h3;have key:∀(n:Nat)(us:List Value),us.length=n->(∀(j:Nat)(v:Value),us[j]?=some v->∃t,v=Value.int (0+(j:Int)*1) t)->Vals ((List.range n).map fun(j:Nat)=>V.int j) us:=by
  intro n;induction n with
  |zero=>intro us hl _;cases us with
   |nil=>exact .nil|cons _ _=>simp at hl
  |succ n ih=>
   intro us hl hv;have hne:us≠[]:=by intro z;subst z;simp at hl
   have hd:us=us.dropLast++[us.getLast hne]:=(List.dropLast_concat_getLast hne).symm;rw[List.range_succ,map_append,hd];have hdl:us.dropLast.length=n:=by simp[hl]
   refine Vals.append (ih _ hdl fun j v e=>hv j v ?_) (.cons ?_ .nil);have hj:j<us.dropLast.length:=(List.getElem?_eq_some_iff.mp e).1;rw[hd,getElem?_append_left hj];exact e;obtain⟨t,e⟩:=hv n (us.getLast hne) (by
    conv=>lhs;rw[hd]
    simp[hdl])
   exact⟨t,by simpa using e⟩
 exact key _ _ (by simpa using it.1) fun j v e=>it.2 j v (by simpa using e);simpa using hg
theorem zns(G:Gd T cf k N sc X)(hg:Gl X "list"/\X.mg "list"=none)(hr:Gl X "range"/\X.mg "range"=none)(ha:PE X a (tE X.K cf ca))(hst:zah a=true) :
  PE X (.Call (.Name "list" p) [.Call (.Name "range" p2) [a] [] pos'] [] pos) (tE X.K cf (.mkL (.rng1 ca))):=by
 have hin:=za6 (p:=p2) (pos:=pos') zfj hr.1 hr.2 zhA (zaJ ha hst) (by decide) (by decide) (zaj hst [] X.env);refine PE.imp (za6 (zlW G.calm) hg.1 hg.2 ze8 (zaJ hin rfl) (by decide) (by decide) rfl) fun σ H Qv=>ex8 fun δ ι S Q hs hh w q=>?_;simp[evE,evL,zaa]at w;refine tE.run hs hh w fun d v ι1 H1 S1 x1 hs1 hh1 r1 w1=>?_;cases d with| int j=>obtain rfl:v=.int j:=r1;dsimp only at w1;split at w1;rename_i c;obtain⟨c2,w2⟩:=zbC w1;refine⟨j,rfl,fun pr hpr=>⟨pr,j,rfl,zal,c.1,c.2,by simpa[sizeLine_eq]using c2,fun l hl=>?_⟩⟩;have hh2:=hh1.new hpr (.rng 0 j);refine q _ _ (Lf.up (x1.trans (Ext.new hpr _)) (Lf.lst hh2 hl ?_ w2));have:=RVs.ints (K:=X.K) (ι:=ι1) (H:=upd H1 pr (.rng 0 j)) ((List.range j.toNat).map fun(m:Nat)=>(m:Int));rw[List.map_map,List.map_map]at this;exact this;exact w1.elim|_=>exact w1.elim
theorem zoV{ds:List D}(h:ds.mapM zdF=some bs):ds=bs.map D.bl:=by
 induction ds generalizing bs with
 |nil=>
  have h:bs=[]:=by simpa using h.symm
  subst h;rfl
 |cons d ds ih=>obtain⟨y,r,h1,h2,rfl⟩:=za3 h;cases d<;>simp[zdF]at h1;subst h1;rw[ih h2];rfl
theorem RVs.bls_eq{K:Frag}:∀{bs:List Bool}{vs:List V},RVs K ι H (bs.map D.bl) vs->vs=bs.map V.bl
 | [],_,h=>h| b::bs,vs,h=>by obtain⟨v,r,rfl,h1,h2⟩:=h;rw[RVs.bls_eq h2,show v=.bl b from h1];rfl
theorem ziD{bs:List Bool}(r:Vals (bs.map V.bl) us):us=bs.map Value.bool:=by induction bs generalizing us with|nil=>cases r;rfl| cons b bs ih=>cases r with|cons r1 r2=>rw[ih r2,show _=Value.bool b from r1];rfl
theorem zkS(bs:List Bool):(List.range bs.length).all (fun i=>bs.getD i false)=bs.all id:=by
 rw[Bool.eq_iff_iff,all_eq_true,all_eq_true];constructor;intro h b hb;obtain⟨i,hi,e⟩:=List.getElem_of_mem hb;have:=h i (by simpa using hi);rw[List.getD_eq_getElem?_getD,List.getElem?_eq_getElem hi,e]at this;exact this;intro h i hi;have hi:i<bs.length:=by simpa using hi
 rw[List.getD_eq_getElem?_getD,List.getElem?_eq_getElem hi];exact h _ (List.getElem_mem hi)
theorem zo0(hc:X.calm=true):zbi X (.builtin "all") (fun xs H Q=>∃(a:Addr) (bs:List Bool),xs=[.ref a]/\(SqL X.K H a (bs.map V.bl)\/SqT X.K H a (bs.map V.bl))/\Q (.bl (bs.all id)) H):=by
 intro pins s σ H xs us Q I r h;obtain⟨a,bs,rfl,hq,q⟩:=h;obtain⟨u,rfl,ru⟩:=r.one;cases ru;have hA1:X.A.in1.handled=none:=I.ok.hd hc;have tr:∀(items:Array Value),items.toList=bs.map Value.bool->TruthOf X.prog X.w X.A.in1 (fun i v=>items[i]?=some v) (fun i=>bs.getD i false):=by
  intro items e i v s' Q' E' hv hQ;have hv':items.toList[i]?=some v:=by rw[Array.getElem?_toList];exact hv
  rw[e,getElem?_map]at hv';cases z:bs[i]? with
  |none=>rw[z]at hv';cases hv'
  |some b=>rw[z]at hv';simp at hv';subst hv';dsimp only at hQ;rw[List.getD_eq_getElem?_getD,z]at hQ;exact wpAny_truthy_bool hQ
 have fin:∀(h':Heap)(tk n:Nat)(s2:Shared)(it:Addr),n=bs.length->s.heap.objs.size=it->Inv X pins σ H s2->s2.os=s.os->(∀b o,b∉[it]->s2.heap.get? b=some o->h'.get? b=some o)->
   EP X pins σ Q (.bool ((List.range n).all fun i=>bs.getD i false)) {s2 with heap:=h',toks:=tk}:=by
  intro h' tk n s2 it hn hit I2 ho kp;subst hn;rw[zkS];have fp:=I.fpOk (b:=it) (H':=H) (by omega) (I.hok.fresh (by omega));obtain⟨f0,f1,f2,f3,f4,f5⟩:=fp;exact⟨.bl _,H,I2.turned (fun b o hb e=>kp b o (by simpa using hb) e) f0 f1 f3 f4 f5,rfl,q⟩
 rcases hq with hq|hq;obtain⟨its,rv,pl,hz⟩:=I.list hq;have hits:=ziD rv;have hlen:=rv.length;refine call_all_walk (wpAny_pyIter_list pl.isList ?_);have hne:a≠s.heap.objs.size:=by obtain⟨o,n,e,_⟩:=pl;exact ne_of_lt (Heap.lt_size e)
 refine⟨s.heap.objs.size,_,_,_,_,_,_,rfl,Walks.list hA1 _ a hne its.toArray,⟨⟨_,Heap.get?_push_size _ rfl,rfl,rfl⟩,pl.isList.push _⟩,tr its.toArray (by simpa using hits),fun h' tk kp=>?_⟩;exact fin h' tk _ _ _ (by simpa using hlen.symm) rfl (I.kept (t':=s.toks) fun b o e=>Heap.get?_push_of_some _ e) rfl kp;obtain⟨its,rv,pl,hz⟩:=I.tuple hq;have hits:=ziD rv;have hlen:=rv.length;refine call_all_walk (wpAny_pyIter_tuple pl ?_);have hne:a≠s.heap.objs.size:=by obtain⟨o,e,_⟩:=pl;exact ne_of_lt (Heap.lt_size e)
 refine⟨s.heap.objs.size,_,_,_,_,_,_,rfl,Walks.tuple hA1 _ a hne its.toArray,⟨⟨_,Heap.get?_push_size _ rfl,rfl,rfl⟩,?_⟩,tr its.toArray (by simpa using hits),fun h' tk kp=>?_⟩;obtain⟨o,e,c⟩:=pl;exact⟨o,Heap.get?_push_of_some _ e,c⟩;exact fin h' tk _ _ _ (by simpa using hlen.symm) rfl (I.kept (t':=s.toks) fun b o e=>Heap.get?_push_of_some _ e) rfl kp
theorem zpT(G:Gd T cf k N sc X)(hg:Gl X "all"/\X.mg "all"=none)(he:PE X e (tL X.K cf cl))(hst:zah e=true):PE X (.Call (.Name "all" p) [e] [] pos) (tE X.K cf (.all cl)):=by
 refine PE.imp (zbr (zo0 G.calm) hg.1 hg.2 zrx (zaJ he hst) (by decide) (by decide) (zaj hst [] X.env)) fun σ H Qv=>ex8 fun δ ι S Q hs hh w q=>?_;simp[evE,zaa]at w;refine tL.run hs hh w fun ds lks v ι1 H1 S1 x1 hs1 hh1 sq w1=>?_;obtain⟨b,hb,w2⟩:=zar w1;unfold allD at hb;cases e:ds.mapM zdF with
 |none=>rw[e]at hb;cases hb
 |some bs=>
  rw[e]at hb;have hb:b=bs.all id:=by simpa using hb.symm
  subst hb;obtain⟨a,xs,rfl,rr,kd⟩:=sq;rw[zoV e]at rr;have:=rr.bls_eq;subst this;exact⟨a,bs,rfl,kd.seq,q _ _ (Lf.up x1 (Lf.of (d:=.bl _) hh1 rfl w2))⟩
end
section
variable{T:Tab}{cf:CF}{k:Nat}{N:List Str}{sc:Scope}{X:Cx}{pos p p2 pos':Pos}
theorem zfP(ns:List Int):R.dedup ns=firstMet (fun i=>ns.getD i 0) ns.length:=by
 unfold R.dedup firstMet;have e:(List.range ns.length).map (fun i=>ns.getD i 0)=ns:=by apply ext_getElem?;intro i;by_cases h:i<ns.length;simp[h];simp[h]
 rw[e];unfold step_dedup;simp
theorem zks(ns:List Int):(R.dedup ns).length<=ns.length:=by rw[zfP];exact firstMet_length_le _ _
end
end R
namespace R
open PySem
abbrev Rise(xs:Array Nat):Prop:=xs.toList.Pairwise (· < ·)
theorem zew(h:Rise xs)(hij:i<j)(hj:j<xs.size):xs[i]'(by omega)<xs[j]:=by have:=List.pairwise_iff_getElem.mp h i j (by simpa using(by omega:i<xs.size)) (by simpa using hj) hij;simpa using this
theorem ze6(xs:Array Nat)(j:Nat)(h:Rise xs):∀(f lo hi:Nat),hi-lo<=f->lo<=hi->hi<=xs.size->(∀i (hi':i<xs.size),i<lo->xs[i]<j)->(∀i (hi':i<xs.size),hi<=i->j<=xs[i])->
  SetTable.below.go xs j f lo hi<=xs.size/\(∀i (hi':i<xs.size),i<SetTable.below.go xs j f lo hi->xs[i]<j)/\∀i (hi':i<xs.size),SetTable.below.go xs j f lo hi<=i->j<=xs[i]
 |0,lo,hi,hf,hl,hs,h1,h2=>by
  have:lo=hi:=by omega
  subst this;exact⟨hs,h1,h2⟩
 |f+1,lo,hi,hf,hl,hs,h1,h2=>by
  unfold SetTable.below.go;by_cases c:lo<hi;rw[if_pos c];have hm:(lo+hi)/2<xs.size:=by omega
  have e:xs.getD ((lo+hi)/2) j=xs[(lo+hi)/2]:=by simp[hm]
  dsimp only;rw[e];by_cases c2:xs[(lo+hi)/2]<j;rw[if_pos c2];refine ze6 xs j h f _ _ (by omega) (by omega) hs (fun i hi' hl'=>?_) h2;by_cases q:i=(lo+hi)/2;subst q;exact c2;exact lt_trans (zew h (by omega) hm) c2;rw[if_neg c2];refine ze6 xs j h f _ _ (by omega) (by omega) (by omega) h1 fun i hi' hl'=>?_;by_cases q:i=(lo+hi)/2;subst q;omega;have:=zew h (show(lo+hi)/2<i by omega) hi';omega;rw[if_neg c];have:lo=hi:=by omega
  subst this;exact⟨hs,h1,h2⟩
theorem ze5(h:Rise xs)(j:Nat):SetTable.below xs j<=xs.size/\(∀i (hi:i<xs.size),i<SetTable.below xs j->xs[i]<j)/\∀i (hi:i<xs.size),SetTable.below xs j<=i->j<=xs[i]:=ze6 xs j h xs.size 0 xs.size (by omega) (zero_le _) (le_refl _) (fun i _ q=>by omega) (fun i hi q=>by omega)
theorem zit(h:Rise xs)(hi:i<xs.size):SetTable.below xs (xs[i]+1)=i+1:=by
 obtain⟨b1,b2,b3⟩:=ze5 h (xs[i]+1);have h1:¬SetTable.below xs (xs[i]+1)<=i:=fun c=>by have:=b3 i hi c;omega
 by_cases c:i+1<SetTable.below xs (xs[i]+1);have hs:i+1<xs.size:=by omega
 have q1:=b2 (i+1) hs c;have q2:=zew h (show i<i+1 by omega) hs;omega;omega
theorem zis(h:Rise xs):SetTable.below xs 0=0:=by obtain⟨b1,b2,b3⟩:=ze5 h 0;cases e:SetTable.below xs 0 with|zero=>rfl|succ n=>exact absurd (b2 0 (by omega) (by omega)) (Nat.not_lt_zero _)
theorem zgu(xs:Array α)(p:Nat)(x:α):(SetTable.insertAt xs p x).toList=xs.toList.take p++x::xs.toList.drop p:=by unfold SetTable.insertAt;simp[List.take_of_length_le]
theorem zga(h:Rise xs)(hj:xs[SetTable.below xs j]?≠some j):Rise (SetTable.insertAt xs (SetTable.below xs j) j):=by
 obtain⟨b1,b2,b3⟩:=ze5 h j;generalize SetTable.below xs j=p at *;unfold Rise;rw[zgu,List.pairwise_append];refine⟨h.sublist (List.take_sublist _ _),?_,?_⟩;rw[pairwise_cons];refine⟨fun y hy=>?_,h.sublist (List.drop_sublist _ _)⟩;obtain⟨i,hi,e⟩:=List.mem_iff_getElem.mp hy;have hs:p+i<xs.size:=by simp at hi;omega
 have e:xs[p+i]=y:=by simpa using e
 have q:=b3 (p+i) hs (by omega);have ne:xs[p+i]≠j:=fun z=>by
  cases i with
  |zero=>exact hj (by rw[Array.getElem?_eq_getElem (by omega)];exact congrArg some z)| succ i=>
   have hp:p<xs.size:=by omega
   have:=zew h (show p<p+(i+1) by omega) hs;have:=b3 p hp (le_refl _);omega
 omega;intro a ha b hb;obtain⟨i,hi,e⟩:=List.mem_iff_getElem.mp ha;have hs:i<xs.size:=by simp at hi;omega
 have hip:i<p:=by simp at hi;omega
 have e:xs[i]=a:=by simpa using e
 have q:=b2 i hs hip;rcases mem_cons.mp hb with rfl|hb;omega;obtain⟨m,hm,e2⟩:=List.mem_iff_getElem.mp hb;have hs2:p+m<xs.size:=by simp at hm;omega
 have e2:xs[p+m]=b:=by simpa using e2
 have:=b3 (p+m) hs2 (by omega);omega
theorem zgw(t:SetTable)(ha:Nat->Int)(h:Int):∀(f:Nat)(p:SetTable.Probe)(j:Nat)(d:Option Nat),(∀x,p.dummy=some x->t.slot x=.dummy)->SetTable.probe.go t ha h f p=some (.empty j d)->t.slot j=.empty/\∀x,d=some x->t.slot x=.dummy
 |0,p,j,d,hp,e=>by cases e| f+1,p,j,d,hp,e=>by
  unfold SetTable.probe.go at e;have adv:∀q:SetTable.Probe,(t.advance q).dummy=q.dummy:=fun q=>by unfold SetTable.advance;split<;>rfl
  cases hs:t.slot p.j with|empty=>rw[hs]at e;cases e;exact⟨hs,hp⟩| dummy=>rw[hs]at e;refine zgw t ha h f _ j d (fun x hx=>?_) e;rw[adv]at hx;cases hx;exact hs| live i=>rw[hs]at e;dsimp only at e;split at e;cases e;exact zgw t ha h f _ j d (fun x hx=>hp x (by rw[adv]at hx;exact hx)) e
theorem zoJ{t:SetTable}(e:t.freeSlot h=some (slot,b)):t.place[SetTable.below t.place slot]?≠some slot:=by
 unfold SetTable.freeSlot at e;split at e;rename_i j d hp;obtain⟨h1,h2⟩:=zgw t _ h _ _ j d (fun x hx=>by cases hx) hp;cases e;have key:∀x,(t.slot x=.empty\/t.slot x=.dummy)->t.place[SetTable.below t.place x]?≠some x:=fun x hx z=>by unfold SetTable.slot at hx;rw[if_pos (by simpa using z)]at hx;rcases hx with q|q<;>cases q
 cases d with|none=>exact key j (.inl h1)|some x=>exact key x (.inr (h2 x rfl))
 cases e
theorem zbW(n:Nat):Rise (Array.range n):=by unfold Rise;rw[Array.toList_range];exact List.pairwise_lt_range
structure TOk(b:Bool)(t:SetTable):Prop where
 led:t.led=b
 rise:Rise t.place
theorem zqS(h:TOk b t)(es:Array (Int×Value))(x:Int)(v:Value):TOk b (layNew t es x v).2.1:=by unfold layNew;split;rename_i slot d e;have h1:TOk b (t.put slot).1:=⟨h.led,zga h.rise (zoJ e)⟩;dsimp only;unfold SetTable.orStandIn;split;exact h1;exact⟨h1.led,zbW _⟩;exact⟨h.led,zbW _⟩
theorem zln(h:TOk b t)(es:Array (Int×Value))(n:Nat):TOk b (relayAll t es n).2.1:=by
 unfold relayAll;split;rename_i t' ord e;have h1:TOk b t':=by
  unfold SetTable.relaid SetTable.laid at e;cases ec:SetTable.layClean (SetTable.sizeAbove n-1) (es.map (·.1)) with
  |none=>rw[ec]at e;cases e
  |some ow=>
   rw[ec]at e;cases e;refine⟨h.led,?_⟩;show Pairwise _ (List.map _ _);rw[pairwise_map,List.pairwise_filterMap];refine List.pairwise_lt_range.imp fun {x y} hxy a ha c hc=>?_;cases h1:ow.getD x none with
   |none=>rw[h1]at ha;cases ha
   |some u=>
    cases h2:ow.getD y none with
    |none=>rw[h2]at hc;cases hc
    |some u2=>rw[h1]at ha;rw[h2]at hc;cases ha;cases hc;exact hxy
 dsimp only;split;exact h1;exact⟨h.led,zbW _⟩;exact⟨h.led,zbW _⟩
end R
namespace R
open PySem PySem.Spec PyProof.Rows
section
variable{prog:Program}{w:World}{A:Around}{E:Value->Shared->Prop}{s:Shared}
noncomputable abbrev byT(w:World):Bool:=w.params.followText "set-order"
def SetD(prog:Program)(w:World)(h:Heap)(a:Addr)(S:Int->Bool)(n:Nat):Prop:=∃o es ep t,h.get? a=some o/\o.ExactSet/\o.data=.set es ep t/\ElemsOf (intKind prog w) es.toList/\(∀k,S k=true↔∃e∈es.toList,(intKind prog w).is k e.2=true)/\es.size<scanBound/\t.fits es.size=true/\es.size=n/\TOk (!byT w) t
theorem SetD.congr(x:SetD prog w h a S n)(e:∀k,S k=S' k)(en:n=n'):SetD prog w h a S' n':=by obtain⟨o,es,ep,t,h1,h2,h3,h4,h5,h6,h7,h8,h9⟩:=x;exact⟨o,es,ep,t,h1,h2,h3,h4,fun k=>by rw[<-e k];exact h5 k,h6,h7,h8.trans en,h9⟩
theorem SetD.at(x:SetD prog w h a S n)(k:∀o,h.get? a=some o->h'.get? a=some o):SetD prog w h' a S n:=by obtain⟨o,es,ep,t,h1,r⟩:=x;exact⟨o,es,ep,t,k o h1,r⟩
theorem ziN{h:Heap}(ho:h.get? a=some o)(hex:o.ExactSet)(hd:o.data=.set es ep t)
  (g1:ElemsOf (intKind prog w) es'.toList) (g2:∀k,S' k=true↔∃e∈es'.toList,(intKind prog w).is k e.2=true) (g3:es'.size<scanBound) (g4:t'.fits es'.size=true) (g5:TOk (!byT w) t') :
  (h.update a (Obj.putSet es' t')).get? a=some {o with data:=.set es' (ep+1) t'}/\SetD prog w (h.update a (Obj.putSet es' t')) a S' es'.size:=by
 obtain⟨k1,_⟩:=SetOf_store ho hex hd g1 g2 g3 g4;exact⟨k1,_,es',ep+1,t',k1,hex,rfl,g1,g2,g3,g4,rfl,g5⟩
theorem zsD(hS:SetD prog w s.heap a S n)(hr:n+1<scanBound)
  (q:∀h' b,Heap.SameBut a s.heap h'->SetD prog w h' a (fun z=>S z||decide (z=k)) (if S k then n else n+1)->Q b {s with heap:=h'}) :
  wpAny (model prog w) A (setAddHashed a (.int k tk) ((intKind prog w).hash k)) Q E s:=by
 have hkey:(intKind prog w).is k (.int k tk)=true:=intKind_is _ _ _ _;obtain⟨o,es,ep,t,ho,hex,hd,hel,hmem,hb,hf,hn,ht⟩:=hS;refine wpAny_holding (wpAny_bind (wpAny_setState_of ho hd hf ?_));dsimp only;rw[byScan_of rfl hb hel];refine wpAny_bind (wpAny_bind (wpAny_rule (wpAny_bind (wpAny_setScan_of hkey ho hd hf hel ?_))));cases hi:List.findIdx? (fun e=>(intKind prog w).is k e.2) es.toList with
 |some j=>obtain⟨hj,hp,_⟩:=List.findIdx?_eq_some_iff_getElem.mp hi;have hk:S k=true:=(hmem k).mpr ⟨_,List.getElem_mem hj,hp⟩;have:=q s.heap false (Heap.SameBut.refl _ _) ⟨o,es,ep,t,ho,hex,hd,hel,fun z=>?_,hb,hf,by rw[hk];exact hn,ht⟩;exact wpAny_pure (wpAny_pure this);rw[<-hmem z];by_cases c:z=k;subst c;simp[hk];simp[c]| none=>
  have hk:S k=false:=by cases c:S k with|false=>rfl| true=>obtain⟨e,he,hp⟩:=(hmem k).mp c;have:=List.findIdx?_eq_none_iff.mp hi e he;rw[hp]at this;cases this
  have p1:=layNew_perm t es ((intKind prog w).hash k) (.int k tk);have p2:=layNew_fits t es ((intKind prog w).hash k) (.int k tk);have p3:=zqS ht es ((intKind prog w).hash k) (.int k tk);generalize layNew t es ((intKind prog w).hash k) (.int k tk)=L at p1 p2 p3⊢;obtain⟨e1,t1,wd,gv⟩:=L;rw[Array.toList_push]at p1;have m1:ElemsOf (intKind prog w) e1.toList:=(hel.push hkey rfl).perm p1;have m2:∀z,(S z||decide (z=k))=true↔∃e∈e1.toList,(intKind prog w).is z e.2=true:=mem_push_iff hkey hmem p1;have sz:e1.size=n+1:=by rw[<-length_toList,p1.length_eq,length_append,length_toList,hn];rfl
  have m3:e1.size<scanBound:=by rw[sz];exact hr
  have gw:∀(b:Bool){s₁:Shared}{Q':Unit->Shared->Prop},Q' () s₁->wpAny (model prog w) A (match b with|true=>rule "set.scan.the-table-gave-way"|false=>pure ()) Q' E s₁:=fun b s₁ Q' hq=>by cases b<;>first|exact wpAny_pure hq|exact wpAny_rule hq
  refine wpAny_bind (gw _ ?_);have fin:∀h' b,Heap.SameBut a s.heap h'->SetD prog w h' a (fun z=>S z||decide (z=k)) e1.size->Q b {s with heap:=h'}:=fun h' b hs hD=>q h' b hs (by rw[hk];rw[sz]at hD;exact hD);have tail:∀t2:SetTable,t2.fits e1.size=true->TOk (!byT w) t2->wpAny (model prog w) A (do
    storeSet a e1 t2
    if(!wd&&t2.tooFull)=true then do
        (match (relayAll t2 e1 (SetTable.grown e1.size)).2.2 with|true=>rule "set.scan.the-table-gave-way"|false=>pure ())
        storeSet a (relayAll t2 e1 (SetTable.grown e1.size)).1 (relayAll t2 e1 (SetTable.grown e1.size)).2.1
        pure (some true)
     else pure (some true)) (fun r s'=>wpAny (model prog w) A (match r with|some added=>pure added|none=>setAddHashedIn a (.int k tk) ((intKind prog w).hash k) 99999) Q E s') E s:=by
   intro t2 f2 o2;obtain⟨k1,k2⟩:=ziN ho hex hd m1 m2 m3 f2 o2;refine wpAny_bind (wpAny_storeSet_of ho hd ?_ (fits_of_scanBound m3));have sb:=Heap.SameBut.update s.heap a (Obj.putSet e1 t2);split;have r1:=relayAll_perm t2 e1 (SetTable.grown e1.size);have r2:=relayAll_fits t2 e1 (SetTable.grown e1.size);have r3:=zln o2 e1 (SetTable.grown e1.size);generalize relayAll t2 e1 (SetTable.grown e1.size)=L2 at r1 r2 r3⊢;obtain⟨e2,t3,g2⟩:=L2;have z2:e2.size=e1.size:=by rw[<-length_toList,r1.length_eq,length_toList]
   refine wpAny_bind (gw _ (wpAny_bind (wpAny_storeSet_of k1 rfl ?_ (fits_of_scanBound (by rw[z2];exact m3)))));obtain⟨_,k4⟩:=ziN k1 hex rfl (m1.perm r1) (fun z=>(m2 z).trans ⟨fun⟨e,he,qq⟩=>⟨e,r1.mem_iff.mpr he,qq⟩,fun⟨e,he,qq⟩=>⟨e,r1.mem_iff.mp he,qq⟩⟩) (by rw[z2];exact m3) r2 r3;rw[z2]at k4;exact wpAny_pure (wpAny_pure (fin _ _ (sb.trans (Heap.SameBut.update _ a _)) k4));exact wpAny_pure (wpAny_pure (fin _ _ sb k2))
  split;apply wpAny_bind;exact wpAny_pure (tail _ p2 p3);exact wpAny_bind (wpAny_pure (tail _ p2 p3))
end
end R
section
set_option maxHeartbeats 8000000
namespace R
open PySem PySem.Spec PyProof.Rows
section
variable{prog:Program}{w:World}{A:Around}{R:Result->Shared->Prop}{I:Addr}{fp wr:List Addr}{G:Array GenState->Array GenState->Prop}{n:Nat}{P:Nat->Value->Prop}{St:Nat->Shared->Prop}
theorem zqO(W:WalksS prog w A.in1 I fp wr G n P St)(a:Addr)(ha:a∉fp)(val:Nat->Int)(hv:∀i v,P i v->∃t,v=.int (val i) t)(hb:n+1<scanBound) :
  ∀(m i:Nat)(s:Shared),n-i=m->i<=n->St i s->SetD prog w s.heap a (fun z=>(firstMet val i).any (·==z)) (firstMet val i).length->
   (∀s',Moved (a::wr) G s s'->SetD prog w s'.heap a (fun z=>(firstMet val n).any (·==z)) (firstMet val n).length->R (.ok (.ret .none)) s')->
   codeAny (model prog w) A (.builtin "set.update.loop" ⟨[.ref a,.ref I],[]⟩) R s:=by
 have aw:a∉wr:=fun z=>ha (W.sub _ z);have up:∀b∈wr,b∈a::wr:=fun b z=>mem_cons_of_mem _ z;intro m;induction m with
 |zero=>
  intro i s hm hi st hS fin;obtain rfl:i=n:=by omega
  apply codeAny_builtin F.entry_set_update_loop;refine wpAny_bind (W.done s _ _ st fun s' mv=>?_);exact wpAny_pure (fin s' (mv.mono up) (hS.at fun o e=>mv.heap a o aw e))
 |succ m ih=>
  intro i s hm hi st hS fin;apply codeAny_builtin F.entry_set_update_loop;refine wpAny_bind (W.item i s _ _ (by omega) st fun v s' hP st' mv=>?_);obtain⟨t,rfl⟩:=hv i v hP;have hS':=hS.at (h':=s'.heap) fun o e=>mv.heap a o aw e;refine wpAny_bind (wpAny_holding ?_);refine wpAny_holding (wpAny_bind ((intKind prog w).pyHash (intKind_is _ _ _ _) ?_));have room:(firstMet val i).length+1<scanBound:=by have:=firstMet_length_le val i;omega
  refine zsD hS' room fun h' b sb hS2=>?_;have hS3:SetD prog w h' a (fun z=>(firstMet val (i+1)).any (·==z)) (firstMet val (i+1)).length:=hS2.congr (fun z=>by rw[firstMet_succ,step_any]) (by rw[firstMet_succ,step_length]);refine wpAny_pure ⟨plainId_quiet F.plain_set_update_loop _,ih (i+1) _ (by omega) (by omega) (W.frame _ s' _ _ st' (le_succ _) fun b hb o e=>?_) hS3 fun s2 mv2 hS4=>?_⟩;rw[sb.2 b fun z:b=a=>ha (z▸hb)];exact e;refine fin s2 (Moved.trans W.gtrans ((mv.mono up).then_heap (le_succ _) fun b o hb e=>?_) mv2) hS4;rw[sb.2 b fun z:b=a=>hb (by rw[z];exact mem_cons_self)];exact e
end
section
variable{prog:Program}{w:World}{A:Around}{E:Value->Shared->Prop}{s:Shared}
noncomputable abbrev sD0(b:Bool):Obj:={cls:=.type "set",dict:=none,data:=.set #[] 0 (.fresh 0 0 b)}
theorem zsl(a:Value)(h:Q₁ (.ref s.heap.objs.size) {s with heap:=s.heap.push (sD0 (!byT w))}):codeAny (model prog w) A (.call (.builtin "set.__new__") ⟨[.type "set",a],[]⟩) (wants Q₁ E) s:=by
 refine codeAny_of_tree ?_;refine wpAny_bind (wpAny_of_eq (F.newCall_set_1 a) (wpAny_pure ⟨plainId_quiet F.plain_set_new _,codeAny_builtin F.entry_set_new ?_⟩));have q:=sub_set_self
 wp_walk
 refine wpAny_askSetting (wpAny_pure ?_);exact wpAny_bind (wpAny_alloc (wpAny_pure (wpAny_pure h)))
theorem ziQ{l:Addr}{its:Array Value}{ms:List Int}{Q:Value->Shared->Prop}(hc:A.handled=none)(hl:s.heap.IsList l its)(hi:IntsAre its.toList ms)(hb:its.size+1<scanBound)
  (fin:∀(g:Heap)(tk:Nat),SetD prog w g s.heap.objs.size (fun z=>(firstMet (fun i=>ms.getD i 0) its.size).any (·==z)) (firstMet (fun i=>ms.getD i 0) its.size).length->
   (∀b o,b<s.heap.objs.size->s.heap.get? b=some o->g.get? b=some o)->Q (.ref s.heap.objs.size) {s with heap:=g,toks:=tk}):wpAny (model prog w) A (call (.type "set") [.ref l]) Q E s:=by
 obtain⟨mc,mt,hmro⟩:=F.called_set.mro;have c1:=F.called_set.made;have c2:=F.called_set.sub;refine wpAny_call (codeAny_of_tree ?_);show wpAny _ _ (callAny (.type "set") _) _ _ _;refine wpAny_pure ⟨Code.quiet_builtin _ (by decide +kernel),codeAny_builtin F.entry_type_call ?_⟩;rw[Around.under_plain (weight_type_call_type "set" [.ref l] []) rfl];have c3:=F.called_set.notType;have c4:=F.called_set.canCreate;have c5:=F.typeCall_set_1 (.ref l)
 repeat (any_goals (first|assumption|wp_step))
 refine codeAny_mono (zsl (.ref l) (E:=E) (Q₁:=fun o z=>o=.ref s.heap.objs.size/\z={s with heap:=s.heap.push (sD0 (!byT w))}) ⟨rfl,rfl⟩) fun r z hr=>?_;cases r with
 |error e=>exact hr| ok fl=>
  cases fl with
  |ret o=>
   obtain⟨rfl,rfl⟩:=hr;have g0:(s.heap.push (sD0 (!byT w))).get? s.heap.objs.size=some (sD0 (!byT w)):=Heap.get?_push_size _ rfl;have g1:Shared.TypeIs {s with heap:=s.heap.push (sD0 (!byT w))} (.ref s.heap.objs.size) "set":=⟨_,g0,rfl⟩;have c6:=F.called_set.init.lookup;have c7:=F.called_set.init.bind (.ref s.heap.objs.size)
   repeat (any_goals (first|assumption|wp_step))
   refine codeAny_mono (codeAny_call_builtin (R:=wants (fun r z=>r=.none/\∃g tk,z={s with heap:=g,toks:=tk}/\
    SetD prog w g s.heap.objs.size (fun z=>(firstMet (fun i=>ms.getD i 0) its.size).any (·==z)) (firstMet (fun i=>ms.getD i 0) its.size).length/\
    (∀b o,b<s.heap.objs.size->s.heap.get? b=some o->g.get? b=some o)) E) F.called_set.init.plain F.entry_set_init (check_set_init_1 g1 ?_)) fun r2 z2 hr2=>?_
   . obtain⟨⟨oc,od,oda,osl⟩,ho,hcl,nl,hda⟩:=id hl;simp only at hcl hda;subst hcl hda;have ho':(s.heap.push (sD0 (!byT w))).get? l=some {cls:=.type "list",dict:=od,data:=.seq its nl,slots:=osl}:=Heap.get?_push_of_some _ ho;have d1:=F.sub_list_set;have d2:=F.sub_list_frozenset;have d3:(Value.type "list" == Value.type "dict")=false:=by decide
     have ht1:(s.heap.push (sD0 (!byT w))).IsList l its:=⟨_,ho',rfl,nl,rfl⟩;unfold Builtin.«set.__init__» noKeywords Builtin.Frozenset.updateFrom;generalize hPI:pyIter=PI
     wp_walk
     subst hPI;refine wpAny_pyIter_list ht1 ?_;refine wpAny_bind (wpAny_runValue ?_);have tl:l<s.heap.objs.size:=Heap.lt_size ho;have tn:l≠(s.heap.push (sD0 (!byT w))).objs.size:=by rw[Heap.size_push];exact ne_of_lt (lt_succ_of_lt tl)
     have sn:s.heap.objs.size∉[(s.heap.push (sD0 (!byT w))).objs.size,l]:=by rw[Heap.size_push];simp only[mem_cons,not_mem_nil,or_false,not_or];exact⟨ne_of_lt (lt_succ_self _),ne_of_gt tl⟩
     refine zqO ((Walks.list (by simp[hc]) _ l tn its).toS) s.heap.objs.size sn (fun i=>ms.getD i 0) (fun i v hv=>IntsAre.int_at hi i v (by rw[Array.getElem?_toList];exact hv)) hb (its.size-0) 0 _ (by omega) (zero_le _)
      ⟨⟨_,Heap.get?_push_size _ rfl,rfl,rfl⟩,ht1.push _⟩ ?start ?last
     case start=>exact⟨_,#[],0,_,Heap.get?_push_of_some _ g0,⟨rfl,rfl,rfl⟩,rfl,fun e he=>by simp at he,fun k=>by simp[firstMet],by decide,by rfl,rfl,rfl,Pairwise.nil⟩
     case last=>rintro⟨g,gg,dd,tk,oo⟩ mv hS;obtain rfl:gg=s.gens:=mv.gens;obtain rfl:dd=s.drawn:=mv.drawn;obtain rfl:oo=s.os:=mv.os;show wpAny _ _ _ _ _ _;refine wpAny_pure ?_;show wpAny _ _ (ret Value.none) _ _ _;refine wpAny_pure ⟨rfl,g,tk,rfl,hS,fun b o hb e=>mv.heap b o ?_ (Heap.get?_push_of_some _ (Heap.get?_push_of_some _ e))⟩;rw[Heap.size_push];simp only[mem_cons,not_mem_nil,or_false,not_or];exact⟨ne_of_lt hb,ne_of_lt (lt_succ_of_lt hb)⟩
   cases r2 with
   |error e=>exact hr2| ok f2=>
    cases f2 with
    |ret r=>
     obtain⟨rfl,g,tk,rfl,hS,hk⟩:=hr2
     repeat (any_goals (first|assumption|wp_step))
     exact fin _ _ hS hk
    |_=>exact hr2.elim
  |_=>exact hr.elim
end
end R
end
namespace R
open PySem PySem.Spec PyProof.Rows
theorem zfL:entryFor table "set.__iter__"=some Builtin.«frozenset.__iter__»:=entryFor_alias (id':="frozenset.__iter__") (by kernel_rfl) rfl (by decide +kernel) (by kernel_rfl)
theorem slot_sit_next:Slot "set_iterator" "__next__" "set_iterator.__next__":=.of (owner:="set_iterator") (n:="__next__") (by rw[typeLookup_type,builtinLookup_eq_fast];kernel_rfl) (by decide +kernel) (by decide +kernel) (by decide +kernel) (by first|exact .inl (by decide +kernel)|exact .inr (by decide +kernel)) (by rw[isSubtype_type];kernel_rfl)
theorem zbR:entryFor table "set_iterator.__next__"=some Builtin.«set_iterator.__next__»:=entryFor_of_fast (by kernel_rfl)
theorem zby(a:Value):argsOk "set_iterator.__next__" ⟨[a],[]⟩:=by unfold argsOk;kernel_rfl
theorem zaK:Slot "set_iterator" "__iter__" "set_iterator.__iter__":=.of (owner:="set_iterator") (n:="__iter__") (by rw[typeLookup_type,builtinLookup_eq_fast];kernel_rfl) (by decide +kernel) (by decide +kernel) (by decide +kernel) (by first|exact .inl (by decide +kernel)|exact .inr (by decide +kernel)) (by rw[isSubtype_type];kernel_rfl)
theorem zbS:entryFor table "set_iterator.__iter__"=some Builtin.«dict_keyiterator.__iter__»:=entryFor_alias (id':="dict_keyiterator.__iter__") (by kernel_rfl) rfl (by decide +kernel) (by kernel_rfl)
theorem zbz(a:Value):argsOk "set_iterator.__iter__" ⟨[a],[]⟩:=by unfold argsOk;kernel_rfl
section
variable{prog:Program}{w:World}{A:Around}{E:Value->Shared->Prop}{s:Shared}{a j:Addr}{o:Obj}{es:Array (Int×Value)}{ep:Nat}{t:SetTable}
theorem zig(hn:n≠0)(h:∀i d',i<n->wpAny M A (k i) Q E {s with drawn:=d'}):wpAny M A (.choose src n k) Q E s:=fun Γ p hΓ=>by exact⟨hn,h _ _ (Nat.mod_lt _ (Nat.pos_of_ne_zero hn)) Γ p hΓ⟩
theorem zcN{α:Type}:∀(l:List α)(j:Nat)(h:j<l.length),(l[j]::l.eraseIdx j).Perm l
 |x::l,0,h=>List.Perm.refl _| x::l,j+1,h=>by
  have hj:j<l.length:=by simpa using h
  have ih:=zcN l j hj;exact(List.Perm.swap _ _ _).trans (ih.cons x)
theorem zhs:∀(n:Nat)(xs:List α){s:Shared}{Q:List α->Shared->Prop},xs.length=n->(∀ys d',ys.Perm xs->Q ys {s with drawn:=d'})->wpAny (model prog w) A (drawOrder n xs) Q E s
 |0,xs,s,Q,hl,h=>by cases length_eq_zero_iff.mp hl;exact wpAny_pure (h [] s.drawn (List.Perm.refl _))|n+1,[],s,Q,hl,h=>by cases hl| n+1,x::xs,s,Q,hl,h=>by refine wpAny_bind (zig (by simp) fun i d' hi=>wpAny_pure ?_);rw[List.getElem?_eq_getElem hi];refine wpAny_bind (zhs n _ (by rw[List.length_eraseIdx_of_lt hi];simp at hl⊢;exact hl) fun ys d2 hp=>wpAny_pure (h _ d2 ?_));exact(hp.cons _).trans (zcN _ _ hi)
theorem zjj(f:Nat->Nat):∀(n k:Nat)(left:List α)(out:Array α),left.length=n->(pickOrder.go f n k left out).toList.Perm (out.toList++left)
 |0,k,left,out,hl=>by cases length_eq_zero_iff.mp hl;unfold pickOrder.go;rw[append_nil]| n+1,k,left,out,hl=>by unfold pickOrder.go;have hi:f k%left.length<left.length:=Nat.mod_lt _ (by omega);rw[List.getElem?_eq_getElem hi];apply(zjj f n (k+1) _ _ (by rw[List.length_eraseIdx_of_lt hi];omega)).trans;rw[Array.toList_push,append_assoc];exact List.Perm.append_left _ (zcN _ _ hi)
theorem zji(f:Nat->Nat)(xs:Array α):(pickOrder f xs).toList.Perm xs.toList:=by have:=zjj f xs.size 0 xs.toList #[] (by simp);simpa[pickOrder]using this
def SIt(h:Heap)(j a:Addr)(f:Value)(i n ep:Nat):Prop:=h.get? j=some {cls:=.type "set_iterator",dict:=none,data:=.fields #[f,rawInt i,.ref a,rawInt n,rawInt ep],slots:=#[]}
theorem zgT{f f' i:Nat}(ht:SIt s.heap j a (rawInt f) i es.size ep)(ho:s.heap.get? a=some o)(hd:o.data=.set es ep t)(hf:t.fits es.size=true)
  (hx:∀(A:Around)(E:Value->Shared->Prop)(Q':Option (Value×Nat)->Shared->Prop),Q' (some (x,f')) s->wpAny (model prog w) A (setNext a f i ep) Q' E s)
  (q:∀h',SIt h' j a (rawInt f') (i+1) es.size ep->Heap.SameBut j s.heap h'->Q (some x) {s with heap:=h'}):wpAny (model prog w) A (pyNext (.ref j)) Q E s:=by
 have ty:s.TypeIs (.ref j) "set_iterator":=⟨_,ht,rfl⟩;refine wpAny_bind (wpAny_attempt (wpAny_callSpecial?_slot ty slot_sit_next (wpAny_call_entry slot_sit_next ty zbR ?_ (zby _))));refine wpAny_bind (wpAny_pure ?_);refine wpAny_bind (wpAny_fieldsOf ht rfl ?_);refine wpAny_bind (wpAny_setEntries_of ho hd hf ?_);rw[if_neg (by simp)];refine wpAny_bind (hx _ _ _ ?_);refine wpAny_bind (wpAny_setField_rec ht (by simp) fun h1 g1 s1=>?_);refine wpAny_bind (wpAny_setField_rec g1 (by simp) fun h2 g2 s2=>?_);exact wpAny_pure ⟨_,rfl,wpAny_pure (q h2 g2 (s1.trans s2))⟩
theorem ziP(hh:A.handled=none)(ht:SIt s.heap j a f i es.size ep)(ho:s.heap.get? a=some o)(hd:o.data=.set es ep t)(hf:t.fits es.size=true)
  (hx:∀(A:Around)(E:Value->Shared->Prop)(Q':Fin->Shared->Prop),A.handled=none->(∀h' e,Heap.ExtBut j s.heap h'->(∃oe,h'.get? e=some oe/\oe.cls=.type "StopIteration")->E (.ref e) {s with heap:=h'})->wpAny (model prog w) A (Builtin.«set_iterator.__next__» ⟨[.ref j],[]⟩) Q' E s)
  (q:∀h',Heap.ExtBut j s.heap h'->Q none {s with heap:=h'}):wpAny (model prog w) A (pyNext (.ref j)) Q E s:=by
 have ty:s.TypeIs (.ref j) "set_iterator":=⟨_,ht,rfl⟩;refine wpAny_bind (wpAny_attempt (wpAny_callSpecial?_slot ty slot_sit_next (wpAny_call_entry slot_sit_next ty zbR ?_ (zby _))));refine hx _ _ _ hh fun h' e k ⟨oe,he,hc⟩=>?_;refine wpAny_bind (wpAny_isInstance ⟨oe,he,hc⟩ isSubtype_stop ?_);exact wpAny_pure (q h' k)
theorem zd2(hh:A.handled=none)(k0:Heap.ExtBut j s.heap s'.heap)(es':s'={s with heap:=s'.heap})
  (h:∀h' e,Heap.ExtBut j s.heap h'->(∃oe,h'.get? e=some oe/\oe.cls=.type "StopIteration")->E (.ref e) {s with heap:=h'}) :
  wpAny (model prog w) A (do raiseNew (<-newExc (.type "StopIteration") []):Sem Fin) Q' E s':=by
 rw[es'];apply wpAny_bind;refine wpAny_bind (m:=firstArgMember _ _) (wpAny_of_eq (by first|rfl|(simp only;rfl)) (wpAny_newObj_type ?_ (by size_fits)));refine wpAny_bind (wpAny_handled ?_);rw[hh];exact wpAny_bind (wpAny_pure (wpAny_throw (h _ _ ((k0.push _).push _) ⟨_,Heap.get?_push_size _ rfl,rfl⟩)))
theorem zgU{f i:Nat}(hh:A.handled=none)(ht:SIt s.heap j a (rawInt f) i es.size ep)(ho:s.heap.get? a=some o)(hd:o.data=.set es ep t)(hf:t.fits es.size=true)
  (hx:∀(A:Around)(E:Value->Shared->Prop)(Q':Option (Value×Nat)->Shared->Prop),Q' none s->wpAny (model prog w) A (setNext a f i ep) Q' E s)
  (q:∀h',Heap.ExtBut j s.heap h'->Q none {s with heap:=h'}):wpAny (model prog w) A (pyNext (.ref j)) Q E s:=by
 refine ziP hh ht ho hd hf (fun A E Q' hA hE=>?_) q;refine wpAny_bind (wpAny_pure ?_);refine wpAny_bind (wpAny_fieldsOf ht rfl ?_);refine wpAny_bind (wpAny_setEntries_of ho hd hf ?_);rw[if_neg (by simp)];refine wpAny_bind (hx _ _ _ ?_);refine wpAny_bind (wpAny_setField_rec ht (by simp) fun h1 g1 s1=>?_);exact zd2 (s':={s with heap:=h1}) hA s1.extBut rfl hE
def PTg(h:Heap)(tp:Addr)(ps:List Nat):Prop:=h.get? tp=some {cls:=.type "tuple",data:=.seq (ps.map fun(p:Nat)=>rawInt p).toArray}
theorem ziO(ht:SIt s.heap j a (.ref tp) i es.size ep)(ho:s.heap.get? a=some o)(hd:o.data=.set es ep t)(hf:t.fits es.size=true)
  (hp:PTg s.heap tp ps) (hi:ps[i]?=some p) (hx:es[p]?=some (hs,x))
  (q:∀h',SIt h' j a (.ref tp) (i+1) es.size ep->Heap.SameBut j s.heap h'->Q (some x) {s with heap:=h'}):wpAny (model prog w) A (pyNext (.ref j)) Q E s:=by
 have ty:s.TypeIs (.ref j) "set_iterator":=⟨_,ht,rfl⟩;refine wpAny_bind (wpAny_attempt (wpAny_callSpecial?_slot ty slot_sit_next (wpAny_call_entry slot_sit_next ty zbR ?_ (zby _))));refine wpAny_bind (wpAny_pure ?_);refine wpAny_bind (wpAny_fieldsOf ht rfl ?_);refine wpAny_bind (wpAny_setEntries_of ho hd hf ?_);rw[if_neg (by simp)];refine wpAny_bind (wpAny_seqItems hp rfl ?_);have e1:(ps.map fun(p:Nat)=>rawInt p).toArray[i]?=some (rawInt p):=by simp[hi]
 show wpAny _ _ (match (ps.map fun(p:Nat)=>rawInt p).toArray[i]? with|some (.int place _)=>_|some _=>_|none=>_) _ _ s;rw[e1];show wpAny _ _ (setNextDrawn a p ep>>=_) _ _ s;refine wpAny_bind (wpAny_bind (wpAny_setState_of ho hd hf ?_));dsimp only;rw[if_neg (by simp),hx];apply wpAny_pure;refine wpAny_bind (wpAny_setField_rec ht (by simp) fun h1 g1 s1=>?_);exact wpAny_pure ⟨_,rfl,wpAny_pure (q h1 g1 s1)⟩
theorem zk4(hh:A.handled=none)(ht:SIt s.heap j a (.ref tp) i es.size ep)(ho:s.heap.get? a=some o)(hd:o.data=.set es ep t)(hf:t.fits es.size=true)
  (hp:PTg s.heap tp ps) (hi:ps.length<=i) (q:∀h',Heap.ExtBut j s.heap h'->Q none {s with heap:=h'}):wpAny (model prog w) A (pyNext (.ref j)) Q E s:=by
 refine ziP hh ht ho hd hf (fun A E Q' hA hE=>?_) q;refine wpAny_bind (wpAny_pure ?_);refine wpAny_bind (wpAny_fieldsOf ht rfl ?_);refine wpAny_bind (wpAny_setEntries_of ho hd hf ?_);rw[if_neg (by simp)];refine wpAny_bind (wpAny_seqItems hp rfl ?_);have e1:(ps.map fun(p:Nat)=>rawInt p).toArray[i]?=none:=by simp;exact hi
 show wpAny _ _ (match (ps.map fun(p:Nat)=>rawInt p).toArray[i]? with|some (.int place _)=>_|some _=>_|none=>_) _ _ s;rw[e1];refine wpAny_bind (wpAny_setField_rec ht (by simp) fun h1 g1 s1=>?_);refine wpAny_bind (wpAny_setField_rec g1 (by simp) fun h2 g2 s2=>?_);exact zd2 (s':={s with heap:=h2}) hA (s1.trans s2).extBut rfl hE
theorem zmF(hb:byT w=true)(ho:s.heap.get? a=some o)(hd:o.data=.set es ep t)(hf:t.fits es.size=true)
  (q:Q ((pickOrder (w.params.setOrder a ep) es)[i]?.map fun e=>(e.2,f)) s):wpAny (model prog w) A (setNext a f i ep) Q E s:=by
 refine wpAny_bind (wpAny_setState_of ho hd hf ?_);refine wpAny_bind (wpAny_bind (wpAny_askSetting (wpAny_pure ?_)));rw[if_pos (show(model prog w).w.params.followText "set-order"=true from hb)];rw[if_neg (by simp)];refine wpAny_bind (wpAny_bind (wpAny_setState_of ho hd hf ?_));refine wpAny_bind (wpAny_bind (wpAny_askSetting (wpAny_pure ?_)));rw[if_pos (show(model prog w).w.params.followText "set-order"=true from hb)];exact wpAny_bind (wpAny_askSetting (wpAny_pure (wpAny_pure q)))
theorem zmG(hb:byT w=false)(ho:s.heap.get? a=some o)(hd:o.data=.set es ep t)(hf:t.fits es.size=true)(hl:t.led=true)(hp:(!t.plain&&decide (es.size>1))=false)
  (q:Q (match es[SetTable.below t.place f]?,t.place[SetTable.below t.place f]? with|some (_,x),some j=>some (x,j+1)|_,_=>none) s):wpAny (model prog w) A (setNext a f i ep) Q E s:=by
 refine wpAny_bind (wpAny_setState_of ho hd hf ?_);refine wpAny_bind (wpAny_bind (wpAny_askSetting (wpAny_pure ?_)));rw[if_neg (show ¬(model prog w).w.params.followText "set-order"=true by rw[show(model prog w).w.params.followText "set-order"=byT w from rfl,hb];decide)];show wpAny _ _ (if(!t.plain&&decide (es.size>1))=true then _ else _) _ _ s;rw[if_neg (by rw[hp];decide)];show wpAny _ _ ((if(!t.led&&!es.isEmpty)=true then unsupported "set:maker-not-led" else pure ())>>=_) _ _ s;rw[if_neg (by rw[hl];simp)];exact wpAny_bind (wpAny_pure (wpAny_pure q))
abbrev YP(vals:List Value):Nat->Value->Prop:=fun i v=>vals[i]?=some v
theorem zo8(hh:A.handled=none)(hne:a≠j)(hb:byT w=true)(hd:o.data=.set es ep t)(hf:t.fits es.size=true) :
  Walks prog w A j [j,a] [j] ((pickOrder (w.params.setOrder a ep) es).toList.map (·.2)).length (YP ((pickOrder (w.params.setOrder a ep) es).toList.map (·.2))) (fun i h=>SIt h j a (rawInt 0) i es.size ep/\h.get? a=some o) where
 sub:=fun b hb=>by simp at hb;simp[hb]
 frame:=fun _ _ _ st hk=>⟨hk j (by simp) _ st.1,hk a (by simp) _ st.2⟩
 item:=fun i s Q E hi st hQ=>by
  have hi':i<(pickOrder (w.params.setOrder a ep) es).size:=by simpa using hi
  refine zgT (f':=0) st.1 st.2 hd hf (fun A E Q' q=>zmF hb st.2 hd hf (by rw[Array.getElem?_eq_getElem hi'];exact q)) fun h' g sb=>?_;exact hQ _ h' s.toks (by simp[YP,hi']) ⟨g,sb.extBut a _ hne st.2⟩ fun b o hb e=>sb.extBut b o (fun z=>hb (by simp[z])) e
 done:=fun s Q E st hQ=>by
  have hi':(pickOrder (w.params.setOrder a ep) es).size<=((pickOrder (w.params.setOrder a ep) es).toList.map (·.2)).length:=by simp
  exact zgU hh st.1 st.2 hd hf (fun A E Q' q=>zmF hb st.2 hd hf (by rw[Array.getElem?_eq_none hi'];exact q)) fun h' k=>hQ h' s.toks fun b o hb e=>k b o (fun z=>hb (by simp[z])) e
 self:=fun i s Q E st hQ=>by have ty:s.TypeIs (.ref j) "set_iterator":=⟨_,st.1,rfl⟩;refine wpAny_pyIter_slot ty zaK (wpAny_call_entry zaK ty zbS ?_ (zbz _));exact wpAny_pure ⟨_,rfl,"set_iterator",_,ty,slot_sit_next.lookup,hQ⟩
noncomputable def zgS(t:SetTable):Nat->Nat
 |0=>0|i+1=>t.place.getD i 0+1
theorem zd3(h:Rise t.place)(hi:i<=t.place.size):SetTable.below t.place (zgS t i)=i:=by
 cases i with
 |zero=>exact zis h| succ i=>
  have hi':i<t.place.size:=by omega
  show SetTable.below t.place (t.place.getD i 0+1)=_;rw[show t.place.getD i 0=t.place[i] by simp[hi']];exact zit h hi'
theorem zo9(hh:A.handled=none)(hne:a≠j)(hb:byT w=false)(hd:o.data=.set es ep t)(hf:t.fits es.size=true)(ht:TOk (!byT w) t)(hp:(!t.plain&&decide (es.size>1))=false) :
  Walks prog w A j [j,a] [j] (es.toList.map (·.2)).length (YP (es.toList.map (·.2))) (fun i h=>i<=es.size/\SIt h j a (rawInt (zgS t i)) i es.size ep/\h.get? a=some o) where
 sub:=fun b hb=>by simp at hb;simp[hb]
 frame:=fun _ _ _ st hk=>⟨st.1,hk j (by simp) _ st.2.1,hk a (by simp) _ st.2.2⟩
 item:=fun i s Q E hi st hQ=>by
  have hi':i<es.size:=by simpa using hi
  have hz:t.place.size=es.size:=by simp[SetTable.fits,and_eq_true,beq_iff_eq]at hf;exact hf.1
  have hl:t.led=true:=by rw[ht.led,hb];rfl
  have hpl:t.place[i]?=some t.place[i]:=Array.getElem?_eq_getElem (by omega);refine zgT (x:=es[i].2) (f':=zgS t (i+1)) st.2.1 st.2.2 hd hf (fun A E Q' q=>zmG hb st.2.2 hd hf hl hp ?_) fun h' g sb=>?_;rw[zd3 ht.rise (by omega),Array.getElem?_eq_getElem hi',hpl];have:zgS t (i+1)=t.place[i]+1:=by show t.place.getD i 0+1=_;simp[show i<t.place.size by omega]
  rw[this]at q;exact q;exact hQ _ h' s.toks (by simp[YP,hi']) ⟨hi',g,sb.extBut a _ hne st.2.2⟩ fun b o hb e=>sb.extBut b o (fun z=>hb (by simp[z])) e
 done:=fun s Q E st hQ=>by
  have hz:t.place.size=es.size:=by simp[SetTable.fits,and_eq_true,beq_iff_eq]at hf;exact hf.1
  have hl:t.led=true:=by rw[ht.led,hb];rfl
  have hn:(es.toList.map (·.2)).length=es.size:=by simp
  rw[hn]at st;refine zgU hh st.2.1 st.2.2 hd hf (fun A E Q' q=>zmG hb st.2.2 hd hf hl hp ?_) fun h' k=>hQ h' s.toks fun b o hb e=>k b o (fun z=>hb (by simp[z])) e;rw[zd3 ht.rise (by omega),Array.getElem?_eq_none (le_refl _)];exact q
 self:=fun i s Q E st hQ=>by have ty:s.TypeIs (.ref j) "set_iterator":=⟨_,st.2.1,rfl⟩;refine wpAny_pyIter_slot ty zaK (wpAny_call_entry zaK ty zbS ?_ (zbz _));exact wpAny_pure ⟨_,rfl,"set_iterator",_,ty,slot_sit_next.lookup,hQ⟩
noncomputable def zh2(es:Array (Int×Value))(ps:List Nat):List Value:=ps.map fun p=>(es.getD p (0,.none)).2
theorem zpa(hh:A.handled=none)(hne:a≠j)(hnt:tp≠j)(hd:o.data=.set es ep t)(hf:t.fits es.size=true)(hp:∀p∈ps,p<es.size) :
  Walks prog w A j [j,a,tp] [j] (zh2 es ps).length (YP (zh2 es ps)) (fun i h=>SIt h j a (.ref tp) i es.size ep/\h.get? a=some o/\PTg h tp ps) where
 sub:=fun b hb=>by simp at hb;simp[hb]
 frame:=fun _ _ _ st hk=>⟨hk j (by simp) _ st.1,hk a (by simp) _ st.2.1,hk tp (by simp) _ st.2.2⟩
 item:=fun i s Q E hi st hQ=>by
  have hi':i<ps.length:=by simpa[zh2]using hi
  have hpi:ps[i]<es.size:=hp _ (List.getElem_mem hi');refine ziO st.1 st.2.1 hd hf st.2.2 (List.getElem?_eq_getElem hi') (Array.getElem?_eq_getElem hpi) fun h' g sb=>?_;exact hQ _ h' s.toks (by simp[YP,zh2,hi',hpi]) ⟨g,sb.extBut a _ hne st.2.1,sb.extBut tp _ hnt st.2.2⟩ fun b o hb e=>sb.extBut b o (fun z=>hb (by simp[z])) e
 done:=fun s Q E st hQ=>zk4 hh st.1 st.2.1 hd hf st.2.2 (by simp[zh2]) fun h' k=>hQ h' s.toks fun b o hb e=>k b o (fun z=>hb (by simp[z])) e
 self:=fun i s Q E st hQ=>by have ty:s.TypeIs (.ref j) "set_iterator":=⟨_,st.1,rfl⟩;refine wpAny_pyIter_slot ty zaK (wpAny_call_entry zaK ty zbS ?_ (zbz _));exact wpAny_pure ⟨_,rfl,"set_iterator",_,ty,slot_sit_next.lookup,hQ⟩
theorem zlz(es:Array (Int×Value))(h:ps.Perm (List.range es.size)):(zh2 es ps).Perm (es.toList.map (·.2)):=by refine(h.map _).trans (List.Perm.of_eq ?_);apply ext_getElem?;intro i;by_cases c:i<es.size;simp[c];simp[c]
end
section
variable{prog:Program}{w:World}{A:Around}{E:Value->Shared->Prop}{s:Shared}{a:Addr}{o:Obj}{es:Array (Int×Value)}{ep:Nat}{t:SetTable}
structure Got(prog:Program)(w:World)(h0 h':Heap)(a:Addr)(vals:List Value)(I:Addr)(fp:List Addr)(St:Nat->Heap->Prop):Prop where
 wk:∀A:Around,A.handled=none->Walks prog w A I fp [I] vals.length (YP vals) St
 st:St 0 h'
 old:∀b o,h0.get? b=some o->h'.get? b=some o
 new:h0.objs.size<=I
 lt:I<h'.objs.size
 fp:∀b∈fp,b=a\/(h0.objs.size<=b/\b<h'.objs.size)
theorem zk6(ho:s.heap.get? a=some o)(hex:o.ExactSet)(hd:o.data=.set es ep t)(hf:t.fits es.size=true)(ht:TOk (!byT w) t)(hz:es.size<scanBound)
  (q:∀(h':Heap)(d':Drawn)(I:Addr)(fp:List Addr)(St:Nat->Heap->Prop)(vals:List Value),vals.Perm (es.toList.map (·.2))->Got prog w s.heap h' a vals I fp St->Q (.ref I) {s with heap:=h',drawn:=d'}) :
  wpAny (model prog w) A (pyIter (.ref a)) Q E s:=by
 have ty:s.TypeIs (.ref a) "set":=⟨_,ho,hex.1⟩;have al:=Heap.lt_size ho;refine wpAny_pyIter_slot ty F.slot_set_iter (wpAny_call_entry F.slot_set_iter ty zfL ?_ (F.args_set_iter_1 _));refine wpAny_bind (wpAny_pure ?_);refine wpAny_bind (wpAny_bind (wpAny_setEntries_of ho hd hf (wpAny_pure ?_)));refine wpAny_bind (wpAny_bind (wpAny_setState_of ho hd hf ?_));refine wpAny_bind (wpAny_bind (wpAny_askSetting (wpAny_pure (wpAny_pure ?_))));show wpAny _ _ (if(!byT w&&(!t.plain&&decide (es.size>1)))=true then _ else _) _ _ s;have mk:∀(h1:Heap)(d':Drawn)(fst:Value),(∀b o,s.heap.get? b=some o->h1.get? b=some o)->s.heap.objs.size<=h1.objs.size->
   (∀h',h'.objs.size=h1.objs.size+1->(∀b o,h1.get? b=some o->h'.get? b=some o)->SIt h' h1.objs.size a fst 0 es.size ep->∃fp St vals,vals.Perm (es.toList.map (·.2))/\Got prog w s.heap h' a vals h1.objs.size fp St)->
   wpAny (model prog w) A.in1 (do ret (<-newFields "set_iterator" [fst,rawInt 0,.ref a,rawInt es.size,rawInt (<-setEpoch a)])) (fun fin s'=>∃v,fin=.done (.ret v)/\∃T id,s'.TypeIs v T/\typeLookup (.type T) "__next__"=pure (some id)/\Q v s') E {s with heap:=h1,drawn:=d'}:=by
  intro h1 d' fst hk hz1 hG;refine wpAny_bind (wpAny_setEpoch_of (hk _ _ ho) hd hf ?_);refine wpAny_bind (wpAny_newObj_type (wpAny_pure ⟨_,rfl,"set_iterator",_,⟨_,Heap.get?_push_size _ rfl,rfl⟩,slot_sit_next.lookup,?_⟩));obtain⟨fp,St,vals,hp,hG⟩:=hG (h1.push {cls:=.type "set_iterator",data:=.fields #[fst,rawInt 0,.ref a,rawInt es.size,rawInt ep]}) (Heap.size_push ..) (fun b o e=>Heap.get?_push_of_some _ e) (Heap.get?_push_size _ rfl);exact q _ d' _ fp St vals hp hG
 by_cases hb:byT w=true;rw[if_neg (by rw[hb];simp)];refine mk s.heap s.drawn (rawInt 0) (fun b o e=>e) (le_refl _) fun h' hsz hk hit=>⟨[s.heap.objs.size,a],_,_,(zji _ es).map _,⟨fun A hA=>zo8 hA (ne_of_lt al) hb hd hf,⟨hit,hk _ _ ho⟩,hk,le_refl _,by rw[hsz];exact lt_succ_self _,fun b hb=>?_⟩⟩;simp at hb;rcases hb with z|z;exact .inr ⟨le_of_eq z.symm,by rw[z,hsz];exact lt_succ_self _⟩;exact .inl z;have hb:byT w=false:=by simpa using hb
 by_cases hp:(!t.plain&&decide (es.size>1))=true;rw[if_pos (by rw[hb,hp];rfl)];refine wpAny_bind (zhs es.size (List.range es.size) (by simp) fun ys d' hperm=>?_);have hys:ys.length<=sizeLine:=by rw[hperm.length_eq,length_range];exact fits_of_scanBound hz
 refine wpAny_bind (wpAny_newObj_type ?_ (by show(List.map (fun(i:Nat)=>rawInt i) ys).toArray.size<=sizeLine;simpa using hys));have hps:∀p∈ys,p<es.size:=fun p hp=>mem_range.mp (hperm.mem_iff.mp hp);refine mk (s.heap.push {cls:=.type "tuple",data:=.seq (ys.map fun(i:Nat)=>rawInt i).toArray}) d' (.ref s.heap.objs.size) (fun b o e=>Heap.get?_push_of_some _ e) (by rw[Heap.size_push];omega) fun h' hsz hk hit=>?_;have z1:(s.heap.push {cls:=.type "tuple",data:=.seq (ys.map fun(i:Nat)=>rawInt i).toArray}).objs.size=s.heap.objs.size+1:=Heap.size_push ..;rw[z1]at hit hsz⊢;refine⟨[s.heap.objs.size+1,a,s.heap.objs.size],_,_,zlz es hperm,⟨fun A hA=>zpa hA (ne_of_lt (lt_succ_of_lt al)) (ne_of_lt (lt_succ_self _)) hd hf hps,⟨hit,hk _ _ (Heap.get?_push_of_some _ ho),hk _ _ (Heap.get?_push_size _ rfl)⟩,fun b o e=>hk _ _ (Heap.get?_push_of_some _ e),le_succ _,by rw[hsz];exact lt_succ_self _,fun b hb=>?_⟩⟩;simp at hb;rcases hb with z|z|z;exact .inr ⟨by rw[z];exact le_succ _,by rw[z,hsz];exact lt_succ_self _⟩;exact .inl z;exact .inr ⟨le_of_eq z.symm,by rw[z,hsz];exact lt_succ_of_lt (lt_succ_self _)⟩;have hp:(!t.plain&&decide (es.size>1))=false:=by simpa using hp
 rw[if_neg (by rw[hp];simp)];refine mk s.heap s.drawn (rawInt 0) (fun b o e=>e) (le_refl _) fun h' hsz hk hit=>⟨[s.heap.objs.size,a],_,_,List.Perm.refl _,⟨fun A hA=>zo9 hA (ne_of_lt al) hb hd hf ht hp,⟨zero_le _,hit,hk _ _ ho⟩,hk,le_refl _,by rw[hsz];exact lt_succ_self _,fun b hb=>?_⟩⟩;simp at hb;rcases hb with z|z;exact .inr ⟨le_of_eq z.symm,by rw[z,hsz];exact lt_succ_self _⟩;exact .inl z
theorem zk7(ty:s.TypeIs (.ref a) "set")(h:Q false s):wpAny (model prog w) A (Builtin.List.listLengthHint (.ref a)) Q E s:=by refine wpAny_bind (wpAny_specialOf ty F.slot_set_len.lookup ?_);generalize hid:("set.__len__":String)=id0;subst hid;refine wpAny_bind (wpAny_isInstance (b:=true) ty (by rw[isSubtype_type];kernel_rfl) ?_);refine wpAny_bind (wpAny_typeOf ty ?_);exact wpAny_pure h
theorem zhP(hh:A.handled=none)(ho:s.heap.get? a=some o)(hex:o.ExactSet)(hd:o.data=.set es ep t)(hf:t.fits es.size=true)(ht:TOk (!byT w) t)(hz:es.size<scanBound)
  (S:Addr) (hSa:S≠a) (res:Value) (c₀:Nat) (hS:s.heap.get? S=some {cls:=.type "list",data:=.seq #[] c₀})
  (hR:∀h' d' tk acc c,(∀b o,b≠S->s.heap.get? b=some o->h'.get? b=some o)->h'.get? S=some {cls:=.type "list",dict:=none,data:=.seq acc c,slots:=#[]}->acc.toList.Perm (es.toList.map (·.2))->R (.ok (.ret res)) {s with heap:=h',drawn:=d',toks:=tk}) :
  wpAny (model prog w) A.in1 (Builtin.List.listExtendWith (.ref S) (.ref a) res)
   (fun fin s'=>match fin with|.done f=>R (.ok f) s'|.again c'=>c'.quiet=true/\codeAny (model prog w) A c' R s') (fun e s'=>R (.error e) s') s:=by
 have hlt:=Heap.lt_size hS;refine wpAny_bind (wpAny_typeOf ⟨_,ho,hex.1⟩ ?_);rw[if_neg (by simp[Builtin.List.listSameRef,hSa])];refine wpAny_bind (zk6 ho hex hd hf ht hz fun h1 d' I fp St vals hp G=>?_);have hS1:=G.old _ _ hS;refine wpAny_bind (wpAny_holding (zk7 ⟨_,G.old _ _ ho,hex.1⟩ ?_));refine wpAny_bind (wpAny_rule (wpAny_bind ?_));refine wpAny_bind (wpAny_updateSeq hS1 rfl ?_);have hS₂:=Heap.get?_update_self (Obj.mapSeq (·.push Value.none)) hS1 rfl;apply wpAny_updateSeq hS₂ rfl;have hS₃:=Heap.get?_update_self (Obj.mapSeq (·.pop)) hS₂ rfl;have k3:∀b o,b≠S->h1.get? b=some o->((h1.update S (Obj.mapSeq (·.push Value.none))).update S (Obj.mapSeq (·.pop))).get? b=some o:=fun b o hb e=>(Heap.get?_update_other _ _ (Ne.symm hb)).trans ((Heap.get?_update_other _ _ (Ne.symm hb)).trans e);have Sfp:S∉fp:=fun hm=>by rcases G.fp S hm with z|z;exact hSa z;exact Nat.not_lt.mpr z.1 hlt
 have hv:vals.length<=sizeLine:=by rw[hp.length_eq,length_map,length_toList];exact fits_of_scanBound hz
 refine wpAny_pure ⟨plainId_quiet PySem.F.plain_extend_loop _,codeAny_extend_loopS (G.wk A.in1 hh).toS hv S Sfp res vals.length 0 _ #[] _ rfl (zero_le _) ?_ hS₃ (ItemsOf.nil _) fun s' acc c mv hs' hacc=>?_⟩;exact(G.wk A.in1 hh).frame 0 _ _ G.st fun b hb o e=>k3 b o (fun z=>Sfp (z▸hb)) e;rw[Moved.eq_with mv];refine hR s'.heap d' s'.toks acc c (fun b o hb e=>mv.heap b o (fun hm=>?_) (k3 b o hb (G.old _ _ e))) hs' ?_;simp at hm;rcases hm with z|z;exact hb z;exact Nat.not_lt.mpr (z▸G.new) (Heap.lt_size e);have:acc.toList=vals:=by refine ext_getElem? fun i=>?_;by_cases hi:i<acc.size;have e1:acc[i]?=some acc[i]:=Array.getElem?_eq_getElem hi;have e2:=hacc.2 i _ e1;rw[Array.getElem?_toList,e1];exact e2.symm;rw[List.getElem?_eq_none (by rw[length_toList];omega),List.getElem?_eq_none (by have:=hacc.1;omega)]
 rw[this];exact hp
theorem zf8(hh:A.handled=none)(ho:s.heap.get? a=some o)(hex:o.ExactSet)(hd:o.data=.set es ep t)(hf:t.fits es.size=true)(ht:TOk (!byT w) t)(hz:es.size<scanBound)
  (h:∀(h':Heap)(d':Drawn)(tk:Nat)(vals:List Value),(∀b o,s.heap.get? b=some o->h'.get? b=some o)->s.heap.objs.size<h'.objs.size->vals.Perm (es.toList.map (·.2))->R vals {s with heap:=h',drawn:=d',toks:=tk}) :
  wpAny (model prog w) A (collect (.ref a)) R E s:=by
 have hr:a<s.heap.objs.size:=Heap.lt_size ho;refine wpAny_bind (wpAny_runValue (codeAny_builtin PySem.F.entry_proto_collect ?_));refine wpAny_bind (wpAny_newObj_type ?_);refine wpAny_pure ⟨plainId_quiet PySem.F.plain_list_iadd _,codeAny_builtin PySem.F.entry_list_iadd ?_⟩;have hS₁:(s.heap.push {cls:=.type "list",data:=.seq ([]:List Value).toArray}).get? s.heap.objs.size=some {cls:=.type "list",data:=.seq #[]}:=Heap.get?_push_size _ rfl;have key:=zhP (prog:=prog) (s:={s with heap:=s.heap.push {cls:=.type "list",data:=.seq ([]:List Value).toArray}})
  (R:=fun(q:Result) (s':Shared)=>∃(h':Heap) (d':Drawn) (tk:Nat) (acc':Array Value) (c':Nat),q=.ok (.ret (.ref s.heap.objs.size))/\s'={s with heap:=h',drawn:=d',toks:=tk}/\
   (∀b o,s.heap.get? b=some o->h'.get? b=some o)/\h'.get? s.heap.objs.size=some {cls:=.type "list",dict:=none,data:=.seq acc' c',slots:=#[]}/\acc'.toList.Perm (es.toList.map (·.2)))
  hh (Heap.get?_push_of_some _ ho) hex hd hf ht hz s.heap.objs.size (ne_of_gt hr) (.ref s.heap.objs.size) 0 hS₁
  (fun h' d' tk acc' c' hk hS' hacc=>⟨h',d',tk,acc',c',rfl,rfl,fun b o e=>hk b o (ne_of_lt (Heap.lt_size e)) (Heap.get?_push_of_some _ e),hS',hacc⟩)
 refine wpAny_mono key (fun fin s' x=>?_) fun e s' x=>?_;cases fin with| done f=>obtain⟨h',d',tk,acc',c',e,rfl,hk,hS',hacc⟩:=x;cases e;exact wpAny_bind (wpAny_load hS' (wpAny_pure (h h' d' tk _ hk (Heap.lt_size hS') hacc)))| again c₁=>refine⟨x.1,codeAny_mono x.2 fun q s₂ y=>?_⟩;obtain⟨h',d',tk,acc',c',rfl,rfl,hk,hS',hacc⟩:=y;exact wpAny_bind (wpAny_load hS' (wpAny_pure (h h' d' tk _ hk (Heap.lt_size hS') hacc)))
 obtain⟨_,_,_,_,_,e',_⟩:=x;cases e'
end
end R
namespace R
open PySem PySem.Spec PyProof.Rows L2
theorem zeT(x:Int):∀l:List Int,(insZ x l).Perm (x::l)
 | []=>List.Perm.refl _| y::l=>by unfold insZ;split;exact List.Perm.refl _;exact((zeT x l).cons y).trans (List.Perm.swap ..)
theorem zeb(x:Int):∀{l:List Int},l.Pairwise (·<=·)->(insZ x l).Pairwise (·<=·)
 | [],_=>by simp[insZ]| y::l,h=>by have h':=pairwise_cons.mp h;unfold insZ;split;rename_i c;exact pairwise_cons.mpr ⟨fun z hz=>by rcases mem_cons.mp hz with e|e;rw[e];exact c;exact Int.le_trans c (h'.1 z e),h⟩;rename_i c;refine pairwise_cons.mpr ⟨fun z hz=>?_,zeb x h'.2⟩;rcases mem_cons.mp ((zeT x l).mem_iff.mp hz) with e|e;rw[e];omega;exact h'.1 z e
theorem zay:∀l:List Int,(zak l).Perm l
 | []=>List.Perm.refl _|x::l=>(zeT x _).trans ((zay l).cons x)
theorem zaN:∀l:List Int,(zak l).Pairwise (·<=·)
 | []=>Pairwise.nil|x::l=>zeb x (zaN l)
theorem zbV:∀{a b:List Int},a.Perm b->a.Pairwise (·<=·)->b.Pairwise (·<=·)->a=b
 | [],b,p,_,_=>(List.nil_perm.mp p).symm|x::a,[],p,_,_=>absurd (List.perm_nil.mp p) (by simp)| x::a,y::b,p,ha,hb=>by
  have ha':=pairwise_cons.mp ha;have hb':=pairwise_cons.mp hb;have e1:y<=x:=by rcases mem_cons.mp (p.mem_iff.mp mem_cons_self) with e|e;exact Int.le_of_eq e.symm;exact hb'.1 x e
  have e2:x<=y:=by rcases mem_cons.mp (p.mem_iff.mpr mem_cons_self) with e|e;exact Int.le_of_eq e.symm;exact ha'.1 y e
  cases Int.le_antisymm e1 e2;rw[zbV (List.Perm.cons_inv p) ha'.2 hb'.2]
theorem zdB(ns:List Int):(R.dedup ns).Nodup:=by
 suffices ∀(l acc:List Int),acc.Nodup->(l.foldl (fun acc x=>if acc.contains x then acc else acc++[x]) acc).Nodup from this ns [] List.nodup_nil
 intro l;induction l with|nil=>intro acc h;exact h| cons x l ih=>intro acc h;apply ih _;show(if acc.contains x=true then acc else acc++[x]).Nodup;split;exact h;rename_i c;refine nodup_append.mpr ⟨h,by simp,fun a ha b hb e=>?_⟩;simp at hb;subst hb;subst e;exact c (by simpa using ha)
theorem zb7:∀{a:List Int}{b:List Int},a.Nodup->(∀x∈a,x∈b)->b.length=a.length->a.Perm b
 | [],b,_,_,h=>by rw[length_eq_zero_iff.mp h]| x::a,b,hn,hs,h=>by have hn':=nodup_cons.mp hn;have hx:=hs x mem_cons_self;have pb:=List.perm_cons_erase hx;refine List.Perm.trans ((zb7 hn'.2 (fun y hy=>?_) ?_).cons x) pb.symm;exact(List.mem_erase_of_ne (fun e:y=x=>hn'.1 (e▸hy))).mpr (hs y (mem_cons_of_mem _ hy));rw[List.length_erase_of_mem hx,h];simp
def SetO(prog:Program)(w:World)(o:Obj)(ns:List Int):Prop:=∃es ep t ms,o.ExactSet/\o.data=.set es ep t/\t.fits es.size=true/\TOk (!byT w) t/\es.size<scanBound/\IntsAre (es.toList.map (·.2)) ms/\ms.Perm ns
theorem zj2:∀{l:List (Int×Value)},ElemsOf (intKind prog w) l->∃ms,IntsAre (l.map (·.2)) ms
 | [],_=>⟨[],.nil⟩| e::l,h=>by obtain⟨ms,hm⟩:=zj2 fun x hx=>h x (mem_cons_of_mem _ hx);obtain⟨⟨k,hk,_⟩,_⟩:=h e mem_cons_self;obtain⟨t,ht⟩:=Value.isInt_shape hk;exact⟨k::ms,by rw[map_cons,ht];exact .cons _ _ hm⟩
theorem zj1:∀{us vs:List Value}{ns:List Int},us.Perm vs->IntsAre vs ns->∃ms,IntsAre us ms/\ms.Perm ns:=by
 intro us vs ns p;induction p generalizing ns with
 |nil=>intro h;exact⟨ns,h,List.Perm.refl _⟩| cons x p ih=>intro h;cases h with| cons _ _ h=>obtain⟨ms,h1,h2⟩:=ih h;exact⟨_::ms,.cons _ _ h1,h2.cons _⟩
 |swap x y l=>intro h;cases h with| cons _ _ h=>cases h with|cons _ _ h=>exact⟨_,.cons _ _ (.cons _ _ h),List.Perm.swap ..⟩
 |trans p q ih1 ih2=>intro h;obtain⟨ms,h1,h2⟩:=ih2 h;obtain⟨ks,h3,h4⟩:=ih1 h1;exact⟨ks,h3,h4.trans h2⟩
theorem zha:∀{l:List (Int×Value)}{ms:List Int},IntsAre (l.map (·.2)) ms->∀k,(∃e∈l,(intKind prog w).is k e.2=true)->k∈ms
 | [],_,h,k,⟨e,he,_⟩=>by simp at he| e::l,_,h,k,⟨e',he,hk⟩=>by rw[map_cons]at h;generalize hv:e.2=v at h;cases h with| cons _ _ h=>rcases mem_cons.mp he with z|z;obtain⟨t,ht⟩:=Value.isInt_shape hk;rw[z,hv]at ht;cases ht;exact mem_cons_self;exact mem_cons_of_mem _ (zha h k ⟨e',z,hk⟩)
theorem SetO.of(x:SetD prog w h a S ns.length)(hn:ns.Nodup)(hS:∀k∈ns,S k=true):∃o,h.get? a=some o/\SetO prog w o ns:=by obtain⟨o,es,ep,t,h1,h2,h3,h4,h5,h6,h7,h8,h9⟩:=x;obtain⟨ms,hm⟩:=zj2 h4;refine⟨o,h1,es,ep,t,ms,h2,h3,h7,h9,h6,hm,(zb7 hn (fun k hk=>zha hm k ((h5 k).mp (hS k hk))) ?_).symm⟩;rw[<-hm.length,length_map,length_toList,h8]
section
variable[Mks]{X:Cx}
theorem zeR{σ:L2.St}{a:Addr}(I:Inv X pins σ H s)(k:∀b u,s.heap.get? b=some u->h'.get? b=some u)(hp:s.heap.objs.size<=a)(new:ObjOk X.prog X.w (upd H a o) h' a o) :
 Inv X pins σ (upd H a o) {s with heap:=h',drawn:=d',toks:=t'}:=I.call' rfl (Un.laid k hp (I.hok.fresh hp)) (I.hok.laid k hp new) I.bare fun b (hb:b∈([]:List Addr))=>by cases hb
theorem zno(hc:X.calm=true):zbi X (.type "set") (fun xs H Q=>∃(a:Addr) (ns:List Int),xs=[.ref a]/\SqL X.K H a (ns.map V.int)/\ns.length<4000/\∀p,H p=none->∀o,SetO X.prog X.w o (R.dedup ns)->Q (.ref p) (upd H p (.frz o (.own 0)))):=by
 intro pins s σ H xs us Q I r h;obtain⟨a,ns,rfl,hq,hz,q⟩:=h;obtain⟨u,rfl,ru⟩:=r.one;cases ru;have fresh:=I.hok.fresh (le_refl s.heap.objs.size);have hA:X.A.handled=none:=I.ok.hd hc;obtain⟨its,rv,pl,hz2⟩:=I.list hq;have hl:its.toArray.size=ns.length:=by rw[size_toArray,<-rv.length,length_map]
 refine ziQ hA pl.isList (zcL rv) (by rw[hl];unfold scanBound;omega) fun g tk hS kp=>?_;rw[hl,<-zfP]at hS;obtain⟨o,ho,so⟩:=SetO.of hS (zdB ns) (fun k hk=>List.any_eq_true.mpr ⟨k,hk,by simp⟩);exact⟨.ref s.heap.objs.size,_,I.laid (o:=.frz o (.own 0)) (fun b o e=>kp b o (Heap.lt_size e) e) (le_refl _) ⟨ho,_,ho⟩,rfl,q _ fresh o so⟩
theorem zhM(hc:X.calm=true):zbi X (.builtin "sorted") (fun xs H Q=>∃(a:Addr) (o:Obj) (ns:List Int),xs=[.ref a]/\H a=some (.frz o (.own 0))/\SetO X.prog X.w o ns/\ns.length<64/\∀p,H p=none->Q (.ref p) (upd H p (.lst ((zak ns).map V.int)))):=by
 intro pins s σ H xs us Q I r h;obtain⟨a,o,ns,rfl,hf,⟨es,ep,t,ms,x1,x2,x3,x4,x5,x6,x7⟩,h64,q⟩:=h;obtain⟨u,rfl,ru⟩:=r.one;cases ru;have ho:s.heap.get? a=some o:=(I.hok a _ hf).1;have hA:X.A.handled=none:=I.ok.hd hc;apply Calls.call_function_entry kind_sorted plain_sorted entry_sorted (args_sorted1 _);refine wpAny_bind (wpAny_pure ?_);refine wpAny_bind (zf8 hA ho x1 x2 x3 x4 x5 fun h1 d' tk vals kp hlt hp=>?_);obtain⟨ks,hks,pk⟩:=zj1 hp x6;have h64':vals.length<64:=by rw[hks.length,(pk.trans x7).length_eq];exact h64
 refine wpAny_bind (wpAny_newList ?_ (by rw[sizeLine_eq];omega));have hoL:(h1.push (seqObj "list" vals.toArray 0)).get? h1.objs.size=some (seqObj "list" vals.toArray 0):=Heap.get?_push_size _ rfl;refine wpAny_bind (wpAny_holding (wpAny_call_entry slot_list_sort ⟨_,hoL,rfl⟩ entry_list_sort (list_sort_tree hoL hks h64' fun out ns' a1 a2 a3=>⟨_,rfl,?_⟩) (args_list_sort _)));have hle:s.heap.objs.size<=h1.objs.size:=le_of_lt hlt;have en:ns'=zak ns:=zbV (a2.trans (pk.trans (x7.trans (zay ns).symm))) a3 (zaN ns);subst en;obtain⟨c,hc'⟩:=sortedHeap_at hoL;refine wpAny_pure ⟨_,rfl,.ref h1.objs.size,_,zeR (s:=s) (d':=d') (t':=tk) (o:=.lst ((zak ns).map V.int)) I (fun b u e=>?_) hle ⟨?_,out.toList,c,zbo a1,?_⟩,rfl,q _ (I.hok.fresh hle)⟩;have e1:=kp b u e;have l1:=Heap.lt_size e1;rw[sortedHeap_old (ne_of_lt l1) (Nat.lt_of_lt_of_eq (lt_succ_of_lt l1) (Heap.size_push ..).symm)];exact Heap.get?_push_of_some _ e1;rw[length_map,(zay ns).length_eq,sizeLine_eq];omega;exact hc'
variable{T:Tab}{cf:CF}{k:Nat}{N:List Str}{sc:Scope}{pos p p2 pos':Pos}
theorem zdG:bootBuiltins "sorted"=some (.builtin "sorted"):=by rfl
theorem znq(G:Gd T cf k N sc X)(hg:Gl X "sorted"/\X.mg "sorted"=none)(hr:Gl X "set"/\X.mg "set"=none)(he:PE X e (tE X.K cf ca))(hst:zah e=true) :
  PE X (.Call (.Name "sorted" p) [.Call (.Name "set" p2) [e] [] pos'] [] pos) (tE X.K cf (.sset ca)):=by
 have hin:=za6 (p:=p2) (pos:=pos') (zno G.calm) hr.1 hr.2 zru (zaJ he hst) (by decide) (by decide) (zaj hst [] X.env);refine PE.imp (zbr (zhM G.calm) hg.1 hg.2 zdG (zaJ hin rfl) (by decide) (by decide) rfl) fun σ H Qv=>ex8 fun δ ι S Q hs hh w q=>?_;simp[evE,zaa]at w;refine tE.run hs hh w fun d v ι1 H1 S1 x1 hs1 hh1 r1 w1=>?_;obtain⟨ns,hb,w2⟩:=zar w1;unfold lstI at hb;split at w2;rename_i c;cases d with
 |ref l=>
  obtain⟨a,h1,rfl⟩:=r1;dsimp only at hb;cases e1:S1.get l with
  |none=>rw[e1]at hb;cases hb
  |some ob=>rw[e1]at hb;cases ob with| lst ds=>obtain⟨a',g1,zs,ha,rz⟩:=hh1.obj _ _ e1;rw[h1]at g1;cases g1;rw[zeS hb]at rz;have:=rz.ints_eq;subst this;have hd:=zks ns;obtain⟨c2,w3⟩:=zbC w2;refine⟨a,ns,rfl,SqL.of ha,by omega,fun pr hpr o so=>⟨pr,o,_,rfl,zal,so,by omega,fun l hl=>?_⟩⟩;have e1:Ext ι1 H1 ι1 (upd H1 pr (.frz o (.own 0))):=Ext.new hpr _;exact q _ _ (Lf.up (x1.trans e1) (Lf.lst (hh1.new hpr _) hl (RVs.ints _) w3))|_=>cases hb
 |_=>cases hb
 exact w2.elim
end
section
variable[Mks]{X:Cx}
theorem zok:∀{ns:List Int}{M:Int},M∈ns->(∀a∈ns,M<=a)->minZ ns=some M
 | [],M,h,_=>by cases h| x::ns,M,h,hl=>by
  unfold minZ;cases e:minZ ns with
  |none=>
   have:ns=[]:=by cases ns with|nil=>rfl|cons y r=>unfold minZ at e;cases h:minZ r<;>rw[h]at e<;>cases e
   subst this;simp at h;rw[h]
  |some k=>
   have hk:k∈ns/\∀a∈ns,k<=a:=minZ_is ns k e;dsimp only;congr 1;rcases mem_cons.mp h with z|z;subst z;have:=hl k (mem_cons_of_mem _ hk.1);rw[if_pos this]
   . have h1:=hk.2 M z;have h2:=hl k (mem_cons_of_mem _ hk.1);have h3:=hl x mem_cons_self;split<;>omega
where
 minZ_is:∀(ns:List Int)(k:Int),minZ ns=some k->k∈ns/\∀a∈ns,k<=a
 | [],k,h=>by cases h| x::ns,k,h=>by
  unfold minZ at h;cases e:minZ ns with
  |none=>
   rw[e]at h;cases h;have:ns=[]:=by cases ns with|nil=>rfl|cons y r=>unfold minZ at e;cases h:minZ r<;>rw[h]at e<;>cases e
   subst this;exact⟨mem_cons_self,fun a ha=>by simp at ha;omega⟩
  |some j=>rw[e]at h;obtain⟨h1,h2⟩:=minZ_is ns j e;dsimp only at h;split at h;rename_i c;cases h;exact⟨mem_cons_self,fun a ha=>by rcases mem_cons.mp ha with z|z;omega;have:=h2 a z;omega⟩;rename_i c;cases h;exact⟨mem_cons_of_mem _ h1,fun a ha=>by rcases mem_cons.mp ha with z|z;omega;exact h2 a z⟩
theorem zoj(hc:X.calm=true):zbi X (.builtin "min") (fun xs H Q=>∃(a:Addr) (ns:List Int) (M:Int),xs=[.ref a]/\SqL X.K H a (ns.map V.int)/\minZ ns=some M/\Q (.int M) H):=by
 intro pins s σ H xs us Q I r h;obtain⟨a,ns,M,rfl,hq,hM,q⟩:=h;obtain⟨u,rfl,ru⟩:=r.one;cases ru;obtain⟨its,rv,pl,_⟩:=I.list hq;have hi:=zcL rv;obtain⟨ys,e⟩:=hi.allInts.items;have hns:ns=ys.toList.map (·.1):=by rw[<-hi.numsOf,<-nums_intItems,<-e]
 have hne:0<ns.length:=by
  cases ns with
  |nil=>cases hM
  |cons _ _=>simp
 have hsz:0<ys.size:=by have h3:=hne;rw[hns,length_map,length_toList]at h3;exact h3
 refine min_intList (I.ok.hd hc) (by rw[<-e];exact pl.isList) hsz fun v h' tk hv hk=>?_;obtain⟨t,rfl⟩:=intItems_at hv;obtain⟨h1,h2⟩:=argBest_lt (numAt ys) (ys.size-1);have hM':minZ ns=_:=zok (M:=numAt ys (argBest (fun i j=>decide (numAt ys i<numAt ys j)) (ys.size-1))) (by
  rw[hns,numAt_eq];exact getD_mem (by rw[length_map,length_toList];omega)) fun a ha=>by
  rw[hns]at ha;obtain⟨j,hj,rfl⟩:=mem_getD ha;rw[length_map,length_toList]at hj;rw[<-numAt_eq];exact h2 j (by omega)
 rw[hM]at hM';cases hM';exact⟨.int _,H,I.kept hk,⟨t,rfl⟩,q⟩
variable{T:Tab}{cf:CF}{k:Nat}{N:List Str}{sc:Scope}{pos p:Pos}
theorem zmU:bootBuiltins "min"=some (.builtin "min"):=by rfl
theorem znt(G:Gd T cf k N sc X)(hg:Gl X "min"/\X.mg "min"=none)(he:PE X e (tE X.K cf ca))(hst:zah e=true) :
  PE X (.Call (.Name "min" p) [e] [] pos) (tE X.K cf (.min1 ca)):=by
 refine PE.imp (zbr (zoj G.calm) hg.1 hg.2 zmU (zaJ he hst) (by decide) (by decide) (zaj hst [] X.env)) fun σ H Qv=>ex8 fun δ ι S Q hs hh w q=>?_;simp[evE,zaa]at w;refine tE.run hs hh w fun d v ι1 H1 S1 x1 hs1 hh1 r1 w1=>?_;obtain⟨ns,hb,w2⟩:=zar w1;unfold lstI at hb;cases d with
 |ref l=>
  obtain⟨a,h1,rfl⟩:=r1;dsimp only at hb;cases e1:S1.get l with
  |none=>rw[e1]at hb;cases hb
  |some ob=>rw[e1]at hb;cases ob with| lst ds=>obtain⟨a',g1,zs,ha,rz⟩:=hh1.obj _ _ e1;rw[h1]at g1;cases g1;rw[zeS hb]at rz;have:=rz.ints_eq;subst this;obtain⟨M,hM,w3⟩:=zar w2;exact⟨a,ns,M,rfl,SqL.of ha,hM,q _ _ (Lf.up x1 (Lf.of (d:=.int M) hh1 rfl w3))⟩|_=>cases hb
 |_=>cases hb
end
section
variable{prog:Program}{w:World}{A:Around}{E:Value->Shared->Prop}{s:Shared}{a:Addr}{kvs:List (Key×Value)}{ep:Nat}
theorem zee(hh:A.handled=none)(hsm:(a==sysModules)=false)(hm:s.heap.DictAt (zas prog w) a kvs ep)(hz:kvs.length<=sizeLine)
  (S:Addr) (hSa:S≠a) (res:Value) (c₀:Nat) (hS:s.heap.get? S=some {cls:=.type "list",data:=.seq #[] c₀})
  (hR:∀h' tk acc c,(∀b o,b≠S->s.heap.get? b=some o->h'.get? b=some o)->h'.get? S=some {cls:=.type "list",dict:=none,data:=.seq acc c,slots:=#[]}->ItemsOf (fun i v=>∃k x,kvs[i]?=some (k,x)/\(zas prog w).is k v=true) acc kvs.length->R (.ok (.ret res)) {s with heap:=h',toks:=tk}) :
  wpAny (model prog w) A.in1 (Builtin.List.listExtendWith (.ref S) (.ref a) res)
   (fun fin s'=>match fin with|.done f=>R (.ok f) s'|.again c'=>c'.quiet=true/\codeAny (model prog w) A c' R s') (fun e s'=>R (.error e) s') s:=by
 have hlt:=Heap.lt_size hS;have alt:=hm.lt_size;refine wpAny_bind (wpAny_typeOf hm.dictOf.typeIs ?_);rw[if_neg (by simp[Builtin.List.listSameRef,hSa])];refine wpAny_bind (wpAny_pyIter_dict hsm hm ?_);have hm1:=hm.push {cls:=.type "dict_keyiterator",data:=.fields #[.ref a,.int 0 0,.int kvs.length 0,.int ep 0]};have hS1:=Heap.get?_push_of_some {cls:=.type "dict_keyiterator",data:=.fields #[.ref a,.int 0 0,.int kvs.length 0,.int ep 0]} hS;have hI1:(s.heap.push {cls:=.type "dict_keyiterator",data:=.fields #[.ref a,.int 0 0,.int kvs.length 0,.int ep 0]}).get? s.heap.objs.size=_:=Heap.get?_push_size _ rfl;have old1:∀b o,s.heap.get? b=some o->(s.heap.push {cls:=.type "dict_keyiterator",data:=.fields #[.ref a,.int 0 0,.int kvs.length 0,.int ep 0]}).get? b=some o:=fun b o e=>Heap.get?_push_of_some _ e;generalize s.heap.push {cls:=.type "dict_keyiterator",data:=.fields #[.ref a,.int 0 0,.int kvs.length 0,.int ep 0]}=h1 at *;refine wpAny_bind (wpAny_holding (zoE hm1.dictOf.typeIs ?_));refine wpAny_bind (wpAny_rule (wpAny_bind ?_));refine wpAny_bind (wpAny_updateSeq hS1 rfl ?_);have hS₂:=Heap.get?_update_self (Obj.mapSeq (·.push Value.none)) hS1 rfl;refine wpAny_updateSeq hS₂ rfl ?_;have hS₃:=Heap.get?_update_self (Obj.mapSeq (·.pop)) hS₂ rfl;have k3:∀b o,b≠S->h1.get? b=some o->((h1.update S (Obj.mapSeq (·.push Value.none))).update S (Obj.mapSeq (·.pop))).get? b=some o:=fun b o hb e=>(Heap.get?_update_other _ _ (Ne.symm hb)).trans ((Heap.get?_update_other _ _ (Ne.symm hb)).trans e);have sI:S≠s.heap.objs.size:=ne_of_lt hlt;have W:=(Walks.dictKeys (A:=A.in1) (knd:=zas prog w) hh s.heap.objs.size a (ne_of_lt alt) kvs ep).toS;have Sfp:S∉[s.heap.objs.size,a]:=fun hm=>by simp at hm;rcases hm with z|z;exact sI z;exact hSa z
 refine wpAny_pure ⟨plainId_quiet PySem.F.plain_extend_loop _,codeAny_extend_loopS W hz S Sfp res kvs.length 0 _ #[] _ rfl (zero_le _) ?_ hS₃ (ItemsOf.nil _) fun s' acc c mv hs' hacc=>?_⟩;exact⟨⟨_,k3 _ _ (Ne.symm sI) hI1,rfl,rfl⟩,hm1.at' fun o e=>k3 _ _ (Ne.symm hSa) e⟩;rw[Moved.eq_with mv];refine hR s'.heap s'.toks acc c (fun b o hb e=>mv.heap b o (fun hm=>?_) (k3 b o hb (old1 _ _ e))) hs' hacc;simp at hm;rcases hm with z|z;exact hb z;exact ne_of_lt (Heap.lt_size e) z
theorem zhk{P:List Value->Prop}(hr:a<s.heap.objs.size)
  (key:∀(R:Result->Shared->Prop)(s1:Shared),s1={s with heap:=s.heap.push {cls:=.type "list",data:=.seq #[]}}->
   (∀h' tk acc c,(∀b o,b≠s.heap.objs.size->s1.heap.get? b=some o->h'.get? b=some o)->h'.get? s.heap.objs.size=some {cls:=.type "list",dict:=none,data:=.seq acc c,slots:=#[]}->P acc.toList->R (.ok (.ret (.ref s.heap.objs.size))) {s1 with heap:=h',toks:=tk})->
   wpAny (model prog w) A.in1 (Builtin.List.listExtendWith (.ref s.heap.objs.size) (.ref a) (.ref s.heap.objs.size))
    (fun fin s'=>match fin with|.done f=>R (.ok f) s'|.again c'=>c'.quiet=true/\codeAny (model prog w) A c' R s') (fun e s'=>R (.error e) s') s1)
  (h:∀(h':Heap)(tk:Nat)(vals:List Value),(∀b o,s.heap.get? b=some o->h'.get? b=some o)->s.heap.objs.size<h'.objs.size->P vals->Rr vals {s with heap:=h',toks:=tk}) :
  wpAny (model prog w) A (collect (.ref a)) Rr E s:=by
 refine wpAny_bind (wpAny_runValue (codeAny_builtin PySem.F.entry_proto_collect ?_));refine wpAny_bind (wpAny_newObj_type ?_);refine wpAny_pure ⟨plainId_quiet PySem.F.plain_list_iadd _,codeAny_builtin PySem.F.entry_list_iadd ?_⟩;have key:=key (fun(q:Result) (s':Shared)=>∃(h':Heap) (tk:Nat) (acc':Array Value) (c':Nat),q=.ok (.ret (.ref s.heap.objs.size))/\s'={s with heap:=h',toks:=tk}/\
   (∀b o,s.heap.get? b=some o->h'.get? b=some o)/\h'.get? s.heap.objs.size=some {cls:=.type "list",dict:=none,data:=.seq acc' c',slots:=#[]}/\P acc'.toList) _ rfl
  (fun h' tk acc' c' hk hS' hacc=>⟨h',tk,acc',c',rfl,rfl,fun b o e=>hk b o (ne_of_lt (Heap.lt_size e)) (Heap.get?_push_of_some _ e),hS',hacc⟩)
 refine wpAny_mono key (fun fin s' x=>?_) fun e s' x=>?_;cases fin with| done f=>obtain⟨h',tk,acc',c',e,rfl,hk,hS',hacc⟩:=x;cases e;exact wpAny_bind (wpAny_load hS' (wpAny_pure (h h' tk _ hk (Heap.lt_size hS') hacc)))| again c₁=>refine⟨x.1,codeAny_mono x.2 fun q s₂ y=>?_⟩;obtain⟨h',tk,acc',c',rfl,rfl,hk,hS',hacc⟩:=y;exact wpAny_bind (wpAny_load hS' (wpAny_pure (h h' tk _ hk (Heap.lt_size hS') hacc)))
 obtain⟨_,_,_,_,e',_⟩:=x;cases e'
theorem zeQ:∀{ks:List Int}{vs:List (Key×Value)}{us:List Value},vs.map (·.1)=ks.map Sum.inl->us.length=vs.length->(∀(i:Nat)(v:Value),us[i]?=some v->∃k x,vs[i]?=some (k,x)/\(zas prog w).is k v=true)->IntsAre us ks
 | [],[],us,_,hl,_=>by cases us with|nil=>exact .nil|cons _ _=>simp at hl
 | [],_::_,_,h,_,_=>by simp at h|_::_,[],_,h,_,_=>by simp at h| k::ks,(k',x)::vs,us,h,hl,hv=>by cases us with|nil=>simp at hl| cons u us=>simp at h;obtain⟨rfl,h⟩:=h;obtain⟨k2,x2,e1,e2⟩:=hv 0 u rfl;cases(Option.some.inj e1);rcases zaz (show zfz (Sum.inl k) u=true from e2) with⟨i,t,e3,e4⟩|⟨y,t,e3,e4⟩;cases e3;subst e4;exact .cons _ _ (zeQ h (by simpa using hl) fun i v e=>hv (i+1) v (by simpa using e));cases e3
end
theorem zlm(it:us.length=n/\∀(j:Nat)(v:Value),us[j]?=some v->∃t,v=Value.int (0+(j:Int)*1) t):Vals ((List.range n).map fun(j:Nat)=>V.int j) us:=by
 obtain⟨hl,hv⟩:=it;induction n generalizing us with
 |zero=>cases us with
  |nil=>exact .nil|cons _ _=>simp at hl
 |succ n ih=>
  have hne:us≠[]:=by intro z;subst z;simp at hl
  have hd:us=us.dropLast++[us.getLast hne]:=(List.dropLast_concat_getLast hne).symm;rw[List.range_succ,map_append,hd];have hdl:us.dropLast.length=n:=by simp[hl]
  refine Vals.append (ih hdl fun j v e=>hv j v ?_) (.cons ?_ .nil);have hj:j<us.dropLast.length:=(List.getElem?_eq_some_iff.mp e).1;rw[hd,getElem?_append_left hj];exact e;obtain⟨t,e⟩:=hv n (us.getLast hne) (by
   conv=>lhs;rw[hd]
   simp[hdl])
  exact⟨t,by simpa using e⟩
section
variable{prog:Program}{w:World}{A:Around}{E:Value->Shared->Prop}{s:Shared}
theorem zdU{Q₁:Value->Shared->Prop}{r:Addr}{a b c:Int}{t u v:Tok}{n:Nat}(hh:A.handled=none)(hr:IsRange s.heap r a b c t u v)(hsmall:Builtin.Range.small a b c=true)(hn:Builtin.Range.rangeSize a b c=n)(hlen:n<=16777216)
  (h:∀(h':Heap)(tk:Nat)(vals:List Value),(∀b o,s.heap.get? b=some o->h'.get? b=some o)->(vals.length=n/\∀(i:Nat)(x:Value),vals[i]?=some x->∃t,x=.int (a+i*c) t)->Q₁ (.ref h'.objs.size) {s with heap:=h'.push {cls:=.type "tuple",data:=.seq vals.toArray},toks:=tk}) :
  codeAny (model prog w) A (.call (.builtin "tuple.__new__") ⟨[.type "tuple",.ref r],[]⟩) (wants Q₁ E) s:=by
 refine codeAny_of_tree ?_;show wpAny _ A.in1 (do checkBuiltinCall "tuple.__new__" ⟨[.type "tuple",.ref r],[]⟩;again (.builtin "tuple.__new__" ⟨[.type "tuple",.ref r],[]⟩)) _ _ s;refine wpAny_bind (wpAny_of_eq (F.newCall_tuple_1 _) (wpAny_pure ⟨plainId_quiet F.plain_tuple_new _,codeAny_builtin F.entry_tuple_new ?_⟩));rw[Around.under_plainId F.plain_tuple_new _];have hsub:=sub_tuple_self;have hinit:=init_tuple_lookup;have hmh:=madeHere_tuple;have hTI:s.TypeIs (.ref r) "range":=⟨_,hr,rfl⟩;have col:∀{A':Around}{Rr:List Value->Shared->Prop}{E':Value->Shared->Prop},A'.handled=none->(∀(h':Heap)(tk:Nat)(vals:List Value),(∀b o,s.heap.get? b=some o->h'.get? b=some o)->s.heap.objs.size<h'.objs.size->(vals.length=n/\∀(i:Nat)(x:Value),vals[i]?=some x->∃t,x=.int (a+i*c) t)->Rr vals {s with heap:=h',toks:=tk})->wpAny (model prog w) A' (collect (.ref r)) Rr E' s:=by intro A' Rr E' hA' hR;refine zhk (Heap.lt_size hr) (fun R s1 e1 hR'=>?_) hR;subst e1;exact wpAny_extend_range hA' (Heap.get?_push_of_some _ hr) hsmall hn hlen _ _ 0 (Heap.get?_push_size _ rfl) fun h' tk acc c' hk hS' hacc=>hR' h' tk acc c' hk hS' ⟨by rw[length_toList];exact hacc.1,fun i x e=>hacc.2 i x (by simpa using e)⟩
 wp_walk using wpAny_typeOf hTI,col (A':=A.in1) hh
 intro h' tk vals kp hlt hv;show wpAny _ _ (Builtin.Tuple.tupleExact vals.toArray>>=fun v=>ret v) _ _ _;unfold Builtin.Tuple.tupleExact;refine wpAny_bind (wpAny_newObj_type ?_ (by show vals.toArray.size<=sizeLine;rw[size_toArray,hv.1,sizeLine_eq];exact hlen));refine wpAny_pure ?_;exact h h' tk vals kp hv
end
section
variable[Mks]{X:Cx}
theorem zhN(hc:X.calm=true):zbi X (.builtin "sorted") (fun xs H Q=>∃(a:Addr) (ws:List (Key×V)) (ns:List Int),xs=[.ref a]/\H a=some (.dK ws)/\ws.map (·.1)=ns.map Sum.inl/\ns.length<64/\∀p,H p=none->Q (.ref p) (upd H p (.lst ((zak ns).map V.int)))):=by
 intro pins s σ H xs us Q I r h;obtain⟨a,ws,ns,rfl,hf,hks,h64,q⟩:=h;obtain⟨u,rfl,ru⟩:=r.one;cases ru;obtain⟨hz,hsm,vs,rel,dd⟩:=zko I.hok hf;obtain⟨ep,dd⟩:=dd.dictAt;have hA:X.A.handled=none:=I.ok.hd hc;have hvk:vs.map (·.1)=ns.map Sum.inl:=by
  rw[<-hks];have:∀{l:List (Key×V)}{m:List (Key×Value)},KV l m->m.map (·.1)=l.map (·.1):=by intro l m q;induction q with|nil=>rfl|cons h _ ih=>rw[map_cons,map_cons,h.1,ih]
  exact this rel
 have hvl:vs.length=ns.length:=by have:=congrArg List.length hvk;simpa using this
 apply Calls.call_function_entry kind_sorted plain_sorted entry_sorted (args_sorted1 _);refine wpAny_bind (wpAny_pure ?_);refine wpAny_bind (zhk (P:=fun us=>IntsAre us ns) dd.lt_size (fun R s1 e1 hR=>?_) fun h1 tk vals kp hlt hks'=>?_);subst e1;have alt:=dd.lt_size;refine zee (A:=X.A.in1) hA hsm (dd.push _) (by rw[hvl,sizeLine_eq];omega) _ (ne_of_gt alt) _ 0 (Heap.get?_push_size _ rfl) fun h' tk acc c hk hS' hacc=>hR h' tk acc c hk hS' ?_;exact zeQ hvk (by rw[length_toList];exact hacc.1) fun i v e=>hacc.2 i v (by simpa using e);have h64':vals.length<64:=by rw[hks'.length];exact h64
 refine wpAny_bind (wpAny_newList ?_ (by rw[sizeLine_eq];omega));have hoL:(h1.push (seqObj "list" vals.toArray 0)).get? h1.objs.size=some (seqObj "list" vals.toArray 0):=Heap.get?_push_size _ rfl;refine wpAny_bind (wpAny_holding (wpAny_call_entry slot_list_sort ⟨_,hoL,rfl⟩ entry_list_sort (list_sort_tree hoL hks' h64' fun out ns' a1 a2 a3=>⟨_,rfl,?_⟩) (args_list_sort _)));have hle:s.heap.objs.size<=h1.objs.size:=le_of_lt hlt;have en:ns'=zak ns:=zbV (a2.trans (zay ns).symm) a3 (zaN ns);subst en;obtain⟨c,hc'⟩:=sortedHeap_at hoL;refine wpAny_pure ⟨_,rfl,.ref h1.objs.size,_,zeR (s:=s) (d':=s.drawn) (t':=tk) (o:=.lst ((zak ns).map V.int)) I (fun b u e=>?_) hle ⟨?_,out.toList,c,zbo a1,?_⟩,rfl,q _ (I.hok.fresh hle)⟩;have e1:=kp b u e;have l1:=Heap.lt_size e1;rw[sortedHeap_old (ne_of_lt l1) (Nat.lt_of_lt_of_eq (lt_succ_of_lt l1) (Heap.size_push ..).symm)];exact Heap.get?_push_of_some _ e1;rw[length_map,(zay ns).length_eq,sizeLine_eq];omega;exact hc'
variable{T:Tab}{cf:CF}{k:Nat}{N:List Str}{sc:Scope}{pos p p2 pos':Pos}
theorem zny(G:Gd T cf k N sc X)(hg:Gl X "sorted"/\X.mg "sorted"=none)(he:PE X e (tE X.K cf ca))(hst:zah e=true) :
  PE X (.Call (.Name "sorted" p) [e] [] pos) (tE X.K cf (.dsrt ca)):=by
 refine PE.imp (zbr (zhN G.calm) hg.1 hg.2 zdG (zaJ he hst) (by decide) (by decide) (zaj hst [] X.env)) fun σ H Qv=>ex8 fun δ ι S Q hs hh w q=>?_;simp[evE,zaa]at w;refine tE.run hs hh w fun d v ι1 H1 S1 x1 hs1 hh1 r1 w1=>?_;obtain⟨ns,hb,w2⟩:=zar w1;unfold dicI at hb;cases d with
 |ref l=>
  obtain⟨a,h1,rfl⟩:=r1;dsimp only at hb;cases e1:S1.get l with
  |none=>rw[e1]at hb;cases hb
  |some ob=>rw[e1]at hb;cases ob with| dic kvs=>obtain⟨a',g1,nd,ws,ha,rz⟩:=hh1.obj _ _ e1;rw[h1]at g1;cases g1;cases hb;split at w2;rename_i c;obtain⟨c2,w3⟩:=zbC w2;exact⟨a,ws,_,rfl,ha,by rw[rz.keys,List.map_map];rfl,c,fun l hl=>q _ _ (Lf.up x1 (Lf.lst hh1 hl (RVs.ints _) w3))⟩;exact w2.elim|_=>cases hb
 |_=>cases hb
theorem znB(ha:PE X a (tE X.K cf ca))(hb:PE X b (tE X.K cf cb)):PE X (.Dict [some a] [b] pos) (tE X.K cf (.dic1 ca cb)):=by
 refine PE.imp (zn7 (zlw ha hb zn2) rfl rfl (by simp) (by simp)) fun σ H Qv=>ex8 fun δ ι S Q hs hh w q=>?_;simp[evE,zaa]at w;intro p hp;have x0:Ext ι H ι (upd H p (.dK [])):=Ext.new hp _;have hpι:=hh.fresh hp;refine tE.run (hs.ext x0) (hh.new hp (.dK [])) w fun d v ι1 H1 S1 x1 hs1 hh1 r1 w1=>?_;refine tE.run hs1 hh1 w1 fun y vy ι2 H2 S2 x2 hs2 hh2 r2 w2=>?_;obtain⟨k,hk,w3⟩:=zar w2;cases d with
 |int k'=>
  cases hk;obtain rfl:v=.int k:=r1;have x12:=x1.trans x2;have hp2:H2 p=some (.dK []):=x12.keep hpι zal (by intro ps z;cases z);have pn:p∉ι2:=(x12.rest p _ hpι zal).2;refine⟨hp2,[(.inl k,vy)],rfl,by simp,?_⟩;have kp2:Kp H2 (upd H2 p (.dK (zcW [] [((.inl k:Key),vy)]))):=by refine .same (fun b xs e=>?_) (fun b o u e=>?_) fun b ps e=>?_;rw[zag (by intro z;rw[z,hp2]at e;cases e)];exact e;rw[zag (by intro z;rw[z,hp2]at e;cases e)];exact e;rw[zag (by intro z;rw[z,hp2]at e;cases e)];exact e
  have xe:Ext ι H (ι2++[p]) (upd H2 p (.dK (zcW [] [((.inl k:Key),vy)]))):=by
   have x:=x0.trans x12;refine⟨x.pre.trans (prefix_append _ _),x.kp.trans kp2,fun b o hb e=>?_⟩;have bp:b≠p:=by intro z;rw[z,hp]at e;cases e
   obtain⟨e1,h1⟩:=x.rest b o hb e;refine⟨?_,fun z=>?_⟩;rcases e1 with e1|⟨t,ps,e1⟩;exact .inl (by rw[zag bp];exact e1);exact .inr ⟨t,ps,by rw[zag bp];exact e1⟩;rcases mem_append.mp z with z|z;exact h1 z;exact bp (mem_singleton.mp z)
  have hh3:RH X.K ι2 (upd H2 p (.dK (zcW [] [((.inl k:Key),vy)]))) S2:=⟨hh2.len,hh2.nd,fun l o e=>let ⟨b,h1,h2,hm⟩:=hh2.mem e;⟨b,h1,h2.up (prefix_refl _) kp2 (zag fun z=>pn (z▸hm))⟩,kp2.tab hh2.tab⟩;exact q _ _ ⟨.ref S2.len,ι2++[p],S2.push (.dic [(k,y)]),xe,⟨p,hh2.last p,rfl⟩,hh3.one (l:=0) pn ⟨by simp,_,zal,vy,[],rfl,r2.up (prefix_append _ _) kp2,rfl⟩,w3⟩
 |_=>cases hk
theorem ziI(hc:X.calm=true):zbi X (.type "tuple") (fun xs H Q=>∃p hi,xs=[.ref p]/\H p=some (.rng 0 hi)/\-(2^62)<=hi/\hi<2^62/\hi.toNat<=16777216/\∀l,H l=none->Q (.ref l) (upd H l (.tup ((List.range hi.toNat).map fun(j:Nat)=>.int j)))):=by
 intro pins s σ H xs us Q I r h;obtain⟨p,hi,rfl,hp,h1,h2,h3,q⟩:=h;obtain⟨u,rfl,ru⟩:=r.one;cases ru;obtain⟨t,t2,t3,e⟩:=(I.hok p _ hp);have hA:X.A.handled=none:=I.ok.hd hc;have hn:Builtin.Range.rangeSize 0 hi 1=(hi.toNat:Nat):=by rw[rangeSize_one];split<;>omega
 refine callType_codes (Q₁:=fun obj s₁=>s₁.TypeIs obj "tuple"/\∃v H',Inv X pins σ H' s₁/\RelV v obj/\Q v H') F.called_tuple (F.typeCall_tuple_1 _) F.entry_object_init ?_ fun obj s₁ h₁=>?_;refine zdU hA e (small_one (by decide) (by decide) h1 h2) hn h3 fun h' tk acc kp it=>⟨⟨_,Heap.get?_push_size _ rfl,rfl⟩,?_⟩;have I1:Inv X pins σ H {s with heap:=h',toks:=tk}:=I.kept kp;refine⟨.ref h'.objs.size,_,I1.laid (o:=.tup ((List.range hi.toNat).map fun(j:Nat)=>.int j)) (t':=tk) (fun b o e=>Heap.get?_push_of_some _ e) (le_refl _) ⟨?_,acc,zlm it,IsTup.new _ _⟩,rfl,q _ (I1.hok.fresh (le_refl _))⟩;rw[length_map,length_range,sizeLine_eq];exact h3;exact⟨h₁.1,F.args_object_init_2 obj _,object_init_meets F.called_tuple.init.lookup F.called_tuple.made (by decide) X.prog X.w X.A.in1 _ s₁ ⟨h₁.1,rfl,h₁.2⟩⟩
theorem zk9(G:Gd T cf k N sc X)(hg:Gl X "tuple"/\X.mg "tuple"=none)(hr:Gl X "range"/\X.mg "range"=none)(ha:PE X a (tE X.K cf ca))(hst:zah a=true) :
  PE X (.Call (.Name "tuple" p) [.Call (.Name "range" p2) [a] [] pos'] [] pos) (tE X.K cf (.mkT (.rng1 ca))):=by
 have hin:=za6 (p:=p2) (pos:=pos') zfj hr.1 hr.2 zhA (zaJ ha hst) (by decide) (by decide) (zaj hst [] X.env);refine PE.imp (za6 (ziI G.calm) hg.1 hg.2 ze7 (zaJ hin rfl) (by decide) (by decide) rfl) fun σ H Qv=>ex8 fun δ ι S Q hs hh w q=>?_;simp[evE,evL,zaa]at w;refine tE.run hs hh w fun d v ι1 H1 S1 x1 hs1 hh1 r1 w1=>?_;cases d with| int j=>obtain rfl:v=.int j:=r1;dsimp only at w1;split at w1;rename_i c;rw[W_ok]at w1;split at w1;rename_i c2;refine⟨j,rfl,fun pr hpr=>⟨pr,j,rfl,zal,c.1,c.2,by simpa using c2,fun l hl=>?_⟩⟩;have hh2:=hh1.new hpr (.rng 0 j);refine q _ _ (Lf.up (x1.trans (Ext.new hpr _)) (Lf.tup hh2 hl ?_ w1));have:=RVs.ints (K:=X.K) (ι:=ι1) (H:=upd H1 pr (.rng 0 j)) ((List.range j.toNat).map fun(m:Nat)=>(m:Int));rw[List.map_map,List.map_map]at this;exact this;exact w1.elim;exact w1.elim|_=>exact w1.elim
end
end R
namespace R
open PySem PySem.W PyProof.Rows
section
variable{n:Nat}{cmp:Nat->Nat->(Bool->Shared->Prop)->Shared->Prop}{s:Shared}
theorem zp1(h:i<n):(List.range n).toArray.getD i 0=i:=by simp[h]
variable(hc:∀i j (C:Bool->Shared->Prop),i<n->j<n->C (decide (i<j)) s->cmp i j C s)
include hc
theorem zmV(q:Q n s):∀(f a:Nat),1<=a->a+f=n->(kas_asc (List.range n).toArray f a).kasWp cmp Q s
 |0,a,_,e=>by rw[Nat.add_zero]at e;subst e;exact q| f+1,a,h1,e=>by show cmp ((List.range n).toArray.getD a 0) ((List.range n).toArray.getD (a-1) 0) (fun b s=>(if b=true then KasT.ret a else kas_asc (List.range n).toArray f (a+1)).kasWp cmp Q s) s;rw[zp1 (by omega),zp1 (by omega)];apply hc _ _ _ (by omega) (by omega);rw[decide_eq_false (by omega),if_neg (by simp)];exact zmV q f (a+1) (by omega) (by omega)
theorem znh(h1:1<=n)(q:Q (List.range n).toArray s):(kas_sort n).kasWp cmp Q s:=by unfold kas_sort;rw[KasT.kasWp_bind];unfold kas_count;rw[KasT.kasWp_bind];refine zmV hc ?_ (n-1) 1 (le_refl _) (by omega);simp only[beq_self_eq_true];show(if n<n then kas_bin (n-max n 1) _ (max n 1) else KasT.ret _).kasWp cmp Q s;rw[if_neg (by omega)];exact q
end
end R
namespace R
open PySem PySem.Spec PyProof.Rows L2
theorem zjD:∀(as bs:List Int),lexZ as bs=HT.lexLt as bs
 | [],[]=>by simp[lexZ,HT.lexLt]| [],_::_=>by simp[lexZ,HT.lexLt]|_::_,[]=>by simp[lexZ,HT.lexLt]|a::as,b::bs=>by simp[lexZ,HT.lexLt,zjD as bs]
section
variable{prog:Program}{w:World}{A:Around}{E:Value->Shared->Prop}{s:Shared}
theorem ziJ(x:IsTupleKey (zas prog w) h (ks.map Sum.inl) b):∃items,IsTup h b items/\IntsAre items.toList ks:=by
 obtain⟨o,items,n,ho,hc,hd,hi⟩:=x;refine⟨items,⟨o,ho,hc,n,hd⟩,?_⟩;have:∀{l:List Int}{vs:List Value},ItemsAre (zas prog w) (l.map Sum.inl) vs->IntsAre vs l:=by intro l;induction l with|nil=>intro vs h;cases h;exact .nil| cons x l ih=>intro vs h;cases h with| @cons _ v _ vs h1 h2=>rcases zaz (show zfz (Sum.inl x) v=true from h1) with⟨i,t,e3,e4⟩|⟨y,t,e3,e4⟩;cases e3;subst e4;exact .cons _ _ (ih h2);cases e3
 exact this hi
end
end R
namespace R
open PySem PySem.Spec PyProof.Rows L2
variable[Mks]
section
variable{T:Tab}{cf:CF}{k:Nat}{N:List Str}{sc:Scope}{X:Cx}{pos p p2 pos':Pos}
theorem znx(ho:PE X o (tE X.K cf ca))(he:PE X e (tE X.K cf cb))(hst:zah e=true)(hsup:za7 o=true)(hl:(apos.endLine==cpos.line)=true) :
  PE X (.Call (.Attribute o "extend" apos) [e] [] cpos) (tE X.K cf (.extv ca cb)):=by
 refine PE.imp (zqu PySem.F.plainAttrs_list PySem.F.slot_list_extend PySem.F.type_list_extend zju ho (zaJ he hst) (zcj hsup "extend" X.env _) (by rw[zaj hst];rfl) hl (zaj hst [] X.env)) fun σ H Qv=>ex8 fun δ ι S Q hs hh w q=>?_;simp[evE,zaa]at w;refine tE.run hs hh w fun d v ι1 H1 S1 x1 hs1 hh1 r1 w1=>?_;split at w1;rename_i c;refine⟨zjX hh1 r1 c,?_⟩;rw[zaa]at w1;refine tE.run hs1 hh1 w1 fun y vy ι2 H2 S2 x2 hs2 hh2 r2 w2=>?_;rw[zaa]at w2;obtain⟨o,eo,w3⟩:=zar w2;unfold lsts at eo;cases d with
 |ref l=>
  cases y with
  |ref m=>
   obtain⟨a,h1,rfl⟩:=r1.ext x2;obtain⟨b,h2,rfl⟩:=r2;dsimp only at eo;cases e1:S2.get l with
   |none=>rw[e1]at eo;cases eo
   |some ob=>
    cases e2:S2.get m with
    |none=>rw[e1,e2]at eo;cases ob<;>cases eo| some ob2=>
     rw[e1,e2]at eo;cases ob with
     |lst xs=>cases ob2 with| lst ys=>cases eo;obtain⟨a',g1,zs,ha,rz⟩:=hh2.obj _ _ e1;rw[h1]at g1;cases g1;obtain⟨b',g2,us,hb,ru⟩:=hh2.obj _ _ e2;rw[h2]at g2;cases g2;obtain⟨c2,S',hp,w4⟩:=zmY w3;refine⟨a,b,zs,us,rfl,rfl,ha,hb,?_,q _ _ (Lf.up (x1.trans x2) (Lf.wr (d:=.non) hh2 e1 h1 hp (rz.append ru) rfl w4))⟩;rw[rz.length,ru.length,<-length_append];exact c2|_=>cases eo
     |_=>cases eo
  |_=>cases eo
 |_=>cases eo
 exact w1.elim
end
structure Ltr(K:Frag)(ι:List Addr)(H:Hp)(S:R.St)(lks:List Nat)(ι2:List Addr)(H2:Hp)(S2:R.St):Prop where
 ext:Ext ι H ι2 H2
 rh:RH K ι2 H2 S2
 lck:∀l∈lks,S2.get l=S.get l
structure Wk(K:Frag)(J:It)(ds:List D)(lks:List Nat)(ι:List Addr)(H:Hp)(S:R.St):Prop where
 go:∀(i:Nat)(ι2:List Addr)(H2:Hp)(S2:R.St),Ltr K ι H S lks ι2 H2 S2->i<ds.length->J.go i H2
 yld:∀(i:Nat)(ι2:List Addr)(H2:Hp)(S2:R.St)(x:V)(H':Hp),Ltr K ι H S lks ι2 H2 S2->i<ds.length->J.yld i H2 x H'->Ext ι2 H2 ι2 H'/\RH K ι2 H' S2/\∃d,ds[i]?=some d/\RV K ι2 H' d x
 stop:∀(i:Nat)(ι2:List Addr)(H2:Hp)(S2:R.St),Ltr K ι H S lks ι2 H2 S2->ds.length<=i->J.stop i H2
 lks:∀l∈lks,l<S.len
def LfI(K:Frag)(ι:List Addr)(H:Hp)(Q:List D×List Nat->R.St->Prop)(J:It)(H':Hp):Prop:=∃ds lks ι' S',Ext ι H ι' H'/\RH K ι' H' S'/\Q (ds,lks) S'/\Wk K J ds lks ι' H' S'
def tI(K:Frag)(cf:CF)(cl:CL):TI:=fun σ H R=>∃δ ι S Q,RS K ι H δ σ/\RH K ι H S/\W (evL cf cl δ S) Q/\∀J H',LfI K ι H Q J H'->R J H'
theorem PI.imp(h:PI X tg e t)(i:∀σ H Q,t' σ H Q->t σ H Q):PI X tg e t':=fun pins s σ H Q I q=>h pins s σ H Q I (i σ H Q q)
def iSeq(K:Frag)(tl:TE):TI:=fun σ H R=>tl σ H fun x H1=>∃a,x=.ref a/\(((∃xs,SqL K H1 a xs)/\R (Itl K a) H1)\/((∃xs,SqT K H1 a xs)/\R (Itt K a) H1))
section
variable{T:Tab}{cf:CF}{k:Nat}{N:List Str}{sc:Scope}{X:Cx}{pos p:Pos}{tg:Expr}
theorem zqg(hl:PE X l tl):PI X tg l (iSeq X.K tl):=by
 intro pins s σ H R I h;refine thn (hl pins s σ H _ I h) fun v s1=>ex5 fun x H1 I1 r1 q1=>?_;obtain⟨a,rfl,q1⟩:=q1;cases r1;rcases q1 with⟨⟨xs,hq⟩,q⟩|⟨⟨xs,hq⟩,q⟩;obtain⟨its,rv,pl,hz⟩:=I1.list hq;apply wpAny_pyIter_list pl.isList;refine⟨s1.heap.objs.size,[s1.heap.objs.size],_,_,H1,rfl,I1.kept (t':=s1.toks) fun b o e=>Heap.get?_push_of_some _ e,ziG a _,⟨_,Heap.get?_push_size _ rfl,rfl,rfl⟩,fun b hb=>?_,q⟩;have e:b=s1.heap.objs.size:=by simpa using hb
 subst e;exact I1.fpOk (le_refl _) (I1.hok.fresh (le_refl _));obtain⟨its,rv,pl,hz⟩:=I1.tuple hq;apply wpAny_pyIter_tuple pl;refine⟨s1.heap.objs.size,[s1.heap.objs.size],_,_,H1,rfl,I1.kept (t':=s1.toks) fun b o e=>Heap.get?_push_of_some _ e,zhG a _,⟨_,Heap.get?_push_size _ rfl,rfl,rfl⟩,fun b hb=>?_,q⟩;have e:b=s1.heap.objs.size:=by simpa using hb
 subst e;exact I1.fpOk (le_refl _) (I1.hok.fresh (le_refl _))
theorem zf3{K:Frag}(hl:∀l∈lks,l<S.len)
  (h:∀ι2 H2 S2,Ltr K ι H S lks ι2 H2 S2->∃xs,SqL K H2 a xs/\RVs K ι2 H2 ds xs/\∀ys,SqL K H2 a ys->True):Wk K (Itl K a) ds lks ι H S where
 go:=fun i ι2 H2 S2 lt hi=>by obtain⟨xs,hq,rr,_⟩:=h ι2 H2 S2 lt;exact⟨xs,xs[i]'(by rw[rr.length];exact hi),hq,List.getElem?_eq_getElem _⟩
 yld:=fun i ι2 H2 S2 x H' lt hi y=>by obtain⟨xs,hq,rr,_⟩:=h ι2 H2 S2 lt;obtain⟨rfl,y⟩:=y;obtain⟨d,e,r⟩:=rr.get' (y xs hq);exact⟨Ext.refl _ _,lt.rh,d,e,r⟩
 stop:=fun i ι2 H2 S2 lt hi=>by obtain⟨xs,hq,rr,_⟩:=h ι2 H2 S2 lt;exact⟨xs,hq,by rw[rr.length];exact hi⟩
 lks:=hl
theorem zo7{K:Frag}(hl:∀l∈lks,l<S.len)(e:H a=some (.tup xs))(rr:RVs K ι H ds xs):Wk K (Itt K a) ds lks ι H S where
 go:=fun i ι2 H2 S2 lt hi=>⟨xs,xs[i]'(by rw[rr.length];exact hi),SqT.of (lt.ext.kp.tups _ _ e),List.getElem?_eq_getElem _⟩
 yld:=fun i ι2 H2 S2 x H' lt hi y=>by obtain⟨rfl,y⟩:=y;obtain⟨d,e,r⟩:=(rr.ext lt.ext).get' (y xs (SqT.of (lt.ext.kp.tups _ _ e)));exact⟨Ext.refl _ _,lt.rh,d,e,r⟩
 stop:=fun i ι2 H2 S2 lt hi=>⟨xs,SqT.of (lt.ext.kp.tups _ _ e),by rw[rr.length];exact hi⟩
 lks:=hl
theorem zms(he:PE X e (tL X.K cf cl))(hlk:∀{δ:Ev}{S:R.St}{Q:List D×List Nat->R.St->Prop},W (evL cf cl δ S) Q->W (evL cf cl δ S) fun r S'=>(∀l∈r.2,l<S'.len)/\Q r S'):PI X tg e (tI X.K cf cl):=by refine PI.imp (zqg he) fun σ H R=>ex8 fun δ ι S Q hs hh w q=>?_;refine tL.run hs hh (hlk w) fun ds lks v ι1 H1 S1 x1 hs1 hh1 sq w1=>?_;obtain⟨hl,w1⟩:=w1;obtain⟨a,xs,rfl,rr,kd⟩:=sq;refine⟨a,rfl,?_⟩;cases kd with|tmp h e=>exact .inl ⟨⟨xs,SqL.of e⟩,q _ _ ⟨ds,lks,ι1,S1,x1,hh1,w1,zf3 hl fun ι2 H2 S2 lt=>⟨xs,SqL.of (lt.ext.keep h e (by simp)),rr.ext lt.ext,fun _ _=>trivial⟩⟩⟩|fix e=>exact .inl ⟨⟨xs,e.sq⟩,q _ _ ⟨ds,lks,ι1,S1,x1,hh1,w1,zf3 hl fun ι2 H2 S2 lt=>⟨xs,(e.kp lt.ext.kp).sq,rr.ext lt.ext,fun _ _=>trivial⟩⟩⟩|tup e=>exact .inr ⟨⟨xs,SqT.of e⟩,q _ _ ⟨ds,lks,ι1,S1,x1,hh1,w1,zo7 hl e rr⟩⟩| own l hm hi hg e=>refine .inl ⟨⟨xs,SqL.of e⟩,q _ _ ⟨ds,lks,ι1,S1,x1,hh1,w1,zf3 hl fun ι2 H2 S2 lt=>?_⟩⟩;obtain⟨b,h2,zs,hz,rz⟩:=lt.rh.obj l (.lst ds) ((lt.lck l hm).trans hg);rw[zbL lt.ext.pre hi]at h2;cases h2;exact⟨zs,SqL.of hz,rz,fun _ _=>trivial⟩
theorem zqP(h:W (evL cf (.val ce) δ S) Q):W (evL cf (.val ce) δ S) fun r S'=>(∀l∈r.2,l<S'.len)/\Q r S':=by
 simp[evL,zaa]at h⊢;refine h.mono fun x S1 h1=>?_;obtain⟨ds,e,h2⟩:=zar h1;rw[e];refine⟨fun l hl=>?_,h2⟩;cases x with
 |ref l'=>simp[lkOf]at hl;subst hl;simp[zcc]at e;split at e;rename_i e2;exact zai e2;cases e
 |_=>simp[lkOf]at hl
theorem zov(h:W (evL cf (.comp n js g it c e) δ S) Q):W (evL cf (.comp n js g it c e) δ S) fun r S'=>(∀l∈r.2,l<S'.len)/\Q r S':=by simp[evL,zaa]at h⊢;refine h.mono fun ds S1 h1=>h1.mono fun r S2 h2=>?_;split at h2;rename_i c;rw[if_pos c];exact⟨fun l hl=>by simp at hl,h2⟩;exact h2.elim
theorem zgL{K:Frag}(lo:Int)(n:Nat):Wk K (Itr lo n) ((List.range n).map fun(j:Nat)=>D.int (lo+j)) [] ι H S where
 go:=fun i ι2 H2 S2 lt hi=>by show i<n;simpa using hi
 yld:=fun i ι2 H2 S2 x H' lt hi y=>by
  obtain⟨rfl,rfl⟩:=y;have hi:i<n:=by simpa using hi
  exact⟨Ext.refl _ _,lt.rh,.int (lo+i),by simp[hi],rfl⟩
 stop:=fun i ι2 H2 S2 lt hi=>by show n<=i;simpa using hi
 lks:=fun l hl=>by simp at hl
theorem znk(hg:Gl X "range"/\X.mg "range"=none)(ha:PE X a (tE X.K cf ca))(hst:zah a=true):PI X tg (.Call (.Name "range" p) [a] [] pos) (tI X.K cf (.rng1 ca)):=by
 refine PI.imp (zjl hg.1 hg.2 (zaJ ha hst) (zaj hst [] X.env)) fun σ H R=>ex8 fun δ ι S Q hs hh w q=>?_;simp[evL,zaa]at w;refine tE.run hs hh w fun d v ι1 H1 S1 x1 hs1 hh1 r1 w1=>?_;cases d with
 |int j=>
  obtain rfl:v=.int j:=r1;dsimp only at w1;split at w1;rename_i c;have e:((List.range j.toNat).map fun(k:Nat)=>D.int k)=(List.range j.toNat).map fun(k:Nat)=>D.int (0+k):=by simp
  rw[e]at w1;exact⟨j,rfl,c.1,c.2,q _ _ ⟨_,[],ι1,S1,x1,hh1,w1,zgL 0 j.toNat⟩⟩;exact w1.elim
 |_=>exact w1.elim
theorem znj(hg:Gl X "range"/\X.mg "range"=none)(ha:PE X a (tE X.K cf ca))(hb:PE X b (tE X.K cf cb))(hst:zah a=true)(hst2:zah b=true):PI X tg (.Call (.Name "range" p) [a,b] [] pos) (tI X.K cf (.rng2 ca cb)):=by refine PI.imp (zjk hg.1 hg.2 (zcI ha (zaJ hb hst2) (zaj hst [b] X.env)) (by rw[zaj hst,zaj hst2];rfl) (zaj hst2 [] X.env)) fun σ H R=>ex8 fun δ ι S Q hs hh w q=>?_;simp[evL,zaa]at w;refine tE.run hs hh w fun d v ι1 H1 S1 x1 hs1 hh1 r1 w1=>tE.run hs1 hh1 w1 fun e u ι2 H2 S2 x2 hs2 hh2 r2 w2=>?_;split at w2;rename_i i j;obtain rfl:v=.int i:=r1;obtain rfl:u=.int j:=r2;split at w2;rename_i c;exact⟨i,j,rfl,c,q _ _ ⟨_,[],ι2,S2,x1.trans x2,hh2,w2,zgL i (j-i).toNat⟩⟩;exact w2.elim;exact w2.elim
theorem zbb{σ:L2.St}{fp:List Addr}(I:Inv X pins σ H s)(k:∀b o,b∉fp->s.heap.get? b=some o->h'.get? b=some o)(hf:∀b∈fp,FpOk X pins H b):Inv X pins σ H {s with heap:=h',toks:=t'}:=by
 have nit:∀b u,H b=some u->b∉fp:=fun b u e z=>by rw[(hf b z).1]at e;cases e
 refine I.step (g':=s.gens) (d':=s.drawn) (fun b hb=>?_) (fun b o _ _ hc e _=>k b o hc e) (fun b o _ _ hc e _=>⟨o.slots,k b o hc e⟩) (fun _ _ _ _ n=>n)
  (fun b o hc e=>⟨o,k b o hc e⟩) (fun _ _ e=>e) (fun _ _ _ e=>e) (fun b ps e=>⟨#[],by rw[e];simp⟩) (fun m hm=>?_) (fun b u e=>?_) I.bare
 obtain⟨f0,f1,f2,f3,f4,f5⟩:=hf b hb;exact⟨f3,f1,f4,f5⟩;obtain⟨o,es,ep,ho,r⟩:=hm;exact⟨o,es,ep,k _ o (fun z=>(hf _ z).2.1 rfl) ho,r⟩;refine(I.hok b u e).stay (fun c v hc q=>k c v ?_ q) (fun _ q=>q) fun _ _ q=>q;rcases hc with z|z;rw[z];exact nit b u e;exact nit c _ z
def tG(K:Frag)(is:List Nat):TG:=fun v σ H Qv=>∃δ ι d δ',RS K ι H δ σ/\RV K ι H d v/\asgG is d δ=some δ'/\∀σ',RS K ι H δ' σ'->Qv σ' H
def tGs(K:Frag)(is:List Nat):TGs:=fun vs σ H Qv=>∃δ ι ds,RS K ι H δ σ/\RVs K ι H ds vs/\ds.length=is.length/\∀σ',RS K ι H (zeh is ds δ) σ'->Qv σ' H
theorem PG.imp(h:PG X tg t)(i:∀v σ H Q,t' v σ H Q->t v σ H Q):PG X tg t':=fun pins s σ H v u Q I r q=>h pins s σ H v u Q I r (i v σ H Q q)
theorem PGs.imp(h:PGs X es t)(i:∀v σ H Q,t' v σ H Q->t v σ H Q):PGs X es t':=fun pins s σ H v u Q I r q=>h pins s σ H v u Q I r (i v σ H Q q)
theorem znm(G:Gd T cf k N sc X)(hi:N[i]?=some x)(hl:zfB sc x=true):PG X (.Name x pos) (tG X.K [i]):=by refine PG.imp (zjm (by rw[G.nm];exact G.nd) (by rw[G.nm];exact hi) (G.lc hl).1 (G.lc hl).2) fun v σ H Qv ⟨δ,ι,d,δ',hs,r,e,q⟩=>?_;cases e;exact q _ (hs.set r i)
noncomputable def zb8(sc:Scope)(N:List Str):List Nat->List Expr->Bool
 | [],[]=>true|i::is,.Name x _::es=>(N[i]?==some x)&&zfB sc x&&zb8 sc N is es|_,_=>false
theorem zfd(G:Gd T cf k N sc X):∀{is:List Nat}{es:List Expr},zb8 sc N is es=true->PGs X es (tGs X.K is)/\(assignEach es X.env).length=is.length/\(assignEach es X.env).findIdx? (·.1)=none
 | [],[],_=>⟨PGs.imp zn4 fun v σ H Qv ⟨δ,ι,ds,hs,r,hl,q⟩=>by
  have:ds=[]:=by simpa using hl
  subst this;exact⟨r,q σ (by simpa[zeh]using hs)⟩,rfl,rfl⟩
 | [],_::_,h=>by simp[zb8]at h|_::_,[],h=>by simp[zb8]at h| i::is,e::es,h=>by
  cases e with
  |Name x pos=>
   simp[zb8,and_eq_true,beq_iff_eq]at h;obtain⟨h1,h2,h3⟩:=zfd G h.2;refine⟨PGs.imp (zlB (zjm (by rw[G.nm];exact G.nd) (by rw[G.nm];exact h.1.1) (G.lc h.1.2).1 (G.lc h.1.2).2) h1) fun v σ H Qv ⟨δ,ι,ds,hs,r,hl,q⟩=>?_,?_,?_⟩;cases ds with|nil=>simp at hl| cons d ds=>obtain⟨v1,vr,rfl,r1,r2⟩:=r;refine⟨v1,vr,rfl,?_⟩;exact⟨δ.set i (some d),ι,ds,hs.set r1 i,r2,by simpa using hl,fun σ' hs'=>q σ' (by simpa[zeh]using hs')⟩
   show((false,_)::assignEach es X.env).length=_;simp[h2];show((false,_)::assignEach es X.env).findIdx? _=_;simp[List.findIdx?_cons,h3]
  |_=>simp[zb8]at h
theorem zml(h2:2<=is.length)(e:asgG is d δ=some δ'):∃ds,d=.tup ds/\ds.length=is.length/\δ'=zeh is ds δ:=by
 match is,h2 with
 |a::b::t,_=>
  cases d with
  |tup ds=>simp only[asgG]at e;split at e;rename_i c;cases e;exact⟨ds,rfl,c,rfl⟩;cases e
  |_=>cases e
theorem zmt(G:Gd T cf k N sc X)(h:zb8 sc N is es=true)(h2:2<=is.length):PG X (.Tuple es j pos) (tG X.K is):=by obtain⟨h1,hn,hst⟩:=zfd G h;refine PG.imp (zqh G.calm h1 hn hst) fun v σ H Qv ⟨δ,ι,d,δ',hs,r,e,q⟩=>?_;obtain⟨ds,rfl,c,rfl⟩:=zml h2 e;obtain⟨a,xs,rfl,ha,rr⟩:=r;exact⟨a,xs,rfl,SqT.of ha,by rw[rr.length];exact c,δ,ι,ds,hs,rr,c,q⟩
theorem Ext.tmp{p:Addr}(x:Ext ι H ι' H')(hn:H p=none)(e:H' p=some (.lst vs)):Ext ι H ι' (upd H' p (.lst us)):=by refine⟨x.pre,x.kp.trans (.same (Tups.upd_lst e) (fun b o u h=>?_) fun b ps h=>?_),fun b o hb eb=>?_⟩;rw[zag];exact h;rintro rfl;rw[e]at h;cases h;rw[zag];exact h;rintro rfl;rw[e]at h;cases h;obtain⟨h1,h2⟩:=x.rest b o hb eb;refine⟨?_,h2⟩;rw[zag];exact h1;rintro rfl;rw[hn]at eb;cases eb
theorem Kp.tmp{p:Addr}(e:H p=some (.lst vs)):Kp H (upd H p (.lst us)):=.same (Tups.upd_lst e) (fun b o u h=>by
 rw[zag];exact h;rintro rfl;rw[e]at h;cases h) fun b ps h=>by
 rw[zag];exact h;rintro rfl;rw[e]at h;cases h
theorem RH.tmp{K:Frag}{p:Addr}(hh:RH K ι H S)(hp:p∉ι)(e:H p=some (.lst vs)):RH K ι (upd H p (.lst us)) S:=⟨hh.len,hh.nd,fun l o q=>by obtain⟨a,h1,h2,hm⟩:=hh.mem q;exact⟨a,h1,h2.up (prefix_refl _) (Kp.tmp e) (zag fun z=>hp (z▸hm))⟩,(Kp.tmp e).tab hh.tab⟩
theorem RS.up{K:Frag}(h:RS K ι H δ σ)(hp:ι <+: ι')(hk:Kp H H'):RS K ι' H' δ σ:=⟨h.1,fun i d e=>let ⟨v,e1,r⟩:=h.2 i d e;⟨v,e1,r.up hp hk⟩⟩
theorem RH.lk{K:Frag}(hh:RH K ι H S)(ks:List Nat):RH K ι H {S with lk:=ks}:=⟨hh.len,hh.nd,fun l o e=>hh.obj l o e,hh.tab⟩
theorem RS.csl{K:Frag}(h:RS K ι H δ σ)(nt:Nat)(js:List Nat):RS K ι H (R.csl nt js δ) (L2.csl nt js σ):=by
 refine⟨by simp[R.csl,L2.csl],fun i d e=>?_⟩;unfold R.csl at e;unfold L2.csl;by_cases hi:i<nt;rw[getElem?_append_left (by simpa using hi),List.getElem?_replicate]at e;rw[if_pos hi]at e;cases e;rw[getElem?_append_right (by simpa using hi)]at e⊢;simp only[length_replicate,getElem?_map]at e⊢;cases ej:js[i-nt]? with
 |none=>rw[ej]at e;cases e
 |some j=>
  rw[ej]at e;simp at e⊢;have e2:δ[j]?=some (some d):=by
   cases z:δ[j]? with
   |none=>rw[z]at e;cases e
   |some o=>rw[z]at e;simp at e;rw[e]
  obtain⟨v,ev,r⟩:=h.2 j d e2;exact⟨v,by rw[ev];rfl,r⟩
theorem zfN{α:Type}{xs:List α}{x:α}(h:xs[i]?=some x):xs.drop i=x::xs.drop (i+1):=by obtain⟨h1,h2⟩:=List.getElem?_eq_some_iff.mp h;rw[List.drop_eq_getElem_cons h1,h2]
def CInv(K:Frag)(cf:CF)(g:List Nat)(c e:CE)(Q:List D×List Nat->R.St->Prop)(ds:List D)(lks:List Nat)(ι1:List Addr)(H1:Hp)(S1:R.St)(p:Addr)(i:Nat)(σ':L2.St)(H':Hp):Prop:=
 i<=ds.length/\∃δ' ι' S' acc vs,RS K ι' H' δ' σ'/\Ltr K ι1 H1 S1 lks ι' H' S'/\S'.lk=lks++S1.lk/\S1.len<=S'.len/\p∉ι'/\H' p=some (.lst vs)/\RVs K ι' H' acc vs/\
  W (zaI g (evT cf c) (evE cf e) (ds.drop i) δ' S') fun rest S2=>(acc++rest).length<=16777216/\Q (acc++rest,[]) {S2 with lk:=S1.lk}
theorem zhu(hcf:CFok cf)(h:tLt X.K cf (.comp nt js is it c e) σ H Qv):zna nt js (tI X.K cf it) (tG X.K is) (tT X.K cf c) (tE X.K cf e) σ H Qv:=by
 obtain⟨δ,ι,S,Q,hs,hh,w,q⟩:=h;simp[evL,zaa]at w;refine⟨δ,ι,S,_,hs,hh,w,fun J H1 ⟨ds,lks,ι1,S1,x1,hh1,w1,wk⟩=>?_⟩;dsimp only at w1;unfold zbg at w1;rw[zaa]at w1;intro p hp;have hpi:=hh1.fresh hp;refine⟨fun i m σ' H'=>m=ds.length-i/\CInv X.K cf is c e Q ds lks ι1 H1 S1 p i σ' H',⟨_,rfl,zero_le _,R.csl nt js δ,ι1,{S1 with lk:=lks++S1.lk},[],[],((hs.ext x1).csl _ _).up (prefix_refl _) (Kp.new hp _),⟨Ext.new hp _,(hh1.lk _).new hp _,fun l _=>rfl⟩,rfl,le_refl _,hpi,zal,rfl,?_⟩,?_⟩;refine w1.mono fun rest S2 w2=>?_;simp at w2;split at w2;rename_i c;exact⟨by simpa using c,by simpa using w2⟩;exact w2.elim;rintro i m σ' H' ⟨rfl,hle,δ',ι',S',acc,vs,hs',lt,hlk,hln,hpn,hpv,ra,wt⟩;rcases Nat.lt_or_eq_of_le hle with hlt|rfl;refine .inr ⟨wk.go i ι' H' S' lt hlt,CInv X.K cf is c e Q ds lks ι1 H1 S1 p (i+1),fun σ2 H2 h=>⟨_,by omega,rfl,h⟩,fun x H2 hy=>?_⟩;obtain⟨x2,hh2,d,hd,rd⟩:=wk.yld i ι' H' S' x H2 lt hlt hy;have hs2:=hs'.ext x2;have hp2:=x2.keep hpn hpv (by simp);rw[zfN hd]at wt;simp only[zaI]at wt;cases ea:asgG is d δ' with
 |none=>rw[ea]at wt;exact wt.elim| some δ2=>
  rw[ea]at wt;rw[zaa]at wt;refine⟨δ',ι',d,δ2,hs2,rd,ea,fun σ2 hs3=>?_⟩;refine tT.run hs3 hh2 (zeW hcf c δ2 S' _ wt) fun b ι3 H3 S3 x3 hs4 hh3 w3=>?_;obtain⟨w3,f3⟩:=w3;have hp3:=x3.keep hpn hp2 (by simp);have hpn3:=(x3.rest p _ hpn hp2).2;have keep:∀{S4:R.St},Frm S' S4->S4.lk=lks++S1.lk/\S1.len<=S4.len/\∀l∈lks,S4.get l=S1.get l:=fun f=>⟨f.lk.trans hlk,le_trans hln f.lens,fun l hl=>(f.same l (by rw[hlk];exact mem_append_left _ hl) (lt_of_lt_of_le (wk.lks l hl) hln)).trans (lt.lck l hl)⟩;cases b with
  |false=>obtain⟨k1,k2,k3⟩:=keep f3;exact⟨hlt,δ2,ι3,S3,acc,vs,hs4,⟨(lt.ext.trans x2).trans x3,hh3,k3⟩,k1,k2,hpn3,hp3,(ra.ext x2).ext x3,w3⟩| true=>
   simp only[if_true]at w3⊢;rw[zaa]at w3;refine tE.run hs4 hh3 (zaq hcf e δ2 S3 _ w3) fun z v ι4 H4 S4 x4 hs5 hh4 rz w4=>?_;obtain⟨w4,f4⟩:=w4;obtain⟨k1,k2,k3⟩:=keep (f3.trans f4);have hp4:=x4.keep hpn3 hp3 (by simp);have hpn4:=(x4.rest p _ hpn3 hp3).2;rw[zaa]at w4;have ra4:=((ra.ext x2).ext x3).ext x4;have hlen:acc.length<16777216:=by obtain⟨rest,S5,_,w5⟩:=zf0 w4;have:=w5.1;simp at this;omega
   refine⟨vs,hp4,by rw[ra4.length,sizeLine_eq];exact hlen,hlt,δ2,ι4,S4,acc++[z],vs++[v],hs5.up (prefix_refl _) (Kp.tmp hp4),⟨(((lt.ext.trans x2).trans x3).trans x4).tmp hp hp4,hh4.tmp hpn4 hp4,k3⟩,k1,k2,hpn4,zal,?_,?_⟩;exact(RVs.append (es:=[z]) ra4 ⟨v,[],rfl,rz,rfl⟩).up (prefix_refl _) (Kp.tmp hp4);refine w4.mono fun rest S5 w5=>?_;simpa using w5
 refine .inl ⟨wk.stop _ ι' H' S' lt (le_refl _),?_⟩;rw[List.drop_length]at wt;simp[zaI,W_ok,append_nil]at wt;exact q _ _ ⟨acc,ι',{S' with lk:=S1.lk},p,vs,x1.trans lt.ext,rfl,ra,hpn,hpv,lt.rh.lk _,zkQ hh1 x1 hp,wt.2⟩
noncomputable def Ite(K:Frag)(a:Addr):It:=
 ⟨fun i H=>∃xs x,SqL K H a xs/\xs[i]?=some x,
  fun i H v H'=>∃T x,H T=none/\v=.ref T/\H'=upd H T (.tup [.int i,x])/\∀xs,SqL K H a xs->xs[i]?=some x,
  fun i H=>∃xs,SqL K H a xs/\xs.length<=i⟩
theorem ziH{K:Frag}(hne:e≠it):Turn P w K (.Tuple es j pt) (Ite K a) [e,it] e
  (fun i h=>(∃old,IsEnum h e it i old)/\h.IsListIter it a i) where
 mem:=by simp
 obj:=fun i h st c hc=>by obtain⟨⟨old,h1⟩,⟨o4,h4,_,d4⟩⟩:=st;simp at hc;rcases hc with rfl|rfl;exact⟨_,h1,fun v z=>by cases z⟩;exact⟨_,h4,fun v z=>by rw[d4]at z;cases z⟩
 keep:=fun i h h' st k=>by obtain⟨⟨old,h1⟩,h4⟩:=st;exact⟨⟨old,k e (by simp) _ h1⟩,h4.at fun o x=>k it (by simp) o x⟩
 item:=by
  intro X hP hw hK hc i pins s σ H E I hf st hg;subst hP hw hK;obtain⟨xs,x,hq,hx⟩:=hg;obtain⟨xv,rx,px,_⟩:=I.list hq;obtain⟨u,hu,ru⟩:=rx.get hx;obtain⟨⟨old,he⟩,h1⟩:=st;refine wpAny_pyNext_enum_item he h1 px.isList (by simpa using hu) hne fun h' a1 a3 a5 a6 hk=>?_;have hn:H s.heap.objs.size=none:=I.hok.fresh (le_refl _);have I1:Inv X pins σ (upd H s.heap.objs.size (.tup [.int i,x])) {s with heap:=s.heap.push {cls:=.type "tuple",data:=.seq #[.int i s.toks,u]},toks:=s.toks+1}:=I.laid (t':=s.toks+1) (fun b u e=>Heap.get?_push_of_some _ e) (le_refl _) ⟨by rw[sizeLine_eq];simp,[.int i s.toks,u],.cons ⟨_,rfl⟩ (.cons ru .nil),⟨_,Heap.get?_push_size _ rfl,rfl,_,rfl⟩⟩;have lt:∀{c o},s.heap.get? c=some o->c≠s.heap.objs.size:=fun e=>ne_of_lt (Heap.lt_size e);have nf:∀c∈[e,it],c≠s.heap.objs.size:=by intro c hc;simp at hc;rcases hc with rfl|rfl;exact lt he;obtain⟨o,z,_⟩:=h1;exact lt z
  have hf1:∀c∈[e,it],FpOk X pins (upd H s.heap.objs.size (.tup [.int i,x])) c:=fun c hc=>by obtain⟨f0,f⟩:=hf c hc;exact⟨by rw[zag (nf c hc)];exact f0,f⟩
  have two:∀{c:Addr},¬c∈[e,it]->c≠e/\c≠it:=fun {c} hc=>by simp at hc;exact hc
  have k2:∀c o,¬c∈[e,it]->(s.heap.push {cls:=.type "tuple",data:=.seq #[.int i s.toks,u]}).get? c=some o->h'.get? c=some o:=fun c o hc z=>by by_cases hs:c=s.heap.objs.size;subst hs;have e2:(s.heap.push {cls:=.type "tuple",data:=.seq #[.int i s.toks,u]}).get? s.heap.objs.size=_:=Heap.get?_push_size _ rfl;rw[e2]at z;cases z;exact a5;exact hk c o (two hc).1 (two hc).2 ((Heap.get?_push_ne _ _ _ hs).symm.trans z)
  have I2:Inv X pins σ (upd H s.heap.objs.size (.tup [.int i,x])) {s with heap:=h',toks:=s.toks+1}:=zbb (s:={s with heap:=s.heap.push {cls:=.type "tuple",data:=.seq #[.int i s.toks,u]},toks:=s.toks+1}) (h':=h') (t':=s.toks+1) I1 k2 hf1;refine⟨_,rfl,?_⟩;refine wpAny_letOwnedTupleGo_enum a1 fun h2' hz' hs'=>?_;refine⟨.ref s.heap.objs.size,upd H s.heap.objs.size (.tup [.int i,x]),zbb (t':=s.toks+1) I2 (fun c o hc z=>hs'.extBut _ _ (two hc).1 z) hf1,rfl,⟨_,x,hn,rfl,rfl,fun xs' hx'=>by rw[I.list_inj hx' hq];exact hx⟩,
   ⟨⟨_,hz'⟩,a3.extBut hs'.extBut (Ne.symm hne)⟩,fun c hc=>(hf1 c hc).1⟩
 done:=by intro X hP hw hK hc i pins s σ H E I hf st hg;subst hP hw hK;obtain⟨xs,hq,hl⟩:=hg;obtain⟨xv,rx,px,_⟩:=I.list hq;obtain⟨⟨old,he⟩,h1⟩:=st;have l1:=rx.length;refine wpAny_pyNext_enum_end (I.ok.hd hc) he h1 px.isList (by simp;omega) fun h' hk=>⟨rfl,zbb (t':=s.toks) I (fun c o hc z=>hk c o (fun q=>hc (by simp[q])) z) hf⟩
 self:=fun _ _ _ _ _ st h=>wpAny_pyIter_enum st.1.choose_spec h
theorem zm1{K:Frag}(hl:S.get l=some (.lst ds))(ha:ι[l]?=some a):Wk K (Ite K a) (ds.mapIdx fun i d=>zcv (.int i) d) [l] ι H S:=by
 have get:∀{ι2 H2 S2},Ltr K ι H S [l] ι2 H2 S2->∃xs,SqL K H2 a xs/\RVs K ι2 H2 ds xs:=fun {ι2 H2 S2} lt=>by obtain⟨a',h2,xs,hx,rx⟩:=lt.rh.obj l (.lst ds) ((lt.lck l (by simp)).trans hl);rw[zbL lt.ext.pre ha]at h2;cases h2;exact⟨xs,SqL.of hx,rx⟩
 refine⟨fun i ι2 H2 S2 lt hi=>?_,fun i ι2 H2 S2 x H' lt hi y=>?_,fun i ι2 H2 S2 lt hi=>?_,fun k hk=>?_⟩;obtain⟨xs,hx,rx⟩:=get lt;rw[length_mapIdx]at hi;have h1:=rx.length;exact⟨xs,xs[i]'(by omega),hx,List.getElem?_eq_getElem _⟩;obtain⟨xs,hx,rx⟩:=get lt;obtain⟨T,u,hT,rfl,rfl,y1⟩:=y;obtain⟨d,ed,rd⟩:=rx.get' (y1 xs hx);have x2:Ext ι2 H2 ι2 (upd H2 T (.tup [.int i,u])):=Ext.new hT _;refine⟨x2,lt.rh.new hT _,zcv (.int i) d,by rw[List.getElem?_mapIdx,ed];rfl,?_⟩;exact⟨T,[.int i,u],rfl,zal,.int i,[u],rfl,rfl,u,[],rfl,rd.ext x2,rfl⟩;obtain⟨xs,hx,rx⟩:=get lt;rw[length_mapIdx]at hi;have h1:=rx.length;exact⟨xs,hx,by omega⟩;cases mem_singleton.mp hk;exact zai hl
end
end R
namespace R
open PySem PySem.Spec PyProof.Rows L2
open AutoSeq1 (wpAny_loadPart')
section
variable{prog:Program}{w:World}{A:Around}{E:Value->Shared->Prop}{s:Shared}
theorem zh4(hit:s.heap.IsTupleIter it t i)(ht:s.heap.IsTuple t items)(hx:items[i]?=some x)
  (hQ:∀h',h'.IsTupleIter it t (i+1)->Heap.SameBut it s.heap h'->Q x {s with heap:=h'}):wpAny (model prog w) A (Builtin.SmallTypes.nextOf (.ref it)) Q E s:=by
 obtain⟨o,ho,hc,hd⟩:=id hit;obtain⟨ol,hol,_,nl,hdl⟩:=ht;refine wpAny_bind (wpAny_callSpecial?_slot hit.typeIs PySem.F.slot_tuple_iterator_next
  (wpAny_call_entry PySem.F.slot_tuple_iterator_next hit.typeIs PySem.F.entry_tuple_iterator_next ?_ (PySem.F.args_tuple_iterator_next_1 _)))
 show wpAny _ _ (field (.ref it) 0>>=_) _ _ s;refine wpAny_bind (wpAny_field ho hd rfl ?_);refine wpAny_bind (wpAny_field ho hd rfl ?_);refine wpAny_bind (wpAny_seqItems hol hdl ?_);simp[Int.toNat_natCast,hx];refine wpAny_bind (wpAny_setField ho hd (by simp) (wpAny_pure ⟨x,rfl,wpAny_pure (hQ _ ?_ (Heap.SameBut.update ..))⟩));exact⟨_,Heap.get?_update_self _ ho (Obj.isFreed_of_fields (Obj.data_mapFields hd _)),(Obj.cls_mapFields ..).trans hc,by
  rw[Obj.data_mapFields hd];simp[rawInt]⟩
theorem zfs(hh:A.handled=none)(hit:s.heap.IsTupleIter it t i)(ht:s.heap.IsTuple t items)(hx:items[i]?=none)
  (hE:∀h' e,Heap.ExtBut it s.heap h'->(∃o,h'.get? e=some o/\o.cls=.type "StopIteration")->E (.ref e) {s with heap:=h'}):wpAny (model prog w) A (Builtin.SmallTypes.nextOf (.ref it)) Q E s:=by
 obtain⟨o,ho,hc,hd⟩:=id hit;obtain⟨ol,hol,_,nl,hdl⟩:=ht;refine wpAny_bind (wpAny_callSpecial?_slot hit.typeIs PySem.F.slot_tuple_iterator_next
  (wpAny_call_entry PySem.F.slot_tuple_iterator_next hit.typeIs PySem.F.entry_tuple_iterator_next ?_ (PySem.F.args_tuple_iterator_next_1 _)))
 show wpAny _ _ (field (.ref it) 0>>=_) _ _ s;refine wpAny_bind (wpAny_field ho hd rfl ?_);refine wpAny_bind (wpAny_field ho hd rfl ?_);refine wpAny_bind (wpAny_seqItems hol hdl ?_);simp[Int.toNat_natCast,hx]
 first|refine wpAny_bind (wpAny_rule (wpAny_bind (wpAny_setField ho hd (by simp) ?_)))|refine wpAny_bind (wpAny_setField ho hd (by simp) ?_)
 apply wpAny_bind;refine wpAny_bind (m:=firstArgMember _ _) (wpAny_of_eq (by first|rfl|(simp only;rfl)) ?_);refine wpAny_newObj_type ?_ (by size_fits);refine wpAny_bind (wpAny_handled ?_)
 first|rw[show A.in1.handled=none from hh]|rw[hh]
 refine wpAny_bind (wpAny_pure (wpAny_throw ?_));exact hE _ _ (((Heap.SameBut.update ..).extBut.push _).push _) ⟨_,Heap.get?_push_size _ rfl,rfl⟩
end
theorem zkl{i:Nat}(hh:A.handled=none)(he:IsEnum s.heap e it i old)(hit:s.heap.IsTupleIter it t i)(ht:s.heap.IsTuple t items)(hx:items[i]?=none)
  (hQ:∀h',Heap.ExtBut it s.heap h'->Q none {s with heap:=h'}):wpAny (model prog w) A (pyNext (.ref e)) Q E s:=by
 have hT:s.TypeIs (.ref e) "enumerate":=⟨_,he,rfl⟩;refine wpAny_bind (wpAny_attempt (wpAny_callSpecial?_slot hT PySem.F.slot_enumerate_next
  (wpAny_call_entry PySem.F.slot_enumerate_next hT PySem.F.entry_enumerate_next ?_ (PySem.F.args_enumerate_next_1 _))))
 show wpAny _ _ (field (.ref e) 2>>=_) _ _ _;refine wpAny_bind (wpAny_field he rfl rfl ?_);refine wpAny_bind (zfs hh hit ht hx fun h' x he' hx'=>?_);obtain⟨o,ho,hc⟩:=hx';refine wpAny_bind (wpAny_isInstance ⟨o,ho,hc⟩ isSubtype_stop ?_);exact wpAny_pure (hQ _ he')
theorem zrk(hh:A.handled=none)(it l:Addr)(hne:l≠it)(items:Array Value) :
  Draws prog w A it [it,l] items.size (fun i v=>items[i]?=some v) (fun i h=>h.IsTupleIter it l i/\h.IsTuple l items) where
 live:=fun _ _ st=>let ⟨o,ho,_⟩:=st.1;⟨o,ho⟩
 frame:=fun _ _ _ st hk=>⟨let ⟨o,ho,r⟩:=st.1;⟨o,hk it (by simp) o ho,r⟩,let ⟨o,ho,r⟩:=st.2;⟨o,hk l (by simp) o ho,r⟩⟩
 item:=fun i s Q E hi st hQ=>by refine zh4 st.1 st.2 (x:=items[i]) (by simp) fun h' hit' hs'=>?_;exact hQ _ h' s.toks (by simp) ⟨hit',st.2.extBut hs'.extBut hne⟩ hs'
 done:=fun s Q E st hE=>zfs hh st.1 st.2 (by simp) hE
theorem zkk(l:Addr)(items:Array Value)(n:Nat)(dct:Option Addr)(sl:Array (Option Value)) :
  Meets (Builtin.«enumerate.__new__» ⟨[.type "enumerate",.ref l],[]⟩) (fun _ R s=>s.heap.get? l=some {cls:=.type "tuple",dict:=dct,data:=.seq items n,slots:=sl}/\
   R (.ok (.ret (.ref (s.heap.push {cls:=.type "tuple_iterator",data:=.fields #[.ref l,.int 0 0]}).objs.size)))
    {s with heap:=(s.heap.push {cls:=.type "tuple_iterator",data:=.fields #[.ref l,.int 0 0]}).push {cls:=.type "enumerate",data:=.fields #[.none,.bool false,.ref s.heap.objs.size,rawInt 0,.none,.none]}}):=
 .of_wp fun prog w A R s h=>by
  obtain⟨hp,g,d,tk,os⟩:=s;obtain⟨hl,h⟩:=h;have hsub:=sub_enumerate;have hL:Heap.IsTuple (Shared.heap ⟨hp,g,d,tk,os⟩) l items:=⟨_,hl,rfl,n,rfl⟩
  wp_walk using wpAny_loadPart' hl
  refine wpAny_stack_any fun st=>wpAny_pure ?_;split;rename_i c _ _ _ _ _;cases(c==Value.type "enumerate")
  . wp_walk using wpAny_loadPart' hl,wpAny_pyIter_tuple hL
    exact⟨_,rfl,h⟩
  . wp_walk using wpAny_loadPart' hl,wpAny_pyIter_tuple hL
    exact⟨_,rfl,h⟩
  . wp_walk using wpAny_loadPart' hl,wpAny_pyIter_tuple hL
    exact⟨_,rfl,h⟩
theorem zih(hL:s.heap.IsTuple l items)
  (h:∀h',IsEnum h' (s.heap.objs.size+1) s.heap.objs.size 0 .none->h'.IsTupleIter s.heap.objs.size l 0->h'.objs.size=s.heap.objs.size+2->
   (∀b o,s.heap.get? b=some o->h'.get? b=some o)->Q (.ref (s.heap.objs.size+1)) {s with heap:=h'}) :
  wpAny (model prog w) A (call (.type "enumerate") [.ref l]) Q E s:=by
 obtain⟨⟨c,dct,dt,sl⟩,hl,hc,n,hd⟩:=hL;subst hc hd;refine callType_new PySem.F.called_enumerate (by decide) (PySem.F.typeCall_enumerate_1 _) (PySem.F.newCall_enumerate_1 _) (fun obj=>PySem.F.args_object_init_2 obj _) PySem.F.entry_enumerate_new
  (zkk l items n dct sl) ⟨hl,?_⟩
 have hz:(s.heap.push {cls:=.type "tuple_iterator",data:=.fields #[.ref l,.int 0 0]}).objs.size=s.heap.objs.size+1:=Heap.size_push ..;rw[hz];have he:IsEnum ((s.heap.push {cls:=.type "tuple_iterator",data:=.fields #[.ref l,.int 0 0]}).push
   {cls:=.type "enumerate",data:=.fields #[.none,.bool false,.ref s.heap.objs.size,rawInt 0,.none,.none]}) (s.heap.objs.size+1) s.heap.objs.size 0 .none:=by
  have:=Heap.get?_push_size (s.heap.push {cls:=.type "tuple_iterator",data:=.fields #[.ref l,.int 0 0]})
   (o:={cls:=.type "enumerate",data:=.fields #[.none,.bool false,.ref s.heap.objs.size,rawInt 0,.none,.none]}) rfl
  rw[hz]at this;exact this
 refine⟨⟨_,he,rfl⟩,h _ he ⟨_,Heap.get?_push_of_some _ (Heap.get?_push_size _ rfl),rfl,rfl⟩ (by rw[Heap.size_push,hz]) fun b o x=>Heap.get?_push_of_some _ (Heap.get?_push_of_some _ x)⟩
variable[Mks]
section
variable{T:Tab}{cf:CF}{k:Nat}{N:List Str}{sc:Scope}{X:Cx}{pos p:Pos}{tg:Expr}
noncomputable def IteT(K:Frag)(a:Addr):It:=
 ⟨fun i H=>∃xs x,SqT K H a xs/\xs[i]?=some x,
  fun i H v H'=>∃T x,H T=none/\v=.ref T/\H'=upd H T (.tup [.int i,x])/\∀xs,SqT K H a xs->xs[i]?=some x,
  fun i H=>∃xs,SqT K H a xs/\xs.length<=i⟩
theorem zhI{K:Frag}(hne:e≠it)(hai:a≠it)(hae:a≠e):Turn P w K (.Tuple es j pt) (IteT K a) [e,it] e
  (fun i h=>(∃old,IsEnum h e it i old)/\h.IsTupleIter it a i) where
 mem:=by simp
 obj:=fun i h st c hc=>by obtain⟨⟨old,h1⟩,⟨o4,h4,_,d4⟩⟩:=st;simp at hc;rcases hc with rfl|rfl;exact⟨_,h1,fun v z=>by cases z⟩;exact⟨_,h4,fun v z=>by rw[d4]at z;cases z⟩
 keep:=fun i h h' st k=>by obtain⟨⟨old,h1⟩,⟨o,h4,r⟩⟩:=st;exact⟨⟨old,k e (by simp) _ h1⟩,⟨o,k it (by simp) o h4,r⟩⟩
 item:=by
  intro X hP hw hK hc i pins s σ H E I hf st hg;subst hP hw hK;obtain⟨xs,x,hq,hx⟩:=hg;obtain⟨xv,rx,px,_⟩:=I.tuple hq;obtain⟨u,hu,ru⟩:=rx.get hx;obtain⟨⟨old,he⟩,h1⟩:=st;have hlt:i<xv.length:=(List.getElem?_eq_some_iff.mp hu).1;refine wpAny_pyNext_enum_itemD (zrk (A:=X.A.in1) (I.ok.hd hc) it a hai xv.toArray) he ⟨h1,px⟩ (by simpa using hlt) hne (by simp[hne,Ne.symm hae]) fun x' h' tk0 hx' a1 a3 a5 a6 hk=>?_;have ex:x'=u:=by
   have hu':xv.toArray[i]?=some u:=by simpa using hu
   rw[hu']at hx';exact(Option.some.inj hx').symm
  subst ex;have hn:H s.heap.objs.size=none:=I.hok.fresh (le_refl _);have I1:Inv X pins σ (upd H s.heap.objs.size (.tup [.int i,x])) {s with heap:=s.heap.push {cls:=.type "tuple",data:=.seq #[.int i tk0,x']},toks:=tk0+1}:=I.laid (t':=tk0+1) (fun b u e=>Heap.get?_push_of_some _ e) (le_refl _) ⟨by rw[sizeLine_eq];simp,[.int i tk0,x'],.cons ⟨_,rfl⟩ (.cons ru .nil),⟨_,Heap.get?_push_size _ rfl,rfl,_,rfl⟩⟩;have lt:∀{c o},s.heap.get? c=some o->c≠s.heap.objs.size:=fun e=>ne_of_lt (Heap.lt_size e);have nf:∀c∈[e,it],c≠s.heap.objs.size:=by intro c hc;simp at hc;rcases hc with rfl|rfl;exact lt he;obtain⟨o,z,_⟩:=h1;exact lt z
  have hf1:∀c∈[e,it],FpOk X pins (upd H s.heap.objs.size (.tup [.int i,x])) c:=fun c hc=>by obtain⟨f0,f⟩:=hf c hc;exact⟨by rw[zag (nf c hc)];exact f0,f⟩
  have two:∀{c:Addr},¬c∈[e,it]->c≠e/\c≠it:=fun {c} hc=>by simp at hc;exact hc
  have k2:∀c o,¬c∈[e,it]->(s.heap.push {cls:=.type "tuple",data:=.seq #[.int i tk0,x']}).get? c=some o->h'.get? c=some o:=fun c o hc z=>by by_cases hs:c=s.heap.objs.size;subst hs;have e2:(s.heap.push {cls:=.type "tuple",data:=.seq #[.int i tk0,x']}).get? s.heap.objs.size=_:=Heap.get?_push_size _ rfl;rw[e2]at z;cases z;exact a5;exact hk c o (two hc).1 (two hc).2 ((Heap.get?_push_ne _ _ _ hs).symm.trans z)
  have I2:Inv X pins σ (upd H s.heap.objs.size (.tup [.int i,x])) {s with heap:=h',toks:=tk0+1}:=zbb (s:={s with heap:=s.heap.push {cls:=.type "tuple",data:=.seq #[.int i tk0,x']},toks:=tk0+1}) (h':=h') (t':=tk0+1) I1 k2 hf1;refine⟨_,rfl,?_⟩;refine wpAny_letOwnedTupleGo_enum a1 fun h2' hz' hs'=>?_;refine⟨.ref s.heap.objs.size,upd H s.heap.objs.size (.tup [.int i,x]),zbb (t':=tk0+1) I2 (fun c o hc z=>hs'.extBut _ _ (two hc).1 z) hf1,rfl,⟨_,x,hn,rfl,rfl,fun xs' hx'=>by rw[I.tuple_inj hx' hq];exact hx⟩,
   ⟨⟨_,hz'⟩,(let ⟨o,ho,r⟩:=a3.1;⟨o,hs'.extBut _ _ (Ne.symm hne) ho,r⟩)⟩,fun c hc=>(hf1 c hc).1⟩
 done:=by intro X hP hw hK hc i pins s σ H E I hf st hg;subst hP hw hK;obtain⟨xs,hq,hl⟩:=hg;obtain⟨xv,rx,px,_⟩:=I.tuple hq;obtain⟨⟨old,he⟩,h1⟩:=st;have l1:=rx.length;refine zkl (I.ok.hd hc) he h1 px (by simp;omega) fun h' hk=>⟨rfl,zbb (t':=s.toks) I (fun c o hc z=>hk c o (fun q=>hc (by simp[q])) z) hf⟩
 self:=fun _ _ _ _ _ st h=>wpAny_pyIter_enum st.1.choose_spec h
def zq5(K:Frag)(t:TA):TI:=fun σ H R=>t σ H fun vs H1=>∃a xs,vs=[.ref a]/\((SqL K H1 a xs/\R (Ite K a) H1)\/(SqT K H1 a xs/\R (IteT K a) H1))
theorem zlA(hg:Gl X "enumerate")(hm:X.mg "enumerate"=none)(ha:PA X [a] ta)(hs:starEach [a] X.env=[(false,eval a X.env)]) :
  PI X (.Tuple es j pt) (.Call (.Name "enumerate" p) [a] [] pos) (zq5 X.K ta):=by
 intro pins s σ H R I h;refine Call_ (zds I hg hm boot_enumerate (PyProof.Rows.callWith_type1 (thn (ha pos pins s σ H _ I h) fun us s1=>ex5 fun vs H1 I1 r1 q1=>?_) hs rfl));obtain⟨l,xs,e,q1⟩:=q1;subst e;cases r1 with
 |cons r rr=>
  cases rr;cases r;rcases q1 with⟨q1,q⟩|⟨q1,q⟩;obtain⟨xv,rx,px,_⟩:=I1.list q1;refine call_enumerate_list px.isList fun h' he hi hsz hk=>?_;apply wpAny_pyIter_enum he;refine⟨_,_,_,_,H1,rfl,I1.kept (t':=s1.toks) hk,ziH (Nat.succ_ne_self _),⟨⟨_,he⟩,hi⟩,fun c hc=>?_,q⟩;simp at hc;have:s1.heap.objs.size<=c:=by rcases hc with rfl|rfl;exact le_succ _;exact le_refl _
  exact I1.fpOk this (I1.hok.fresh this);obtain⟨xv,rx,px,_⟩:=I1.tuple q1;have hlt:l<s1.heap.objs.size:=px.lt;refine zih px fun h' he hi hsz hk=>?_;apply wpAny_pyIter_enum he;refine⟨_,_,_,_,H1,rfl,I1.kept (t':=s1.toks) hk,zhI (Nat.succ_ne_self _) (ne_of_lt hlt) (ne_of_lt (lt_succ_of_lt hlt)),⟨⟨_,he⟩,hi⟩,fun c hc=>?_,q⟩;simp at hc;have:s1.heap.objs.size<=c:=by rcases hc with rfl|rfl;exact le_succ _;exact le_refl _
  exact I1.fpOk this (I1.hok.fresh this)
theorem zkZ{K:Frag}(ha:H a=some (.tup xs))(rx:RVs K ι H ds xs):Wk K (IteT K a) (ds.mapIdx fun i d=>zcv (.int i) d) [] ι H S:=by have get:∀{ι2 H2 S2},Ltr K ι H S [] ι2 H2 S2->SqT K H2 a xs/\RVs K ι2 H2 ds xs:=fun {ι2 H2 S2} lt=>⟨SqT.of (lt.ext.kp.tups _ _ ha),rx.ext lt.ext⟩;refine⟨fun i ι2 H2 S2 lt hi=>?_,fun i ι2 H2 S2 x H' lt hi y=>?_,fun i ι2 H2 S2 lt hi=>?_,fun k hk=>by cases hk⟩;obtain⟨hx,rx⟩:=get lt;rw[length_mapIdx]at hi;have h1:=rx.length;exact⟨xs,xs[i]'(by omega),hx,List.getElem?_eq_getElem _⟩;obtain⟨hx,rx⟩:=get lt;obtain⟨T,u,hT,rfl,rfl,y1⟩:=y;obtain⟨d,ed,rd⟩:=rx.get' (y1 xs hx);have x2:Ext ι2 H2 ι2 (upd H2 T (.tup [.int i,u])):=Ext.new hT _;refine⟨x2,lt.rh.new hT _,zcv (.int i) d,by rw[List.getElem?_mapIdx,ed];rfl,?_⟩;exact⟨T,[.int i,u],rfl,zal,.int i,[u],rfl,rfl,u,[],rfl,rd.ext x2,rfl⟩;obtain⟨hx,rx⟩:=get lt;rw[length_mapIdx]at hi;have h1:=rx.length;exact⟨xs,hx,by omega⟩
theorem zie(h:zbQ S x=some r):(∃l ds,x=.ref l/\S.get l=some (.lst ds)/\r=(ds.mapIdx fun i d=>zcv (.int i) d,[l]))\/∃ds,x=.tup ds/\r=(ds.mapIdx fun i d=>zcv (.int i) d,[]):=by
 unfold zbQ at h;cases x with
 |ref l=>
  dsimp only at h;cases e:S.get l with
  |none=>rw[e]at h;cases h
  |some o=>rw[e]at h;cases o with|lst ds=>cases h;exact .inl ⟨l,ds,rfl,e,rfl⟩|_=>cases h
 |tup ds=>cases h;exact .inr ⟨ds,rfl,rfl⟩|_=>cases h
theorem znl(hg:Gl X "enumerate"/\X.mg "enumerate"=none)(ha:PE X a (tE X.K cf ca))(hst:zah a=true):PI X (.Tuple es j pt) (.Call (.Name "enumerate" p) [a] [] pos) (tI X.K cf (.enum ca)):=by refine PI.imp (zlA hg.1 hg.2 (zaJ ha hst) (zaj hst [] X.env)) fun σ H R=>ex8 fun δ ι S Q hs hh w q=>?_;simp[evL,zaa]at w;refine tE.run hs hh w fun d v ι1 H1 S1 x1 hs1 hh1 r1 w1=>?_;obtain⟨r,ez,w3⟩:=zar w1;rcases zie ez with⟨l,ds,rfl,hl,rfl⟩|⟨ds,rfl,rfl⟩;obtain⟨a,ea,rfl⟩:=r1;obtain⟨a',h2,xs,hx,rx⟩:=hh1.obj l _ hl;rw[ea]at h2;cases h2;exact⟨a,xs,rfl,.inl ⟨SqL.of hx,q _ _ ⟨_,_,ι1,S1,x1,hh1,w3,zm1 hl ea⟩⟩⟩;obtain⟨a,xs,rfl,hx,rx⟩:=r1;exact⟨a,xs,rfl,.inr ⟨SqT.of hx,q _ _ ⟨_,_,ι1,S1,x1,hh1,w3,zkZ hx rx⟩⟩⟩
end
end R
namespace R
open PySem PySem.Spec PyProof.Rows L2
variable[Mks]
section
variable{X:Cx}{pins:List (Addr×Obj)}{σ:L2.St}{H H':Hp}{s:Shared}
structure Own(X:Cx)(pins:List (Addr×Obj))(b:Addr):Prop where
 new:X.s₀.heap.objs.size<=b
 loc:b≠X.env.locals
 cel:∀x c,X.env.cells.lookup x=some c->c≠b
 pin:∀p∈X.pn++pins,p.1≠b
theorem Own.fresh(I:Inv X pins σ H s){b:Addr}(h:s.heap.objs.size<=b):Own X pins b:=by refine⟨le_trans I.sz h,fun e=>?_,fun x c e z=>?_,fun p hp z=>?_⟩;exact absurd (lt_of_lt_of_le I.lt h) (by rw[e];exact lt_irrefl _);obtain⟨v,o,ho,_⟩:=I.cell x c e;exact absurd (lt_of_lt_of_le (Heap.lt_size ho) h) (by rw[z];exact lt_irrefl _);exact absurd (lt_of_lt_of_le (Heap.lt_size (I.pin p hp).1) h) (by rw[z];exact lt_irrefl _)
theorem Own.stk(o:Own X pins b)(I:Inv X pins σ H s):b∉frs X.stack:=fun hb=>by rcases mem_cons.mp (I.stkSub b hb) with e|e;exact o.loc e;obtain⟨_,ob,ho,_⟩:=I.ok.funs.mem e;exact absurd (lt_of_lt_of_le (Heap.lt_size ho) o.new) (lt_irrefl _)
theorem za8{ch:List Addr}(I:Inv X pins σ H s)(ow:∀b∈ch,Own X pins b)(hn:∀b∈ch,H b=none)(k:∀b o,b∉ch->s.heap.get? b=some o->h'.get? b=some o)(hg:AllBare g') :
  Inv X pins σ H {s with heap:=h',gens:=g',drawn:=d',toks:=t'}:=by
 refine I.call ⟨fun b o e n _ hx=>k b o hx e,fun b o e n _ hx=>⟨o.slots,k b o hx e⟩,fun b o _ n _=>n,fun b o e hx=>⟨o,k b o hx e⟩,fun _ _ e=>e,fun _ _ _ e=>e,fun b ps e=>⟨#[],by rw[e];simp⟩⟩ ?_ hg fun b hb=>⟨.inr (ow b hb).new,(ow b hb).loc,(ow b hb).cel,(ow b hb).pin⟩;intro a o e;refine(I.hok a o e).stay (fun b u hb q=>k b u (fun z=>?_) q) (fun _ q=>q) fun _ _ q=>q;have:=hn b z;rcases hb with rfl|hb;rw[e]at this;cases this;rw[hb]at this;cases this
end
section
variable{X:Cx}{pins:List (Addr×Obj)}{σ:L2.St}{H H':Hp}{s:Shared}{b:Addr}{o:HO}
theorem zfC(I:Inv X pins σ H s)(ow:Own X pins b)(hn:H b=none)(ok:ObjOk X.prog X.w (upd H b o) s.heap b o):Inv X pins σ (upd H b o) s:=by
 have un:Un (frs X.stack) [b] H (upd H b o) s.heap s.heap:=⟨fun c q e _ _ _=>e,fun c q e _ _ _=>⟨q.slots,e⟩,fun c q e n hx=>by rw[zag (by simpa using hx)];exact n,fun c q e _=>⟨q,e⟩,
  fun c xs q=>by rw[zag (zam q hn)];exact q,fun c q u e=>by rw[zag (zam e hn)];exact e,fun c ps q=>⟨#[],by rw[zag (zam q hn),q];simp⟩⟩
 refine I.call' rfl un ?_ I.bare fun c hc=>?_;intro a u e;by_cases z:a=b;subst z;rw[zal]at e;cases e;exact ok;rw[zag z]at e;exact(I.hok a u e).stay (fun _ _ _ q=>q) (fun c q=>by rw[zag (zam q hn)];exact q) fun c xs q=>by rw[zag (zam q hn)];exact q
 rw[mem_singleton.mp hc];exact⟨.inr ow.new,ow.loc,ow.cel,ow.pin⟩
end
structure StepT(P:Addr)(H H':Hp):Prop where
 rest:∀a o,a≠P->H a=some o->H' a=some o
 tab:∀ps,H P=some (.tbl ps)->∃more,H' P=some (.tbl (ps++more))
theorem zeZ(h:TriplesOk l)(e:codeAmong pos (l++[a,b,c])=some v):codeAmong pos l=some v\/v=c:=by
 induction l using codeAmong.induct (pos:=pos) with
 |case1 line _ col _ c' rest cond=>simp[List.cons_append,codeAmong,cond]at e⊢;exact .inl e| case2 line _ col _ c' rest cond ih=>simp[List.cons_append,codeAmong,cond]at e⊢;exact ih (by simpa[TriplesOk]using h) e| case3 l hno=>
  cases l with
  |nil=>right;unfold codeAmong at e;split at e;rename_i h;simp at h;obtain⟨_,_,rfl,rfl⟩:=h;split at e;cases e;rfl;simp[codeAmong]at e;cases e
  |cons x l=>exfalso;unfold TriplesOk at h;split at h;rename_i h0;cases h0;rename_i h0;cases h0;exact hno _ _ _ _ _ _ rfl;exact h
theorem StepT.ext(st:StepT P H H')(hP:H P=some (.tbl ps))(tb:TB H'):Ext [] H [] H':=by
 have nP:∀a o,H a=some o->(∀ps,o≠.tbl ps)->a≠P:=fun a o e n z=>by rw[z,hP]at e;cases e;exact n _ rfl
 refine⟨prefix_refl _,⟨fun a xs e=>st.rest a _ (nP a _ e (by simp)) e,fun a o u e=>st.rest a _ (nP a _ e (by simp)) e,fun _=>tb⟩,fun a o _ e=>⟨?_,by simp⟩⟩;by_cases z:a=P;subst z;obtain⟨more,e'⟩:=st.tab ps hP;rw[hP]at e;cases e;exact .inr ⟨⟨_,rfl⟩,_,e'⟩;exact .inl (st.rest a o z e)
section
variable{X:Cx}{pins:List (Addr×Obj)}{σ:L2.St}{H:Hp}{s:Shared}{c P:Addr}{params:Arguments}{scope:Scope}{lpos:Pos}
theorem BM.at_(b:BM X.mg X.base)(I:Inv X pins σ H s)(hP:H P=some o):s.heap.BuiltinsAt X.mg P:=by obtain⟨bm,ob,h1,h2,h3,h4,h5⟩:=b;obtain⟨k1,k2⟩:=I.bs bm ob h4;exact⟨bm,ob,h1,h2,h3,fun z=>(by rw[z,hP]at k2;cases k2),k1,h5⟩
end
theorem zoB{K:Frag}
 (S:FnScope N ps scope) (hr:Room (k+1) A) (e0:Env0 P w K mg base A outer s H)
   (ho:s.heap.get? f=some (kla_obj name qual params body scope [] pm c' ct)) (hcd:s.heap.CodeRec (.ref c') qual)
   (hb:BindsTo s (kla_fn name qual params body scope [] pm (.ref c') ct) args (ps.zip us)) (r:Vals vs us) (hl:vs.length=ps.length)
   (ht:Room k (A.deeper (envOfC qual scope s.heap.objs.size f (.ref c')))->PE (cxOf CX P w K mg base N qual scope f (.ref c') A outer s H E) body t) (hq:t (start N vs) H Q) :
   codeAny (model P w) A (.call (.ref f) args) (CR CX outer P w H s Q E) s:=by
  have lim:s.heap.NoLimit:=e0.mod.nolimit.keeps fun b o e=>(e0.bs b o e).1;have kinds:∀y∈ps.zip us,scope.names.lookup y.1=some .local\/(scope.names.lookup y.1=some .cell/\((cellsFrom (s.heap.objs.size+1) scope.names []).lookup y.1).isSome=true):=fun⟨x,v⟩ hy=>(S.par x (of_mem_zip hy).1).elim .inl fun q=>.inr ⟨q,cellsFrom_some _ _ _ (.inl q)⟩;refine PySem.W.kla_callFunE hr.depth ho rfl S.co S.gen rfl hcd (hb _ _ _ _ ?_);refine wpAny_newFunctionEnv_cells S.kind kinds fun env he s1 x=>?_;subst he;refine⟨lim.keeps x.toInCall.keep,PySem.W.kla_codeExpr ?_⟩;have I:Inv (cxOf CX P w K mg base N qual scope f (.ref c') A outer s H E) [] (start N vs) H s1:=zfD S hr.hd e0 hl r x;exact wpAny_mono (ht (hr.deeper _) [] s1 (start N vs) H _ I hq) (fun u s' ⟨v,H',J,rv,q⟩=>⟨v,H',J.os,J.bare,J.base,J.hok,rv,q⟩) fun e s' hs=>hs
structure LamAt(H:Hp)(f:Addr)(name qual:Str)(params:Arguments)(body:Expr)(scope:Scope):Prop where
 ex:∃(pm ct:Value) (c':Addr) (oc:Obj) (vs:Array Value) (t:Tok),H f=some (.frz (kla_obj name qual params body scope [] pm c' ct) (.own 0))/\H c'=some (.frz oc (.own 0))/\oc.data=.fields vs/\vs[1]?=some (.str qual t)
theorem LamAt.up(L:LamAt H f name qual params body scope)(k:Kp H H'):LamAt H' f name qual params body scope:=by obtain⟨pm,ct,c',oc,vs,t,h1,h2,h3⟩:=L.ex;exact⟨pm,ct,c',oc,vs,t,k.frzs _ _ _ h1,k.frzs _ _ _ h2,h3⟩
abbrev zf1(s:Shared)(a:Addr)(vs:List Value)(e:Nat):Prop:=s.heap.get? a=some (seqObj "list" vs.toArray e)
theorem zeA(h:zf1 s a vs e)(g:Array Value->Array Value)(hg:g vs.toArray=us.toArray):∃e',zf1 {s with heap:=s.heap.update a (Obj.mapSeq g)} a us e':=⟨_,by have:=get?_update_seq h g;rw[hg]at this;exact this⟩
theorem zbZ{s:Shared}(n:b≠a)(h:s.heap.get? b=some o):(s.heap.update a g).get? b=some o:=by rw[Heap.get?_update_ne _ _ _ _ n];exact h
structure KEnd(X:Cx)(pins:List (Addr×Obj))(σ:L2.St)(H:Hp)(D:Addr)(out:List Value)(s':Shared):Prop where
 ex:∃H' e,Inv X pins σ H' s'/\Ext [] H [] H'/\H' D=none/\zf1 s' D out e
theorem getD_mem{α:Type}{xs:List α}(d:α)(h:i<xs.length):xs[i]?=some (xs.getD i d):=by rw[List.getD_eq_getElem?_getD,List.getElem?_eq_getElem h];rfl
section
variable{X:Cx}{pins:List (Addr×Obj)}{σ:L2.St}{H H':Hp}{s:Shared}{b:Addr}{o:HO}
theorem zki(hn:H b=none):Ext [] H [] (upd H b o):=⟨prefix_refl _,Kp.new hn o,fun a u _ e=>⟨.inl (by rw[zag (zam e hn)];exact e),by simp⟩⟩
end
section
variable{X:Cx}{pins:List (Addr×Obj)}{σ:L2.St}{H:Hp}{s:Shared}{c P:Addr}{params:Arguments}{body:Expr}{scope:Scope}{lpos:Pos}
theorem zl0(I:Inv X pins σ H s)(bm:BM X.mg X.base)(hcode:X.env.code=.ref c)(hC:codeHdIn X.K c P=true)(tb:TabIn H P (X.env.qual ++ "<lambda>"))
  (hdef:defaultsOf params X.env=([],[])) (hcl:closureFor scope X.env=pure [])
  (q:∀f H' s',Inv X pins σ H' s'->LamAt H' f "<lambda>" (X.env.qual ++ "<lambda>") params body scope->TabIn H' P (X.env.qual ++ "<lambda>")->StepT P H H'->Q (.ref f) s') :
  wpAny (model X.prog X.w) X.A (eval (.Lambda params body scope lpos) X.env) Q E s:=by
 obtain⟨ps,h1,h2,h3⟩:=tb;have C:=PySem.W.codeHd_of_K I.kIn hC;have hP:s.heap.get? P=some (tabObj ps):=I.hok P _ h1;have hb:=bm.at_ I h1;have hg:s.heap.Ns mainGlobals X.mg:=I.mod.glob.keeps I.bk;have hPl:P<s.heap.objs.size:=Heap.lt_size hP;apply PySem.W.kla_eval hdef;cases hf:codeAmong lpos ps.toList with
 |some cv=>
  obtain⟨c',oc,vs,t,rfl,a2,a3,a4⟩:=h3 lpos cv hf;refine PySem.W.kla_makeFunctionHit hcl I.ok.glob hg hcode C hP h2 hf hb fun ctv h' tk hk hsz=>?_;have hn:H h'.objs.size=none:=I.hok.fresh hsz;have ow:Own X pins h'.objs.size:=Own.fresh I hsz;have I1:Inv X pins σ H {s with heap:=h'.push (kla_obj "<lambda>" (X.env.qual ++ "<lambda>") params body scope [] ((X.mg "__name__").getD .none) c' ctv),toks:=tk}:=za8 (g':=s.gens) (t':=tk) (d':=s.drawn) (ch:=[]) I (fun b hb=>by cases hb) (fun b hb=>by cases hb) (fun b o _ e=>Heap.get?_push_of_some _ (hk b o e)) I.bare;have I2:=zfC (o:=.frz (kla_obj "<lambda>" (X.env.qual ++ "<lambda>") params body scope [] ((X.mg "__name__").getD .none) c' ctv) (.own 0)) I1 ow hn ⟨Heap.get?_push_size _ rfl,_,Heap.get?_push_size _ rfl⟩;have st:∀a o,H a=some o->upd H h'.objs.size (.frz (kla_obj "<lambda>" (X.env.qual ++ "<lambda>") params body scope [] ((X.mg "__name__").getD .none) c' ctv) (.own 0)) a=some o:=fun a o e=>by rw[zag (zam e hn)];exact e
  refine q _ _ _ I2 ⟨_,ctv,c',oc,vs,t,zal,st _ _ a2,a3,a4⟩ ?_ ⟨fun a o _ e=>st a o e,fun ps' e=>⟨#[],by rw[st _ _ e];simp⟩⟩;exact TabIn.up ⟨ps,h1,h2,h3⟩ (by rw[st _ _ h1,h1]) fun b o u e=>st _ _ e
 |none=>
  have hgP:mainGlobals≠P:=fun z=>by obtain⟨o,es,ep,e,hd,_⟩:=hg;rw[z,hP]at e;cases e;cases hd
  refine PySem.W.kla_makeFunction hcl I.ok.glob hg hcode C hP h2 hf hgP hb fun c' ctv h' tk hx hge hlt hrec htb=>?_;obtain⟨c2,oc,vs,t,e2,hoc,hd,hv⟩:=hrec;cases e2;generalize hfo:kla_obj "<lambda>" (X.env.qual ++ "<lambda>") params body scope [] ((X.mg "__name__").getD .none) c' ctv=fo;have hfr:(h'.push fo).get? h'.objs.size=some fo:=by rw[<-hfo];exact Heap.get?_push_size _ rfl
  have hfn:H h'.objs.size=none:=I.hok.fresh (le_trans hge (le_of_lt hlt));have hcn:H c'=none:=I.hok.fresh hge;have nPc:P≠c':=ne_of_lt (lt_of_lt_of_le hPl hge);have nPf:P≠h'.objs.size:=ne_of_lt (lt_trans (lt_of_lt_of_le hPl hge) hlt);have ncf:c'≠h'.objs.size:=ne_of_lt hlt;have st:∀a o,a≠P->H a=some o->upd (upd (upd H P (.tbl (ps ++ #[rawInt lpos.line,rawInt lpos.col,.ref c']))) c' (.frz oc (.own 0))) h'.objs.size (.frz fo (.own 0)) a=some o:=fun a o n e=>by rw[zag (zam e hfn),zag (zam e hcn),zag n];exact e
  have atP:upd (upd (upd H P (.tbl (ps ++ #[rawInt lpos.line,rawInt lpos.col,.ref c']))) c' (.frz oc (.own 0))) h'.objs.size (.frz fo (.own 0)) P=some (.tbl (ps ++ #[rawInt lpos.line,rawInt lpos.col,.ref c'])):=by rw[zag nPf,zag nPc,zal]
  have atC:upd (upd (upd H P (.tbl (ps ++ #[rawInt lpos.line,rawInt lpos.col,.ref c']))) c' (.frz oc (.own 0))) h'.objs.size (.frz fo (.own 0)) c'=some (.frz oc (.own 0)):=by rw[zag ncf,zal]
  have hno:∀a,H a=none->a≠P:=fun a e z=>by rw[z,h1]at e;cases e
  have keep:∀b o,b≠P->s.heap.get? b=some o->(h'.push fo).get? b=some o:=fun b o n e=>Heap.get?_push_of_some _ (hx b o n e);have inv:Inv X pins σ (upd (upd (upd H P (.tbl (ps ++ #[rawInt lpos.line,rawInt lpos.col,.ref c']))) c' (.frz oc (.own 0))) h'.objs.size (.frz fo (.own 0))) {s with heap:=h'.push fo,toks:=tk}:=by refine I.call (g':=s.gens) (t':=tk) (d':=s.drawn) (ch:=[]) ⟨fun b o e n _ _=>keep b o (hno b n) e,fun b o e n _ _=>⟨o.slots,keep b o (hno b n) e⟩,fun b o e n _=>?_,fun b o e _=>?_,fun b xs e=>?_,fun b o u e=>?_,fun b ps' e=>?_⟩ ?_ I.bare (fun b hb=>by cases hb);have hb:=Heap.lt_size e;rw[zag (ne_of_lt (lt_trans (lt_of_lt_of_le hb hge) hlt)),zag (ne_of_lt (lt_of_lt_of_le hb hge)),zag (hno b n)];exact n;by_cases z:b=P;subst z;exact⟨_,Heap.get?_push_of_some _ htb⟩;exact⟨o,keep b o z e⟩;exact st b _ (fun z=>by rw[z,h1]at e;cases e) e;exact st b _ (fun z=>by rw[z,h1]at e;cases e) e;by_cases z:b=P;subst z;rw[h1]at e;cases e;exact⟨_,atP⟩;exact⟨#[],by rw[st b _ z e];simp⟩;intro a u e;by_cases zf:a=h'.objs.size;subst zf;rw[zal]at e;cases e;exact⟨hfr,_,hfr⟩;rw[zag zf]at e;by_cases zc:a=c';subst zc;rw[zal]at e;cases e;exact⟨Heap.get?_push_of_some _ hoc,_,Heap.get?_push_of_some _ hoc⟩;rw[zag zc]at e;by_cases zp:a=P;subst zp;rw[zal]at e;cases e;exact Heap.get?_push_of_some _ htb;rw[zag zp]at e;refine(I.hok a u e).stay (fun b o hb e'=>keep b o ?_ e') (fun b e'=>st b _ (fun z=>by rw[z,h1]at e';cases e') e') fun b xs e'=>st b _ (fun z=>by rw[z,h1]at e';cases e') e';rcases hb with rfl|hb;exact zp;intro z;rw[z,h1]at hb;cases hb
  refine q _ _ _ inv ⟨_,ctv,c',oc,vs,t,by rw[zal,<-hfo],atC,hd,hv⟩ ?_ ⟨fun a o n e=>st a o n e,fun ps' e=>by rw[h1]at e;cases e;exact⟨_,atP⟩⟩;refine⟨_,atP,?_,fun pos v e=>?_⟩;have:=TriplesOk_snoc lpos.line lpos.col (.ref c') ps.toList h2;simpa using this;have e':codeAmong pos (ps.toList++[rawInt lpos.line,rawInt lpos.col,.ref c'])=some v:=by simpa using e
  rcases zeZ h2 e' with z|z;obtain⟨d,od,ws,u,a1,a2,a3⟩:=h3 pos v z;exact⟨d,od,ws,u,a1,st _ _ (fun y=>by rw[y,h1]at a2;cases a2) a2,a3⟩;exact⟨c',oc,vs,t,z,atC,hd,hv⟩
end
def oneK(k:VK)(vs:List V)(H:Hp):Prop:=match vs with | [w]=>k w H|_=>False
theorem zg5(h:oneK k vs H):∃w,vs=[w]/\k w H:=by unfold oneK at h;split at h;exact⟨_,rfl,h⟩;exact h.elim
def tLam(q:Str)(params:Arguments)(body:Expr)(scope:Scope):TE:=fun σ H Q=>TB H/\∀f H',LamAt H' f "<lambda>" q params body scope->Ext [] H [] H'->Q (.ref f) H'
section
variable{X:Cx}{o:Expr}{p apos cpos kpos lpos pos:Pos}{td:TE}{c P:Addr}{params:Arguments}{body:Expr}{scope:Scope}
theorem zqp(mk:Maker X c P)(hdef:defaultsOf params X.env=([],[]))(hcl:closureFor scope X.env=pure []):PE X (.Lambda params body scope lpos) (tLam (X.env.qual ++ "<lambda>") params body scope):=by intro pins s σ H Q I h;obtain⟨ps,hP,_⟩:=id (h.1 _ mk.mem);refine zl0 I mk.bm mk.code mk.hd (h.1 _ mk.mem) hdef hcl fun f H' s' J L T S=>⟨.ref f,H',J,rfl,h.2 f H' L (S.ext hP fun p hp=>?_)⟩;by_cases z:p.1=P;rw[mk.one p hp z,z];exact T;obtain⟨qs,hq,_⟩:=id (h.1 p hp);exact(h.1 p hp).up ((S.rest _ _ z hq).trans hq.symm) fun b o u e=>S.rest b _ (fun y=>by rw[y]at e;rw[hP]at e;cases e) e
end
end R
namespace R
open PySem PySem.Spec PyProof.Rows L2
section
variable{ρ:Type}{lt:ρ->ρ->Prop}[DecidableRel lt]
structure Ord(lt:ρ->ρ->Prop):Prop where
 irr:∀r,¬lt r r
 tra:∀{a b c},lt a b->lt b c->lt a c
theorem zoZ(o:Ord lt){rows:List ρ}(as:rows.Pairwise lt){i j:Nat}(ha:rows[i]?=some a)(hb:rows[j]?=some b):lt a b↔i<j:=by obtain⟨hi,rfl⟩:=List.getElem?_eq_some_iff.mp ha;obtain⟨hj,rfl⟩:=List.getElem?_eq_some_iff.mp hb;have pw:=List.pairwise_iff_getElem.mp as;refine⟨fun h=>?_,pw i j hi hj⟩;rcases Nat.lt_trichotomy i j with z|z|z;exact z;subst z;exact absurd h (o.irr _);exact absurd (o.tra h (pw j i hj hi z)) (o.irr _)
end
variable[Mks]
section
variable{ρ:Type}[Inhabited ρ]{lt:ρ->ρ->Prop}[DecidableRel lt]{RA KA:Hp->Addr->ρ->Prop}{κ:SortKind}
variable{X:Cx}{pins:List (Addr×Obj)}{σ:L2.St}{H:Hp}{s:Shared}{A':Around}{f D kS:Addr}{rows:List ρ}
structure SortK(X:Cx)(pins:List (Addr×Obj))(σ:L2.St)(A':Around)(H:Hp)(f:Addr)(RA KA:Hp->Addr->ρ->Prop)(κ:SortKind)(lt:ρ->ρ->Prop)[DecidableRel lt]:Prop where
 upR:∀{H1 H2 a r},Kp H1 H2->RA H1 a r->RA H2 a r
 upK:∀{H1 H2 b r},Kp H1 H2->KA H1 b r->KA H2 b r
 call:∀{H1 s1 a r},Inv X pins σ H1 s1->Ext [] H [] H1->RA H1 a r->wpAny (model X.prog X.w) A' (call (.ref f) [.ref a]) (fun y s'=>∃b H',y=.ref b/\Inv X pins σ H' s'/\KA H' b r/\Ext [] H1 [] H'/\Un (frs X.stack) [] H1 H' s1.heap s'.heap) (fun _ _=>False) s1
 kind:∀{H1 s1}{ks:List Value}{Q:SortKind->Shared->Prop}{E:Value->Shared->Prop},Inv X pins σ H1 s1->(∀k∈ks,∃b r,k=Value.ref b/\KA H1 b r)->1<=ks.length->Q κ s1->wpAny (model X.prog X.w) A' (keyKind' ks.toArray) Q E s1
 less:∀{H1 s1 b c r r'}{Q:Bool->Shared->Prop}{E:Value->Shared->Prop},Inv X pins σ H1 s1->KA H1 b r->KA H1 c r'->Q (decide (lt r r')) s1->wpAny (model X.prog X.w) A' (keyLt' κ (.ref b) (.ref c)) Q E s1
 ord:Ord lt
structure KeyG(KA:Hp->Addr->ρ->Prop)(rows:List ρ)(H:Hp)(ks:List Value)(i:Nat):Prop where
 len:ks.length=i
 at_:∀(j:Nat)(k:Value),ks[j]?=some k->∃(b:Addr) (r:ρ),rows[j]?=some r/\k=Value.ref b/\KA H b r
theorem KeyG.snoc(Sk:SortK X pins σ A' H f RA KA κ lt)(K:KeyG KA rows H1 ks i)(x:Ext [] H1 [] H2)(hr:rows[i]?=some r)(hb:KA H2 b r):KeyG KA rows H2 (ks++[.ref b]) (i+1):=by
 refine⟨by simp[K.len],fun j k hj=>?_⟩;by_cases h:j<ks.length;rw[getElem?_append_left h]at hj;obtain⟨c,q,h1,h2,h3⟩:=K.at_ j k hj;exact⟨c,q,h1,h2,Sk.upK x.kp h3⟩;rw[getElem?_append_right (by omega)]at hj;have:j=ks.length:=by have:=(List.getElem?_eq_some_iff.mp hj).1;simp at this;omega
 subst this;simp at hj;exact⟨b,r,by rw[K.len];exact hr,hj.symm,hb⟩
structure KJG(KA:Hp->Addr->ρ->Prop)(X:Cx)(pins:List (Addr×Obj))(σ:L2.St)(H:Hp)(D kS:Addr)(e1:Nat)(rows:List ρ)(i:Nat)(s':Shared):Prop where
 ex:∃H' ks e,Inv X pins σ H' s'/\Ext [] H [] H'/\H' D=none/\H' kS=none/\zf1 s' D [] e1/\zf1 s' kS ks e/\KeyG KA rows H' ks i
theorem zl4(Sk:SortK X pins σ A' H f RA KA κ lt)(oD:Own X pins D)(oK:Own X pins kS)(ne:D≠kS)(ha:RA H a r)(hri:rows[i]?=some r)(hi:i<64)(J:KJG KA X pins σ H D kS e1 rows i s') :
  wpAny (model X.prog X.w) A' (do
   match <-(call (.ref f) [.ref a]).attempt with
   |.ok k=>Builtin.List.listUpdate (.ref kS) (·.push k);pure (ForInStep.yield PUnit.unit)| .error e=>
    rule "list.sort.key-raised"
    let made <-Builtin.List.listItems (.ref kS)
    Builtin.List.listUpdate (.ref kS) fun _=>#[]
    letGo made.toList.reverse [e]
    Builtin.List.listUpdate (.ref D) fun _=>items;throw e) (fun q s''=>q=.yield ⟨⟩/\KJG KA X pins σ H D kS e1 rows (i+1) s'') (fun _ _=>False) s':=by
 obtain⟨H1,ks,e,I,x,d1,k1,lD,lK,kl⟩:=J.ex;refine wpAny_bind (wpAny_attempt (wpAny_mono (Sk.call I x (Sk.upR x.kp ha)) ?_ fun _ _ z=>z.elim));rintro y s2 ⟨b,H2,rfl,I2,hb2,x2,un⟩;have D2:=un.keep D _ lD d1 (oD.stk I) (by simp);have K2:=un.keep kS _ lK k1 (oK.stk I) (by simp);have hz:ks.length=i:=kl.len;refine wpAny_bind (listUpdate_at K2 rfl (wpAny_pure ⟨rfl,?_⟩) (by rw[size_toArray,sizeLine_eq];omega) (by rw[Array.size_push,size_toArray,sizeLine_eq];omega));obtain⟨e',l'⟩:=zeA (us:=ks++[.ref b]) K2 (·.push (.ref b)) (by simp);refine⟨H2,ks++[.ref b],e',?_,x.trans x2,un.free D _ lD d1 (by simp),un.free kS _ lK k1 (by simp),zbZ ne D2,l',kl.snoc Sk x2 hri hb2⟩;exact za8 I2 (fun b hb=>by rw[mem_singleton.mp hb];exact oK) (fun b hb=>by rw[mem_singleton.mp hb];exact un.free kS _ lK k1 (by simp)) (fun b o hb q=>zbZ (by simpa using hb) q) I2.bare
theorem zpn{st:SortSt}{out:List Value}{e1 i:Nat}{P:PySem.Fin->Shared->Prop}{E:Value->Shared->Prop}(hout:(arrOf st).map (·.2)=out.toArray)(hz:out.length<64)(hi:i<64)(hf:failedOf st=none)(oD:Own X pins D)(oK:Own X pins kS)(ne:D≠kS)
  (J:KJG KA X pins σ H D kS e1 rows i s) (h:∀s',KEnd X pins σ H D out s'->P (.done (.ret .none)) s'):wpAny (model X.prog X.w) A' (ksk_tail D false e1 (.ref kS) st) P E s:=by
 obtain⟨H1,ks,e,I,x,d1,k1,lD,lK,kl⟩:=J.ex;have hk:ks.length<64:=by rw[kl.len];exact hi
 have I1:=za8 (h':=s.heap.update kS (Obj.mapSeq fun _=>#[])) (g':=s.gens) (t':=s.toks) (d':=s.drawn) (ch:=[kS]) I (fun b hb=>by rw[mem_singleton.mp hb];exact oK) (fun b hb=>by rw[mem_singleton.mp hb];exact k1) (fun b o hb q=>zbZ (by simpa using hb) q) I.bare;have lD1:zf1 {s with heap:=s.heap.update kS (Obj.mapSeq fun _=>#[])} D [] e1:=zbZ ne lD;obtain⟨e',lD2⟩:=zeA (us:=out) lD1 (fun _=>out.toArray) rfl;have I2:=za8 (h':=(s.heap.update kS (Obj.mapSeq fun _=>#[])).update D (Obj.mapSeq fun _=>out.toArray)) (g':=s.gens) (t':=s.toks) (d':=s.drawn) (ch:=[D]) I1 (fun b hb=>by rw[mem_singleton.mp hb];exact oD) (fun b hb=>by rw[mem_singleton.mp hb];exact d1) (fun b o hb q=>zbZ (by simpa using hb) q) I.bare;unfold ksk_tail;rw[hout,hf];refine wpAny_bind (listUpdate_at lK rfl (wpAny_bind (wpAny_letGo (wpAny_bind (seqEpoch_at lD1 rfl (wpAny_bind (listUpdate_at lD1 rfl ?_ (by simp) (by simp only[Bool.false_eq_true,if_false,size_toArray,sizeLine_eq];omega))))))) (by rw[size_toArray,sizeLine_eq];omega) (by simp));simp only[bne_self_eq_false,Bool.false_eq_true,if_false];exact wpAny_pure (h _ ⟨H1,e',I2,x,d1,lD2⟩)
theorem endG(Sk:SortK X pins σ A' H f RA KA κ lt)(hl:vs.length=rows.length)(h64:rows.length<64)(asc:rows.Pairwise lt)(oD:Own X pins D)(oK:Own X pins kS)(ne:D≠kS)
  (J:KJG KA X pins σ H D kS e1 rows rows.length s) (h:∀s',KEnd X pins σ H D vs s'->P (.done (.ret .none)) s') :
  wpAny (model X.prog X.w) A' (Builtin.List.listItems (.ref kS)>>=fun keys=>ksk_end D false vs.toArray e1 (.ref kS) keys) P E s:=by
 obtain⟨H1,ks,e,I,x,d1,k1,lD,lK,kl⟩:=id J.ex;refine wpAny_bind (listItems_at lK rfl ?_);unfold ksk_end;simp only;have klen:ks.length=vs.length:=by rw[kl.len,hl]
 by_cases h2:vs.toArray.size<2;rw[if_pos h2,if_pos h2];refine wpAny_bind (wpAny_pure (wpAny_bind ?_));have eo:(arrOf (SortSt.mk' general' (ks.toArray.zip vs.toArray) #[] 7 none)).map (·.2)=vs.toArray:=by apply Array.toList_inj.mp;rw[Array.toList_map,ksk_zip];show(ks.zip vs).map Prod.snd=vs;exact List.map_snd_zip (by omega)
 exact wpAny_pure (zpn eo (by omega) h64 rfl oD oK ne J h);have h2':2<=vs.length:=by simpa using h2
 rw[if_neg h2,if_neg h2];have hk:∀k∈ks,∃b r,k=Value.ref b/\KA H1 b r:=fun k hm=>by obtain⟨j,hj⟩:=mem_iff_getElem?.mp hm;obtain⟨b,r,_,q1,q2⟩:=kl.at_ j k hj;exact⟨b,_,q1,q2⟩
 refine wpAny_bind (Sk.kind I hk (by omega) ?_);have er:((List.range rows.length).map fun i=>vs.getD i Value.none)=vs:=by apply List.ext_getElem;simp[hl];intro i g1 g2;simp[g2]
 refine wpAny_bind (wpAny_mono (PySem.W.kat_run (Q:=fun st' s'=>s'=s/\arrOf st'=(List.range rows.length).toArray.map (PySem.W.kas_item (ks.toArray.zip vs.toArray))/\failedOf st'=none)
  (G:=fun p s'=>p=(List.range rows.length).toArray/\s'=s) klen h2' (by omega) (fun p st' s' _ a2 a3 a4=>⟨a4.2,by rw[a2,a4.1],a3⟩) ?_) ?_ fun _ _ z=>z)
 rw[hl];refine znh (fun i j C hi hj hC=>?_) (by omega) ⟨rfl,rfl⟩;obtain⟨b,r,b1,b2,b3⟩:=kl.at_ i _ (getD_mem Value.none (by omega));obtain⟨c,r',c1,c2,c3⟩:=kl.at_ j _ (getD_mem Value.none (by omega));show wpAny (model X.prog X.w) A' (keyLt' κ (ks.getD i Value.none) (ks.getD j Value.none)) C (fun _ _=>False) s;rw[b2,c2];apply Sk.less I b3 c3;have:decide (lt r r')=decide (i<j):=by apply Bool.eq_iff_iff.mpr;rw[decide_eq_true_eq,decide_eq_true_eq];exact zoZ Sk.ord asc b1 c1
 rw[this];exact hC;rintro⟨⟨⟩,st'⟩ s' ⟨rfl,ar,fl⟩;have eo:=PySem.W.kat_snds klen ar;refine zpn (eo.trans ?_) (by omega) h64 fl oD oK ne J h;rw[show(List.range rows.length).toArray.toList=List.range rows.length from rfl,er]
theorem zr5{as:List Addr}(Sk:SortK X pins σ A' H f RA KA κ lt)
  (hl:as.length=rows.length) (h64:rows.length<64) (asc:rows.Pairwise lt) (oD:Own X pins D) (oK:Own X pins kS) (ne:D≠kS) (ha:∀(j:Nat)(a:Addr),as[j]?=some a->∃r:ρ,rows[j]?=some r/\RA H a r)
  (J:KJG KA X pins σ H D kS e1 rows 0 s) (h:∀s',KEnd X pins σ H D (as.map Value.ref) s'->P (.done (.ret .none)) s') :
  wpAny (model X.prog X.w) A' (ksk_rest D (.ref f) false (as.map Value.ref).toArray e1 (.ref kS)) P E s:=by
 refine wpAny_bind (wpAny_rule ?_);rw[List.forIn_toArray];refine wpAny_bind (ksk_fold (fun i s'=>KJG KA X pins σ H D kS e1 rows i s') (as.map Value.ref) 0 s J (fun j v s' hj J'=>?_) fun s' J'=>?_);rw[getElem?_map]at hj;cases ej:as[j]? with
 |none=>rw[ej]at hj;cases hj
 |some a=>rw[ej]at hj;cases hj;obtain⟨r,hr1,hr2⟩:=ha j a ej;have hlt:=(List.getElem?_eq_some_iff.mp hr1).1;rw[zero_add]at J'⊢;exact wpAny_mono (zl4 Sk oD oK ne hr2 hr1 (by omega) J') (fun _ _ z=>z) fun _ _ z=>z.elim
 rw[zero_add,length_map,hl]at J';exact endG Sk (by simpa using hl) h64 asc oD oK ne J' h
theorem zrO{as:List Addr}(I:Inv X pins σ H s)(Sk:SortK X pins σ A' H f RA KA κ lt)
  (hl:as.length=rows.length) (h64:rows.length<64) (asc:rows.Pairwise lt) (oD:Own X pins D) (d0:H D=none) (lD:zf1 s D (as.map Value.ref) n0) (ha:∀(j:Nat)(a:Addr),as[j]?=some a->∃r:ρ,rows[j]?=some r/\RA H a r)
  (h:∀s',KEnd X pins σ H D (as.map Value.ref) s'->P (.done (.ret .none)) s'):wpAny (model X.prog X.w) A' (ksk_tree D (.ref f) false) P E s:=by
 obtain⟨e1,l1⟩:=zeA lD (fun _=>#[]) rfl;have hD:D<s.heap.objs.size:=Heap.lt_size lD;have I1:=za8 (h':=s.heap.update D (Obj.mapSeq fun _=>#[])) (g':=s.gens) (t':=s.toks) (d':=s.drawn) I (fun b hb=>by rw[mem_singleton.mp hb];exact oD) (fun b hb=>by rw[mem_singleton.mp hb];exact d0) (fun b o hb q=>zbZ (by simpa using hb) q) I.bare;have kp:∀(o1 o2:Obj) b o,(s.heap.update D (Obj.mapSeq fun _=>#[])).get? b=some o->(((s.heap.update D (Obj.mapSeq fun _=>#[])).push o1).push o2).get? b=some o:=fun o1 o2 b o q=>Heap.get?_push_of_some _ (Heap.get?_push_of_some _ q);have sz:∀o1:Obj,((s.heap.update D (Obj.mapSeq fun _=>#[])).push o1).objs.size=s.heap.objs.size+1:=fun o1=>by rw[size_push',Heap.size_update]
 have hlen:(as.map Value.ref).length<64:=by rw[length_map,hl];exact h64
 refine wpAny_bind (listItems_at lD rfl (wpAny_bind (listUpdate_at lD rfl (wpAny_bind (seqEpoch_at l1 rfl (wpAny_bind (wpAny_newTuple (wpAny_bind (wpAny_newList (wpAny_holding ?_) (zero_le _))) (by rw[sizeLine_eq];show(as.map Value.ref).length<=_;omega))))) (by rw[size_toArray,sizeLine_eq];omega) (zero_le _))));have I2:=za8 (h':=((s.heap.update D (Obj.mapSeq fun _=>#[])).push (seqObj "tuple" (as.map Value.ref).toArray 0)).push (seqObj "list" #[] 0)) (g':=s.gens) (t':=s.toks) (d':=s.drawn) (ch:=[]) I1 (fun b hb=>by cases hb) (fun b hb=>by cases hb) (fun b o _ q=>kp _ _ b o q) I.bare;have oK:Own X pins ((s.heap.update D (Obj.mapSeq fun _=>#[])).push (seqObj "tuple" (as.map Value.ref).toArray 0)).objs.size:=by rw[sz];exact Own.fresh I (le_succ _)
 refine zr5 (kS:=((s.heap.update D (Obj.mapSeq fun _=>#[])).push (seqObj "tuple" (as.map Value.ref).toArray 0)).objs.size) Sk hl h64 asc oD oK (by rw[sz];exact ne_of_lt (lt_succ_of_lt hD)) ha ?_ h;exact⟨H,[],0,I2,Ext.refl _ _,d0,I.hok.fresh (by rw[sz];exact le_succ _),kp _ _ _ _ l1,Heap.get?_push_size _ rfl,rfl,fun j k hj=>by simp at hj⟩
end
end R
namespace R
open PySem PySem.Spec PyProof.Rows L2
section
variable{prog:Program}{w:World}{A:Around}{E:Value->Shared->Prop}{s:Shared}
def IsPr(prog:Program)(w:World)(h:Heap)(k:K3)(a:Addr):Prop:=k.1=0/\∃o u b n,h.get? a=some o/\o.cls=.type "tuple"/\o.data=.seq #[.ref b,.int k.2.2 u] n/\IsTupleKey (zas prog w) h (k.2.1.map Sum.inl) b
theorem zsa(hu:A.units<cLine)(hx:IsPr prog w s.heap x a)(hy:IsPr prog w s.heap y b)(q:Q (decide (Lt3 x y)) s) :
  wpAny (model prog w) A (keyLt' (tuples' false) (.ref a) (.ref b)) Q E s:=by
 obtain⟨zx,oa,u1,b1,na,hoa,_,hda,hia⟩:=hx;obtain⟨zy,ob,u2,b2,nb,hob,_,hdb,hib⟩:=hy;obtain⟨x1,x2,x3⟩:=x;obtain⟨y1,y2,y3⟩:=y;subst zx zy;refine PySem.W.kat_lt hoa hda hob hdb (kat_cons (wpAny_eqBool_tuple hu hia hib ?_));by_cases d2:x2=y2;rw[show decide ((x2.map Sum.inl:List Key)=y2.map Sum.inl)=true from decide_eq_true (by rw[d2])];refine PySem.W.kat_yes (kat_cons (wpAny_eqBool_int ?_));by_cases d3:x3=y3;rw[show(x3==y3)=true by simp[d3]];rw[decide_eq_false (by subst d2 d3;exact zd7 _)]at q;exact q;rw[show(x3==y3)=false by simp[d3]];refine kat_no (kat_one _ _ (wpAny_lt_int ?_));have:decide (Lt3 (0,x2,x3) (0,y2,y3))=decide (x3<y3):=by apply Bool.eq_iff_iff.mpr;rw[decide_eq_true_eq,decide_eq_true_eq];subst d2;unfold Lt3;rw[zcK];simp
 rw[this]at q;exact q;rw[show decide ((x2.map Sum.inl:List Key)=y2.map Sum.inl)=false from decide_eq_false (fun z=>d2 (zoD z))];obtain⟨i1,p1,p2⟩:=ziJ hia;obtain⟨i2,p3,p4⟩:=ziJ hib;refine kat_no (kat_one _ _ (HT.lt_tupInts p1 p3 p2 p4 hu ?_));have:decide (Lt3 (0,x2,x3) (0,y2,y3))=HT.lexLt x2 y2:=by rw[<-zjD];unfold Lt3;simp[d2]
 rw[this]at q;exact q
theorem zjg:∀{vs:List Value},(∀v∈vs,∃c k,v=Value.ref c/\IsPr prog w h k c)->∃fs:List Value,KatTups h vs fs/\fs.length=vs.length/\∀v∈fs,∃(b:Addr) (ks:List Key),v=Value.ref b/\IsTupleKey (zas prog w) h ks b
 | [],_=>⟨[],KatTups.nil,rfl,fun v h=>by cases h⟩| v::vs,hk=>by obtain⟨c,k,rfl,z,o,u,b,n,g1,g2,g3,g4⟩:=hk v (by simp);obtain⟨fs,h1,h2,h3⟩:=zjg (vs:=vs) fun x hx=>hk x (by simp[hx]);refine⟨.ref b::fs,KatTups.cons g1 g2 g3 rfl h1,by simp[h2],fun v hv=>?_⟩;rcases mem_cons.mp hv with rfl|hv;exact⟨b,_,rfl,g4⟩;exact h3 v hv
theorem zn1{vs:List Value}(hk:∀v∈vs,∃c k,v=Value.ref c/\IsPr prog w s.heap k c)(h1:1<=vs.length)(q:Q (tuples' false) s):wpAny (model prog w) A (keyKind' vs.toArray) Q E s:=by obtain⟨fs,t1,t2,t3⟩:=zjg hk;refine PySem.W.kat_kind (T:=.type "tuple") t1 (by omega) (fun v hv=>?_) rfl q;obtain⟨b,ks,rfl,o,items,n,ho,hc,hd,hi⟩:=t3 v hv;have:Looks (model prog w) s.heap (typeOf (.ref b)) o.cls:=(Looks.ld ho).andThen .now;rw[hc]at this;exact this
end
def Key2(H:Hp)(c:Addr)(k:K3):Prop:=k.1=0/\∃b,H c=some (.tup [.ref b,.int k.2.2])/\H b=some (.tup (k.2.1.map V.int))
def Let2(H:Hp)(a:Addr)(k:K3):Prop:=k.1=0/\∃t b w,H a=some (.tup [t,.ref b,.int k.2.2,w])/\H b=some (.tup (k.2.1.map V.int))
theorem zgr(ok:HOk P w H h)(e:Key2 H c k):IsPr P w h k c:=by obtain⟨z,b,e1,e2⟩:=e;obtain⟨_,its,rv,o,ho,hc,n,hd⟩:=(ok c _ e1);cases rv with| @cons _ v1 _ r1 q1 rv=>cases rv with| @cons _ v2 _ r2 q2 rv=>cases rv;cases q1;obtain⟨u,rfl⟩:=q2;refine⟨z,o,u,b,n,ho,hc,hd,?_⟩;have:=zhi (ks:=k.2.1.map Sum.inl) ok (by rw[List.map_map];exact e2);exact this
variable[Mks]
structure KeyBody(body:Expr):Prop where
 ex:∃p1 p2 p3 p4 p5 j1 j2,body=.Subscript (.Name "letter" p1) (.Slice (some (.Constant (.int 1) j1 p2)) (some (.Constant (.int 3) j2 p3)) none p4) p5
section
variable{X:Cx}{pins:List (Addr×Obj)}{σ:L2.St}{H:Hp}{s:Shared}{A':Around}{f:Addr}{name qual:Str}{params:Arguments}{body:Expr}{scope:Scope}
theorem zlY(I:Inv X pins σ H s)(hr:Room 2 A')(e0:Env0 X.prog X.w X.K X.mg X.base A' X.stack s H)(L:LamAt H f name qual params body scope)(hs:FnScope ["letter"] ["letter"] scope)
  (hb:∀(pm cd ct u:Value),bindArgs (kla_fn name qual params body scope [] pm cd ct) ⟨[u],[]⟩=pure [(("letter":Str),u)]) (kb:KeyBody body) (ha:Let2 H a k) :
  wpAny (model X.prog X.w) A' (call (.ref f) [.ref a]) (fun y s'=>∃b H',y=.ref b/\Inv X pins σ H' s'/\Key2 H' b k/\Ext [] H [] H'/\Un (frs X.stack) [] H H' s.heap s'.heap) (fun _ _=>False) s:=by
 obtain⟨pm,ct,c',oc,vs,t,h1,h2,h3,h4⟩:=L.ex;have of:=(I.hok f _ h1).1;have oo:=(I.hok c' _ h2).1;obtain⟨p1,p2,p3,p4,p5,j1,j2,rfl⟩:=kb.ex;obtain⟨z,tt,b0,ww,e1,e2⟩:=ha;refine wpAny_call (codeAny_mono (zoB (CX:=CX0) (E:=fun _ _ _=>False) (Q:=fun w H'=>∃b,w=V.ref b/\Key2 H' b k/\Ext [] H [] H') (vs:=[V.ref a]) hs hr e0 of ⟨c',oc,vs,t,rfl,oo,h3,h4⟩
  (.of_eq (hb pm _ ct _)) (.cons rfl .nil) rfl (fun hr'=>zg3 zmr (zmB (i:=0) rfl ((hs.par "letter" (by simp)).elim .inl fun q=>.inr (.inl q))) (zeB zjo) (zeB zjo)) ?_) fun r s' q=>?_)
 refine⟨.ref a,rfl,1,rfl,3,rfl,a,[tt,.ref b0,.int k.2.2,ww],rfl,.inl (Rd.of e1),(fun z=>absurd (show(1:Nat)=0 from z.1) (by decide)),fun p hp=>⟨p,rfl,⟨z,b0,zal,?_⟩,zki hp⟩⟩;rw[zag (zam e2 hp)];exact e2;cases r with
 |error e=>exact q.elim| ok fl=>
  cases fl with
  |ret y=>
   obtain⟨w,H',os,bare,un,hok,rv,b,rfl,hb',x⟩:=q;cases y with
   |ref z=>
    have:z=b:=by simpa[L2.RelV]using rv
    exact⟨b,H',by rw[this],I.call' os un hok bare (fun b z=>absurd z (by simp)),hb',x,un⟩
   |_=>simp[L2.RelV]at rv
  |_=>exact q.elim
theorem ord3:Ord Lt3:=⟨zd7,fun h k=>zjz h k⟩
theorem zpB(hr:Room 2 A')(e0:∀H s,Inv X pins σ H s->Env0 X.prog X.w X.K X.mg X.base A' X.stack s H)(L:LamAt H f name qual params body scope)(hs:FnScope ["letter"] ["letter"] scope)
  (hb:∀(pm cd ct u:Value),bindArgs (kla_fn name qual params body scope [] pm cd ct) ⟨[u],[]⟩=pure [(("letter":Str),u)]) (kb:KeyBody body):SortK X pins σ A' H f Let2 Key2 (tuples' false) Lt3 where
 upR:=fun k ⟨z,t,b,w,h1,h2⟩=>⟨z,t,b,w,k.tups _ _ h1,k.tups _ _ h2⟩
 upK:=fun k ⟨z,b,h1,h2⟩=>⟨z,b,k.tups _ _ h1,k.tups _ _ h2⟩
 call:=fun I x ha=>zlY I hr (e0 _ _ I) (L.up x.kp) hs hb kb ha
 kind:=fun I hk h1 q=>zn1 (fun v hv=>let ⟨b,r,e,k⟩:=hk v hv;⟨b,r,e,zgr I.hok k⟩) h1 q
 less:=fun I h1 h2 q=>zsa (by have:=hr.un;omega) (zgr I.hok h1) (zgr I.hok h2) q
 ord:=ord3
end
section
variable{X:Cx}{pins:List (Addr×Obj)}{σ:L2.St}{H:Hp}{s:Shared}{f a:Addr}{as:List Addr}{ks:List K3}{name qual:Str}{params:Arguments}{body:Expr}{scope:Scope}
structure Srd(X:Cx)(pins:List (Addr×Obj))(σ:L2.St)(H:Hp)(as:List Addr)(D:Addr)(s':Shared):Prop where
 ex:∃(H':Hp),Inv X pins σ H' s'/\Ext [] H [] H'/\H D=none/\H' D=some (.lst (as.map V.ref))
theorem zd1:∀{l:List Addr}{m:List Value},Vals (l.map V.ref) m->m=l.map Value.ref
 | [],_,h=>by cases h;rfl| x::l,_,h=>by cases h with|cons h1 h2=>rw[map_cons,<-zd1 h2,show _=Value.ref x from h1]
theorem zcT:∀l:List Addr,Vals (l.map V.ref) (l.map Value.ref)
 | []=>.nil|_::l=>.cons rfl (zcT l)
theorem zhL(I:Inv X pins σ H s)(hh:X.A.handled=none)(hr:Room 2 X.A.in1.in1)(L:LamAt H f name qual params body scope)(hs:FnScope ["letter"] ["letter"] scope)
  (hb:∀(pm cd ct u:Value),bindArgs (kla_fn name qual params body scope [] pm cd ct) ⟨[u],[]⟩=pure [(("letter":Str),u)]) (kb:KeyBody body)
  (hq:SqL X.K H a (as.map V.ref)) (hl:as.length=ks.length) (h64:ks.length<64) (nd:ks.Pairwise Lt3) (ha:∀(j:Nat)(b:Addr),as[j]?=some b->∃k,ks[j]?=some k/\Let2 H b k) (q:∀D s',Srd X pins σ H as D s'->Q (.ref D) s') :
  wpAny (model X.prog X.w) X.A (call (.builtin "sorted") [.ref a] [(Str.ofString "key",.ref f)]) Q E s:=by
 obtain⟨its,rv,pl,hz⟩:=I.list hq;have ei:=zd1 rv;subst ei;refine call_function_entry_kw kind_sorted plain_sorted entry_sorted (ksk_s1 _ _) ?_;refine wpAny_bind (wpAny_pure (wpAny_bind ?_));refine collect_list pl.isList ?_ (by rw[length_map,sizeLine_eq];omega);have kp:∀b o,s.heap.get? b=some o->((s.heap.push (seqObj "list" #[] 0)).update s.heap.objs.size (Obj.mapSeq (·++(as.map Value.ref).toArray))).get? b=some o:=fun b o e=>(Heap.get?_update_other _ _ (ne_of_gt (Heap.lt_size e))).trans (Heap.get?_push_of_some _ e);generalize(s.heap.push (seqObj "list" #[] 0)).update s.heap.objs.size (Obj.mapSeq (·++(as.map Value.ref).toArray))=h1 at *;refine wpAny_bind (wpAny_newList ?_ (by rw[length_map,sizeLine_eq];omega));have I1:Inv X pins σ H {s with heap:=h1}:=za8 (g':=s.gens) (t':=s.toks) (d':=s.drawn) (ch:=[]) I (fun b hb=>by cases hb) (fun b hb=>by cases hb) (fun b o _ e=>kp b o e) I.bare;have I3:Inv X pins σ H {s with heap:=h1.push (seqObj "list" (as.map Value.ref).toArray 0)}:=za8 (s:={s with heap:=h1}) (g':=s.gens) (t':=s.toks) (d':=s.drawn) (ch:=[]) I1 (fun b hb=>by cases hb) (fun b hb=>by cases hb) (fun b o _ e=>Heap.get?_push_of_some _ e) I.bare;have lD:zf1 {s with heap:=h1.push (seqObj "list" (as.map Value.ref).toArray 0)} h1.objs.size (as.map Value.ref) 0:=Heap.get?_push_size _ rfl;have oD:Own X pins h1.objs.size:=Own.fresh I1 (le_refl _);have dN:H h1.objs.size=none:=I1.hok.fresh (le_refl _);refine wpAny_bind (wpAny_holding (wpAny_call_entry_kw slot_list_sort ⟨_,lD,rfl⟩ entry_list_sort ?_ (ksk_l1 _ _)));refine zrO I3 (zpB hr (fun H s J=>J.env0.in1.in1) L hs hb kb) hl h64 nd oD dN lD ha fun s' ke=>⟨_,rfl,?_⟩;refine wpAny_pure ⟨_,rfl,q _ s' ?_⟩;obtain⟨H2,e,J,x2,dN2,lst⟩:=ke.ex;exact⟨upd H2 h1.objs.size (.lst (as.map V.ref)),zfC J oD dN2 ⟨by simp[sizeLine_eq];omega,_,e,zcT _,lst⟩,x2.trans (zki dN2),dN,zal⟩
end
def SrtK(K:Frag)(Q:VK)(w:V)(H1:Hp):Prop:=∃(a:Addr) (as:List Addr) (ks:List K3),w=.ref a/\SqL K H1 a (as.map V.ref)/\as.length=ks.length/\ks.length<64/\ks.Pairwise Lt3/\(∀(j:Nat)(b:Addr),as[j]?=some b->∃k,ks[j]?=some k/\Let2 H1 b k)/\TB H1/\
 ∀(D:Addr)(H2:Hp),Ext [] H1 [] H2->H1 D=none->H2 D=some (.lst (as.map V.ref))->Q (.ref D) H2
section
variable{X:Cx}{o:Expr}{p kpos lpos pos:Pos}{td:TE}{c P:Addr}{params:Arguments}{body:Expr}{scope:Scope}
theorem Let2.up(kp:Kp H H')(h:Let2 H b k):Let2 H' b k:=let ⟨z,t,b,w,h1,h2⟩:=h;⟨z,t,b,w,kp.tups _ _ h1,kp.tups _ _ h2⟩
theorem SqL.up0{K:Frag}(x:Ext [] H [] H')(h:SqL K H a xs):SqL K H' a xs:=by rcases h with (h|⟨o,h⟩)|h;rcases(x.rest a _ (by simp) h).1 with z|⟨⟨_,z⟩,_⟩;exact .inl (.inl z);cases z;rcases(x.rest a _ (by simp) h).1 with z|⟨⟨_,z⟩,_⟩;exact .inl (.inr ⟨o,z⟩);cases z;exact .inr h
theorem zn5(ho:PE X o td)(hst:zah o=true)(hg:Gl X "sorted")(hm:X.mg "sorted"=none)(hu:Room 2 X.A.in1.in1)(mk:Maker X c P)(hdef:defaultsOf params X.env=([],[]))(hcl:closureFor scope X.env=pure [])(hs:FnScope ["letter"] ["letter"] scope)
  (hb:∀(pm cd ct u:Value),bindArgs (kla_fn "<lambda>" (X.env.qual ++ "<lambda>") params body scope [] pm cd ct) ⟨[u],[]⟩=pure [(("letter":Str),u)]) (kb:KeyBody body) :
  PE X (.Call (.Name "sorted" p) [o] [⟨some "key",.Lambda params body scope lpos,kpos⟩] pos) (fun σ H Q=>td σ H (SrtK X.K Q)):=by
 intro pins s σ H Q I h;refine wpAny_Call_Name_kw (zds I hg hm (by rfl:bootBuiltins "sorted"=some (.builtin "sorted")) ?_ (by decide) (by decide));have ha:PA X [o] (ziM td tNil):=zcI ho zg4 (zaj hst _ _);have hk:PK X [⟨some "key",.Lambda params body scope lpos,kpos⟩] (ziM (tLam (X.env.qual ++ "<lambda>") params body scope) tNil):=zn3 (zqp mk hdef hcl) zqf;refine PyProof.Rows.callWith_builtin_kwB (by rw[zaj hst];rfl) rfl (PyProof.Rows.evalArgs_kw2 rfl (thn (ha pos pins s σ H (oneK (SrtK X.K Q)) I h) fun us s1=>ex5 fun vs H1 I1 r1 k1=>?_) (zaj hst _ _));obtain⟨w,rfl,a,as,ks,ew,hq,hl,h64,nd,hla,tb,q1⟩:=zg5 k1;subst ew;obtain⟨u,rfl,ru⟩:=Vals.one r1;obtain rfl:u=Value.ref a:=ru;refine thn (hk pos pins s1 σ H1 (oneK fun w2 H2=>∃f,w2=.ref f/\LamAt H2 f "<lambda>" (X.env.qual ++ "<lambda>") params body scope/\Ext [] H1 [] H2) I1 ⟨tb,fun f H2 L S=>⟨f,rfl,L,S⟩⟩) fun ws s2=>ex5 fun zs H2 I2 r2 k2=>?_;obtain⟨w2,rfl,f,ef,L,st⟩:=zg5 k2;subst ef;obtain⟨u2,rfl,ru2⟩:=Vals.one r2;obtain rfl:u2=Value.ref f:=ru2;refine zhL I2 hu.hd hu L hs hb kb (SqL.up0 st hq) hl h64 nd (fun j b e=>let ⟨k,e1,e2⟩:=hla j b e;⟨k,e1,e2.up st.kp⟩) fun D s3 tl=>?_;obtain⟨H3,I3,x3,dn,dl⟩:=tl.ex;refine⟨.ref D,H3,I3,rfl,q1 D H3 (st.trans x3) ?_ dl⟩;cases e:H1 D with|none=>rfl| some o=>exfalso;have:=(st.rest D o (by simp) e).1;rw[dn]at this;rcases this with z|⟨_,_,z⟩<;>cases z
end
noncomputable def lamP:Arguments->Bool
 |⟨[],[⟨a,none,_⟩],none,[],[],none,[]⟩=>decide (a="letter")|_=>false
noncomputable def isC(n:Int):Expr->Bool
 |.Constant (.int i) _ _=>decide (i=n)|_=>false
noncomputable def lamS:Expr->Bool
 |.Subscript (.Name x _) (.Slice (some lo) (some hi) none _) _=>decide (x="letter")&&(isC 1 lo&&isC 3 hi)|_=>false
noncomputable def lamB:Expr->Bool
 |.Lambda p b scope _=>lamP p&&(lamS b&&(decide (scope.names=[(("letter":Str),NameKind.local)])&&(decide (scope.kind=.function)&&(!scope.isCoroutine&&!scope.isGenerator))))|_=>false
theorem zj0(h:isC n e=true):∃j p,e=.Constant (.int n) j p:=by unfold isC at h;split at h;simp at h;subst h;exact⟨_,_,rfl⟩;cases h
theorem zl1(h:lamS e=true):∃p1 j1 p2 j2 p3 p4 p5,e=.Subscript (.Name "letter" p1) (.Slice (some (.Constant (.int 1) j1 p2)) (some (.Constant (.int 3) j2 p3)) none p4) p5:=by unfold lamS at h;split at h;simp at h;obtain⟨rfl,h1,h2⟩:=h;obtain⟨_,_,rfl⟩:=zj0 h1;obtain⟨_,_,rfl⟩:=zj0 h2;exact⟨_,_,_,_,_,_,_,rfl⟩;cases h
theorem zl2(h:lamP a=true):∃p,a=⟨[],[⟨"letter",none,p⟩],none,[],[],none,[]⟩:=by unfold lamP at h;split at h;simp at h;subst h;exact⟨_,rfl⟩;cases h
structure LamE(params:Arguments)(body:Expr)(scope:Scope):Prop where
 df:∀env,defaultsOf params env=([],[])
 cl:∀env,closureFor scope env=pure []
 sc:FnScope ["letter"] ["letter"] scope
 bd:∀(q:Str)(pm cd ct u:Value),bindArgs (kla_fn "<lambda>" q params body scope [] pm cd ct) ⟨[u],[]⟩=pure [(("letter":Str),u)]
 kb:KeyBody body
theorem zl3(h:lamB e=true):∃params body scope lpos,e=.Lambda params body scope lpos/\LamE params body scope:=by unfold lamB at h;split at h;rename_i p b scope p7;simp at h;obtain⟨h1,h2,hn,hk,hc,hg⟩:=h;obtain⟨p1,rfl⟩:=zl2 h1;obtain⟨_,_,_,_,_,_,_,rfl⟩:=zl1 h2;refine⟨_,_,scope,_,rfl,⟨fun env=>rfl,fun env=>?_,⟨hk,hc,hg,by decide,rfl,fun x hx=>?_,fun y hy=>?_⟩,fun q pm cd ct u=>rfl,⟨_,_,_,_,_,_,_,rfl⟩⟩⟩;unfold closureFor;rw[hn];rfl;rw[mem_singleton.mp hx,hn];exact .inl (by decide);rw[hn]at hy;rw[mem_singleton.mp hy];decide;cases h
section
variable{K:Frag}{ι:List Addr}{H H2:Hp}{S:R.St}
theorem zfE:∀{ds:List D}{xs:List V}{p:List Int},RVs K ι H ds xs->zb9 ds=some p->xs=p.map V.int
 | [],xs,p,r,e=>by cases r;simp[zb9]at e;subst e;rfl| d::ds,xs,p,r,e=>by
  obtain⟨v,vs,rfl,r1,r2⟩:=r;unfold zb9 at e;rw[mapM_cons]at e;cases d with
  |int i=>
   cases e2:ds.mapM zbG with
   |none=>rw[e2]at e;cases e
   |some q=>rw[e2]at e;cases e;rw[zfE r2 e2,show v=.int i from r1];rfl
  |_=>cases e
theorem zqQ(r:RV K ι H d v)(e:zdS d=some k):∃a,v=.ref a/\Let2 H a k:=by
 unfold zdS at e;split at e;rename_i t ds b w;cases e2:zb9 ds with
 |none=>rw[e2]at e;cases e
 |some p=>rw[e2]at e;cases e;obtain⟨a,xs,rfl,hx,v1,w1,rfl,r1,v2,w2,rfl,r2,v3,w3,rfl,r3,v4,w4,rfl,r4,rn⟩:=r;cases rn;obtain⟨c,ys,rfl,hy,ry⟩:=r2;cases r3;exact⟨a,rfl,rfl,_,c,_,hx,by rw[hy,zfE ry e2]⟩
 cases e
theorem zjE:∀{ds:List D}{xs:List V}{ks:List K3},RVs K ι H ds xs->ds.mapM zdS=some ks->∃as:List Addr,xs=as.map V.ref/\as.length=ks.length/\ds.length=ks.length/\∀(j:Nat)(b:Addr),as[j]?=some b->∃k,ks[j]?=some k/\Let2 H b k
 | [],xs,ks,r,e=>by cases r;simp at e;subst e;exact⟨[],rfl,rfl,rfl,fun j b h=>by simp at h⟩| d::ds,xs,ks,r,e=>by
  obtain⟨v,vs,rfl,r1,r2⟩:=r;rw[mapM_cons]at e;cases e1:zdS d with
  |none=>rw[e1]at e;cases e
  |some k=>
   cases e2:ds.mapM zdS with
   |none=>rw[e1,e2]at e;cases e
   |some q=>rw[e1,e2]at e;cases e;obtain⟨as,rfl,h1,h2,h3⟩:=zjE r2 e2;obtain⟨a,rfl,hl⟩:=zqQ r1 e1;refine⟨a::as,rfl,by simp[h1],by simp[h2],fun j b hb=>?_⟩;cases j with|zero=>cases hb;exact⟨k,rfl,hl⟩|succ j=>exact h3 j b (by simpa using hb)
end
theorem RH.add{K:Frag}(h:RH K ι H S)(x:Ext ι H (ι++[p]) H')(e:∀a∈ι,H' a=H a)(hp:p∉ι)(ho:RO K (ι++[p]) H' p o):RH K (ι++[p]) H' (S.push o):=by
 refine⟨by rw[length_append,h.len,zb0];rfl,?_,fun l o' q=>?_,x.kp.tab h.tab⟩;rw[nodup_append];refine⟨h.nd,by simp,fun a ha b hb=>?_⟩;simp at hb;subst hb;exact fun z=>hp (z▸ha);by_cases hl:l<S.len;rw[zcf hl]at q;obtain⟨a,h1,h2,hm⟩:=h.mem q;exact⟨a,zbL (prefix_append _ _) h1,h2.stay x (e a hm)⟩;have hl2:=zai q;rw[zb0]at hl2;have:l=S.len:=by omega
 subst this;rw[zeV]at q;cases q;exact⟨p,by rw[<-h.len];simp,ho⟩
section
variable{T:Tab}{cf:CF}{k:Nat}{N:List Str}{sc:Scope}{X:Cx}{pos p kpos:Pos}
theorem znr(G:Gd T cf k N sc X)(hN:N=T.lam)(hg:Gl X "sorted"/\X.mg "sorted"=none)(he:PE X e (tE X.K cf ca))(hst:zah e=true)(hlam:lamB le=true) :
  PE X (.Call (.Name "sorted" p) [e] [⟨some "key",le,kpos⟩] pos) (tE X.K cf (.srtK ca)):=by
 obtain⟨params,body,scope,lpos,rfl,L⟩:=zl3 hlam;obtain⟨hk,c,mk⟩:=G.lam hN;have room:Room 2 X.A.in1.in1:=((G.room'.mono (Nat.succ_le_succ hk)).in1).in1;refine PE.imp (zn5 he hst hg.1 hg.2 room mk (L.df _) (L.cl _) L.sc (L.bd _) L.kb) fun σ H Qv=>ex8 fun δ ι S Q hs hh w q=>?_;simp[evE,zaa]at w;refine tE.run hs hh w fun d v ι1 H1 S1 x1 hs1 hh1 r1 w1=>?_;obtain⟨⟨ds,ks⟩,eq,w2⟩:=zar w1;cases d with
 |ref l=>
  simp[zd8]at eq;cases eg:S1.get l with
  |none=>rw[eg]at eq;cases eq
  |some o=>
   rw[eg]at eq;cases o with
   |lst ds'=>
    dsimp only at eq;cases em:ds'.mapM zdS with
    |none=>rw[em]at eq;cases eq
    |some ks'=>rw[em]at eq;cases eq;obtain⟨b,i1,rfl⟩:=r1;obtain⟨b',i2,xs,hx,rs⟩:=hh1.obj l _ eg;rw[i1]at i2;cases i2;obtain⟨as,rfl,l1,l2,la⟩:=zjE rs em;split at w2;rename_i c2;unfold lay at w2;split at w2;rename_i hz;refine⟨b,as,ks,rfl,SqL.of hx,l1,c2.1,c2.2,la,hh1.tab,fun D0 H2 x hD h2=>?_⟩;have hDi:D0∉ι1:=hh1.fresh hD;have ex:Ext ι1 H1 (ι1++[D0]) H2:=⟨prefix_append _ _,x.kp,fun a o h e=>⟨(x.rest a o (by simp) e).1,fun z=>by rcases mem_append.mp z with z|z;exact h z;simp at z;exact zam e hD z⟩⟩;refine q _ _ ⟨.ref S1.len,ι1++[D0],S1.push (.lst ds),x1.trans ex,⟨D0,hh1.last D0,rfl⟩,hh1.add ex (fun a hm=>?_) hDi ⟨_,h2,?_⟩,w2⟩;obtain⟨o,e,_,_,nt⟩:=hh1.live hm;rw[e];exact x.keep (by simp) e nt;exact rs.ext ex;exact w2.elim;exact w2.elim
   |_=>cases eq
 |_=>cases eq
theorem zpG(ha:PE X a (tE X.K cf ca))(hb:PE X b (tE X.K cf cb)):PE X (.BinOp a .Mult b pos) (tE X.K cf (.rep ca cb)):=by
 refine PE.imp (zql zqy ha hb) fun σ H Qv=>ex8 fun δ ι S Q hs hh w q=>?_;simp[evE,zaa]at w;refine tE.run hs hh w fun d v ι1 H1 S1 x1 hs1 hh1 r1 w1=>tE.run hs1 hh1 w1 fun e u ι2 H2 S2 x2 hs2 hh2 r2 w2=>?_;cases d with
 |ref l=>
  cases e with
  |int k=>
   obtain rfl:u=.int k:=r2;obtain⟨b,i1,rfl⟩:=r1.ext x2;dsimp only at w2;split at w2;rename_i c;cases eg:S2.get l with
   |none=>rw[eg]at w2;exact w2.elim| some o=>
    rw[eg]at w2;cases o with
    |lst ds=>
     obtain⟨b',i2,xs,hx,rs⟩:=hh2.obj l _ eg;rw[i1]at i2;cases i2;dsimp only at w2;unfold lay at w2;split at w2;rename_i hz;refine⟨b,k,xs,rfl,rfl,hx,c.1,c.2,?_,fun p hp=>?_⟩;rw[zjJ]at hz;rw[rs.length,sizeLine_eq,Nat.mul_comm];exact hz;have rr:RVs X.K ι2 H2 (List.replicate k.toNat ds).flatten (List.replicate k.toNat xs).flatten:=by generalize k.toNat=m;induction m with|zero=>rfl|succ m ih=>rw[replicate_succ,replicate_succ,flatten_cons,flatten_cons];exact RVs.append rs ih
     exact q _ _ ⟨.ref S2.len,ι2++[p],_,(x1.trans x2).trans (Ext.obj hh2 hp _),⟨p,hh2.last p,rfl⟩,hh2.lay hp rr,w2⟩;exact w2.elim
    |_=>exact w2.elim
   exact w2.elim
  |_=>exact w2.elim
 |_=>exact w2.elim
end
end R
namespace R
open PySem PySem.Spec PyProof.Rows L2
section
variable{X:Cx}{o e f:Expr}{apos cpos:Pos}{td ty tv:TE}
def zpr(td ty tv:TE):TE:=fun σ H Q=>td σ H fun x H1=>∃a,x=.ref a/\IsD H1 a/\ty σ H1 fun y H2=>tv σ H2 fun v H3=>∃ws k,H3 a=some (.dK ws)/\y=.int k/\(∀u,valV ws (.inl k)=some u->Q u H3)/\(valV ws (.inl k)=none->ws.length<sizeLine/\Q v (upd H3 a (.dK (putK ws (.inl k) v))))
theorem zlG(ho:PE X o td)(he:PE X e ty)(hf:PE X f tv)(m:M2 X o "setdefault" apos e f cpos):PE X (.Call (.Attribute o "setdefault" apos) [e,f] [] cpos) (zpr td ty tv):=by
 intro pins s σ H Q I h;refine wpAny_Call_method m.base m.few m.line PySem.F.plainAttrs_dict PySem.F.slot_dict_setdefault PySem.F.type_dict_setdefault (thn (ho pins s σ H _ I h) fun u s1=>ex5 fun x H1 I1 rx ⟨a,ex,d,q1⟩=>?_);subst ex;obtain rfl:u=Value.ref a:=rx;obtain⟨t1,t2,_⟩:=zmL I1 d;refine⟨t1,t2,?_⟩;rw[m.trees];refine Calls.callWith_builtin rfl (Calls.evalArgs_plain (Calls.spliced_cons (thn (he pins s1 σ H1 _ I1 q1) fun iv s2=>ex5 fun y H2 I2 ry q2=>Calls.spliced_cons (thn (hf pins s2 σ H2 _ I2 q2) fun fv s3=>ex5 fun v H3 I3 rv ⟨ws,k,ea,ey,q3,q4⟩=>Calls.spliced_nil ?_))));subst ey;obtain⟨z,hd,vs,rel,dd⟩:=zko I3.hok ea;have hz:vs.length<=sizeLine:=by rw[<-rel.length];exact z
 refine PySem.call_meetsIn PySem.F.slot_dict_setdefault dd.typeIs PySem.F.entry_dict_setdefault (PySem.F.args_dict_setdefault_3 _ _ _) (PySem.kt_meets_setdefault (zas X.prog X.w) a (zjQ (k:=.inl k) ry) hd fv) ⟨vs,dd,hz,fun w hw=>?_,fun hn h' dd' hs=>?_⟩;have r:=rel.val (.inl k);rw[hw]at r;cases l:valV ws (.inl k) with|none=>rw[l]at r;exact r.elim|some u=>rw[l]at r;exact⟨u,H3,I3.tok _,r,q3 u l⟩
 have r:=rel.val (.inl k);rw[hn]at r;cases l:valV ws (.inl k) with
 |some u=>rw[l]at r;exact r.elim| none=>
  obtain⟨hl,q5⟩:=q4 l;have hl2:(putK ws (.inl k) v).length<=sizeLine:=by have:=zbs ws (.inl k) v;omega
  have he:∃q,h'.get? a=some q:=let ⟨q,_,_,hq,_⟩:=dd';⟨q,hq⟩;exact⟨v,upd H3 a (.dK (putK ws (.inl k) v)),zeX (t':=s3.toks+1) I3 (by rw[ea];exact True.intro) hs he (zkp hl2 hd (rel.put (.inl k) rv) dd'),rv,q5⟩
end
variable[Mks]
theorem RIs.val{K:Frag}(k:Int):∀{kvs:List (Int×D)}{ws:List (Key×V)},RIs K ι H kvs ws->(valI kvs k=none/\valV ws (.inl k)=none)\/∃d v,valI kvs k=some d/\valV ws (.inl k)=some v/\RV K ι H d v
 | [],ws,r=>by cases r;exact .inl ⟨rfl,rfl⟩| (j,d)::kvs,ws,r=>by
  obtain⟨v,w,rfl,r1,r2⟩:=r;by_cases e:j=k;subst e;exact .inr ⟨d,v,by simp[valI],by simp[valV],r1⟩;have e1:valI ((j,d)::kvs) k=valI kvs k:=by simp[valI,e]
  have e2:valV (((Sum.inl j:Key),v)::w) (.inl k)=valV w (.inl k):=by simp[valV,e]
  rw[e1,e2];exact RIs.val k r2
section
variable{T:Tab}{cf:CF}{k:Nat}{N:List Str}{sc:Scope}{X:Cx}{pos p p2 pos':Pos}
theorem zjY(hh:RH X.K ι H S)(r:RV X.K ι H d v)(h:isDi S d=true):∃a,v=.ref a/\IsD H a:=by
 cases d with
 |ref l=>
  obtain⟨p,h1,rfl⟩:=r;simp[isDi]at h;cases e:S.get l with
  |none=>rw[e]at h;cases h
  |some o=>rw[e]at h;obtain⟨b,h2,h3⟩:=hh.obj _ _ e;rw[h1]at h2;cases h2;cases o with|dic kvs=>obtain⟨_,ws,ha,_⟩:=h3;exact⟨p,rfl,.inl ⟨ws,.inl ha⟩⟩|_=>cases h
 |_=>cases h
theorem zfQ(hh:RH X.K ι H S)(rx:RV X.K ι H x vx)(ry:RV X.K ι H y vy)(h:zeY S x y=some o) :
  ∃l a kvs ws kk,x=.ref l/\ι[l]?=some a/\S.get l=some (.dic kvs)/\vx=.ref a/\y=.int kk/\(kvs.map (·.1)).Nodup/\H a=some (.dK ws)/\RIs X.K ι H kvs ws/\vy=.int kk/\o=valI kvs kk:=by
 unfold zeY at h;cases x with
 |ref l=>
  obtain⟨p,h1,rfl⟩:=rx;dsimp only at h;cases e:S.get l with
  |none=>rw[e]at h;cases h
  |some ob=>
   rw[e]at h;obtain⟨b,h2,h3⟩:=hh.obj _ _ e;rw[h1]at h2;cases h2;cases ob with
   |dic kvs=>obtain⟨nd,ws,ha,rk⟩:=h3;cases y with| int kk=>cases h;obtain rfl:vy=.int kk:=ry;exact⟨l,p,kvs,ws,kk,rfl,h1,e,rfl,rfl,nd,ha,rk,rfl,rfl⟩|_=>cases h
   |_=>cases h
 |_=>cases h
theorem zlc(G:Gd T cf k N sc X)(ho:PE X o (tE X.K cf co))(he:PE X e (tE X.K cf ce))(hx:PE X x (tE X.K cf cx))(hst:zah e=true)(hst2:zah x=true)(hsup:za7 o=true)(hl:(apos.endLine==cpos.line)=true) :
  PE X (.Call (.Attribute o "get" apos) [e,x] [] cpos) (tE X.K cf (.dgetI co ce cx)):=by
 refine PE.imp (zlI (by have:=G.hu;omega) ho he hx ⟨zcj hsup "get" X.env _,by rw[zaj hst,zaj hst2];rfl,hl,by rw[zaj hst,zaj hst2];rfl⟩) fun σ H Qv=>ex8 fun δ ι S Q hs hh w q=>?_;simp[evE,zaa]at w;refine tE.run hs hh w fun d v ι1 H1 S1 x1 hs1 hh1 r1 w1=>?_;split at w1;rename_i c;obtain⟨a,rfl,hD⟩:=zjY hh1 r1 c;refine⟨a,rfl,hD,?_⟩;rw[zaa]at w1;refine tE.run hs1 hh1 w1 fun y vy ι2 H2 S2 x2 hs2 hh2 r2 w2=>?_;rw[zaa]at w2;refine tE.run hs2 hh2 w2 fun z vz ι3 H3 S3 x3 hs3 hh3 r3 w3=>?_;rw[zaa]at w3;obtain⟨o,eo,w4⟩:=zar w3;obtain⟨l,a',kvs,ws,kk,_,_,_,ea,_,nd,ha,rk,rfl,rfl⟩:=zfQ hh3 (r1.ext (x2.trans x3)) (r2.ext x3) eo;cases ea;refine⟨_,DGet.k (k:=.inl kk) ha,?_⟩;have up:=(x1.trans x2).trans x3;rcases rk.val kk with⟨e1,e2⟩|⟨d',v',e1,e2,rv⟩;rw[e1]at w4;rw[e2];exact q _ _ (Lf.up up (Lf.of hh3 r3 w4));rw[e1]at w4;rw[e2];exact q _ _ (Lf.up up (Lf.of hh3 rv w4));exact w1.elim
theorem zlb(G:Gd T cf k N sc X)(ho:PE X o (tE X.K cf co))(he:PE X e (tE X.K cf ce))(hx:PE X x (tE X.K cf cx))(hst:zah e=true)(hst2:zah x=true)(hsup:za7 o=true)(hl:(apos.endLine==cpos.line)=true) :
  PE X (.Call (.Attribute o "setdefault" apos) [e,x] [] cpos) (tE X.K cf (.dsetI co ce cx)):=by
 refine PE.imp (zlG ho he hx ⟨zcj hsup "setdefault" X.env _,by rw[zaj hst,zaj hst2];rfl,hl,by rw[zaj hst,zaj hst2];rfl⟩) fun σ H Qv=>ex8 fun δ ι S Q hs hh w q=>?_;simp[evE,zaa]at w;refine tE.run hs hh w fun d v ι1 H1 S1 x1 hs1 hh1 r1 w1=>?_;split at w1;rename_i c;obtain⟨a,rfl,hD⟩:=zjY hh1 r1 c;refine⟨a,rfl,hD,?_⟩;rw[zaa]at w1;refine tE.run hs1 hh1 w1 fun y vy ι2 H2 S2 x2 hs2 hh2 r2 w2=>?_;rw[zaa]at w2;refine tE.run hs2 hh2 w2 fun z vz ι3 H3 S3 x3 hs3 hh3 r3 w3=>?_;rw[zaa]at w3;obtain⟨r,er,w4⟩:=zar w3;have up:=(x1.trans x2).trans x3;unfold zdT at er;cases eg:zeY S3 d y with
 |none=>rw[eg]at er;cases er
 |some og=>
  obtain⟨l,a',kvs,ws,kk,rfl,hi,hg,ea,rfl,nd,ha,rk,rfl,rfl⟩:=zfQ hh3 (r1.ext (x2.trans x3)) (r2.ext x3) eg;cases ea;rw[eg]at er;have hlen:∀T,dPut S3 (.ref l) (.int kk) z=some T->kvs.length<16777216/\S3.put l (.dic (putI kvs kk z))=some T:=fun T eT=>by unfold dPut at eT;dsimp only at eT;rw[hg]at eT;dsimp only at eT;split at eT;rename_i c;exact⟨c,eT⟩;cases eT
  rcases rk.val kk with⟨e1,e2⟩|⟨d',v',e1,e2,rv⟩;rw[e1]at er;cases ep:dPut S3 (.ref l) (.int kk) z with
  |none=>rw[ep]at er;cases er
  |some T'=>
   rw[ep]at er;cases er;obtain⟨c,es⟩:=hlen _ ep;have xw:=Ext.wr hh3 hg hi (.dK (putK ws (.inl kk) vz));have hz:ws.length<sizeLine:=by rw[rk.length,sizeLine_eq];exact c
   refine⟨ws,kk,ha,rfl,fun u hu=>absurd (e2.symm.trans hu) (fun z=>nomatch z),fun _=>⟨hz,?_⟩⟩;exact q _ _ ⟨z,ι3,T',up.trans xw,r3.ext xw,hh3.wr hg hi es ⟨zd6 nd,_,zal,(rk.put kk r3 nd).up xw.pre xw.kp⟩,w4⟩
  rw[e1]at er;cases er;refine⟨ws,kk,ha,rfl,fun u hu=>?_,fun hn=>absurd (e2.symm.trans hn) (fun z=>nomatch z)⟩;rw[e2]at hu;cases hu;exact q _ _ (Lf.up up (Lf.of hh3 rv w4))
 exact w1.elim
end
section
variable{T:Tab}{cf:CF}{k:Nat}{N:List Str}{sc:Scope}{X:Cx}{pos p:Pos}
theorem zfF(h:zbh S d=some (c,fs)):∃l,d=.ref l/\S.get l=some (.ins c fs):=by
 cases d with
 |ref l=>
  refine⟨l,rfl,?_⟩;unfold zbh at h;dsimp only at h;cases e:S.get l with
  |none=>rw[e]at h;cases h
  |some o=>rw[e]at h;cases o with|ins c' fs'=>cases h;rfl|_=>cases h
 |_=>cases h
theorem ne_of{α:Type}[BEq α]{xs:List α}{a:α}(h:xs.contains a=true):xs≠[]:=fun e=>by rw[e]at h;simp at h
theorem Gd.clsAt(G:Gd T cf k N sc X)(h0:T.flds≠[]\/T.inits≠[]\/T.isas≠[]){c:Nat}(h:Mks.cl[c]?=some C):∃x,T.cls[c]?=some x/\Cls X.K C/\X.mg x=some (.ref C)/\∀f,T.flds.contains f=true->NoAttr X.K C f:=by have hl:c<T.cls.length:=lt_of_lt_of_le (List.getElem?_eq_some_iff.mp h).1 (G.tab.cln h0);obtain⟨C',h1,h2,h3,h4⟩:=G.tab.cls c T.cls[c] (List.getElem?_eq_getElem hl);rw[h]at h1;cases h1;exact⟨_,List.getElem?_eq_getElem hl,h2,h3,h4⟩
theorem zpO(G:Gd T cf k N sc X)(ha:PE X a (tE X.K cf ca))(hsup:za7 a=true)(hf:T.flds.contains f=true):PE X (.Attribute a f pos) (tE X.K cf (.fld ca f)):=by
 refine PE.imp (zqs ha (zcj hsup f X.env _)) fun σ H Qv=>ex8 fun δ ι S Q hs hh w q=>?_;simp[evE,zaa]at w;refine tE.run hs hh w fun d v ι1 H1 S1 x1 hs1 hh1 r1 w1=>?_;obtain⟨u,eu,w2⟩:=zar w1;cases ei:zbh S1 d with
 |none=>rw[ei]at eu;cases eu
 |some pr=>obtain⟨c,fs⟩:=pr;rw[ei]at eu;have eu:fs.lookup f=some u:=eu;obtain⟨l,rfl,hl⟩:=zfF ei;obtain⟨b,i1,rfl⟩:=r1;obtain⟨b',i2,C,dx,ws,hC,hb,rf⟩:=hh1.obj l _ hl;rw[i1]at i2;cases i2;obtain⟨_,_,cl,_,na⟩:=G.clsAt (.inl (ne_of hf)) hC;rcases rf.look f with⟨e1,_⟩|⟨d',v',e1,e2,rv⟩;rw[eu]at e1;cases e1;rw[eu]at e1;cases e1;exact⟨b,C,dx,ws,v',rfl,hb,cl,na f hf,e2,q _ _ (Lf.up x1 (Lf.of hh1 rv w2))⟩
theorem zeH
  (hbase:attributeBase o name env (eval o env)=eval o env)
  (hfew:((backTo pos (starEach args env)).all (fun x=>!x.1)&&(backToKw pos (keywordEach [] env)).all (fun x=>x.1.isSome)
   && decide (args.length+([]:List Keyword).length+(if([]:List Keyword).isEmpty then 0 else 1)<30))=true)
  (hline:(apos.endLine==pos.line)=true)
  (h:wpAny (model prog w) A (eval o env) (fun ov s₁=>∀pl,wpAny (model prog w) A (getMethod ov name pl) (fun fx s₂=>wpAny (model prog w) A (callWith pos fx.1 fx.2 (backTo pos (starEach args env)) (backToKw pos (keywordEach [] env))) Q E s₂) E s₁) E s) :
  wpAny (model prog w) A (eval (.Call (.Attribute o name apos) args [] pos) env) Q E s:=by
 rw[arm_eval_Call,hbase];refine wpAny_bind (wpAny_mono h (fun ov s₁ h₁=>?_) fun _ _ e=>e);refine wpAny_bind (wpAny_standAt ?_);have hform:methodCallForm (args.length+([]:List Keyword).length) (backTo pos (starEach args env)) (backToKw pos (keywordEach [] env))=true:=hfew;have hpos:methodCallPos true o env apos pos=pure pos:=by unfold methodCallPos;simp[hline]
 unfold methodCall;rw[hform];refine wpAny_bind (wpAny_holding (wpAny_mono (h₁ _) (fun fx s₂ h₂=>?_) fun _ _ e=>e));exact wpAny_bind (wpAny_of_eq hpos h₂)
def ziL(X:Cx)(k:Nat)(m:Str)(ta:TE)(t:TA):TE:=fun σ H Q=>ta σ H fun x H1=>∃(a C dx:Addr) (fs:List (Str×V)) (fa:Addr) (fd:FuncData) (ps:List Str) (sp:Sp),x=.ref a/\H1 a=some (.ins C dx fs)/\Cls X.K C/\Meth X.K C m fa/\
 FnOk X.prog X.w X.K X.mg X.base CX0 k fa fd ps sp/\Binds X.K fd ps []/\fs.lookup m=none/\t σ H1 fun vs H2=>sp (x::vs) H2 Q E0
theorem zlC(he:PE X o ta)(hr:Room k X.A)(ha:PA X (e::es) t)
  (hbase:attributeBase o m X.env (eval o X.env)=eval o X.env)
  (hfew:((backTo pos (starEach (e::es) X.env)).all (fun x=>!x.1)&&(backToKw pos (keywordEach [] X.env)).all (fun x=>x.1.isSome)
   && decide ((e::es).length+([]:List Keyword).length+(if([]:List Keyword).isEmpty then 0 else 1)<30))=true)
  (hline:(apos.endLine==pos.line)=true) (hst:starEach (e::es) X.env=(false,eval e X.env)::starEach es X.env) (hpl:(backTo pos (starEach es X.env)).any (·.1)=false) :
  PE X (.Call (.Attribute o m apos) (e::es) [] pos) (ziL X k m ta t):=by
 intro pins s σ H Q I h;refine zeH hbase hfew hline (thn (he pins s σ H _ I h) fun u s1 hx pl=>?_);obtain⟨x,H1,I1,rx,a,C,dx,fs,fa,fd,ps,sp,ex,ea,c,hm,F,hb,l,q⟩:=hx;subst ex;obtain rfl:u=Value.ref a:=rx;apply zec I1 ea c hm l;refine callWith_K I.ok.mod.kin hm.kp (thn (ha pos pins s1 σ H1 _ I1 q) fun us s2=>ex5 fun vs H2 I2 r q2=>⟨I2.kIn,?_⟩) hst hpl;exact zfg (vs:=.ref a::vs) F hr hb .nil zgn I2 (.cons rfl r) (by rw[append_nil];exact q2)
theorem zjn(he:PE X o ta)(hr:Room k X.A)(hbase:attributeBase o m X.env (eval o X.env)=eval o X.env)(hline:(apos.endLine==pos.line)=true) :
  PE X (.Call (.Attribute o m apos) [] [] pos) (ziL X k m ta tNil):=by
 intro pins s σ H Q I h;refine zeH hbase rfl hline (thn (he pins s σ H _ I h) fun u s1 hx pl=>?_);obtain⟨x,H1,I1,rx,a,C,dx,fs,fa,fd,ps,sp,ex,ea,c,hm,F,hb,l,q⟩:=hx;subst ex;obtain rfl:u=Value.ref a:=rx;apply zec I1 ea c hm l;exact callWith_K0 I1.kIn hm.kp (zfg (vs:=[.ref a]) F hr hb .nil zgn I1 (.cons rfl .nil) (by rw[append_nil];exact q))
noncomputable def mtB(T:Tab)(m:Str)(tb:List (Nat×Nat)):Bool:=tb.all fun p=>T.mts.contains (p.1,m,p.2)
theorem zh8{tb:List (Nat×Nat)}(h:tb.lookup c=some f):(c,f)∈tb:=by
 induction tb with
 |nil=>cases h
 |cons p r ih=>simp[List.lookup]at h;split at h;rename_i e;cases h;have:=eq_of_beq e;subst this;simp;exact mem_cons_of_mem _ (ih h)
theorem zg9(G:Gd T cf k N sc X)(hm:mtB T m tb=true)(ht:∀{σ:L2.St}{H:Hp}{Qa:List V->Hp->Prop},tAs X.K cf ces σ H Qa->t σ H Qa)(h:tE X.K cf (.meth m tb co ces) σ H Qv):ziL X k m (tE X.K cf co) t σ H Qv:=by
 obtain⟨δ,ι,S,Q,hs,hh,w,q⟩:=h;simp[evE,zaa]at w;refine tE.run hs hh w fun d v ι1 H1 S1 x1 hs1 hh1 r1 w1=>?_;obtain⟨pr,ei,w2⟩:=zar w1;obtain⟨c,fs⟩:=pr;obtain⟨f,ef,w3⟩:=zar w2;split at w3;rename_i hn;rw[zaa]at w3;obtain⟨l,rfl,hl⟩:=zfF ei;have r1':=r1;obtain⟨b,i1,rfl⟩:=r1;obtain⟨b',i2,C,dx,ws,hC,hb,rf⟩:=hh1.obj l _ hl;rw[i1]at i2;cases i2;have hmt:=all_eq_true.mp hm (c,f) (zh8 ef);obtain⟨C',fa,fd,ps,hC',cl,me,F,bi⟩:=(G.tab.mth c m f hmt).ex;rw[hC]at hC';cases hC';have hlk:ws.lookup m=none:=by rcases rf.look m with⟨_,e2⟩|⟨d',v',e1,_,_⟩;exact e2;dsimp only at hn;rw[e1]at hn;cases hn
 refine⟨b,C,dx,ws,fa,fd,ps,_,rfl,hb,cl,me,F,bi,hlk,ht ?_⟩;refine tAs.run hs1 hh1 w3 fun ds vs ι2 H2 S2 x2 hs2 hh2 r2 w4=>?_;unfold appW at w4;refine⟨ι2,S2,.ref l::ds,⟨.ref b,vs,rfl,r1'.ext x2,r2⟩,hh2,?_⟩;obtain⟨d,T',e,w5⟩:=zf0 w4;rw[e];exact fun v H' ι' x r hT=>q v H' (Lf.up (x1.trans x2) ⟨d,ι',T',x,r,hT,w5⟩);exact w3.elim
theorem znu(G:Gd T cf k N sc X)(hm:mtB T m tb=true)(ho:PE X o (tE X.K cf co))(ha:PA X (e::es) (tAs X.K cf ces))(hst:(e::es).all zah=true)(hsup:za7 o=true)(hl:(apos.endLine==pos.line)=true)(hn:(e::es).length<29) :
  PE X (.Call (.Attribute o m apos) (e::es) [] pos) (tE X.K cf (.meth m tb co ces)):=by
 have hs:=hst;rw[all_cons,and_eq_true]at hst;refine PE.imp (zlC ho G.room ha (zcj hsup m X.env _) ?_ hl (zaj hst.1 es X.env) (zaR hst.2)) fun σ H Qv h=>zg9 G hm (fun z=>z) h;have h0:=zaR (pos:=pos) (env:=X.env) hs;have h1:(backTo pos (starEach (e::es) X.env)).all (fun x=>!x.1)=true:=by rw[all_eq_true];intro x hx;have:=List.any_eq_false.mp h0 x hx;simpa using this
 have h2:decide ((e::es).length+([]:List Keyword).length+(if([]:List Keyword).isEmpty then 0 else 1)<30)=true:=by rw[decide_eq_true_eq];show(e::es).length+0+0<30;omega
 rw[h1,h2];rfl
theorem zg8(hc:ces=.nil)(h:tAs X.K cf ces σ H Qa):tNil σ H Qa:=by subst hc;obtain⟨δ,ι,S,Q,hs,hh,w,q⟩:=h;exact q [] H ⟨[],ι,S,Ext.refl _ _,rfl,hh,by simpa[evEs]using w⟩
theorem zla(G:Gd T cf k N sc X)(hm:mtB T m tb=true)(ho:PE X o (tE X.K cf co))(hsup:za7 o=true)(hl:(apos.endLine==pos.line)=true) :
  PE X (.Call (.Attribute o m apos) [] [] pos) (tE X.K cf (.meth m tb co .nil)):=
 PE.imp (zjn ho G.room (zcj hsup m X.env _) hl) fun σ H Qv h=>zg9 G hm (fun z=>zg8 rfl z) h
theorem Vals.nons:∀j:Nat,Vals (List.replicate j .non) (List.replicate j Value.none)
 |0=>.nil|j+1=>.cons rfl (Vals.nons j)
theorem zhc(G:Gd T cf k N sc X)(hC:Mks.cl[c]?=some C)(ht:∀{σ:L2.St}{H:Hp}{Qa:List V->Hp->Prop},tAs X.K cf ces σ H Qa->t σ H Qa)(h:tE X.K cf (.mk c f x j ces) σ H Qv):zm9 C (spF X.K cf f) (List.replicate j V.non) E0 t σ H Qv:=by
 obtain⟨δ,ι,S,Q,hs,hh,w,q⟩:=h;simp[evE,zaa]at w;refine ht (tAs.run hs hh w fun ds vs ι1 H1 S1 x1 hs1 hh1 r1 w1=>?_);intro y dy hy hdy hne;have hh2:=hh1.new hdy (.own y);have x2:Ext ι1 H1 ι1 (upd H1 dy (.own y)):=Ext.new hdy _;have hy2:(upd H1 dy (.own y)) y=none:=by rw[zag (Ne.symm hne)];exact hy
 have hh3:=hh2.obj' hy2 (.ins C dy []) (.ins c []) ⟨C,dy,[],hC,zal,rfl⟩;have x3:Ext ι1 (upd H1 dy (.own y)) (ι1++[y]) (upd (upd H1 dy (.own y)) y (.ins C dy [])):=Ext.obj hh2 hy2 _;unfold appW at w1;obtain⟨d,T',e,w2⟩:=zf0 w1;refine⟨ι1++[y],S1.push (.ins c []),.ref S1.len::(ds++List.replicate j .non),⟨.ref y,_,rfl,⟨y,hh2.last y,rfl⟩,RVs.append ((r1.ext x2).ext x3) (RVs.nons j)⟩,hh3,?_⟩;rw[e];intro v H' ι' x' r hT;split at w2;rename_i hn;cases d with| non=>refine⟨r,q _ _ ⟨.ref S1.len,ι',T',((x1.trans x2).trans x3).trans x',⟨y,zbL x'.pre (hh2.last y),rfl⟩,hT,w2⟩⟩|_=>cases hn
 exact w2.elim
theorem zrZ(G:Gd T cf k N sc X)(hi:T.inits.contains (c,f,j)=true)(hx:T.cls[c]?=some x)(hg:isGl sc x=true)(hd:(x==("__debug__":Str))=false)(ha:PA X (e::es) (tAs X.K cf ces))(hst:(e::es).all zah=true) :
  PE X (.Call (.Name x p) (e::es) [] pos) (tE X.K cf (.mk c f x j ces)):=by
 obtain⟨C,fa,fd,ps,hC,M,F,hb⟩:=(G.tab.ini c f j hi).ex;obtain⟨x',e1,_,hm,_⟩:=G.clsAt (.inr (.inl (ne_of hi))) hC;rw[hx]at e1;cases e1;rw[all_cons,and_eq_true]at hst;exact PE.imp (zn6 M F G.room' (G.gl hg) hm hb (Vals.nons j) zgn ha hd (zaj hst.1 es X.env) (zaR hst.2)) fun σ H Qv h=>zhc G hC (fun z=>z) h
theorem zpK(G:Gd T cf k N sc X)(hi:T.inits.contains (c,f,j)=true)(hx:T.cls[c]?=some x)(hg:isGl sc x=true)(hd:(x==("__debug__":Str))=false) :
  PE X (.Call (.Name x p) [] [] pos) (tE X.K cf (.mk c f x j .nil)):=by
 obtain⟨C,fa,fd,ps,hC,M,F,hb⟩:=(G.tab.ini c f j hi).ex;obtain⟨x',e1,_,hm,_⟩:=G.clsAt (.inr (.inl (ne_of hi))) hC;rw[hx]at e1;cases e1;exact PE.imp (zlD M F G.room' (G.gl hg) hm hb (Vals.nons j) zgn hd) fun σ H Qv h=>zhc G hC (fun z=>zg8 rfl z) h
theorem zrd(hs:(e::es).all zah=true)(hn:(e::es).length<29):((backTo pos (starEach (e::es) env)).all (fun x=>!x.1)&&(backToKw pos (keywordEach [] env)).all (fun x=>x.1.isSome)
  && decide ((e::es).length+([]:List Keyword).length+(if([]:List Keyword).isEmpty then 0 else 1)<30))=true:=by
 have h0:=zaR (pos:=pos) (env:=env) hs;have h1:(backTo pos (starEach (e::es) env)).all (fun x=>!x.1)=true:=by rw[all_eq_true];intro x hx;have:=List.any_eq_false.mp h0 x hx;simpa using this
 have h2:decide ((e::es).length+([]:List Keyword).length+(if([]:List Keyword).isEmpty then 0 else 1)<30)=true:=by rw[decide_eq_true_eq];show(e::es).length+0+0<30;omega
 rw[h1,h2];rfl
theorem zlK(Hs:HasC X.prog X.w X.K X.mg X.base k x m sp)(hr:Room k X.A)(ha:PA X (e::es) t)(hg:Gl X x)(hdb:(x==("__debug__":Str))=false)
  (hbase:attributeBase (.Name x p) m X.env (eval (.Name x p) X.env)=eval (.Name x p) X.env) (hst:(e::es).all zah=true) (hn:(e::es).length<29) (hline:(apos.endLine==pos.line)=true) :
  PE X (.Call (.Attribute (.Name x p) m apos) (e::es) [] pos) (zeq sp [] E0 t):=by
 obtain⟨C,fa,fd,ps,mc,hm,h1,h2,h3,h4,F,hb⟩:=Hs.ex;have hst2:=hst;rw[all_cons,and_eq_true]at hst2;intro pins s σ H Q I h;refine zeH hbase (zrd hst hn) hline (thn (zjp (v:=.ref C) hg hm rfl hdb pins s σ H (fun v H1=>v=.ref C/\zeq sp [] E0 t σ H1 Q) I ⟨rfl,h⟩) fun u s1 ⟨xv,H1,I1,rx,ex,q⟩ pl=>?_);subst ex;obtain rfl:u=Value.ref C:=rx;refine PySem.W.method_cls I1.kIn h1 (PySem.W.cls_value I1.kIn h2 h3 rfl ?_);refine callWith_K I.ok.mod.kin h4 (thn (ha pos pins _ σ H1 _ (I1.tok _) q) fun us s2=>ex5 fun vs H2 I2 r q2=>⟨I2.kIn,?_⟩) (zaj hst2.1 es X.env) (zaR hst2.2);exact zfg F hr hb .nil zgn I2 r q2
theorem zik(h:tE X.K cf (.callC f x m ces) σ H Qv):zeq (spF X.K cf f) [] E0 (tAs X.K cf ces) σ H Qv:=by obtain⟨δ,ι,S,Q,hs,hh,w,q⟩:=h;simp[evE,zaa]at w;refine tAs.run hs hh w fun ds vs ι1 H1 S1 x1 hs1 hh1 r1 w1=>?_;unfold appW at w1;rw[append_nil];refine⟨ι1,S1,ds,r1,hh1,?_⟩;obtain⟨d,T',e,w2⟩:=zf0 w1;rw[e];exact fun v H' ι' x r hT=>q v H' (Lf.up x1 ⟨d,ι',T',x,r,hT,w2⟩)
theorem zle(G:Gd T cf k N sc X)(hc:T.cms.contains (x,m,f)=true)(hg:isGl sc x=true)(hd:(x==("__debug__":Str))=false)(hsup:za7 (.Name x p)=true)(ha:PA X (e::es) (tAs X.K cf ces))(hst:(e::es).all zah=true)(hn:(e::es).length<29)(hl:(apos.endLine==pos.line)=true) :
  PE X (.Call (.Attribute (.Name x p) m apos) (e::es) [] pos) (tE X.K cf (.callC f x m ces)):=
 PE.imp (zlK (G.tab.cmd x m f hc) G.room ha (G.gl hg) hd (zcj hsup m X.env _) hst hn hl) fun σ H Qv h=>zik h
end
end R
namespace R
open PySem PySem.Spec PyProof.Rows L2
section
variable[Mks]{X:Cx}
theorem zlX(hc:X.calm=true):zbi X (.type "list") (fun xs H Q=>∃(a:Addr) (ws:List (Key×V)) (ns:List Int),xs=[.ref a]/\H a=some (.dK ws)/\ws.map (·.1)=ns.map Sum.inl/\ns.length<=16777216/\∀p,H p=none->Q (.ref p) (upd H p (.lst (ns.map V.int)))):=by
 intro pins s σ H xs us Q I r h;obtain⟨a,ws,ns,rfl,hf,hks,hn,q⟩:=h;obtain⟨u,rfl,ru⟩:=r.one;cases ru;obtain⟨hz,hsm,vs,rel,dd⟩:=zko I.hok hf;obtain⟨ep,dd⟩:=dd.dictAt;have hA:X.A.handled=none:=I.ok.hd hc;have hvk:vs.map (·.1)=ns.map Sum.inl:=by
  rw[<-hks];have:∀{l:List (Key×V)}{m:List (Key×Value)},KV l m->m.map (·.1)=l.map (·.1):=by intro l m q;induction q with|nil=>rfl|cons h _ ih=>rw[map_cons,map_cons,h.1,ih]
  exact this rel
 have hvl:vs.length=ns.length:=by have:=congrArg List.length hvk;simpa using this
 have alt:=dd.lt_size;apply callType_codes (Q₁:=fun ob z=>ob=.ref s.heap.objs.size/\z={s with heap:=s.heap.push {cls:=.type "list",data:=.seq #[]}}) PySem.F.called_list (PySem.F.typeCall_list_1 _) PySem.F.entry_list_init (code_list_new _ ⟨rfl,rfl⟩);rintro _ _ ⟨rfl,rfl⟩;have g0:(s.heap.push {cls:=.type "list",data:=.seq #[]}).get? s.heap.objs.size=some {cls:=.type "list",data:=.seq #[]}:=Heap.get?_push_size _ rfl;refine⟨⟨_,g0,rfl⟩,PySem.F.args_list_init_2 _ _,?_⟩;apply wpAny_bind;refine wpAny_bind (wpAny_seqItems g0 rfl (wpAny_pure ?_));refine wpAny_bind (wpAny_updateSeq g0 rfl (wpAny_bind (wpAny_letGo ?_)));have g1:=Heap.get?_update_self (Obj.mapSeq (fun _=>(#[]:Array Value))) g0 rfl;have k1:∀b o,s.heap.get? b=some o->((s.heap.push {cls:=.type "list",data:=.seq #[]}).update s.heap.objs.size (Obj.mapSeq fun _=>(#[]:Array Value))).get? b=some o:=fun b o e=>(Heap.get?_update_other _ _ (Ne.symm (ne_of_lt (Heap.lt_size e)))).trans (Heap.get?_push_of_some _ e);generalize hg:(s.heap.push {cls:=.type "list",data:=.seq #[]}).update s.heap.objs.size (Obj.mapSeq fun _=>(#[]:Array Value))=h1 at *;refine zee (A:=X.A.in1) hA hsm (dd.at' fun o e=>k1 _ _ e) (by rw[hvl,sizeLine_eq];omega) _ (ne_of_gt alt) _ _ g1 fun h' tk acc c hk hS' hacc=>?_;have hi:IntsAre acc.toList ns:=zeQ hvk (by rw[length_toList];exact hacc.1) fun i v e=>hacc.2 i v (by simpa using e);refine⟨rfl,.ref s.heap.objs.size,_,zeR (s:=s) (d':=s.drawn) (t':=tk) (o:=.lst (ns.map V.int)) I (fun b u e=>hk b u (ne_of_lt (Heap.lt_size e)) (k1 b u e)) (le_refl _) ⟨by rw[length_map,sizeLine_eq];exact hn,acc.toList,c,zbo hi,hS'⟩,rfl,q _ (I.hok.fresh (le_refl _))⟩
theorem zhK:zbi X (.builtin "sorted") (fun xs H Q=>∃(a:Addr) (ns:List Int),xs=[.ref a]/\SqL X.K H a (ns.map V.int)/\ns.length<64/\∀p,H p=none->Q (.ref p) (upd H p (.lst ((zak ns).map V.int)))):=by intro pins s σ H xs us Q I r h;obtain⟨a,ns,rfl,hq,h64,q⟩:=h;obtain⟨u,rfl,ru⟩:=r.one;cases ru;obtain⟨its,rv,pl,_⟩:=I.list hq;have hi:=zcL rv;refine sorted_ints pl.isList hi (by rw[hi.length];exact h64) fun out ns' a1 a2 a3=>?_;have en:ns'=zak ns:=zbV (a2.trans (zay ns).symm) a3 (zaN ns);subst en;obtain⟨c,hc⟩:=sortedAll_at s.heap its out;have hle:s.heap.objs.size<=s.heap.objs.size+1:=le_succ _;refine⟨.ref (s.heap.objs.size+1),_,zeR (d':=s.drawn) (t':=s.toks) (o:=.lst ((zak ns).map V.int)) I (fun b u e=>sortedAll_old e) hle ⟨?_,out.toList,c,zbo a1,hc⟩,rfl,q _ (I.hok.fresh hle)⟩;rw[length_map,(zay ns).length_eq,sizeLine_eq];omega
variable{T:Tab}{cf:CF}{k:Nat}{N:List Str}{sc:Scope}{pos p p2 pos':Pos}
theorem zpE(G:Gd T cf k N sc X)(hg:Gl X "sorted"/\X.mg "sorted"=none)(he:PE X e (tE X.K cf ca))(hst:zah e=true) :
  PE X (.Call (.Name "sorted" p) [e] [] pos) (tE X.K cf (.srt ca)):=by
 refine PE.imp (zbr zhK hg.1 hg.2 zdG (zaJ he hst) (by decide) (by decide) (zaj hst [] X.env)) fun σ H Qv ⟨δ,ι,S,Q,hs,hh,w,q⟩=>?_;simp[evE,zaa]at w;refine tE.run hs hh w fun d v ι1 H1 S1 x1 hs1 hh1 r1 w1=>?_;obtain⟨ns,hb,w2⟩:=zar w1;unfold lstI at hb;cases d with
 |ref l=>
  obtain⟨a,h1,rfl⟩:=r1;dsimp only at hb;cases e1:S1.get l with
  |none=>rw[e1]at hb;cases hb
  |some ob=>rw[e1]at hb;cases ob with| lst ds=>obtain⟨a',g1,zs,ha,rz⟩:=hh1.obj _ _ e1;rw[h1]at g1;cases g1;rw[zeS hb]at rz;have:=rz.ints_eq;subst this;split at w2;rename_i c;obtain⟨c2,w3⟩:=zbC w2;exact⟨a,ns,rfl,SqL.of ha,c,fun l hl=>q _ _ (Lf.up x1 (Lf.lst hh1 hl (RVs.ints _) w3))⟩;exact w2.elim|_=>cases hb
 |_=>cases hb
theorem znA(G:Gd T cf k N sc X)(hg:Gl X "list"/\X.mg "list"=none)(he:PE X e (tE X.K cf ca))(hst:zah e=true) :
  PE X (.Call (.Name "list" p) [e] [] pos) (tE X.K cf (.dlst ca)):=by
 refine PE.imp (za6 (zlX G.calm) hg.1 hg.2 ze8 (zaJ he hst) (by decide) (by decide) (zaj hst [] X.env)) fun σ H Qv ⟨δ,ι,S,Q,hs,hh,w,q⟩=>?_;simp[evE,zaa]at w;refine tE.run hs hh w fun d v ι1 H1 S1 x1 hs1 hh1 r1 w1=>?_;obtain⟨ns,hb,w2⟩:=zar w1;unfold dicI at hb;cases d with
 |ref l=>
  obtain⟨a,h1,rfl⟩:=r1;dsimp only at hb;cases e1:S1.get l with
  |none=>rw[e1]at hb;cases hb
  |some ob=>rw[e1]at hb;cases ob with| dic kvs=>obtain⟨a',g1,nd,ws,ha,rz⟩:=hh1.obj _ _ e1;rw[h1]at g1;cases g1;cases hb;obtain⟨c2,w3⟩:=zbC w2;exact⟨a,ws,_,rfl,ha,by rw[rz.keys,List.map_map];rfl,by rw[length_map,sizeLine_eq]at c2;exact c2,fun l hl=>q _ _ (Lf.up x1 (Lf.lst hh1 hl (RVs.ints _) w3))⟩|_=>cases hb
 |_=>cases hb
theorem zpR(ho:PE X o (tE X.K cf ca))(hsup:za7 o=true)(hl:(apos.endLine==cpos.line)=true) :
  PE X (.Call (.Attribute o "clear" apos) [] [] cpos) (tE X.K cf (.clr ca)):=by
 refine PE.imp (zqt PySem.F.plainAttrs_list PySem.F.slot_list_clear PySem.F.type_list_clear zlP ho (zcj hsup "clear" X.env _) hl) fun σ H Qv ⟨δ,ι,S,Q,hs,hh,w,q⟩=>?_;simp[evE,zaa]at w;refine tE.run hs hh w fun d v ι1 H1 S1 x1 hs1 hh1 r1 w1=>?_;split at w1;rename_i c;refine⟨zjX hh1 r1 c,?_⟩;cases d with
 |ref l=>obtain⟨a,h1,rfl⟩:=r1;cases e:S1.get l with|none=>simp[isL,e]at c| some o=>cases o with| lst es=>obtain⟨b',h2,zs,ha,rz⟩:=hh1.obj _ _ e;rw[h1]at h2;cases h2;obtain⟨c2,S',hp,w3⟩:=zmY w1;exact⟨a,zs,rfl,rfl,ha,q _ _ (Lf.up x1 (Lf.wr (d:=.non) hh1 e h1 hp rfl rfl w3))⟩|_=>simp[isL,e]at c
 |_=>exact w1.elim
 exact w1.elim
end
end R
namespace R
open PySem PySem.Spec PyProof.Rows L2
variable[Mks]
def LfS(K:Frag)(ι:List Addr)(H:Hp)(Q:Fl->R.St->Prop)(E:Ends):Prop:=∀f ι' H' S',Ext ι H ι' H'->RH K ι' H' S'->Q f S'->(match f with|.nx δ'=>∀σ',RS K ι' H' δ' σ'->E.nx σ' H'|.rt d=>∀v,RV K ι' H' d v->E.rt v H')
def tS(K:Frag)(cf:CF)(cs:CS):TS:=fun E σ H=>∃δ ι S Q,RS K ι H δ σ/\RH K ι H S/\W (exS cf cs δ S) Q/\LfS K ι H Q E
theorem LfS.up{K:Frag}(h:LfS K ι H Q E)(x:Ext ι H ι1 H1):LfS K ι1 H1 Q E:=fun f ι' H' S' x' hh q=>h f ι' H' S' (x.trans x') hh q
theorem PSs.imp{st:List Stmt}(h:PSs X st t)(i:∀E σ H,t' E σ H->t E σ H):PSs X st t':=fun pins s σ H E I q=>h pins s σ H E I (i E σ H q)
section
variable{T:Tab}{cf:CF}{k:Nat}{N:List Str}{sc:Scope}{X:Cx}{pos p:Pos}{rest:List Stmt}
theorem zpy:PSs X [] (tS X.K cf .nil):=PSs.imp znX fun E σ H=>ex8 fun δ ι S Q hs hh w l=>by exact l _ ι H S (Ext.refl _ _) hh w σ hs
theorem zpA(G:Gd T cf k N sc X)(hi:N[i]?=some x)(hl:zfB sc x=true)(he:PE X e (tE X.K cf ce))(hc:zbm e=true)(hr:PSs X rest (tS X.K cf r)) :
  PSs X (.Assign [.Name x p] e pos::rest) (tS X.K cf (.asg i ce r)):=by
 refine PSs.imp (za2 (zmA (by rw[G.nm];exact G.nd) (by rw[G.nm];exact hi) (G.lc hl).1 he (zer hc _ _ _) (G.lc hl).2) hr) fun E σ H=>ex8 fun δ ι S Q hs hh w l=>?_;simp[exS,zaa]at w;refine tE.run hs hh w fun d v ι1 H1 S1 x1 hs1 hh1 r1 w1=>?_;exact⟨δ.set i (some d),ι1,S1,Q,hs1.set r1 i,hh1,w1,l.up x1⟩
theorem zng(G:Gd T cf k N sc X)(hi:N[i]?=some x)(hps:∃t,PS X (.Assign [.Name x p] e pos) (tAsg t (zkc i))/\∀σ H Qv,tE X.K cf ce σ H Qv->t σ H Qv)(hr:PSs X rest (tS X.K cf r)) :
  PSs X (.Assign [.Name x p] e pos::rest) (tS X.K cf (.asg i ce r)):=by
 obtain⟨t,hp,ht⟩:=hps;refine PSs.imp (za2 hp hr) fun E σ H=>ex8 fun δ ι S Q hs hh w l=>?_;simp[exS,zaa]at w;refine ht _ _ _ (tE.run hs hh w fun d v ι1 H1 S1 x1 hs1 hh1 r1 w1=>?_);exact⟨δ.set i (some d),ι1,S1,Q,hs1.set r1 i,hh1,w1,l.up x1⟩
theorem znd(he:PE X e (tE X.K cf ce))(hc:zbm e=true)(hr:PSs X rest (tS X.K cf r)):PSs X (.Expr e pos::rest) (tS X.K cf (.expr ce r)):=by refine PSs.imp (za2 (znZ he (zer hc _ _ _)) hr) fun E σ H=>ex8 fun δ ι S Q hs hh w l=>?_;simp[exS,zaa]at w;refine tE.run hs hh w fun d v ι1 H1 S1 x1 hs1 hh1 r1 w1=>?_;exact⟨δ,ι1,S1,Q,hs1,hh1,w1,l.up x1⟩
theorem zpx(he:PE X e (tE X.K cf ce))(hr:PSs X rest (tS X.K cf r)):PSs X (.Return (some e) pos::rest) (tS X.K cf (.ret ce r)):=by refine PSs.imp (za2 (zqb he) hr) fun E σ H=>ex8 fun δ ι S Q hs hh w l=>?_;simp[exS,zaa]at w;refine tE.run hs hh w fun d v ι1 H1 S1 x1 hs1 hh1 r1 w1=>?_;exact l _ _ _ _ x1 hh1 w1 v r1
theorem zrV(hc:PT X c (tT X.K cf cc))(ha:PSs X a (tS X.K cf ca))(hb:PSs X b (tS X.K cf cb))(hr:PSs X rest (tS X.K cf r)):PSs X (.If c a b pos::rest) (tS X.K cf (.ifS cc ca cb r)):=by
 refine PSs.imp (za2 (zr9 hc ha hb) hr) fun E σ H=>ex8 fun δ ι S Q hs hh w l=>?_;simp[exS,zaa]at w;refine tT.run hs hh w fun z ι1 H1 S1 x1 hs1 hh1 w1=>?_;have fin:LfS X.K ι1 H1 (fun f S2=>W (match f with|.nx δ'=>exS cf r δ' S2|.rt d=>.ok (.rt d) S2) Q) {E with nx:=tS X.K cf r E}:=by intro f ι2 H2 S2 x2 hh2 q;cases f with|nx δ'=>exact fun σ' hs'=>⟨δ',ι2,S2,Q,hs',hh2,q,(l.up x1).up x2⟩|rt d=>exact fun v rv=>(l.up x1) _ _ _ _ x2 hh2 q v rv
 cases z with|true=>exact⟨δ,ι1,S1,_,hs1,hh1,w1,fin⟩|false=>exact⟨δ,ι1,S1,_,hs1,hh1,w1,fin⟩
def FInv(K:Frag)(cf:CF)(g:List Nat)(b:CS)(Qf:Fl->R.St->Prop)(ds:List D)(lks:List Nat)(ι1:List Addr)(H1:Hp)(S1:R.St)(i:Nat)(σ':L2.St)(H':Hp):Prop:=i<=ds.length/\∃δ' ι' S',RS K ι' H' δ' σ'/\Ltr K ι1 H1 S1 lks ι' H' S'/\S'.lk=lks++S1.lk/\S1.len<=S'.len/\W (zaB g (exS cf b) (ds.drop i) δ' S') fun f S2=>Qf f {S2 with lk:=S1.lk}
theorem zpz(G:Gd T cf k N sc X)(hi:PI X tg iter (tI X.K cf it))(hg:PG X tg (tG X.K is))(hb:PSs X body (tS X.K cf cb))(hset:zaX iter=true)(hr:PSs X rest (tS X.K cf r)) :
  PSs X (.For tg iter body [] pos::rest) (tS X.K cf (.forS is it cb r)):=by
 have hp:PassesOwn (model X.prog X.w) X.A X.env X.xe:=by rw[G.xe];exact PassesOwn.never
 refine PSs.imp (za2 (zqc hp G.calm hi hg hb (zgx hset X.env)) hr) fun E σ H=>ex8 fun δ ι S Q hs hh w l=>?_;simp[exS,zaa]at w;refine⟨δ,ι,S,_,hs,hh,w,fun J H1 ⟨ds,lks,ι1,S1,x1,hh1,w1,wk⟩=>?_⟩;dsimp only at w1;unfold zbg at w1;rw[zaa]at w1;refine⟨fun i m σ' H'=>m=ds.length-i/\FInv X.K cf is cb (fun f S2=>W (match f with|.nx δ'=>exS cf r δ' S2|.rt d=>.ok (.rt d) S2) Q) ds lks ι1 H1 S1 i σ' H',⟨_,rfl,zero_le _,δ,ι1,{S1 with lk:=lks++S1.lk},hs.ext x1,⟨Ext.refl _ _,hh1.lk _,fun l _=>rfl⟩,rfl,le_refl _,w1⟩,?_⟩;rintro i m σ' H' ⟨rfl,hle,δ',ι',S',hs',lt,hlk,hln,wt⟩;have l1:=l.up (x1.trans lt.ext);rcases Nat.lt_or_eq_of_le hle with hlt|rfl;refine .inr ⟨wk.go i ι' H' S' lt hlt,FInv X.K cf is cb _ ds lks ι1 H1 S1 (i+1),fun σ2 H2 h=>⟨_,by omega,rfl,h⟩,fun x H2 hy=>?_⟩;obtain⟨x2,hh2,d,hd,rd⟩:=wk.yld i ι' H' S' x H2 lt hlt hy;rw[zfN hd]at wt;simp[zaB]at wt;cases ea:asgG is d δ' with|none=>rw[ea]at wt;exact wt.elim| some δ2=>rw[ea]at wt;rw[zaa]at wt;refine⟨δ',ι',d,δ2,hs'.ext x2,rd,ea,fun σ2 hs3=>⟨δ2,ι',S',_,hs3,hh2,zcM G.tab.frm cb δ2 S' _ wt,?_⟩⟩;rintro f ι3 H3 S3 x3 hh3 ⟨w3,f3⟩;have k1:S3.lk=lks++S1.lk:=f3.lk.trans hlk;have k3:∀l∈lks,S3.get l=S1.get l:=fun l hl=>(f3.same l (by rw[hlk];exact mem_append_left _ hl) (lt_of_lt_of_le (wk.lks l hl) hln)).trans (lt.lck l hl);cases f with|nx δ3=>exact fun σ3 hs4=>⟨hlt,δ3,ι3,S3,hs4,⟨(lt.ext.trans x2).trans x3,hh3,k3⟩,k1,le_trans hln f3.lens,w3⟩|rt z=>exact fun v rv=>l1 _ _ _ _ (x2.trans x3) (hh3.lk _) w3 v rv
 refine .inl ⟨wk.stop _ ι' H' S' lt (le_refl _),?_⟩;rw[List.drop_length]at wt;exact⟨δ',ι',{S' with lk:=S1.lk},Q,hs',lt.rh.lk _,wt,l1⟩
def zsF(H:Hp)(a:Addr)(y v:V)(H':Hp):Prop:=DPut H a y v H'\/∃xs k j,H a=some (.lst xs)/\y=.int k/\L2.ixN xs.length k=some j/\H'=upd H a (.lst (xs.set j v))
def zp0(td ty tv:TE):TS:=fun D σ H=>tv σ H fun v H1=>td σ H1 fun x H2=>ty σ H2 fun y H3=>∃a H4,x=.ref a/\zsF H3 a y v H4/\D.nx σ H4
theorem zlv(hu:X.A.units+5<cLine)(ho:PE X o td)(hi:PE X i ty)(hv:PE X value tv)(hs:swapsWith value (some (.Subscript o i pos')) pos.line X.env=pure false) :
  PS X (.Assign [.Subscript o i pos'] value pos) (zp0 td ty tv):=by
 intro pins s σ H D I h;refine wpAny_Assign_Subscript (thn (hv pins s σ H _ I h) fun r s1=>ex5 fun v H1 I1 rv q1=>thn (ho pins s1 σ H1 _ I1 q1) fun u s2=>ex5 fun x H2 I2 rx q2=>thn (hi pins s2 σ H2 _ I2 q2) fun iv s3=>ex5 fun y H3 I3 ry ⟨a,H4,ex,g,q3⟩=>?_) hs;subst ex;obtain rfl:u=Value.ref a:=rx;rcases g with g|⟨xs,k,j,e,ey,ej,rfl⟩;exact zkw (by omega) I3 g ry rv fun s4 I4=>⟨σ,H4,I4,q3⟩;exact wpAny_mono (zk5 pins s3 σ H3 (.ref a) y v (.ref a) iv r (fun H'=>D.nx σ H') I3 rfl ry rv ⟨a,xs,k,j,rfl,ey,e,ej,q3⟩) (fun _ s4 ⟨H',I4,q⟩=>⟨σ,H',I4,q⟩) fun _ _ z=>z
theorem zk1(G:Gd T cf k N sc X)(ha:PE X a (tE X.K cf ca))(hb:PE X b (tE X.K cf cb))(he:PE X e (tE X.K cf ce))(hc:zbm e=true)(hr:PSs X rest (tS X.K cf r)) :
  PSs X (.Assign [.Subscript a b p] e pos::rest) (tS X.K cf (.setIx ca cb ce r)):=by
 refine PSs.imp (za2 (zlv (by have:=G.hu;omega) ha hb he (zer hc _ _ _)) hr) fun E σ H=>ex8 fun δ ι S Q hs hh w l=>?_;simp[exS,zaa]at w;refine tE.run hs hh w fun d v ι1 H1 S1 x1 hs1 hh1 r1 w1=>?_;refine tE.run hs1 hh1 w1 fun x vx ι2 H2 S2 x2 hs2 hh2 r2 w2=>?_;refine tE.run hs2 hh2 w2 fun y vy ι3 H3 S3 x3 hs3 hh3 r3 w3=>?_;cases ed:dPut S3 x y d with
 |none=>rw[ed]at w3;exact w3.elim| some S4=>
  rw[ed]at w3;unfold dPut at ed;cases x with
  |ref i=>
   obtain⟨p,h1,rfl⟩:=r2.ext x3;dsimp only at ed;cases e:S3.get i with
   |none=>rw[e]at ed;cases ed
   |some ob=>
    rw[e]at ed;obtain⟨b,h2,h3⟩:=hh3.obj _ _ e;rw[h1]at h2;cases h2;cases ob with
    |dic kvs=>
     obtain⟨nd,ws,ha,rk⟩:=h3;dsimp only at ed;cases y with
     |int k=>obtain rfl:vy=.int k:=r3;split at ed;rename_i c;have rv:=r1.ext (x2.trans x3);have xw:=Ext.wr hh3 e h1 (.dK (putK ws (.inl k) v));refine⟨p,_,rfl,.inl <| DPut.k (k:=.inl k) ha (by rw[rk.length,sizeLine_eq];exact c),δ,ι3,S4,Q,hs3.ext xw,hh3.wr e h1 ed ⟨zd6 nd,_,zal,?_⟩,w3,l.up (((x1.trans x2).trans x3).trans xw)⟩;exact(rk.put k rv nd).up xw.pre xw.kp;cases ed
     |_=>cases ed
    |lst ds=>
     obtain⟨xs,ha,rx⟩:=h3;cases y with
     |int k=>
      obtain rfl:vy=.int k:=r3;dsimp [zbG,bind_some]at ed;cases ej:R.ixN ds.length k with
      |none=>rw[ej]at ed;cases ed
      |some j=>rw[ej,bind_some]at ed;have rv:=r1.ext (x2.trans x3);have xw:=Ext.wr hh3 e h1 (.lst (xs.set j v));refine⟨p,_,rfl,.inr ⟨xs,k,j,ha,rfl,by rw[rx.length];exact ej,rfl⟩,δ,ι3,S4,Q,hs3.ext xw,hh3.wr e h1 ed ⟨_,zal,?_⟩,w3,l.up (((x1.trans x2).trans x3).trans xw)⟩;exact(RVs.set rv j rx).up xw.pre xw.kp
     |_=>cases ed
    |_=>cases ed
  |_=>cases ed
theorem znc(G:Gd T cf k N sc X)(hf:T.flds.contains f=true)(ha:PE X a (tE X.K cf ca))(he:PE X e (tE X.K cf ce))(hc:zbm e=true)(hr:PSs X rest (tS X.K cf r)) :
  PSs X (.Assign [.Attribute a f p] e pos::rest) (tS X.K cf (.setF ca f ce r)):=by
 refine PSs.imp (za2 (zqd ha he (zer hc _ _ _)) hr) fun E σ H=>ex8 fun δ ι S Q hs hh w l=>?_;simp[exS,zaa]at w;refine tE.run hs hh w fun d v ι1 H1 S1 x1 hs1 hh1 r1 w1=>?_;refine tE.run hs1 hh1 w1 fun x vx ι2 H2 S2 x2 hs2 hh2 r2 w2=>?_;cases ed:zbB S2 x f d with
 |none=>rw[ed]at w2;exact w2.elim| some S3=>
  rw[ed]at w2;unfold zbB at ed;cases x with
  |ref i=>
   obtain⟨b,h1,rfl⟩:=r2;dsimp only at ed;cases eo:S2.get i with
   |none=>rw[eo]at ed;cases ed
   |some ob=>
    rw[eo]at ed;cases ob with
    |ins c fs=>obtain⟨b',h2,C,dx,ws,hC,hb,rf⟩:=hh2.obj _ _ eo;rw[h1]at h2;cases h2;dsimp only at ed;split at ed;rename_i c2;obtain⟨_,_,cl,_,na⟩:=G.clsAt (.inl (ne_of hf)) hC;have rv:=r1.ext x2;have xw:=Ext.wr hh2 eo h1 (.ins C dx (putF f v ws));refine⟨b,C,dx,ws,rfl,hb,cl,na f hf,by rw[rf.length];exact c2,δ,ι2,S3,Q,hs2.ext xw,hh2.wr eo h1 ed ⟨C,dx,_,hC,zal,(rf.put f rv).up xw.pre xw.kp⟩,w2,l.up ((x1.trans x2).trans xw)⟩;cases ed
    |_=>cases ed
  |_=>cases ed
theorem znf(G:Gd T cf k N sc X)(hn:zb8 sc N is es=true)(h2:2<=is.length)(he:PE X e (tE X.K cf ce))(hx:(∃x q,e=.Name x q)\/∃f as ks q,e=.Call f as ks q)(hr:PSs X rest (tS X.K cf r)) :
  PSs X (.Assign [.Tuple es j p] e pos::rest) (tS X.K cf (.asgT is ce r)):=by
 have hs:swapsWithSole [.Tuple es j p] e pos.line X.env=pure false:=by rcases hx with⟨x,q,rfl⟩|⟨f,as,ks,q,rfl⟩<;>rfl
 have hw:swappedStores [.Tuple es j p] e X.env=pure none:=by rcases hx with⟨x,q,rfl⟩|⟨f,as,ks,q,rfl⟩<;>rfl
 refine PSs.imp (za2 (zqe he (zmt G hn h2) hs hw) hr) fun E σ H=>ex8 fun δ ι S Q hs hh w l=>?_;simp[exS,zaa]at w;refine tE.run hs hh w fun d v ι1 H1 S1 x1 hs1 hh1 r1 w1=>?_;obtain⟨δ2,ea,w2⟩:=zar w1;exact⟨δ,ι1,d,δ2,hs1,r1,ea,fun σ' hs'=>⟨δ2,ι1,S1,Q,hs',hh1,w2,l.up x1⟩⟩
end
noncomputable def zq2:CL->Bool|.comp ..=>true|_=>false
noncomputable def isR1:CL->Bool|.rng1 _=>true|_=>false
noncomputable def zjW:CL->Bool|.rng1 _=>true|.rng2 _ _=>true|.enum _=>true|_=>false
noncomputable def zjT:CL->Bool|.enum _=>true|_=>false
noncomputable def zjU:Expr->Bool|.Tuple _ _ _=>true|_=>false
noncomputable def zcb:Expr->List Str
 |.Name x _=>[x]|.Tuple es _ _=>es.filterMap fun|.Name x _=>some x|_=>none
 |_=>[]
noncomputable def zoT(sc scope:Scope)(N:List Str)(js:List Nat):Bool:=
 decide (scope.kind=.function)&&scope.names.all (fun y=>decide (y.2≠.cell))&&scope.names.all (fun y=>decide (y.2≠.local)||decide (scope.names.lookup y.1=some .local))
  && scope.names.all (fun y=>decide (y.2≠.free)||decide (sc.names.lookup y.1=some .cell)||decide (sc.names.lookup y.1=some .free))&&js.all (fun j=>decide (scope.names.lookup (N.getD j "")=some .free)&&decide (j<N.length))
noncomputable def nmB(x:Str):Bool:=!(x==("__debug__":Str))&&!(x==("__classdict__":Str))&&!(x==("__name__":Str))
noncomputable def tyB(t:String)(y:Str):Bool:=(t=="bool"&&y==("bool":Str))||(t=="int"&&y==("int":Str))||(t=="str"&&y==("str":Str))||(t=="list"&&y==("list":Str))||(t=="tuple"&&y==("tuple":Str))||(t=="dict"&&y==("dict":Str))
noncomputable def biB:Bi->Str->Nat->Bool
 |.len,x,n=>x==("len":Str)&&n==1|.abs,x,n=>x==("abs":Str)&&n==1|.min2,x,n=>x==("min":Str)&&n==2|.isin _,_,_=>false
noncomputable def zb6:Expr->Option Str|.Name x _=>some x|_=>none
noncomputable def zjb:Expr->Option Const|.Constant c _ _=>some c|_=>none
noncomputable def znO:Expr->Option (Expr×Operator×Expr)|.BinOp l o r _=>some (l,o,r)|_=>none
noncomputable def rdUn:Expr->Option (UnaryOp×Expr)|.UnaryOp o x _=>some (o,x)|_=>none
noncomputable def zjc:Expr->Option (Expr×List CmpOp×List Expr)|.Compare l os rs _=>some (l,os,rs)|_=>none
noncomputable def zfh:Expr->Option (BoolOp×List Expr×Pos)|.BoolOp o vs p=>some (o,vs,p)|_=>none
noncomputable def rdIf:Expr->Option (Expr×Expr×Expr)|.IfExp t x y _=>some (t,x,y)|_=>none
noncomputable def zlo:Expr->Option (List Expr)|.Tuple xs _ _=>some xs|_=>none
noncomputable def zmy:Expr->Option (List Expr)|.List xs _=>some xs|_=>none
noncomputable def zgc:Expr->Option (Expr×Expr)|.Dict [some k] [v] _=>some (k,v)|_=>none
noncomputable def zja:Expr->Bool|.Dict ks vs _=>ks.isEmpty&&vs.isEmpty|_=>false
noncomputable def zi3:Expr->Option (Expr×Expr)|.Subscript x i _=>some (x,i)|_=>none
noncomputable def znM:Expr->Option Expr|.Slice none none (some s) _=>some s|_=>none
noncomputable def rdSl:Expr->Option (Option Expr×Option Expr)|.Slice l u st _=>(match st with|none=>some (l,u)|some _=>none)|_=>none
noncomputable def zdf:Expr->Option (Expr×List Expr×List Keyword×Pos)|.Call f as ks p=>some (f,as,ks,p)|_=>none
noncomputable def zdg:Expr->Option (Expr×Str×Pos)|.Attribute o x p=>some (o,x,p)|_=>none
noncomputable def rdLC:Expr->Option (Expr×List Comprehension×Scope×Pos)|.ListComp e gs sc p=>some (e,gs,sc,p)|_=>none
section
variable{e l r x y i f:Expr}{xs rs as:List Expr}{ks:List Keyword}{p:Pos}
theorem zaO(h:zb6 e=some n):∃p,e=.Name n p:=by cases e<;>first|(cases h;exact⟨_,rfl⟩)|cases h
theorem zge(h:zjb e=some c):∃j p,e=.Constant c j p:=by cases e<;>first|(cases h;exact⟨_,_,rfl⟩)|cases h
theorem zfi(h:znO e=some (l,o,r)):∃p,e=.BinOp l o r p:=by cases e<;>first|(cases h;exact⟨_,rfl⟩)|cases h
theorem zex(h:rdUn e=some (o,x)):∃p,e=.UnaryOp o x p:=by cases e<;>first|(cases h;exact⟨_,rfl⟩)|cases h
theorem zcn{os:List CmpOp}(h:zjc e=some (l,os,rs)):∃p,e=.Compare l os rs p:=by cases e<;>first|(cases h;exact⟨_,rfl⟩)|cases h
theorem zbX(h:zfh e=some (o,xs,p)):e=.BoolOp o xs p:=by cases e<;>first|(cases h;rfl)|cases h
theorem zlq(h:rdIf e=some (l,x,y)):∃p,e=.IfExp l x y p:=by cases e<;>first|(cases h;exact⟨_,rfl⟩)|cases h
theorem zde(h:zlo e=some xs):∃j p,e=.Tuple xs j p:=by cases e<;>first|(cases h;exact⟨_,_,rfl⟩)|cases h
theorem zhR(h:zmy e=some xs):∃p,e=.List xs p:=by cases e<;>first|(cases h;exact⟨_,rfl⟩)|cases h
theorem zgb(h:zgc e=some z):∃p,e=.Dict [some z.1] [z.2] p:=by unfold zgc at h;split at h;cases h;exact⟨_,rfl⟩;cases h
theorem zgd(h:zja e=true):∃p,e=.Dict [] [] p:=by
 cases e with
 |Dict ks vs p=>
  cases ks with
  |cons _ _=>cases h
  |nil=>
   cases vs with
   |cons _ _=>cases h
   |nil=>exact⟨_,rfl⟩
 |_=>cases h
theorem zcm(h:zi3 e=some (x,i)):∃p,e=.Subscript x i p:=by cases e<;>first|(cases h;exact⟨_,rfl⟩)|cases h
theorem zi5{b:Expr}(h:znM e=some b):∃p,e=.Slice none none (some b) p:=by unfold znM at h;split at h<;>first|(cases h;exact⟨_,rfl⟩)|cases h
theorem zlp(h:rdSl e=some (a,b)):∃p,e=.Slice a b none p:=by
 cases e with
 |Slice l u st p=>cases st with|none=>cases h;exact⟨_,rfl⟩|some _=>cases h
 |_=>cases h
theorem zcF(h:zdf e=some (f,as,ks,p)):e=.Call f as ks p:=by cases e<;>first|(cases h;rfl)|cases h
theorem zbY(h:zdg e=some (x,n,p)):e=.Attribute x n p:=by cases e<;>first|(cases h;rfl)|cases h
theorem zgZ(h:rdLC e=some (x,gs,sc,p)):e=.ListComp x gs sc p:=by cases e<;>first|(cases h;rfl)|cases h
end
theorem zab{α:Type}{o:Option α}{f:α->Bool}(h:o.any f=true):∃x,o=some x/\f x=true:=by
 cases o with
 |none=>cases h
 |some x=>exact⟨x,rfl,h⟩
noncomputable def one{α:Type}:List α->Option α | [x]=>some x|_=>none
theorem zbl(h:one xs=some x):xs=[x]:=by match xs,h with| [y],h=>cases h;rfl
noncomputable def two{α:Type}:List α->Option (α×α) | [x,y]=>some (x,y)|_=>none
theorem two_inv(h:two xs=some (x,y)):xs=[x,y]:=by match xs,h with| [a,b],h=>cases h;rfl
noncomputable def zbk(e:Expr):Option (Str×List Expr):=(zdf e).bind fun q=>if q.2.2.1.isEmpty then(zb6 q.1).map fun x=>(x,q.2.1) else none
theorem zaM(h:zbk e=some (x,as)):∃p2 p,e=.Call (.Name x p2) as [] p:=by
 unfold zbk at h;cases q:zdf e with
 |none=>rw[q]at h;cases h
 |some z=>
  obtain⟨f,bs,ks,p⟩:=z;rw[q]at h;dsimp at h;split at h;rename_i c;cases q2:zb6 f with
  |none=>rw[q2]at h;cases h
  |some y=>
   obtain⟨p2,rfl⟩:=zaO q2;cases ks with
   |cons _ _=>cases c
   |nil=>cases h;exact⟨p2,p,zcF q⟩
  cases h
noncomputable def znL:Expr->Option (Expr×Expr)
 |.Call (.Name x _) [o] [⟨some k,l,_⟩] _=>if x="sorted"/\k="key" then some (o,l) else none|_=>none
theorem zi4(h:znL e=some (o,l)):∃p1 p2 p3,e=.Call (.Name "sorted" p1) [o] [⟨some "key",l,p2⟩] p3:=by unfold znL at h;split at h;split at h;rename_i c;obtain⟨rfl,rfl⟩:=c;cases h;exact⟨_,_,_,rfl⟩;cases h;cases h
noncomputable def zaT(e:Expr):Option (Str×Expr):=(zbk e).bind fun q=>(one q.2).map fun a=>(q.1,a)
theorem zav(h:zaT e=some (x,a)):∃p2 p,e=.Call (.Name x p2) [a] [] p:=by
 unfold zaT at h;cases q:zbk e with
 |none=>rw[q]at h;cases h
 |some z=>
  obtain⟨y,bs⟩:=z;rw[q]at h;dsimp at h;cases q2:one bs with
  |none=>rw[q2]at h;cases h
  |some b=>rw[q2]at h;cases h;rw[zbl q2]at q;exact zaM q
noncomputable def zgY(e:Expr):Option (Expr×Str×Pos×Expr×Pos):=(zdf e).bind fun q=>if q.2.2.1.isEmpty then(zdg q.1).bind fun a=>(one q.2.1).map fun y=>(a.1,a.2.1,a.2.2,y,q.2.2.2) else none
theorem zd5(h:zgY e=some (o,x,ap,a,cp)):e=.Call (.Attribute o x ap) [a] [] cp:=by
 unfold zgY at h;cases q:zdf e with
 |none=>rw[q]at h;cases h
 |some z=>
  obtain⟨f,bs,ks,p⟩:=z;rw[q]at h;dsimp at h;split at h;rename_i c;cases q2:zdg f with
  |none=>rw[q2]at h;cases h
  |some y=>
   rw[q2]at h;cases q3:one bs with
   |none=>rw[q3]at h;cases h
   |some b=>
    rw[q3]at h;cases h;cases ks with
    |cons _ _=>cases c
    |nil=>rw[zcF q,zbY q2,zbl q3]
  cases h
noncomputable def zcd(e:Expr):Option (Expr×Str×Pos×List Expr×Pos):=(zdf e).bind fun q=>if q.2.2.1.isEmpty then(zdg q.1).map fun a=>(a.1,a.2.1,a.2.2,q.2.1,q.2.2.2) else none
theorem zbe(h:zcd e=some (o,x,ap,as,cp)):e=.Call (.Attribute o x ap) as [] cp:=by
 unfold zcd at h;cases q:zdf e with
 |none=>rw[q]at h;cases h
 |some z=>
  obtain⟨f,bs,ks,p⟩:=z;rw[q]at h;dsimp at h;split at h;rename_i c;cases q2:zdg f with
  |none=>rw[q2]at h;cases h
  |some y=>
   rw[q2]at h;cases h;cases ks with
   |cons _ _=>cases c
   |nil=>rw[zcF q,zbY q2]
  cases h
noncomputable def fnB(T:Tab)(f j:Nat)(x:Str):Bool:=match T.fns[f]? with|some (y,_,nd)=>(y==x)&&decide (j<=nd)|none=>false
noncomputable def conG(T:Tab)(d:D)(x:Str):Bool:=match T.cons.lookup x with|some d'=>eqC d' d|none=>false
noncomputable def zjZ:CE->Bool|.con _=>true|_=>false
noncomputable def zgt:CL->Bool|.comp ..=>true|_=>false
noncomputable def zjV:CE->Bool|.tst (.con (.bl true))=>true|_=>false
noncomputable def zof:CEs->Bool|.cons _ .nil=>true|_=>false
noncomputable def zoi:CEs->Bool|.nil=>true|_=>false
noncomputable def mtN:Mt->Str->Bool
 |.append,x=>x==("append":Str)
noncomputable def zsq:Bi->Option String|.isin t=>some t|_=>none
noncomputable def tgB(sc:Scope)(N:List Str)(g:List Nat)(tg:Expr):Bool:=match zb6 tg with|some x=>(match one g with|some i=>(N[i]?==some x)&&zfB sc x|none=>false)|none=>(zlo tg).any fun es=>decide (2<=g.length)&&zb8 sc N g es
mutual
noncomputable def chkE(T:Tab)(e₀:CE)(N:List Str)(sc:Scope)(e:Expr):Bool:=match e₀ with
 |.loc i=>(zb6 e).any fun x=>(N[i]?==some x)&&zl5 sc x&&nmB x|.con d=>(zjb e).any (fun c=>conB d c)||(zb6 e).any fun x=>isGl sc x&&conG T d x&&nmB x
 |.tst _=>false|.bin op a b=>(znO e).any fun q=>decide (q.2.1=op)&&chkE T a N sc q.1&&chkE T b N sc q.2.2|.neg a=>(rdUn e).any fun q=>decide (q.1=.USub)&&chkE T a N sc q.2|.nt a=>(rdUn e).any fun q=>decide (q.1=.Not)&&chkE T a N sc q.2|.cmp op a b=>(zjc e).any fun q=>decide (q.2.1=[op])&&(one q.2.2).any fun r=>zaX r&&chkE T a N sc q.1&&chkE T b N sc r|.cmp2 op op' a b c=>(zjc e).any fun q=>decide (q.2.1=[op,op'])&&(two q.2.2).any fun r=>zaX r.1&&zaX r.2&&chkE T a N sc q.1&&chkE T b N sc r.1&&chkE T c N sc r.2
 |.and a b=>(zfh e).any fun q=>decide (q.1=.And)&&(match q.2.1 with
  |x::y::rest=>chkE T a N sc x&&(if rest.isEmpty then chkE T b N sc y else chkE T b N sc (.BoolOp .And (y::rest) q.2.2))|_=>false)
 |.or a b=>(zfh e).any fun q=>decide (q.1=.Or)&&(match q.2.1 with
  |x::y::rest=>chkE T a N sc x&&(if rest.isEmpty then chkE T b N sc y else chkE T b N sc (.BoolOp .Or (y::rest) q.2.2))|_=>false)
 |.ite c a b=>(rdIf e).any fun q=>chkT T c N sc q.1&&chkE T a N sc q.2.1&&chkE T b N sc q.2.2|.tup es=>(zlo e).any fun xs=>zbv T es N sc xs|.lst es=>(zmy e).any fun xs=>zbv T es N sc xs|.dnew=>zja e|.srtK a=>(znL e).any fun q=>(((bltB T sc "sorted"&&zah q.1)&&lamB q.2)&&decide (N=T.lam))&&chkE T a N sc q.1|.rep a b=>(znO e).any fun q=>decide (q.2.1=.Mult)&&chkE T a N sc q.1&&chkE T b N sc q.2.2|.dic1 a b=>(zgc e).any fun q=>chkE T a N sc q.1&&chkE T b N sc q.2|.dlst a=>(zaT e).any fun q=>(q.1==("list":Str))&&bltB T sc q.1&&zah q.2&&chkE T a N sc q.2|.srt a=>(zaT e).any fun q=>(q.1==("sorted":Str))&&bltB T sc q.1&&zah q.2&&chkE T a N sc q.2|.clr a=>(zcd e).any fun q=>(q.2.1==("clear":Str))&&za7 q.1&&(q.2.2.1.endLine==q.2.2.2.2.line)&&q.2.2.2.1.isEmpty&&chkE T a N sc q.1|.dsrt a=>(zaT e).any fun q=>(q.1==("sorted":Str))&&bltB T sc q.1&&zah q.2&&chkE T a N sc q.2|.dgetI a b c=>(zcd e).any fun q=>(two q.2.2.2.1).any fun z=>(q.2.1==("get":Str))&&zah z.1&&zah z.2&&za7 q.1&&(q.2.2.1.endLine==q.2.2.2.2.line)&&chkE T a N sc q.1&&chkE T b N sc z.1&&chkE T c N sc z.2|.dsetI a b c=>(zcd e).any fun q=>(two q.2.2.2.1).any fun z=>(q.2.1==("setdefault":Str))&&zah z.1&&zah z.2&&za7 q.1&&(q.2.2.1.endLine==q.2.2.2.2.line)&&chkE T a N sc q.1&&chkE T b N sc z.1&&chkE T c N sc z.2|.extv a b=>(zgY e).any fun q=>(q.2.1==("extend":Str))&&zah q.2.2.2.1&&za7 q.1&&(q.2.2.1.endLine==q.2.2.2.2.line)&&chkE T a N sc q.1&&chkE T b N sc q.2.2.2.1|.fld a f=>(zdg e).any fun q=>decide (q.2.1=f)&&za7 q.1&&T.flds.contains f&&chkE T a N sc q.1|.mk c f x j es=>(zbk e).any fun q=>decide (q.1=x)&&isGl sc x&&nmB x&&decide (T.cls[c]?=some x)&&T.inits.contains (c,f,j)&&(!q.2.isEmpty||zoi es)&&zbv T es N sc q.2|.meth m tb o es=>(zcd e).any fun q=>decide (q.2.1=m)&&mtB T m tb&&za7 q.1&&(q.2.2.1.endLine==q.2.2.2.2.line)&&decide (q.2.2.2.1.length<29)&&(!q.2.2.2.1.isEmpty||zoi es)&&chkE T o N sc q.1&&zbv T es N sc q.2.2.2.1|.callC f x m es=>(zcd e).any fun q=>(zb6 q.1).any fun y=>decide (y=x)&&decide (q.2.1=m)&&isGl sc x&&nmB x&&T.cms.contains (x,m,f)&&(q.2.2.1.endLine==q.2.2.2.2.line)&&decide (q.2.2.2.1.length<29)&&!q.2.2.2.1.isEmpty&&zbv T es N sc q.2.2.2.1|.ix a b=>(zi3 e).any fun q=>zeD q.2&&chkE T a N sc q.1&&chkE T b N sc q.2|.slS a b=>(zi3 e).any fun q=>(znM q.2).any fun s=>chkE T a N sc q.1&&chkE T b N sc s
 |.sl a ml mh lo hi=>(zi3 e).any fun q=>(rdSl q.2).any fun s=>chkE T a N sc q.1
  && (match s.1 with|none=>!ml&&zjZ lo|some e=>ml&&chkE T lo N sc e)
  && (match s.2 with|none=>!mh&&zjZ hi|some e=>mh&&chkE T hi N sc e)
 |.call f j es=>(zbk e).any fun q=>isGl sc q.1&&nmB q.1&&fnB T f j q.1&&(!q.2.isEmpty||zoi es)&&zbv T es N sc q.2|.callW f j es=>(zbk e).any fun q=>isGl sc q.1&&nmB q.1&&fnB T f j q.1&&!q.2.isEmpty&&zbv T es N sc q.2
 |.bi b es=>(zbk e).any fun q=>bltB T sc q.1&&nmB q.1&&(match zsq b with
  |some t=>(two q.2).any fun z=>(zb6 z.2).any fun y=>(q.1==("isinstance":Str))&&tyB t y&&bltB T sc y&&nmB y&&zof es&&zbv T es N sc [z.1]|none=>biB b q.1 q.2.length&&!q.2.isEmpty&&zbv T es N sc q.2)
 |.mt m o es=>(zgY e).any fun q=>mtN m q.2.1&&za7 q.1&&(q.2.2.1.endLine==q.2.2.2.2.line)&&zof es&&chkE T o N sc q.1&&zbv T es N sc [q.2.2.2.1]
 |.mkL l=>if zgt l then(if(rdLC e).isSome then chkL T l N sc e else(zaT e).any fun q=>(q.1==("list":Str))&&bltB T sc q.1&&zah q.2&&chkL T l N sc q.2)
  else(zaT e).any fun q=>(q.1==("list":Str))&&bltB T sc q.1&&zah q.2&&(!(zjW l)||isR1 l)&&chkL T l N sc q.2
 |.mkT l=>(zaT e).any fun q=>(q.1==("tuple":Str))&&bltB T sc q.1&&zah q.2&&(!(zjW l)||isR1 l)&&chkL T l N sc q.2|.all l=>(zaT e).any fun q=>(q.1==("all":Str))&&bltB T sc q.1&&zah q.2&&!(zjW l)&&chkL T l N sc q.2|.min1 a=>(zaT e).any fun q=>(q.1==("min":Str))&&bltB T sc q.1&&zah q.2&&chkE T a N sc q.2|.sset a=>(zaT e).any fun q=>(zaT q.2).any fun z=>(q.1==("sorted":Str))&&bltB T sc q.1&&(z.1==("set":Str))&&bltB T sc z.1&&zah z.2&&chkE T a N sc z.2
noncomputable def zbv(T:Tab)(e₀:CEs)(N:List Str)(sc:Scope)(es:List Expr):Bool:=match e₀ with|.nil=>es.isEmpty|.cons a r=>(match es with | []=>false|e::es=>zah e&&chkE T a N sc e&&zbv T r N sc es)
noncomputable def chkT(T:Tab)(e₀:CE)(N:List Str)(sc:Scope)(e:Expr):Bool:=match e₀ with
 |.cmp op a b=>(zjc e).any fun q=>decide (q.2.1=[op])&&(one q.2.2).any fun r=>zaX r&&chkE T a N sc q.1&&chkE T b N sc r|.cmp2 op op' a b c=>(zjc e).any fun q=>decide (q.2.1=[op,op'])&&(two q.2.2).any fun r=>zaX r.1&&zaX r.2&&chkE T a N sc q.1&&chkE T b N sc r.1&&chkE T c N sc r.2|.nt a=>(rdUn e).any fun q=>decide (q.1=.Not)&&chkT T a N sc q.2
 |.and a b=>(zfh e).any fun q=>decide (q.1=.And)&&(match q.2.1 with
  |x::y::rest=>chkT T a N sc x&&(if rest.isEmpty then chkT T b N sc y else chkT T b N sc (.BoolOp .And (y::rest) q.2.2))|_=>false)
 |.or a b=>(zfh e).any fun q=>decide (q.1=.Or)&&(match q.2.1 with
  |x::y::rest=>chkT T a N sc x&&(if rest.isEmpty then chkT T b N sc y else chkT T b N sc (.BoolOp .Or (y::rest) q.2.2))|_=>false)
 |.tst a=>zg2 e&&chkE T a N sc e|_=>false
noncomputable def chkL(T:Tab)(e₀:CL)(N:List Str)(sc:Scope)(e:Expr):Bool:=match e₀ with
 |.val a=>zaX e&&chkE T a N sc e|.rng1 a=>(zaT e).any fun q=>(q.1==("range":Str))&&bltB T sc q.1&&zah q.2&&chkE T a N sc q.2|.rng2 a b=>(zbk e).any fun q=>(two q.2).any fun z=>(q.1==("range":Str))&&bltB T sc q.1&&zah z.1&&zah z.2&&chkE T a N sc z.1&&chkE T b N sc z.2|.enum a=>(zaT e).any fun q=>(q.1==("enumerate":Str))&&bltB T sc q.1&&zah q.2&&chkE T a N sc q.2
 |.comp nt js g it c b=>(rdLC e).any fun q=>(one q.2.1).any fun z=>decide (z.is_async=0)&&zoT sc q.2.2.1 N js&&(zaX z.iter&&(zjU z.target||!(zjT it)))&&chkL T it N sc z.iter&&decide ((zcb z.target).length=nt)&&decide ((capN N (zcb z.target) js).Nodup/\capN N (zcb z.target) js≠T.lam)
  && tgB q.2.2.1 (capN N (zcb z.target) js) g z.target
  && (if z.ifs.isEmpty then zjV c else(one z.ifs).any fun t=>chkT T c (capN N (zcb z.target) js) q.2.2.1 t)
  && chkE T b (capN N (zcb z.target) js) q.2.2.1 q.1
end
noncomputable def zhS:Stmt->Option (Expr×Expr×Pos)|.Assign tgs v p=>(one tgs).map fun t=>(t,v,p)|_=>none
noncomputable def zp3:Stmt->Option (Expr×List Stmt×List Stmt)|.If e a b _=>some (e,a,b)|_=>none
noncomputable def zp4:Stmt->Option (Expr×Expr×List Stmt)|.For tg it b els _=>if els.isEmpty then some (tg,it,b) else none|_=>none
noncomputable def znN:Stmt->Option Expr|.Return v _=>v|_=>none
noncomputable def zp5:Stmt->Option Expr|.Expr v _=>some v|_=>none
section
variable{s:Stmt}{e v tg it:Expr}{a b:List Stmt}{p:Pos}
theorem zco(h:zhS s=some (tg,v,p)):s=.Assign [tg] v p:=by
 cases s with
 |Assign tgs v p=>
  simp only[zhS]at h;cases q:one tgs with
  |none=>rw[q]at h;cases h
  |some t=>rw[q]at h;cases h;rw[zbl q]
 |_=>cases h
theorem zi7(h:zp3 s=some (e,a,b)):∃p,s=.If e a b p:=by cases s<;>first|(cases h;exact⟨_,rfl⟩)|cases h
theorem zi8(h:zp4 s=some (tg,it,b)):∃p,s=.For tg it b [] p:=by
 cases s with
 |For tg it b els p=>cases els with|nil=>cases h;exact⟨_,rfl⟩|cons _ _=>cases h
 |_=>cases h
theorem zi6(h:znN s=some e):∃p,s=.Return (some e) p:=by cases s with|Return v p=>simp[znN]at h;subst h;exact⟨_,rfl⟩|_=>cases h
theorem zi9(h:zp5 s=some e):∃p,s=.Expr e p:=by cases s<;>first|(cases h;exact⟨_,rfl⟩)|cases h
end
noncomputable def chkS(T:Tab)(e₀:CS)(N:List Str)(sc:Scope)(st:List Stmt):Bool:=match e₀ with|.nil=>st.isEmpty|.stop=>true|.asg i e r=>(match st with | []=>false|s::rest=>(zhS s).any fun q=>(zb6 q.1).any fun x=>(N[i]?==some x)&&zfB sc x&&chkE T e N sc q.2.1&&chkS T r N sc rest)|.asgT g e r=>(match st with | []=>false|s::rest=>(zhS s).any fun q=>(zlo q.1).any fun es=>((zb6 q.2.1).isSome||(zbk q.2.1).isSome)&&decide (2<=g.length)&&zb8 sc N g es&&chkE T e N sc q.2.1&&chkS T r N sc rest)|.setIx a b e r=>(match st with | []=>false|s::rest=>(zhS s).any fun q=>(zi3 q.1).any fun z=>zbm q.2.1&&chkE T a N sc z.1&&chkE T b N sc z.2&&chkE T e N sc q.2.1&&chkS T r N sc rest)|.setF a f e r=>(match st with | []=>false|s::rest=>(zhS s).any fun q=>(zdg q.1).any fun z=>decide (z.2.1=f)&&T.flds.contains f&&zbm q.2.1&&chkE T a N sc z.1&&chkE T e N sc q.2.1&&chkS T r N sc rest)|.ifS c t u r=>(match st with | []=>false|s::rest=>(zp3 s).any fun q=>chkT T c N sc q.1&&chkS T t N sc q.2.1&&chkS T u N sc q.2.2&&chkS T r N sc rest)|.forS g l b r=>(match st with | []=>false|s::rest=>(zp4 s).any fun q=>zaX q.2.1&&chkL T l N sc q.2.1&&chkS T b N sc q.2.2&&chkS T r N sc rest&&(tgB sc N g q.1&&(zjU q.1||!(zjT l))))|.ret e r=>(match st with | []=>false|s::rest=>(znN s).any fun v=>chkE T e N sc v&&chkS T r N sc rest)|.expr e r=>(match st with | []=>false|s::rest=>(zp5 s).any fun v=>zbm v&&chkE T e N sc v&&chkS T r N sc rest)
end R
section
set_option maxHeartbeats 8000000
namespace R
open PySem PySem.Spec PyProof.Rows L2
variable[Mks]
section
variable{T:Tab}{cf:CF}{k:Nat}{N:List Str}{sc:Scope}{X:Cx}
theorem zbN(env:Env)(x:Str):∀{names:List (Str×NameKind)}{k0:NameKind},names.lookup x=some k0->k0≠.free->(names.map (zb3 env)).lookup x=some k0
 | [],_,h,_=>by simp at h| y::r,k0,h,hk=>by
  rw[map_cons];have f1:=zdd env y;have f2:=zdc env y;obtain⟨n,k1⟩:=y;generalize hz:zb3 env (n,k1)=z at *;obtain⟨zn,zk⟩:=z;simp only at f1 f2;subst f1;rw[lookup_cons]at h⊢;cases hx:x==zn with
  |true=>rw[hx]at h;have e:k1=k0:=Option.some.inj h;subst e;rcases f2 with f2|⟨q,_⟩;show some zk=_;rw[f2];exact absurd q hk
  |false=>rw[hx]at h;exact zbN env x h hk
theorem zhv(G:Gd T cf k N sc X)(h:zoT sc scope N js=true):CompOk X.env.scope scope X.N js:=by unfold zoT at h;simp only[and_eq_true,all_eq_true,decide_eq_true_eq,or_eq_true]at h;obtain⟨⟨⟨⟨h1,h2⟩,h3⟩,h4⟩,h5⟩:=h;refine⟨h1,h2,fun y hy e=>?_,fun y hy e=>?_,fun j hj=>?_⟩;rcases h3 y hy with z|z;exact absurd e z;exact z;rcases h4 y hy with (z|z)|z;exact absurd e z;exact .inl (G.cell _ z);exact(G.free _ z).symm;rw[G.nm];exact h5 j hj
theorem zkb(G:Gd T cf k N sc X)(ok:CompOk X.env.scope scope X.N js)(hn:(capN N tgs js).Nodup/\capN N tgs js≠T.lam)(cl:List (Str×Addr))(C:Addr)(fp:List Addr)(s:Shared)(H:Hp)(pn:List (Addr×Obj)) :
  Gd T cf k (capN N tgs js) scope (zaG X (capN X.N tgs js) scope cl C fp s H pn):=by
 have names:(zaG X (capN X.N tgs js) scope cl C fp s H pn).env.scope.names=scope.names.map (zb3 X.env):=zcl scope X.env;have noc:∀x,scope.names.lookup x≠some .cell:=fun x e=>ok.nocell _ (PySem.mem_of_lookup e) rfl;refine⟨by rw[<-G.nm],hn.1,fun x e=>?_,fun x e=>absurd e (noc x),fun x e=>?_,fun x e=>?_,.inr noc,G.calm,rfl,G.room',G.tab,fun z=>absurd z hn.2⟩;rw[names];exact zbN _ _ e (by decide);rw[names];exact zbq _ _ _ e;rw[names];exact zbN _ _ e (by decide)
theorem zcV(h:nmB x=true):(x==("__debug__":Str))=false/\(x==("__classdict__":Str))=false/\x≠("__name__":Str):=by unfold nmB at h;simp only[and_eq_true,not_eq_true']at h;exact⟨h.1.1,h.1.2,fun e=>by rw[e]at h;simp at h⟩
theorem zph(h:tyB t y=true):t∈["bool","int","str","list","tuple","dict"]/\bootBuiltins y=some (.type t):=by unfold tyB at h;simp at h;rcases h with ((((⟨rfl,rfl⟩|⟨rfl,rfl⟩)|⟨rfl,rfl⟩)|⟨rfl,rfl⟩)|⟨rfl,rfl⟩)|⟨rfl,rfl⟩;exact⟨by simp,zoX⟩;exact⟨by simp,zrw⟩;exact⟨by simp,zrt⟩;exact⟨by simp,ze8⟩;exact⟨by simp,ze7⟩;exact⟨by simp,zoW⟩
theorem zmO(h:fnB T f j x=true):∃ps nd,T.fns[f]?=some (x,ps,nd)/\j<=nd:=by
 unfold fnB at h;cases e:T.fns[f]? with
 |none=>rw[e]at h;cases h
 |some q=>obtain⟨y,ps,nd⟩:=q;rw[e]at h;simp at h;obtain⟨rfl,h2⟩:=h;exact⟨ps,nd,rfl,h2⟩
theorem zaL:∀{ces:CEs}{N:List Str}{sc:Scope}{es:List Expr},zbv T ces N sc es=true->es.all zah=true
 |.nil,N,sc,es,h=>by simp[zbv,isEmpty_iff]at h;subst h;rfl| .cons a r,N,sc,es,h=>by cases es with|nil=>simp[zbv]at h| cons e es=>simp[zbv,and_eq_true]at h;simp[h.1.1,zaL h.2]
theorem zhw(h:zof es=true):∃a,es=.cons a .nil:=by
 cases es with
 |nil=>cases h
 |cons a r=>cases r with|nil=>exact⟨a,rfl⟩|cons _ _=>cases h
theorem zii(G:Gd T cf k N sc X)(h:biB b x n=true):∃id,zbi X (.builtin id) (rB X.K fun S ds=>R.bi S b ds)/\bootBuiltins x=some (.builtin id):=by cases b with|len=>simp[biB,and_eq_true,beq_iff_eq]at h;rw[h.1];exact⟨_,zqR,zrv⟩|abs=>simp[biB,and_eq_true,beq_iff_eq]at h;rw[h.1];exact⟨_,zrC,zry⟩|min2=>simp[biB,and_eq_true,beq_iff_eq]at h;rw[h.1];exact⟨_,zqJ G.calm,zmU⟩|isin t=>simp[biB]at h
def LOk(T:Tab)(cf:CF)(k:Nat)(cl:CL)(X:Cx)(e:Expr):Prop:=(zjW cl=false->PE X e (tL X.K cf cl))/\(zq2 cl=true->PE X e (tLt X.K cf cl))/\(∀tg,(zjU tg||!(zjT cl))=true->PI X tg e (tI X.K cf cl))/\
 ∀a,cl=.rng1 a->∃a' p2 p,e=.Call (.Name "range" p2) [a'] [] p/\(Gl X "range"/\X.mg "range"=none)/\PE X a' (tE X.K cf a)/\zah a'=true
def EsOk(cf:CF)(ces:CEs)(X:Cx)(es:List Expr):Prop:=PA X es (tAs X.K cf ces)/\∀a r e es',ces=.cons a r->es=e::es'->PE X e (tE X.K cf a)
theorem zm7(G:Gd T cf k N sc X)(h:tgB sc N g tg=true):PG X tg (tG X.K g):=by unfold tgB at h;split at h;rename_i x q;obtain⟨p,rfl⟩:=zaO q;split at h;rename_i i q2;rw[zbl q2];simp at h;exact znm G h.1 h.2;cases h;replace h:=zab h;obtain⟨es,q,h⟩:=h;obtain⟨j,p,rfl⟩:=zde q;simp at h;exact zmt G h.2 h.1
theorem zgQ(h:zjV c=true):PTs X [] (tT X.K cf c):=by
 have hc:c=.tst (.con (.bl true)):=by
  cases c with
  |tst a=>
   cases a with
   |con d=>
    cases d with
    |bl b=>cases b with|true=>rfl|false=>cases h
    |_=>cases h
   |_=>cases h
  |_=>cases h
 subst hc;intro pins s' σ H' Qv I q;apply znV pins s' σ H' Qv I;obtain⟨δ,ι,S,Q,hs,hh,w,q⟩:=q;exact q _ _ ⟨ι,S,Ext.refl _ _,hh,w⟩
theorem zjq(h1:o=none->m=false/\zjZ ce=true)(h2:∀e,o=some e->m=true/\PE X e (tE X.K cf ce)):PartOk X cf m ce o:=by
 cases o with
 |none=>obtain⟨rfl,h⟩:=h1 rfl;cases ce with|con d=>exact .no ⟨d,rfl⟩|_=>cases h
 |some e=>obtain⟨rfl,h⟩:=h2 e rfl;exact .yes h
theorem zaQ{x y:Str}(h:(x==y)=true):x=y:=by simpa using h
mutual
theorem zae:∀(ce:CE){N:List Str}{sc:Scope}{e:Expr}{X:Cx},Gd T cf k N sc X->chkE T ce N sc e=true->PE X e (tE X.K cf ce)
 |.loc i,N,sc,e,X,G,h=>by replace h:=zab h;obtain⟨x,q,h⟩:=h;obtain⟨p,rfl⟩:=zaO q;simp only[and_eq_true,beq_iff_eq]at h;obtain⟨h1,h2,_⟩:=zcV h.2;exact zpM G h.1.1 h.1.2 h1 h2| .con d,N,sc,e,X,G,h=>by replace h:=(Bool.or_eq_true_iff ..).mp h;rcases h with h|h;replace h:=zab h;obtain⟨c,q,h⟩:=h;obtain⟨j,p,rfl⟩:=zge q;exact zpP h;replace h:=zab h;obtain⟨x,q,h⟩:=h;obtain⟨p,rfl⟩:=zaO q;simp only[and_eq_true]at h;obtain⟨h1,h2,_⟩:=zcV h.2;have h3:=h.1.2;unfold conG at h3;split at h3;rename_i d' e';exact znw G h.1.1 e' h3 h1;cases h3
 |.tst a,N,sc,e,X,G,h=>absurd h Bool.false_ne_true| .bin op a b,N,sc,e,X,G,h=>by replace h:=zab h;obtain⟨⟨l,o,r⟩,q,h⟩:=h;obtain⟨p,rfl⟩:=zfi q;simp only[and_eq_true,decide_eq_true_eq]at h;obtain⟨⟨rfl,h1⟩,h2⟩:=h;exact zpS (zae a G h1) (zae b G h2)| .neg a,N,sc,e,X,G,h=>by replace h:=zab h;obtain⟨⟨o,x⟩,q,h⟩:=h;obtain⟨p,rfl⟩:=zex q;simp only[and_eq_true,decide_eq_true_eq]at h;obtain⟨rfl,h1⟩:=h;exact zpI (zae a G h1)| .nt a,N,sc,e,X,G,h=>by replace h:=zab h;obtain⟨⟨o,x⟩,q,h⟩:=h;obtain⟨p,rfl⟩:=zex q;simp only[and_eq_true,decide_eq_true_eq]at h;obtain⟨rfl,h1⟩:=h;exact zrX (zae a G h1)| .cmp op a b,N,sc,e,X,G,h=>by replace h:=zab h;obtain⟨⟨l,os,rs⟩,q,h⟩:=h;obtain⟨p,rfl⟩:=zcn q;rw[and_eq_true,decide_eq_true_eq]at h;obtain⟨e1,h⟩:=h;replace h:=zab h;obtain⟨r,q2,h⟩:=h;cases zbl q2;cases e1;simp only[and_eq_true]at h;exact zpQ G (zae a G h.1.2) (zae b G h.2) h.1.1| .cmp2 op op' a b c,N,sc,e,X,G,h=>by replace h:=zab h;obtain⟨⟨l,os,rs⟩,q,h⟩:=h;obtain⟨p,rfl⟩:=zcn q;rw[and_eq_true,decide_eq_true_eq]at h;obtain⟨e1,h⟩:=h;replace h:=zab h;obtain⟨⟨r,r'⟩,q2,h⟩:=h;cases two_inv q2;cases e1;simp only[and_eq_true]at h;obtain⟨⟨⟨⟨h1,h2⟩,h3⟩,h4⟩,h5⟩:=h;exact znC G (zae a G h3) (zae b G h4) (zae c G h5) h1 h2| .and a b,N,sc,e,X,G,h=>by replace h:=zab h;obtain⟨⟨o,vs,p⟩,q,h⟩:=h;cases zbX q;rw[and_eq_true,decide_eq_true_eq]at h;obtain⟨e1,h⟩:=h;cases e1;dsimp only at h;split at h;rename_i x y rest;rw[and_eq_true]at h;obtain⟨h1,h2⟩:=h;split at h2;rename_i c;cases isEmpty_iff.mp c;exact zmw (zae a G h1) (zmC (zae b G h2));exact zmw (zae a G h1) (zae b G h2);cases h
 |.or a b,N,sc,e,X,G,h=>by replace h:=zab h;obtain⟨⟨o,vs,p⟩,q,h⟩:=h;cases zbX q;rw[and_eq_true,decide_eq_true_eq]at h;obtain⟨e1,h⟩:=h;cases e1;dsimp only at h;split at h;rename_i x y rest;rw[and_eq_true]at h;obtain⟨h1,h2⟩:=h;split at h2;rename_i c;cases isEmpty_iff.mp c;exact zpH (zae a G h1) (zmC (zae b G h2));exact zpH (zae a G h1) (zae b G h2);cases h
 |.ite c a b,N,sc,e,X,G,h=>by replace h:=zab h;obtain⟨⟨t,x,y⟩,q,h⟩:=h;obtain⟨p,rfl⟩:=zlq q;simp only[and_eq_true]at h;exact zpN (za0 c G h.1.1).1 (zae a G h.1.2) (zae b G h.2)| .tup es,N,sc,e,X,G,h=>by replace h:=zab h;obtain⟨xs,q,h⟩:=h;obtain⟨j,p,rfl⟩:=zde q;exact zpD (zaW es G h).1| .lst es,N,sc,e,X,G,h=>by replace h:=zab h;obtain⟨xs,q,h⟩:=h;obtain⟨p,rfl⟩:=zhR q;exact zpL (zaW es G h).1| .dnew,N,sc,e,X,G,h=>by obtain⟨p,rfl⟩:=zgd h;exact znz| .dgetI a b c,N,sc,e,X,G,h=>by replace h:=zab h;obtain⟨⟨oe,x,ap,as,cp⟩,q,h⟩:=h;cases zbe q;replace h:=zab h;obtain⟨⟨e1,e2⟩,q2,h⟩:=h;cases two_inv q2;simp only[and_eq_true]at h;obtain⟨⟨⟨⟨⟨⟨⟨hx,h1⟩,h2⟩,h3⟩,h4⟩,h5⟩,h6⟩,h7⟩:=h;cases zaQ hx;exact zlc G (zae a G h5) (zae b G h6) (zae c G h7) h1 h2 h3 h4| .dsetI a b c,N,sc,e,X,G,h=>by replace h:=zab h;obtain⟨⟨oe,x,ap,as,cp⟩,q,h⟩:=h;cases zbe q;replace h:=zab h;obtain⟨⟨e1,e2⟩,q2,h⟩:=h;cases two_inv q2;simp only[and_eq_true]at h;obtain⟨⟨⟨⟨⟨⟨⟨hx,h1⟩,h2⟩,h3⟩,h4⟩,h5⟩,h6⟩,h7⟩:=h;cases zaQ hx;exact zlb G (zae a G h5) (zae b G h6) (zae c G h7) h1 h2 h3 h4| .extv a b,N,sc,e,X,G,h=>by replace h:=zab h;obtain⟨⟨oe,x,ap,e1,cp⟩,q,h⟩:=h;cases zd5 q;simp only[and_eq_true]at h;obtain⟨⟨⟨⟨⟨hx,h1⟩,h2⟩,h3⟩,h4⟩,h5⟩:=h;cases zaQ hx;exact znx (zae a G h4) (zae b G h5) h1 h2 h3| .ix a b,N,sc,e,X,G,h=>by replace h:=zab h;obtain⟨⟨x,i⟩,q,h⟩:=h;obtain⟨p,rfl⟩:=zcm q;simp only[and_eq_true]at h;exact zr0 (zae a G h.1.2) (zae b G h.2) h.1.1| .fld a f,N,sc,e,X,G,h=>by replace h:=zab h;obtain⟨⟨o,f',p⟩,q,h⟩:=h;cases zbY q;simp only[and_eq_true,decide_eq_true_eq]at h;obtain⟨⟨⟨rfl,h2⟩,h3⟩,h4⟩:=h;exact zpO G (zae a G h4) h2 h3| .mk c f x j es,N,sc,e,X,G,h=>by
  replace h:=zab h;obtain⟨⟨x',args⟩,q,h⟩:=h;obtain⟨p2,p,rfl⟩:=zaM q;simp only[and_eq_true,or_eq_true,decide_eq_true_eq]at h;obtain⟨⟨⟨⟨⟨⟨rfl,h1⟩,h2⟩,h3⟩,h4⟩,h5⟩,h6⟩:=h;obtain⟨n1,n2,n3⟩:=zcV h2;have ha:=(zaW es G h6).1;cases args with
  |nil=>
   have:es=.nil:=by cases es with|nil=>rfl|cons _ _=>rcases h5 with z|z<;>cases z
   rw[this];exact zpK G h4 h3 h1 n1
  |cons a as=>exact zrZ G h4 h3 h1 n1 ha (zaL h6)
 |.meth m tb o es,N,sc,e,X,G,h=>by
  replace h:=zab h;obtain⟨⟨oe,m',ap,args,cp⟩,q,h⟩:=h;cases zbe q;simp only[and_eq_true,or_eq_true,decide_eq_true_eq]at h;obtain⟨⟨⟨⟨⟨⟨⟨rfl,h1⟩,h2⟩,h3⟩,h4⟩,h5⟩,h6⟩,h7⟩:=h;have ho:=zae o G h6;have ha:=(zaW es G h7).1;cases args with
  |nil=>
   have:es=.nil:=by cases es with|nil=>rfl|cons _ _=>rcases h5 with z|z<;>cases z
   rw[this];exact zla G h1 ho h2 h3
  |cons a as=>exact znu G h1 ho ha (zaL h7) h2 h3 h4
 |.callC f x m es,N,sc,e,X,G,h=>by
  replace h:=zab h;obtain⟨⟨oe,m',ap,args,cp⟩,q,h⟩:=h;cases zbe q;replace h:=zab h;obtain⟨y,q3,h⟩:=h;obtain⟨p3,rfl⟩:=zaO q3;simp only[and_eq_true,decide_eq_true_eq]at h;obtain⟨⟨⟨⟨⟨⟨⟨⟨rfl,rfl⟩,h1⟩,h2⟩,h3⟩,h4⟩,h5⟩,h6⟩,h7⟩:=h;cases args with
  |nil=>cases h6
  |cons a as=>exact zle G h3 h1 (zcV h2).1 rfl (zaW es G h7).1 (zaL h7) h5 h4
 |.slS a b,N,sc,e,X,G,h=>by replace h:=zab h;obtain⟨⟨x,i⟩,q,h⟩:=h;obtain⟨p,rfl⟩:=zcm q;replace h:=zab h;obtain⟨s,q2,h⟩:=h;obtain⟨p2,rfl⟩:=zi5 q2;simp only[and_eq_true]at h;exact zpF (zae a G h.1) (zae b G h.2)| .sl a ml mh lo hi,N,sc,e,X,G,h=>by replace h:=zab h;obtain⟨⟨x,i⟩,q,h⟩:=h;obtain⟨p,rfl⟩:=zcm q;replace h:=zab h;obtain⟨⟨l,u⟩,q2,h⟩:=h;obtain⟨p2,rfl⟩:=zlp q2;simp only[and_eq_true]at h;obtain⟨⟨h1,h2⟩,h3⟩:=h;refine zrW (zae a G h1) (zjq (fun z=>?_) fun e z=>?_) (zjq (fun z=>?_) fun e z=>?_);subst z;simpa using h2;subst z;simp only[and_eq_true]at h2;exact⟨h2.1,zae lo G h2.2⟩;subst z;simpa using h3;subst z;simp only[and_eq_true]at h3;exact⟨h3.1,zae hi G h3.2⟩| .call f j es,N,sc,e,X,G,h=>by
  replace h:=zab h;obtain⟨⟨x,args⟩,q,h⟩:=h;obtain⟨p2,p,rfl⟩:=zaM q;simp only[and_eq_true,or_eq_true]at h;obtain⟨⟨⟨⟨h1,h2⟩,h3⟩,h4⟩,h5⟩:=h;obtain⟨n1,n2,n3⟩:=zcV h2;obtain⟨ps,nd,hf,hj⟩:=zmO h3;have ha:=(zaW es G h5).1;cases args with
  |nil=>
   have:es=.nil:=by cases es with|nil=>rfl|cons _ _=>rcases h4 with z|z<;>cases z
   rw[this];exact zlf G hf hj h1 n1
  |cons a as=>exact znD G hf hj h1 n1 ha (zaL h5)
 |.callW f j es,N,sc,e,X,G,h=>by
  replace h:=zab h;obtain⟨⟨x,args⟩,q,h⟩:=h;obtain⟨p2,p,rfl⟩:=zaM q;simp only[and_eq_true]at h;obtain⟨⟨⟨⟨h1,h2⟩,h3⟩,h4⟩,h5⟩:=h;obtain⟨n1,n2,n3⟩:=zcV h2;obtain⟨ps,nd,hf,hj⟩:=zmO h3;have ha:=(zaW es G h5).1;cases args with
  |nil=>cases h4
  |cons a as=>exact zld G hf hj h1 n1 ha (zaL h5)
 |.bi b es,N,sc,e,X,G,h=>by
  replace h:=zab h;obtain⟨⟨x,args⟩,q,h⟩:=h;obtain⟨p2,p,rfl⟩:=zaM q;rw[and_eq_true,and_eq_true]at h;obtain⟨⟨h1,h2⟩,h3⟩:=h;obtain⟨n1,n2,n3⟩:=zcV h2;split at h3;rename_i t qt;replace h3:=zab h3;obtain⟨⟨e1,e2⟩,q2,h3⟩:=h3;cases two_inv q2;replace h3:=zab h3;obtain⟨y,q3,h3⟩:=h3;obtain⟨p3,rfl⟩:=zaO q3;simp only[and_eq_true]at h3;obtain⟨⟨⟨⟨⟨hx,h4⟩,h5⟩,h6⟩,h7⟩,h8⟩:=h3;cases zaQ hx;obtain⟨m1,m2,m3⟩:=zcV h6;obtain⟨t1,t2⟩:=zph h4;obtain⟨a,ea⟩:=zhw h7;have he:=(zaW es G h8).2 a .nil e1 [] ea rfl;have hst:=zaL h8;have eb:b=.isin t:=by cases b with|isin _=>cases qt;rfl|_=>cases qt
  rw[ea,eb];exact znv G (zaP G h1) (zaP G h5) t2 t1 m3 m1 he (by simpa using hst);rw[and_eq_true,and_eq_true]at h3;cases args with
  |nil=>cases h3.1.2
  |cons a as=>obtain⟨id,hc,hv⟩:=zii G h3.1.1;exact zr1 hc (zaP G h1) hv (zaW es G h3.2).1 (zaL h3.2) n3 n1
 |.mt m o es,N,sc,e,X,G,h=>by
  replace h:=zab h;obtain⟨⟨oe,x,ap,e1,cp⟩,q,h⟩:=h;cases zd5 q;simp only[and_eq_true]at h;obtain⟨⟨⟨⟨⟨h1,h2⟩,h3⟩,h4⟩,h5⟩,h6⟩:=h;obtain⟨a,ea⟩:=zhw h4;have he:=(zaW es G h6).2 a .nil e1 [] ea rfl;have hst:zah e1=true:=by simpa using zaL h6
  rw[ea];cases m with| append=>cases zaQ h1;exact zrY PySem.F.slot_list_append PySem.F.type_list_append zkR (zae o G h5) he hst h2 h3
 |.mkL l,N,sc,e,X,G,h=>by
  replace h:ite (zgt l=true) _ _=true:=h;split at h;rename_i c;split at h;have ht:zq2 l=true:=by cases l with|comp=>rfl|_=>cases c
  exact PE.imp ((zbT l G h).2.1 ht) fun σ H Qv q=>zjv q;replace h:=zab h;obtain⟨⟨x,e1⟩,q,h⟩:=h;obtain⟨p2,p,rfl⟩:=zav q;simp only[and_eq_true]at h;obtain⟨⟨⟨hx,h1⟩,h2⟩,h4⟩:=h;cases zaQ hx;have hr:zjW l=false:=by cases l with|comp=>rfl|_=>cases c
  exact zmv G (zaP G h1) ((zbT l G h4).1 hr) h2;replace h:=zab h;obtain⟨⟨x,e1⟩,q,h⟩:=h;obtain⟨p2,p,rfl⟩:=zav q;simp only[and_eq_true,or_eq_true,not_eq_true']at h;obtain⟨⟨⟨⟨hx,h1⟩,h2⟩,h3⟩,h4⟩:=h;cases zaQ hx;have hl:=zbT l G h4;rcases h3 with h3|h3;exact zmv G (zaP G h1) (hl.1 h3) h2;have:∃a,l=.rng1 a:=by cases l with|rng1 a=>exact⟨a,rfl⟩|_=>cases h3
  obtain⟨a,ea⟩:=this;obtain⟨a',p3,p4,rfl,hr,ha,hs⟩:=hl.2.2.2 a ea;rw[ea];exact zns G (zaP G h1) hr ha hs
 |.mkT l,N,sc,e,X,G,h=>by
  replace h:=zab h;obtain⟨⟨x,e1⟩,q,h⟩:=h;obtain⟨p2,p,rfl⟩:=zav q;simp only[and_eq_true,or_eq_true,not_eq_true']at h;obtain⟨⟨⟨⟨hx,h1⟩,h2⟩,h3⟩,h4⟩:=h;cases zaQ hx;have hl:=zbT l G h4;rcases h3 with h3|h3;exact zpJ G (zaP G h1) (hl.1 h3) h2;have:∃a,l=.rng1 a:=by cases l with|rng1 a=>exact⟨a,rfl⟩|_=>cases h3
  obtain⟨a,ea⟩:=this;obtain⟨a',p3,p4,rfl,hr,ha,hs⟩:=hl.2.2.2 a ea;rw[ea];exact zk9 G (zaP G h1) hr ha hs
 |.all l,N,sc,e,X,G,h=>by replace h:=zab h;obtain⟨⟨x,e1⟩,q,h⟩:=h;obtain⟨p2,p,rfl⟩:=zav q;simp only[and_eq_true,not_eq_true']at h;obtain⟨⟨⟨⟨hx,h1⟩,h2⟩,h3⟩,h4⟩:=h;cases zaQ hx;exact zpT G (zaP G h1) ((zbT l G h4).1 h3) h2| .srtK a,N,sc,e,X,G,h=>by replace h:=zab h;obtain⟨⟨o,le⟩,q,h⟩:=h;obtain⟨p1,p2,p3,rfl⟩:=zi4 q;simp only[and_eq_true,decide_eq_true_eq]at h;obtain⟨⟨⟨⟨h1,h2⟩,h3⟩,h4⟩,h5⟩:=h;exact znr G h4 (zaP G h1) (zae a G h5) h2 h3| .rep a b,N,sc,e,X,G,h=>by replace h:=zab h;obtain⟨⟨l,o,r⟩,q,h⟩:=h;obtain⟨p,rfl⟩:=zfi q;simp only[and_eq_true,decide_eq_true_eq]at h;obtain⟨⟨rfl,h1⟩,h2⟩:=h;exact zpG (zae a G h1) (zae b G h2)| .dlst a,N,sc,e,X,G,h=>by replace h:=zab h;obtain⟨⟨x,e1⟩,q,h⟩:=h;obtain⟨p2,p,rfl⟩:=zav q;simp only[and_eq_true]at h;obtain⟨⟨⟨hx,h1⟩,h3⟩,h5⟩:=h;cases zaQ hx;exact znA G (zaP G h1) (zae a G h5) h3| .srt a,N,sc,e,X,G,h=>by replace h:=zab h;obtain⟨⟨x,e1⟩,q,h⟩:=h;obtain⟨p2,p,rfl⟩:=zav q;simp only[and_eq_true]at h;obtain⟨⟨⟨hx,h1⟩,h3⟩,h5⟩:=h;cases zaQ hx;exact zpE G (zaP G h1) (zae a G h5) h3| .clr a,N,sc,e,X,G,h=>by replace h:=zab h;obtain⟨⟨oe,m',ap,args,cp⟩,q,h⟩:=h;cases zbe q;simp only[and_eq_true,isEmpty_iff]at h;obtain⟨⟨⟨⟨h0,h1⟩,h2⟩,rfl⟩,h4⟩:=h;cases zaQ h0;exact zpR (zae a G h4) h1 h2| .dsrt a,N,sc,e,X,G,h=>by replace h:=zab h;obtain⟨⟨x,e1⟩,q,h⟩:=h;obtain⟨p2,p,rfl⟩:=zav q;simp only[and_eq_true]at h;obtain⟨⟨⟨hx,h1⟩,h3⟩,h5⟩:=h;cases zaQ hx;exact zny G (zaP G h1) (zae a G h5) h3| .dic1 a b,N,sc,e,X,G,h=>by replace h:=zab h;obtain⟨⟨x,e1⟩,q,h⟩:=h;obtain⟨p,rfl⟩:=zgb q;simp only[and_eq_true]at h;exact znB (zae a G h.1) (zae b G h.2)| .min1 a,N,sc,e,X,G,h=>by replace h:=zab h;obtain⟨⟨x,e1⟩,q,h⟩:=h;obtain⟨p2,p,rfl⟩:=zav q;simp only[and_eq_true]at h;obtain⟨⟨⟨hx,h1⟩,h3⟩,h5⟩:=h;cases zaQ hx;exact znt G (zaP G h1) (zae a G h5) h3| .sset a,N,sc,e,X,G,h=>by replace h:=zab h;obtain⟨⟨x,e1⟩,q,h⟩:=h;obtain⟨p2,p,rfl⟩:=zav q;replace h:=zab h;obtain⟨⟨y,e2⟩,q2,h⟩:=h;obtain⟨p3,p4,hy⟩:=zav q2;simp only[and_eq_true]at h;obtain⟨⟨⟨⟨⟨hx,h1⟩,hz⟩,h2⟩,h3⟩,h5⟩:=h;cases zaQ hx;cases zaQ hz;dsimp only at hy;subst hy;exact znq G (zaP G h1) (zaP G h2) (zae a G h5) h3
theorem zaW:∀(ces:CEs){N:List Str}{sc:Scope}{es:List Expr}{X:Cx},Gd T cf k N sc X->zbv T ces N sc es=true->EsOk cf ces X es
 |.nil,N,sc,es,X,G,h=>by simp only[zbv,isEmpty_iff]at h;subst h;exact⟨zmx,fun a r e es' z=>nomatch z⟩| .cons a r,N,sc,es,X,G,h=>by cases es with|nil=>simp[zbv]at h| cons e es=>simp only[zbv,and_eq_true]at h;have he:=zae a G h.1.2;exact⟨ziU he (zaW r G h.2).1 h.1.1,fun a' r' e' es' z1 z2=>by cases z1;cases z2;exact he⟩
theorem za0:∀(ce:CE){N:List Str}{sc:Scope}{e:Expr}{X:Cx},Gd T cf k N sc X->chkT T ce N sc e=true->PT X e (tT X.K cf ce)/\((∃op v r p,e=.BoolOp op (v::r) p)->PW X e (tT X.K cf ce))
 |.cmp op a b,N,sc,e,X,G,h=>by replace h:=zab h;obtain⟨⟨l,os,rs⟩,q,h⟩:=h;obtain⟨p,rfl⟩:=zcn q;rw[and_eq_true,decide_eq_true_eq]at h;obtain⟨e1,h⟩:=h;replace h:=zab h;obtain⟨r,q2,h⟩:=h;cases zbl q2;cases e1;simp only[and_eq_true]at h;exact⟨zpw G (zae a G h.1.2) (zae b G h.2) h.1.1,fun⟨_,_,_,_,z⟩=>nomatch z⟩| .cmp2 op op' a b c,N,sc,e,X,G,h=>by replace h:=zab h;obtain⟨⟨l,os,rs⟩,q,h⟩:=h;obtain⟨p,rfl⟩:=zcn q;rw[and_eq_true,decide_eq_true_eq]at h;obtain⟨e1,h⟩:=h;replace h:=zab h;obtain⟨⟨r,r'⟩,q2,h⟩:=h;cases two_inv q2;cases e1;simp only[and_eq_true]at h;obtain⟨⟨⟨⟨h1,h2⟩,h3⟩,h4⟩,h5⟩:=h;exact⟨znb G (zae a G h3) (zae b G h4) (zae c G h5) h1 h2,fun⟨_,_,_,_,z⟩=>nomatch z⟩| .nt a,N,sc,e,X,G,h=>by replace h:=zab h;obtain⟨⟨o,x⟩,q,h⟩:=h;obtain⟨p,rfl⟩:=zex q;simp only[and_eq_true,decide_eq_true_eq]at h;obtain⟨rfl,h1⟩:=h;exact⟨zrU (za0 a G h1).1,fun⟨_,_,_,_,z⟩=>nomatch z⟩| .and a b,N,sc,e,X,G,h=>by replace h:=zab h;obtain⟨⟨o,vs,p⟩,q,h⟩:=h;cases zbX q;rw[and_eq_true,decide_eq_true_eq]at h;obtain⟨e1,h⟩:=h;cases e1;dsimp only at h;split at h;rename_i x y rest;rw[and_eq_true]at h;obtain⟨h1,h2⟩:=h;split at h2;rename_i c;cases isEmpty_iff.mp c;have w:=zmq (pos:=p) (za0 a G h1).1 (znT (za0 b G h2).1);exact⟨w.pt,fun _=>w⟩;have w:=zmq (za0 a G h1).1 ((za0 b G h2).2 ⟨_,_,_,_,rfl⟩);exact⟨w.pt,fun _=>w⟩;cases h
 |.or a b,N,sc,e,X,G,h=>by replace h:=zab h;obtain⟨⟨o,vs,p⟩,q,h⟩:=h;cases zbX q;rw[and_eq_true,decide_eq_true_eq]at h;obtain⟨e1,h⟩:=h;cases e1;dsimp only at h;split at h;rename_i x y rest;rw[and_eq_true]at h;obtain⟨h1,h2⟩:=h;split at h2;rename_i c;cases isEmpty_iff.mp c;have w:=zpv (pos:=p) (za0 a G h1).1 (zp8 (za0 b G h2).1);exact⟨w.pt,fun _=>w⟩;have w:=zpv (za0 a G h1).1 ((za0 b G h2).2 ⟨_,_,_,_,rfl⟩);exact⟨w.pt,fun _=>w⟩;cases h
 |.tst a,N,sc,e,X,G,h=>by simp only[chkT,and_eq_true]at h;exact⟨zpu (zae a G h.2) h.1,fun⟨_,_,_,_,z⟩=>by rw[z]at h;simp[zg2]at h⟩|.loc i,N,sc,e,X,G,h=>absurd h Bool.false_ne_true|.con d,N,sc,e,X,G,h=>absurd h Bool.false_ne_true|.bin op a b,N,sc,e,X,G,h=>absurd h Bool.false_ne_true|.neg a,N,sc,e,X,G,h=>absurd h Bool.false_ne_true|.ite c a b,N,sc,e,X,G,h=>absurd h Bool.false_ne_true|.tup es,N,sc,e,X,G,h=>absurd h Bool.false_ne_true|.lst es,N,sc,e,X,G,h=>absurd h Bool.false_ne_true|.dnew,N,sc,e,X,G,h=>absurd h Bool.false_ne_true|.dgetI a b c,N,sc,e,X,G,h=>absurd h Bool.false_ne_true|.dsetI a b c,N,sc,e,X,G,h=>absurd h Bool.false_ne_true|.extv a b,N,sc,e,X,G,h=>absurd h Bool.false_ne_true|.ix a b,N,sc,e,X,G,h=>absurd h Bool.false_ne_true|.fld a f,N,sc,e,X,G,h=>absurd h Bool.false_ne_true|.mk c f x j es,N,sc,e,X,G,h=>absurd h Bool.false_ne_true|.meth m tb o es,N,sc,e,X,G,h=>absurd h Bool.false_ne_true|.callC f x m es,N,sc,e,X,G,h=>absurd h Bool.false_ne_true|.slS a b,N,sc,e,X,G,h=>absurd h Bool.false_ne_true|.sl a ml mh lo hi,N,sc,e,X,G,h=>absurd h Bool.false_ne_true|.call f j es,N,sc,e,X,G,h=>absurd h Bool.false_ne_true|.callW f j es,N,sc,e,X,G,h=>absurd h Bool.false_ne_true|.bi b es,N,sc,e,X,G,h=>absurd h Bool.false_ne_true|.mt m o es,N,sc,e,X,G,h=>absurd h Bool.false_ne_true|.mkL l,N,sc,e,X,G,h=>absurd h Bool.false_ne_true|.mkT l,N,sc,e,X,G,h=>absurd h Bool.false_ne_true|.all l,N,sc,e,X,G,h=>absurd h Bool.false_ne_true|.sset a,N,sc,e,X,G,h=>absurd h Bool.false_ne_true|.srtK a,N,sc,e,X,G,h=>absurd h Bool.false_ne_true|.rep a b,N,sc,e,X,G,h=>absurd h Bool.false_ne_true|.dlst a,N,sc,e,X,G,h=>absurd h Bool.false_ne_true|.srt a,N,sc,e,X,G,h=>absurd h Bool.false_ne_true|.clr a,N,sc,e,X,G,h=>absurd h Bool.false_ne_true|.dsrt a,N,sc,e,X,G,h=>absurd h Bool.false_ne_true|.dic1 a b,N,sc,e,X,G,h=>absurd h Bool.false_ne_true|.min1 a,N,sc,e,X,G,h=>absurd h Bool.false_ne_true
theorem zbT:∀(cl:CL){N:List Str}{sc:Scope}{e:Expr}{X:Cx},Gd T cf k N sc X->chkL T cl N sc e=true->LOk T cf k cl X e
 |.val a,N,sc,e,X,G,h=>by simp only[chkL,and_eq_true]at h;have hp:=zpC (zae a G h.2);exact⟨fun _=>hp,fun z=>(by cases z),fun tg _=>zms hp zqP,fun a z=>nomatch z⟩| .rng1 a,N,sc,e,X,G,h=>by replace h:=zab h;obtain⟨⟨x,e1⟩,q,h⟩:=h;obtain⟨p2,p,rfl⟩:=zav q;simp only[and_eq_true]at h;obtain⟨⟨⟨hx,h1⟩,h2⟩,h3⟩:=h;cases zaQ hx;have he:=zae a G h3;exact⟨fun z=>(by cases z),fun z=>(by cases z),fun tg _=>znk (zaP G h1) he h2,fun a z=>by cases z;exact⟨e1,p2,p,rfl,zaP G h1,he,h2⟩⟩| .rng2 a b,N,sc,e,X,G,h=>by replace h:=zab h;obtain⟨⟨x,args⟩,q,h⟩:=h;obtain⟨p2,p,rfl⟩:=zaM q;replace h:=zab h;obtain⟨⟨e1,e2⟩,q2,h⟩:=h;cases two_inv q2;simp only[and_eq_true]at h;obtain⟨⟨⟨⟨⟨hx,h1⟩,h2⟩,h3⟩,h4⟩,h5⟩:=h;cases zaQ hx;exact⟨fun z=>(by cases z),fun z=>(by cases z),fun tg _=>znj (zaP G h1) (zae a G h4) (zae b G h5) h2 h3,fun a z=>nomatch z⟩| .enum a,N,sc,e,X,G,h=>by replace h:=zab h;obtain⟨⟨x,e1⟩,q,h⟩:=h;obtain⟨p2,p,rfl⟩:=zav q;simp only[and_eq_true]at h;obtain⟨⟨⟨hx,h1⟩,h2⟩,h3⟩:=h;cases zaQ hx;refine⟨fun z=>(by cases z),fun z=>(by cases z),fun tg ht=>?_,fun a z=>nomatch z⟩;cases tg with|Tuple es j pt=>exact znl (zaP G h1) (zae a G h3) h2|_=>cases ht
 |.comp nt js g it c e,N,sc,ex,X,G,h=>by
  replace h:=zab h;obtain⟨⟨elt,gs,scope,p⟩,q,h⟩:=h;cases zgZ q;replace h:=zab h;obtain⟨⟨tg,iter,ifs,asy⟩,q2,h⟩:=h;cases zbl q2;rw[and_eq_true,and_eq_true,and_eq_true,and_eq_true,and_eq_true,and_eq_true,and_eq_true,and_eq_true,decide_eq_true_eq,decide_eq_true_eq,decide_eq_true_eq]at h;obtain⟨⟨⟨⟨⟨⟨⟨⟨h1,h2⟩,h3⟩,h4⟩,h5⟩,h6⟩,h7⟩,h8⟩,h9⟩:=h;dsimp only at h1 h2 h3 h4 h5 h6 h7 h8 h9;rw[and_eq_true]at h3;subst h1 h5;have ok:=zhv G h2;have G':=zkb G (tgs:=zcb tg) ok h6;have ht:∀cl C fp s H pn,PTs (zaG X (capN X.N (zcb tg) js) scope cl C fp s H pn) ifs (tT X.K cf c):=fun cl C fp s H pn=>by split at h8;rename_i ce;cases isEmpty_iff.mp ce;exact zgQ (X:=zaG X (capN X.N (zcb tg) js) scope cl C fp s H pn) h8;replace h8:=zab h8;obtain⟨t,q3,h8⟩:=h8;cases zbl q3;exact zjf (za0 c (G' cl C fp s H pn) h8).1
  have hp:PE X (.ListComp elt [⟨tg,iter,ifs,0⟩] scope p) (tLt X.K cf (.comp (zcb tg).length js g it c e)):=PE.imp (zlE X.env.scope (zcb tg) js G.calm rfl ok ((zbT it G h4).2.2.1 tg h3.2) (fun cl C fp s H pn=>zm7 (G' cl C fp s H pn) h7) ht (fun cl C fp s H pn=>zae e (G' cl C fp s H pn) h9) (zgx h3.1 X.env)) fun σ H Qv q=>zhu G.tab.frm q;exact⟨fun _=>(PE.ofT hp),fun _=>hp,fun tg _=>zms (PE.ofT hp) zov,fun a z=>nomatch z⟩
end
end
end R
end
namespace R
open PySem PySem.Spec PyProof.Rows L2
variable[Mks]
section
variable{T:Tab}{cf:CF}{k:Nat}
theorem zne(G:Gd T cf k N sc X)(hi:N[i]?=some x)(hl:zfB sc x=true)(h:chkE T (.mkL l) N sc (.ListComp elt gs scope p2)=true)(hr:PSs X rest (tS X.K cf r)) :
  PSs X (.Assign [.Name x p] (.ListComp elt gs scope p2) pos::rest) (tS X.K cf (.asg i (.mkL l) r)):=by
 have hw:∃b,swapsWith (.ListComp elt gs scope p2) (some (.Name x p)) pos.line X.env=pure b:=⟨_,rfl⟩;obtain⟨b,hw⟩:=hw;cases b with
 |false=>refine PSs.imp (za2 (zmA (by rw[G.nm];exact G.nd) (by rw[G.nm];exact hi) (G.lc hl).1 (zae (.mkL l) G h) hw (G.lc hl).2) hr) fun E σ H=>ex8 fun δ ι S Q hs hh w lf=>?_;simp[exS,zaa]at w;refine tE.run hs hh w fun d v ι1 H1 S1 x1 hs1 hh1 r1 w1=>?_;exact⟨δ.set i (some d),ι1,S1,Q,hs1.set r1 i,hh1,w1,lf.up x1⟩| true=>
  replace h:ite (zgt l=true) _ _=true:=h;split at h;rename_i c0;split at h;cases l with
  |comp nt js g it c e=>
   replace h:=zab h;obtain⟨⟨elt',gs',scope',p'⟩,q,h⟩:=h;cases zgZ q;replace h:=zab h;obtain⟨⟨tg,iter,ifs,asy⟩,q2,h⟩:=h;cases zbl q2;rw[and_eq_true,and_eq_true,and_eq_true,and_eq_true,and_eq_true,and_eq_true,and_eq_true,and_eq_true,decide_eq_true_eq,decide_eq_true_eq,decide_eq_true_eq]at h;obtain⟨⟨⟨⟨⟨⟨⟨⟨h1,h2⟩,h3⟩,h4⟩,h5⟩,h6⟩,h7⟩,h8⟩,h9⟩:=h;rw[and_eq_true]at h3;subst h1 h5;have ok:=zhv G h2;have G':=zkb G ok h6;have ht:∀cl C fp s H pn,PTs (zaG X (capN X.N (zcb tg) js) scope cl C fp s H pn) ifs (tT X.K cf c):=fun cl C fp s H pn=>by split at h8;rename_i ce;cases isEmpty_iff.mp ce;exact zgQ h8;replace h8:=zab h8;obtain⟨t,q3,h8⟩:=h8;cases zbl q3;exact zjf (za0 c (G' cl C fp s H pn) h8).1
   have he:∀cl C fp s H pn,PE (zaG X (capN X.N (zcb tg) js) scope cl C fp s H pn) elt (tE X.K cf e):=fun cl C fp s H pn=>zae e (G' cl C fp s H pn) h9;have hg:∀cl C fp s H pn,PG (zaG X (capN X.N (zcb tg) js) scope cl C fp s H pn) tg (tG X.K g):=fun cl C fp s H pn=>zm7 (G' cl C fp s H pn) h7;have hps:=znY X.env.scope (zcb tg) js (by rw[G.nm];exact G.nd) (by rw[G.nm];exact hi) (G.lc hl).1 G.calm rfl ok ((zbT it G h4).2.2.1 tg h3.2) hg ht he hw (zgx h3.1 X.env) (G.lc hl).2;exact zng G hi ⟨_,hps,fun σ H Qv q=>zhu G.tab.frm (zjv q)⟩ hr
  |_=>cases c0
  cases h;cases h
theorem zoS(h:zbm v=false)(hc:chkE T e N sc v=true):∃l elt gs scope p,v=.ListComp elt gs scope p/\e=.mkL l:=by
 cases v with
 |ListComp elt gs scope p=>cases e with|mkL l=>exact⟨l,elt,gs,scope,p,rfl,rfl⟩|_=>exact absurd hc Bool.false_ne_true
 |SetComp=>cases e<;>first|exact absurd hc Bool.false_ne_true|(rename_i l;cases l<;>exact absurd hc Bool.false_ne_true)
 |DictComp=>cases e<;>first|exact absurd hc Bool.false_ne_true|(rename_i l;cases l<;>exact absurd hc Bool.false_ne_true)
 |_=>cases h
theorem za1:∀(cs:CS){N:List Str}{sc:Scope}{st:List Stmt}{X:Cx},Gd T cf k N sc X->chkS T cs N sc st=true->PSs X st (tS X.K cf cs)
 |.nil,N,sc,st,X,G,h=>by simp[chkS,isEmpty_iff]at h;subst h;exact zpy|.stop,N,sc,st,X,G,h=>fun pins s σ H E I ⟨δ,ι,S,Q,hs,hh,w,l⟩=>(by simp only[exS]at w;exact w.elim)| .asg i e r,N,sc,st,X,G,h=>by cases st with|nil=>simp[chkS]at h| cons s rest=>replace h:=zab h;obtain⟨⟨tg,v,pos⟩,q,h⟩:=h;cases zco q;replace h:=zab h;obtain⟨x,q2,h⟩:=h;obtain⟨p,hx⟩:=zaO q2;subst hx;simp at h;obtain⟨⟨⟨h1,h2⟩,h3⟩,h4⟩:=h;have hr:=za1 r G h4;cases hn:zbm v with|true=>exact zpA G h1 h2 (zae e G h3) hn hr| false=>obtain⟨l,elt,gs,scope,p2,rfl,rfl⟩:=zoS hn h3;exact zne G h1 h2 h3 hr
 |.asgT g e r,N,sc,st,X,G,h=>by cases st with|nil=>simp[chkS]at h| cons s rest=>replace h:=zab h;obtain⟨⟨tg,v,pos⟩,q,h⟩:=h;cases zco q;replace h:=zab h;obtain⟨es,q2,h⟩:=h;obtain⟨j,p,hx⟩:=zde q2;subst hx;simp only[and_eq_true,decide_eq_true_eq]at h;obtain⟨⟨⟨⟨h1,h2⟩,h3⟩,h4⟩,h5⟩:=h;refine znf G h3 h2 (zae e G h4) ?_ (za1 r G h5);rw[or_eq_true]at h1;rcases h1 with h1|h1;obtain⟨x,hx⟩:=Option.isSome_iff_exists.mp h1;obtain⟨p2,hv⟩:=zaO hx;exact .inl ⟨x,p2,hv⟩;obtain⟨⟨x,as⟩,hx⟩:=Option.isSome_iff_exists.mp h1;obtain⟨p2,p3,hv⟩:=zaM hx;exact .inr ⟨_,_,_,_,hv⟩
 |.setF a f e r,N,sc,st,X,G,h=>by cases st with|nil=>simp[chkS]at h| cons s rest=>replace h:=zab h;obtain⟨⟨tg,v,pos⟩,q,h⟩:=h;cases zco q;replace h:=zab h;obtain⟨⟨o,f',p⟩,q2,h⟩:=h;have hx:=zbY q2;subst hx;simp only[and_eq_true,decide_eq_true_eq]at h;obtain⟨⟨⟨⟨⟨h1,h2⟩,h3⟩,h4⟩,h5⟩,h6⟩:=h;subst h1;exact znc G h2 (zae a G h4) (zae e G h5) h3 (za1 r G h6)
 |.setIx a b e r,N,sc,st,X,G,h=>by cases st with|nil=>simp[chkS]at h| cons s rest=>replace h:=zab h;obtain⟨⟨tg,v,pos⟩,q,h⟩:=h;cases zco q;replace h:=zab h;obtain⟨⟨o,i⟩,q2,h⟩:=h;obtain⟨p,hx⟩:=zcm q2;subst hx;simp at h;obtain⟨⟨⟨⟨h1,h2⟩,h3⟩,h4⟩,h5⟩:=h;exact zk1 G (zae a G h2) (zae b G h3) (zae e G h4) h1 (za1 r G h5)
 |.ifS c t u r,N,sc,st,X,G,h=>by cases st with|nil=>simp[chkS]at h| cons s rest=>replace h:=zab h;obtain⟨⟨e,a,b⟩,q,h⟩:=h;obtain⟨p,rfl⟩:=zi7 q;simp at h;exact zrV (za0 c G h.1.1.1).1 (za1 t G h.1.1.2) (za1 u G h.1.2) (za1 r G h.2)
 |.forS g l b r,N,sc,st,X,G,h=>by cases st with|nil=>simp[chkS]at h| cons s rest=>replace h:=zab h;obtain⟨⟨tg,it,body⟩,q,h⟩:=h;obtain⟨p,rfl⟩:=zi8 q;simp only[and_eq_true]at h;obtain⟨⟨⟨⟨h1,h2⟩,h3⟩,h4⟩,h5⟩:=h;exact zpz G ((zbT l G h2).2.2.1 tg h5.2) (zm7 G h5.1) (za1 b G h3) h1 (za1 r G h4)
 |.ret e r,N,sc,st,X,G,h=>by cases st with|nil=>simp[chkS]at h| cons s rest=>replace h:=zab h;obtain⟨v,q,h⟩:=h;obtain⟨p,rfl⟩:=zi6 q;simp at h;exact zpx (zae e G h.1) (za1 r G h.2)
 |.expr e r,N,sc,st,X,G,h=>by cases st with|nil=>simp[chkS]at h| cons s rest=>replace h:=zab h;obtain⟨v,q,h⟩:=h;obtain⟨p,rfl⟩:=zi9 q;simp at h;exact znd (zae e G h.1.2) h.1.1 (za1 r G h.2)
theorem RS.start{K:Frag}(r:RVs K ι H ds vs)(hl:ds.length=F.np)(hn:F.nn=N.length):RS K ι H (zaE F ds) (L2.start N vs):=by
 have hlen:=r.length;refine⟨by simp[zaE,L2.start,hlen,hl,hn],fun i d e=>?_⟩;unfold zaE at e;unfold L2.start;by_cases hi:i<ds.length;rw[getElem?_append_left (by simpa using hi),getElem?_map]at e;rw[getElem?_append_left (by simpa[hlen]using hi),getElem?_map];cases z:ds[i]? with
 |none=>rw[z]at e;cases e
 |some d'=>rw[z]at e;simp at e;subst e;obtain⟨v,ev,rv⟩:=r.get z;exact⟨v,by rw[ev];rfl,rv⟩
 . rw[getElem?_append_right (by simpa using hi),List.getElem?_replicate]at e;split at e<;>cases e
def ChkD(T:Tab)(b:CS)(N:List Str)(sc:Scope)(st:List Stmt):Prop:=chkS T b N sc st=true/\N≠T.lam
structure DefOk(K:Frag)(mg:Str->Option Value)(T:Tab)(Pg:List Fn)(fi:Nat)(x:Str)(ps:List Str)(nd:Nat):Prop where
 ex:∃(F:Fn) (qual:Str) (st:Stmt) (dV:Value) (f:Addr) (fd:FuncData) (N:List Str),Pg[fi]?=some F/\F.prim=none/\FunV K x qual st dV f fd/\FnScope N ps (zad st)/\ChkD T F.body N (zad st) (zao st)/\F.np=ps.length/\F.nn=N.length/\
  mg x=some (.ref f)/\∀j,j<=nd->Binds K fd ps (List.replicate j Value.none)
theorem zcB(Pg:List Fn):∀n:Nat,CFok (callF Pg n)
 |0,f,ds,S,d,T',h=>by cases h| n+1,f,ds,S,d,T',h=>by
  simp[callF]at h;cases e:Pg[f]? with
  |none=>rw[e]at h;cases h
  |some F=>
   rw[e]at h;dsimp only at h;split at h
   . cases ep:F.prim with
     |some p=>
      cases p with
      |lam=>
       rw[ep]at h;dsimp only at h;split at h
       . skip
         cases ex:exS (callF Pg n) F.body (zaE F ds) S with
         |ok r T2=>
          rw[ex]at h;have hf:=zcM (zcB Pg n) F.body (zaE F ds) S (fun r' T3=>r'=r/\T3=T2) (by rw[ex];exact⟨rfl,rfl⟩);rw[ex]at hf;cases r with
          |nx δ=>injection h with _ h2;rw[<-h2];exact hf.2
          |rt z=>injection h with _ h2;rw[<-h2];exact hf.2
         |bad=>rw[ex]at h;cases h
       cases h
     |none=>
     rw[ep]at h;cases ex:exS (callF Pg n) F.body (zaE F ds) S with
     |ok r T2=>
      rw[ex]at h;have hf:=zcM (zcB Pg n) F.body (zaE F ds) S (fun r' T3=>r'=r/\T3=T2) (by rw[ex];exact⟨rfl,rfl⟩);rw[ex]at hf;cases r with
      |nx δ=>injection h with _ h2;rw[<-h2];exact hf.2
      |rt z=>injection h with _ h2;rw[<-h2];exact hf.2
     |bad=>rw[ex]at h;cases h
   cases h
variable{P:Program}{w:World}{K:Frag}{mg:Str->Option Value}{base:Heap}{Pg:List Fn}
theorem zcE{ps:List Str}(hP:Pg[fi]?=some F)(hp:F.np=ps.length)(h:spF K (callF Pg n) fi vs H Q E):vs.length=ps.length:=by obtain⟨ι,S,ds,r,hh,w⟩:=h;rw[r.length];cases n with|zero=>exact w.elim| succ n=>simp[callF,hP]at w;split at w;rename_i c;rw[c,hp];exact w.elim
theorem zkq{st:Stmt}(tab:TabOk T (callF Pg n) m P w K mg base)(FV:FunV K x qual st dV f fd)(hP:Pg[fi]?=some F)(S:FnScope N ps (zad st))(ck:ChkD T F.body N (zad st) (zao st))(hp:F.np=ps.length)(hn:F.nn=N.length)(hq:F.prim=none:=by rfl) :
  FnOk P w K mg base CX0 (m+2) f fd ps (spF K (callF Pg (n+1)) fi):=by
 refine FV.ok S (fun vs H Q E h=>zcE hP hp h) fun cdv A outer s H vs Q E hr h=>?_;obtain⟨ι,S0,ds,r,hh,hw⟩:=h;have G:Gd T (callF Pg n) m N (zad st) (cxOf CX0 P w K mg base N qual (zad st) f cdv A outer s H E).nox:=⟨rfl,S.nd,fun x e=>e,fun x e=>e,fun x e=>.inl e,fun x e=>e,.inl fun _=>rfl,rfl,rfl,hr,tab,fun z=>absurd z ck.2⟩;refine⟨_,za1 F.body G ck.1,?_⟩;simp[callF,hP,hq]at hw;split at hw;rename_i c;rw[zaa]at hw;refine⟨zaE F ds,ι,S0,_,RS.start r c hn,hh,hw,?_⟩;intro fl ι' H' S' x' hh' q;cases fl with|nx δ'=>exact fun σ' hs'=>q .non H' ι' x' rfl hh'|rt d=>exact fun v rv=>q v H' ι' x' rv hh'
 exact hw.elim
structure MOk(K:Frag)(T:Tab)(Pg:List Fn)(fi j:Nat)(Ex:Addr->Prop):Prop where
 ex:∃(F:Fn) (x qual:Str) (st:Stmt) (dV:Value) (f:Addr) (fd:FuncData) (N ps:List Str),Pg[fi]?=some F/\F.prim=none/\FunV K x qual st dV f fd/\FnScope N ps (zad st)/\ChkD T F.body N (zad st) (zao st)/\F.np=ps.length/\F.nn=N.length/\
  Binds K fd ps (List.replicate j Value.none)/\Ex f
theorem zeF(z:MOk K T Pg fi j Ex):∃f fd ps,Ex f/\keepIn K (.ref f)=true/\Binds K fd ps (List.replicate j Value.none)/\FnOk P w K mg base CX0 0 f fd ps (spF K (callF Pg 0) fi):=by obtain⟨F,x,qual,st,dV,f,fd,N,ps,hP,hq,FV,S,ck,hp,hn,hb,e⟩:=z.ex;refine⟨f,fd,ps,e,FV.kp,hb,⟨fun vs H Q E h=>zcE hP hp h,fun A outer s H args us vs Q E hr e0 b v h=>?_⟩⟩;obtain⟨ι,S,ds,r,hh,w⟩:=h;exact w.elim
theorem zeG(tab:TabOk T (callF Pg n) m P w K mg base)(z:MOk K T Pg fi j Ex):∃f fd ps,Ex f/\keepIn K (.ref f)=true/\Binds K fd ps (List.replicate j Value.none)/\FnOk P w K mg base CX0 (m+2) f fd ps (spF K (callF Pg (n+1)) fi):=by obtain⟨F,x,qual,st,dV,f,fd,N,ps,hP,hq,FV,S,ck,hp,hn,hb,e⟩:=z.ex;exact⟨f,fd,ps,e,FV.kp,hb,zkq tab FV hP S ck hp hn hq⟩
def ExM(K:Frag)(c:Nat)(m:Str)(f:Addr):Prop:=∃C,Mks.cl[c]?=some C/\Cls K C/\Meth K C m f
def ExI(K:Frag)(c:Nat)(f:Addr):Prop:=∃C,Mks.cl[c]?=some C/\Mk K C f
def ExC(K:Frag)(mg:Str->Option Value)(x m:Str)(f:Addr):Prop:=∃(C:Addr) (mc:Value),mg x=some (.ref C)/\specialIn K (.ref C) "__getattribute__"=some (some (.builtin "type.__getattribute__"))/\readsIn K C mc=true/\findCls K (.ref C) mc m=some (.val (.ref f))
structure ClsOk(T:Tab)(K:Frag)(mg:Str->Option Value)(Pg:List Fn):Prop where
 cls:∀(c:Nat)(x:Str),T.cls[c]?=some x->∃C,Mks.cl[c]?=some C/\Cls K C/\mg x=some (.ref C)/\∀f,T.flds.contains f=true->NoAttr K C f
 mth:∀(c:Nat)(m:Str)(fi:Nat),T.mts.contains (c,m,fi)=true->MOk K T Pg fi 0 (ExM K c m)
 ini:∀(c fi j:Nat),T.inits.contains (c,fi,j)=true->MOk K T Pg fi j (ExI K c)
 cmd:∀(x m:Str)(fi:Nat),T.cms.contains (x,m,fi)=true->MOk K T Pg fi 0 (ExC K mg x m)
 cln:Mks.cl.length<=T.cls.length
 isa:∀(x:Str)(cs:List Nat),T.isas.contains (x,cs)=true->∃D,mg x=some (.ref D)/\∀c C,Mks.cl[c]?=some C->IsaOk K C/\kitOne K (.ref C) (.ref D)=some (cs.contains c)
theorem zj5(h:∃f fd ps,ExM K c m f/\keepIn K (.ref f)=true/\Binds K fd ps []/\FnOk P w K mg base CX0 k f fd ps (spF K cf fi)):HasM P w K mg base k c m (spF K cf fi):=by obtain⟨f,fd,ps,⟨C,h1,h2,h3⟩,_,h4,h5⟩:=h;exact⟨C,f,fd,ps,h1,h2,h3,h5,h4⟩
theorem zj6(h:∃f fd ps,ExI K c f/\keepIn K (.ref f)=true/\Binds K fd ps (List.replicate j Value.none)/\FnOk P w K mg base CX0 k f fd ps (spF K cf fi)):HasI P w K mg base k c j (spF K cf fi):=by obtain⟨f,fd,ps,⟨C,h1,h2⟩,_,h4,h5⟩:=h;exact⟨C,f,fd,ps,h1,h2,h5,h4⟩
theorem zj7(h:∃f fd ps,ExC K mg x m f/\keepIn K (.ref f)=true/\Binds K fd ps []/\FnOk P w K mg base CX0 k f fd ps (spF K cf fi)):HasC P w K mg base k x m (spF K cf fi):=by obtain⟨f,fd,ps,⟨C,mc,h1,h2,h3,h6⟩,h7,h4,h5⟩:=h;exact⟨C,f,fd,ps,mc,h1,h2,h3,h6,h7,h5,h4⟩
structure PrimOk(P:Program)(w:World)(K:Frag)(mg:Str->Option Value)(base:Heap)(T:Tab)(Pg:List Fn)(fi:Nat)(x:Str)(ps:List Str)(nd:Nat):Prop where
 ex:∃(F:Fn) (p:Prim) (f:Addr) (fd:FuncData),Pg[fi]?=some F/\F.prim=some p/\F.np=ps.length/\mg x=some (.ref f)/\keepIn K (.ref f)=true/\(∀j,j<=nd->Binds K fd ps (List.replicate j Value.none))/\
  ∀n,3<=n->TabOk T (callF Pg n) (2*n) P w K mg base->FnOk P w K mg base CX0 (2*n+2) f fd ps (spF K (callF Pg (n+1)) fi)
theorem zpo(hb:∀x,T.blt.contains x=true->mg x=none)(hc:∀x d,T.cons.lookup x=some d->znE d=true/\∃u,mg x=some u/\RelV (sV d) u)(hd:∀fi x ps nd,T.fns[fi]?=some (x,ps,nd)->DefOk K mg T Pg fi x ps nd\/PrimOk P w K mg base T Pg fi x ps nd)(hk:ClsOk T K mg Pg) :
  ∀n,TabOk T (callF Pg n) (2*n) P w K mg base:=by
 intro n;induction n with
 |zero=>refine⟨hb,hc,fun fi x ps nd hf j hj=>?_,zcB Pg 0,hk.cls,fun c m fi h=>zj5 (zeF (hk.mth c m fi h)),fun c fi j h=>zj6 (zeF (hk.ini c fi j h)),fun x m fi h=>zj7 (zeF (hk.cmd x m fi h)),fun _=>hk.cln,hk.isa⟩;rcases hd fi x ps nd hf with z|z;obtain⟨F,qual,st,dV,f,fd,N,hP,hq,FV,S,ck,hp,hn,hm,hbd⟩:=z.ex;refine⟨f,fd,_,⟨fun vs H Q E h=>zcE hP hp h,fun A outer s H args us vs Q E hr e0 b v h=>?_⟩,hm,FV.kp,hbd j hj,Vals.nons j⟩;obtain⟨ι,S,ds,r,hh,w⟩:=h;exact w.elim;obtain⟨F,p,f,fd,hP,hq,hp,hm,kp,hbd,ok⟩:=z.ex;refine⟨f,fd,_,⟨fun vs H Q E h=>zcE hP hp h,fun A outer s H args us vs Q E hr e0 b v h=>?_⟩,hm,kp,hbd j hj,Vals.nons j⟩;obtain⟨ι,S,ds,r,hh,w⟩:=h;exact w.elim
 |succ n ih=>
  refine⟨hb,hc,fun fi x ps nd hf j hj=>?_,zcB Pg (n+1),hk.cls,fun c m fi h=>zj5 (zeG ih (hk.mth c m fi h)),fun c fi j h=>zj6 (zeG ih (hk.ini c fi j h)),fun x m fi h=>zj7 (zeG ih (hk.cmd x m fi h)),fun _=>hk.cln,hk.isa⟩;rcases hd fi x ps nd hf with z|z;obtain⟨F,qual,st,dV,f,fd,N,hP,hq,FV,S,ck,hp,hn,hm,hbd⟩:=z.ex;refine⟨f,fd,_,?_,hm,FV.kp,hbd j hj,Vals.nons j⟩;exact zkq ih FV hP S ck hp hn hq;obtain⟨F,p,f,fd,hP,hq,hp,hm,kp,hbd,ok⟩:=z.ex;refine⟨f,fd,_,?_,hm,kp,hbd j hj,Vals.nons j⟩;by_cases c:3<=n;exact(ok n c ih).mono (by omega)
  . refine⟨fun vs H Q E h=>zcE hP hp h,fun A outer s H args us vs Q E hr e0 b v h=>?_⟩;obtain⟨ι,S,ds,r,hh,w⟩:=h;cases p<;>(simp[callF,hP,hq]at w;split at w<;>exact w.elim)
def AllAtG{α:Type}(P:Nat->α->Prop):Nat->List α->Prop
 |_,[]=>True|k,a::r=>P k a/\AllAtG P (k+1) r
theorem zmW{P:Nat->α->Prop}:∀{l:List α}{k:Nat},AllAtG P k l->∀(i:Nat)(a:α),l[i]?=some a->P (k+i) a
 | [],_,_,i,a,h=>by simp at h|b::r,k,q,0,a,h=>by cases h;exact q.1| b::r,k,q,i+1,a,h=>by
  have:=zmW q.2 i a (by simpa using h)
  rwa [Nat.add_right_comm]at this
theorem AllAt.get{P:Nat->α->Prop}(q:AllAtG P 0 l)(i:Nat)(a:α)(h:l[i]?=some a):P i a:=zero_add i▸zmW q i a h
def AllInG{α:Type}(P:α->Prop):List α->Prop
 | []=>True|a::r=>P a/\AllInG P r
theorem AllIn.get[BEq α][LawfulBEq α]{P:α->Prop}:∀{l:List α},AllInG P l->∀a,l.contains a=true->P a
 | [],_,a,h=>by simp at h| b::r,q,a,h=>by rw[contains_cons,or_eq_true]at h;rcases h with h|h;rw[eq_of_beq h];exact q.1;exact AllIn.get q.2 a h
theorem law_spT{ns:List Int}(hx:FixL K H a (ns.map V.int))(tb:TB H)
  (law:W (callF Pg k fi [.fix (ns.map .int)] ⟨[],[],[]⟩) fun d _=>d=.bl true):spF K (callF Pg k) fi [.ref a] H (fun v _=>v=.bl true) fun _ _ _=>False:=by
 refine⟨[],⟨[],[],[]⟩,[.fix (ns.map .int)],⟨.ref a,[],rfl,⟨a,_,rfl,hx,RVs.ints ns⟩,rfl⟩,⟨rfl,List.nodup_nil,fun l o e=>(by simp[St.get]at e),tb⟩,?_⟩;obtain⟨d,T',e,q⟩:=zf0 law;rw[e];intro v H' ι' x r hT;subst q;exact r
end
noncomputable def okD(T:Tab)(F:Fn)(N ps:List Str)(st:Stmt):Bool:=
 decide ((zad st).kind=.function)&&(!(zad st).isCoroutine&&(!(zad st).isGenerator&&(decide N.Nodup&&(decide (N.take ps.length=ps)&&(ps.all (fun x=>decide ((zad st).names.lookup x=some .local)||decide ((zad st).names.lookup x=some .cell)) &&
  ((zad st).names.all (fun y=>decide (y.2≠.free))&&(chkS T F.body N (zad st) (zao st)&&(decide (F.np=ps.length)&&(decide (F.nn=N.length)&&(F.prim.isNone&&decide (N≠T.lam)))))))))))
structure OkD(T:Tab)(Pg:List Fn)(fi:Nat)(x q:Str)(ps:List Str)(st:Stmt):Prop where
 ex:∃(F:Fn) (N:List Str),Pg[fi]?=some F/\F.prim=none/\FnScope N ps (zad st)/\ChkD T F.body N (zad st) (zao st)/\F.np=ps.length/\F.nn=N.length
 bd:∀(kV doc pm:Value)(an:Option Addr)(cdv ct:Value)(us:List Value),us.length=ps.length->bindArgs (fnOf x q (zax st) (zao st) (zad st) .none kV doc pm an cdv ct) ⟨us,[]⟩=pure (ps.zip us)
theorem zap{st:Stmt}(N:List Str)(e:Pg[fi]?=some F)(h:okD T F N ps st=true)
  (b:∀(kV doc pm:Value)(an:Option Addr)(cdv ct:Value)(us:List Value),us.length=ps.length->bindArgs (fnOf x q (zax st) (zao st) (zad st) .none kV doc pm an cdv ct) ⟨us,[]⟩=pure (ps.zip us)):OkD T Pg fi x q ps st:=by
 simp only[okD,and_eq_true,not_eq_true',decide_eq_true_eq,all_eq_true,or_eq_true,Option.isNone_iff_eq_none]at h;obtain⟨h1,h2,h3,h4,h5,h6,h7,h8,h9,h10,h11,h12⟩:=h;exact⟨⟨F,N,e,h11,⟨h1,h2,h3,h4,h5,h6,h7⟩,⟨h8,h12⟩,h9,h10⟩,b⟩
theorem AllInG.cons(h:P a)(t:AllInG P r):AllInG P (a::r):=⟨h,t⟩
theorem AllAtG.cons(h:P k a)(t:AllAtG P (k+1) r):AllAtG P k (a::r):=⟨h,t⟩
theorem AllInG.mem:∀{l:List α},AllInG P l->∀a∈l,P a
 |b::r,q,a,h=>by rcases mem_cons.mp h with rfl|h;exact q.1;exact AllInG.mem q.2 a h
section
variable{P:Program}{w:World}{K:Frag}{h base:Heap}{mg:Str->Option Value}{T:Tab}{Pg:List Fn}{fi c:Nat}{x q m:Str}{ps:List Str}{st:Stmt}{f C:Addr}{oc kV dc pm cd ct:Value}{od an:Option Addr}{sl:Array (Option Value)}
theorem dOk(X:K.In h)(G:h.Ns mainGlobals mg)(o:OkD T Pg fi x x ps st)(a:nsIn K mainGlobals x=some (some (.ref f)))(l:K.lookup f=some ⟨oc,od,.func (fnOf x x (zax st) (zao st) (zad st) .none kV dc pm an cd ct),sl⟩)(c:codeIn K cd x=true)
  (k:keepIn K (.ref f)=true):DefOk K mg T Pg fi x ps 0\/PrimOk P w K mg base T Pg fi x ps 0:=by
 obtain⟨F,N,h1,h2,h3,h4,h5,h6⟩:=o.ex;have FV:=zdx l c k;exact .inl ⟨⟨F,x,st,_,f,_,N,h1,h2,FV,h3,h4,h5,h6,mg_of X G a,fun j hj=>(Nat.le_zero.mp hj).symm▸FV.binds o.bd⟩⟩
def ClAt(K:Frag)(mg:Str->Option Value)(T:Tab)(c:Nat)(x:Str):Prop:=∃C,Mks.cl[c]?=some C/\Cls K C/\mg x=some (.ref C)/\∀f,T.flds.contains f=true->NoAttr K C f
theorem clOk(X:K.In h)(G:h.Ns mainGlobals mg)(e:Mks.cl[c]?=some C)(a:nsIn K mainGlobals x=some (some (.ref C)))(pg:plainGet K C Str.empty=true)(hd:hasDictIn K C=true)(po:plainOver K C=true)
  (sa:findIn K (.ref C) "__setattr__"=some (some (.builtin "object.__setattr__"))) (n:AllInG (fun f=>findIn K (.ref C) f=some none) T.flds):ClAt K mg T c x:=
 ⟨C,e,⟨pg,hd,po,sa⟩,mg_of X G a,AllIn.get n⟩
theorem mOk0(o:OkD T Pg fi m q ps st)(l:K.lookup f=some ⟨oc,od,.func (fnOf m q (zax st) (zao st) (zad st) .none kV dc pm an cd ct),sl⟩)(cc:codeIn K cd q=true)(k:keepIn K (.ref f)=true)(e:Ex f):MOk K T Pg fi 0 Ex:=by obtain⟨F,N,h1,h2,h3,h4,h5,h6⟩:=o.ex;have FV:=zdx l cc k;exact⟨⟨F,m,q,st,_,f,_,N,ps,h1,h2,FV,h3,h4,h5,h6,FV.binds o.bd,e⟩⟩
theorem mOk(hc:AllAtG (ClAt K mg T) 0 T.cls)(o:OkD T Pg fi m q ps st)(e:Mks.cl[c]?=some C)(ex:T.cls[c]?=some x)(t:findIn K (.ref C) m=some (some (.ref f)))(l:K.lookup f=some ⟨oc,od,.func (fnOf m q (zax st) (zao st) (zad st) .none kV dc pm an cd ct),sl⟩)
  (cc:codeIn K cd q=true) (k:keepIn K (.ref f)=true) (i:isFn K (.ref f)=true):MOk K T Pg fi 0 (ExM K c m):=by
 obtain⟨C',e',h1,_⟩:=AllAt.get hc c x ex;exact mOk0 o l cc k ⟨C',e',h1,by rw[e]at e';cases e';exact⟨t,i,k⟩⟩
theorem iOk(o:OkD T Pg fi "__init__" q ps st)(e:Mks.cl[c]?=some C)(mk:makesIn K C=true)(t:findIn K (.ref C) "__init__"=some (some (.ref f)))(kc:keepIn K (.ref C)=true)(l:K.lookup f=some ⟨oc,od,.func (fnOf "__init__" q (zax st) (zao st) (zad st) .none kV dc pm an cd ct),sl⟩)
 (cc:codeIn K cd q=true) (k:keepIn K (.ref f)=true) (i:isFn K (.ref f)=true):MOk K T Pg fi 0 (ExI K c):=mOk0 o l cc k ⟨C,e,mk,t,i,kc⟩
theorem cOk(X:K.In h)(G:h.Ns mainGlobals mg)(o:OkD T Pg fi m q ps st)(a:nsIn K mainGlobals x=some (some (.ref C)))(g:specialIn K (.ref C) "__getattribute__"=some (some (.builtin "type.__getattribute__")))(r:readsIn K C (.type "type")=true)
  (t:findCls K (.ref C) (.type "type") m=some (.val (.ref f))) (l:K.lookup f=some ⟨oc,od,.func (fnOf m q (zax st) (zao st) (zad st) .none kV dc pm an cd ct),sl⟩) (cc:codeIn K cd q=true) (k:keepIn K (.ref f)=true):MOk K T Pg fi 0 (ExC K mg x m):=
 mOk0 o l cc k ⟨C,_,mg_of X G a,g,r,t⟩
def IsAt(K:Frag)(mg:Str->Option Value)(z:Str×List Nat):Prop:=∃D,mg z.1=some (.ref D)/\∀c C,Mks.cl[c]?=some C->IsaOk K C/\kitOne K (.ref C) (.ref D)=some (z.2.contains c)
def CoAt(K:Frag)(z:Str×D):Prop:=∃i t,z.2=.int i/\nsIn K mainGlobals z.1=some (some (.int i t))
theorem coOk(a:nsIn K mainGlobals x=some (some (.int i t))):CoAt K (x,.int i):=⟨i,t,rfl,a⟩
end
noncomputable def okL(T:Tab)(F:Fn)(ps:List Str)(st:Stmt):Bool:=
 decide ((zad st).kind=.function)&&(!(zad st).isCoroutine&&(!(zad st).isGenerator&&(decide T.lam.Nodup&&(decide (T.lam.take ps.length=ps)&&(ps.all (fun x=>decide ((zad st).names.lookup x=some .local)||decide ((zad st).names.lookup x=some .cell)) &&
  ((zad st).names.all (fun y=>decide (y.2≠.free))&&(chkS T F.body T.lam (zad st) (zao st)&&(decide (F.np=ps.length)&&decide (F.nn=T.lam.length)))))))))
structure OkL(T:Tab)(Pg:List Fn)(fi:Nat)(x:Str)(ps:List Str)(nd:Nat)(st:Stmt):Prop where
 ex:∃F:Fn,Pg[fi]?=some F/\F.prim=some .lam/\FnScope T.lam ps (zad st)/\chkS T F.body T.lam (zad st) (zao st)=true/\F.np=ps.length/\F.nn=T.lam.length
theorem zqG{st:Stmt}(e:Pg[fi]?=some F)(hp:F.prim=some .lam)(h:okL T F ps st=true):OkL T Pg fi x ps nd st:=by simp only[okL,and_eq_true,not_eq_true',decide_eq_true_eq,all_eq_true,or_eq_true]at h;obtain⟨h1,h2,h3,h4,h5,h6,h7,h8,h9,h10⟩:=h;exact⟨F,e,hp,⟨h1,h2,h3,h4,h5,h6,h7⟩,h8,h9,h10⟩
theorem zqT{K:Frag}{st:Stmt}{dV kV doc pm ct:Value}
  (lk:K.lookup f=some ⟨oc,od,.func (fnOf x qual (zax st) (zao st) (zad st) dV kV doc pm an (.ref c) ct),osl⟩) (hcd:codeIn K (.ref c) qual=true) (hC:codeHdIn K c T.lamP=true) (bm:BM mg base)
  (mem:(T.lamP,qual ++ ".<locals>." ++ "<lambda>")∈Mks.ts) (one:∀p∈Mks.ts,p.1=T.lamP->p.2=qual ++ ".<locals>." ++ "<lambda>") (S:FnScope T.lam ps (zad st)) (ck:chkS T F.body T.lam (zad st) (zao st)=true) (hP:Pg[fi]?=some F) (hq:F.prim=some .lam) (hp:F.np=ps.length) (hn:F.nn=T.lam.length)
  (h3:3<=n) (hm:3<=m) (tab:TabOk T (callF Pg n) m P w K mg base) :
  FnOk P w K mg base CX0 (m+2) f (fnOf x qual (zax st) (zao st) (zad st) dV kV doc pm an (.ref c) ct) ps (spF K (callF Pg (n+1)) fi):=by
 refine zrb lk hcd S (fun vs H Q E h=>zcE hP hp h) fun A outer s H vs Q E hr h=>?_;obtain⟨ι,S0,ds,r,hh,hw⟩:=h;have G:Gd T (callF Pg n) m T.lam (zad st) (cxOf CX0 P w K mg base T.lam qual (zad st) f (.ref c) A outer s H E).nox:=⟨rfl,S.nd,fun x e=>e,fun x e=>e,fun x e=>.inl e,fun x e=>e,.inl fun _=>rfl,rfl,rfl,hr,tab,fun _=>⟨hm,c,⟨bm,rfl,hC,mem,one⟩⟩⟩;refine⟨_,(za1 F.body G ck).nox,?_⟩;simp[callF,hP,hq]at hw;split at hw;rename_i c;rw[zaa]at hw;refine⟨zaE F ds,ι,S0,_,RS.start r c hn,hh,hw,?_⟩;intro fl ι' H' S' x' hh' q;cases fl with|nx δ'=>exact fun σ' hs'=>q .non H' ι' x' rfl hh'|rt d=>exact fun v rv=>q v H' ι' x' rv hh'
 exact hw.elim
theorem lOk{K:Frag}{st:Stmt}{oc dV kV doc pm ct:Value}(X:K.In h)(G:h.Ns mainGlobals mg)(bm:BM mg base)(o:OkL T Pg fi x ps nd st)
  (mem:(T.lamP,x ++ ".<locals>." ++ "<lambda>")∈Mks.ts) (one:∀p∈Mks.ts,p.1=T.lamP->p.2=x ++ ".<locals>." ++ "<lambda>")
  (bd:∀j,j<=nd->Binds K (fnOf x x (zax st) (zao st) (zad st) dV kV doc pm an (.ref c) ct) ps (List.replicate j Value.none))
  (a:nsIn K mainGlobals x=some (some (.ref f))) (l:K.lookup f=some ⟨oc,od,.func (fnOf x x (zax st) (zao st) (zad st) dV kV doc pm an (.ref c) ct),sl⟩) (cc:codeIn K (.ref c) x=true)
  (k:keepIn K (.ref f)=true) (e:codeHdIn K c T.lamP=true):DefOk K mg T Pg fi x ps nd\/PrimOk P w K mg base T Pg fi x ps nd:=by
 obtain⟨F,h1,h2,h3,h4,h5,h6⟩:=o.ex;exact .inr ⟨⟨F,.lam,f,_,h1,h2,h5,mg_of X G a,k,bd,fun n hn tab=>zqT l cc e bm mem one h3 h4 h1 h2 h5 h6 hn (by omega) tab⟩⟩
structure OkE(T:Tab)(Pg:List Fn)(fi:Nat)(ps:List Str)(st:Stmt):Prop where
 ex:∃(F:Fn) (N:List Str),Pg[fi]?=some F/\F.prim=none/\FnScope N ps (zad st)/\ChkD T F.body N (zad st) (zao st)/\F.np=ps.length/\F.nn=N.length
theorem zqH{st:Stmt}(N:List Str)(e:Pg[fi]?=some F)(h:okD T F N ps st=true):OkE T Pg fi ps st:=by simp only[okD,and_eq_true,not_eq_true',decide_eq_true_eq,all_eq_true,or_eq_true,Option.isNone_iff_eq_none]at h;obtain⟨h1,h2,h3,h4,h5,h6,h7,h8,h9,h10,h11,h12⟩:=h;exact⟨F,N,e,h11,⟨h1,h2,h3,h4,h5,h6,h7⟩,⟨h8,h12⟩,h9,h10⟩
theorem iOkD{K:Frag}{st:Stmt}{oc kV dc pm cd ct xc:Value}(o:OkE T Pg fi ps st)(hn:ps.length=n+j)
  (h:∀(d:Addr)(kV doc pm:Value)(an:Option Addr)(cdv ct:Value)(us:List Value),us.length=n->∃k,bindArgs (fnOf "__init__" q (zax st) (zao st) (zad st) (.ref d) kV doc pm an cdv ct) ⟨us,[]⟩=seqItems? (.ref d)>>=k/\k (some items)=pure (ps.zip (us++List.replicate j Value.none)))
  (e:Mks.cl[c]?=some C) (mk:makesIn K C=true) (t:findIn K (.ref C) "__init__"=some (some (.ref f))) (kc:keepIn K (.ref C)=true) (l:K.lookup f=some ⟨oc,od,.func (fnOf "__init__" q (zax st) (zao st) (zad st) (.ref d) kV dc pm an cd ct),sl⟩)
  (cc:codeIn K cd q=true) (k:keepIn K (.ref f)=true) (i:isFn K (.ref f)=true) (ed:K.lookup d=some ⟨xc,xd,.seq items xn,xs⟩):MOk K T Pg fi j (ExI K c):=by
 obtain⟨F,N,h1,h2,h3,h4,h5,h6⟩:=o.ex;have FV:=zdx l cc k;exact⟨⟨F,"__init__",q,st,_,f,_,N,ps,h1,h2,FV,h3,h4,h5,h6,zmT n (by rw[length_replicate];exact hn) FV ed (h d),C,e,mk,t,i,kc⟩⟩
theorem lOkD{K:Frag}{st:Stmt}{oc kV doc pm ct xc:Value}(X:K.In h)(G:h.Ns mainGlobals mg)(bm:BM mg base)(o:OkL T Pg fi x ps nd st)
  (mem:(T.lamP,x ++ ".<locals>." ++ "<lambda>")∈Mks.ts) (one:∀p∈Mks.ts,p.1=T.lamP->p.2=x ++ ".<locals>." ++ "<lambda>")
  (hb:∀j,j<=nd->∃n,ps.length=n+j/\∀(d:Addr)(kV doc pm:Value)(an:Option Addr)(cdv ct:Value)(us:List Value),us.length=n->∃k,bindArgs (fnOf x x (zax st) (zao st) (zad st) (.ref d) kV doc pm an cdv ct) ⟨us,[]⟩=seqItems? (.ref d)>>=k/\k (some items)=pure (ps.zip (us++List.replicate j Value.none)))
  (a:nsIn K mainGlobals x=some (some (.ref f))) (l:K.lookup f=some ⟨oc,od,.func (fnOf x x (zax st) (zao st) (zad st) (.ref d) kV doc pm an (.ref c) ct),sl⟩) (cc:codeIn K (.ref c) x=true)
  (k:keepIn K (.ref f)=true) (e:codeHdIn K c T.lamP=true) (ed:K.lookup d=some ⟨xc,xd,.seq items xn,xs⟩):DefOk K mg T Pg fi x ps nd\/PrimOk P w K mg base T Pg fi x ps nd:=
 lOk X G bm o mem one (fun j hj=>by obtain⟨n,hn,q⟩:=hb j hj;exact zmT n (by rw[length_replicate];exact hn) (zdx l cc k) ed (q d)) a l cc k e
theorem all_of{l:PySem.W.OpenLaw}{K:Frag}{st:Stmt}{oc kV dc pm cd ct:Value}(X:K.In h)(G:h.Ns mainGlobals mg)(hfa:mg "law"=some (.ref fa))
  (o:OkD T Pg fi "law" "law" [sn] st) (ln:Mks.cl.length<=T.cls.length) (hcl:AllAtG (ClAt K mg T) 0 T.cls) (hb:AllInG (fun x=>nsIn K mainGlobals x=some none) T.blt) (hc:AllInG (CoAt K) T.cons)
  (hd:∀base:Heap,BM mg base->AllAtG (fun fi q=>DefOk K mg T Pg fi q.1 q.2.1 q.2.2\/PrimOk l.prog w K mg base T Pg fi q.1 q.2.1 q.2.2) 0 T.fns)
  (hm:AllAtG (ClAt K mg T) 0 T.cls->AllInG (fun q=>MOk K T Pg q.2.2 0 (ExM K q.1 q.2.1)) T.mts) (hi:AllInG (fun q=>MOk K T Pg q.2.1 q.2.2 (ExI K q.1)) T.inits) (hx:AllInG (fun q=>MOk K T Pg q.2.2 0 (ExC K mg q.1 q.2.1)) T.cms) (hs:AllInG (IsAt K mg) T.isas)
  (a:nsIn K mainGlobals "law"=some (some (.ref f))) (l0:K.lookup f=some ⟨oc,od,.func (fnOf "law" "law" (zax st) (zao st) (zad st) .none kV dc pm an cd ct),sl⟩) (c:codeIn K cd "law"=true) (k:keepIn K (.ref f)=true) :
  ∃fd:FuncData,(∀(s:Shared)(v:Value),BindsTo s fd ⟨[v],[]⟩ [(sn,v)])/\∀base:Heap,K.In base->base.Ns mainGlobals mg->BM mg base->FnOk l.prog w K mg base CX0 (2*n+2) fa fd [sn] (spF K (callF Pg (n+1)) fi):=by
 have e:=hfa.symm.trans (mg_of X G a);cases e;obtain⟨F,N,h1,h2,h3,h4,h5,h6⟩:=o.ex;refine⟨fnOf "law" "law" (zax st) (zao st) (zad st) .none kV dc pm an cd ct,fun s v=>.of_eq (o.bd _ _ _ _ _ _ [v] rfl),fun base _ _ bm=>?_⟩;refine zkq (zpo (fun x hx=>PySem.W.mg_none_of X G (AllIn.get hb x hx)) (fun x d hx=>?_) (fun fi x ps nd hf=>AllAt.get (hd base bm) fi _ hf)
  ⟨AllAt.get hcl,fun c m fi hx=>AllIn.get (hm hcl) (c,m,fi) hx,fun c fi j hx=>AllIn.get hi (c,fi,j) hx,fun x m fi h=>AllIn.get hx (x,m,fi) h,ln,fun x cs hx=>AllIn.get hs (x,cs) hx⟩ n) (zdx l0 c k) h1 h3 h4 h5 h6 h2
 obtain⟨i,t,e,q⟩:=hc.mem (x,d) (PySem.mem_of_lookup hx);cases e;exact⟨rfl,_,mg_of X G q,⟨_,rfl⟩⟩
noncomputable def H0(K:Frag)(a:Addr)(o:Obj)(xs:List V):Hp:=fun b=>if b∈Mks.ts.map (·.1) then some (.tbl #[]) else if b=a then(match K.lookup a with|some _=>none|none=>some (.frz o (.lst xs))) else none
theorem zjM{K:Frag}
  (KX:K.In s₁.heap) (hns:s₁.heap.Ns mainGlobals mg) (hb:s₁.heap.Ns builtinsNs mb) (hbb:∀x:Str,x≠"__name__"->mb x=bootBuiltins x) (hlim:s₁.heap.NoLimit) (hg:s₁.gens = #[]) (bm:BM mg s₁.heap)
  (ha:s₁.heap.get? a=some {cls:=.type "list",data:=.seq vs.toArray}) (hi:IntsAre vs ns) (hl:ns.length<=sizeLine) (hr:Room k callerA)
  (tabs:∀p∈Mks.ts,s₁.heap.get? p.1=some (tabObj #[])/\K.lookup p.1=none/\isCodeTable s₁.heap p.1)
  (F:∀base:Heap,K.In base->base.Ns mainGlobals mg->BM mg base->FnOk P w K mg base CX0 k fa fd [x] sp) (hbind:∀(s:Shared)(u:Value),BindsTo s fd ⟨[u],[]⟩ [(x,u)])
  (hsp:∀H:Hp,FixL K H a (ns.map V.int)->TB H->sp [.ref a] H (fun v _=>v=.bl true) fun _ _ _=>False) :
  codeAny (model P w) callerA (.call (.ref fa) ⟨[.ref a],[]⟩) (fun r s'=>r=.ok (.ret (.bool true))/\OldK s₁.heap s'.heap/\s'.os=s₁.os/\AllBare s'.gens) s₁:=by
 have rv:=zbo hi;have lenV:=hi.length;generalize hH:H0 K a {cls:=.type "list",data:=.seq vs.toArray} (ns.map V.int)=H;have cs:∀b,H b=none\/((∃p∈Mks.ts,p.1=b)/\H b=some (.tbl #[]))\/(b=a/\K.lookup a=none/\H b=some (.frz {cls:=.type "list",data:=.seq vs.toArray} (.lst (ns.map V.int)))):=fun b=>by
  rw[<-hH];unfold H0;by_cases h1:b∈Mks.ts.map (·.1);obtain⟨p,hp,e⟩:=mem_map.mp h1;exact .inr (.inl ⟨⟨p,hp,e⟩,if_pos h1⟩);rw[if_neg h1];by_cases h2:b=a;rw[if_pos h2];cases e:K.lookup a with|some o=>exact .inl rfl|none=>exact .inr (.inr ⟨h2,rfl,rfl⟩)
  rw[if_neg h2];exact .inl rfl
 have tb:TB H:=fun p hp=>⟨#[],by rw[<-hH];unfold H0;exact if_pos (mem_map.mpr ⟨p,hp,rfl⟩),trivial,fun pos v e=>by simp[codeAmong]at e⟩;have na:a∉Mks.ts.map (·.1):=fun z=>by obtain⟨p,hp,e⟩:=mem_map.mp z;have:=(tabs p hp).1;rw[e,ha]at this;cases this
 have hx:FixL K H a (ns.map V.int):=by cases e:K.lookup a with| some o=>have e':=KX a o e;rw[ha]at e';cases e';exact .inr ⟨_,vs.toArray,_,e,rfl,rfl,rfl,by rw[size_toArray,lenV];exact hl,by simpa using rv⟩| none=>refine .inl ⟨{cls:=.type "list",data:=.seq vs.toArray},?_⟩;rw[<-hH];unfold H0;rw[if_neg na,if_pos rfl,e]
 have hok:HOk P w H s₁.heap:=fun b u e=>by rcases cs b with z|⟨⟨p,hp,rfl⟩,z⟩|⟨rfl,_,z⟩;rw[z]at e;cases e;rw[z]at e;cases e;exact(tabs p hp).1;rw[z]at e;cases e;exact⟨ha,by rw[length_map];exact hl,vs,_,rv,ha⟩
 have noD:∀{b:Addr}{o:Obj},s₁.heap.get? b=some o->(∀xs n,o.data≠.seq xs n)->(∀fs,o.data≠.fields fs)->H b=none:=fun {b o} e n1 n2=>by rcases cs b with z|⟨⟨p,hp,rfl⟩,_⟩|⟨rfl,_,_⟩;exact z;rw[(tabs p hp).1]at e;cases e;exact absurd rfl (n2 _);rw[ha]at e;cases e;exact absurd rfl (n1 _ _)
 have base_of:∀{b:Addr}{o:Obj},s₁.heap.get? b=some o->H b=none->(hidT s₁.heap H).get? b=some o:=fun e n=>zl8 e n;have nsK:∀{b:Addr}{m:Str->Option Value},s₁.heap.Ns b m->(hidT s₁.heap H).Ns b m:=fun {b m} ⟨o,es,ep,e,d,r⟩=>⟨o,es,ep,base_of e (noD e (fun _ _ z=>by rw[d]at z;cases z) fun _ z=>by rw[d]at z;cases z),d,r⟩;have hKb:K.In (hidT s₁.heap H):=fun b o e=>base_of (KX b o e) (by
  rcases cs b with z|⟨⟨p,hp,rfl⟩,_⟩|⟨rfl,z,_⟩;exact z;rw[(tabs p hp).2.1]at e;cases e;rw[z]at e;cases e)
 have hbm:BM mg (hidT s₁.heap H):=by obtain⟨m,o,h1,h2,h3,h4,h5,h6,h7⟩:=bm;exact⟨m,o,h1,h2,h3,base_of h4 (noD h4 (fun _ _ z=>by rw[h7]at z;cases z) fun _ z=>by rw[h7]at z;cases z),h5,h6,h7⟩
 have hM:Mod K mg (hidT s₁.heap H):=⟨hKb,nsK hns,⟨mb,nsK hb,hbb⟩,let ⟨mc,h1,h2⟩:=hlim;⟨mc,nsK h1,h2⟩⟩;have e0:Env0 P w K mg (hidT s₁.heap H) callerA [] s₁ H:=⟨rfl,hM,fun b o e=>zog e,le_of_eq (zj4 _ _),trivial,fun b hb=>absurd (show b∈([]:List Addr) from hb) (by simp),hok,.of_eq hg⟩;refine codeAny_mono ((F _ hKb (nsK hns) hbm).run callerA [] s₁ H ⟨[.ref a],[]⟩ [.ref a] [.ref a] _ _ hr e0 (hbind s₁ (.ref a)) (.cons rfl .nil) (hsp H hx tb)) fun r s' h=>?_;cases r with
 |error e=>exact False.elim h| ok fl=>
  cases fl with
  |ret u=>
   obtain⟨v,H',os,bare,un,hok',r',q⟩:=h;have q':v=.bl true:=q;subst q';obtain rfl:u=Value.bool true:=r';have old:∀b o,s₁.heap.get? b=some o->asItWas s₁.heap s'.heap b o/\∃o',s'.heap.get? b=some o':=fun b o e=>by rcases cs b with z|⟨⟨p,hp,rfl⟩,z⟩|⟨rfl,_,z⟩;have k:=un.keep b o e z (by intro y;exact absurd (show b∈([]:List Addr) from y) (by simp)) (by simp);exact⟨.inl k,_,k⟩;obtain⟨more,z2⟩:=un.tbls _ _ z;have k:s'.heap.get? p.1=some (tabObj (#[]++more)):=hok' _ _ z2;have e':=(tabs p hp).1;rw[e']at e;cases e;exact⟨.inr (.inl ⟨(tabs p hp).2.2,rfl,#[],more,rfl,k⟩),_,k⟩;have z2:=un.frzs _ _ _ z;have k:=(hok' _ _ z2).1;rw[ha]at e;cases e;exact⟨.inl k,_,k⟩
   exact⟨rfl,⟨fun b o e=>(old b o e).1,fun b o e=>(old b o e).2⟩,os,bare⟩
  |_=>exact False.elim h
theorem walk_ofT{l:PySem.W.OpenLaw}{YP:World->Heap->Prop}{K:Params->Frag}{sp:World->Sp}
  (hn:l.most=some n) (hn2:n<=sizeLine) (hdf:d.params.defaults=[]) (hr:Room k callerA)
  (hY:∀(w:World)(h:Heap),YP w h->(K w.params).In h) (hT:∀(w:World)(h:Heap),YP w h->∀p∈Mks.ts,h.get? p.1=some (tabObj #[]))
  (hK:∀(w:World),∀p∈Mks.ts,(K w.params).lookup p.1=none/\∃c,codeHdIn (K w.params) c p.1=true)
  (F:∀(w:World)(mg:Str->Option Value)(fa:Addr)(h:Heap),(K w.params).In h->h.Ns mainGlobals mg->mg d.name=some (.ref fa)->
   ∃fd:FuncData,(∀(s:Shared)(u:Value),BindsTo s fd ⟨[u],[]⟩ [(x,u)])/\
    ∀base:Heap,(K w.params).In base->base.Ns mainGlobals mg->BM mg base->FnOk l.prog w (K w.params) mg base CX0 k fa fd [x] (sp w))
  (hsp:∀(w:World)(H:Hp)(a:Addr)(ns:List Int),ns.length<=n->FixL (K w.params) H a (ns.map V.int)->TB H->sp w [.ref a] H (fun v _=>v=.bl true) fun _ _ _=>False) :
  PySem.W.WalkO q loose XP YP l.row.toRowW d [] (fun f vs=>PySem.call f vs):=by
 refine Att.attach_call hn hdf fun w s₀ s₁ mg mb fa o pm cd doc a vs ns G Y ho hd hcd hmg hobj hints hlen hg=>?_;have KX:=hY w _ Y;obtain⟨fd,hb,hF⟩:=F w mg fa _ KX G.T.g hmg;obtain⟨bm,ob,b1,b2,b3,b4,b5,b6⟩:=G.T.bmain;have hbG:bm≠mainGlobals:=fun z=>by obtain⟨o,es,ep,e,hd,_⟩:=G.T.g;rw[z,e]at b3;cases b3;rw[hd]at b6;cases b6
 refine zjM KX G.T.g G.T.b G.T.builtins G.T.nolimit hg ⟨bm,ob,b1,b2,hbG,b3,b4,b5,b6⟩ hobj hints (le_trans hlen hn2) hr (fun p hp=>?_) hF hb fun H hx tb=>hsp w H a ns hlen hx tb;obtain⟨k1,c,k2⟩:=hK w p hp;have e:=hT w _ Y p hp;exact⟨e,k1,((PySem.W.codeHd_of_K KX k2).tab e).isCodeTable⟩
end R
namespace R
open PySem (PyData)
theorem zeJ{α β:Type}{f:α->Option β}:∀{xs:List α}{ys:List β},xs.mapM f=some ys->∀y∈ys,∃x∈xs,f x=some y
 | [],ys,h,y,hy=>by simp at h;subst h;cases hy
 |x::xs,ys,h,y,hy=>by
  rw[mapM_cons]at h;cases e:f x with
  |none=>rw[e]at h;cases h
  |some z=>
   rw[e]at h;cases e2:xs.mapM f with
   |none=>rw[e2]at h;cases h
   |some zs=>rw[e2]at h;injection h with h;subst h;rcases mem_cons.mp hy with rfl|hy;exact⟨x,by simp,e⟩;obtain⟨u,hu,eu⟩:=zeJ e2 y hy;exact⟨u,by simp[hu],eu⟩
theorem zch:∀{xs:List PyData},(∀x∈xs,PyData.eqv x x=true)->PyData.eqvAll xs xs=true
 | [],_=>by simp[PyData.eqvAll]|x::xs,h=>by simp[PyData.eqvAll,h x (by simp),zch (xs:=xs) fun y hy=>h y (by simp[hy])]
theorem zob:∀{n:Nat}{d:D}{a:PyData},pd S n d=some a->PyData.eqv a a=true:=by
 intro n;induction n with
 |zero=>
  intro d a h;cases d<;>simp only[pd]at h
  cases h;simp[PyData.eqv];cases h;simp[PyData.eqv];cases h;simp[PyData.eqv];split at h;cases h;simp[PyData.eqv];cases h;cases h;cases h;cases h
 |succ n ih=>
  intro d a h;cases d<;>simp only[pd]at h
  cases h;simp[PyData.eqv];cases h;simp[PyData.eqv];cases h;simp[PyData.eqv];split at h;cases h;simp[PyData.eqv];cases h;rename_i ds;cases e:ds.mapM (pd S n) with
  |none=>rw[e]at h;cases h
  |some xs=>rw[e]at h;cases h;exact zch fun x hx=>let ⟨d,_,hd⟩:=zeJ e x hx;ih hd
  split at h;rename_i ds _;cases e:ds.mapM (pd S n) with
  |none=>rw[e]at h;cases h
  |some xs=>rw[e]at h;cases h;exact zch fun x hx=>let ⟨d,_,hd⟩:=zeJ e x hx;ih hd
  cases h;cases h
theorem zrh(h1:pd S 60 x=some a)(h2:pd S 60 y=some a):eqD S x y=some true:=by unfold eqD;rw[h1,h2];exact congrArg some (zob h1)
theorem zgm(h:S.get l=some (.lst ds))(e:ds.mapM (pd S n)=some xs):pd S (n+1) (.ref l)=some (.list xs):=by simp only[pd,h,e];rfl
theorem zcu(S:St)(o:MO):(S.push o).get S.len=some o:=by unfold St.get St.push;unfold St.len;simp
theorem zaf{S:St}(e:S.get l=some u):(S.push o).get l=some u:=by have h:=zai e;unfold St.len at h;unfold St.get at e⊢;unfold St.push;simp only;split;rename_i c;rw[if_pos c]at e;exact e;rename_i c;rw[if_neg c]at e;rw[getElem?_append_left (by omega)];exact e
theorem zoQ(f:α->β)(xs:List α)(lo hi:Option Int):cut (xs.map f) lo hi=(cut xs lo hi).map f:=by unfold cut;rw[length_map,List.map_take,List.map_drop]
theorem zrm(xs:List α)(lo hi:Option Int):(cut xs lo hi).length<=xs.length:=by unfold cut;rw[length_take,List.length_drop];omega
theorem zc5{S:St}(o:MO)(h1:S.frz.length<=l)(h2:S.lk.contains l=false):∃S',S.put l o=some S'/\S'.frz=S.frz/\S'.lk=S.lk/\S'.len=S.len/\(∀m,m≠l->S'.get m=S.get m)/\(l<S.len->S'.get l=some o):=by refine⟨{S with new:=S.new.set (l-S.frz.length) o},?_,rfl,rfl,by simp[St.len],fun m hm=>?_,fun hl=>?_⟩;unfold St.put;rw[if_neg (by omega),h2];rfl;unfold St.get;simp only;split;rfl;rw[getElem?_set_ne (by omega)];unfold St.len at hl;unfold St.get;simp[show ¬l<S.frz.length by omega,if_false];rw[getElem?_set_self (by omega)]
theorem zoM(S:St)(i j:Int):eqD S (.int i) (.int j)=some (i==j):=rfl
theorem zhj(S:St)(x:Int):∀ks:List Int,inD S (.int x) (ks.map .int)=some (decide (x∈ks)):=by
 intro ks;have e:(ks.map D.int).mapM (fun z=>eqD S z (.int x))=some (ks.map fun k=>k==x):=by induction ks with|nil=>rfl|cons k ks ih=>rw[map_cons,mapM_cons,zoM,ih];rfl
 have f:∀ks:List Int,((ks.map fun k=>k==x).any id)=decide (x∈ks):=by intro ks;induction ks with|nil=>rfl| cons k ks ih=>rw[map_cons,any_cons,ih];by_cases c:k=x;subst c;simp;have c':¬x=k:=fun z=>c z.symm;have b:(k==x)=false:=beq_eq_false_iff_ne.mpr c;simp[b,id,Bool.false_or,mem_cons,c',false_or]
 unfold inD;rw[e];exact congrArg some (f ks)
theorem zmN{ks:List Int}(h:S.get l=some (.lst (ks.map .int)))(x:Int):cmpO S .In (.int x) (.ref l)=some (decide (x∈ks)):=by show((match S.get l with|some (.lst ds)=>some ds|_=>none).bind fun ys=>inD S (.int x) ys)=_;rw[h];exact zhj S x ks
theorem zjs{ks:List Int}(h:S.get l=some (.lst (ks.map .int)))(x:Int):cmpO S .NotIn (.int x) (.ref l)=some (!decide (x∈ks)):=by show(cmpO S .In (.int x) (.ref l)).map (!·)=_;rw[zmN h];rfl
theorem zhB(xs:List α)(x:α):R.atI (xs++[x]) (-1)=some x:=by
 have:R.ixN (xs++[x]).length (-1)=some xs.length:=by unfold R.ixN;simp;omega
 unfold R.atI;rw[this];simp
theorem zc9{α:Type}{os:List α}{o:α}(h:os[i]?=some o):os.take (i+1)=os.take i++[o]:=by rw[List.take_add_one,h];rfl
theorem zci{k:Nat}(h:xs[k]?=some x):R.atI xs (k:Int)=some x:=by
 have hl:=(List.getElem?_eq_some_iff.mp h).1;have e:R.ixN xs.length (k:Int)=some k:=by simp[R.ixN,hl]
 unfold R.atI;rw[e];exact h
noncomputable def zbH(ns:List Int)(k:Nat):Int:=match ns[k]? with|some v=>v%10^64|none=>0
theorem zdv:∀ks:List Int,zb9 (ks.map D.int)=some ks
 | []=>rfl| k::ks=>by unfold zb9;rw[map_cons,mapM_cons,show(ks.map D.int).mapM zbG=some ks from zdv ks];rfl
end R
namespace R
noncomputable def hnds(n:Nat):List Int:=(List.range n).map fun(k:Nat)=>(k:Int)
theorem zic(n:Nat):(hnds n).Nodup:=by unfold hnds List.Nodup;rw[pairwise_map];exact Pairwise.imp (fun {a b} h e=>h (by exact_mod_cast e)) List.nodup_range
end R
section
namespace Kz
local macro_rules|`(#[$x])=>`(.cons $x .nil)|`(#[$x,$y,*])=>`(.cons $x #[$y,*])
local macro_rules|`($x:ident)=>let s:=x.getId.toString;let n:=Lean.Syntax.mkNumLit (s.drop 1).toString;if s.length<2||!(s.drop 1).all Char.isDigit then Lean.Macro.throwUnsupported else if s.front=='Y' then `(.loc $n) else if s.front=='Z' then `(.con (.int $n)) else Lean.Macro.throwUnsupported
local macro_rules | `(tactic| exists $e)=>`(tactic| refine R.wOpt_of $e ?_)
local macro_rules | `(tactic| change $e)=>`(tactic| refine R.wNeed_of $e ?_)
local macro_rules | `(tactic| specialize $e)=>`(tactic| refine R.wOut_of $e ?_)
local macro_rules | `(tactic| left)=>`(tactic| conv=>whnf)
section
open PySem R L2
noncomputable def zro:Fn:=⟨1,1,
 .stop,none⟩
noncomputable def zio:Fn:=⟨1,1,(.ret (.and (.bi (.isin "int") #[Y0]) (.nt (.bi (.isin "bool") #[Y0]))) .nil),none⟩
noncomputable def zkL:Fn:=⟨2,2,(.ret (.and (.call 1 0 #[Y0]) (.cmp2 .LtE .Lt Z0 Y0 Y1)) .nil),none⟩
noncomputable def zkJ:Fn:=⟨1,1,(.ret (.and (.call 1 0 #[Y0]) (.cmp .Lt (.bi .abs #[Y0]) (.bin .Pow Z10 Z60))) .nil),none⟩
noncomputable def zir:Fn:=⟨3,3,(.ifS (.or (.nt (.tst (.call 1 0 #[Y0]))) (.nt (.cmp2 .LtE .LtE Y1 Y0 Y2)))
 .stop .nil (.ret Y0 .nil)),none⟩
noncomputable def zkN:Fn:=⟨2,2,(.ifS (.nt (.tst (.call 2 0 #[Y0,Y1])))
 .stop .nil (.ret Y0 .nil)),none⟩
noncomputable def zkF:Fn:=⟨1,1,(.ifS (.nt (.tst (.call 3 0 #[Y0])))
 .stop .nil (.ret Y0 .nil)),none⟩
noncomputable def zrp:Fn:=⟨3,6,(.asg 3 (.lst .nil) (.forS [4] (.rng2 Z1 (.bin .Add Y1 Z1)) (.asg 5 (.srtK (.call 8 0 #[Y4,Y0,Y2])) (.expr (.callW 9 0 #[Y4,Y0,Y5]) (.expr (.extv Y3 Y5) .nil))) (.ret Y3 .nil))),some .lam⟩
noncomputable def c_said_in:Fn:=⟨3,9,(.asg 3 (.lst .nil) (.forS [4,5] (.enum Y1) (.forS [6,7,8] (.val (.meth "say" [(0,34),(1,38)] Y5 #[Y0])) (.expr (.mt .append Y3 #[.tup #[Y0,Y6,.ite (.cmp .Is Y2 (.con D.non)) Y7 (.ix (.ix Y2 Y4) Y7),Y8]]) .nil) .nil) (.ret Y3 .nil))),none⟩
noncomputable def c_deliver:Fn:=⟨3,7,(.asg 3 .dnew (.forS [4] (.val Y2) (.expr (.mt .append (.dsetI Y3 (.ix Y4 Z2) (.lst .nil)) #[.tup #[.ix Y4 Z1,.ix Y4 Z3]]) .nil) (.forS [5,6] (.enum Y1) (.expr (.meth "hear" [(0,30),(1,36)] Y6 #[Y0,.dgetI Y3 Y5 (.lst .nil)]) .nil) .nil))),none⟩
noncomputable def zkK:Fn:=⟨1,1,(.ret (.and (.call 1 0 #[Y0]) (.cmp2 .LtE .LtE Z1 Y0 Z30)) .nil),none⟩
noncomputable def zgC:Fn:=⟨2,2,(.ret (.ite (.cmp .Is Y0 (.con D.non)) (.bin .Add Y1 Z1) (.call 4 0 #[Y0,Z1,Z8])) .nil),none⟩
noncomputable def zfU:Fn:=⟨2,5,(.asg 2 (.lst .nil) (.forS [3,4] (.enum Y1) (.ifS (.or (.nt (.tst (.call 13 0 #[Y4,Y0]))) (.cmp .In (.ix Y4 Z0) (.mkL (.comp 1 [] [0] (.val Y2) (.tst (.con (D.bl true))) (.ix Y0 Z0)))))
 .stop .nil (.expr (.mt .append Y2 #[Y4]) .nil)) (.ret Y2 .nil))),none⟩
noncomputable def ziq:Fn:=⟨2,2,(.ifS (.or (.nt (.tst (.bi (.isin "tuple") #[Y0]))) (.cmp .NotEq (.bi .len #[Y0]) Z3)) (.ret (.con (D.bl false)) .nil) .nil (.ifS (.or (.nt (.tst (.call 2 0 #[.ix Y0 Z0,Y1]))) (.nt (.tst (.call 10 0 #[.ix Y0 Z1])))) (.ret (.con (D.bl false)) .nil) .nil (.ret (.and (.bi (.isin "tuple") #[.ix Y0 Z2]) (.all (.comp 1 [1] [0] (.val (.ix Y0 Z2)) (.tst (.con (D.bl true))) (.call 2 0 #[Y0,Y1])))) .nil))),none⟩
noncomputable def c_with_crashers:Fn:=⟨2,6,(.asg 2 (.mkL (.val Y0)) (.forS [3,4,5] (.val Y1) (.setIx Y2 Y3 (.mk 1 35 "Crasher" 0 #[.ix Y0 Y3,Y4,Y5]) .nil) (.ret Y2 .nil))),none⟩
noncomputable def ze3:Fn:=⟨2,2,(.ifS (.cmp .Lt Y1 (.bi .len #[Y0])) (.ret (.bin .Mod (.ix Y0 Y1) (.bin .Pow Z10 Z64)) .nil) .nil (.ret Z0 .nil)),none⟩
noncomputable def zil:Fn:=⟨1,1,(.ifS (.cmp .Eq (.bin .Mod Y0 Z3) Z0) (.ret (.bin .Sub (.bin .Mod (.bin .FloorDiv Y0 Z3) Z5) Z2) .nil) .nil (.ret (.bin .Sub (.bin .Mod (.bin .FloorDiv Y0 Z3) (.bin .Sub (.bin .Mult Z2 (.bin .Pow Z10 Z60)) Z1)) (.bin .Sub (.bin .Pow Z10 Z60) Z1)) .nil)),none⟩
noncomputable def ze1:Fn:=⟨2,5,(.asg 2 (.bin .Mod Y0 Z4) (.ifS (.cmp .Eq (.bin .Mod (.bin .FloorDiv Y0 Z4) Z8) Z3) (.asg 2 (.bin .Mod (.bin .FloorDiv Y0 Z32) Z8) .nil) .nil (.asg 0 (.bin .FloorDiv Y0 Z256) (.asg 3 (.lst .nil) (.forS [4] (.rng1 Y2) (.expr (.mt .append Y3 #[.bin .Mod Y0 Y1]) (.asg 0 (.bin .FloorDiv Y0 Y1) .nil)) (.ret (.mkT (.val Y3)) .nil)))))),none⟩
noncomputable def ze2:Fn:=⟨4,9,(.asg 4 (.lst .nil) (.forS [5] (.val Y0) (.asg 6 (.bin .Mod Y5 (.bin .Pow Z10 Z64)) (.asg 7 (.bin .Mod Y6 Y1) (.asg 6 (.bin .FloorDiv Y6 Y1) (.asg 8 (.bin .Add Z1 (.bin .Mod Y6 Y2)) (.asg 6 (.bin .FloorDiv Y6 Y2) (.ifS (.cmp .Eq (.bin .Mod Y6 Z8) Z5) (.asg 8 (.bin .Add Z1 (.bin .Mod (.bin .FloorDiv Y6 Z8) Z30)) .nil) .nil (.ifS (.and (.cmp .Lt (.bi .len #[Y4]) Y3) (.cmp .NotIn Y7 (.mkL (.comp 1 [] [0] (.val Y4) (.tst (.con (D.bl true))) (.ix Y0 Z0))))) (.expr (.mt .append Y4 #[.tup #[Y7,Y8,.call 17 0 #[.bin .FloorDiv Y6 Z240,Y1]]]) .nil) .nil .nil))))))) (.ret Y4 .nil))),none⟩
noncomputable def zgD:Fn:=⟨2,3,(.asg 2 (.mkL (.comp 1 [0] [0] (.rng1 Y1) (.tst (.con (D.bl true))) (.call 16 0 #[.call 15 0 #[Y1,.bin .Add Z3 Y0]]))) (.ifS (.cmp .Eq (.bin .Mod (.call 15 0 #[Y0,Z1]) Z8) Z1) (.asg 2 (.rep (.lst #[.ix Y2 Z0]) Y1) .nil) .nil (.ret Y2 .nil))),none⟩
noncomputable def zbw:Fn:=⟨1,7,(.asg 1 (.bin .Add Z1 (.bin .Mod (.call 15 0 #[Y0,Z0]) Z7)) (.asg 2 (.bin .Mod (.bin .FloorDiv (.call 15 0 #[Y0,Z0]) Z7) Z6) (.asg 3 (.con D.non) (.asg 4 (.bin .Add Y2 Z1) (.ifS (.cmp .Eq (.bin .Mod (.call 15 0 #[Y0,Z2]) Z2) Z1) (.asg 3 (.bin .Add Z1 (.bin .Mod (.bin .FloorDiv (.call 15 0 #[Y0,Z2]) Z2) Z8)) (.asg 4 Y3 .nil)) .nil (.asg 5 (.call 19 0 #[Y0,Y1]) (.asg 6 (.call 18 0 #[.sl Y0 true true Z10 Z62,Y1,Y4,Y1]) (.ret (.tup #[Y1,Y2,Y5,Y6,Y3,Y4]) .nil)))))))),none⟩
noncomputable def zin:Fn:=⟨2,5,(.forS [2,3,4] (.val Y0) (.ifS (.cmp .Eq Y2 Y1) (.ret Y3 .nil) .nil .nil) (.ret Z99 .nil)),none⟩
noncomputable def zfT:Fn:=⟨5,16,(.asg 5 (.dic1 Y3 (.con (D.bl true))) (.asg 6 (.lst .nil) (.asg 7 (.lst .nil) (.asg 8 (.mkL (.comp 1 [1] [0] (.val Y0) (.and (.cmp .Eq (.ix Y0 Z2) Y1) (.cmp .IsNot (.ix Y0 Z3) (.con D.non))) Y0)) (.forS [9] (.rng2 Z1 (.bin .Add Y4 Z1)) (.asg 10 (.lst #[Y1]) (.forS [11,12,13,14] (.val Y8) (.ifS (.cmp .Eq Y11 Y9) (.expr (.mt .append Y10 #[.ix Y12 Z0]) (.forS [15] (.val Y14) (.setIx Y5 Y15 (.con (D.bl true)) .nil) .nil)) .nil .nil) (.expr (.mt .append Y6 #[.mkT (.val (.srt Y10))]) (.expr (.mt .append Y7 #[.min1 (.dlst Y5)]) .nil)))) (.ret (.tup #[.srt (.dlst Y5),Y6,Y7]) .nil)))))),none⟩
noncomputable def zkH:Fn:=⟨4,6,(.asg 4 (.mkT (.rng1 Y2)) (.forS [5] (.rng1 (.bi .len #[Y0])) (.ifS (.or (.cmp .Eq (.ix Y0 Y5) Y4) (.cmp .Eq (.bin .Add Y5 Z1) Y3)) (.ret (.tup #[.bin .Add Y5 Z1,.ix Y1 Y5]) .nil) .nil (.asg 4 (.ix Y0 Y5) .nil)) (.ret (.con D.non) .nil))),none⟩
noncomputable def zgE:Fn:=⟨1,1,(.ret (.and (.bi (.isin "int") #[Y0]) (.nt (.bi (.isin "bool") #[Y0]))) .nil),none⟩
noncomputable def zgF:Fn:=⟨2,2,(.ifS (.cmp .Is Y1 (.con D.non)) (.ret (.cmp .Is Y0 (.con D.non)) .nil) .nil (.ret (.and (.bi (.isin "tuple") #[Y0]) (.and (.cmp .Eq Y0 Y1) (.all (.comp 1 [] [0] (.val Y0) (.tst (.con (D.bl true))) (.call 24 0 #[Y0]))))) .nil)),none⟩
noncomputable def zim:Fn:=⟨4,5,(.asg 4 (.lst #[.meth "known" [(0,32),(2,43)] Y0 #[Y1],.meth "heard_by" [(0,31),(2,42)] Y0 #[Y1]]) (.ifS (.or (.nt (.tst (.bi (.isin "list") #[.ix Y4 Z0]))) (.or (.nt (.tst (.bi (.isin "list") #[.ix Y4 Z1]))) (.cmp .NotEq Y4 (.lst #[Y2,Y3])))) (.ret (.con (D.bl false)) .nil) .nil (.ifS (.or (.nt (.tst (.all (.comp 1 [] [0] (.val (.ix Y4 Z0)) (.tst (.con (D.bl true))) (.call 24 0 #[Y0]))))) (.nt (.tst (.all (.comp 1 [] [0] (.val (.ix Y4 Z1)) (.tst (.con (D.bl true))) (.bi (.isin "tuple") #[Y0])))))) (.ret (.con (D.bl false)) .nil) .nil (.expr (.mt .append (.ix Y4 Z0) #[Z0]) (.expr (.mt .append (.ix Y4 Z1) #[.tup .nil]) (.ret (.cmp .Eq (.lst #[.meth "known" [(0,32),(2,43)] Y0 #[Y1],.meth "heard_by" [(0,31),(2,42)] Y0 #[Y1]]) (.lst #[Y2,Y3])) .nil)))))),none⟩
noncomputable def c_law:Fn:=⟨1,15,(.asgT [1,2,3,4,5,6] (.call 20 0 #[Y0]) (.asg 7 (.mk 2 39 "Floods" 0 #[Y1,Y2,.mkL (.val Y3),.mkL (.val Y4),Y5]) (.asg 8 (.meth "letters" [(2,44)] Y7 .nil) (.asg 9 (.mkL (.rng1 Y1)) (.ifS (.cmp .Eq (.bin .Mod (.bin .FloorDiv (.call 15 0 #[Y0,Z2]) Z16) Z2) Z1) (.asg 9 (.slS Y9 (.neg Z1)) .nil) .nil (.forS [10] (.val Y9) (.asg 11 (.bi .min2 #[Y6,.bin .Sub (.call 21 0 #[Y4,Y10]) Z1]) (.asgT [12,13,14] (.call 22 0 #[Y8,Y10,Y1,.ix Y3 Y10,Y11]) (.ifS (.nt (.tst (.call 26 0 #[Y7,Y10,Y12,Y13]))) (.ret (.con (D.bl false)) .nil) .nil (.ifS (.nt (.tst (.call 25 0 #[.meth "ended" [(0,29),(2,40)] Y7 #[Y10],.call 23 0 #[Y13,Y14,Y1,Y6]]))) (.ret (.con (D.bl false)) .nil) .nil .nil)))) (.ret (.con (D.bl true)) .nil))))))),none⟩
noncomputable def zc2:Fn:=⟨5,5,(.expr (.callC 45 "Hand" "__init__" #[Y0,Y1,Y2,Y3]) (.setF Y0 "wordbook" (.dic1 Y4 (.con (D.bl true))) (.setF Y0 "hearings" (.lst .nil) (.setF Y0 "end" (.con D.non) .nil)))),none⟩
noncomputable def zcR:Fn:=⟨1,1,(.ret (.fld Y0 "end") .nil),none⟩
noncomputable def zc3:Fn:=⟨3,7,(.asg 3 (.ite (.tst (.fld Y0 "hearings")) (.ix (.fld Y0 "hearings") (.neg Z1)) (.mkT (.rng1 (.fld Y0 "many")))) (.asg 4 (.lst #[.fld Y0 "number"]) (.forS [5,6] (.val Y2) (.ifS (.cmp .IsNot Y6 (.con D.non)) (.expr (.mt .append Y4 #[.ix Y5 (.neg Z1)]) (.expr (.meth "learn" [(0,33)] Y0 #[Y6]) .nil)) .nil .nil) (.expr (.mt .append (.fld Y0 "hearings") #[.mkT (.val (.sset Y4))]) (.ifS (.and (.cmp .Is (.fld Y0 "end") (.con D.non)) (.or (.cmp .Eq (.ix (.fld Y0 "hearings") (.neg Z1)) Y3) (.cmp .GtE Y1 (.fld Y0 "rounds")))) (.setF Y0 "end" (.tup #[Y1,.min1 (.meth "known" [(0,32),(2,43)] Y0 .nil)]) .nil) .nil .nil))))),none⟩
noncomputable def zb4:Fn:=⟨1,1,(.ret (.mkL (.val (.fld Y0 "hearings"))) .nil),none⟩
noncomputable def zcQ:Fn:=⟨1,1,(.ret (.dsrt (.fld Y0 "wordbook")) .nil),none⟩
noncomputable def zcP:Fn:=⟨2,3,(.forS [2] (.val Y1) (.setIx (.fld Y0 "wordbook") Y2 (.con (D.bl true)) .nil) .nil),none⟩
noncomputable def zdE:Fn:=⟨2,3,(.asg 2 (.mkT (.val (.meth "known" [(0,32),(2,43)] Y0 .nil))) (.ret (.mkL (.comp 1 [2,0] [0] (.rng1 (.fld Y0 "many")) (.cmp .NotEq Y0 (.fld Y2 "number")) (.tup #[.tup #[.fld Y2 "number"],Y0,Y1]))) .nil)),none⟩
noncomputable def zdZ:Fn:=⟨4,4,(.expr (.callC 45 "Hand" "__init__" #[Y0,.fld Y1 "number",.fld Y1 "many",.fld Y1 "rounds"]) (.setF Y0 "inner" Y1 (.setF Y0 "last" Y2 (.setF Y0 "reached" (.mkT (.val Y3)) .nil)))),none⟩
noncomputable def zd0:Fn:=⟨3,3,(.ifS (.cmp .Lt Y1 (.fld Y0 "last")) (.expr (.meth "hear" [(0,30),(1,36)] (.fld Y0 "inner") #[Y1,Y2]) .nil) .nil .nil),none⟩
noncomputable def zcS:Fn:=⟨3,3,(.ret (.or (.cmp .Lt Y1 (.fld Y0 "last")) (.and (.cmp .Eq Y1 (.fld Y0 "last")) (.cmp .In Y2 (.fld Y0 "reached")))) .nil),none⟩
noncomputable def ze4:Fn:=⟨2,2,(.ret (.mkL (.comp 3 [1,0] [0,1,2] (.val (.meth "say" [(0,34),(1,38)] (.fld Y0 "inner") #[Y1])) (.tst (.con (D.bl true))) (.tup #[Y0,Y1,.ite (.tst (.meth "reaches" [(1,37)] Y4 #[Y3,Y1])) Y2 (.con D.non)]))) .nil),none⟩
noncomputable def zcC:Fn:=⟨6,10,(.expr (.call 4 0 #[Y1,Z1,Z7]) (.expr (.call 4 0 #[Y2,Z0,Z5]) (.ifS (.cmp .NotEq (.bi .len #[Y3]) Y1)
 .stop .nil (.asg 6 (.mkL (.comp 1 [] [0] (.val Y3) (.tst (.con (D.bl true))) (.call 6 0 #[Y0]))) (.asg 7 (.ite (.cmp .Is Y4 (.con D.non)) (.lst .nil) (.call 12 0 #[Y1,Y4])) (.asg 8 (.call 11 0 #[Y5,Y2]) (.asg 9 (.mkL (.comp 2 [1,8] [0,1] (.enum Y6) (.tst (.con (D.bl true))) (.mk 0 28 "FloodHand" 0 #[Y0,Y2,Y3,Y1]))) (.expr (.callC 46 "Play" "__init__" #[Y0,Y9,.call 14 0 #[Y9,Y7],Y8]) .nil)))))))),none⟩
noncomputable def zdY:Fn:=⟨2,2,(.ret (.meth "ended" [(0,29),(2,40)] (.meth "hand_at" [(2,41)] Y0 #[Y1]) .nil) .nil),none⟩
noncomputable def zdW:Fn:=⟨2,2,(.ret (.ix (.fld Y0 "hands") (.call 5 0 #[Y1,.bi .len #[.fld Y0 "hands"]])) .nil),none⟩
noncomputable def zcO:Fn:=⟨2,2,(.ret (.meth "heard_by" [(0,31),(2,42)] (.meth "hand_at" [(2,41)] Y0 #[Y1]) .nil) .nil),none⟩
noncomputable def zdX:Fn:=⟨2,2,(.ret (.meth "known" [(0,32),(2,43)] (.meth "hand_at" [(2,41)] Y0 #[Y1]) .nil) .nil),none⟩
noncomputable def zdV:Fn:=⟨1,1,(.ret (.mkL (.val (.fld Y0 "sent"))) .nil),none⟩
noncomputable def zgH:Fn:=⟨4,4,(.setF Y0 "number" Y1 (.setF Y0 "many" Y2 (.setF Y0 "rounds" Y3 .nil))),none⟩
noncomputable def zgG:Fn:=⟨4,4,(.setF Y0 "hands" Y1 (.setF Y0 "sent" (.callW 7 1 #[Y2,Y3]) .nil)),none⟩
noncomputable def prog:List Fn:=[zro,zio,zkL,zkJ,zir,zkN,zkF,zrp,c_said_in,c_deliver,zkK,zgC,zfU,ziq,c_with_crashers,ze3,zil,ze1,ze2,zgD,zbw,zin,zfT,zkH,zgE,zgF,zim,c_law,zc2,zcR,zc3,zb4,zcQ,zcP,zdE,zdZ,zd0,zcS,ze4,zcC,zdY,zdW,zcO,zdX,zdV,zgH,zgG]
noncomputable def top(i:Nat):Stmt:=PySem.Challenge.pw_traitorround_k64_heard_and_ended.main.body.getD i (.Pass ⟨0,0,0,0⟩)
noncomputable abbrev znS:Stmt:=top 0
noncomputable abbrev zgi:Stmt:=top 8
noncomputable abbrev zhY:Stmt:=top 9
noncomputable abbrev zhW:Stmt:=top 10
noncomputable abbrev zgk:Stmt:=top 11
noncomputable abbrev zhZ:Stmt:=top 12
noncomputable abbrev zhT:Stmt:=top 13
noncomputable abbrev zg1:Stmt:=top 18
noncomputable abbrev zhU:Stmt:=top 19
noncomputable abbrev zh0:Stmt:=top 20
noncomputable abbrev zhX:Stmt:=top 28
noncomputable abbrev zfk:Stmt:=top 29
noncomputable abbrev zez:Stmt:=top 31
noncomputable abbrev zgj:Stmt:=top 32
noncomputable abbrev zcZ:Stmt:=top 35
noncomputable abbrev zdN:Stmt:=top 37
noncomputable abbrev zgf:Stmt:=top 38
noncomputable abbrev zdK:Stmt:=top 39
noncomputable abbrev zdM:Stmt:=top 40
noncomputable abbrev zfl:Stmt:=top 41
noncomputable abbrev zdL:Stmt:=top 42
noncomputable abbrev zgh:Stmt:=top 43
noncomputable abbrev zey:Stmt:=top 44
noncomputable abbrev zhV:Stmt:=top 45
noncomputable abbrev zfm:Stmt:=top 46
noncomputable abbrev zfn:Stmt:=top 47
noncomputable abbrev zgg:Stmt:=top 48
noncomputable abbrev zp7:Stmt:=top 49
noncomputable def zbt(s:Stmt)(j:Nat):Stmt:=match s with|.ClassDef _ _ _ b _ _ _ _ _ _ _=>b.getD j (.Pass ⟨0,0,0,0⟩)|s=>s
noncomputable abbrev zcG:Stmt:=zbt (top 33) 0
noncomputable abbrev zcs:Stmt:=zbt (top 33) 6
noncomputable abbrev zcH:Stmt:=zbt (top 33) 2
noncomputable abbrev zbK:Stmt:=zbt (top 33) 5
noncomputable abbrev zcr:Stmt:=zbt (top 33) 4
noncomputable abbrev zcq:Stmt:=zbt (top 33) 3
noncomputable abbrev zc0:Stmt:=zbt (top 33) 1
noncomputable abbrev zdl:Stmt:=zbt (top 16) 0
noncomputable abbrev zdm:Stmt:=zbt (top 16) 3
noncomputable abbrev zct:Stmt:=zbt (top 16) 2
noncomputable abbrev zdP:Stmt:=zbt (top 16) 1
noncomputable abbrev zdO:Stmt:=zbt (top 34) 0
noncomputable abbrev zdk:Stmt:=zbt (top 34) 3
noncomputable abbrev zdi:Stmt:=zbt (top 22) 1
noncomputable abbrev zcp:Stmt:=zbt (top 34) 2
noncomputable abbrev zdj:Stmt:=zbt (top 34) 1
noncomputable abbrev zdh:Stmt:=zbt (top 22) 2
noncomputable abbrev zfp:Stmt:=zbt (top 15) 0
noncomputable abbrev zfo:Stmt:=zbt (top 22) 0
noncomputable instance mks:R.Mks:={ts:=[(242,"run.<locals>.<lambda>")],cl:=[398,237,437]}
noncomputable def tab:Tab:=⟨["abs","all","bool","enumerate","int","isinstance","len","list","min","range","set","sorted","tuple"],[("MOST_HANDS",(D.int 7)),("GREATEST_BOUND",(D.int 5)),("LAST_TURN",(D.int 30)),("MOST_ROUNDS",(D.int 8))],[("_wall",["k"],0),("is_whole",["thing"],0),("is_hand",["thing","many"],0),("is_word",["thing"],0),("count_of",["thing","least","greatest"],0),("hand_of",["thing","many"],0),("word_of",["thing"],0),("run",["hands","rounds","wires"],1),("said_in",["turn","hands","wires"],0),("deliver",["turn","hands","said"],0),("is_turn",["thing"],0),("rounds_of",["told","bound"],0),("crashes_of",["many","crashes"],0),("is_crash",["thing","many"],0),("with_crashers",["hands","crashes"],0),("_law_cell_at",["_law_script","_law_k"],0),("_law_word",["_law_cell"],0),("_law_reached",["_law_cell","_law_many"],0),("_law_crashes",["_law_cells","_law_many","_law_last","_law_limit"],0),("_law_words",["_law_script","_law_many"],0),("_law_flooded",["_law_script"],0),("_law_gone",["_law_crashes_here","_law_hand"],0),("_law_walked",["_law_letters","_law_hand","_law_many","_law_word_here","_law_until"],0),("_law_end",["_law_hearings","_law_least","_law_many","_law_last"],0),("_law_whole",["_law_found"],0),("_law_alike",["_law_found","_law_due"],0),("_law_told",["_law_play","_law_hand","_law_known","_law_hearings"],0),("law",["_law_script"],0)],["FloodHand","Crasher","Floods"],["number","many","rounds","inner","last","reached","hands","sent","wordbook","hearings","end"],[(0,"ended",29),(2,"ended",40),(2,"hand_at",41),(0,"hear",30),(1,"hear",36),(0,"heard_by",31),(2,"heard_by",42),(0,"known",32),(2,"known",43),(0,"learn",33),(2,"letters",44),(1,"reaches",37),(0,"say",34),(1,"say",38)],[(1,35,0),(2,39,0),(0,28,0)],[("Hand","__init__",45),("Play","__init__",46)],[],["hands","rounds","wires","letters","turn","said"],242⟩
theorem us1{α:Type}{P:List α->Prop}(h:∀a,P [a]):∀us:List α,us.length=1->P us | [a],_=>h a
theorem us2{α:Type}{P:List α->Prop}(h:∀a b,P [a,b]):∀us:List α,us.length=2->P us | [a,b],_=>h a b
theorem us3{α:Type}{P:List α->Prop}(h:∀a b c,P [a,b,c]):∀us:List α,us.length=3->P us | [a,b,c],_=>h a b c
theorem us4{α:Type}{P:List α->Prop}(h:∀a b c d,P [a,b,c,d]):∀us:List α,us.length=4->P us | [a,b,c,d],_=>h a b c d
theorem us5{α:Type}{P:List α->Prop}(h:∀a b c d e,P [a,b,c,d,e]):∀us:List α,us.length=5->P us | [a,b,c,d,e],_=>h a b c d e
theorem us6{α:Type}{P:List α->Prop}(h:∀a b c d e f,P [a,b,c,d,e,f]):∀us:List α,us.length=6->P us | [a,b,c,d,e,f],_=>h a b c d e f
theorem O44:OkD tab prog 0 "_wall" "_wall" ["k"] znS:=zap ["k"] rfl (by decide +kernel) fun _ _ _ _ _ _=>us1 fun _=>rfl
theorem O34:OkD tab prog 1 "is_whole" "is_whole" ["thing"] zgi:=zap ["thing"] rfl (by decide +kernel) fun _ _ _ _ _ _=>us1 fun _=>rfl
theorem O43:OkD tab prog 2 "is_hand" "is_hand" ["thing","many"] zhY:=zap ["thing","many"] rfl (by decide +kernel) fun _ _ _ _ _ _=>us2 fun _ _=>rfl
theorem O41:OkD tab prog 3 "is_word" "is_word" ["thing"] zhW:=zap ["thing"] rfl (by decide +kernel) fun _ _ _ _ _ _=>us1 fun _=>rfl
theorem O30:OkD tab prog 4 "count_of" "count_of" ["thing","least","greatest"] zgk:=zap ["thing","least","greatest"] rfl (by decide +kernel) fun _ _ _ _ _ _=>us3 fun _ _ _=>rfl
theorem O40:OkD tab prog 5 "hand_of" "hand_of" ["thing","many"] zhZ:=zap ["thing","many"] rfl (by decide +kernel) fun _ _ _ _ _ _=>us2 fun _ _=>rfl
theorem O42:OkD tab prog 6 "word_of" "word_of" ["thing"] zhT:=zap ["thing"] rfl (by decide +kernel) fun _ _ _ _ _ _=>us1 fun _=>rfl
theorem O45:OkL tab prog 7 "run" ["hands","rounds","wires"] 1 zg1:=zqG (F:=zrp) rfl rfl (by decide +kernel)
theorem O36:OkD tab prog 8 "said_in" "said_in" ["turn","hands","wires"] zhU:=zap ["turn","hands","wires","said","place","hand","path","to","word"] rfl (by decide +kernel) fun _ _ _ _ _ _=>us3 fun _ _ _=>rfl
theorem O37:OkD tab prog 9 "deliver" "deliver" ["turn","hands","said"] zh0:=zap ["turn","hands","said","boxes","letter","place","hand"] rfl (by decide +kernel) fun _ _ _ _ _ _=>us3 fun _ _ _=>rfl
theorem O39:OkD tab prog 10 "is_turn" "is_turn" ["thing"] zhX:=zap ["thing"] rfl (by decide +kernel) fun _ _ _ _ _ _=>us1 fun _=>rfl
theorem O29:OkD tab prog 11 "rounds_of" "rounds_of" ["told","bound"] zfk:=zap ["told","bound"] rfl (by decide +kernel) fun _ _ _ _ _ _=>us2 fun _ _=>rfl
theorem O22:OkD tab prog 12 "crashes_of" "crashes_of" ["many","crashes"] zez:=zap ["many","crashes","told","place","thing"] rfl (by decide +kernel) fun _ _ _ _ _ _=>us2 fun _ _=>rfl
theorem O31:OkD tab prog 13 "is_crash" "is_crash" ["thing","many"] zgj:=zap ["thing","many"] rfl (by decide +kernel) fun _ _ _ _ _ _=>us2 fun _ _=>rfl
theorem O9:OkD tab prog 14 "with_crashers" "with_crashers" ["hands","crashes"] zcZ:=zap ["hands","crashes","town","hand","turn","reached"] rfl (by decide +kernel) fun _ _ _ _ _ _=>us2 fun _ _=>rfl
theorem O17:OkD tab prog 15 "_law_cell_at" "_law_cell_at" ["_law_script","_law_k"] zdN:=zap ["_law_script","_law_k"] rfl (by decide +kernel) fun _ _ _ _ _ _=>us2 fun _ _=>rfl
theorem O33:OkD tab prog 16 "_law_word" "_law_word" ["_law_cell"] zgf:=zap ["_law_cell"] rfl (by decide +kernel) fun _ _ _ _ _ _=>us1 fun _=>rfl
theorem O21:OkD tab prog 17 "_law_reached" "_law_reached" ["_law_cell","_law_many"] zdK:=zap ["_law_cell","_law_many","_law_size","_law_found","_law_k"] rfl (by decide +kernel) fun _ _ _ _ _ _=>us2 fun _ _=>rfl
theorem O18:OkD tab prog 18 "_law_crashes" "_law_crashes" ["_law_cells","_law_many","_law_last","_law_limit"] zdM:=zap ["_law_cells","_law_many","_law_last","_law_limit","_law_found","_law_cell","_law_number","_law_hand","_law_turn"] rfl (by decide +kernel) fun _ _ _ _ _ _=>us4 fun _ _ _ _=>rfl
theorem O26:OkD tab prog 19 "_law_words" "_law_words" ["_law_script","_law_many"] zfl:=zap ["_law_script","_law_many","_law_words_here"] rfl (by decide +kernel) fun _ _ _ _ _ _=>us2 fun _ _=>rfl
theorem O16:OkD tab prog 20 "_law_flooded" "_law_flooded" ["_law_script"] zdL:=zap ["_law_script","_law_many","_law_bound","_law_rounds","_law_last","_law_words_here","_law_crashes_here"] rfl (by decide +kernel) fun _ _ _ _ _ _=>us1 fun _=>rfl
theorem O32:OkD tab prog 21 "_law_gone" "_law_gone" ["_law_crashes_here","_law_hand"] zgh:=zap ["_law_crashes_here","_law_hand","_law_one","_law_turn","_law_reached_here"] rfl (by decide +kernel) fun _ _ _ _ _ _=>us2 fun _ _=>rfl
theorem O23:OkD tab prog 22 "_law_walked" "_law_walked" ["_law_letters","_law_hand","_law_many","_law_word_here","_law_until"] zey:=zap ["_law_letters","_law_hand","_law_many","_law_word_here","_law_until","_law_known","_law_hearings","_law_least","_law_some","_law_turn","_law_now","_law_when","_law_path","_law_to","_law_told_here","_law_one"] rfl (by decide +kernel) fun _ _ _ _ _ _=>us5 fun _ _ _ _ _=>rfl
theorem O38:OkD tab prog 23 "_law_end" "_law_end" ["_law_hearings","_law_least","_law_many","_law_last"] zhV:=zap ["_law_hearings","_law_least","_law_many","_law_last","_law_before","_law_k"] rfl (by decide +kernel) fun _ _ _ _ _ _=>us4 fun _ _ _ _=>rfl
theorem O24:OkD tab prog 24 "_law_whole" "_law_whole" ["_law_found"] zfm:=zap ["_law_found"] rfl (by decide +kernel) fun _ _ _ _ _ _=>us1 fun _=>rfl
theorem O28:OkD tab prog 25 "_law_alike" "_law_alike" ["_law_found","_law_due"] zfn:=zap ["_law_found","_law_due"] rfl (by decide +kernel) fun _ _ _ _ _ _=>us2 fun _ _=>rfl
theorem O35:OkD tab prog 26 "_law_told" "_law_told" ["_law_play","_law_hand","_law_known","_law_hearings"] zgg:=zap ["_law_play","_law_hand","_law_known","_law_hearings","_law_told_here"] rfl (by decide +kernel) fun _ _ _ _ _ _=>us4 fun _ _ _ _=>rfl
theorem O46:OkD tab prog 27 "law" "law" ["_law_script"] zp7:=zap ["_law_script","_law_many","_law_bound","_law_words_here","_law_crashes_here","_law_rounds","_law_last","_law_play","_law_letters","_law_order","_law_hand","_law_until","_law_known","_law_hearings","_law_least"] rfl (by decide +kernel) fun _ _ _ _ _ _=>us1 fun _=>rfl
theorem O6:OkD tab prog 28 "__init__" "FloodHand.__init__" ["self","number","many","rounds","word"] zcG:=zap ["self","number","many","rounds","word"] rfl (by decide +kernel) fun _ _ _ _ _ _=>us5 fun _ _ _ _ _=>rfl
theorem O4:OkD tab prog 29 "ended" "FloodHand.ended" ["self"] zcs:=zap ["self"] rfl (by decide +kernel) fun _ _ _ _ _ _=>us1 fun _=>rfl
theorem O7:OkD tab prog 30 "hear" "FloodHand.hear" ["self","turn","letters"] zcH:=zap ["self","turn","letters","before","writers","path","words"] rfl (by decide +kernel) fun _ _ _ _ _ _=>us3 fun _ _ _=>rfl
theorem O0:OkD tab prog 31 "heard_by" "FloodHand.heard_by" ["self"] zbK:=zap ["self"] rfl (by decide +kernel) fun _ _ _ _ _ _=>us1 fun _=>rfl
theorem O2:OkD tab prog 32 "known" "FloodHand.known" ["self"] zcr:=zap ["self"] rfl (by decide +kernel) fun _ _ _ _ _ _=>us1 fun _=>rfl
theorem O5:OkD tab prog 33 "learn" "FloodHand.learn" ["self","words"] zcq:=zap ["self","words","word"] rfl (by decide +kernel) fun _ _ _ _ _ _=>us2 fun _ _=>rfl
theorem O8:OkD tab prog 34 "say" "FloodHand.say" ["self","turn"] zc0:=zap ["self","turn","words"] rfl (by decide +kernel) fun _ _ _ _ _ _=>us2 fun _ _=>rfl
theorem O13:OkD tab prog 35 "__init__" "Crasher.__init__" ["self","inner","last","reached"] zdl:=zap ["self","inner","last","reached"] rfl (by decide +kernel) fun _ _ _ _ _ _=>us4 fun _ _ _ _=>rfl
theorem O11:OkD tab prog 36 "hear" "Crasher.hear" ["self","turn","letters"] zdm:=zap ["self","turn","letters"] rfl (by decide +kernel) fun _ _ _ _ _ _=>us3 fun _ _ _=>rfl
theorem O1:OkD tab prog 37 "reaches" "Crasher.reaches" ["self","turn","to"] zct:=zap ["self","turn","to"] rfl (by decide +kernel) fun _ _ _ _ _ _=>us3 fun _ _ _=>rfl
theorem O19:OkD tab prog 38 "say" "Crasher.say" ["self","turn"] zdP:=zap ["self","turn"] rfl (by decide +kernel) fun _ _ _ _ _ _=>us2 fun _ _=>rfl
theorem O20:OkE tab prog 39 ["self","many","bound","words","crashes","rounds"] zdO:=zqH (F:=zcC) ["self","many","bound","words","crashes","rounds","begun","told","turns","hands"] rfl (by decide +kernel)
theorem O14:OkD tab prog 40 "ended" "Floods.ended" ["self","hand"] zdk:=zap ["self","hand"] rfl (by decide +kernel) fun _ _ _ _ _ _=>us2 fun _ _=>rfl
theorem O10:OkD tab prog 41 "hand_at" "Play.hand_at" ["self","thing"] zdi:=zap ["self","thing"] rfl (by decide +kernel) fun _ _ _ _ _ _=>us2 fun _ _=>rfl
theorem O3:OkD tab prog 42 "heard_by" "Floods.heard_by" ["self","hand"] zcp:=zap ["self","hand"] rfl (by decide +kernel) fun _ _ _ _ _ _=>us2 fun _ _=>rfl
theorem O12:OkD tab prog 43 "known" "Floods.known" ["self","hand"] zdj:=zap ["self","hand"] rfl (by decide +kernel) fun _ _ _ _ _ _=>us2 fun _ _=>rfl
theorem O15:OkD tab prog 44 "letters" "Play.letters" ["self"] zdh:=zap ["self"] rfl (by decide +kernel) fun _ _ _ _ _ _=>us1 fun _=>rfl
theorem O25:OkD tab prog 45 "__init__" "Hand.__init__" ["self","number","many","rounds"] zfp:=zap ["self","number","many","rounds"] rfl (by decide +kernel) fun _ _ _ _ _ _=>us4 fun _ _ _ _=>rfl
theorem O27:OkD tab prog 46 "__init__" "Play.__init__" ["self","hands","town","rounds"] zfo:=zap ["self","hands","town","rounds"] rfl (by decide +kernel) fun _ _ _ _ _ _=>us4 fun _ _ _ _=>rfl
end
section
open R
theorem zbF(h:P[f]?=some F)(hl:ds.length=F.np)(w:W (exS (callF P n) F.body (zaE F ds) S) fun r T=>match r with|.nx _=>Q .non T|.rt d=>Q d T)(hp:F.prim=none:=by rfl):W (appW (callF P (n+1)) f ds S) Q:=by unfold appW;simp[callF,h,hl,hp,if_true,zaa];refine w.mono fun r T q=>?_;cases r<;>exact q
theorem zbn(h:P[f]?=some F)(hl:ds.length=F.np)(w:wS (callF P n) F.body (zaE F ds) S fun r T=>match r with|.nx _=>D.non=d/\T=S'|.rt z=>z=d/\T=S')(hp:F.prim=none:=by rfl):appW (callF P (n+1)) f ds S=.ok d S':=by refine W.eq (zbF h hl ((wS_W _ w).mono fun r T q=>?_) hp);cases r<;>exact q
theorem zau(e:S.get a=some (.ins c fs)):zbh S (.ref a)=some (c,fs):=by unfold zbh;dsimp only;rw[e]
theorem zbO(e:S.get a=some (.ins c fs))(g:fs.lookup f=some v):((zbh S (.ref a)).bind fun p=>p.2.lookup f)=some v:=by rw[zau e];exact g
theorem plen(S:R.St)(o:MO):(S.push o).len=S.len+1:=by simp[St.push,St.len];omega
structure Mv(A:List Nat)(S T:R.St):Prop where
 frz:T.frz=S.frz
 lk:T.lk=S.lk
 len:S.len<=T.len
 old:∀m o,m∉A->S.get m=some o->T.get m=some o
theorem Mv.refl(A:List Nat)(S:R.St):Mv A S S:=⟨rfl,rfl,le_refl _,fun _ _ _ h=>h⟩
theorem Mv.trans(a:Mv A S T)(b:Mv A T U):Mv A S U:=⟨b.frz.trans a.frz,b.lk.trans a.lk,le_trans a.len b.len,fun m o h e=>b.old m o h (a.old m o h e)⟩
theorem Mv.push(A:List Nat)(S:R.St)(o:MO):Mv A S (S.push o):=⟨rfl,rfl,by rw[plen];omega,fun _ _ _ e=>zaf e⟩
theorem Mv.up(h:Mv A S T)(s:∀m,m∈A->m∈B):Mv B S T:=⟨h.frz,h.lk,h.len,fun m o hm e=>h.old m o (fun z=>hm (s m z)) e⟩
structure Fr(S:R.St)(a:Nat):Prop where
 f:S.frz.length<=a
 k:S.lk.contains a=false
theorem Fr.mv(h:Fr S a)(v:Mv A S T):Fr T a:=⟨by rw[v.frz];exact h.f,by rw[v.lk];exact h.k⟩
theorem zbd(e:S.get a=some (.ins c fs))(hf:Fr S a)(hl:fs.length<1000)(hg:zje f v fs=gs):∃T,zbB S (.ref a) f v=some T/\Mv [a] S T/\T.get a=some (.ins c gs):=by obtain⟨T,h1,h2,h3,h4,h5,h6⟩:=zc5 (.ins c gs) hf.f hf.k;refine⟨T,?_,⟨h2,h3,by omega,fun m o hm e=>by rw[h5 m (by simpa using hm)];exact e⟩,h6 (zai e)⟩;unfold zbB;dsimp only;rw[e];dsimp only;rw[if_pos hl,hg,h1]
theorem zaH(h:evE cf e δ S=.ok d S')(w:W (exS cf r (δ.set i (some d)) S') Q):W (exS cf (.asg i e r) δ S) Q:=by rw[exS,h,zaD];exact w
theorem zfZ(h:W (evE cf e δ S) fun d S'=>W (exS cf r (δ.set i (some d)) S') Q):W (exS cf (.asg i e r) δ S) Q:=by rw[exS,zaa];exact h
theorem zbP(h:W (evE cf e δ S) fun d S'=>W (exS cf r δ S') Q):W (exS cf (.expr e r) δ S) Q:=by rw[exS,zaa];exact h
theorem zcA(w:W (evT cf c δ S) fun k S1=>k=false/\W (exS cf r δ S1) Q):W (exS cf (.ifS c u .nil r) δ S) Q:=by rw[exS,zaa];refine w.mono fun k S1 hk=>?_;obtain⟨rfl,w1⟩:=hk;exact w1
theorem zi2(h:W (evE cf e δ S) fun d S'=>Q (.rt d) S'):W (exS cf (.ret e r) δ S) Q:=by rw[exS,zaa];exact h.mono fun d S' q=>q
theorem zrn(h:P[f]?=some F)(hl:ds.length=F.np)(hp:F.prim=none)(w:W (exS (callF P n) F.body (zaE F ds) S) fun r T=>match r with|.nx _=>Q .non T|.rt d=>Q d T):W (callF P (n+1) f ds S) Q:=by simp[callF,h,hl,hp,if_true,zaa];refine w.mono fun r T q=>?_;cases r<;>exact q
theorem zac(S:R.St)(o:MO):(S.push o).get S.len=some o:=zcu S o
theorem zjt(u:Mv (T.len::A) (T.push o) U):Mv A T U:=
 ⟨u.frz,u.lk,by have:=u.len;rw[plen]at this;omega,fun m x hm e=>u.old m x (by
  intro z;rcases mem_cons.mp z with z|z;have:=zai e;omega;exact hm z) (zaf e)⟩
theorem zbf(hf:Fr T l)(e:T.get l=some o):∃U,T.put l u=some U/\Mv [l] T U/\U.get l=some u:=by obtain⟨U,h1,h2,h3,h4,h5,h6⟩:=zc5 u hf.f hf.k;exact⟨U,h1,⟨h2,h3,by omega,fun m x hm e=>by rw[h5 m (by simpa using hm)];exact e⟩,h6 (zai e)⟩
noncomputable abbrev pD(p:List Int):D:=.tup (p.map .int)
noncomputable def kvD(K:List Int):List (Int×D):=K.map fun k=>(k,.bl true)
noncomputable def eD:Option (Int×Int)->D|none=>.non|some e=>.tup [.int e.1,.int e.2]
noncomputable def hD(i m r:Int)(wb hr:Nat)(e:Option (Int×Int)):MO:=.ins 0 [("number",.int i),("many",.int m),("rounds",.int r),("wordbook",.ref wb),("hearings",.ref hr),("end",eD e)]
noncomputable def ad(K:List Int)(k:Int):List Int:=if k∈K then K else K++[k]
noncomputable def ads(K ws:List Int):List Int:=ws.foldl ad K
theorem zmz:∀(K:List Int)(k:Int),putI (kvD K) k (.bl true)=kvD (ad K k)
 | [],k=>by simp[ad,kvD,putI]| j::K,k=>by have ih:=zmz K k;unfold kvD at ih⊢;rw[map_cons];unfold putI;by_cases z:j=k;subst z;simp[ad];rw[if_neg z,ih];unfold ad;by_cases h:k∈K;rw[if_pos h,if_pos (mem_cons_of_mem _ h)];rfl;rw[if_neg h,if_neg (by rintro(_|⟨_,y⟩);exact z rfl;exact h y)];rfl
structure Sb(ws K:List Int):Prop where
 nd:K.Nodup
 sub:∀x∈K,x∈ws
theorem zeE:∀{K ws:List Int},K.Nodup->(∀x∈K,x∈ws)->K.length<=ws.length
 | [],ws,_,_=>zero_le _| x::K,ws,hn,hs=>by have hn':=nodup_cons.mp hn;have hx:=hs x mem_cons_self;have:=zeE hn'.2 fun y hy=>(List.mem_erase_of_ne (fun e:y=x=>hn'.1 (e▸hy))).mpr (hs y (mem_cons_of_mem _ hy));rw[List.length_erase_of_mem hx]at this;have h2:=List.length_pos_of_mem hx;rw[length_cons];omega
theorem Sb.len(h:Sb ws K):K.length<=ws.length:=zeE h.nd h.sub
theorem Sb.ad(h:Sb ws K)(hk:k∈ws):Sb ws (ad K k):=by unfold Kz.ad;split;exact h;rename_i n;refine⟨nodup_append.mpr ⟨h.nd,by simp,fun a ha b hb e=>?_⟩,fun x hx=>?_⟩;simp at hb;subst hb;subst e;exact n ha;rcases mem_append.mp hx with z|z;exact h.sub x z;simp at z;subst z;exact hk
theorem Sb.ads:∀{p K:List Int},Sb ws K->(∀w∈p,w∈ws)->Sb ws (ads K p)
 | [],_,h,_=>h|w::p,K,h,hp=>Sb.ads (p:=p) (h.ad (hp w mem_cons_self)) fun x hx=>hp x (mem_cons_of_mem _ hx)
theorem zqK:x∈ad K k↔x∈K\/x=k:=by unfold ad;split;rename_i h;exact⟨.inl,fun z=>z.elim id fun e=>e▸h⟩;simp
theorem zjw:∀{p K:List Int},x∈ads K p↔x∈K\/x∈p
 | [],K=>by simp[ads]| w::p,K=>by show x∈ads (ad K w) p↔_;rw[zjw,zqK,mem_cons,or_assoc]
theorem zgz(h:S.get l=some (.dic (kvD K))):dicI S (.ref l)=some K:=by unfold dicI;dsimp only;rw[h];simp[kvD,Function.comp_def]
theorem zkn(h:S.get l=some (.dic (kvD K)))(hf:Fr S l)(hl:K.length<=1000):∃T,dPut S (.ref l) (.int k) (.bl true)=some T/\Mv [l] S T/\T.get l=some (.dic (kvD (ad K k))):=by obtain⟨T,h1,v,g⟩:=zbf hf h;refine⟨T,?_,v,g⟩;unfold dPut;dsimp only;rw[h];dsimp only;rw[show zbG (.int k)=some k from rfl,bind_some,if_pos (by simp[kvD];omega),zmz,h1]
section
variable{S:R.St}{a wb hr n:Nat}{i m r:Int}{en:Option (Int×Int)}{K ws:List Int}
theorem zc6(e:S.get a=some (hD i m r wb hr en)):((zbh S (.ref a)).bind fun p=>p.2.lookup ("number":PySem.Str))=some (.int i):=zbO e rfl
theorem zkg(e:S.get a=some (hD i m r wb hr en)):((zbh S (.ref a)).bind fun p=>p.2.lookup ("many":PySem.Str))=some (.int m):=zbO e rfl
theorem zhp(e:S.get a=some (hD i m r wb hr en)):((zbh S (.ref a)).bind fun p=>p.2.lookup ("rounds":PySem.Str))=some (.int r):=zbO e rfl
theorem zed(e:S.get a=some (hD i m r wb hr en)):((zbh S (.ref a)).bind fun p=>p.2.lookup ("wordbook":PySem.Str))=some (.ref wb):=zbO e rfl
theorem zbc(e:S.get a=some (hD i m r wb hr en)):((zbh S (.ref a)).bind fun p=>p.2.lookup ("hearings":PySem.Str))=some (.ref hr):=zbO e rfl
theorem zrg(e:S.get a=some (hD i m r wb hr en)):((zbh S (.ref a)).bind fun p=>p.2.lookup ("end":PySem.Str))=some (eD en):=zbO e rfl
theorem za5(l:List Int):(zak l).length=l.length:=(zay l).length_eq
theorem zgq(e:S.get a=some (hD i m r wb hr en))(g:S.get wb=some (.dic (kvD K)))(hl:K.length<64):appW (callF prog (n+1)) 32 [.ref a] S=.ok (.ref S.len) (S.push (.lst ((zak K).map .int))):=by
 apply zbn rfl rfl;exists zed e;exists zgz g;change hl;change by rw[length_map,za5];omega
 exact⟨rfl,rfl⟩
theorem zoq(e:S.get a=some (hD i m r wb hr en)):appW (callF prog (n+1)) 29 [.ref a] S=.ok (eD en) S:=by apply zbn rfl rfl;exists zrg e;exact⟨rfl,rfl⟩
theorem zeN(h:T.lk=l):({T with lk:=l}:R.St)=T:=by subst h;rfl
theorem zmm:ads K (p++[w])=ad (ads K p) w:=by unfold ads;rw[List.foldl_append];rfl
theorem zom(e:S.get a=some (hD i m r wb hr en))(g:S.get wb=some (.dic (kvD K)))(hf:Fr S wb)(hs:Sb ws K)(hw:ws.length<=1000)(hp:∀w∈p,w∈ws) :
  W (appW (callF prog (n+1)) 33 [.ref a,pD p] S) fun d T=>Mv [wb] S T/\T.get wb=some (.dic (kvD (ads K p))):=by
 have ne:a≠wb:=fun z=>by rw[z,g]at e;cases e
 refine zbF rfl rfl (wS_W _ ?_);apply zaw;refine W.mono (zcD (fun j δ T=>∃v,δ=[some (.ref a),some (pD p),v]/\Mv [wb] S T/\T.get wb=some (.dic (kvD (ads K (p.take j))))) (fun _ _=>False) _ 0 _ _ ⟨none,rfl,Mv.refl _ _,by rw[List.take_zero];exact g⟩ ?_) ?_;rintro j z δ T hz ⟨v,rfl,mv,gt⟩;rw[zero_add]at gt⊢;rw[getElem?_map]at hz;cases ej:p[j]? with
 |none=>rw[ej]at hz;cases hz
 |some w=>rw[ej]at hz;cases hz;refine⟨_,rfl,wS_W _ ?_⟩;exists zed (mv.old _ _ (by simpa using ne) e);have sb:Sb ws (ads K (p.take j)):=hs.ads fun x hx=>hp x (List.mem_of_mem_take hx);have:=sb.len;obtain⟨U,h1,v1,g1⟩:=zkn gt (hf.mv mv) (by omega);exists h1;refine⟨_,rfl,mv.trans v1,?_⟩;rw[zc9 ej,zmm];exact g1
 rintro f T h';cases f with|rt d=>exact h'.elim| nx δ=>obtain⟨v,rfl,mv,gt⟩:=h';rw[zero_add,length_map,List.take_length]at gt;rw[zeN mv.lk];exact⟨mv,gt⟩
noncomputable def oths(m:Nat)(i:Int):List Int:=(hnds m).filter fun o=>!decide (o=i)
noncomputable def rowD(i:Int)(k:List Int)(o:Int):D:=.tup [.tup [.int i],.int o,pD k]
theorem zeu(n:Nat):((List.range (n:Int).toNat).map fun(k:Nat)=>D.int k)=(hnds n).map D.int:=by unfold hnds;rw[List.map_map];rfl
theorem zkf(m:Nat)(i:Int)(f:Int->D)(q:D->Bool)(g:D->D)(h:∀o,q (.int o) = !decide (o=i))(hg:∀o,g (.int o)=f o):(((hnds m).map D.int).filter q).map g=(oths m i).map f:=by unfold oths;rw[List.filter_map,List.map_map];have e1:(q∘D.int)=fun o=>!decide (o=i):=funext h;have e2:(g∘D.int)=f:=funext hg;rw[e1,e2]
theorem zcw(m:Nat)(i:Int):(oths m i).length<=m:=by
 have:=length_filter_le (fun o=>!decide (o=i)) (hnds m);have l:(hnds m).length=m:=by simp[hnds]
 unfold oths;omega
theorem zqL{m:Nat}(e:S.get a=some (hD i m r wb hr en))(g:S.get wb=some (.dic (kvD K)))(hl:K.length<64)(m7:m<=7) :
  appW (callF prog (n+2)) 34 [.ref a,t] S=.ok (.ref (S.push (.lst ((zak K).map .int))).len) ((S.push (.lst ((zak K).map .int))).push (.lst ((oths m i).map (rowD i (zak K))))):=by
 apply zbn rfl rfl;exists zau e;exists rfl;change rfl;specialize zgq e g hl;exists zac _ _;change by rw[length_map,za5];omega
 have e':=zaf (o:=.lst ((zak K).map D.int)) e;exists zkg e';change by omega
 apply zaw;refine W.of (zbp (fun d=>match d with|.int o=>!decide (o=i)|_=>false) (fun d=>match d with|.int o=>rowD i (zak K) o|_=>d) _ none (fun z hz=>?_) (fun z hz _=>?_)) ?_;obtain⟨o,_,rfl⟩:=mem_map.mp hz;refine W.eq (wT_W _ ?_);exists zc6 e';exact⟨rfl,rfl⟩;obtain⟨o,_,rfl⟩:=mem_map.mp hz;refine W.eq (wE_W _ ?_);exists zc6 e';change by first|decide|omega|(simp;done)|(simp;omega)
 change by first|decide|omega|(simp;done)|(simp;omega)
 exact⟨rfl,rfl⟩;rw[zeu,zkf m i (rowD i (zak K)) _ _ (fun o=>rfl) (fun o=>rfl)];have:=zcw m i;change by simp;omega
 change by simp;omega
 exact⟨rfl,rfl⟩
end
theorem zmf(h:ns.Nodup):dedup ns=ns:=by
 suffices ∀(l acc:List Int),(acc++l).Nodup->l.foldl (fun acc x=>if acc.contains x then acc else acc++[x]) acc=acc++l from this ns [] h
 intro l;induction l with
 |nil=>intro acc _;simp| cons x l ih=>
  intro acc h;rw[List.foldl_cons];have hx:acc.contains x=false:=by have:=(nodup_append.mp h).2.2;simp;exact fun hm=>this x hm x mem_cons_self rfl
  rw[hx];simp only[Bool.false_eq_true,if_false];rw[ih (acc++[x]) (by simpa using h)];simp
theorem zkr(ns:List Int)(x:Int):x∈dedup ns↔x∈ns:=by
 unfold dedup;suffices ∀(l acc:List Int),x∈l.foldl (fun acc x=>if acc.contains x then acc else acc++[x]) acc↔x∈acc\/x∈l from by simpa using this ns []
 intro l;induction l with
 |nil=>intro acc;simp| cons y l ih=>
  intro acc;rw[List.foldl_cons,ih];by_cases c:acc.contains y=true;rw[if_pos c];have c:y∈acc:=by simpa using c
  constructor;rintro(h|h);exact .inl h;exact .inr (mem_cons_of_mem _ h);rintro(h|h);exact .inl h;rcases mem_cons.mp h with e|e;subst e;exact .inl c;exact .inr e;rw[if_neg c];simp[or_assoc]
theorem zhq:∀p q:List Int,PySem.PyData.eqvAll (p.map PySem.PyData.int) (q.map PySem.PyData.int)=decide (p=q)
 | [],[]=>by simp[PySem.PyData.eqvAll]| [],_::_=>by simp[PySem.PyData.eqvAll]|_::_,[]=>by simp[PySem.PyData.eqvAll]| a::p,b::q=>by rw[map_cons,map_cons,PySem.PyData.eqvAll,L2.eqv_int,zhq p q];by_cases h:a=b<;>by_cases k:p=q<;>simp[h]
theorem zeC(S:R.St)(n:Nat):∀p:List Int,(p.map D.int).mapM (pd S n)=some (p.map PySem.PyData.int)
 | []=>rfl| a::p=>by rw[map_cons,mapM_cons,zeC S n p];cases n<;>rfl
theorem zoc(S:R.St)(n:Nat)(p:List Int):pd S (n+1) (pD p)=some (.tuple (p.map .int)):=by unfold pd;rw[zeC];rfl
theorem zoK(S:R.St)(p q:List Int):cmpO S .Eq (pD p) (pD q)=some (decide (p=q)):=by show eqD S (pD p) (pD q)=_;unfold eqD;rw[zoc,zoc,bind_some,Option.map_some,PySem.PyData.eqv,zhq]
abbrev Ltr:=Int×Option (List Int)
noncomputable def tD:Option (List Int)->D|none=>.non|some p=>pD p
noncomputable def ltD(x:Ltr):D:=.tup [.tup [.int x.1],tD x.2]
noncomputable def lrn1(K:List Int)(x:Ltr):List Int:=match x.2 with|none=>K|some p=>ads K p
noncomputable def lrn(K:List Int)(Ls:List Ltr):List Int:=Ls.foldl lrn1 K
noncomputable def wrs(Ls:List Ltr):List Int:=Ls.filterMap fun x=>x.2.map fun _=>x.1
noncomputable def bfZ(m:Nat)(Hs:List (List Int)):List Int:=Hs.getLast?.getD (hnds m)
theorem zdn(h:S.get l=some (.lst (ks.map .int))):lstI S (.ref l)=some ks:=by unfold lstI;dsimp only;rw[h];exact zdv ks
def LOk(ws:List Int)(Ls:List Ltr):Prop:=∀x∈Ls,∀p,x.2=some p->p.length<=10/\∀w∈p,w∈ws
theorem Sb.lrn:∀{Ls:List Ltr}{K:List Int},Sb ws K->LOk ws Ls->Sb ws (lrn K Ls)
 | [],_,h,_=>h| x::Ls,K,h,hp=>by refine Sb.lrn (K:=lrn1 K x) ?_ fun y hy=>hp y (mem_cons_of_mem _ hy);unfold lrn1;cases e:x.2 with|none=>exact h|some p=>exact h.ads (hp x mem_cons_self p e).2
theorem zeM:lrn K (Ls++[x])=lrn1 (lrn K Ls) x:=by unfold lrn;rw[List.foldl_append];rfl
noncomputable def wr1(x:Ltr):List Int:=match x.2 with|none=>[]|some _=>[x.1]
theorem zgK:wrs (Ls++[x])=wrs Ls++wr1 x:=by unfold wrs wr1;cases e:x.2<;>simp[e]
theorem zei(Ls:List Ltr):(wrs Ls).length<=Ls.length:=List.length_filterMap_le _ _
noncomputable def hdZ(l:List Int):Int:=l.headD 0
theorem zmH:∀{l:List Int},l.Pairwise (·<=·)->l≠[]->minZ l=some (hdZ l)
 | [],_,h=>absurd rfl h| x::l,hp,_=>by unfold minZ;cases l with|nil=>rfl| cons y l'=>have hp':=pairwise_cons.mp hp;rw[zmH hp'.2 (by simp)];exact congrArg some (if_pos (hp'.1 y mem_cons_self))
noncomputable def nowZ(i:Int)(Ls:List Ltr):List Int:=zak (dedup (i::wrs Ls))
noncomputable def enZ(en:Option (Int×Int))(t r:Int)(now bf K:List Int):Option (Int×Int):=match en with|some e=>some e|none=>if now=bf\/r<=t then some (t,hdZ (zak K)) else none
theorem Mv.lock(h:Mv A {S with lk:=l} T):Mv A S {T with lk:=S.lk}:=⟨h.frz,rfl,h.len,fun m o hm e=>h.old m o hm e⟩
section
variable{S:R.St}{a wb hr n q:Nat}{i r t:Int}{m:Nat}{en:Option (Int×Int)}{K ws:List Int}{Hs:List (List Int)}{Ls:List Ltr}
theorem zma(e:S.get a=some (hD i m r wb hr en))(g:S.get hr=some (.lst (Hs.map pD)))(m7:m<=7) :
  evE cf (.ite (.tst (.fld Y0 "hearings")) (.ix (.fld Y0 "hearings") (.neg Z1)) (.mkT (.rng1 (.fld Y0 "many")))) [some (.ref a),x3,x4,x5,x6,x7,x8] S=.ok (pD (bfZ m Hs)) S:=by
 refine W.eq (wE_W _ ?_);rcases List.eq_nil_or_concat Hs with rfl|⟨H0,x,rfl⟩;left;exists zbc e;exists g;exists zkg e;change by omega
 change by simp;omega
 refine⟨?_,rfl⟩;show D.tup _=pD (hnds m);rw[zeu];rw[List.concat_eq_append]at g⊢;rw[map_append]at g;exists zbc e;exists g;apply ziC (by simp);exists zbc e;exists g;exists zhB _ _;exact⟨by simp[bfZ],rfl⟩
noncomputable def zsv:CS:=(.ifS (.cmp .IsNot Y6 (.con D.non)) (.expr (.mt .append Y4 #[.ix Y5 (.neg Z1)]) (.expr (.meth "learn" [(0,33)] Y0 #[Y6]) .nil)) .nil .nil)
def HI(S:R.St)(a wb q L:Nat)(i t:Int)(bf K:List Int)(Ls:List Ltr)(j:Nat)(δ:Ev)(T:R.St):Prop:=∃v5 v6,δ=[some (.ref a),some (.int t),some (.ref q),some (pD bf),some (.ref L),v5,v6]/\Mv [wb,L] S T/\T.get wb=some (.dic (kvD (lrn K (Ls.take j))))/\T.get L=some (.lst ((i::wrs (Ls.take j)).map .int))
theorem zq8{m:Int}(e:S.get a=some (hD i m r wb hr en))(hfw:Fr S wb)(hfl:Fr S L)(ne1:a≠wb)(ne2:a≠L)(ne3:wb≠L)(hs:Sb ws K)(hw:ws.length<=1000)(ok:LOk ws Ls)(hl:Ls.length<=50)(hx:Ls[j]?=some x)(h:HI S a wb q L i t bf K Ls j δ T) :
  ∃δ',asgG [5,6] (ltD x) δ=some δ'/\W (exS (callF prog (n+1)) zsv δ' T) fun f T'=>match f with|.nx δ2=>HI S a wb q L i t bf K Ls (j+1) δ2 T'|.rt _=>False:=by
 obtain⟨v5,v6,rfl,mv,gw,gl⟩:=h;refine⟨[some (.ref a),some (.int t),some (.ref q),some (pD bf),some (.ref L),some (.tup [.int x.1]),some (tD x.2)],rfl,wS_W _ ?_⟩;have sb:Sb ws (lrn K (Ls.take j)):=hs.lrn fun y hy=>ok y (List.mem_of_mem_take hy);have hxm:x∈Ls:=mem_of_getElem? hx;have hK:lrn K (Ls.take (j+1))=lrn1 (lrn K (Ls.take j)) x:=by rw[zc9 hx,zeM]
 have hW:wrs (Ls.take (j+1))=wrs (Ls.take j)++wr1 x:=by rw[zc9 hx,zgK]
 obtain⟨x1,x2⟩:=x;cases x2 with
 |none=>refine⟨_,_,rfl,mv,?_,?_⟩;rw[hK];exact gw;rw[hW];simpa[wr1]using gl| some p=>
  exists gl;exists rfl;exists gl;have l1:=zei (Ls.take j);have l2:=List.length_take_le' j Ls;change by simp;omega
  obtain⟨U,h1,v1,g1⟩:=zbf (u:=.lst ((i::wrs (Ls.take j)).map D.int++[.int x1])) (hfl.mv mv) gl;exists h1;have eU:U.get a=some (hD i m r wb hr en):=v1.old _ _ (by simpa using ne2) (mv.old _ _ (by simp[ne1,ne2]) e);have gU:=v1.old _ _ (by simpa using ne3) gw;exists zau eU;exists rfl;change rfl;refine za4 ((zom eU gU ((hfw.mv mv).mv v1) sb hw (ok _ hxm p rfl).2).mono fun d V ⟨v2,g2⟩=>?_);refine⟨_,_,rfl,(mv.trans (v1.up (by simp))).trans (v2.up (by simp)),?_,?_⟩;rw[hK];exact g2;rw[hW,v2.old _ _ (by simpa using ne3.symm) g1];simp[wr1]
noncomputable def zsu:CS:=(.expr (.mt .append (.fld Y0 "hearings") #[.mkT (.val (.sset Y4))]) (.ifS (.and (.cmp .Is (.fld Y0 "end") (.con D.non)) (.or (.cmp .Eq (.ix (.fld Y0 "hearings") (.neg Z1)) Y3) (.cmp .GtE Y1 (.fld Y0 "rounds")))) (.setF Y0 "end" (.tup #[Y1,.min1 (.meth "known" [(0,32),(2,43)] Y0 .nil)]) .nil) .nil .nil))
theorem znp{m:Int}(e:S.get a=some (hD i m r wb hr en))(hf:Fr S a):∃T,zbB S (.ref a) "end" (eD en')=some T/\Mv [a] S T/\T.get a=some (hD i m r wb hr en'):=zbd e hf (by simp) rfl
theorem zq9{m:Int}(e:S.get a=some (hD i m r wb hr en))(hfa:Fr S a)(hfh:Fr S hr)(gw:S.get wb=some (.dic (kvD K)))(gl:S.get L=some (.lst (w.map .int)))(gh:S.get hr=some (.lst (Hs.map pD)))(hl:w.length<64)(hK:K.length<64)(hK0:K≠[])(hH:Hs.length<=50) :
  W (exS (callF prog (n+1)) zsu [some (.ref a),some (.int t),some dq,some (pD bf),some (.ref L),d5,d6] S) fun f T=>match f with|.nx _=>Mv [a,hr] S T/\T.get a=some (hD i m r wb hr (enZ en t r (zak (dedup w)) bf K))/\T.get hr=some (.lst ((Hs++[zak (dedup w)]).map pD))|.rt _=>False:=by
 have ne:a≠hr:=fun z=>by rw[z,gh]at e;cases e
 have nw:wb≠hr:=fun z=>by rw[z,gh]at gw;cases gw
 apply wS_W _;exists zbc e;exists gh;exists zdn gl;change hl;have hd:(zak (dedup w)).length<=w.length:=by rw[za5];exact zeE (zdB w) fun x hx=>(zkr w x).mp hx
 change by rw[length_map];omega
 exists zac _ _;change by show(List.map D.int (zak (dedup w))).length<=_;rw[length_map];omega
 have e1:=zaf (o:=.lst ((zak (dedup w)).map D.int)) e;have gh1:=zaf (o:=.lst ((zak (dedup w)).map D.int)) gh;have gw1:=zaf (o:=.lst ((zak (dedup w)).map D.int)) gw;have mp:=Mv.push [a,hr] S (.lst ((zak (dedup w)).map D.int));exists gh1;change by simp;omega
 obtain⟨U,h1,v1,g1⟩:=zbf (u:=.lst (Hs.map pD++[pD (zak (dedup w))])) (hfh.mv mp) gh1;exists h1;have e2:=v1.old _ _ (by simpa using ne) e1;have gw2:=v1.old _ _ (by simpa using nw) gw1;have m2:=mp.trans (v1.up (by simp));exists zrg e2;have fin:enZ en t r (zak (dedup w)) bf K=en->Mv [a,hr] S U/\U.get a=some (hD i m r wb hr (enZ en t r (zak (dedup w)) bf K))/\U.get hr=some (.lst ((Hs++[zak (dedup w)]).map pD)):=fun z=>⟨m2,by rw[z];exact e2,by rw[map_append];exact g1⟩;have set:(zak (dedup w)=bf\/r<=t)->en=none->wS (callF prog (n+1)) (.setF Y0 "end" (.tup #[Y1,.min1 (.meth "known" [(0,32),(2,43)] Y0 .nil)]) .nil) [some (.ref a),some (.int t),some dq,some (pD bf),some (.ref L),d5,d6] U fun f T=>match f with|.nx _=>Mv [a,hr] S T/\T.get a=some (hD i m r wb hr (enZ en t r (zak (dedup w)) bf K))/\T.get hr=some (.lst ((Hs++[zak (dedup w)]).map pD))|.rt _=>False:=by
  intro hc hn;exists zau e2;exists rfl;change rfl;specialize zgq e2 gw2 hK;exists zdn (zac _ _);exists zmH (zaN K) (fun z=>hK0 (by have:=(zay K).length_eq;rw[z]at this;exact length_eq_zero_iff.mp this.symm));change by first|decide|omega|(simp;done)|(simp;omega)
  have e3:=zaf (o:=.lst ((zak K).map D.int)) e2;have g3:=zaf (o:=.lst ((zak K).map D.int)) g1;have m3:=m2.trans (Mv.push [a,hr] U (.lst ((zak K).map D.int)));obtain⟨V,h4,v4,g4⟩:=znp (en':=some (t,hdZ (zak K))) e3 (hfa.mv m3);exists h4;refine⟨m3.trans (v4.up (by simp)),?_,?_⟩;rw[g4];unfold enZ;rw[hn];rw[if_pos hc];rw[map_append];exact v4.old _ _ (by simpa using ne.symm) g3
 cases en with| some z=>exact fin rfl| none=>exists zbc e2;exists g1;exists zhB _ _;exists zoK _ _ _;refine zek (fun c=>?_) (fun c=>?_);exact set (.inl c) rfl;left;exists zhp e2;refine zek (fun c2=>?_) (fun c2=>?_);exact set (.inr c2) rfl;exact fin (by unfold enZ;dsimp only;rw[if_neg (by rintro(z|z);exact c z;exact c2 z)])
end
theorem zbu(h:evL cf l δ S=.ok (xs,ls) S1)
  (w:W (zaB g (exS cf b) xs δ {S1 with lk:=ls++S1.lk}) fun f T=>match f with|.nx δ'=>W (exS cf r δ' {T with lk:=S1.lk}) Q|.rt d=>Q (.rt d) {T with lk:=S1.lk}):W (exS cf (.forS g l b r) δ S) Q:=by
 rw[exS,h,zaD];unfold zbg;rw[zaa,zaa];refine w.mono fun f T hf=>?_;cases f with|nx δ'=>exact hf|rt d=>exact hf
theorem zlQ:w∈lrn1 K x↔w∈K\/∃p,x.2=some p/\w∈p:=by unfold lrn1;cases e:x.2 with|none=>simp|some p=>simp[zjw]
theorem mem_lrn:∀{Ls:List Ltr}{K:List Int},w∈lrn K Ls↔w∈K\/∃x∈Ls,∃p,x.2=some p/\w∈p
 | [],K=>by simp[lrn]| x::Ls,K=>by show w∈lrn (lrn1 K x) Ls↔_;rw[mem_lrn,zlQ,or_assoc];simp
theorem zmJ(h:K≠[]):lrn K Ls≠[]:=by obtain⟨x,r,rfl⟩:=List.exists_cons_of_ne_nil h;exact List.ne_nil_of_mem (mem_lrn.mpr (.inl (mem_cons_self)))
section
variable{S:R.St}{a wb hr n q:Nat}{i r t:Int}{m:Nat}{en:Option (Int×Int)}{K ws:List Int}{Hs:List (List Int)}{Ls:List Ltr}
theorem zmI(e:S.get a=some (hD i m r wb hr en))(hfa:Fr S a)(hfw:Fr S wb)(hfh:Fr S hr)(hlk:S.lk.contains S.len=false)(gw:S.get wb=some (.dic (kvD K)))(gh:S.get hr=some (.lst (Hs.map pD)))(gq:S.get q=some (.lst (Ls.map ltD)))(m7:m<=7)(hs:Sb ws K)(hw:ws.length<64)(ok:LOk ws Ls)(hl:Ls.length<=50)(hK0:K≠[])(hH:Hs.length<=50) :
  W (appW (callF prog (n+2)) 30 [.ref a,.int t,.ref q] S) fun d T=>d=.non/\Mv [a,wb,hr] S T/\T.get a=some (hD i m r wb hr (enZ en t r (nowZ i Ls) (bfZ m Hs) (lrn K Ls)))/\T.get wb=some (.dic (kvD (lrn K Ls)))/\T.get hr=some (.lst ((Hs++[nowZ i Ls]).map pD)):=by
 have na:a≠wb:=fun z=>by rw[z,gw]at e;cases e
 have nq:wb≠q:=fun z=>by rw[z,gq]at gw;cases gw
 have nh:hr≠wb:=fun z=>by rw[z,gw]at gh;cases gh
 have nz:wb≠S.len:=fun z=>by have:=zai gw;omega
 have nz2:a≠S.len:=fun z=>by have:=zai e;omega
 have nz4:q≠S.len:=fun z=>by have:=zai gq;omega
 have hff:S.frz.length<=S.len:=by unfold St.len;omega
 apply zbF rfl rfl;apply zaH (zma e gh m7);refine zaH (d:=.ref S.len) (S':=S.push (.lst [.int i])) (W.eq (wE_W _ ?_)) ?_;left;exists zc6 e;change by first|decide|omega|(simp;done)|(simp;omega)
 exact⟨rfl,rfl⟩;refine zbu (xs:=Ls.map ltD) (ls:=[q]) (S1:=S.push (.lst [.int i])) (W.eq (wL_W _ ?_)) ?_;left;exists zaf gq;exact⟨rfl,rfl⟩;refine W.mono (zcD (fun j δ T=>HI {S.push (.lst [.int i]) with lk:=[q]++(S.push (.lst [.int i])).lk} a wb q S.len i t (bfZ m Hs) K Ls j δ T) (fun _ _=>False) _ 0 _ _ ⟨none,none,rfl,Mv.refl _ _,by rw[List.take_zero];exact zaf gw,by rw[List.take_zero];exact zac _ _⟩ ?_) ?_;rintro j z δ T hz hI;rw[zero_add]at hI⊢;rw[getElem?_map]at hz;cases ej:Ls[j]? with
 |none=>rw[ej]at hz;cases hz
 |some x=>rw[ej]at hz;cases hz;refine zq8 (zaf e) ?_ ?_ na nz2 nz hs (by omega) ok hl ej hI;exact⟨hfw.f,by show((q::S.lk).contains wb)=false;rw[contains_cons,hfw.k,Bool.or_false];simpa using nq⟩;exact⟨hff,by show((q::S.lk).contains S.len)=false;rw[contains_cons,hlk,Bool.or_false];simpa using nz4.symm⟩
 rintro f T hI;cases f with|rt d=>exact hI.elim| nx δ=>obtain⟨v5,v6,rfl,mv,g1,g2⟩:=hI;rw[zero_add,length_map,List.take_length]at g1 g2;have mv:=mv.lock;have mS:Mv [wb] S {T with lk:=(S.push (.lst [.int i])).lk}:=zjt (mv.up (by intro z hz;simp at hz⊢;exact hz.symm));have sb:=hs.lrn ok;have sl:=sb.len;have wl:=zei Ls;refine W.mono (zq9 (mS.old _ _ (by simpa using na) e) (hfa.mv mS) (hfh.mv mS) g1 g2 (mS.old _ _ (by simpa using nh) gh) (by rw[length_cons];omega) (by omega) (zmJ hK0) hH) fun f U hU=>?_;cases f with|rt d=>exact hU.elim| nx δ'=>obtain⟨u1,u2,u3⟩:=hU;exact⟨rfl,(mS.up (by simp)).trans (u1.up (by intro z hz;simp at hz⊢;rcases hz with z|z<;>simp[z])),u2,u1.old _ _ (by simp[na.symm,nh.symm]) g1,u3⟩
theorem zon{m:Int}(e:S.get a=some (.ins 0 []))(hf:Fr S a):W (appW (callF prog (n+1)) 45 [.ref a,.int i,.int m,.int r] S) fun d T=>Mv [a] S T/\T.get a=some (.ins 0 [("number",.int i),("many",.int m),("rounds",.int r)]):=by refine zbF rfl rfl (wS_W _ ?_);obtain⟨T1,h1,v1,g1⟩:=zbd (gs:=[("number",.int i)]) e hf (by simp) rfl;obtain⟨T2,h2,v2,g2⟩:=zbd (f:="many") (gs:=[("number",.int i),("many",.int m)]) g1 (hf.mv v1) (by simp) rfl;obtain⟨T3,h3,v3,g3⟩:=zbd (f:="rounds") g2 ((hf.mv v1).mv v2) (by simp) rfl;exists h1;exists h2;exists h3;exact⟨(v1.trans v2).trans v3,g3⟩
theorem zqM{m:Int}(e:S.get a=some (.ins 0 []))(hf:Fr S a):W (appW (callF prog (n+2)) 28 [.ref a,.int i,.int m,.int r,.int w] S) fun d T=>d=.non/\Mv [a] S T/\∃wb hr,S.len<=wb/\S.len<=hr/\T.get a=some (hD i m r wb hr none)/\T.get wb=some (.dic (kvD [w]))/\T.get hr=some (.lst []):=by
 refine zbF rfl rfl (wS_W _ ?_);refine za4 ((zon e hf).mono fun d T ⟨v1,g1⟩=>?_);have m1:=v1.trans (Mv.push [a] T (.dic [(w,.bl true)]));have g1':=zaf (o:=.dic [(w,.bl true)]) g1;have gw:=zac T (.dic [(w,.bl true)]);have l1:=v1.len;have al:=zai e;have hwb:S.len<=T.len:=l1;generalize hT2:T.push (.dic [(w,.bl true)])=T2 at *;obtain⟨T3,h3,v3,g3⟩:=zbd (f:="wordbook") (gs:=[("number",.int i),("many",.int m),("rounds",.int r),("wordbook",.ref T.len)]) g1' (hf.mv m1) (by simp) rfl;exists rfl;have h3':zbB (T.push (.dic [(w,.bl true)])) (.ref a) "wordbook" (.ref T.len)=some T3:=by rw[hT2];exact h3
 exists h3';change by first|decide|omega|(simp;done)|(simp;omega)
 have m3:=m1.trans v3;have l3:=m3.len;have gw3:=v3.old _ _ (by simp;omega) gw;have g3':=zaf (o:=.lst []) g3;have gw3':=zaf (o:=.lst []) gw3;have gh3:=zac T3 (.lst []);have m3':=m3.trans (Mv.push [a] T3 (.lst []));obtain⟨T4,h4,v4,g4⟩:=zbd (f:="hearings") (gs:=[("number",.int i),("many",.int m),("rounds",.int r),("wordbook",.ref T.len),("hearings",.ref T3.len)]) g3' (hf.mv m3') (by simp) rfl;exists h4;obtain⟨T5,h5,v5,g5⟩:=zbd (f:="end") g4 ((hf.mv m3').mv v4) (by simp) rfl;exists h5;have v45:=v4.trans v5;exact⟨rfl,m3'.trans v45,T.len,T3.len,hwb,l3,g5,v45.old _ _ (by simp;omega) gw3',v45.old _ _ (by simp;omega) gh3⟩
end
section
variable{S:R.St}{a c n:Nat}{i m r last:Int}{rs:List Int}
noncomputable def cD(i m r:Int)(a:Nat)(last:Int)(rs:List Int):MO:=.ins 1 [("number",.int i),("many",.int m),("rounds",.int r),("inner",.ref a),("last",.int last),("reached",pD rs)]
noncomputable def rch(last:Int)(rs:List Int)(t o:Int):Bool:=decide (t<last)||(decide (t=last)&&decide (o∈rs))
theorem zq3(S:R.St)(x:Int)(ks:List Int):cmpO S .In (.int x) (.tup (ks.map .int))=some (decide (x∈ks)):=by show((some (ks.map D.int)).bind fun ys=>inD S (.int x) ys)=_;rw[bind_some,zhj]
theorem zkI(e:S.get c=some (cD i m r a last rs)):((zbh S (.ref c)).bind fun p=>p.2.lookup ("last":PySem.Str))=some (.int last):=zbO e rfl
theorem zkM(e:S.get c=some (cD i m r a last rs)):((zbh S (.ref c)).bind fun p=>p.2.lookup ("inner":PySem.Str))=some (.ref a):=zbO e rfl
theorem zkG(e:S.get c=some (cD i m r a last rs)):((zbh S (.ref c)).bind fun p=>p.2.lookup ("reached":PySem.Str))=some (pD rs):=zbO e rfl
theorem zjx(e:S.get c=some (cD i m r a last rs)):appW (callF prog (n+1)) 37 [.ref c,.int t,.int o] S=.ok (.bl (rch last rs t o)) S:=by apply zbn rfl rfl;exists zkI e;refine zek (fun h1=>?_) (fun h1=>?_);left;exact⟨by simp[rch,h1],rfl⟩;left;exists zkI e;refine zek (fun h2=>?_) (fun h2=>?_);left;exists zkG e;exists zq3 _ _ _;exact⟨by simp[rch,h2],rfl⟩;left;exact⟨by simp[rch,h1,h2],rfl⟩
end
theorem ziF{rest:Ev}(f:D->D):∀(xs:List D)(o1 o2 o3:Option D),
  (∀x∈xs,∃p q w,x=.tup [p,q,w]/\c (some p::some q::some w::rest) S=.ok true S/\e (some p::some q::some w::rest) S=.ok (f x) S)->zaI [0,1,2] c e xs (o1::o2::o3::rest) S=.ok (xs.map f) S
 | [],_,_,_,_=>rfl| x::xs,o1,o2,o3,h=>by obtain⟨p,q,w,rfl,h1,h2⟩:=h x (by simp);have ih:=ziF f xs (some p) (some q) (some w) fun y hy=>h y (by simp[hy]);have eg:asgG [0,1,2] (.tup [p,q,w]) (o1::o2::o3::rest)=some (some p::some q::some w::rest):=rfl;simp[zaI,eg,h1,zaD,if_true,h2,ih,map_cons]
noncomputable def rowC(i:Int)(k:List Int)(last:Int)(rs:List Int)(t o:Int):D:=.tup [.tup [.int i],.int o,if rch last rs t o=true then pD k else .non]
section
variable{S:R.St}{a c wb hr n:Nat}{i r last t:Int}{rs K:List Int}{en:Option (Int×Int)}{m:Nat}
theorem zqN(ec:S.get c=some (cD i m r a last rs))(e:S.get a=some (hD i m r wb hr en))(g:S.get wb=some (.dic (kvD K)))(hl:K.length<64)(m7:m<=7) :
  W (appW (callF prog (n+3)) 38 [.ref c,.int t] S) fun d T=>∃l,d=.ref l/\Mv [] S T/\S.len<=l/\T.get l=some (.lst ((oths m i).map (rowC i (zak K) last rs t))):=by
 refine zbF rfl rfl (wS_W _ ?_);exists zkM ec;exists zau e;exists rfl;change rfl;specialize zqL e g hl m7;exists zac _ _;apply zaw;have ho:=zcw m i;generalize hU:((S.push (.lst ((zak K).map D.int))).push (.lst ((oths m i).map (rowD i (zak K)))))=U;have mU:Mv [] S U:=by rw[<-hU];exact(Mv.push [] _ _).trans (Mv.push [] _ _)
 have ecU:U.get c=some (cD i m r a last rs):=mU.old _ _ (by simp) ec;refine W.of (ziF (fun d=>match d with|.tup [p,.int o,_]=>.tup [p,.int o,if rch last rs t o=true then pD (zak K) else .non]|_=>d) _ none none none (fun x hx=>?_)) ?_;obtain⟨o,_,rfl⟩:=mem_map.mp hx;refine⟨_,_,_,rfl,rfl,W.eq (wE_W _ ?_)⟩;exists zau ecU;exists rfl;change rfl;specialize zjx ecU;cases hr:rch last rs t o with
 |true=>
  change by first|decide|omega|(simp;done)|(simp;omega)
  exact⟨by show _=D.tup [.tup [.int i],.int o,if rch last rs t o=true then pD (zak K) else .non];rw[hr];rfl,rfl⟩
 |false=>
  change by first|decide|omega|(simp;done)|(simp;omega)
  exact⟨by show _=D.tup [.tup [.int i],.int o,if rch last rs t o=true then pD (zak K) else .non];rw[hr];rfl,rfl⟩
 rw[List.map_map];change by simp;omega
 change by simp;omega
 exact⟨_,rfl,mU.trans (Mv.push [] _ _),mU.len,zac _ _⟩
end
section
variable{S:R.St}{a c wb hr q n m:Nat}{i r last t:Int}{rs K ws:List Int}{en:Option (Int×Int)}{Hs:List (List Int)}{Ls:List Ltr}
theorem zos(ec:S.get c=some (cD i m r a last rs))(e:S.get a=some (hD i m r wb hr en))(hfa:Fr S a)(hfw:Fr S wb)(hfh:Fr S hr)(hlk:S.lk.contains S.len=false)(gw:S.get wb=some (.dic (kvD K)))(gh:S.get hr=some (.lst (Hs.map pD)))(gq:S.get q=some (.lst (Ls.map ltD)))(m7:m<=7)(hs:Sb ws K)(hw:ws.length<64)(ok:LOk ws Ls)(hl:Ls.length<=50)(hK0:K≠[])(hH:Hs.length<=50) :
  W (appW (callF prog (n+3)) 36 [.ref c,.int t,.ref q] S) fun d T=>d=.non/\Mv [a,wb,hr] S T/\(t<last->T.get a=some (hD i m r wb hr (enZ en t r (nowZ i Ls) (bfZ m Hs) (lrn K Ls)))/\T.get wb=some (.dic (kvD (lrn K Ls)))/\T.get hr=some (.lst ((Hs++[nowZ i Ls]).map pD)))/\(¬t<last->T=S):=by
 refine zbF rfl rfl (wS_W _ ?_);exists zkI ec;refine zek (fun h1=>?_) (fun h1=>?_);left;exists zkM ec;exists zau e;exists rfl;change rfl;refine za4 ((zmI e hfa hfw hfh hlk gw gh gq m7 hs hw ok hl hK0 hH).mono fun d T hT=>?_);exact⟨rfl,hT.2.1,fun _=>hT.2.2,fun z=>absurd h1 z⟩;left;exact⟨rfl,Mv.refl _ _,fun z=>absurd z h1,fun _=>rfl⟩
end
structure Pt where
 a:Nat
 wb:Nat
 hr:Nat
 cr:Option (Nat×Int×List Int)
structure Hn where
 K:List Int
 H:List (List Int)
 en:Option (Int×Int)
noncomputable def Pt.who(p:Pt):Nat:=match p.cr with|none=>p.a|some x=>x.1
noncomputable def Pt.rch(p:Pt)(t o:Int):Bool:=match p.cr with|none=>true|some x=>Kz.rch x.2.1 x.2.2 t o
def Pt.on(p:Pt)(t:Int):Prop:=match p.cr with|none=>True|some x=>t<x.2.1
structure Tw(S:R.St)(m:Nat)(r:Int)(ps:List Pt)(hs:List Hn):Prop where
 lp:ps.length=m
 lh:hs.length=m
 hand:∀(j:Nat) p h,ps[j]?=some p->hs[j]?=some h->S.get p.a=some (hD j m r p.wb p.hr h.en)/\S.get p.wb=some (.dic (kvD h.K))/\S.get p.hr=some (.lst (h.H.map pD))
 cra:∀(j:Nat) p c last rs,ps[j]?=some p->p.cr=some (c,last,rs)->S.get c=some (cD j m r p.a last rs)
noncomputable def zkY(k:List Int)(b:Bool):D:=if b=true then pD k else .non
noncomputable def letD(t j:Int)(k:List Int)(o:Int)(b:Bool):D:=.tup [.int t,.tup [.int j],.int o,zkY k b]
noncomputable def zff(m:Nat)(t:Int)(j:Nat)(p:Pt)(h:Hn):List D:=(oths m j).map fun o=>letD t j (zak h.K) o (p.rch t o)
noncomputable def rowP(j:Int)(k:List Int)(o:Int)(b:Bool):D:=.tup [.tup [.int j],.int o,zkY k b]
noncomputable abbrev Es(t:Int)(x:D)(l:Nat)(c d e f g:Option D):Ev:=[some (.int t),some x,some .non,some (.ref l),c,d,e,f,g]
noncomputable def sIn:CS:=.expr (.mt .append Y3 #[.tup #[Y0,Y6,.ite (.cmp .Is Y2 (.con D.non)) Y7 (.ix (.ix Y2 Y4) Y7),Y8]]) .nil
theorem zmM{B:Int->Bool}:∀(os:List Int)(acc:List D)(T:R.St)(e f g:Option D),T.get l=some (.lst acc)->Fr T l->acc.length+os.length<=1000->
  W (zaB [6,7,8] (exS cf sIn) (os.map fun o=>rowP j k o (B o)) (Es t x l c d e f g) T) fun fl U=>(∃e f g,fl=.nx (Es t x l c d e f g))/\U.get l=some (.lst (acc++os.map fun o=>letD t j k o (B o)))/\Mv [l] T U
 | [],acc,T,e,f,g,h,hf,hl=>by show W (Out.ok (Fl.nx _) T) _;rw[W_ok];exact⟨⟨e,f,g,rfl⟩,by simpa using h,Mv.refl _ _⟩| o::os,acc,T,e,f,g,h,hf,hl=>by
  simp at hl;show W (Out.bind (exS cf sIn (Es t x l c d (some (.tup [.int j])) (some (.int o)) (some (zkY k (B o)))) T) _) _;rw[zaa];apply wS_W _;left;exists h;left;change show 4<=16777216 by decide
  left;exists h;left;change by simp;omega
  left;obtain⟨U,hU,mU,gU⟩:=zbf hf h;exists hU;refine(zmM os (acc++[letD t j k o (B o)]) U _ _ _ gU (hf.mv mU) (by simp;omega)).mono fun fl V hV=>?_;obtain⟨h1,h2,h3⟩:=hV;exact⟨h1,by rw[h2,append_assoc];rfl,mU.trans h3⟩
structure P1(S:R.St)(m:Nat)(r:Int)(j:Nat)(p:Pt)(h:Hn):Prop where
 a:S.get p.a=some (hD j m r p.wb p.hr h.en)
 w:S.get p.wb=some (.dic (kvD h.K))
 g:S.get p.hr=some (.lst (h.H.map pD))
 c:∀c last rs,p.cr=some (c,last,rs)->S.get c=some (cD j m r p.a last rs)
 k:h.K.length<64
theorem P1.mv(x:P1 S m r j p h)(v:Mv A S T)(na:p.a∉A)(nw:p.wb∉A)(nr:p.hr∉A)(nc:∀c last rs,p.cr=some (c,last,rs)->c∉A):P1 T m r j p h:=⟨v.old _ _ na x.a,v.old _ _ nw x.w,v.old _ _ nr x.g,fun c last rs e=>v.old _ _ (nc c last rs e) (x.c c last rs e),x.k⟩
noncomputable def sayL:CL:=.val (.meth "say" [(0,34),(1,38)] Y5 #[Y0])
theorem znF(x1:P1 S m r j p h)(m7:m<=7) :
  W (evL (callF prog (n+3)) sayL (Es t x l c (some (.ref p.who)) e f g) S) fun q T=>∃l',q=((oths m j).map (fun o=>rowP j (zak h.K) o (p.rch t o)),[l'])/\S.len<=l'/\Mv [] S T:=by
 apply wL_W _;obtain⟨pa,pw,ph,pc⟩:=p;cases pc with| none=>exists zau x1.a;exists rfl;change rfl;specialize zqL x1.a x1.w x1.k m7;exists zac _ _;refine⟨_,rfl,?_,(Mv.push [] _ _).trans (Mv.push [] _ _)⟩;rw[plen];omega| some y=>obtain⟨c,last,rs⟩:=y;have hc:=x1.c c last rs rfl;exists zau hc;exists rfl;change rfl;refine za4 ((zqN hc x1.a x1.w x1.k m7).mono fun d T hT=>?_);obtain⟨l',rfl,v,hl,gl⟩:=hT;exists gl;exact⟨_,rfl,hl,v⟩
noncomputable def sOut:CS:=.forS [6,7,8] sayL sIn .nil
noncomputable def enW:Nat->List Pt->List D
 |_,[]=>[]|k,p::ps=>zcv (.int (k:Nat)) (.ref p.who)::enW (k+1) ps
noncomputable def zaS(m:Nat)(t:Int):Nat->List Pt->List Hn->List D
 |k,p::ps,h::hs=>zff m t k p h++zaS m t (k+1) ps hs|_,_,_=>[]
theorem zlg(x1:P1 S m r j p h)(m7:m<=7)(gl:S.get l=some (.lst acc))(hf:Fr S l)(ha:acc.length<=500) :
  W (exS (callF prog (n+3)) sOut (Es t x l (some (.int j)) (some (.ref p.who)) e f g) S) fun fl U=>(∃e f g,fl=.nx (Es t x l (some (.int j)) (some (.ref p.who)) e f g))/\U.get l=some (.lst (acc++zff m t j p h))/\Mv [l] S U:=by
 unfold sOut;rw[exS,zaa];refine(znF x1 m7).mono fun q T hq=>?_;obtain⟨l',rfl,hl,v⟩:=hq;have ho:=zcw m j;have nl:l≠l':=by have:=zai gl;omega
 rw[zaa];unfold zbg;rw[zaa];have g1:({T with lk:=[l']++T.lk}:R.St).get l=some (.lst acc):=v.old _ _ (by simp) gl;have f1:Fr ({T with lk:=[l']++T.lk}:R.St) l:=⟨by show T.frz.length<=l;rw[v.frz];exact hf.f,by
  show(l'::T.lk).contains l=false;rw[contains_cons,v.lk,hf.k,Bool.or_false];simpa using nl⟩
 refine(zmM (oths m j) acc _ e f g g1 f1 (by omega)).mono fun fl U hU=>?_;obtain⟨⟨e',f',g',rfl⟩,h2,h3⟩:=hU;refine⟨⟨e',f',g',rfl⟩,h2,?_⟩;have h3':=h3.lock;exact(v.up (by simp)).trans h3'
theorem ziT(m:Nat)(t:Int)(j:Nat)(p:Pt)(h:Hn):(zff m t j p h).length<=m:=by unfold zff;rw[length_map];exact zcw m j
theorem zfe(m7:m<=7):∀(ps:List Pt)(hs:List Hn)(k:Nat)(acc:List D)(T:R.St)(c d e f g:Option D),ps.length=hs.length->
  (∀i p h,ps[i]?=some p->hs[i]?=some h->P1 T m r (k+i) p h/\p.hr≠l)->T.get l=some (.lst acc)->Fr T l->acc.length+7*ps.length<=500->
  W (zaB [4,5] (exS (callF prog (n+3)) sOut) (enW k ps) (Es t x l c d e f g) T) fun fl U=>(∃c d e f g,fl=.nx (Es t x l c d e f g))/\U.get l=some (.lst (acc++zaS m t k ps hs))/\Mv [l] T U
 | [],[],k,acc,T,c,d,e,f,g,_,_,h2,h3,h4=>by show W (Out.ok (Fl.nx _) T) _;rw[W_ok];exact⟨⟨c,d,e,f,g,rfl⟩,by simpa[zaS]using h2,Mv.refl _ _⟩| p::ps,h::hs,k,acc,T,c,d,e,f,g,h0,h1,h2,h3,h4=>by simp at h0 h4;obtain⟨x1,nr⟩:=h1 0 p h rfl rfl;show W (Out.bind (exS (callF prog (n+3)) sOut (Es t x l (some (.int k)) (some (.ref p.who)) e f g) T) _) _;rw[zaa];refine(zlg x1 m7 h2 h3 (by omega)).mono fun fl U hU=>?_;obtain⟨⟨e',f',g',rfl⟩,g2,v⟩:=hU;have hj:=ziT m t k p h;refine(zfe (r:=r) m7 ps hs (k+1) (acc++zff m t k p h) U _ _ _ _ _ (by omega) (fun i p' h' e1 e2=>?_) g2 (h3.mv v) (by rw[length_append];omega)).mono fun fl V hV=>?_;obtain⟨y1,ny⟩:=h1 (i+1) p' h' (by simpa using e1) (by simpa using e2);rw[show k+1+i=k+(i+1) by omega];refine⟨y1.mv v ?_ ?_ (by simpa using ny) ?_,ny⟩;simp;intro z;have:=y1.a;rw[z,h2]at this;cases this;simp;intro z;have:=y1.w;rw[z,h2]at this;cases this;intro c' last rs ec;simp;intro z;have:=y1.c c' last rs ec;rw[z,h2]at this;cases this;obtain⟨a1,a2,a3⟩:=hV;exact⟨a1,by rw[a2,append_assoc];rfl,v.trans a3⟩
theorem zgy:∀(ps:List Pt)(k:Nat),(ps.map fun p=>D.ref p.who).mapIdx (fun i d=>zcv (.int ((i+k:Nat):Int)) d)=enW k ps
 | [],_=>rfl| p::ps,k=>by rw[map_cons,List.mapIdx_cons,enW,<-zgy ps (k+1),zero_add];congr 2;funext i d;rw[show i+1+k=i+(k+1) by omega]
theorem ziS:c_said_in.body=.asg 3 (.lst .nil) (.forS [4,5] (.enum Y1) sOut (.ret Y3 .nil)):=rfl
theorem zke(N:Nat)(t j:Int)(k:List Int)(o:Int)(b:Bool):flat N (letD t j k o b)=true:=by unfold letD zkY;split<;>simp
theorem zdz(N m:Nat)(t:Int):∀(ps:List Pt)(hs:List Hn)(k:Nat),flats N (zaS m t k ps hs)=true
 | [],_,_=>by simp[zaS]|_::_,[],_=>by simp[zaS]| p::ps,h::hs,k=>by rw[zaS,zcY,zdz N m t ps hs (k+1),Bool.and_true,zaV];intro d hd;obtain⟨o,_,rfl⟩:=mem_map.mp hd;exact zke _ _ _ _ _ _
theorem zpY(m7:m<=7)(hp:ps.length=m)(hh:hs.length=m)(hg:S.get th=some (.lst (ps.map fun p=>.ref p.who)))(h1:∀(i:Nat) p h,ps[i]?=some p->hs[i]?=some h->P1 S m r i p h) :
  app (callF prog (n+4)) 8 [.int t,.ref th,.non] S=.ok (.ref S.len) (S.push (.lst (zaS m t 0 ps hs))):=by
 apply W.eq;rw[zhC rfl rfl,zaa,ziS];rw[exS,zaa];have e3:evE (callF prog (n+3)) (.lst .nil) (zaE c_said_in [.int t,.ref th,.non]) S.enter=.ok (.ref S.enter.len) (S.enter.push (.lst [])):=by simp only[evE];rfl
 rw[e3,W_ok,exS,zaa];have up:∀l o,S.get l=some o->(S.enter.push (.lst [])).get l=some o:=fun l o e=>zaf (by rw[zaC];exact e);have el:evL (callF prog (n+3)) (.enum Y1) (Es t (.ref th) S.enter.len none none none none none) (S.enter.push (.lst []))=.ok (enW 0 ps,[th]) (S.enter.push (.lst [])):=by show Out.bind (lift (S.enter.push (.lst [])) (some (D.ref th))) _=_;rw[zaU,zaD];unfold zbQ;dsimp only;rw[up _ _ hg];rw[zaU,<-zgy ps 0];rfl
 show W (evL (callF prog (n+3)) (.enum Y1) (Es t (.ref th) S.enter.len none none none none none) (S.enter.push (.lst []))) _;rw[el,W_ok,zaa];unfold zbg;rw[zaa];have lt:=zai hg;have f1:Fr ({S.enter.push (.lst []) with lk:=[th]++(S.enter.push (.lst [])).lk}:R.St) S.enter.len:=⟨by show(S.frz++S.new).length<=_;rw[zce,R.enter_len];exact le_refl _,by
  show([th]:List Nat).contains _=false;rw[R.enter_len];simp;omega⟩
 refine(zfe (r:=r) m7 ps hs 0 [] {S.enter.push (.lst []) with lk:=[th]++(S.enter.push (.lst [])).lk} none none none none none (by omega) (fun i p h e1 e2=>?_) (zac _ _) f1 (by simp;omega)).mono fun fl U hU=>?_;have q:=h1 i p h e1 e2;rw[zero_add];exact⟨⟨up _ _ q.a,up _ _ q.w,up _ _ q.g,fun c l rs e=>up _ _ (q.c c l rs e),q.k⟩,by have:=zai q.g;rw[R.enter_len];omega⟩;obtain⟨⟨c,d,e,f,g,rfl⟩,g2,v⟩:=hU;rw[W_ok];refine W.mono (wS_W (.ret Y3 .nil) (Q:=fun r T=>wFin S r T fun a T'=>a=.ref S.len/\T'=S.push (.lst (zaS m t 0 ps hs))) ?_) fun r T q=>by unfold wFin at q;exact q
 refine zbI (by rw[R.enter_len];exact le_refl _) g2 (by rw[List.nil_append];exact zdz _ _ _ _ _ _) ⟨rfl,by rw[List.nil_append]⟩
noncomputable def zfy(m:Nat):Nat->Nat->List K3
 |_,0=>[]|k,c+1=>(oths m k).map (fun o=>((0:Int),[(k:Int)],o))++zfy m (k+1) c
theorem zow(t j:Int)(k:List Int)(o:Int)(b:Bool):zdS (letD t j k o b)=some (0,[j],o):=rfl
theorem zcX{α β:Type}{f:α->Option β}:∀{xs ys:List α}{as bs:List β},xs.mapM f=some as->ys.mapM f=some bs->(xs++ys).mapM f=some (as++bs)
 | [],ys,as,bs,h1,h2=>by simp at h1;subst h1;simpa using h2| x::xs,ys,as,bs,h1,h2=>by
  rw[mapM_cons]at h1;cases e1:f x with
  |none=>rw[e1]at h1;cases h1
  |some a=>
   rw[e1]at h1;cases e2:xs.mapM f with
   |none=>rw[e2]at h1;cases h1
   |some as'=>rw[e2]at h1;cases h1;rw[List.cons_append,mapM_cons,e1,zcX e2 h2];rfl
theorem zqV(m:Nat)(t:Int)(j:Nat)(p:Pt)(h:Hn):(zff m t j p h).mapM zdS=some ((oths m j).map (fun o=>((0:Int),[(j:Int)],o))):=by unfold zff;generalize oths m j=os;induction os with|nil=>rfl|cons o os ih=>rw[map_cons,mapM_cons,ih,zow];rfl
theorem zjN(m:Nat)(t:Int):∀(ps:List Pt)(hs:List Hn)(k:Nat),ps.length=hs.length->(zaS m t k ps hs).mapM zdS=some (zfy m k ps.length)
 | [],[],_,_=>rfl| p::ps,h::hs,k,e=>by exact zcX (zqV m t k p h) (zjN m t ps hs (k+1) (by simpa using e))
theorem zlM(m:Nat)(i:Int):(oths m i).Pairwise (· < ·):=by unfold oths hnds;apply Pairwise.filter _;rw[pairwise_map];exact Pairwise.imp (fun {a b} h=>by exact_mod_cast h) List.pairwise_lt_range
theorem zhh(m:Nat):∀(c k:Nat)(x:K3),x∈zfy m k c->∃(j:Nat) (o:Int),x=(0,[(j:Int)],o)/\k<=j
 |0,_,x,h=>by cases h| c+1,k,x,h=>by rw[zfy]at h;rcases mem_append.mp h with h|h;obtain⟨o,_,rfl⟩:=mem_map.mp h;exact⟨k,o,rfl,le_refl _⟩;obtain⟨j,o,e,hj⟩:=zhh m c (k+1) x h;exact⟨j,o,e,by omega⟩
theorem zfx(m:Nat):∀(c k:Nat),(zfy m k c).Pairwise Lt3
 |0,_=>Pairwise.nil| c+1,k=>by rw[zfy,List.pairwise_append];refine⟨?_,zfx m c (k+1),fun x hx y hy=>?_⟩;rw[pairwise_map];exact(zlM m k).imp fun {a b} h=>.inr ⟨rfl,.inr ⟨rfl,h⟩⟩;obtain⟨o,_,rfl⟩:=mem_map.mp hx;obtain⟨j,o',rfl,hj⟩:=zhh m c (k+1) y hy;refine .inr ⟨rfl,.inl ?_⟩;rw[zdp,if_neg (by omega)];exact decide_eq_true (by omega)
theorem zhb{α β:Type}{f:α->Option β}:∀{xs:List α}{ys:List β},xs.mapM f=some ys->xs.length=ys.length
 | [],ys,h=>by simp at h;subst h;rfl| x::xs,ys,h=>by
  rw[mapM_cons]at h;cases e1:f x with
  |none=>rw[e1]at h;cases h
  |some a=>
   rw[e1]at h;cases e2:xs.mapM f with
   |none=>rw[e2]at h;cases h
   |some as'=>rw[e2]at h;cases h;simp[zhb e2]
structure Kn(N:Nat)(S T:R.St):Prop where
 frz:T.frz=S.frz
 lk:T.lk=S.lk
 len:S.len<=T.len
 old:∀l o,l<N->S.get l=some o->T.get l=some o
theorem Kn.refl(N:Nat)(S:R.St):Kn N S S:=⟨rfl,rfl,le_refl _,fun _ _ _ h=>h⟩
theorem Kn.trans(a:Kn N S T)(b:Kn N T U):Kn N S U:=⟨b.frz.trans a.frz,b.lk.trans a.lk,le_trans a.len b.len,fun l o h e=>b.old l o h (a.old l o h e)⟩
theorem Kn.of(v:Mv A S T)(h:∀a∈A,N<=a):Kn N S T:=⟨v.frz,v.lk,v.len,fun l o hl e=>v.old l o (fun z=>by have:=h l z;omega) e⟩
abbrev Lt:=Int×Int×Option (List Int)
noncomputable def ltM(t:Int)(x:Lt):D:=.tup [.int t,.tup [.int x.1],.int x.2.1,tD x.2.2]
noncomputable def box(Ls:List Lt)(o:Int):List Ltr:=(Ls.filter fun x=>decide (x.2.1=o)).map fun x=>(x.1,x.2.2)
theorem zbx(Ls:List Lt)(x:Lt)(o:Int):box (Ls++[x]) o=if x.2.1=o then box Ls o++[(x.1,x.2.2)] else box Ls o:=by unfold box;by_cases h:x.2.1=o<;>simp[h]
structure Bx(N:Nat)(T:R.St)(bx:Nat)(Ls:List Lt)(kvs:List (Int×D)):Prop where
 at_:T.get bx=some (.dic kvs)
 fr:Fr T bx
 nw:N<=bx
 no_:∀o,valI kvs o=none->box Ls o=[]
 so_:∀o d,valI kvs o=some d->∃b,d=.ref b/\N<=b/\Fr T b/\T.get b=some (.lst ((box Ls o).map ltD))
 inj:∀o o' b,valI kvs o=some (.ref b)->valI kvs o'=some (.ref b)->o=o'
 len:kvs.length<=Ls.length
theorem zen(kvs:List (Int×D))(k j:Int)(v:D):valI (putI kvs k v) j=if j=k then some v else valI kvs j:=by
 induction kvs with
 |nil=>by_cases c:j=k;subst c;simp[putI,valI];have c':¬k=j:=fun z=>c z.symm;simp[putI,valI,c,c']| cons a r ih=>
  obtain⟨i,d⟩:=a;unfold putI;by_cases e:i=k;subst e;by_cases c:j=i;subst c;simp[valI];have c':¬i=j:=fun z=>c z.symm;simp[valI,c,c'];rw[if_neg e];by_cases c:i=j;subst c;simp[valI,e];have h1:valI ((i,d)::putI r k v) j=valI (putI r k v) j:=by simp[valI,c]
  have h2:valI ((i,d)::r) j=valI r j:=by simp[valI,c]
  rw[h1,h2,ih]
theorem zls(kvs:List (Int×D))(k:Int)(v:D):(putI kvs k v).length<=kvs.length+1:=by induction kvs with|nil=>simp[putI]| cons a r ih=>unfold putI;split;simp;simp;omega
noncomputable abbrev Ed(t:Int)(x y:D)(bx:Nat)(a b c:Option D):Ev:=[some (.int t),some x,some y,some (.ref bx),a,b,c]
noncomputable def dIn:CS:=.expr (.mt .append (.dsetI Y3 (.ix Y4 Z2) (.lst .nil)) #[.tup #[.ix Y4 Z1,.ix Y4 Z3]]) .nil
theorem zgs(h:T.get l=some (.dic kvs)):isDi T (.ref l)=true:=by unfold isDi;dsimp only;rw[h]
theorem zc7(h:T.get l=some (.dic kvs)):zeY T (.ref l) (.int o)=some (valI kvs o):=by unfold zeY;dsimp only;rw[h];rfl
theorem zmk(B:Bx N T bx Ls kvs)(hN:N<=T.len)(hl:Ls.length<=500)(hlk:T.lk.contains T.len=false) :
  W (exS cf dIn (Ed t u y bx (some (ltM tt x)) b c) T) fun f U=>f=.nx (Ed t u y bx (some (ltM tt x)) b c)/\(∃kvs',Bx N U bx (Ls++[x]) kvs')/\Kn N T U:=by
 obtain⟨j,o,w⟩:=x;apply wS_W _;change zgs B.at_;exists rfl;change by decide
 have lb:=zai B.at_;have hbl:(box Ls o).length<=Ls.length:=by unfold box;rw[length_map];exact length_filter_le _ _
 have gB:=zaf (o:=.lst []) B.at_;have hlen:=B.len;cases hv:valI kvs o with
 |none=>
  have fT:Fr (T.push (.lst [])) bx:=⟨B.fr.f,B.fr.k⟩;obtain⟨U,hU,mU,gU⟩:=zbf fT gB;have es:zdT (T.push (.lst [])) (.ref bx) (.int o) (.ref T.len)=some (.ref T.len,U):=by unfold zdT;rw[zc7 gB,hv];unfold dPut;dsimp only;rw[gB];dsimp [zbG,bind_some];rw[if_pos (by omega),hU];rfl
  exists es;have nb:T.len≠bx:=by omega
  have gL:U.get T.len=some (.lst []):=mU.old _ _ (by simpa using nb) (zac T (.lst []));have fL:Fr U T.len:=⟨by rw[mU.frz];show T.frz.length<=T.len;unfold St.len;omega,by rw[mU.lk];exact hlk⟩;exists gL;exists rfl;exists rfl;change show 2<=16777216 by decide
  exists gL;change show 1<=16777216 by decide
  obtain⟨V,hV,mV,gV⟩:=zbf fL gL;exists hV;have mP:=Mv.push [] T (.lst []);refine⟨rfl,⟨putI kvs o (.ref T.len),?_⟩,?_⟩;have oldV:∀l q,l≠bx->l≠T.len->T.get l=some q->V.get l=some q:=fun l q h1 h2 e=>mV.old _ _ (by simpa using h2) (mU.old _ _ (by simpa using h1) (mP.old _ _ (by simp) e));have frV:∀l,Fr T l->Fr V l:=fun l h=>((h.mv mP).mv mU).mv mV;refine⟨mV.old _ _ (by simpa using nb.symm) gU,frV _ B.fr,B.nw,fun o' h'=>?_,fun o' d h'=>?_,fun o1 o2 b h1 h2=>?_,?_⟩;rw[zen]at h';split at h';cases h';rename_i ne;rw[zbx,if_neg (fun z=>ne z.symm)];exact B.no_ o' h';rw[zen]at h';split at h';rename_i ee;cases h';subst ee;refine⟨T.len,rfl,hN,fL.mv mV,?_⟩;rw[zbx,if_pos rfl,B.no_ _ hv];exact gV;rename_i ne;obtain⟨b,rfl,h2,h3,h4⟩:=B.so_ o' d h';refine⟨b,rfl,h2,frV _ h3,?_⟩;rw[zbx,if_neg (fun z=>ne z.symm)];refine oldV _ _ (fun z=>?_) (by have:=zai h4;omega) h4;rw[z,B.at_]at h4;cases h4
  . rw[zen]at h1 h2;split at h1<;>split at h2
    rename_i a1 a2;rw[a1,a2];cases h1;obtain⟨b,e1,_,_,h4⟩:=B.so_ o2 _ h2;cases e1;have:=zai h4;omega;cases h2;obtain⟨b,e1,_,_,h4⟩:=B.so_ o1 _ h1;cases e1;have:=zai h4;omega;exact B.inj o1 o2 b h1 h2
  have:=zls kvs o (.ref T.len);rw[length_append];simp;omega;refine(Kn.of mP (by simp)).trans ((Kn.of mU ?_).trans (Kn.of mV ?_));intro a ha;rw[mem_singleton.mp ha];exact B.nw;intro a ha;rw[mem_singleton.mp ha];exact hN
 |some d=>
  obtain⟨b0,rfl,nb0,fb,gb⟩:=B.so_ o d hv;have mP:=Mv.push [] T (.lst []);have es:zdT (T.push (.lst [])) (.ref bx) (.int o) (.ref T.len)=some (.ref b0,T.push (.lst [])):=by unfold zdT;rw[zc7 gB,hv]
  exists es;have gL:(T.push (.lst [])).get b0=some (.lst ((box Ls o).map ltD)):=zaf gb;exists gL;exists rfl;exists rfl;change show 2<=16777216 by decide
  exists gL;change by rw[length_append,length_map];simp;omega
  obtain⟨V,hV,mV,gV⟩:=zbf (fb.mv mP) gL;exists hV;have frV:∀l,Fr T l->Fr V l:=fun l h=>(h.mv mP).mv mV;have nbx:bx≠b0:=fun z=>by rw[<-z,B.at_]at gb;cases gb
  refine⟨rfl,⟨kvs,?_⟩,(Kn.of mP (by simp)).trans (Kn.of mV (by intro a ha;rw[mem_singleton.mp ha];exact nb0))⟩;refine⟨mV.old _ _ (by simpa using nbx) gB,frV _ B.fr,B.nw,fun o' h'=>?_,fun o' d h'=>?_,B.inj,by rw[length_append];omega⟩;rw[zbx,if_neg (fun z=>by rw[<-z]at h';rw[show((j,o,w):Lt).2.1=o from rfl,hv]at h';cases h')];exact B.no_ o' h';by_cases ee:o=o';subst ee;rw[hv]at h';cases h';refine⟨b0,rfl,nb0,frV _ fb,?_⟩;rw[zbx,if_pos rfl,map_append];exact gV;obtain⟨b,rfl,h2,h3,h4⟩:=B.so_ o' d h';refine⟨b,rfl,h2,frV _ h3,?_⟩;rw[zbx,if_neg (fun z=>ee z)];refine mV.old _ _ (fun z=>?_) (mP.old _ _ (by simp) h4);have z:b=b0:=by simpa using z
  subst z;exact ee (B.inj o o' b hv h')
theorem zb2{T:R.St}(hk:∀l∈T.lk,l<N)(hN:N<=T.len):T.lk.contains T.len=false:=by rw[Bool.eq_false_iff];intro z;have:=hk _ (List.contains_iff_mem.mp z);omega
theorem zhz:∀(rest Ls:List Lt)(kvs:List (Int×D))(T:R.St)(a:Option D),Bx N T bx Ls kvs->N<=T.len->(∀l∈T.lk,l<N)->Ls.length+rest.length<=500->
  W (zaB [4] (exS cf dIn) (rest.map (ltM tt)) (Ed t u y bx a b c) T) fun f U=>(∃a,f=.nx (Ed t u y bx a b c))/\(∃kvs',Bx N U bx (Ls++rest) kvs')/\Kn N T U
 | [],Ls,kvs,T,a,B,_,_,_=>by show W (Out.ok (Fl.nx _) T) _;rw[W_ok];exact⟨⟨a,rfl⟩,⟨kvs,by rw[append_nil];exact B⟩,Kn.refl _ _⟩| x::rest,Ls,kvs,T,a,B,hN,hk,hl=>by simp at hl;show W (Out.bind (exS cf dIn (Ed t u y bx (some (ltM tt x)) b c) T) _) _;rw[zaa];refine(zmk B hN (by omega) (zb2 hk hN)).mono fun f U hU=>?_;obtain⟨rfl,⟨kvs',B'⟩,v⟩:=hU;refine(zhz rest (Ls++[x]) kvs' U _ B' (le_trans hN v.len) (by rw[v.lk];exact hk) (by simp;omega)).mono fun f V hV=>?_;obtain⟨h1,⟨kvs2,B2⟩,v2⟩:=hV;exact⟨h1,⟨kvs2,by rw[append_assoc]at B2;exact B2⟩,v.trans v2⟩
noncomputable def zhJ(m:Nat)(r t:Int)(j:Nat)(h:Hn)(Bs:List Ltr):Hn:=⟨lrn h.K Bs,h.H++[nowZ j Bs],enZ h.en t r (nowZ j Bs) (bfZ m h.H) (lrn h.K Bs)⟩
open Classical in
noncomputable def zda(m:Nat)(r t:Int)(j:Nat)(p:Pt)(h:Hn)(Bs:List Ltr):Hn:=if p.on t then zhJ m r t j h Bs else h
structure FrP(T:R.St)(p:Pt):Prop where
 a:Fr T p.a
 w:Fr T p.wb
 h:Fr T p.hr
noncomputable def zmg:CS:=.expr (.meth "hear" [(0,30),(1,36)] Y6 #[Y0,.dgetI Y3 Y5 (.lst .nil)]) .nil
theorem zl9(x1:P1 S m r j p h)(fp:FrP S p)(B:Bx N S bx Ls kvs)(hN:N<=S.len)(hk:∀l∈S.lk,l<N)(m7:m<=7)(hs:Sb ws h.K)(hw:ws.length<64)(ok:LOk ws (box Ls j))(hl:(box Ls j).length<=50)(hK0:h.K≠[])(hH:h.H.length<=50) :
  W (exS (callF prog (n+3)) zmg (Ed t x y bx a (some (.int j)) (some (.ref p.who))) S) fun f U=>f=.nx (Ed t x y bx a (some (.int j)) (some (.ref p.who)))/\Mv [p.a,p.wb,p.hr] S U/\P1 U m r j p (zda m r t j p h (box Ls j)):=by
 have mP:=Mv.push [] S (.lst []);have hq:∃qq,(valI kvs j).getD (.ref S.len)=.ref qq/\(S.push (.lst [])).get qq=some (.lst ((box Ls j).map ltD)):=by cases hv:valI kvs j with|none=>exact⟨S.len,rfl,by rw[B.no_ _ hv];exact zac _ _⟩| some d=>obtain⟨b,rfl,_,_,gb⟩:=B.so_ _ _ hv;exact⟨b,rfl,zaf gb⟩
 obtain⟨qq,eq,gq⟩:=hq;have gB:=zaf (o:=.lst []) B.at_;have hlk:(S.push (.lst [])).lk.contains (S.push (.lst [])).len=false:=zb2 hk (by rw[plen];omega);have sbl:(lrn h.K (box Ls j)).length<64:=Nat.lt_of_le_of_lt (hs.lrn ok).len hw;have fa:=fp.a.mv mP;have fw:=fp.w.mv mP;have fh:=fp.h.mv mP;have ea:=zaf (o:=.lst []) x1.a;have ew:=zaf (o:=.lst []) x1.w;have eg:=zaf (o:=.lst []) x1.g;obtain⟨pa,pw,ph,pc⟩:=p;cases pc with
 |none=>
  have key:=zmI (n:=n+1) (t:=t) ea fa fw fh hlk ew eg gq m7 hs hw ok hl hK0 hH;apply wS_W _;exists zau x1.a;exists rfl;change rfl;change zgs B.at_;change by decide
  exists zc7 gB;rw[eq];refine za4 (key.mono fun d T hT=>?_);obtain⟨_,v,g1,g2,g3⟩:=hT;refine⟨rfl,(mP.up (by simp)).trans v,?_⟩;have e1:zda m r t j ⟨pa,pw,ph,none⟩ h (box Ls j)=zhJ m r t j h (box Ls j):=if_pos trivial;rw[e1];exact⟨g1,g2,g3,(fun c last rs z=>nomatch z),sbl⟩
 |some z=>
  obtain⟨c,last,rs⟩:=z;have hc:=x1.c c last rs rfl;have key:=zos (n:=n) (t:=t) (zaf hc) ea fa fw fh hlk ew eg gq m7 hs hw ok hl hK0 hH;apply wS_W _;exists zau hc;exists rfl;change rfl;change zgs B.at_;change by decide
  exists zc7 gB;rw[eq];refine za4 (key.mono fun d T hT=>?_);obtain⟨_,v,g1,g2⟩:=hT;refine⟨rfl,(mP.up (by simp)).trans v,?_⟩;have nca:c∉[pa,pw,ph]:=by intro hm;simp at hm;rcases hm with z|z|z;rw[z,x1.a]at hc;cases hc;rw[z,x1.w]at hc;cases hc;rw[z,x1.g]at hc;cases hc
  have hcT:T.get c=some (cD j m r pa last rs):=v.old _ _ nca (zaf hc);by_cases on:t<last;have e1:zda m r t j ⟨pa,pw,ph,some (c,last,rs)⟩ h (box Ls j)=zhJ m r t j h (box Ls j):=if_pos on;rw[e1];obtain⟨a1,a2,a3⟩:=g1 on;exact⟨a1,a2,a3,(fun c' l' r' z=>by cases z;exact hcT),sbl⟩;have e1:zda m r t j ⟨pa,pw,ph,some (c,last,rs)⟩ h (box Ls j)=h:=if_neg on;rw[e1];have:=g2 on;subst this;exact⟨ea,ew,eg,(fun c' l' r' z=>by cases z;exact hcT),x1.k⟩
noncomputable def adr(p:Pt):List Nat:=[p.a,p.wb,p.hr]
theorem Bx.mv(B:Bx N T bx Ls kvs)(v:Mv A T U)(h:∀x∈A,x<N):Bx N U bx Ls kvs:=⟨v.old _ _ (fun z=>by have:=h _ z;have:=B.nw;omega) B.at_,B.fr.mv v,B.nw,B.no_,fun o d e=>let ⟨b,e1,e2,e3,e4⟩:=B.so_ o d e;⟨b,e1,e2,e3.mv v,v.old _ _ (fun z=>by have:=h _ z;omega) e4⟩,B.inj,B.len⟩
structure Oh(ws:List Int)(Ls:List Lt)(j:Nat)(h:Hn):Prop where
 sb:Sb ws h.K
 ok:LOk ws (box Ls j)
 l:(box Ls j).length<=50
 k:h.K≠[]
 hh:h.H.length<=50
theorem P1.away(x:P1 S m r j p h)(v:Mv A S T)(n:∀y∈adr p,y∉A)(nc:∀c last rs,p.cr=some (c,last,rs)->c∉A):P1 T m r j p h:=x.mv v (n _ (by simp[adr])) (n _ (by simp[adr])) (n _ (by simp[adr])) nc
theorem zkA(x:P1 S m r j p h)(y:P1 S m r k q g):∀c last rs,p.cr=some (c,last,rs)->c∉adr q:=by intro c last rs e hm;have hc:=x.c c last rs e;simp[adr,mem_cons,not_mem_nil,or_false]at hm;rcases hm with z|z|z;rw[z,y.a]at hc;cases hc;rw[z,y.w]at hc;cases hc;rw[z,y.g]at hc;cases hc
theorem FrP.mv(h:FrP S p)(v:Mv A S T):FrP T p:=⟨h.a.mv v,h.w.mv v,h.h.mv v⟩
theorem zfH(m7:m<=7)(hw:ws.length<64):∀(ps:List Pt)(hs:List Hn)(k:Nat)(T:R.St)(b c:Option D),ps.length=hs.length->Bx N T bx Ls kvs->N<=T.len->(∀l∈T.lk,l<N)->
  (∀i p h,ps[i]?=some p->hs[i]?=some h->P1 T m r (k+i) p h/\FrP T p/\Oh ws Ls (k+i) h/\∀z∈adr p,z<N)->ps.Pairwise (fun p q=>∀z∈adr p,z∉adr q)->
  W (zaB [5,6] (exS (callF prog (n+3)) zmg) (enW k ps) (Ed t x y bx a b c) T) fun f U=>(∃b c,f=.nx (Ed t x y bx a b c))/\Mv (ps.flatMap adr) T U/\∀i p h,ps[i]?=some p->hs[i]?=some h->P1 U m r (k+i) p (zda m r t (k+i) p h (box Ls ((k+i:Nat):Int)))
 | [],[],k,T,b,c,_,_,_,_,_,_=>by show W (Out.ok (Fl.nx _) T) _;rw[W_ok];exact⟨⟨b,c,rfl⟩,Mv.refl _ _,fun i p h e=>by simp at e⟩| p::ps,h::hs,k,T,b,c,h0,B,hN,hk,h1,dj=>by
  simp at h0;rw[pairwise_cons]at dj;obtain⟨x1,fp,oh,ad⟩:=h1 0 p h rfl rfl;show W (Out.bind (exS (callF prog (n+3)) zmg (Ed t x y bx a (some (.int k)) (some (.ref p.who))) T) _) _;rw[zaa];refine(zl9 x1 fp B hN hk m7 oh.sb hw oh.ok oh.l oh.k oh.hh).mono fun f U hU=>?_;obtain⟨rfl,v,px⟩:=hU;refine(zfH (r:=r) m7 hw ps hs (k+1) U _ _ (by omega) (B.mv v ad) (le_trans hN v.len) (by rw[v.lk];exact hk) (fun i q g e1 e2=>?_) dj.2).mono fun f V hV=>?_;obtain⟨y1,fq,og,aq⟩:=h1 (i+1) q g (by simpa using e1) (by simpa using e2);rw[show k+1+i=k+(i+1) by omega];refine⟨y1.away v (fun z hz hm=>?_) (zkA y1 x1),fq.mv v,og,aq⟩;exact dj.1 q (mem_of_getElem? e1) z hm hz;obtain⟨hf,w,hp⟩:=hV;refine⟨hf,(v.up (by intro z hz;rw[List.flatMap_cons];exact mem_append_left _ hz)).trans (w.up (by intro z hz;rw[List.flatMap_cons];exact mem_append_right _ hz)),fun i q g e1 e2=>?_⟩;cases i with
  |zero=>
   cases e1;cases e2;refine px.away w (fun z hz hm=>?_) (fun c' last rs ec hm=>?_);obtain⟨q,hq,hm⟩:=List.mem_flatMap.mp hm;exact dj.1 q hq z hz hm;obtain⟨q,hq,hm⟩:=List.mem_flatMap.mp hm;obtain⟨i,hi⟩:=mem_iff_getElem?.mp hq;have hil:i<hs.length:=by have:=(List.getElem?_eq_some_iff.mp hi).1;omega
   obtain⟨y1,_,_,_⟩:=h1 (i+1) q hs[i] (by simpa using hi) (by simp);exact zkA x1 y1 c' last rs ec hm
  |succ i=>have:=hp i q g (by simpa using e1) (by simpa using e2);rw[show k+1+i=k+(i+1) by omega]at this;exact this
theorem zqI{L:List Nat}(h:∀l∈L,l<N)(hb:N<=b):L.contains b=false:=by rw[Bool.eq_false_iff];intro z;have:=h _ (List.contains_iff_mem.mp z);omega
theorem Bx.relk(B:Bx N T bx Ls kvs)(h:∀l∈L,l<N):Bx N ({T with lk:=L}:R.St) bx Ls kvs:=⟨B.at_,⟨B.fr.f,zqI h B.nw⟩,B.nw,B.no_,fun o d e=>let ⟨b,e1,e2,e3,e4⟩:=B.so_ o d e;⟨b,e1,e2,⟨e3.f,zqI h e2⟩,e4⟩,B.inj,B.len⟩
theorem zfO:c_deliver.body=.asg 3 .dnew (.forS [4] (.val Y2) dIn (.forS [5,6] (.enum Y1) zmg .nil)):=rfl
theorem zi0{ps:List Pt}{hs:List Hn}(m7:m<=7)(hw:ws.length<64)(hp:ps.length=hs.length)(hg:S.get th=some (.lst (ps.map fun p=>.ref p.who)))(hsd:S.get sd=some (.lst (Ls.map (ltM tt))))(hL:Ls.length<=400)(hk:∀l∈S.lk,l<S.len)
  (h1:∀(i:Nat) p h,ps[i]?=some p->hs[i]?=some h->P1 S m r i p h/\FrP S p/\Oh ws Ls i h) (dj:ps.Pairwise (fun p q=>∀z∈adr p,z∉adr q)) (nt:∀p∈ps,th∉adr p) (nth:th≠sd) :
  W (appW (callF prog (n+4)) 9 [.int t,.ref th,.ref sd] S) fun d U=>d=.non/\U.frz=S.frz/\U.lk=S.lk/\S.len<=U.len/\(∀l o,l∉ps.flatMap adr->S.get l=some o->U.get l=some o)/\∀(i:Nat) p h,ps[i]?=some p->hs[i]?=some h->P1 U m r i p (zda m r t i p h (box Ls ((i:Nat):Int))):=by
 apply zbF rfl rfl;rw[zfO,exS,zaa];have e0:evE (callF prog (n+3)) .dnew (zaE c_deliver [.int t,.ref th,.ref sd]) S=.ok (.ref S.len) (S.push (.dic [])):=by simp[evE]
 rw[e0,W_ok,exS,zaa];have up:∀l o,S.get l=some o->(S.push (.dic [])).get l=some o:=fun l o e=>zaf e;have e1:evL (callF prog (n+3)) (.val Y2) (Ed t (.ref th) (.ref sd) S.len none none none) (S.push (.dic []))=.ok (Ls.map (ltM tt),[sd]) (S.push (.dic [])):=by show Out.bind (lift (S.push (.dic [])) (some (D.ref sd))) _=_;rw[zaU,zaD];unfold zcc;dsimp only;rw[up _ _ hsd];rfl
 show W (evL (callF prog (n+3)) (.val Y2) (Ed t (.ref th) (.ref sd) S.len none none none) (S.push (.dic []))) _;rw[e1,W_ok,zaa];unfold zbg;rw[zaa];have lsd:=zai hsd;have lth:=zai hg;have fr0:S.frz.length<=S.len:=by unfold St.len;omega
 have B0:Bx S.len ({S.push (.dic []) with lk:=[sd]++(S.push (.dic [])).lk}:R.St) S.len [] []:=by refine⟨zac _ _,⟨fr0,?_⟩,le_refl _,fun o _=>rfl,(fun o d e=>by cases e),(fun o o' b e=>by cases e),le_refl _⟩;show(sd::S.lk).contains S.len=false;rw[contains_cons,zb2 hk (le_refl _),Bool.or_false];simp;omega
 refine(zhz Ls [] [] _ none B0 (by show S.len<=(S.push (.dic [])).len;rw[plen];omega) (by
  intro l hl;rcases mem_cons.mp hl with rfl|hl;exact lsd;exact hk l hl) (by simp;omega)).mono fun f T hT=>?_
 obtain⟨⟨a,rfl⟩,⟨kvs,B⟩,kn⟩:=hT;have old:∀l o,S.get l=some o->({T with lk:=S.lk}:R.St).get l=some o:=fun l o e=>kn.old l o (zai e) (up l o e);have el:evL (callF prog (n+3)) (.enum Y1) (Ed t (.ref th) (.ref sd) S.len a none none) {T with lk:=S.lk}=.ok (enW 0 ps,[th]) {T with lk:=S.lk}:=by show Out.bind (lift ({T with lk:=S.lk}:R.St) (some (D.ref th))) _=_;rw[zaU,zaD];unfold zbQ;dsimp only;rw[old _ _ hg];rw[zaU,<-zgy ps 0];rfl
 apply zbu el;have hk2:∀l∈th::S.lk,l<S.len:=fun l hl=>by rcases mem_cons.mp hl with rfl|hl;exact lth;exact hk l hl
 have lenT : S.len ≤ T.len := by have := kn.len; have e : S.len + 1 ≤ T.len := by rw [← plen S (.dic [])]; exact this
                                 omega
 refine(zfH (r:=r) m7 hw ps hs 0 ({T with lk:=th::S.lk}:R.St) none none hp (B.relk hk2) lenT hk2 (fun i p h e1 e2=>?_) dj).mono fun f U hU=>?_;obtain⟨q,fp,oh⟩:=h1 i p h e1 e2;rw[zero_add];have ntp:=nt p (mem_of_getElem? e1);simp[adr,mem_cons,not_mem_nil,or_false,not_or]at ntp;have frT:T.frz=S.frz:=kn.frz;have fk:∀z,Fr S z->z≠th->Fr ({T with lk:=th::S.lk}:R.St) z:=fun z hz hn=>⟨by show T.frz.length<=z;rw[frT];exact hz.f,by
  rw[contains_cons,hz.k,Bool.or_false];simpa using hn⟩
 refine⟨⟨old _ _ q.a,old _ _ q.w,old _ _ q.g,fun c l rs e=>old _ _ (q.c c l rs e),q.k⟩,⟨fk _ fp.a (Ne.symm ntp.1),fk _ fp.w (Ne.symm ntp.2.1),fk _ fp.h (Ne.symm ntp.2.2)⟩,oh,fun z hz=>?_⟩;simp[adr,mem_cons,not_mem_nil,or_false]at hz;rcases hz with rfl|rfl|rfl;exact zai q.a;exact zai q.w;exact zai q.g;obtain⟨⟨b,c,rfl⟩,v,hP⟩:=hU;refine⟨rfl,v.frz.trans kn.frz,rfl,le_trans lenT v.len,fun l o hl e=>v.old l o hl (old l o e),fun i p h e1 e2=>?_⟩;have q:=hP i p h e1 e2;rw[zero_add]at q;exact⟨q.a,q.w,q.g,q.c,q.k⟩
noncomputable def ltJ(m:Nat)(t:Int)(j:Nat)(p:Pt)(h:Hn):List Lt:=(oths m j).map fun o=>((j:Int),o,if p.rch t o=true then some (zak h.K) else none)
noncomputable def ltF(m:Nat)(t:Int):Nat->List Pt->List Hn->List Lt
 |k,p::ps,h::hs=>ltJ m t k p h++ltF m t (k+1) ps hs|_,_,_=>[]
theorem zox(t j:Int)(k:List Int)(o:Int)(b:Bool):letD t j k o b=ltM t (j,o,if b=true then some k else none):=by cases b<;>rfl
theorem zbj(m:Nat)(t:Int):∀(ps:List Pt)(hs:List Hn)(k:Nat),zaS m t k ps hs=(ltF m t k ps hs).map (ltM t)
 | [],_,_=>by simp[zaS,ltF]|_::_,[],_=>by simp[zaS,ltF]| p::ps,h::hs,k=>by rw[zaS,ltF,map_append,zbj m t ps hs (k+1)];congr 1;unfold zff ltJ;rw[List.map_map];exact List.map_congr_left fun o _=>zox _ _ _ _ _
theorem zcJ(m:Nat)(t:Int):∀(ps:List Pt)(hs:List Hn)(k:Nat),(ltF m t k ps hs).length<=m*ps.length
 | [],_,_=>by simp[ltF]|_::_,[],_=>by simp[ltF]| p::ps,h::hs,k=>by
  have h1:=zcJ m t ps hs (k+1);have h2:(ltJ m t k p h).length<=m:=by unfold ltJ;rw[length_map];exact zcw m k
  rw[ltF,length_append,length_cons,Nat.mul_succ];omega
theorem zrB(h:P[f]?=some F)(hl:ds.length=F.np)(h3:3<=n)(w:W (exS (callF P n) F.body (zaE F ds) S) fun r T=>match r with|.nx _=>Q .non T|.rt d=>Q d T)(hp:F.prim=some .lam:=by rfl):W (appW (callF P (n+1)) f ds S) Q:=by unfold appW;simp[callF,h,hl,hp,h3,if_true,zaa];refine w.mono fun r T q=>?_;cases r<;>exact q
noncomputable def rndF(m:Nat)(r t:Int)(Ls:List Lt):Nat->List Pt->List Hn->List Hn
 |k,p::ps,h::hs=>zda m r t k p h (box Ls ((k:Nat):Int))::rndF m r t Ls (k+1) ps hs|_,_,_=>[]
noncomputable def rnd(m:Nat)(r t:Int)(ps:List Pt)(hs:List Hn):List Hn:=rndF m r t (ltF m t 0 ps hs) 0 ps hs
theorem zc4(m:Nat)(r t:Int)(Ls:List Lt):∀(ps:List Pt)(hs:List Hn)(k i:Nat)(g:Hn),(rndF m r t Ls k ps hs)[i]?=some g->∃p h,ps[i]?=some p/\hs[i]?=some h/\g=zda m r t (k+i) p h (box Ls ((k+i:Nat):Int))
 | [],_,_,i,g,e=>by simp[rndF]at e|_::_,[],_,i,g,e=>by simp[rndF]at e| p::ps,h::hs,k,0,g,e=>by rw[rndF]at e;cases e;exact⟨p,h,rfl,rfl,rfl⟩| p::ps,h::hs,k,i+1,g,e=>by rw[rndF]at e;obtain⟨q,x,e1,e2,e3⟩:=zc4 m r t Ls ps hs (k+1) i g (by simpa using e);exact⟨q,x,by simpa using e1,by simpa using e2,by rw[e3,show k+1+i=k+(i+1) by omega]⟩
theorem zev(m:Nat)(r t:Int)(Ls:List Lt):∀(ps:List Pt)(hs:List Hn)(k:Nat),ps.length=hs.length->(rndF m r t Ls k ps hs).length=hs.length
 | [],[],_,_=>rfl|p::ps,h::hs,k,e=>by rw[rndF,length_cons,length_cons,zev m r t Ls ps hs (k+1) (by simpa using e)]
noncomputable def rB:CS:=.asg 5 (.srtK (.call 8 0 #[Y4,Y0,Y2])) (.expr (.callW 9 0 #[Y4,Y0,Y5]) (.expr (.extv Y3 Y5) .nil))
structure Tn(T:R.St)(m:Nat)(r:Int)(th lt:Nat)(ps:List Pt)(hs:List Hn)(acc:List D):Prop where
 lp:ps.length=m
 lh:hs.length=m
 hg:T.get th=some (.lst (ps.map fun p=>.ref p.who))
 p1:∀(i:Nat) p h,ps[i]?=some p->hs[i]?=some h->P1 T m r i p h/\FrP T p
 dj:ps.Pairwise (fun p q=>∀z∈adr p,z∉adr q)
 nt:∀p∈ps,th∉adr p
 nl:∀p∈ps,lt∉adr p
 ne:th≠lt
 hk:∀l∈T.lk,l<T.len
 gl:T.get lt=some (.lst acc)
 fl:Fr T lt
noncomputable abbrev Er(th:Nat)(rr:Int)(lt:Nat)(a b:Option D):Ev:=[some (.ref th),some (.int rr),some .non,some (.ref lt),a,b]
theorem zjG(h:T.get l=some (.lst (zaS m t 0 ps hs)))(e:ps.length=hs.length):zd8 T (.ref l)=some (zaS m t 0 ps hs,zfy m 0 ps.length):=by unfold zd8;dsimp only;rw[h];dsimp only;rw[zjN m t ps hs 0 e];rfl
theorem zll(X:Tn T m r th lt ps hs acc)(m7:m<=7)(hw:ws.length<64)(ha:acc.length<=1000)(oh:∀(i:Nat) p h,ps[i]?=some p->hs[i]?=some h->Oh ws (ltF m t 0 ps hs) i h) :
  W (exS (callF prog (n+5)) rB (Er th rr lt (some (.int t)) b) T) fun f U=>(∃b,f=.nx (Er th rr lt (some (.int t)) b))/\Tn U m r th lt ps (rnd m r t ps hs) (acc++zaS m t 0 ps hs)/\U.lk=T.lk/\U.frz=T.frz/\∀l o,l≠lt->(∀p∈ps,l∉adr p)->T.get l=some o->U.get l=some o:=by
 have eqp:ps.length=hs.length:=by rw[X.lp,X.lh]
 have hsd:=zpY (n:=n+1) (t:=t) m7 X.lp X.lh X.hg (fun i p h e1 e2=>(X.p1 i p h e1 e2).1);have kl:(zfy m 0 ps.length).length=(zaS m t 0 ps hs).length:=(zhb (zjN m t ps hs 0 eqp)).symm;have sl:(zaS m t 0 ps hs).length<=49:=by rw[zbj,length_map];have:=zcJ m t ps hs 0;have h2:m*ps.length<=7*7:=Nat.mul_le_mul m7 (by rw[X.lp];exact m7);omega
 apply wS_W _;specialize hsd;exists zjG (zac _ _) eqp;change⟨by rw[kl];omega,zfx m ps.length 0⟩;change show(zaS m t 0 ps hs).length<=16777216 by omega
 generalize hS2:(T.push (.lst (zaS m t 0 ps hs))).push (.lst (zaS m t 0 ps hs))=S2;have m2:Mv [] T S2:=by rw[<-hS2];exact(Mv.push [] _ _).trans (Mv.push [] _ _)
 have gsd:S2.get (T.push (.lst (zaS m t 0 ps hs))).len=some (.lst ((ltF m t 0 ps hs).map (ltM t))):=by rw[<-hS2,<-zbj];exact zac _ _
 generalize hsdl:(T.push (.lst (zaS m t 0 ps hs))).len=sd at *;have lsd:T.len<=sd:=by rw[<-hsdl,plen];omega
 have lth:=zai X.hg;refine za4 ((zi0 (r:=r) m7 hw eqp (m2.old _ _ (by simp) X.hg) gsd (by rw[zbj,length_map]at sl;omega) (by rw[m2.lk];exact fun l hl=>lt_of_lt_of_le (X.hk l hl) m2.len) (fun i p h e1 e2=>?_) X.dj X.nt (by omega)).mono fun d U hU=>?_);obtain⟨q,fp⟩:=X.p1 i p h e1 e2;exact⟨q.mv m2 (by simp) (by simp) (by simp) (by simp),fp.mv m2,oh i p h e1 e2⟩;obtain⟨_,uf,uk,ul,uo,up⟩:=hU;have nfl:∀l,(∀p∈ps,l∉adr p)->l∉ps.flatMap adr:=fun l hl hm=>by obtain⟨p,hp,hm⟩:=List.mem_flatMap.mp hm;exact hl p hp hm
 have lt_adr:∀p∈ps,∀z∈adr p,z<T.len:=fun p hp z hz=>by
  obtain⟨i,hi⟩:=mem_iff_getElem?.mp hp;have hil:i<hs.length:=by have:=(List.getElem?_eq_some_iff.mp hi).1;omega
  obtain⟨q,_⟩:=X.p1 i p hs[i] hi (by simp);simp[adr,mem_cons,not_mem_nil,or_false]at hz;rcases hz with rfl|rfl|rfl;exact zai q.a;exact zai q.w;exact zai q.g
 have gl3:U.get lt=some (.lst acc):=uo _ _ (nfl lt X.nl) (m2.old _ _ (by simp) X.gl);have gs3:U.get sd=some (.lst (zaS m t 0 ps hs)):=by rw[zbj];exact uo _ _ (nfl sd fun p hp hm=>by have:=lt_adr p hp sd hm;omega) gsd
 have fl3:Fr U lt:=⟨by rw[uf,m2.frz];exact X.fl.f,by rw[uk,m2.lk];exact X.fl.k⟩;exists gl3;exists by unfold lsts;dsimp only;rw[gl3,gs3]
 change show(acc++zaS m t 0 ps hs).length<=16777216 by rw[length_append];omega
 obtain⟨V,hV,mV,gV⟩:=zbf fl3 gl3;exists hV;refine⟨⟨_,rfl⟩,⟨X.lp,?_,mV.old _ _ (by simpa using X.ne) (uo _ _ (nfl th X.nt) (m2.old _ _ (by simp) X.hg)),fun i p g e1 e2=>?_,X.dj,X.nt,X.nl,X.ne,?_,gV,fl3.mv mV⟩,by rw[mV.lk,uk,m2.lk],by rw[mV.frz,uf,m2.frz],fun l o h1 h2 e=>mV.old _ _ (by simpa using h1) (uo _ _ (nfl l h2) (m2.old _ _ (by simp) e))⟩;unfold rnd;rw[zev m r t _ ps hs 0 eqp];exact X.lh;obtain⟨p',h,f1,f2,rfl⟩:=zc4 m r t _ ps hs 0 i g e2;rw[e1]at f1;cases f1;rw[zero_add];have q:=up i p h e1 f2;have hp:=mem_of_getElem? e1;obtain⟨q0,fp⟩:=X.p1 i p h e1 f2;refine⟨q.mv mV ?_ ?_ ?_ ?_,?_⟩;simp;exact fun z=>X.nl p hp (by rw[<-z];simp[adr]);simp;exact fun z=>X.nl p hp (by rw[<-z];simp[adr]);simp;exact fun z=>X.nl p hp (by rw[<-z];simp[adr]);intro c last rs e;simp;intro z;have:=q0.c c last rs e;rw[z,X.gl]at this;cases this;have tr:∀z,Fr T z->Fr V z:=fun z hz=>⟨by rw[mV.frz,uf,m2.frz];exact hz.f,by rw[mV.lk,uk,m2.lk];exact hz.k⟩;exact⟨tr _ fp.a,tr _ fp.w,tr _ fp.h⟩;rw[mV.lk,uk,m2.lk];exact fun l hl=>lt_of_lt_of_le (X.hk l hl) (le_trans m2.len (le_trans ul mV.len))
structure Gh(ws:List Int)(c:Nat)(h:Hn):Prop where
 sb:Sb ws h.K
 k:h.K≠[]
 hh:h.H.length<=c
theorem zkO(Ls:List Lt)(o:Int):(box Ls o).length<=Ls.length:=by unfold box;rw[length_map];exact length_filter_le _ _
theorem zeL:∀(ps:List Pt)(hs:List Hn)(k:Nat),(∀h∈hs,Gh ws c h)->∀x∈ltF m t k ps hs,∀p,x.2.2=some p->p.length<=ws.length/\∀w∈p,w∈ws
 | [],_,_,_,x,hx=>by simp[ltF]at hx|_::_,[],_,_,x,hx=>by simp[ltF]at hx| q::ps,h::hs,k,hh,x,hx=>by rw[ltF]at hx;rcases mem_append.mp hx with hx|hx;unfold ltJ at hx;obtain⟨o,_,rfl⟩:=mem_map.mp hx;intro p hp;have g:=hh h (by simp);split at hp;cases hp;refine⟨by rw[za5];exact g.sb.len,fun w hw=>g.sb.sub w ((zay h.K).mem_iff.mp hw)⟩;cases hp;exact zeL ps hs (k+1) (fun g hg=>hh g (by simp[hg])) x hx
theorem zrD(hw:ws.length<=7)(m7:m<=7)(lp:ps.length=m)(hc:c<=50)(hh:∀h∈hs,Gh ws c h):∀(i:Nat) p h,ps[i]?=some p->hs[i]?=some h->Oh ws (ltF m t 0 ps hs) i h:=by intro i p h e1 e2;have g:=hh h (mem_of_getElem? e2);refine⟨g.sb,fun x hx q hq=>?_,?_,g.k,by have:=g.hh;omega⟩;unfold box at hx;obtain⟨y,hy,rfl⟩:=mem_map.mp hx;have:=zeL ps hs 0 hh y (mem_filter.mp hy).1 q hq;exact⟨by omega,this.2⟩;have h1:=zkO (ltF m t 0 ps hs) i;have h2:=zcJ m t ps hs 0;have h3:m*ps.length<=7*7:=Nat.mul_le_mul m7 (by rw[lp];exact m7);omega
theorem zkX(hw:ws.length<=7)(m7:m<=7)(lp:ps.length=m)(hc:c<=50)(hh:∀h∈hs,Gh ws c h):∀g∈rnd m r t ps hs,Gh ws (c+1) g:=by intro g hg;obtain⟨i,hi⟩:=mem_iff_getElem?.mp hg;obtain⟨p,h,e1,e2,rfl⟩:=zc4 m r t _ ps hs 0 i g hi;have o:=zrD (t:=t) hw m7 lp hc hh i p h e1 e2;have gh:=hh h (mem_of_getElem? e2);rw[zero_add];unfold zda;split;exact⟨o.sb.lrn o.ok,zmJ o.k,by show(h.H++[_]).length<=c+1;rw[length_append];have:=gh.hh;simp;omega⟩;exact⟨gh.sb,gh.k,by have:=gh.hh;omega⟩
noncomputable def rnds(m:Nat)(r:Int)(ps:List Pt):Nat->Nat->List Hn->List Hn
 |_,0,hs=>hs|t,c+1,hs=>rnds m r ps (t+1) c (rnd m r t ps hs)
noncomputable def lets(m:Nat)(r:Int)(ps:List Pt):Nat->Nat->List Hn->List D
 |_,0,_=>[]|t,c+1,hs=>zaS m t 0 ps hs++lets m r ps (t+1) c (rnd m r t ps hs)
noncomputable def zf6:Nat->Nat->List D
 |_,0=>[]|t,c+1=>.int (t:Nat)::zf6 (t+1) c
theorem zgX(m7:m<=7)(hw:ws.length<=7):∀(c t:Nat)(hs:List Hn)(acc:List D)(T:R.St)(a b:Option D)(d:Nat),Tn T m r th lt ps hs acc->(∀h∈hs,Gh ws d h)->d+c<=50->acc.length+49*c<=1000->
  W (zaB [4] (exS (callF prog (n+5)) rB) (zf6 t c) (Er th rr lt a b) T) fun f U=>(∃a b,f=.nx (Er th rr lt a b))/\Tn U m r th lt ps (rnds m r ps t c hs) (acc++lets m r ps t c hs)/\U.lk=T.lk/\U.frz=T.frz/\∀l o,l≠lt->(∀p∈ps,l∉adr p)->T.get l=some o->U.get l=some o
 |0,t,hs,acc,T,a,b,d,X,_,_,_=>by show W (Out.ok (Fl.nx _) T) _;rw[W_ok];exact⟨⟨a,b,rfl⟩,by rw[lets,append_nil];exact X,rfl,rfl,fun l o _ _ e=>e⟩| c+1,t,hs,acc,T,a,b,d,X,G,hd,ha=>by
  show W (Out.bind (exS (callF prog (n+5)) rB (Er th rr lt (some (.int (t:Nat))) b) T) _) _;rw[zaa];have sl:(zaS m t 0 ps hs).length<=49:=by rw[zbj,length_map];have:=zcJ m (t:Int) ps hs 0;have h2:m*ps.length<=7*7:=Nat.mul_le_mul m7 (by rw[X.lp];exact m7);omega
  refine(zll X m7 (by omega) (by omega) (zrD hw m7 X.lp (by omega) G)).mono fun f U hU=>?_;obtain⟨⟨b',rfl⟩,Y,h1,h2,h3⟩:=hU;refine(zgX m7 hw c (t+1) (rnd m r t ps hs) (acc++zaS m t 0 ps hs) U _ _ (d+1) Y (zkX hw m7 X.lp (by omega) G) (by omega) (by rw[length_append];omega)).mono fun f V hV=>?_;obtain⟨g1,g2,g3,g4,g5⟩:=hV;refine⟨g1,?_,g3.trans h1,g4.trans h2,fun l o a1 a2 e=>g5 l o a1 a2 (h3 l o a1 a2 e)⟩;rw[lets,<-append_assoc];exact g2
theorem zc8:∀(c t:Nat),(List.range c).map (fun(k:Nat)=>D.int ((t:Int)+k))=zf6 t c
 |0,_=>rfl| c+1,t=>by rw[List.range_succ_eq_map,map_cons,List.map_map,zf6,<-zc8 c (t+1)];simp;omega
structure T0(S:R.St)(m:Nat)(r:Int)(th:Nat)(ps:List Pt)(hs:List Hn):Prop where
 lp:ps.length=m
 lh:hs.length=m
 hg:S.get th=some (.lst (ps.map fun p=>.ref p.who))
 p1:∀(i:Nat) p h,ps[i]?=some p->hs[i]?=some h->P1 S m r i p h/\FrP S p
 dj:ps.Pairwise (fun p q=>∀z∈adr p,z∉adr q)
 nt:∀p∈ps,th∉adr p
 hk:∀l∈S.lk,l<S.len
theorem zr2{r z:Int}(X:T0 S m r th ps hs)(m7:m<=7)(hw:ws.length<=7)(G:∀h∈hs,Gh ws 0 h)(hc:c<=8)(hz:z=(c:Nat)) :
  W (appW (callF prog (n+6)) 7 [.ref th,.int z,.non] S) fun d U=>d=.ref S.len/\Tn U m r th S.len ps (rnds m r ps 1 c hs) (lets m r ps 1 c hs)/\U.lk=S.lk/\U.frz=S.frz/\∀l o,(∀p∈ps,l∉adr p)->S.get l=some o->U.get l=some o:=by
 apply zrB rfl rfl (by omega);show W (exS (callF prog (n+5)) (.forS [4] (.rng2 Z1 (.bin .Add Y1 Z1)) rB (.ret Y3 .nil)) (Er th z S.len none none) (S.push (.lst []))) _;have mP:=Mv.push [] S (.lst []);have el:evL (callF prog (n+5)) (.rng2 Z1 (.bin .Add Y1 Z1)) (Er th z S.len none none) (S.push (.lst []))=.ok (zf6 1 c,[]) (S.push (.lst [])):=by generalize hδ:Er th z S.len none none=δ;refine W.eq (wL_W _ ?_);subst hδ;change⟨by decide,by decide,Int.le_trans (by decide) (show(0:Int)<=z+1 by omega),Int.lt_of_le_of_lt (show z+1<=9 by omega) (by decide)⟩;refine⟨?_,rfl⟩;rw[<-zc8 c 1,show(z+1-1).toNat=c by omega];rfl
 generalize hδ:Er th z S.len none none=δ at el⊢;apply zbu el;subst hδ;have Y:Tn (S.push (.lst [])) m r th S.len ps hs []:=by
  have lt_adr:∀p∈ps,∀z∈adr p,z<S.len:=fun p hp z hz=>by
   obtain⟨i,hi⟩:=mem_iff_getElem?.mp hp;have hil:i<hs.length:=by have:=(List.getElem?_eq_some_iff.mp hi).1;rw[X.lp]at this;rw[X.lh];exact this
   obtain⟨q,_⟩:=X.p1 i p hs[i] hi (by simp);simp[adr,mem_cons,not_mem_nil,or_false]at hz;rcases hz with rfl|rfl|rfl;exact zai q.a;exact zai q.w;exact zai q.g
  have lth:=zai X.hg;exact⟨X.lp,X.lh,zaf X.hg,fun i p h e1 e2=>let ⟨q,f⟩:=X.p1 i p h e1 e2;⟨q.mv mP (by simp) (by simp) (by simp) (by simp),f.mv mP⟩,X.dj,X.nt,fun p hp hm=>by have:=lt_adr p hp _ hm;omega,by omega,fun l hl=>by have:=X.hk l hl;rw[plen];omega,zac _ _,⟨by show S.frz.length<=S.len;unfold St.len;omega,zb2 X.hk (le_refl _)⟩⟩
 refine(zgX m7 hw c 1 hs [] _ none none 0 Y G (by omega) (by simp;omega)).mono fun f U hU=>?_;obtain⟨⟨a,b,rfl⟩,Z,h1,h2,h3⟩:=hU;have eU:({U with lk:=(S.push (.lst [])).lk}:R.St)=U:=zeN (h1.trans rfl);rw[eU];exact⟨rfl,Z,h1,h2,fun l o a1 e=>h3 l o (by have:=zai e;omega) a1 (zaf e)⟩
theorem zlV(e:S.get a=some (.ins 1 []))(hf:Fr S a):W (appW (callF prog (n+1)) 45 [.ref a,.int i,.int m,.int r] S) fun d T=>Mv [a] S T/\T.get a=some (.ins 1 [("number",.int i),("many",.int m),("rounds",.int r)]):=by refine zbF rfl rfl (wS_W _ ?_);obtain⟨T1,h1,v1,g1⟩:=zbd (gs:=[("number",.int i)]) e hf (by simp) rfl;obtain⟨T2,h2,v2,g2⟩:=zbd (f:="many") (gs:=[("number",.int i),("many",.int m)]) g1 (hf.mv v1) (by simp) rfl;obtain⟨T3,h3,v3,g3⟩:=zbd (f:="rounds") g2 ((hf.mv v1).mv v2) (by simp) rfl;exists h1;exists h2;exists h3;exact⟨(v1.trans v2).trans v3,g3⟩
theorem zor(e:S.get c=some (.ins 1 []))(hf:Fr S c)(ea:S.get a=some (hD i m r wb hr en))(hl:rs.length<=1000) :
  W (appW (callF prog (n+2)) 35 [.ref c,.ref a,.int last,pD rs] S) fun d T=>d=.non/\Mv [c] S T/\T.get c=some (cD i m r a last rs):=by
 refine zbF rfl rfl (wS_W _ ?_);exists zc6 ea;exists zkg ea;exists zhp ea;refine za4 ((zlV e hf).mono fun d T hT=>?_);obtain⟨v1,g1⟩:=hT;obtain⟨T2,h2,v2,g2⟩:=zbd (f:="inner") (gs:=[("number",.int i),("many",.int m),("rounds",.int r),("inner",.ref a)]) g1 (hf.mv v1) (by simp) rfl;obtain⟨T3,h3,v3,g3⟩:=zbd (f:="last") (gs:=[("number",.int i),("many",.int m),("rounds",.int r),("inner",.ref a),("last",.int last)]) g2 ((hf.mv v1).mv v2) (by simp) rfl;obtain⟨T4,h4,v4,g4⟩:=zbd (f:="reached") g3 (((hf.mv v1).mv v2).mv v3) (by simp) rfl;exists h2;exists h3;change by rw[length_map];omega
 exists h4;exact⟨rfl,((v1.trans v2).trans v3).trans v4,g4⟩
noncomputable def wcB:CS:=.setIx Y2 Y3 (.mk 1 35 "Crasher" 0 #[.ix Y0 Y3,Y4,Y5]) .nil
theorem zm3:c_with_crashers.body=.asg 2 (.mkL (.val Y0)) (.forS [3,4,5] (.val Y1) wcB (.ret Y2 .nil)):=rfl
noncomputable abbrev Ew(hl cl tl:Nat)(a b c:Option D):Ev:=[some (.ref hl),some (.ref cl),some (.ref tl),a,b,c]
theorem zm2{T:R.St}(gh:T.get hl=some (.lst hd))(gt:T.get tl=some (.lst td))(ft:Fr T tl)(ej:hd[j]?=some (.ref a))(jt:j<td.length)(ea:T.get a=some (hD (j:Int) m r wb hr en))(hrs:rs.length<=1000)(hk:∀l∈T.lk,l<T.len) :
  W (exS (callF prog (n+3)) wcB (Ew hl cl tl (some (.int (j:Nat))) (some (.int last)) (some (pD rs))) T) fun f U=>f=.nx (Ew hl cl tl (some (.int (j:Nat))) (some (.int last)) (some (pD rs)))/\Mv [tl] T U/\U.get tl=some (.lst (td.set j (.ref T.len)))/\U.get T.len=some (cD (j:Int) m r a last rs):=by
 have mP:=Mv.push [] T (.ins 1 []);have fc:Fr (T.push (.ins 1 [])) T.len:=⟨by show T.frz.length<=T.len;unfold St.len;omega,zb2 hk (le_refl _)⟩;apply wS_W _;exists gh;exists zci ej;refine za4 ((zor (zac T (.ins 1 [])) fc (zaf ea) hrs).mono fun d U hU=>?_);obtain⟨rfl,v,gc⟩:=hU;change rfl;have ne:tl≠T.len:=by have:=zai gt;omega
 have gt2:U.get tl=some (.lst td):=v.old _ _ (by simpa using ne) (zaf gt);have ft2:=(ft.mv mP).mv v;obtain⟨V,hV,mV,gV⟩:=zbf ft2 gt2;have ed:dPut U (.ref tl) (.int (j:Nat)) (.ref T.len)=some V:=by
  unfold dPut;dsimp only;rw[gt2];have ei:ixN td.length ((j:Nat):Int)=some j:=by unfold ixN;rw[if_pos (by omega),if_pos (by omega)];simp
  simp[zbG,bind_some,ei];exact hV
 exists ed;refine⟨rfl,?_,gV,mV.old _ _ (by simpa using ne.symm) gc⟩;exact zjt ((v.up (by intro z hz;exact mem_cons.mpr (.inl (mem_singleton.mp hz)))).trans (mV.up (by intro z hz;exact mem_cons_of_mem _ hz)))
abbrev Cra:=Nat×Int×List Int
noncomputable def craD(x:Cra):D:=.tup [.int (x.1:Nat),.int x.2.1,pD x.2.2]
structure Wc(T:R.St)(m:Nat)(r:Int)(tl:Nat)(ps:List Pt):Prop where
 gt:T.get tl=some (.lst (ps.map fun p=>.ref p.who))
 ft:Fr T tl
 hd:∀(i:Nat) p,ps[i]?=some p->∃wb hr en,T.get p.a=some (hD i m r wb hr en)/\wb=p.wb/\hr=p.hr
 cr:∀(i:Nat) p c last rs,ps[i]?=some p->p.cr=some (c,last,rs)->T.get c=some (cD i m r p.a last rs)
 hk:∀l∈T.lk,l<T.len
theorem ziz:∀(cs:List Cra)(ps:List Pt)(T:R.St)(a b c:Option D),Wc T m r tl ps->T.get hl=some (.lst hd)->hl≠tl->(∀(i:Nat) p,ps[i]?=some p->hd[i]?=some (.ref p.a))->(∀x∈cs,x.1<ps.length/\x.2.2.length<=1000)->N<=tl->N<=T.len->(cs.map (·.1)).Nodup->
  W (zaB [3,4,5] (exS (callF prog (n+3)) wcB) (cs.map craD) (Ew hl cl tl a b c) T) fun f U=>(∃a b c,f=.nx (Ew hl cl tl a b c))/\Mv [tl] T U/\∃ps',Wc U m r tl ps'/\ps'.length=ps.length/\(∀(i:Nat) p,ps[i]?=some p->∃p',ps'[i]?=some p'/\p'.a=p.a/\p'.wb=p.wb/\p'.hr=p.hr/\((∀x∈cs,x.1≠i)->p'=p)/\∀x∈cs,x.1=i->∃c,p'.cr=some (c,x.2.1,x.2.2))
 | [],ps,T,a,b,c,X,_,_,_,_,_,_,_=>by show W (Out.ok (Fl.nx _) T) _;rw[W_ok];exact⟨⟨a,b,c,rfl⟩,Mv.refl _ _,ps,X,rfl,fun i p e=>⟨p,e,rfl,rfl,rfl,fun _=>rfl,fun x hx=>by simp at hx⟩⟩| (j,last,rs)::cs,ps,T,a,b,c,X,gh,nh,hh,hc,hN,hT,nd=>by
  rw[map_cons,nodup_cons]at nd;obtain⟨hj,hrs⟩:=hc (j,last,rs) (by simp);have ep:ps[j]?=some ps[j]:=List.getElem?_eq_getElem hj;obtain⟨wb,hr,en,ea,_,_⟩:=X.hd j _ ep;show W (Out.bind (exS (callF prog (n+3)) wcB (Ew hl cl tl (some (.int (j:Nat))) (some (.int last)) (some (pD rs))) T) _) _;rw[zaa];refine(zm2 gh X.gt X.ft (hh j _ ep) (by simpa using hj) ea hrs X.hk).mono fun f U hU=>?_;obtain⟨rfl,v,g1,g2⟩:=hU;have old:∀l o,l≠tl->T.get l=some o->U.get l=some o:=fun l o h e=>v.old _ _ (by simpa using h) e;have nol:∀l o,(∀ds,o≠.lst ds)->T.get l=some o->l≠tl:=fun l o h e z=>by rw[z,X.gt]at e;cases e;exact h _ rfl
  have Y:Wc U m r tl (ps.set j {ps[j]with cr:=some (T.len,last,rs)}):=by refine⟨?_,X.ft.mv v,fun i p e=>?_,fun i p c' l' r' e ec=>?_,fun l hl=>?_⟩;rw[List.map_set];exact g1;rw[getElem?_set]at e;split at e;rename_i ij;subst ij;cases e;obtain⟨wb,hr,en,e1,e2,e3⟩:=X.hd j _ ep;exact⟨wb,hr,en,old _ _ (nol _ _ (fun ds z=>by unfold hD at z;cases z) e1) e1,e2,e3⟩;obtain⟨wb,hr,en,e1,e2,e3⟩:=X.hd i p e;exact⟨wb,hr,en,old _ _ (nol _ _ (fun ds z=>by unfold hD at z;cases z) e1) e1,e2,e3⟩;rw[getElem?_set]at e;split at e;rename_i ij;subst ij;cases e;cases ec;exact g2;have e1:=X.cr i p c' l' r' e ec;exact old _ _ (nol _ _ (fun ds z=>by unfold cD at z;cases z) e1) e1;rw[v.lk]at hl;have:=X.hk l hl;have:=v.len;omega
  refine(ziz cs _ U _ _ _ Y (old _ _ nh gh) nh (fun i p e=>?_) (fun x hx=>?_) hN (le_trans hT v.len) nd.2).mono fun f V hV=>?_;rw[getElem?_set]at e;split at e;rename_i ij;subst ij;cases e;exact hh j ps[j] ep;exact hh i p e;rw[List.length_set];exact hc x (by simp[hx]);obtain⟨k1,k2,ps',k3,k4,k5⟩:=hV;refine⟨k1,v.trans k2,ps',k3,by rw[k4,List.length_set],fun i p e=>?_⟩;by_cases ij:j=i;subst ij;rw[ep]at e;cases e;obtain⟨p',q1,q2,q3,q4,q5,q6⟩:=k5 j {ps[j]with cr:=some (T.len,last,rs)} (by rw[getElem?_set,if_pos rfl,if_pos hj]);have nj:∀x∈cs,x.1≠j:=fun x hx z=>nd.1 (mem_map.mpr ⟨x,hx,z⟩);refine⟨p',q1,q2,q3,q4,fun z=>absurd rfl (z (j,last,rs) (by simp)),fun x hx xj=>?_⟩;rcases mem_cons.mp hx with rfl|hx;exact⟨T.len,by rw[q5 nj]⟩;exact absurd xj (nj x hx);obtain⟨p',q1,q2,q3,q4,q5,q6⟩:=k5 i p (by rw[getElem?_set,if_neg ij];exact e);refine⟨p',q1,q2,q3,q4,fun z=>q5 fun x hx=>z x (by simp[hx]),fun x hx xi=>?_⟩;rcases mem_cons.mp hx with rfl|hx;exact absurd xi ij;exact q6 x hx xi
theorem zcz{S T:R.St}(hT:T.frz=S.frz++S.new):(R.St.mk S.frz (S.new++T.new) S.lk).get l=T.get l:=by unfold St.get;rw[hT];dsimp only;rw[length_append];by_cases h1:l<S.frz.length;rw[if_pos h1,if_pos (by omega),getElem?_append_left h1];rw[if_neg h1];by_cases h2:l<S.frz.length+S.new.length;rw[if_pos h2,getElem?_append_left (by omega),getElem?_append_right (by omega)];rw[if_neg h2,getElem?_append_right (by omega)];congr 1;omega
theorem get_frz{S T:R.St}(hT:T.frz=S.frz++S.new)(h:l<S.len):T.get l=S.get l:=by rw[<-zaC S];unfold St.get;rw[hT,if_pos (by rw[zce];exact h),if_pos (by rw[zfK,zce];exact h)];rfl
theorem zpV{m n hl cl:Nat}{ps:List Pt}{cs:List Cra}(gh:S.get hl=some (.lst (ps.map fun p=>.ref p.a)))(gc:S.get cl=some (.lst (cs.map craD)))(h0:∀p∈ps,p.cr=none)(hd:∀(i:Nat) p,ps[i]?=some p->∃en,S.get p.a=some (hD i m r p.wb p.hr en))(hc:∀x∈cs,x.1<ps.length/\x.2.2.length<=1000)(hp:ps.length<=1000)(nd:(cs.map (·.1)).Nodup) :
  W (app (callF prog (n+4)) 14 [.ref hl,.ref cl] S) fun d U=>∃(tl:Nat) (ps':List Pt),d=.ref tl/\U.frz=S.frz/\U.lk=S.lk/\S.len<=U.len/\(∀l o,S.get l=some o->U.get l=some o)/\S.len<=tl/\U.get tl=some (.lst (ps'.map fun p=>.ref p.who))/\(∀(i:Nat) p c last rs,ps'[i]?=some p->p.cr=some (c,last,rs)->U.get c=some (cD i m r p.a last rs))/\ps'.length=ps.length/\(∀(i:Nat) p,ps[i]?=some p->∃p',ps'[i]?=some p'/\p'.a=p.a/\p'.wb=p.wb/\p'.hr=p.hr/\((∀x∈cs,x.1≠i)->p'=p)/\∀x∈cs,x.1=i->∃c,p'.cr=some (c,x.2.1,x.2.2)):=by
 have lh:=zai gh;have lc:=zai gc;have who0:(ps.map fun p=>D.ref p.a)=ps.map fun p=>D.ref p.who:=List.map_congr_left fun p hp=>by unfold Pt.who;rw[h0 p hp]
 rw[zhC rfl rfl,zaa,zm3,exS,zaa];have gE:∀l o,S.get l=some o->S.enter.get l=some o:=fun l o e=>by rw[zaC];exact e
 have e0:evE (callF prog (n+3)) (.mkL (.val Y0)) (zaE c_with_crashers [.ref hl,.ref cl]) S.enter=.ok (.ref S.enter.len) (S.enter.push (.lst (ps.map fun p=>.ref p.a))):=by
  refine W.eq (wE_W _ ?_);left;exists gE _ _ gh;left;change by rw[length_map];omega
  exact⟨rfl,rfl⟩
 rw[e0,W_ok];have up:∀l o,S.get l=some o->(S.enter.push (.lst (ps.map fun p=>.ref p.a))).get l=some o:=fun l o e=>zaf (gE l o e);have el:evL (callF prog (n+3)) (.val Y1) (Ew hl cl S.enter.len none none none) (S.enter.push (.lst (ps.map fun p=>.ref p.a)))=.ok (cs.map craD,[cl]) (S.enter.push (.lst (ps.map fun p=>.ref p.a))):=by refine W.eq (wL_W _ ?_);left;exists up _ _ gc;left;exact⟨rfl,rfl⟩
 refine zbu el ?_;have X:Wc ({S.enter.push (.lst (ps.map fun p=>.ref p.a)) with lk:=[cl]++(S.enter.push (.lst (ps.map fun p=>.ref p.a))).lk}:R.St) m r S.enter.len ps:=by
  refine⟨?_,⟨?_,?_⟩,fun i p e=>?_,fun i p c l rs e ec=>?_,fun l hl=>?_⟩;rw[<-who0];exact zac _ _;show(S.frz++S.new).length<=_;rw[zce,R.enter_len];exact le_refl _;show([cl]:List Nat).contains _=false;rw[R.enter_len];simp;omega;obtain⟨en,e1⟩:=hd i p e;exact⟨p.wb,p.hr,en,up _ _ e1,rfl,rfl⟩;rw[h0 p (mem_of_getElem? e)]at ec;cases ec;have:l=cl:=by simpa using(show l∈[cl] from hl)
  subst this;show l<(S.enter.push _).len;rw[plen,R.enter_len];omega
 refine(ziz cs ps _ none none none X (up _ _ gh) (by rw[R.enter_len];omega) (fun i p e=>by rw[getElem?_map,e];rfl) hc (by rw[R.enter_len];exact le_refl _) (by show S.len<=(S.enter.push _).len;rw[plen,R.enter_len];omega) nd).mono fun f U hU=>?_;obtain⟨⟨a,b,c,rfl⟩,v,ps',Y,k4,k5⟩:=hU;have gtl:({U with lk:=(S.enter.push (.lst (ps.map fun p=>.ref p.a))).lk}:R.St).get S.enter.len=some (.lst (ps'.map fun p=>.ref p.who)):=Y.gt;have hU:U.frz=S.frz++S.new:=v.frz;have old:∀l o,S.get l=some o->U.get l=some o:=fun l o e=>v.old _ _ (by have:=zai e;rw[R.enter_len];simp;omega) (up l o e);refine W.mono (wS_W (.ret Y2 .nil) (Q:=fun r' T=>r'=.rt (.ref S.enter.len)/\T={U with lk:=(S.enter.push (.lst (ps.map fun p=>.ref p.a))).lk}) ?_) fun r' T hr=>?_;left;exact⟨rfl,rfl⟩;obtain⟨rfl,rfl⟩:=hr;rw[zhn];unfold zcy;have h0':R.flat S.len (.ref S.enter.len)=false:=by simp[R.flat]
 simp only[h0',gtl,Bool.false_eq_true,if_false];split;rename_i fl;refine⟨S.len,ps',rfl,rfl,rfl,by rw[plen];omega,fun l o e=>zaf e,le_refl _,zac _ _,fun i p c' l' r' e ec=>?_,k4,k5⟩;have:=Y.cr i p c' l' r' e ec;rw[zaV]at fl;have hm:=fl (.ref p.who) (mem_map.mpr ⟨p,mem_of_getElem? e,rfl⟩);have hw:p.who=c':=by unfold Pt.who;rw[ec]
 rw[hw]at hm;have hlt:c'<S.len:=by simpa[R.flat]using hm
 refine zaf ?_;rw[<-get_frz hU hlt];exact this;rw[W_ok];refine⟨S.enter.len,ps',rfl,rfl,rfl,by simp[St.len],fun l o e=>?_,by rw[R.enter_len];exact le_refl _,?_,fun i p c' l' r' e ec=>?_,k4,k5⟩;exact(zcz hU).trans (old l o e);exact(zcz hU).trans gtl;exact(zcz hU).trans (Y.cr i p c' l' r' e ec)
section
variable{n:Nat}{S:R.St}{i m:Int}
theorem zet:app (callF prog (n+1)) 1 [.int i] S=.ok (.bl true) S:=by apply zbE rfl rfl;exists rfl;exists rfl;exact zan rfl ⟨rfl,rfl⟩
theorem ziY(h:0<=i/\i<m):app (callF prog (n+2)) 2 [.int i,.int m] S=.ok (.bl true) S:=by apply zbE rfl rfl;specialize zet;left;apply ziC (by simpa using h.1);exact zan rfl ⟨by simp[h.2],rfl⟩
theorem zpU(h:-10^60<i/\i<10^60):app (callF prog (n+2)) 3 [.int i] S=.ok (.bl true) S:=by
 apply zbE rfl rfl;specialize zet;change by first|decide|omega|(simp;done)|(simp;omega)
 refine zan rfl ⟨?_,rfl⟩;have:(if i<0 then -i else i)<(10:Int)^60:=by split<;>omega
 rw[show Int.toNat 60=60 from rfl,decide_eq_true this]
theorem zf9(h1:lo<=i)(h2:i<=hi):app (callF prog (n+2)) 4 [.int i,.int lo,.int hi] S=.ok (.int i) S:=by apply zbE rfl rfl;specialize zet;apply ziC (by simpa using h1);apply zpc (by simpa using h2);exact zan rfl ⟨rfl,rfl⟩
theorem zlk(h:0<=i/\i<m):app (callF prog (n+3)) 5 [.int i,.int m] S=.ok (.int i) S:=by apply zbE rfl rfl;specialize ziY h;exact zan rfl ⟨rfl,rfl⟩
theorem zlh(h:-10^60<i/\i<10^60):app (callF prog (n+3)) 6 [.int i] S=.ok (.int i) S:=by apply zbE rfl rfl;specialize zpU h;exact zan rfl ⟨rfl,rfl⟩
theorem zpW(h:1<=i/\i<=30):app (callF prog (n+2)) 10 [.int i] S=.ok (.bl true) S:=by apply zbE rfl rfl;specialize zet;left;apply ziC (by simpa using h.1);exact zan rfl ⟨by simp[h.2],rfl⟩
theorem ziW:app (callF prog (n+3)) 11 [.non,.int i] S=.ok (.int (i+1)) S:=by apply zbE rfl rfl;exact zan rfl ⟨rfl,rfl⟩
theorem ziV(h1:1<=z)(h2:z<=8):app (callF prog (n+3)) 11 [.int z,.int i] S=.ok (.int z) S:=by apply zbE rfl rfl;specialize zf9 h1 h2;exact zan rfl ⟨rfl,rfl⟩
end
structure VC(m:Int)(x:Cra):Prop where
 h:(x.1:Int)<m
 t1:1<=x.2.1
 t2:x.2.1<=30
 r:∀i∈x.2.2,0<=i/\i<m
 l:x.2.2.length<=7
theorem zrA{a b c:D}:R.atI [a,b,c] 0=some a:=rfl
theorem zsA{a b c:D}:R.atI [a,b,c] 1=some b:=rfl
theorem zrz{a b c:D}:R.atI [a,b,c] 2=some c:=rfl
theorem zkT:∀rs:List Int,allD (rs.map fun _=>D.bl true)=some true
 | []=>rfl| r::rs=>by
  have h:((rs.map fun _=>D.bl true).mapM zdF).map (fun bs=>bs.all id)=some true:=zkT rs;unfold allD;rw[map_cons,mapM_cons];cases e:(rs.map fun _=>D.bl true).mapM zdF with
  |none=>rw[e]at h;cases h
  |some bs=>rw[e]at h;simp at h;simp[zdF,h]
theorem znI(h:VC m x):app (callF prog (n+3)) 13 [craD x,.int m] S=.ok (.bl true) S:=by
 obtain⟨a,b,rs⟩:=x;apply zbE rfl rfl;exists rfl;exists zrA;specialize ziY ⟨Int.natCast_nonneg a,h.h⟩;exists zsA;specialize zpW ⟨h.t1,h.t2⟩;exists zrz;exists rfl;exists zrz;apply zaw;refine W.of (zba (fun _=>.bl true) (rs.map D.int) _ (fun x _=>rfl) (fun x hx=>?_)) ?_;obtain⟨i,hi,rfl⟩:=mem_map.mp hx;exact ziY (h.r i hi);have hl:=h.l;rw[List.map_map];change by rw[length_map];dsimp only at hl;omega
 exists zkT rs;exact zan rfl ⟨rfl,rfl⟩
abbrev Up(S T:R.St):Prop:=∀l o,S.get l=some o->T.get l=some o
theorem Up.push(S:R.St)(o:MO):Up S (S.push o):=fun _ _ e=>zaf e
theorem Up.refl(S:R.St):Up S S:=fun _ _ e=>e
theorem Up.enter(S:R.St):Up S S.enter:=fun l o e=>by rw[zaC];exact e
theorem Up.trans(a:Up S T)(b:Up T U):Up S U:=fun l o e=>b l o (a l o e)
structure Lp(S T:R.St)(l:Nat)(acc:List D):Prop where
 up:Up S T
 fz:T.frz=S.frz++S.new
 lk:T.lk.contains l=false
 at_:T.get l=some (.lst acc)
 nw:S.len<=l
theorem Lp.old(L:Lp S T l acc):T.frz.length<=l:=by rw[L.fz,zce];exact L.nw
noncomputable def zkB:CS:=.ifS (.or (.nt (.tst (.call 13 0 #[Y4,Y0]))) (.cmp .In (.ix Y4 Z0) (.mkL (.comp 1 [] [0] (.val Y2) (.tst (.con (D.bl true))) (.ix Y0 Z0)))))
 .stop .nil (.expr (.mt .append Y2 #[Y4]) .nil)
noncomputable abbrev Ec(m:Int)(s l:Nat)(a b:Option D):Ev:=[some (.int m),some (.ref s),some (.ref l),a,b]
theorem zky(acc:List Cra):(acc.map craD).map (fun x=>match x with|.tup (d::_)=>d|_=>.non)=(acc.map fun x=>((x.1:Nat):Int)).map D.int:=by rw[List.map_map,List.map_map];rfl
theorem zdw(acc:List Cra)(o:Option D):zaI [0] (evT (callF prog n) (CE.con (D.bl true)).tst) (evE (callF prog n) (.ix Y0 Z0)) (acc.map craD) [o] S=.ok ((acc.map fun x=>((x.1:Nat):Int)).map D.int) S:=by rw[<-zky];refine zba _ _ _ (fun x _=>rfl) (fun x hx=>?_);obtain⟨y,_,rfl⟩:=mem_map.mp hx;rfl
theorem zoR{s l k:Nat}(L:Lp S T l (acc.map craD))(hx:VC m x)(hn:x.1∉acc.map (·.1))(hl:acc.length<1000) :
  W (exS (callF prog (n+3)) zkB (Ec m s l (some (.int k)) (some (craD x))) T) fun f U=>f=.nx (Ec m s l (some (.int k)) (some (craD x)))/\Lp S U l ((acc++[x]).map craD)/\U.lk=T.lk:=by
 apply wS_W _;specialize znI hx;exists zrA;exists L.at_;apply zaw;apply W.of (zdw acc none);change by rw[length_map,length_map];omega
 change by rw[length_map,length_map];omega
 exists zmN (zcu T _) ((x.1:Nat):Int);have c:¬((x.1:Nat):Int)∈acc.map fun x=>((x.1:Nat):Int):=fun z=>by obtain⟨y,hy,e⟩:=mem_map.mp z;exact hn (mem_map.mpr ⟨y,hy,by omega⟩)
 rw[decide_eq_false c];exists zaf L.at_;exists zaf L.at_;change by simp;omega
 obtain⟨U,e1,e2,e3,e4,e5,e6⟩:=zc5 (S:=R.St.push T (.lst ((acc.map fun x=>((x.1:Nat):Int)).map D.int))) (.lst ((acc.map craD)++[craD x])) L.old L.lk;exists e1;refine⟨rfl,⟨fun j o ho=>?_,by rw[e2];exact L.fz,by rw[e3];exact L.lk,by rw[map_append];exact e6 (zai (zaf L.at_)),L.nw⟩,e3⟩;rw[e5 j (by have:=zai ho;have:=L.nw;omega)];exact zaf (L.up j o ho)
noncomputable def en:Nat->List D->List D
 |_,[]=>[]|k,d::ds=>zcv (.int (k:Nat)) d::en (k+1) ds
theorem zmQ:∀(ds:List D)(k:Nat),ds.mapIdx (fun i d=>zcv (.int ((i+k:Nat):Int)) d)=en k ds
 | [],_=>rfl| d::ds,k=>by rw[List.mapIdx_cons,en,<-zmQ ds (k+1),zero_add];congr 2;funext i d;rw[show i+1+k=i+(k+1) by omega]
theorem en_0(ds:List D):ds.mapIdx (fun i d=>zcv (.int (i:Int)) d)=en 0 ds:=zmQ ds 0
theorem zkz:∀(ds acc:List Cra)(k:Nat)(T:R.St)(a b:Option D),Lp S T l (acc.map craD)->(∀d∈ds,VC m d)->((acc++ds).map (·.1)).Nodup->acc.length+ds.length<=1000->
  W (zaB [3,4] (exS (callF prog (n+3)) zkB) (en k (ds.map craD)) (Ec m s l a b) T) fun f U=>(∃a b,f=.nx (Ec m s l a b))/\Lp S U l ((acc++ds).map craD)
 | [],acc,k,T,a,b,L,_,_,_=>by show W (Out.ok (Fl.nx _) T) _;rw[W_ok];exact⟨⟨a,b,rfl⟩,by rw[append_nil];exact L⟩| d::ds,acc,k,T,a,b,L,ht,ha,hl=>by
  simp at hl;show W (Out.bind (exS (callF prog (n+3)) zkB (Ec m s l (some (.int k)) (some (craD d))) T) _) _;rw[zaa];have nn:d.1∉acc.map (·.1):=fun z=>by rw[map_append,nodup_append]at ha;exact ha.2.2 _ z _ (by simp) rfl
  refine(zoR L (ht d (by simp)) nn (by omega)).mono fun f U q=>?_;obtain⟨rfl,L',_⟩:=q;refine(zkz ds (acc++[d]) (k+1) U (some (.int k)) (some (craD d)) L' (fun x hx=>ht x (by simp[hx])) (by simpa using ha) (by simp;omega)).mono fun f V hV=>?_;rw[append_assoc]at hV;exact hV
theorem zhl(h:∀d∈ds,R.flat N d=true):R.flats N ds=true:=by rw[zaV];exact h
theorem zhm(N:Nat)(x:Cra):R.flat N (craD x)=true:=by unfold craD;simp only[R.flat,zaV];intro d hd;simp at hd;rcases hd with rfl|rfl|rfl;rfl;rfl;simp only[R.flat,zaV];intro d hd;obtain⟨i,_,rfl⟩:=mem_map.mp hd;rfl
theorem zdH(h:P[f]?=some F)(hl:ds.length=F.np)(w:W (exS (callF P n) F.body (zaE F ds) S.enter) fun r T=>wFin S r T Q)(hp:F.prim=none:=by rfl) :
  W (app (callF P (n+1)) f ds S) Q:=by
 rw[zhC h hl hp,zaa];refine w.mono fun r T q=>?_;unfold wFin at q;exact q
theorem zi1{cs:List Cra}(hg:S.get s=some (.lst (cs.map craD)))(ht:∀d∈cs,VC m d)(nd:(cs.map (·.1)).Nodup)(hl:cs.length<=1000) :
  app (callF prog (n+4)) 12 [.int m,.ref s] S=.ok (.ref S.len) (S.push (.lst (cs.map craD))):=by
 refine W.eq (zdH rfl rfl ?_);apply wS_W _;change by decide
 have hs:=zai hg;have up:Up S (S.enter.push (.lst [])):=(Up.enter S).trans (.push _ _);have en:zbQ (S.enter.push (.lst [])) (.ref s)=some (en 0 (cs.map craD),[s]):=by unfold zbQ;dsimp only;rw[up _ _ hg,<-en_0]
 exists en;apply zaw;have L0:Lp S {S.enter.push (.lst []) with lk:=[s]++(S.enter.push (.lst [])).lk} S.enter.len (([]:List Cra).map craD):=by refine⟨fun l o e=>up l o e,?_,?_,?_,by rw[R.enter_len];exact le_refl _⟩;rfl;show([s]:List Nat).contains _=false;simp;omega;exact zcu S.enter _
 refine(zkz cs [] 0 _ none none L0 ht (by simpa using nd) (by simpa using hl)).mono fun f U q=>?_;obtain⟨⟨a,b,rfl⟩,L⟩:=q;exact zbI L.nw L.at_ (zhl fun d hd=>by obtain⟨x,_,rfl⟩:=mem_map.mp hd;exact zhm _ x) ⟨rfl,rfl⟩
noncomputable def hmE:CE:=.mk 0 28 "FloodHand" 0 #[Y0,Y2,Y3,Y1]
theorem zq6(hk:∀l∈T.lk,l<T.len):W (evE (callF prog (n+2)) hmE [some (.int i),some (.int w),some (.int m),some (.int r)] T) fun d U=>d=.ref T.len/\Mv [] T U/\∃wb hr,T.len<wb/\T.len<hr/\U.get T.len=some (hD i m r wb hr none)/\U.get wb=some (.dic (kvD [w]))/\U.get hr=some (.lst []):=by have fc:Fr (T.push (.ins 0 [])) T.len:=⟨by show T.frz.length<=T.len;unfold St.len;omega,zb2 hk (le_refl _)⟩;apply wE_W _;refine za4 ((zqM (zac T (.ins 0 [])) fc).mono fun d U hU=>?_);obtain⟨rfl,v,wb,hr,h1,h2,h3,h4,h5⟩:=hU;change rfl;rw[plen]at h1 h2;exact⟨rfl,zjt v,wb,hr,by omega,by omega,h3,h4,h5⟩
structure Hm(U:R.St)(m r:Int)(N k:Nat)(ps:List Pt)(ws:List Int):Prop where
 l:ps.length=ws.length
 ad:∀p∈ps,p.cr=none/\∀z∈adr p,N<=z/\z<U.len
 dj:ps.Pairwise (fun p q=>∀z∈adr p,z∉adr q)
 g:∀(i:Nat) p w,ps[i]?=some p->ws[i]?=some w->U.get p.a=some (hD ((k+i:Nat):Int) m r p.wb p.hr none)/\U.get p.wb=some (.dic (kvD [w]))/\U.get p.hr=some (.lst [])
theorem zj3:∀(ws:List Int)(k:Nat)(T:R.St)(o1 o2:Option D),(∀l∈T.lk,l<T.len)->
  W (zaI [0,1] (evT (callF prog (n+2)) (CE.con (D.bl true)).tst) (evE (callF prog (n+2)) hmE) (en k (ws.map .int)) [o1,o2,some (.int m),some (.int r)] T) fun ds U=>∃ps:List Pt,ds=(ps.map fun p=>.ref p.a)/\Mv [] T U/\Hm U m r T.len k ps ws
 | [],k,T,o1,o2,_=>by show W (Out.ok [] T) _;rw[W_ok];exact⟨[],rfl,Mv.refl _ _,rfl,by simp,.nil,by simp⟩| w::ws,k,T,o1,o2,hk=>by
  rw[map_cons,en,zaI];rw[show asgG [0,1] (zcv (.int ((k:Nat):Int)) (.int w)) [o1,o2,some (.int m),some (.int r)]=some [some (.int ((k:Nat):Int)),some (.int w),some (.int m),some (.int r)] from rfl];dsimp only;rw[show evT (callF prog (n+2)) (CE.con (D.bl true)).tst [some (.int ((k:Nat):Int)),some (.int w),some (.int m),some (.int r)] T=.ok true T from rfl,zaD,if_pos rfl,zaa];refine(zq6 hk).mono fun d U hU=>?_;obtain⟨rfl,v,wb,hr,h1,h2,h3,h4,h5⟩:=hU;rw[zaa];have l2:=zai h4;have l3:=zai h5;refine(zj3 ws (k+1) U (some (.int (k:Nat))) (some (.int w)) (by rw[v.lk];exact fun l hl=>lt_of_lt_of_le (hk l hl) v.len)).mono fun ds V hV=>?_;obtain⟨ps,rfl,u,H⟩:=hV;have ul:=u.len;refine⟨⟨T.len,wb,hr,none⟩::ps,rfl,v.trans u,by rw[length_cons,length_cons,H.l],fun p hp=>?_,?_,fun i p x e1 e2=>?_⟩;rcases mem_cons.mp hp with rfl|hp
  . refine⟨rfl,fun z hz=>?_⟩;simp[adr,mem_cons,not_mem_nil,or_false]at hz;rcases hz with rfl|rfl|rfl<;>omega
  obtain⟨a1,a2⟩:=H.ad p hp;exact⟨a1,fun z hz=>by have:=a2 z hz;omega⟩
  . rw[pairwise_cons];refine⟨fun q hq z hz hm=>?_,H.dj⟩;have:=((H.ad q hq).2 z hm).1;simp[adr,mem_cons,not_mem_nil,or_false]at hz;rcases hz with rfl|rfl|rfl<;>omega
  cases i with| zero=>cases e1;cases e2;exact⟨u.old _ _ (by simp) h3,u.old _ _ (by simp) h4,u.old _ _ (by simp) h5⟩| succ i=>have:=H.g i p x (by simpa using e1) (by simpa using e2);rw[show k+1+i=k+(i+1) by omega]at this;exact this
theorem P1.one{j a:Nat}(x:P1 S m r j p h)(v:Mv [a] S T)(n:a∉adr p)(e:S.get a=some o)(hc:∀i m r b l rs,o≠cD i m r b l rs):P1 T m r j p h:=by refine x.mv v ?_ ?_ ?_ ?_;simp;exact fun z=>n (by rw[<-z];simp[adr]);simp;exact fun z=>n (by rw[<-z];simp[adr]);simp;exact fun z=>n (by rw[<-z];simp[adr]);intro c last rs ec;simp;intro z;have:=x.c c last rs ec;rw[z,e]at this;cases this;exact hc _ _ _ _ _ _ rfl
noncomputable def plD(hl lt:Nat):MO:=.ins 2 [("hands",.ref hl),("sent",.ref lt)]
theorem zol{r z:Int}(X:T0 S m r th ps hs)(e:S.get a=some (.ins 2 []))(hf:Fr S a)(na:∀p∈ps,a∉adr p)(m7:m<=7)(hw:ws.length<=7)(G:∀h∈hs,Gh ws 0 h)(hc:c<=8)(hz:z=(c:Nat)) :
  W (appW (callF prog (n+7)) 46 [.ref a,.ref hl,.ref th,.int z] S) fun d U=>d=.non/\U.lk=S.lk/\U.frz=S.frz/\(∃lt,U.get a=some (plD hl lt)/\U.get lt=some (.lst (lets m r ps 1 c hs)))/\(rnds m r ps 1 c hs).length=m/\(∀(i:Nat) p h,ps[i]?=some p->(rnds m r ps 1 c hs)[i]?=some h->P1 U m r i p h)/\∀l o,l≠a->(∀p∈ps,l∉adr p)->S.get l=some o->U.get l=some o:=by
 refine zbF rfl rfl (wS_W _ ?_);obtain⟨T1,h1,v1,g1⟩:=zbd (gs:=[("hands",.ref hl)]) e hf (by simp) rfl;have nth:th≠a:=fun q=>by have:=X.hg;rw[q,e]at this;cases this
 have X1:T0 T1 m r th ps hs:=⟨X.lp,X.lh,v1.old _ _ (by simpa using nth) X.hg,fun i p h e1 e2=>let ⟨q,f⟩:=X.p1 i p h e1 e2;⟨q.one v1 (na p (mem_of_getElem? e1)) e (fun _ _ _ _ _ _ q=>by unfold cD at q;cases q),f.mv v1⟩,X.dj,X.nt,by rw[v1.lk];exact fun l hl=>lt_of_lt_of_le (X.hk l hl) v1.len⟩;exists h1;refine za4 ((zr2 X1 m7 hw G hc hz).mono fun d U hU=>?_);obtain⟨rfl,Y,u1,u2,u3⟩:=hU;have gU:=u3 _ _ na g1;have fU:Fr U a:=⟨by rw[u2,v1.frz];exact hf.f,by rw[u1,v1.lk];exact hf.k⟩;obtain⟨V,h2,v2,g2⟩:=zbd (f:="sent") gU fU (by simp) rfl;exists h2;refine⟨rfl,by rw[v2.lk,u1,v1.lk],by rw[v2.frz,u2,v1.frz],⟨_,g2,v2.old _ _ (by have:=zai g1;simp;omega) Y.gl⟩,Y.lh,fun i p h e1 e2=>?_,fun l o n1 n2 e0=>?_⟩;exact(Y.p1 i p h e1 e2).1.one v2 (na p (mem_of_getElem? e1)) gU (fun _ _ _ _ _ _ q=>by unfold cD at q;cases q);exact v2.old _ _ (by simpa using n1) (u3 _ _ n2 (v1.old _ _ (by simpa using n1) e0))
theorem zhD(ws:List Int)(h:∀w∈ws,-10^60<w/\w<10^60)(o:Option D):zaI [0] (evT (callF prog (n+3)) (CE.con (D.bl true)).tst) (evE (callF prog (n+3)) (.call 6 0 #[Y0])) (ws.map D.int) [o] S=.ok (ws.map D.int) S:=by have:=zba (S:=S) (c:=evT (callF prog (n+3)) (CE.con (D.bl true)).tst) (e:=evE (callF prog (n+3)) (.call 6 0 #[Y0])) (rest:=[]) (fun x=>x) (ws.map D.int) o (fun x _=>rfl) (fun x hx=>by obtain⟨w,hw,rfl⟩:=mem_map.mp hx;exact zlh (h w hw));rw[List.map_id']at this;exact this
noncomputable def fP:CS:=.expr (.callC 46 "Play" "__init__" #[Y0,Y9,.call 14 0 #[Y9,Y7],Y8]) .nil
noncomputable def fT:CS:=.asg 8 (.call 11 0 #[Y5,Y2]) (.asg 9 (.mkL (.comp 2 [1,8] [0,1] (.enum Y6) (.tst (.con (D.bl true))) hmE))
 fP)
noncomputable abbrev Ef(a m:Nat)(b:Int)(wl:Nat)(cr rd:D)(x y u v:Option D):Ev:=[some (.ref a),some (.int (m:Nat)),some (.int b),some (.ref wl),some cr,some rd,x,y,u,v]
structure Pl(S U:R.St)(m:Nat)(r:Int)(c a:Nat)(ws:List Int)(cs:List Cra)(ps:List Pt):Prop where
 lk:U.lk=S.lk
 frz:U.frz=S.frz
 lp:ps.length=m
 at_:∃hl lt,U.get a=some (plD hl lt)/\U.get hl=some (.lst (ps.map fun p=>.ref p.a))/\U.get lt=some (.lst (lets m r ps 1 c (ws.map fun w=>⟨[w],[],none⟩)))
 lr:(rnds m r ps 1 c (ws.map fun w=>⟨[w],[],none⟩)).length=m
 p1:∀(i:Nat) p h,ps[i]?=some p->(rnds m r ps 1 c (ws.map fun w=>⟨[w],[],none⟩))[i]?=some h->P1 U m r i p h
 cn:∀(i:Nat) p,ps[i]?=some p->(∀x∈cs,x.1≠i)->p.cr=none
 cy:∀(i:Nat) p,ps[i]?=some p->∀x∈cs,x.1=i->∃c,p.cr=some (c,x.2.1,x.2.2)
 old:∀l o,l≠a->S.get l=some o->U.get l=some o
theorem zrf{m n c a wl bl tl hl:Nat}(e:S2.get a=some (.ins 2 []))(hf:Fr S2 a)(gh:S2.get hl=some (.lst (ps.map fun p=>.ref p.a)))(gt:S2.get tl=some (.lst (cs.map craD)))(H:Hm S2 m z S.len 0 ps ws)(na:∀p∈ps,a∉adr p)(nh:∀p∈ps,hl∉adr p)(nha:hl≠a)(hw:ws.length=m)(m7:m<=7)(hk:∀l∈S.lk,l<S.len)(c8:c<=8)(hz:z=(c:Nat))(vc:∀x∈cs,VC (m:Nat) x)(nd:(cs.map (·.1)).Nodup)(hS:Mv [] S S2) :
  W (exS (callF prog (n+7)) fP (Ef a m b wl cr rd (some (.ref bl)) (some (.ref tl)) (some (.int z)) (some (.ref hl))) S2) fun f U=>(∃δ,f=.nx δ)/\∃ps,Pl S U m z c a ws cs ps:=by
 have lps:ps.length=m:=by rw[H.l,hw]
 refine zbP (wE_W _ ?_);refine za4 ((zpV (m:=m) (r:=z) gh gt (fun p hp=>(H.ad p hp).1) (fun i p e1=>?_) (fun x hx=>⟨by have:=(vc x hx).h;omega,by have:=(vc x hx).l;omega⟩) (by omega) nd).mono fun d T hT=>?_);have hi:i<ws.length:=by rw[<-H.l];exact(List.getElem?_eq_some_iff.mp e1).1
 have:=(H.g i p ws[i] e1 (by simp)).1;rw[zero_add]at this;exact⟨none,this⟩;obtain⟨th,ps',rfl,t1,t2,t3,t4,t5,t6,t7,t8,t9⟩:=hT;have ea:ps'.map adr=ps.map adr/\(ps'.map fun p=>D.ref p.a)=ps.map fun p=>D.ref p.a:=by
  have key:∀(i:Nat),(ps'[i]?.map fun p=>(p.a,p.wb,p.hr))=ps[i]?.map fun p=>(p.a,p.wb,p.hr):=fun i=>by
   cases e1:ps[i]? with
   |none=>
    have:ps'[i]?=none:=by rw[List.getElem?_eq_none_iff]at e1⊢;omega
    rw[this]
   |some p=>obtain⟨p',q1,q2,q3,q4,_,_⟩:=t9 i p e1;rw[q1];simp[q2,q3,q4]
  refine⟨ext_getElem? fun i=>?_,ext_getElem? fun i=>?_⟩;have:=congrArg (Option.map fun x:Nat×Nat×Nat=>[x.1,x.2.1,x.2.2]) (key i);rw[Option.map_map,Option.map_map]at this;rw[getElem?_map,getElem?_map];exact this;have:=congrArg (Option.map fun x:Nat×Nat×Nat=>D.ref x.1) (key i);rw[Option.map_map,Option.map_map]at this;rw[getElem?_map,getElem?_map];exact this
 have bk:∀p'∈ps',∃p∈ps,adr p=adr p':=fun p' hp=>by have:adr p'∈ps'.map adr:=mem_map.mpr ⟨p',hp,rfl⟩;rw[ea.1]at this;obtain⟨p,h1,h2⟩:=mem_map.mp this;exact⟨p,h1,h2⟩
 have sl:=hS.len;have ff:S.frz.length<=S.len:=by unfold St.len;omega
 have fr:∀l,S.len<=l->Fr T l:=fun l hl=>⟨by rw[t1,hS.frz];omega,by rw[t2,hS.lk,Bool.eq_false_iff];intro q;have:=hk _ (List.contains_iff_mem.mp q);omega⟩;have X:T0 T m z th ps' (ws.map fun w=>⟨[w],[],none⟩):=by
  refine⟨by rw[t8,lps],by rw[length_map,hw],t6,fun i p' h e1 e2=>?_,?_,fun p hp hm=>?_,fun l hl=>?_⟩;rw[getElem?_map]at e2;cases e3:ws[i]? with
  |none=>rw[e3]at e2;cases e2
  |some w=>
   rw[e3]at e2;cases e2;have hi:i<ps.length:=by rw[<-t8];exact(List.getElem?_eq_some_iff.mp e1).1
   have ep:ps[i]?=some ps[i]:=List.getElem?_eq_getElem hi;obtain⟨p'',q1,q2,q3,q4,_,_⟩:=t9 i ps[i] ep;rw[e1]at q1;cases q1;obtain⟨g1,g2,g3⟩:=H.g i _ w ep e3;rw[zero_add]at g1;have ad:=(H.ad ps[i] (mem_of_getElem? ep)).2;refine⟨⟨by rw[q2,q3,q4];exact t4 _ _ g1,by rw[q3];exact t4 _ _ g2,by rw[q4];exact t4 _ _ g3,fun c last rs ec=>t7 i p' c last rs e1 ec,by simp⟩,⟨fr _ ?_,fr _ ?_,fr _ ?_⟩⟩;rw[q2];exact(ad _ (by simp[adr])).1;rw[q3];exact(ad _ (by simp[adr])).1;rw[q4];exact(ad _ (by simp[adr])).1
  have h1:(ps'.map adr).Pairwise fun x y=>∀z∈x,z∉y:=by rw[ea.1,pairwise_map];exact H.dj
  rw[pairwise_map]at h1;exact h1;obtain⟨q,hq,ee⟩:=bk p hp;rw[<-ee]at hm;have:=((H.ad q hq).2 th hm).2;omega;rw[t2,hS.lk]at hl;have:=hk l hl;omega
 have na':∀p∈ps',a∉adr p:=fun p hp hm=>by obtain⟨q,hq,ee⟩:=bk p hp;rw[<-ee]at hm;exact na q hq hm
 have nh':∀p∈ps',hl∉adr p:=fun p hp hm=>by obtain⟨q,hq,ee⟩:=bk p hp;rw[<-ee]at hm;exact nh q hq hm
 have G:∀h∈(ws.map fun w=>(⟨[w],[],none⟩:Hn)),Gh ws 0 h:=fun h hh=>by obtain⟨w,hw,rfl⟩:=mem_map.mp hh;exact⟨⟨by simp,fun x hx=>by simp at hx;subst hx;exact hw⟩,by simp,by simp⟩
 refine za4 ((zol X (t4 _ _ e) ⟨by rw[t1];exact hf.f,by rw[t2];exact hf.k⟩ na' m7 (by omega) G c8 hz).mono fun d U hU=>?_);obtain⟨rfl,u1,u2,⟨lt,u3,u7⟩,u4,u5,u6⟩:=hU;refine⟨⟨_,rfl⟩,ps',by rw[u1,t2,hS.lk],by rw[u2,t1,hS.frz],by rw[t8,lps],⟨hl,lt,u3,by rw[ea.2];exact u6 _ _ nha nh' (t4 _ _ gh),u7⟩,u4,u5,fun i p e1 hn=>?_,fun i p e1 x hx xi=>?_,fun l o nl e0=>?_⟩;have hi:i<ps.length:=by rw[<-t8];exact(List.getElem?_eq_some_iff.mp e1).1
 have ep:ps[i]?=some ps[i]:=List.getElem?_eq_getElem hi;obtain⟨p'',q1,_,_,_,q5,_⟩:=t9 i ps[i] ep;rw[e1]at q1;cases q1;rw[q5 hn];exact(H.ad _ (mem_of_getElem? ep)).1;have hi:i<ps.length:=by rw[<-t8];exact(List.getElem?_eq_some_iff.mp e1).1
 have ep:ps[i]?=some ps[i]:=List.getElem?_eq_getElem hi;obtain⟨p'',q1,_,_,_,_,q6⟩:=t9 i ps[i] ep;rw[e1]at q1;cases q1;exact q6 x hx xi;refine u6 l o nl (fun p hp hm=>?_) (t4 _ _ (hS.old _ _ (by simp) e0));obtain⟨q,hq,ee⟩:=bk p hp;rw[<-ee]at hm;have:=((H.ad q hq).2 l hm).1;have:=zai e0;omega
theorem zre{b z:Int}(e:S.get a=some (.ins 2 []))(hf:Fr S a)(gb:S.get bl=some (.lst (ws.map D.int)))(gt:S.get tl=some (.lst (cs.map craD)))(hw:ws.length=m)(m1:1<=m)(m7:m<=7)(hk:∀l∈S.lk,l<S.len)
  (hrd:(rd=.non/\z=b+1)\/(rd=.int z/\1<=z)) (z8:z<=8) (hz:z=(c:Nat)) (vc:∀x∈cs,VC (m:Nat) x) (nd:(cs.map (·.1)).Nodup) :
  W (exS (callF prog (n+7)) fT (Ef a m b wl cr rd (some (.ref bl)) (some (.ref tl)) u v) S) fun f U=>(∃δ,f=.nx δ)/\∃ps,Pl S U m z c a ws cs ps:=by
 have e8:evE (callF prog (n+7)) (.call 11 0 #[Y5,Y2]) (Ef a m b wl cr rd (some (.ref bl)) (some (.ref tl)) u v) S=.ok (.int z) S:=by refine W.eq (wE_W _ ?_);rcases hrd with⟨rfl,rfl⟩|⟨rfl,z1⟩;left;specialize ziW;exact⟨rfl,rfl⟩;left;specialize ziV z1 z8;exact⟨rfl,rfl⟩
 apply zaH e8;refine zfZ (wE_W _ ?_);have en:zbQ S (.ref bl)=some (en 0 (ws.map D.int),[bl]):=by unfold zbQ;dsimp only;rw[gb,<-en_0]
 exists en;apply zaw;have lbl:=zai gb;refine(zj3 ws 0 {S with lk:=[bl]++S.lk} none none (fun l hl=>by rcases mem_cons.mp hl with rfl|hl;exact lbl;exact hk l hl)).mono fun ds U hU=>?_;obtain⟨ps,rfl,v1,H⟩:=hU;have lps:ps.length=m:=by rw[H.l,hw]
 change by rw[length_map];omega
 change by rw[length_map];omega
 have v1:Mv [] S {U with lk:=S.lk}:=v1.lock;have H:Hm {U with lk:=S.lk} m z S.len 0 ps ws:=⟨H.l,H.ad,H.dj,H.g⟩;have v2:=v1.trans (Mv.push [] {U with lk:=S.lk} (.lst (ps.map fun p=>D.ref p.a)));have gh:=zac {U with lk:=S.lk} (.lst (ps.map fun p=>D.ref p.a));have H2:Hm (({U with lk:=S.lk}:R.St).push (.lst (ps.map fun p=>D.ref p.a))) m z S.len 0 ps ws:=⟨H.l,fun p hp=>⟨(H.ad p hp).1,fun z hz=>by have:=(H.ad p hp).2 z hz;rw[plen];omega⟩,H.dj,fun i p w e1 e2=>let ⟨a,b,c⟩:=H.g i p w e1 e2;⟨zaf a,zaf b,zaf c⟩⟩;exact zrf (e:=v2.old _ _ (by simp) e) (hf:=hf.mv v2) (gh:=gh) (gt:=v2.old _ _ (by simp) gt) (H:=H2) (na:=fun p hp hm=>by have:=((H.ad p hp).2 a hm).1;have:=zai e;omega) (nh:=fun p hp hm=>by have:=((H.ad p hp).2 _ hm).2;omega) (nha:=by have:=zai e;have:=v1.len;omega) (hw:=hw) (m7:=m7) (hk:=hk) (c8:=by omega) (hz:=hz) (vc:=vc) (nd:=nd) (hS:=v2)
theorem zop{b z:Int}(e:S.get a=some (.ins 2 []))(hf:Fr S a)(gw:S.get wl=some (.lst (ws.map D.int)))(hw:ws.length=m)(m1:1<=m)(m7:m<=7)(b0:0<=b)(b5:b<=5)(wb:∀w∈ws,-10^60<w/\w<10^60)(hk:∀l∈S.lk,l<S.len)(hcl:cs.length<=1000)
  (hcr:(cr=.non/\cs=[])\/∃cl,cr=.ref cl/\S.get cl=some (.lst (cs.map craD))) (hrd:(rd=.non/\z=b+1)\/(rd=.int z/\1<=z)) (z8:z<=8) (hz:z=(c:Nat)) (vc:∀x∈cs,VC (m:Nat) x) (nd:(cs.map (·.1)).Nodup) :
  W (appW (callF prog (n+8)) 39 [.ref a,.int (m:Nat),.int b,.ref wl,cr,rd] S) fun d U=>d=.non/\∃ps,Pl S U m z c a ws cs ps:=by
 apply zbF rfl rfl;refine zbP (W.of (d:=.int (m:Nat)) (S:=S) (W.eq (wE_W _ ?_)) ?_);left;specialize zf9 (by omega) (by omega);exact⟨rfl,rfl⟩;refine zbP (W.of (d:=.int b) (S:=S) (W.eq (wE_W _ ?_)) ?_);left;specialize zf9 b0 b5;exact⟨rfl,rfl⟩;refine zcA (W.of (S:=S) (W.eq (wT_W _ ?_)) ⟨rfl,?_⟩);left;exists gw;exact⟨by simp[hw],rfl⟩;have hwl:(ws.map D.int).length<=1000:=by rw[length_map];omega
 refine zaH (d:=.ref S.len) (S':=S.push (.lst (ws.map D.int))) (W.eq (wE_W _ ?_)) ?_;left;exists gw;apply zaw;apply W.of (zhD ws wb none);change by omega
 change show(ws.map D.int).length<=16777216 by omega
 exact⟨rfl,rfl⟩;have v1:=Mv.push [] S (.lst (ws.map D.int));have gb:=zac S (.lst (ws.map D.int));refine zaH (d:=.ref (S.push (.lst (ws.map D.int))).len) (S':=(S.push (.lst (ws.map D.int))).push (.lst (cs.map craD))) (W.eq (wE_W _ ?_)) ?_;rcases hcr with⟨rfl,rfl⟩|⟨cl,rfl,gc⟩;left;change by first|decide|omega|(simp;done)|(simp;omega)
 exact⟨rfl,rfl⟩;left;specialize zi1 (zaf gc) vc nd hcl;exact⟨rfl,rfl⟩;have v2:=v1.trans (Mv.push [] (S.push (.lst (ws.map D.int))) (.lst (cs.map craD)));refine(zre (tl:=(S.push (.lst (ws.map D.int))).len) (v2.old _ _ (by simp) e) (hf.mv v2) (zaf gb) (zac _ _) hw m1 m7 (by rw[v2.lk];exact fun l hl=>lt_of_lt_of_le (hk l hl) v2.len) hrd z8 hz vc nd).mono fun f U hU=>?_;obtain⟨⟨δ,rfl⟩,ps,P⟩:=hU;exact⟨rfl,ps,P.lk,P.frz,P.lp,P.at_,P.lr,P.p1,P.cn,P.cy,fun l o nl e0=>P.old l o nl (v2.old _ _ (by simp) e0)⟩
section
variable{S:R.St}{a hl lt n m:Nat}{r:Int}{ps:List Pt}{p:Pt}{h:Hn}{i:Nat}
theorem zeK(e:S.get a=some (plD hl lt))(gh:S.get hl=some (.lst (ps.map fun p=>.ref p.a)))(hi:ps[i]?=some p):appW (callF prog (n+4)) 41 [.ref a,.int (i:Nat)] S=.ok (.ref p.a) S:=by have il:i<ps.length:=(List.getElem?_eq_some_iff.mp hi).1;apply zbn rfl rfl;have f1:((zbh S (.ref a)).bind fun p=>p.2.lookup ("hands":PySem.Str))=some (.ref hl):=zbO e rfl;exists f1;exists f1;exists gh;specialize zlk ⟨Int.natCast_nonneg i,by rw[length_map];omega⟩;exists gh;exists zci (by rw[getElem?_map,hi];rfl);exact⟨rfl,rfl⟩
theorem zlU(e:S.get a=some (plD hl lt))(gh:S.get hl=some (.lst (ps.map fun p=>.ref p.a)))(hi:ps[i]?=some p)(x:P1 S m r i p h):appW (callF prog (n+5)) 40 [.ref a,.int (i:Nat)] S=.ok (eD h.en) S:=by apply zbn rfl rfl;exists zau e;exists rfl;change rfl;specialize zeK e gh hi;exists zau x.a;exists rfl;change rfl;specialize zoq x.a;exact⟨rfl,rfl⟩
theorem zlS(e:S.get a=some (plD hl lt))(gh:S.get hl=some (.lst (ps.map fun p=>.ref p.a)))(hi:ps[i]?=some p)(x:P1 S m r i p h):appW (callF prog (n+5)) 43 [.ref a,.int (i:Nat)] S=.ok (.ref S.len) (S.push (.lst ((zak h.K).map .int))):=by apply zbn rfl rfl;exists zau e;exists rfl;change rfl;specialize zeK e gh hi;exists zau x.a;exists rfl;change rfl;specialize zgq x.a x.w x.k;exact⟨rfl,rfl⟩
end
theorem zdb{k:Nat}:app (callF prog (n+1)) 15 [.fix (ns.map .int),.int k] S=.ok (.int (zbH ns k)) S:=by
 apply zbE rfl rfl;refine zek (fun c=>?_) (fun c=>?_);have c:k<ns.length:=by simpa using c
 exists zci (x:=D.int ns[k]) (by simp);change by decide
 change by decide
 refine zan rfl ⟨?_,rfl⟩;unfold zbH;rw[List.getElem?_eq_getElem c];rfl;have c:¬k<ns.length:=by simpa using c
 refine zan rfl ⟨?_,rfl⟩;unfold zbH;rw[List.getElem?_eq_none (by omega)]
theorem znJ(hk:0<=k):app (callF prog (n+1)) 15 [.fix (ns.map .int),.int k] S=.ok (.int (zbH ns k.toNat)) S:=by have:=zdb (n:=n) (S:=S) (ns:=ns) (k:=k.toNat);rw[show((k.toNat:Nat):Int)=k by omega]at this;exact this
abbrev Wb(i:Int):Prop:=-10^60<i/\i<10^60
noncomputable def zej(c:Int):Int:=if c%3=0 then c/3%5-2 else c/3%(2*10^60-1)-(10^60-1)
theorem zmZ(c:Int):Wb (zej c):=by unfold zej Wb;split<;>omega
theorem znH:app (callF prog (n+1)) 16 [.int c] S=.ok (.int (zej c)) S:=by
 apply zbE rfl rfl;change by first|decide|omega|(simp;done)|(simp;omega)
 refine zek (fun h=>?_) (fun h=>?_);left;change by first|decide|omega|(simp;done)|(simp;omega)
 change by first|decide|omega|(simp;done)|(simp;omega)
 refine zan rfl ⟨?_,rfl⟩;unfold zej;rw[if_pos h];left;change by first|decide|omega|(simp;done)|(simp;omega)
 change by first|decide|omega|(simp;done)|(simp;omega)
 change by simp[zlO]
 change by first|decide|omega|(simp;done)|(simp;omega)
 change by first|decide|omega|(simp;done)|(simp;omega)
 refine zan rfl ⟨?_,rfl⟩;unfold zej;rw[if_neg h];rfl
noncomputable def zb5(ns:List Int)(m:Nat):List Int:=(List.range m).map fun k=>zej (zbH ns (3+k))
theorem zdA(N:Nat)(l:List Int):R.flats N (l.map D.int)=true:=by simp
theorem zf2(o:Option D):zaI [0] (evT (callF prog (n+1)) (CE.con (D.bl true)).tst) (evE (callF prog (n+1)) (.call 16 0 #[.call 15 0 #[Y1,.bin .Add Z3 Y0]])) ((List.range m).map fun(k:Nat)=>D.int k) [o,some (.fix (ns.map .int))] S=.ok ((zb5 ns m).map D.int) S:=by have:=zba (S:=S) (c:=evT (callF prog (n+1)) (CE.con (D.bl true)).tst) (e:=evE (callF prog (n+1)) (.call 16 0 #[.call 15 0 #[Y1,.bin .Add Z3 Y0]])) (rest:=[some (.fix (ns.map .int))]) (fun x=>match x with|.int k=>.int (zej (zbH ns (3+k).toNat))|x=>x) ((List.range m).map fun(k:Nat)=>D.int k) o (fun x _=>rfl) (fun x hx=>by obtain⟨k,_,rfl⟩:=mem_map.mp hx;refine W.eq (wE_W _ ?_);specialize znJ (by omega);specialize znH;exact⟨rfl,rfl⟩);rw[this];congr 1;unfold zb5;rw[List.map_map,List.map_map];refine List.map_congr_left fun k _=>?_;show D.int (zej (zbH ns (3+(k:Int)).toNat))=D.int (zej (zbH ns (3+k)));rw[show(3+(k:Int)).toNat=3+k by omega]
theorem znG{z:Int}{ns:List Int}(m1:1<=m)(m7:m<=7)(hz:z=(m:Nat)):∃ws:List Int,ws.length=m/\(∀w∈ws,Wb w)/\app (callF prog (n+2)) 19 [.fix (ns.map .int),.int z] S=.ok (.ref S.len) (S.push (.lst (ws.map D.int))):=by
 have wl:(zb5 ns m).length=m:=by simp[zb5]
 have wl2:((zb5 ns m).map D.int).length<=1000:=by rw[length_map];omega
 have wb:∀w∈zb5 ns m,Wb w:=fun w hw=>by obtain⟨k,_,rfl⟩:=mem_map.mp hw;exact zmZ _
 have key:W (app (callF prog (n+2)) 19 [.fix (ns.map .int),.int z] S) fun d T=>d=.ref S.len/\∃ws:List Int,ws.length=m/\(∀w∈ws,Wb w)/\T=S.push (.lst (ws.map D.int)):=by
  refine zdH rfl rfl (wS_W _ ?_);change by omega
  apply zaw;rw[show z.toNat=m by omega];apply W.of (zf2 none);change by omega
  change show((zb5 ns m).map D.int).length<=16777216 by omega
  specialize zdb;change by first|decide|omega|(simp;done)|(simp;omega)
  have gl:=zac S.enter (.lst ((zb5 ns m).map D.int));refine zek (fun h=>?_) (fun h=>?_);left;exists gl;obtain⟨w,r,hc⟩:=List.exists_cons_of_length_pos (show 0<(zb5 ns m).length by omega);exists zci (by rw[hc];rfl);change show 1<=16777216 by decide
  change by omega
  exists zac _ _;left;have er:(List.replicate z.toNat [D.int w]).flatten=(List.replicate m w).map D.int:=by rw[show z.toNat=m by omega];clear wl wl2 wb m1 m7 gl hc h hz;induction m with|zero=>rfl|succ k ih=>rw[replicate_succ,flatten_cons,ih,replicate_succ];rfl
  rw[er];change by rw[length_map,length_replicate];omega
  refine zbI ?_ (zac _ _) (zdA _ _) ⟨rfl,List.replicate m w,by simp,fun x hx=>?_,rfl⟩;show S.len<=_;rw[plen,plen,R.enter_len];omega;rw[List.eq_of_mem_replicate hx];exact wb w (by rw[hc];simp);left;refine zbI ?_ gl (zdA _ _) ⟨rfl,zb5 ns m,wl,wb,rfl⟩;rw[R.enter_len];exact le_refl _
 obtain⟨d,T,e,rfl,ws,h1,h2,rfl⟩:=W.iff.mp key;exact⟨ws,h1,h2,e⟩
noncomputable def lrIn:CS:=.expr (.mt .append Y3 #[.bin .Mod Y0 Y1]) (.asg 0 (.bin .FloorDiv Y0 Y1) .nil)
noncomputable def lrT:CS:=.asg 0 (.bin .FloorDiv Y0 Z256) (.asg 3 (.lst .nil) (.forS [4] (.rng1 Y2)
 lrIn (.ret (.mkT (.val Y3)) .nil)))
noncomputable abbrev El(z m:Int)(a b c:Option D):Ev:=[some (.int z),some (.int m),a,b,c]
theorem zjA(hm:0<m)(h7:m<=7):∀(ks:List D)(rs:List Int)(z:Int)(T:R.St)(c:Option D),T.get l=some (.lst (rs.map .int))->Fr T l->(∀r∈rs,0<=r/\r<m)->rs.length+ks.length<=1000->
  W (zaB [4] (exS cf lrIn) ks (El z m a (some (.ref l)) c) T) fun f U=>∃(z:Int) (c:Option D) (rs':List Int),f=.nx (El z m a (some (.ref l)) c)/\U.get l=some (.lst (rs'.map .int))/\(∀r∈rs',0<=r/\r<m)/\rs'.length=rs.length+ks.length
 | [],rs,z,T,c,g,hf,hr,hl=>by show W (Out.ok (Fl.nx _) T) _;rw[W_ok];exact⟨z,c,rs,rfl,g,hr,rfl⟩| k::ks,rs,z,T,c,g,hf,hr,hl=>by
  simp at hl;show W (Out.bind (exS cf lrIn (El z m a (some (.ref l)) (some k)) T) _) _;rw[zaa];apply wS_W _;left;exists g;left;change hm;left;exists g;left;change by rw[length_append,length_map];simp;omega
  obtain⟨U,hU,mU,gU⟩:=zbf hf g;exists hU;change⟨hm,by omega⟩;refine(zjA hm h7 ks (rs++[z%m]) (z/m) U (some k) (by rw[map_append];exact gU) (hf.mv mU) (fun r h=>?_) (by simp;omega)).mono fun f V hV=>?_;rcases mem_append.mp h with h|h;exact hr r h;rw[mem_singleton.mp h];exact⟨emod_nonneg _ (by omega),Int.emod_lt_of_pos _ hm⟩;obtain⟨z,c,rs',h1,h2,h3,h4⟩:=hV;exact⟨z,c,rs',h1,h2,h3,by rw[h4];simp;omega⟩
theorem zot(hm:0<m)(h7:m<=7)(k0:0<=k)(k7:k<=7)(hk:T.lk=[])(hQ:∀rs:List Int,(∀r∈rs,0<=r/\r<m)->rs.length<=7->Q (pD rs) S) :
  W (exS (callF prog n) lrT (El z m (some (.int k)) b c) T) fun f U=>wFin S f U Q:=by
 apply wS_W _;change by first|decide|omega|(simp;done)|(simp;omega)
 change by decide
 change by omega
 apply zaw;refine(zjA hm h7 ((List.range k.toNat).map fun(k:Nat)=>D.int k) [] (z/256) (T.push (.lst [])) c (zac _ _) ⟨by show T.frz.length<=T.len;unfold St.len;omega,by show T.lk.contains _=false;rw[hk];rfl⟩ (by simp) (by simp;omega)).mono fun f U hU=>?_;obtain⟨z',c',rs,rfl,h1,h2,h3⟩:=hU;simp at h3;exists h1;change by rw[length_map];omega
 refine zan ?_ (hQ rs h2 (by omega));exact zdA _ _
theorem ziX(hm:0<m)(h7:m<=7):W (app (callF prog (n+1)) 17 [.int z,.int m] S) fun d T=>T=S/\∃rs:List Int,d=pD rs/\(∀r∈rs,0<=r/\r<m)/\rs.length<=7:=by
 apply zdH rfl rfl;refine zaH (d:=.int (z%4)) (S':=S.enter) (W.eq (wE_W _ ?_)) ?_;left;change by first|decide|omega|(simp;done)|(simp;omega)
 exact⟨rfl,rfl⟩;have fin:∀k:Int,0<=k->k<=7->W (exS (callF prog n) lrT (El z m (some (.int k)) none none) S.enter) fun f U=>wFin S f U fun d T=>T=S/\∃rs:List Int,d=pD rs/\(∀r∈rs,0<=r/\r<m)/\rs.length<=7:=fun k k0 k7=>zot hm h7 k0 k7 rfl fun rs h1 h2=>⟨rfl,rs,rfl,h1,h2⟩;have h4:=emod_nonneg z (show(4:Int)≠0 by decide);have h8:=emod_nonneg (z/32) (show(8:Int)≠0 by decide);rw[exS,zaa];refine W.of (d:=decide (z/4%8=3)) (S:=S.enter) (W.eq (wT_W _ ?_)) ?_;left;change by first|decide|omega|(simp;done)|(simp;omega)
 change by first|decide|omega|(simp;done)|(simp;omega)
 exact⟨rfl,rfl⟩;by_cases c:z/4%8=3;rw[decide_eq_true c,if_pos rfl];rw[zaa];refine zaH (d:=.int (z/32%8)) (S':=S.enter) (W.eq (wE_W _ ?_)) ?_;left;change by first|decide|omega|(simp;done)|(simp;omega)
 change by first|decide|omega|(simp;done)|(simp;omega)
 exact⟨rfl,rfl⟩;exact fin (z/32%8) h8 (by omega);rw[decide_eq_false c,if_neg (by simp)];exact fin (z%4) h4 (by omega)
noncomputable def lcT:CS:=.ifS (.and (.cmp .Lt (.bi .len #[Y4]) Y3) (.cmp .NotIn Y7 (.mkL (.comp 1 [] [0] (.val Y4) (.tst (.con (D.bl true))) (.ix Y0 Z0))))) (.expr (.mt .append Y4 #[.tup #[Y7,Y8,.call 17 0 #[.bin .FloorDiv Y6 Z240,Y1]]]) .nil) .nil .nil
noncomputable def lcB:CS:=.asg 6 (.bin .Mod Y5 (.bin .Pow Z10 Z64)) (.asg 7 (.bin .Mod Y6 Y1) (.asg 6 (.bin .FloorDiv Y6 Y1) (.asg 8 (.bin .Add Z1 (.bin .Mod Y6 Y2)) (.asg 6 (.bin .FloorDiv Y6 Y2) (.ifS (.cmp .Eq (.bin .Mod Y6 Z8) Z5) (.asg 8 (.bin .Add Z1 (.bin .Mod (.bin .FloorDiv Y6 Z8) Z30)) .nil) .nil
 lcT)))))
noncomputable abbrev Ek(s:Nat)(m la li:Int)(l:Nat)(a b c d:Option D):Ev:=[some (.ref s),some (.int m),some (.int la),some (.int li),some (.ref l),a,b,c,d]
structure Lc(S T:R.St)(m li:Int)(l:Nat)(acc:List Cra):Prop where
 L:Lp S T l (acc.map craD)
 vc:∀x∈acc,VC m x
 nd:(acc.map (·.1)).Nodup
 li:(acc.length:Int)<=li
@[irreducible]def Lq(S T:R.St)(s:Nat)(m la li:Int)(l:Nat)(f:Fl)(U:R.St):Prop:=∃a b c d acc,f=.nx (Ek s m la li l a b c d)/\Lc S U m li l acc/\U.lk=T.lk
theorem zoA(I:Lc S T m li l acc)(hm:0<m)(m7:m<=7)(l9:li<=900)(h0:0<=h)(h1:h<m)(t1:1<=t)(t2:t<=30) :
  W (exS (callF prog (n+1)) lcT (Ek s m la li l a (some (.int y)) (some (.int h)) (some (.int t))) T) (Lq S T s m la li l):=by
 have same:∀U,Lp S U l (acc.map craD)->U.lk=T.lk->Lq S T s m la li l (.nx (Ek s m la li l a (some (.int y)) (some (.int h)) (some (.int t)))) U:=fun U J k=>by unfold Lq;exact⟨_,_,_,_,acc,rfl,⟨J,I.vc,I.nd,I.li⟩,k⟩
 apply wS_W _;exists I.L.at_;refine zek (fun c1=>?_) (fun c1=>?_);rw[length_map]at c1;exists I.L.at_;apply zaw;apply W.of (zdw acc none);change by rw[length_map,length_map];omega
 change by rw[length_map,length_map];omega
 exists zjs (zcu T _) h;have J:Lp S (T.push (.lst ((acc.map fun x=>((x.1:Nat):Int)).map D.int))) l (acc.map craD):=⟨fun j o e=>zaf (I.L.up j o e),I.L.fz,I.L.lk,zaf I.L.at_,I.L.nw⟩;generalize hV:T.push (.lst ((acc.map fun x=>((x.1:Nat):Int)).map D.int))=V at J;have kV:V.lk=T.lk:=by rw[<-hV];rfl
 by_cases c:h∈acc.map fun x=>((x.1:Nat):Int);rw[decide_eq_true c];exact same _ J kV;rw[decide_eq_false c];exists J.at_;change by first|decide|omega|(simp;done)|(simp;omega)
 refine za4 ((ziX hm m7).mono fun d U hU=>?_);obtain⟨rfl,rs,rfl,r1,r2⟩:=hU;change show 3<=16777216 by decide
 exists J.at_;change by rw[length_append,length_map];simp;omega
 obtain⟨X,e1,e2,e3,e4,e5,e6⟩:=zc5 (.lst (acc.map craD++[craD (h.toNat,t,rs)])) J.old J.lk;have ex:D.tup [.int h,.int t,pD rs]=craD (h.toNat,t,rs):=by unfold craD;dsimp only;rw[show((h.toNat:Nat):Int)=h by omega]
 have e1:U.put l (.lst (acc.map craD++[D.tup [.int h,.int t,pD rs]]))=some X:=by rw[ex];exact e1
 exists e1;unfold Lq;refine⟨_,_,_,_,acc++[(h.toNat,t,rs)],rfl,⟨⟨fun j o ho=>?_,by rw[e2];exact J.fz,by rw[e3];exact J.lk,by rw[map_append];exact e6 (zai J.at_),J.nw⟩,fun x hx=>?_,?_,?_⟩,by rw[e3,kV]⟩;rw[e5 j (by have:=zai ho;have:=J.nw;omega)];exact J.up j o ho;rcases mem_append.mp hx with hx|hx;exact I.vc x hx;rw[mem_singleton.mp hx];exact⟨by show((h.toNat:Nat):Int)<m;omega,t1,t2,r1,r2⟩;rw[map_append,nodup_append];refine⟨I.nd,by simp,fun a ha b hb e=>c ?_⟩;have hb:b=h.toNat:=by simpa using hb
 obtain⟨x,hx,e⟩:=mem_map.mp ha;exact mem_map.mpr ⟨x,hx,by rw[e];omega⟩;rw[length_append];simp;omega;left;exact same _ I.L rfl
theorem zoz(I:Lc S T m li l acc)(hm:0<m)(m7:m<=7)(l9:li<=900)(a0:0<la)(a7:la<=30) :
  W (exS (callF prog (n+1)) lcB (Ek s m la li l (some (.int z)) b c d) T) (Lq S T s m la li l):=by
 have fin:∀y h t:Int,0<=h->h<m->1<=t->t<=30->W (exS (callF prog (n+1)) lcT (Ek s m la li l (some (.int z)) (some (.int y)) (some (.int h)) (some (.int t))) T) (Lq S T s m la li l):=fun y h t h0 h1 t1 t2=>zoA I hm m7 l9 h0 h1 t1 t2;refine zaH (d:=.int (z%10^64)) (S':=T) (W.eq (wE_W _ ?_)) ?_;left;change by first|decide|omega|(simp;done)|(simp;omega)
 change by first|decide|omega|(simp;done)|(simp;omega)
 exact⟨rfl,rfl⟩;generalize z%10^64=x;refine zaH (d:=.int (x%m)) (S':=T) (W.eq (wE_W _ ?_)) ?_;left;change hm;exact⟨rfl,rfl⟩;have h0:=emod_nonneg x (show m≠0 by omega);have h1:=Int.emod_lt_of_pos x hm;generalize x%m=h at h0 h1;refine zaH (d:=.int (x/m)) (S':=T) (W.eq (wE_W _ ?_)) ?_;left;change⟨hm,by omega⟩;exact⟨rfl,rfl⟩;generalize x/m=y;refine zaH (d:=.int (1+y%la)) (S':=T) (W.eq (wE_W _ ?_)) ?_;left;change a0;exact⟨rfl,rfl⟩;have g0:=emod_nonneg y (show la≠0 by omega);have g1:=Int.emod_lt_of_pos y a0;generalize y%la=g at g0 g1;refine zaH (d:=.int (y/la)) (S':=T) (W.eq (wE_W _ ?_)) ?_;left;change⟨a0,by omega⟩;exact⟨rfl,rfl⟩;generalize y/la=y;rw[exS,zaa];refine W.of (d:=decide (y%8=5)) (S:=T) (W.eq (wT_W _ ?_)) ?_;left;change by first|decide|omega|(simp;done)|(simp;omega)
 exact⟨rfl,rfl⟩;by_cases c:y%8=5;rw[decide_eq_true c,if_pos rfl];rw[zaa];refine zaH (d:=.int (1+y/8%30)) (S':=T) (W.eq (wE_W _ ?_)) ?_;left;change by first|decide|omega|(simp;done)|(simp;omega)
 change by first|decide|omega|(simp;done)|(simp;omega)
 exact⟨rfl,rfl⟩;exact fin y h (1+y/8%30) h0 h1 (by omega) (by omega);rw[decide_eq_false c,if_neg (by simp)];exact fin y h (1+g) h0 h1 (by omega) (by omega)
theorem zjL(hm:0<m)(m7:m<=7)(l9:li<=900)(a0:0<la)(a7:la<=30):∀(zs:List Int)(T:R.St)(a b c d:Option D)(acc:List Cra),Lc S T m li l acc->
  W (zaB [5] (exS (callF prog (n+1)) lcB) (zs.map D.int) (Ek s m la li l a b c d) T) (Lq S T s m la li l)
 | [],T,a,b,c,d,acc,I=>by show W (Out.ok (Fl.nx _) T) _;rw[W_ok];unfold Lq;exact⟨a,b,c,d,acc,rfl,I,rfl⟩| z::zs,T,a,b,c,d,acc,I=>by show W (Out.bind (exS (callF prog (n+1)) lcB (Ek s m la li l (some (.int z)) b c d) T) _) _;rw[zaa];refine(zoz I hm m7 l9 a0 a7).mono fun f U q=>?_;unfold Lq at q;obtain⟨a,b,c,d,acc',rfl,J,k⟩:=q;refine(zjL hm m7 l9 a0 a7 zs U a b c d acc' J).mono fun f V q=>?_;unfold Lq at q⊢;obtain⟨a,b,c,d,acc2,e,J2,k2⟩:=q;exact⟨a,b,c,d,acc2,e,J2,k2.trans k⟩
theorem zhQ{zs:List Int}(hg:S.get s=some (.lst (zs.map .int)))(hm:0<m)(m7:m<=7)(l0:0<=li)(l9:li<=900)(a0:0<la)(a7:la<=30) :
  ∃cs:List Cra,(∀x∈cs,VC m x)/\(cs.map (·.1)).Nodup/\(cs.length:Int)<=li/\app (callF prog (n+2)) 18 [.ref s,.int m,.int la,.int li] S=.ok (.ref S.len) (S.push (.lst (cs.map craD))):=by
 have key:W (app (callF prog (n+2)) 18 [.ref s,.int m,.int la,.int li] S) fun d T=>d=.ref S.len/\∃cs:List Cra,(∀x∈cs,VC m x)/\(cs.map (·.1)).Nodup/\(cs.length:Int)<=li/\T=S.push (.lst (cs.map craD)):=by
  apply zdH rfl rfl;apply wS_W _;change by decide
  have hs:=zai hg;have up:Up S (S.enter.push (.lst [])):=(Up.enter S).trans (.push _ _);exists up _ _ hg;apply zaw;have L0:Lc S {S.enter.push (.lst []) with lk:=[s]++(S.enter.push (.lst [])).lk} m li S.enter.len []:=by refine⟨⟨fun l o e=>up l o e,rfl,?_,zcu S.enter _,by rw[R.enter_len];exact le_refl _⟩,by simp,by simp,by simpa using l0⟩;show([s]:List Nat).contains _=false;simp;omega
  refine(zjL hm m7 l9 a0 a7 zs _ none none none none [] L0).mono fun f U q=>?_;unfold Lq at q;obtain⟨a,b,c,d,acc,rfl,J,k⟩:=q;exact zbI J.L.nw J.L.at_ (zhl fun d hd=>by obtain⟨x,_,rfl⟩:=mem_map.mp hd;exact zhm _ x) ⟨rfl,acc,J.vc,J.nd,J.li,rfl⟩
 obtain⟨d,T,e,rfl,cs,h1,h2,h3,rfl⟩:=W.iff.mp key;exact⟨cs,h1,h2,h3,e⟩
noncomputable def zaZ:List Cra->Nat->Int
 | [],_=>99|x::cs,i=>if x.1=i then x.2.1 else zaZ cs i
noncomputable def gnB:CS:=.ifS (.cmp .Eq Y2 Y1) (.ret Y3 .nil) .nil .nil
theorem zka:∀(cs:List Cra)(T:R.St)(a b c:Option D),
  W (zaB [2,3,4] (exS cf gnB) (cs.map craD) [some x,some (.int (i:Nat)),a,b,c] T) fun f U=>U=T/\((∃δ,f=.nx δ/\zaZ cs i=99)\/f=.rt (.int (zaZ cs i)))
 | [],T,a,b,c=>by show W (Out.ok (Fl.nx _) T) _;rw[W_ok];exact⟨rfl,.inl ⟨_,rfl,rfl⟩⟩| (h,t,rs)::cs,T,a,b,c=>by
  show W (Out.bind (exS cf gnB [some x,some (.int (i:Nat)),some (.int (h:Nat)),some (.int t),some (pD rs)] T) _) _;rw[zaa];rw[show gnB=.ifS (.cmp .Eq Y2 Y1) (.ret Y3 .nil) .nil .nil from rfl,exS,zaa];apply W.of rfl;by_cases e:h=i;rw[decide_eq_true (by omega),if_pos rfl];rw[show exS cf (.ret Y3 .nil) [some x,some (.int (i:Nat)),some (.int (h:Nat)),some (.int t),some (pD rs)] T=.ok (.rt (.int t)) T from rfl,zaD];dsimp only;rw[W_ok];dsimp only;rw[W_ok];refine⟨rfl,.inr ?_⟩;simp[zaZ,e];rw[decide_eq_false (by omega),if_neg (by simp)];rw[exS,zaD];dsimp only;rw[exS,W_ok];have g:zaZ ((h,t,rs)::cs) i=zaZ cs i:=by simp[zaZ,e]
  rw[g];exact zka cs T _ _ _
theorem zpZ(gc:S.get cl=some (.lst (cs.map craD))):app (callF prog (n+1)) 21 [.ref cl,.int (i:Nat)] S=.ok (.int (zaZ cs i)) S:=by
 refine W.eq (zdH rfl rfl ?_);apply wS_W _;exists by rw[zaC];exact gc
 apply zaw;refine(zka cs _ none none none).mono fun f U q=>?_;obtain⟨rfl,⟨δ,rfl,e⟩|rfl⟩:=q;left;exact zan rfl ⟨by rw[e],rfl⟩;left;exact zan rfl ⟨rfl,rfl⟩
structure Pz(U:R.St)(m:Nat)(r:Int)(c a:Nat)(ws:List Int)(cs:List Cra)(ps:List Pt):Prop where
 lp:ps.length=m
 at_:∃hl lt,U.get a=some (plD hl lt)/\U.get hl=some (.lst (ps.map fun p=>.ref p.a))/\U.get lt=some (.lst (lets m r ps 1 c (ws.map fun w=>⟨[w],[],none⟩)))
 lr:(rnds m r ps 1 c (ws.map fun w=>⟨[w],[],none⟩)).length=m
 p1:∀(i:Nat) p h,ps[i]?=some p->(rnds m r ps 1 c (ws.map fun w=>⟨[w],[],none⟩))[i]?=some h->P1 U m r i p h
 cn:∀(i:Nat) p,ps[i]?=some p->(∀x∈cs,x.1≠i)->p.cr=none
 cy:∀(i:Nat) p,ps[i]?=some p->∀x∈cs,x.1=i->∃c,p.cr=some (c,x.2.1,x.2.2)
theorem P1.up(x:P1 S m r j p h)(u:Up S T):P1 T m r j p h:=⟨u _ _ x.a,u _ _ x.w,u _ _ x.g,fun c l rs e=>u _ _ (x.c c l rs e),x.k⟩
theorem Pz.up(P:Pz U m r c a ws cs ps)(u:Up U V):Pz V m r c a ws cs ps:=⟨P.lp,let ⟨hl,lt,e1,e2,e3⟩:=P.at_;⟨hl,lt,u _ _ e1,u _ _ e2,u _ _ e3⟩,P.lr,fun i p h e1 e2=>(P.p1 i p h e1 e2).up u,P.cn,P.cy⟩
theorem zq7(h:l≠[]):hdZ (zak l)∈l:=by cases e:zak l with|nil=>have:=(zay l).length_eq;rw[e]at this;exact absurd (length_eq_zero_iff.mp this.symm) h|cons x r=>rw[<-(zay l).mem_iff,e];exact mem_cons_self
theorem zst(h:x∈l):hdZ (zak l)<=x:=by
 rw[<-(zay l).mem_iff]at h;have s:=zaN l;cases e:zak l with
 |nil=>rw[e]at h;cases h
 |cons y r=>rw[e]at h s;rcases mem_cons.mp h with rfl|h;exact Int.le_refl _;exact(pairwise_cons.mp s).1 x h
theorem zck(m:Nat)(r:Int)(ps:List Pt):∀(c t:Nat)(hs:List Hn),rnds m r ps t (c+1) hs=rnd m r ((t+c:Nat):Int) ps (rnds m r ps t c hs)
 |0,_,_=>rfl| c+1,t,hs=>by rw[rnds,zck m r ps c (t+1) (rnd m r t ps hs),show t+1+c=t+(c+1) by omega];rfl
theorem mem_oths:j∈oths m i↔j∈hnds m/\j≠i:=by unfold oths;simp
theorem zgv(i:Nat):∀cs:List Cra,((∀x∈cs,x.1≠i)/\zaZ cs i=99)\/∃x∈cs,x.1=i/\zaZ cs i=x.2.1
 | []=>.inl ⟨by simp,rfl⟩| x::cs=>by by_cases e:x.1=i;exact .inr ⟨x,by simp,e,by rw[zaZ,if_pos e]⟩;rcases zgv i cs with⟨h1,h2⟩|⟨y,hy,h1,h2⟩;refine .inl ⟨fun y hy=>?_,by rw[zaZ,if_neg e];exact h2⟩;rcases mem_cons.mp hy with rfl|hy;exact e;exact h1 y hy;exact .inr ⟨y,by simp[hy],h1,by rw[zaZ,if_neg e];exact h2⟩
structure Tc(m:Nat)(cs:List Cra)(ps:List Pt):Prop where
 lp:ps.length=m
 cn:∀(i:Nat) p,ps[i]?=some p->(∀x∈cs,x.1≠i)->p.cr=none
 cy:∀(i:Nat) p,ps[i]?=some p->∀x∈cs,x.1=i->∃c,p.cr=some (c,x.2.1,x.2.2)
section
variable{m:Nat}{cs:List Cra}{ps:List Pt}{i:Nat}{p:Pt}
theorem Tc.on(C:Tc m cs ps)(e:ps[i]?=some p)(ht:t<99):p.on t↔t<zaZ cs i:=by unfold Pt.on;rcases zgv i cs with⟨h1,h2⟩|⟨x,hx,h1,h2⟩;rw[C.cn i p e h1,h2];simp[ht];obtain⟨c,h3⟩:=C.cy i p e x hx h1;rw[h3,h2]
end
noncomputable def Gt(m:Nat)(r:Int)(ps:List Pt)(ws:List Int)(t:Nat):List Hn:=rnds m r ps 1 t (ws.map fun w=>⟨[w],[],none⟩)
section
variable{m:Nat}{r:Int}{cs:List Cra}{ps:List Pt}{ws:List Int}{t i:Nat}
theorem zmX(C:Tc m cs ps)(lw:ws.length=m):∀t,(Gt m r ps ws t).length=m
 |0=>by simp[Gt,rnds,lw]| t+1=>by unfold Gt;rw[zck];have:=zmX C lw t;unfold rnd;rw[zev];exact this;rw[C.lp];exact this.symm
theorem zkW(C:Tc m cs ps)(lw:ws.length=m)(ht:t<90)(e:(Gt m r ps ws (t+1))[i]?=some g):∃h,(Gt m r ps ws t)[i]?=some h/\(((t+1:Nat):Int)<zaZ cs i->g=zhJ m r ((t+1:Nat):Int) i h (box (ltF m ((t+1:Nat):Int) 0 ps (Gt m r ps ws t)) (i:Nat)))/\(¬((t+1:Nat):Int)<zaZ cs i->g=h):=by unfold Gt at e;rw[zck,Nat.add_comm 1 t]at e;obtain⟨p,h,e1,e2,e3⟩:=zc4 m r _ _ ps _ 0 i g e;rw[zero_add]at e3;refine⟨h,e2,fun h1=>?_,fun h1=>?_⟩;rw[e3];unfold zda;rw[if_pos ((C.on e1 (by omega)).mpr h1)];rfl;rw[e3];unfold zda;rw[if_neg (fun z=>h1 ((C.on e1 (by omega)).mp z))]
theorem zo2(C:Tc m cs ps)(lw:ws.length=m)(hi:i<m)(t:Nat):∃h,(Gt m r ps ws t)[i]?=some h:=⟨_,List.getElem?_eq_getElem (by rw[zmX C lw t];exact hi)⟩
theorem zo3(C:Tc m cs ps)(lw:ws.length=m)(m7:m<=7):∀t,t<=50->∀h∈Gt m r ps ws t,Gh ws t h
 |0,_=>fun h hh=>by obtain⟨w,hw,rfl⟩:=mem_map.mp hh;exact⟨⟨by simp,fun x hx=>by simp at hx;subst hx;exact hw⟩,by simp,by simp⟩| t+1,ht=>by unfold Gt;rw[zck];exact zkX (by omega) m7 C.lp (by omega) (zo3 C lw m7 t (by omega))
end
section
variable{S:R.St}{a hl lt n m:Nat}{r:Int}{ps:List Pt}{p:Pt}{h:Hn}{i:Nat}
theorem zoo(x:P1 S m r i p h)(hh:h.H.length<=1000):appW (callF prog (n+1)) 31 [.ref p.a] S=.ok (.ref S.len) (S.push (.lst (h.H.map pD))):=by
 apply zbn rfl rfl;exists zbc x.a;exists x.g;change by rw[length_map];omega
 exact⟨rfl,rfl⟩
theorem zlT(e:S.get a=some (plD hl lt))(gh:S.get hl=some (.lst (ps.map fun p=>.ref p.a)))(hi:ps[i]?=some p)(x:P1 S m r i p h)(hh:h.H.length<=1000):appW (callF prog (n+5)) 42 [.ref a,.int (i:Nat)] S=.ok (.ref S.len) (S.push (.lst (h.H.map pD))):=by apply zbn rfl rfl;exists zau e;exists rfl;change rfl;specialize zeK e gh hi;exists zau x.a;exists rfl;change rfl;specialize zoo x hh;exact⟨rfl,rfl⟩
theorem zjy(e:S.get a=some (plD hl lt))(gl:S.get lt=some (.lst ls))(hh:ls.length<=1000):appW (callF prog (n+1)) 44 [.ref a] S=.ok (.ref S.len) (S.push (.lst ls)):=by
 apply zbn rfl rfl;have f1:((zbh S (.ref a)).bind fun p=>p.2.lookup ("sent":PySem.Str))=some (.ref lt):=zbO e rfl;exists f1;exists gl;change show ls.length<=16777216 by omega
 exact⟨rfl,rfl⟩
end
section
variable{m:Nat}{r:Int}{cs:List Cra}{ps:List Pt}{ws:List Int}{i:Nat}
theorem zeP(C:Tc m cs ps)(m7:m<=7):∀(c t:Nat)(hs:List Hn),(lets m r ps t c hs).length<=49*c
 |0,_,_=>by simp[lets]| c+1,t,hs=>by rw[lets,length_append];have h1:=zeP C m7 c (t+1) (rnd m r t ps hs);have h2:=zcJ m (t:Int) ps hs 0;have h3:m*ps.length<=7*7:=Nat.mul_le_mul m7 (by rw[C.lp];exact m7);rw[zbj,length_map];omega
end
theorem zgM(hf:R.flat S.len (.tup ds)=false)(q:Q (.tup ds) ⟨S.frz,S.new++T.new,S.lk⟩):wFin S (.rt (.tup ds)) T Q:=by unfold wFin;rw[zhn];unfold zcy;simp[hf];exact q
structure Fo(T:R.St)(d:D)(m:Nat)(b z:Int)(c wl cl:Nat)(rd:D)(ws:List Int)(cs:List Cra):Prop where
 d:d=.tup [.int (m:Nat),.int b,.ref wl,.ref cl,rd,.int z]
 lk:T.lk=[]
 frz:T.frz=[]
 gw:T.get wl=some (.lst (ws.map D.int))
 gc:T.get cl=some (.lst (cs.map craD))
 lw:ws.length=m
 m1:1<=m
 m7:m<=7
 b0:0<=b
 b5:b<=5
 wb:∀w∈ws,Wb w
 cl:cs.length<=7
 z1:1<=z
 z8:z<=8
 hz:z=(c:Nat)
 vc:∀x∈cs,VC (m:Nat) x
 nd:(cs.map (·.1)).Nodup
 rd:(rd=.non/\z=b+1)\/(rd=.int z/\1<=z)
@[irreducible]noncomputable def FoE(d:D)(T:R.St):Prop:=∃m b z c wl cl rd ws cs,Fo T d m b z c wl cl rd ws cs
noncomputable def foT:CS:=.asg 5 (.call 19 0 #[Y0,Y1]) (.asg 6 (.call 18 0 #[.sl Y0 true true Z10 Z62,Y1,Y4,Y1]) (.ret (.tup #[Y1,Y2,Y5,Y6,Y3,Y4]) .nil))
theorem zaY{δ δ':Ev}(h:evE cf e δ S=.ok d S')(hs:δ.set i (some d)=δ')(w:W (exS cf r δ' S') Q):W (exS cf (.asg i e r) δ S) Q:=by subst hs;exact zaH h w
noncomputable abbrev EF(ns:List Int)(m:Nat)(x y u v w:Option D):Ev:=[some (.fix (ns.map .int)),some (.int (m:Nat)),x,y,u,v,w]
noncomputable abbrev S0:R.St:=⟨[],[],[]⟩
theorem zkd(h:ns.length<=63){b z:Int}(m1:1<=m)(m7:m<=7)(b0:0<=b)(b5:b<=5)(z1:1<=z)(z8:z<=8)(hz:z=(c:Nat))(hr:(rd=.non/\z=b+1)\/(rd=.int z/\1<=z))(hε:EF ns m (some (.int b)) (some rd) (some (.int z)) none none=ε) :
  W (exS (callF prog (n+2)) foT ε S0) fun f T=>wFin S0 f T FoE:=by
 obtain⟨ws,lw,wb,ew⟩:=znG m1 m7 rfl;obtain⟨δ1,h1⟩:∃δ,EF ns m (some (.int b)) (some rd) (some (.int z)) (some (.ref 0)) none=δ:=⟨_,rfl⟩;have e3:evE (callF prog (n+2)) (.call 19 0 #[Y0,Y1]) ε S0=.ok (.ref 0) (S0.push (.lst (ws.map D.int))):=by refine W.eq (wE_W _ ?_);subst hε;specialize ew;exact⟨rfl,rfl⟩
 apply zaY (δ':=δ1) e3 (by subst hε h1;rfl);have gw:(S0.push (.lst (ws.map D.int))).get 0=some (.lst (ws.map D.int)):=zac S0 _;have kS:(S0.push (.lst (ws.map D.int))).lk=[]:=rfl;have fS:(S0.push (.lst (ws.map D.int))).frz=[]:=rfl;generalize S0.push (.lst (ws.map D.int))=S at gw kS fS;obtain⟨zs,hzs⟩:∃zs,cut ns (some 10) (some 62)=zs:=⟨_,rfl⟩;have zl:zs.length<=63:=by rw[<-hzs];exact le_trans (zrm _ _ _) h
 have gz:=zac S (.lst (zs.map D.int));obtain⟨cs,vc,nd,cl,ec⟩:=zhQ (m:=(m:Nat)) (la:=z) (li:=(m:Nat)) gz (by omega) (by omega) (by omega) (by omega) (by omega) (by omega);obtain⟨k,hk⟩:∃k,(S.push (.lst (zs.map D.int))).len=k:=⟨_,rfl⟩;rw[hk]at ec;obtain⟨δ2,h2⟩:∃δ,EF ns m (some (.int b)) (some rd) (some (.int z)) (some (.ref 0)) (some (.ref k))=δ:=⟨_,rfl⟩;have e4:evE (callF prog (n+2)) (.call 18 0 #[.sl Y0 true true Z10 Z62,Y1,Y4,Y1]) δ1 S=.ok (.ref k) ((S.push (.lst (zs.map D.int))).push (.lst (cs.map craD))):=by
  refine W.eq (wE_W _ ?_);subst h1;left;rw[zoQ,hzs];change by rw[length_map];omega
  specialize ec;exact⟨rfl,rfl⟩
 apply zaY (δ':=δ2) e4 (by subst h1 h2;rfl);have gw1:((S.push (.lst (zs.map D.int))).push (.lst (cs.map craD))).get 0=some (.lst (ws.map D.int)):=zaf (zaf gw);have gc1:=zac (S.push (.lst (zs.map D.int))) (.lst (cs.map craD));rw[hk]at gc1;have kS1:((S.push (.lst (zs.map D.int))).push (.lst (cs.map craD))).lk=[]:=kS;have fS1:((S.push (.lst (zs.map D.int))).push (.lst (cs.map craD))).frz=[]:=fS;generalize(S.push (.lst (zs.map D.int))).push (.lst (cs.map craD))=S1 at gw1 gc1 kS1 fS1;have er:evE (callF prog (n+2)) (.tup #[Y1,Y2,Y5,Y6,Y3,Y4]) δ2 S1=.ok (.tup [.int (m:Nat),.int b,.ref 0,.ref k,rd,.int z]) S1:=by
  refine W.eq (wE_W _ ?_);subst h2;change show 6<=16777216 by decide
  exact⟨rfl,rfl⟩
 rw[exS,er,zaD,W_ok];have kg:=fun l=>zcz (S:=S0) (l:=l) fS1;refine zgM ?_ ?_;have n0:R.flat S0.len (.ref 0)=false:=by simp[R.flat,St.len]
 rw[Bool.eq_false_iff];intro q;simp only[R.flat,zaV]at q;have:=q (.ref 0) (by simp);rw[n0]at this;cases this;unfold FoE;refine⟨m,b,z,c,0,k,rd,ws,cs,rfl,rfl,rfl,?_,?_,lw,m1,m7,b0,b5,wb,by omega,z1,z8,hz,vc,nd,hr⟩;rw[kg];exact gw1;rw[kg];exact gc1
theorem ziZ(ns:List Int)(h:ns.length<=63):W (app (callF prog (n+3)) 20 [.fix (ns.map .int)] S0) FoE:=by
 apply zdH rfl rfl;obtain⟨m,hm⟩:∃m:Nat,1+zbH ns 0%7=m:=⟨(1+zbH ns 0%7).toNat,by omega⟩;have b0:=emod_nonneg (zbH ns 0/7) (by decide:(6:Int)≠0);have b6:=Int.emod_lt_of_pos (zbH ns 0/7) (by decide:(0:Int)<6);generalize hb:zbH ns 0/7%6=b at b0 b6;obtain⟨δ1,h1⟩:∃δ,EF ns m none none none none none=δ:=⟨_,rfl⟩;obtain⟨δ2,h2⟩:∃δ,EF ns m (some (.int b)) none none none none=δ:=⟨_,rfl⟩;obtain⟨δ3,h3⟩:∃δ,EF ns m (some (.int b)) (some .non) none none none=δ:=⟨_,rfl⟩;obtain⟨δ4,h4⟩:∃δ,EF ns m (some (.int b)) (some .non) (some (.int (b+1))) none none=δ:=⟨_,rfl⟩;have e1:evE (callF prog (n+2)) (.bin .Add Z1 (.bin .Mod (.call 15 0 #[Y0,Z0]) Z7)) (zaE zbw [.fix (ns.map .int)]) S0=.ok (.int (m:Nat)) S0:=by
  refine W.eq (wE_W _ ?_);specialize zdb;change by first|decide|omega|(simp;done)|(simp;omega)
  left;rw[hm];exact⟨rfl,rfl⟩
 generalize hδ:zaE zbw [.fix (ns.map .int)]=δ at e1⊢;generalize hd1:D.int (m:Nat)=d1 at e1;apply zaY (δ':=δ1) e1 (by subst hδ hd1 h1;rfl);have e2:evE (callF prog (n+2)) (.bin .Mod (.bin .FloorDiv (.call 15 0 #[Y0,Z0]) Z7) Z6) δ1 S0=.ok (.int b) S0:=by
  refine W.eq (wE_W _ ?_);subst h1;specialize zdb;change by first|decide|omega|(simp;done)|(simp;omega)
  change by first|decide|omega|(simp;done)|(simp;omega)
  rw[hb];exact⟨rfl,rfl⟩
 apply zaY (δ':=δ2) e2 (by subst h1 h2;rfl);apply zaY (δ':=δ3) (S':=S0) rfl (by subst h2 h3;rfl);apply zaY (δ':=δ4) (S':=S0) (by subst h3;rfl) (by subst h3 h4;rfl);rw[exS,zaa];have et:evT (callF prog (n+2)) (.cmp .Eq (.bin .Mod (.call 15 0 #[Y0,Z2]) Z2) Z1) δ4 S0=.ok (decide (zbH ns 2%2=1)) S0:=by
  refine W.eq (wT_W _ ?_);subst h4;specialize zdb;change by first|decide|omega|(simp;done)|(simp;omega)
  exact⟨rfl,rfl⟩
 rw[et,W_ok];by_cases c1:zbH ns 2%2=1;rw[decide_eq_true c1,if_pos rfl,zaa];obtain⟨z,hz⟩:∃z,1+zbH ns 2/2%8=z:=⟨_,rfl⟩;obtain⟨δ5,h5⟩:∃δ,EF ns m (some (.int b)) (some (.int z)) (some (.int (b+1))) none none=δ:=⟨_,rfl⟩;obtain⟨δ6,h6⟩:∃δ,EF ns m (some (.int b)) (some (.int z)) (some (.int z)) none none=δ:=⟨_,rfl⟩;have e5:evE (callF prog (n+2)) (.bin .Add Z1 (.bin .Mod (.bin .FloorDiv (.call 15 0 #[Y0,Z2]) Z2) Z8)) δ4 S0=.ok (.int z) S0:=by
  refine W.eq (wE_W _ ?_);subst h4;specialize zdb;change by first|decide|omega|(simp;done)|(simp;omega)
  change by first|decide|omega|(simp;done)|(simp;omega)
  left;rw[hz];exact⟨rfl,rfl⟩
 apply zaY (δ':=δ5) e5 (by subst h4 h5;rfl);apply zaY (δ':=δ6) (S':=S0) (by subst h5;rfl) (by subst h5 h6;rfl);exact zkd (c:=z.toNat) h (by omega) (by omega) b0 (by omega) (by omega) (by omega) (by omega) (.inr ⟨rfl,by omega⟩) h6;rw[decide_eq_false c1,if_neg (by simp),exS,zaD];exact zkd (c:=(b+1).toNat) h (by omega) (by omega) b0 (by omega) (by omega) (by omega) (by omega) (.inl ⟨rfl,rfl⟩) h4
section
variable{m:Nat}{r:Int}{ps:List Pt}{i:Nat}
noncomputable def letP(m:Nat)(r:Int)(ps:List Pt):Nat->Nat->List Hn->List (Int×Lt)
 |_,0,_=>[]|t,c+1,hs=>(ltF m t 0 ps hs).map (fun y=>((t:Int),y))++letP m r ps (t+1) c (rnd m r t ps hs)
noncomputable def ltP(p:Int×Lt):D:=ltM p.1 p.2
theorem zjF:∀(c t:Nat)(hs:List Hn),lets m r ps t c hs=(letP m r ps t c hs).map ltP
 |0,_,_=>rfl| c+1,t,hs=>by rw[lets,letP,map_append,zjF c (t+1),zbj,List.map_map];rfl
theorem zjH:∀(c t:Nat)(hs:List Hn),∀p∈letP m r ps t c hs,(t:Int)<=p.1
 |0,_,_,p,hp=>by simp[letP]at hp| c+1,t,hs,p,hp=>by rw[letP]at hp;rcases mem_append.mp hp with h|h;obtain⟨y,_,rfl⟩:=mem_map.mp h;exact Int.le_refl _;have:=zjH c (t+1) _ p h;omega
theorem zjI:∀(c t:Nat)(hs:List Hn)(d:Nat),d<c->(letP m r ps t c hs).filter (fun p=>decide (p.1=((t+d:Nat):Int)))=(ltF m ((t+d:Nat):Int) 0 ps (rnds m r ps t d hs)).map (fun y=>(((t+d:Nat):Int),y))
 |0,_,_,_,h=>absurd h (by omega)| c+1,t,hs,0,h=>by rw[letP,List.filter_append,List.filter_eq_self.mpr,List.filter_eq_nil_iff.mpr,append_nil];rfl;intro p hp;have:=zjH c (t+1) _ p hp;simp;omega;intro p hp;obtain⟨y,_,rfl⟩:=mem_map.mp hp;simp| c+1,t,hs,d+1,h=>by have ih:=zjI c (t+1) (rnd m r t ps hs) d (by omega);rw[show t+1+d=t+(d+1) by omega]at ih;rw[letP,List.filter_append,ih,List.filter_eq_nil_iff.mpr,List.nil_append];rfl;intro p hp;obtain⟨y,_,rfl⟩:=mem_map.mp hp;simp;omega
noncomputable def toI(i:Nat)(p:Int×Lt):Bool:=decide (p.2.2.1=(i:Int))&&p.2.2.2.isSome
noncomputable def bxT(i:Nat)(L:List (Int×Lt))(T:Int):List Ltr:=box ((L.filter fun p=>decide (p.1=T)).map (·.2)) (i:Nat)
theorem zhy:∀L:List (Int×Lt),box ((L.filter (toI i)).map (·.2)) (i:Nat)=(box (L.map (·.2)) (i:Nat)).filter fun x=>x.2.isSome
 | []=>rfl| p::L=>by
  have ih:=zhy L;unfold box at ih⊢;unfold toI at ih⊢;by_cases c:p.2.2.1=(i:Int);cases e:p.2.2.2 with|none=>simpa[c,e]using ih|some q=>simpa[c,e]using ih
  simpa[c]using ih
theorem zgJ:∀Bs:List Ltr,wrs (Bs.filter fun x=>x.2.isSome)=wrs Bs
 | []=>rfl| x::Bs=>by have ih:=zgJ Bs;unfold wrs at ih⊢;cases e:x.2 with|none=>simpa[e]using ih|some q=>simpa[e]using ih
theorem zhd:∀(Bs:List Ltr)(K:List Int),lrn K (Bs.filter fun x=>x.2.isSome)=lrn K Bs
 | [],_=>rfl| x::Bs,K=>by have ih:=zhd Bs;unfold lrn at ih⊢;cases e:x.2 with|none=>simp[e,ih,lrn1]|some q=>simp[e,ih]
theorem zrq(h:d<c):bxT i ((letP m r ps t c hs).filter (toI i)) ((t+d:Nat):Int)=(box (ltF m ((t+d:Nat):Int) 0 ps (rnds m r ps t d hs)) (i:Nat)).filter fun x=>x.2.isSome:=by
 unfold bxT;have:((letP m r ps t c hs).filter (toI i)).filter (fun p=>decide (p.1=((t+d:Nat):Int)))=((letP m r ps t c hs).filter (fun p=>decide (p.1=((t+d:Nat):Int)))).filter (toI i):=by rw[List.filter_filter,List.filter_filter];exact List.filter_congr fun p _=>Bool.and_comm _ _
 rw[this,zhy,zjI c t hs d h,List.map_map];congr 2;exact List.map_id' _
theorem zho:∀{l:List Int}(_:l.Nodup)(j:Int),l.filter (fun o=>decide (o=j))=if j∈l then [j] else []
 | [],_,_=>rfl| x::l,h,j=>by have h':=nodup_cons.mp h;rw[List.filter_cons,zho h'.2 j];by_cases e:x=j;subst e;simp[h'.1];simp[e,Ne.symm e]
theorem zkP:∀(ps:List Pt)(hs:List Hn)(k:Nat),((box (ltF m t k ps hs) (i:Nat)).map (·.1)).Pairwise (· < ·)/\∀x∈(box (ltF m t k ps hs) (i:Nat)).map (·.1),(k:Int)<=x/\x≠(i:Int)
 | [],_,_=>by simp[ltF,box]|_::_,[],_=>by simp[ltF,box]| p::ps,h::hs,k=>by
  obtain⟨h1,h2⟩:=zkP ps hs (k+1);have e:(box (ltF m t k (p::ps) (h::hs)) (i:Nat)).map (·.1)=((oths m k).filter fun o=>decide (o=(i:Int))).map (fun _=>(k:Int))++(box (ltF m t (k+1) ps hs) (i:Nat)).map (·.1):=by rw[ltF];unfold box ltJ;rw[List.filter_append,map_append,map_append,List.filter_map,List.map_map,List.map_map];rfl
  have nd:(oths m k).Nodup:=Pairwise.filter _ (zic m);rw[e,zho nd];by_cases c:(i:Int)∈oths m k;have ne:(i:Int)≠(k:Int):=(mem_oths.mp c).2;rw[if_pos c];refine⟨pairwise_cons.mpr ⟨fun x hx=>?_,h1⟩,fun x hx=>?_⟩;show(k:Int)<x;have:=(h2 x hx).1;omega;rcases mem_cons.mp hx with rfl|hx;exact⟨Int.le_refl _,Ne.symm ne⟩;have:=h2 x hx;exact⟨by omega,this.2⟩;rw[if_neg c];exact⟨h1,fun x hx=>by have:=h2 x hx;exact⟨by omega,this.2⟩⟩
theorem ziw:∀Bs:List Ltr,(wrs Bs).Sublist (Bs.map (·.1))
 | []=>.slnil| x::Bs=>by have ih:=ziw Bs;unfold wrs at ih⊢;cases e:x.2 with|none=>simpa[e]using ih.cons x.1|some q=>simpa[e]using ih.cons_cons x.1
theorem zoh:nowZ (i:Nat) (box (ltF m t 0 ps hs) (i:Nat))=zak ((i:Int)::wrs (box (ltF m t 0 ps hs) (i:Nat))):=by obtain⟨h1,h2⟩:=zkP ps hs 0;have s:=ziw (box (ltF m t 0 ps hs) (i:Nat));unfold nowZ;rw[zmf];refine nodup_cons.mpr ⟨fun h=>(h2 _ (s.subset h)).2 rfl,List.Nodup.sublist s ?_⟩;exact h1.imp fun h=>Int.ne_of_lt h
end
theorem zsm(h:K≠[]):minZ K=some (hdZ (zak K)):=by
 have key:∀l:List Int,l≠[]->∃v,minZ l=some v/\v∈l/\∀x∈l,v<=x:=by intro l;induction l with|nil=>exact fun h=>absurd rfl h| cons x l ih=>intro _;by_cases e:l=[];subst e;exact⟨x,rfl,by simp,by simp⟩;obtain⟨v,e1,e2,e3⟩:=ih e;unfold minZ;rw[e1];by_cases c:x<=v;refine⟨x,by simp[c],by simp,fun y hy=>?_⟩;rcases mem_cons.mp hy with rfl|hy;exact Int.le_refl _;exact Int.le_trans c (e3 y hy);refine⟨v,by simp[c],by simp[e2],fun y hy=>?_⟩;rcases mem_cons.mp hy with rfl|hy;omega;exact e3 y hy
 obtain⟨v,e1,e2,e3⟩:=key K h;have:=zst e2;have:=e3 _ (zq7 h);rw[e1];congr 1;omega
noncomputable def endZ(r:Int):List Int->Nat->List (List Int×Int)->Option (Int×Int)
 |_,_,[]=>none|bf,k,x::l=>if x.1=bf\/(k:Int)+1=r then some ((k:Int)+1,x.2) else endZ r x.1 (k+1) l
theorem zfM:∀(l:List (List Int×Int))(bf:List Int)(k:Nat),endZ r bf k (l++[x])=match endZ r bf k l with
  |some e=>some e|none=>if x.1=(l.map (·.1)).getLast?.getD bf\/((k+l.length:Nat):Int)+1=r then some (((k+l.length:Nat):Int)+1,x.2) else none
 | [],bf,k=>by simp[endZ]| y::l,bf,k=>by rw[List.cons_append,endZ,endZ];by_cases c:y.1=bf\/(k:Int)+1=r;rw[if_pos c,if_pos c];rw[if_neg c,if_neg c,zfM l y.1 (k+1)];rw[show k+1+l.length=k+(y::l).length by simp;omega,map_cons,List.getLast?_cons];simp
noncomputable abbrev EK(lt i:Nat)(q2 q3 q4:D)(d hr ls so:Nat)(a b c e f g h:Option D):Ev:=[some (.ref lt),some (.int (i:Nat)),some q2,some q3,some q4,some (.ref d),some (.ref hr),some (.ref ls),some (.ref so),a,b,c,e,f,g,h]
noncomputable def wkW:CS:=.setIx Y5 Y15 (.con (D.bl true)) .nil
noncomputable def wkI:CS:=.ifS (.cmp .Eq Y11 Y9) (.expr (.mt .append Y10 #[.ix Y12 Z0]) (.forS [15] (.val Y14) wkW .nil)) .nil .nil
noncomputable def wkB:CS:=.asg 10 (.lst #[Y1]) (.forS [11,12,13,14] (.val Y8) wkI (.expr (.mt .append Y6 #[.mkT (.val (.srt Y10))]) (.expr (.mt .append Y7 #[.min1 (.dlst Y5)]) .nil)))
section
variable{cf:CF}{lt i d hr ls so nl:Nat}{q2 q3 q4:D}{ws:List Int}
theorem ziv(hw:ws.length<=1000):∀(p K:List Int)(T:R.St)(x:Option D),T.get d=some (.dic (kvD K))->Fr T d->Sb ws K->(∀w∈p,w∈ws)->
  W (zaB [15] (exS cf wkW) (p.map D.int) (EK lt i q2 q3 q4 d hr ls so a b c e f g x) T) fun r U=>(∃x,r=.nx (EK lt i q2 q3 q4 d hr ls so a b c e f g x))/\Mv [d] T U/\U.get d=some (.dic (kvD (ads K p)))/\Sb ws (ads K p)
 | [],K,T,x,gd,hf,hs,hp=>by show W (Out.ok (Fl.nx _) T) _;rw[W_ok];exact⟨⟨x,rfl⟩,Mv.refl _ _,gd,hs⟩| w::p,K,T,x,gd,hf,hs,hp=>by show W (Out.bind (exS cf wkW (EK lt i q2 q3 q4 d hr ls so a b c e f g (some (.int w))) T) _) _;rw[zaa];obtain⟨U,hU,mU,gU⟩:=zkn gd hf (by have:=hs.len;omega);apply wS_W _;exists hU;refine(ziv hw p (ad K w) U _ gU (hf.mv mU) (hs.ad (hp w (by simp))) fun y hy=>hp y (by simp[hy])).mono fun r V h=>?_;obtain⟨h1,h2,h3,h4⟩:=h;exact⟨h1,mU.trans h2,h3,h4⟩
theorem zmj(h:toI i p=true):bxT i (L++[p]) T=if p.1=T then bxT i L T++[(p.2.1,p.2.2.2)] else bxT i L T:=by
 unfold toI at h;rw[and_eq_true,decide_eq_true_eq]at h;unfold bxT;rw[List.filter_append];by_cases c:p.1=T;rw[if_pos c];have:[p].filter (fun p=>decide (p.1=T))=[p]:=by simp[c]
 rw[this,map_append,map_cons,map_nil,zbx,if_pos h.1];rw[if_neg c];have:[p].filter (fun p=>decide (p.1=T))=[]:=by simp[c]
 rw[this,append_nil]
structure Wi(ws:List Int)(T:R.St)(i d nl:Nat)(K0:List Int)(t:Int)(L:List (Int×Lt)):Prop where
 gn:T.get nl=some (.lst (((i:Int)::wrs (bxT i L t)).map D.int))
 fn:Fr T nl
 gd:T.get d=some (.dic (kvD (lrn K0 (bxT i L t))))
 fd:Fr T d
 s:Sb ws (lrn K0 (bxT i L t))
theorem ziy(hw:ws.length<=1000)(nd:nl≠d):∀(rs L:List (Int×Lt))(T:R.St)(c e f g h:Option D),Wi ws T i d nl K0 t L->(∀p∈rs,toI i p=true/\∀q,p.2.2.2=some q->∀w∈q,w∈ws)->L.length+rs.length<=900->
  W (zaB [11,12,13,14] (exS cf wkI) (rs.map ltP) (EK lt i q2 q3 q4 d hr ls so (some (.int t)) (some (.ref nl)) c e f g h) T) fun r U=>(∃c e f g h,r=.nx (EK lt i q2 q3 q4 d hr ls so (some (.int t)) (some (.ref nl)) c e f g h))/\Mv [nl,d] T U/\Wi ws U i d nl K0 t (L++rs)
 | [],L,T,c,e,f,g,h,X,ok,hl=>by show W (Out.ok (Fl.nx _) T) _;rw[W_ok];exact⟨⟨c,e,f,g,h,rfl⟩,Mv.refl _ _,by rw[append_nil];exact X⟩| p::rs,L,T,c,e,f,g,h,X,ok,hl=>by
  obtain⟨hp,hq⟩:=ok p (by simp);obtain⟨s,j,o,v⟩:=p;have sn:=fun T'=>zmj (L:=L) (T:=T') hp;have hv:v.isSome=true:=by unfold toI at hp;exact(Bool.and_eq_true_iff.mp hp).2
  obtain⟨q,rfl⟩:=Option.isSome_iff_exists.mp hv;simp at hl;show W (Out.bind (exS cf wkI (EK lt i q2 q3 q4 d hr ls so (some (.int t)) (some (.ref nl)) (some (.int s)) (some (.tup [.int j])) (some (.int o)) (some (pD q)) h) T) _) _;rw[zaa];have go:∀(x:Option D)(U:R.St),Mv [nl,d] T U->Wi ws U i d nl K0 t (L++[(s,j,o,some q)])->W (zaB [11,12,13,14] (exS cf wkI) (rs.map ltP) (EK lt i q2 q3 q4 d hr ls so (some (.int t)) (some (.ref nl)) (some (.int s)) (some (.tup [.int j])) (some (.int o)) (some (pD q)) x) U) fun r U=>(∃c e f g h,r=.nx (EK lt i q2 q3 q4 d hr ls so (some (.int t)) (some (.ref nl)) c e f g h))/\Mv [nl,d] T U/\Wi ws U i d nl K0 t (L++(s,j,o,some q)::rs):=fun x U v Y=>by refine(ziy hw nd rs (L++[(s,j,o,some q)]) U _ _ _ _ x Y (fun p hp=>ok p (by simp[hp])) (by simp;omega)).mono fun r V z=>?_;obtain⟨z1,z2,z3⟩:=z;rw[append_assoc]at z3;exact⟨z1,v.trans z2,z3⟩
  apply wS_W _;left;by_cases k:s=t;rw[decide_eq_true k];exists X.gn;exists rfl;exists X.gn;have bl:(wrs (bxT i L t)).length<=L.length:=by apply le_trans (zei _);unfold bxT box;rw[length_map];apply le_trans (length_filter_le _ _);rw[length_map];exact length_filter_le _ _
  change by simp;omega
  obtain⟨U,hU,mU,gU⟩:=zbf (u:=.lst (((i:Int)::wrs (bxT i L t)).map D.int++[.int j])) X.fn X.gn;exists hU;apply zaw;refine(ziv hw q _ U _ (mU.old _ _ (by simpa using Ne.symm nd) X.gd) (X.fd.mv mU) X.s (hq q rfl)).mono fun r V z=>?_;obtain⟨⟨x,rfl⟩,z2,z3,z4⟩:=z;rw[zeN z2.lk];have sn:=sn t;rw[if_pos k]at sn;refine go x V ((mU.up (by simp)).trans (z2.up (by simp))) ⟨?_,(X.fn.mv mU).mv z2,?_,(X.fd.mv mU).mv z2,?_⟩;rw[sn,zgK];apply z2.old _ _ (by simpa using nd);rw[gU];simp[wr1];rw[sn,zeM];exact z3;rw[sn,zeM];exact z4;rw[decide_eq_false k];have sn:=sn t;rw[if_neg k]at sn;exact go h T (Mv.refl _ _) ⟨by rw[sn];exact X.gn,X.fn,by rw[sn];exact X.gd,X.fd,by rw[sn];exact X.s⟩
end
noncomputable def lea(kA:Nat->List Int)(t:Nat):List Int:=(List.range t).map fun s=>hdZ (zak (kA (s+1)))
theorem zhg(kA:Nat->List Int)(t:Nat):lea kA (t+1)=lea kA t++[hdZ (zak (kA (t+1)))]:=by unfold lea;rw[List.range_succ,map_append];rfl
structure Wa(ws:List Int)(i:Nat)(L:List (Int×Lt))(kA:Nat->List Int)(HA:Nat->List (List Int))(u:Nat):Prop where
 k:∀t,t<u->kA (t+1)=lrn (kA t) (bxT i L ((t+1:Nat):Int))
 h:∀t,t<u->HA (t+1)=HA t++[zak ((i:Int)::wrs (bxT i L ((t+1:Nat):Int)))]
 n:∀t,t<=u->kA t≠[]
 s:∀t,t<=u->Sb ws (kA t)
 b:∀t,t<u->(bxT i L ((t+1:Nat):Int)).length<=50
 ok:∀p∈L,toI i p=true/\∀q,p.2.2.2=some q->∀w∈q,w∈ws
 l:L.length<=900
structure Wo(T:R.St)(L:List (Int×Lt))(kA:Nat->List Int)(HA:Nat->List (List Int))(N t:Nat):Prop where
 gd:T.get N=some (.dic (kvD (kA t)))
 gh:T.get (N+1)=some (.lst ((HA t).map pD))
 gl:T.get (N+2)=some (.lst ((lea kA t).map D.int))
 gs:T.get (N+3)=some (.lst (L.map ltP))
 f:T.frz.length<=N
 k:T.lk=[]
 n:N+3<T.len
section
variable{cf:CF}{lt i N u:Nat}{q2 q3 q4:D}{ws:List Int}{L:List (Int×Lt)}{kA:Nat->List Int}{HA:Nat->List (List Int)}
theorem Wo.fr(X:Wo T L kA HA N t)(v:Mv A T U)(j:Nat):Fr U (N+j):=⟨by rw[v.frz];have:=X.f;omega,by rw[v.lk,X.k];rfl⟩
theorem zm0(A:Wa ws i L kA HA u)(hw:ws.length<=40)(ht:t<u)(hH:(HA t).length<=500)(u9:u<=99)(X:Wo T L kA HA N t) :
  W (exS cf wkB (EK lt i q2 q3 q4 N (N+1) (N+2) (N+3) (some (.int ((t+1:Nat):Int))) b c e f g h) T) fun r U=>(∃b c e f g h,r=.nx (EK lt i q2 q3 q4 N (N+1) (N+2) (N+3) (some (.int ((t+1:Nat):Int))) b c e f g h))/\Wo U L kA HA N (t+1)/\(∀l o,l<N->T.get l=some o->U.get l=some o)/\U.frz=T.frz:=by
 have xn:=X.n;have v1:Mv [] T (T.push (.lst [.int (i:Nat)])):=Mv.push [] _ _;have g1:=zac T (.lst [.int (i:Nat)]);have lk1:(T.push (.lst [.int (i:Nat)])).lk=[]:=X.k;have W0:Wi ws {T.push (.lst [.int (i:Nat)]) with lk:=[N+3]++(T.push (.lst [.int (i:Nat)])).lk} i N T.len (kA t) ((t+1:Nat):Int) []:=by refine⟨g1,⟨?_,?_⟩,v1.old _ _ (by simp) X.gd,⟨?_,?_⟩,A.s t (by omega)⟩;show T.frz.length<=T.len;unfold St.len;omega;show([N+3]++(T.push (.lst [.int (i:Nat)])).lk).contains T.len=false;rw[lk1];simp;omega;exact X.f;show([N+3]++(T.push (.lst [.int (i:Nat)])).lk).contains N=false;rw[lk1];simp
 apply wS_W _;change show 1<=16777216 by decide
 exists v1.old _ _ (by simp) X.gs;apply zaw;refine(ziy (by omega) (by omega) L [] _ c e f g h W0 A.ok (by have:=A.l;simp;omega)).mono fun r U z=>?_;obtain⟨⟨c,e,f,g,h,rfl⟩,v2,W1⟩:=z;have kk:=A.k t ht;have hh:=A.h t ht;have v2:=v2.lock;have v12:Mv [T.len,N] T {U with lk:=(T.push (.lst [.int (i:Nat)])).lk}:=(v1.up (by simp)).trans v2;have gd:({U with lk:=(T.push (.lst [.int (i:Nat)])).lk}:R.St).get N=some (.dic (kvD (kA (t+1)))):=by rw[kk];exact W1.gd
 have gn:({U with lk:=(T.push (.lst [.int (i:Nat)])).lk}:R.St).get T.len=some (.lst (((i:Int)::wrs (bxT i L ((t+1:Nat):Int))).map D.int)):=W1.gn;generalize({U with lk:=(T.push (.lst [.int (i:Nat)])).lk}:R.St)=U1 at v2 v12 gd gn⊢;have bl:=A.b t ht;have wl:=zei (bxT i L ((t+1:Nat):Int));generalize hP:zak ((i:Int)::wrs (bxT i L ((t+1:Nat):Int)))=P at hh;have pl:P.length<=60:=by rw[<-hP,za5,length_cons];omega
 have v3:Mv [] U1 (U1.push (.lst (P.map D.int))):=Mv.push [] _ _;have gp:=zac U1 (.lst (P.map D.int));have v13:Mv [T.len,N] T (U1.push (.lst (P.map D.int))):=v12.trans (v3.up (by simp));have gh3:=v13.old _ _ (by simp;omega) X.gh;obtain⟨U3,h3,m3,g3⟩:=zbf (u:=.lst ((HA (t+1)).map pD)) (X.fr v13 1) gh3;exists v12.old _ _ (by simp;omega) X.gh;exists zdn gn;change by rw[length_cons];omega
 rw[hP];change by rw[length_map];omega
 exists gp;change by rw[length_map];omega
 exists gh3;change by simp;omega
 rw[show(HA t).map pD++[D.tup (P.map D.int)]=(HA (t+1)).map pD by rw[hh,map_append];rfl];exists h3;have v14:Mv [T.len,N,N+1] T U3:=(v13.up (by simp)).trans (m3.up (by simp));have gd3:=m3.old _ _ (by simp) (v3.old _ _ (by simp) gd);have kl:=(A.s (t+1) (by omega)).len;have v4:Mv [] U3 (U3.push (.lst ((kA (t+1)).map D.int))):=Mv.push [] _ _;have v15:Mv [T.len,N,N+1] T (U3.push (.lst ((kA (t+1)).map D.int))):=v14.trans (v4.up (by simp));have gl4:=v15.old _ _ (by simp;omega) X.gl;obtain⟨U4,h4,m4,g4⟩:=zbf (u:=.lst ((lea kA (t+1)).map D.int)) (X.fr v15 2) gl4;have ll:(lea kA t).length=t:=by simp[lea]
 exists v14.old _ _ (by simp;omega) X.gl;exists zgz gd3;change by rw[length_map];omega
 exists zdn (zac _ _);exists zsm (A.n (t+1) (by omega));exists gl4;change by rw[length_append,length_map,ll];simp;omega
 rw[show(lea kA t).map D.int++[D.int (hdZ (zak (kA (t+1))))]=(lea kA (t+1)).map D.int by rw[zhg,map_append];rfl];exists h4;have v16:Mv [T.len,N,N+1,N+2] T U4:=(v15.up (by simp)).trans (m4.up (by simp));exact⟨⟨_,c,e,f,g,h,rfl⟩,⟨m4.old _ _ (by simp) (v4.old _ _ (by simp) gd3),m4.old _ _ (by simp) (v4.old _ _ (by simp) g3),g4,v16.old _ _ (by simp;omega) X.gs,by rw[v16.frz];exact X.f,by rw[v16.lk];exact X.k,by have:=v16.len;omega⟩,fun l o hl e=>v16.old _ _ (by simp;omega) e,v16.frz⟩
theorem zix(A:Wa ws i L kA HA u)(hw:ws.length<=40)(hH:∀t,t<=u->(HA t).length<=500)(u9:u<=99):∀(c t:Nat)(T:R.St)(x b y e f g h:Option D),t+c=u->Wo T L kA HA N t->
  W (zaB [9] (exS cf wkB) (zf6 (t+1) c) (EK lt i q2 q3 q4 N (N+1) (N+2) (N+3) x b y e f g h) T) fun r U=>(∃x b y e f g h,r=.nx (EK lt i q2 q3 q4 N (N+1) (N+2) (N+3) x b y e f g h))/\Wo U L kA HA N u/\(∀l o,l<N->T.get l=some o->U.get l=some o)/\U.frz=T.frz
 |0,t,T,x,b,y,e,f,g,h,hc,X=>by
  show W (Out.ok (Fl.nx _) T) _;rw[W_ok];have:t=u:=by omega
  subst this;exact⟨⟨x,b,y,e,f,g,h,rfl⟩,X,fun l o _ e=>e,rfl⟩
 |c+1,t,T,x,b,y,e,f,g,h,hc,X=>by show W (Out.bind (exS cf wkB (EK lt i q2 q3 q4 N (N+1) (N+2) (N+3) (some (.int ((t+1:Nat):Int))) b y e f g h) T) _) _;rw[zaa];refine(zm0 A hw (by omega) (hH t (by omega)) u9 X).mono fun r U z=>?_;obtain⟨⟨b,y,e,f,g,h,rfl⟩,Y,o1,f1⟩:=z;refine(zix A hw hH u9 c (t+1) U _ b y e f g h (by omega) Y).mono fun r V z=>?_;obtain⟨z1,z2,o2,f2⟩:=z;exact⟨z1,z2,fun l o hl e=>o2 l o hl (o1 l o hl e),f2.trans f1⟩
end
noncomputable def toP(i:Nat):D->Bool
 |.tup [_,_,.int o,v]=>decide (o=(i:Int))&&!zl6 v|_=>false
theorem zpl(i:Nat)(x:Int×Lt):toP i (ltP x)=toI i x:=by obtain⟨s,j,o,v⟩:=x;cases v<;>rfl
noncomputable def soC:CE:=.and (.cmp .Eq (.ix Y0 Z2) Y1) (.cmp .IsNot (.ix Y0 Z3) (.con D.non))
theorem zk2(LP:List (Int×Lt))(o:Option D):zaI [0] (evT cf soC) (evE cf Y0) (LP.map ltP) [o,some (.int (i:Nat))] V=.ok ((LP.filter (toI i)).map ltP) V:=by
 have:=zbp (c:=evT cf soC) (e:=evE cf Y0) (S:=V) (rest:=[some (.int (i:Nat))]) (toP i) (fun d=>d) (LP.map ltP) o (fun x hx=>?_) (fun x _ _=>rfl);rw[this,List.filter_map,List.map_map];congr 1;congr 1;exact List.filter_congr fun x _=>zpl i x;obtain⟨y,_,rfl⟩:=mem_map.mp hx;obtain⟨s,j,k,v⟩:=y;refine W.eq (wT_W _ ?_);exists rfl;left;by_cases c:k=(i:Int);rw[decide_eq_true c];exists rfl;cases v with|none=>exact⟨by simp[toP,ltP,ltM,c],rfl⟩|some q=>exact⟨by simp[toP,ltP,ltM,c],rfl⟩
 rw[decide_eq_false c];exact⟨by simp[toP,ltP,ltM,c],rfl⟩
structure Wd(S T:R.St)(a1 a2 a3:Nat)(kA:Nat->List Int)(HA:Nat->List (List Int))(u:Nat):Prop where
 g1:T.get a1=some (.lst ((zak (kA u)).map D.int))
 g2:T.get a2=some (.lst ((HA u).map pD))
 g3:T.get a3=some (.lst ((lea kA u).map D.int))
 up:Up S T
 lk:T.lk=S.lk
 frz:T.frz=S.frz
theorem zli{w z:Int}{LP:List (Int×Lt)}(gl:S.get lt=some (.lst (LP.map ltP)))(A:Wa ws i (LP.filter (toI i)) kA HA u)(hw:ws.length<=40)(hH:∀t,t<=u->(HA t).length<=500)(u9:u<=99)(hz:z=(u:Nat))(k0:kA 0=[w])(h0:HA 0=[]) :
  W (app (callF prog (n+1)) 22 [.ref lt,.int (i:Nat),q2,.int w,.int z] S) fun d T=>∃a1 a2 a3,d=.tup [.ref a1,.ref a2,.ref a3]/\Wd S T a1 a2 a3 kA HA u:=by
 apply zdH rfl rfl;generalize hN:S.enter.len=N;have hN':S.len=N:=by rw[<-hN,R.enter_len]
 obtain⟨T1,hT1⟩:∃T,S.enter.push (.dic (kvD [w]))=T:=⟨_,rfl⟩;obtain⟨T2,hT2⟩:∃T,T1.push (.lst [])=T:=⟨_,rfl⟩;obtain⟨T3,hT3⟩:∃T,T2.push (.lst [])=T:=⟨_,rfl⟩;obtain⟨T4,hT4⟩:∃T,T3.push (.lst ((LP.filter (toI i)).map ltP))=T:=⟨_,rfl⟩;have l1:T1.len=N+1:=by rw[<-hT1,plen,hN]
 have l2:T2.len=N+2:=by rw[<-hT2,plen,l1]
 have l3:T3.len=N+3:=by rw[<-hT3,plen,l2]
 have l4:T4.len=N+4:=by rw[<-hT4,plen,l3]
 have v1:Mv [] S.enter T1:=by rw[<-hT1];exact Mv.push [] _ _
 have v2:Mv [] T1 T2:=by rw[<-hT2];exact Mv.push [] _ _
 have v3:Mv [] T2 T3:=by rw[<-hT3];exact Mv.push [] _ _
 have v4:Mv [] T3 T4:=by rw[<-hT4];exact Mv.push [] _ _
 have p1:T1.get N=some (.dic (kvD (kA 0))):=by rw[<-hT1,<-hN,k0];exact zac _ _
 have p2:T2.get (N+1)=some (.lst []):=by rw[<-hT2,<-l1];exact zac _ _
 have p3:T3.get (N+2)=some (.lst []):=by rw[<-hT3,<-l2];exact zac _ _
 have p4:T4.get (N+3)=some (.lst ((LP.filter (toI i)).map ltP)):=by rw[<-hT4,<-l3];exact zac _ _
 have v13:Mv [] S.enter T3:=(v1.trans v2).trans v3;have v14:Mv [] S.enter T4:=v13.trans v4;have up:∀l o,S.get l=some o->T3.get l=some o:=fun l o e=>v13.old _ _ (by simp) (by rw[zaC];exact e);have X:Wo T4 (LP.filter (toI i)) kA HA N 0:=⟨v4.old _ _ (by simp) (v3.old _ _ (by simp) (v2.old _ _ (by simp) p1)),by rw[h0];exact v4.old _ _ (by simp) (v3.old _ _ (by simp) p2),v4.old _ _ (by simp) p3,p4,by rw[v14.frz,<-hN'];show(S.frz++S.new).length<=_;rw[zce];exact le_refl _,v14.lk,by omega⟩;have al:=A.l;apply zaY (δ':=[some (.ref lt),some (.int (i:Nat)),some q2,some (.int w),some (.int z),some (.ref N),none,none,none,none,none,none,none,none,none,none]) (S':=T1) (by rw[<-hT1,<-hN];rfl) rfl;apply zaY (δ':=[some (.ref lt),some (.int (i:Nat)),some q2,some (.int w),some (.int z),some (.ref N),some (.ref (N+1)),none,none,none,none,none,none,none,none,none]) (S':=T2) (by rw[<-hT2,<-l1];rfl) rfl;apply zaY (δ':=[some (.ref lt),some (.int (i:Nat)),some q2,some (.int w),some (.int z),some (.ref N),some (.ref (N+1)),some (.ref (N+2)),none,none,none,none,none,none,none,none]) (S':=T3) (by rw[<-hT3,<-l2];rfl) rfl;refine zaY (δ':=EK lt i q2 (.int w) (.int z) N (N+1) (N+2) (N+3) none none none none none none none) (S':=T4) (W.eq (wE_W _ ?_)) rfl ?_;left;exists up _ _ gl;apply zaw;apply W.of (zk2 LP none);change by rw[length_map];omega
 change by rw[length_map];omega
 exact⟨by rw[<-l3],hT4⟩;have el:evL (callF prog n) (.rng2 Z1 (.bin .Add Y4 Z1)) (EK lt i q2 (.int w) (.int z) N (N+1) (N+2) (N+3) none none none none none none none) T4=.ok (zf6 1 u,[]) T4:=by refine W.eq (wL_W _ ?_);change⟨by decide,by decide,Int.le_trans (by decide) (show(0:Int)<=z+1 by omega),Int.lt_of_le_of_lt (show z+1<=100 by omega) (by decide)⟩;refine⟨?_,rfl⟩;rw[<-zc8 u 1,show(z+1-1).toNat=u by omega];rfl
 apply zbu el;refine(zix A hw hH u9 u 0 T4 none none none none none none none (by omega) X).mono fun r U q=>?_;obtain⟨⟨x,b,y,e,f,g,h,rfl⟩,Y,old,fz⟩:=q;have kU:U.lk=T4.lk:=Y.k.trans X.k.symm;rw[zeN kU];have kl:=(A.s u (le_refl _)).len;have v5:Mv [] U (U.push (.lst ((kA u).map D.int))):=Mv.push [] _ _;have v6:Mv [] U ((U.push (.lst ((kA u).map D.int))).push (.lst ((zak (kA u)).map D.int))):=v5.trans (Mv.push [] _ _);have g6:=zac (U.push (.lst ((kA u).map D.int))) (.lst ((zak (kA u)).map D.int));have l6:U.len<(U.push (.lst ((kA u).map D.int))).len:=by rw[plen];omega
 apply wS_W _;exists zgz Y.gd;change by rw[length_map];omega
 exists zdn (zac _ _);change by omega
 change by rw[length_map,za5];omega
 change show 3<=16777216 by decide
 generalize hl6:(U.push (.lst ((kA u).map D.int))).len=a1 at g6 l6⊢;generalize(U.push (.lst ((kA u).map D.int))).push (.lst ((zak (kA u)).map D.int))=U6 at v6 g6⊢;have fU:U6.frz=S.frz++S.new:=by rw[v6.frz,fz,v14.frz];rfl
 have kg:=fun l=>zcz (l:=l) fU;refine zgM ?_ ⟨a1,N+1,N+2,rfl,?_,?_,?_,fun l o e=>?_,rfl,rfl⟩;have n0:R.flat S.len (.ref (N+1))=false:=by simp[R.flat];omega
 rw[Bool.eq_false_iff];intro q;simp only[R.flat,zaV]at q;have:=q (.ref (N+1)) (by simp);rw[n0]at this;cases this;rw[kg];exact g6;rw[kg];exact v6.old _ _ (by simp) Y.gh;rw[kg];exact v6.old _ _ (by simp) Y.gl;rw[kg];exact v6.old _ _ (by simp) (old l o (by have:=zai e;omega) (v4.old _ _ (by simp) (up l o e)))
noncomputable def hT(m:Nat)(r:Int)(ps:List Pt)(ws:List Int)(i t:Nat):Hn:=((Gt m r ps ws t)[i]?).getD ⟨[],[],none⟩
theorem zfw(hw:ws.length<=7)(m7:m<=7)(lp:ps.length=m):∀(c t:Nat)(hs:List Hn)(d:Nat),(∀h∈hs,Gh ws d h)->d+c<=50->∀p∈letP m r ps t c hs,∀q,p.2.2.2=some q->∀w∈q,w∈ws
 |0,t,hs,d,_,_,p,hp=>by simp[letP]at hp| c+1,t,hs,d,hh,hd,p,hp=>by rw[letP]at hp;rcases mem_append.mp hp with h|h;obtain⟨y,hy,rfl⟩:=mem_map.mp h;exact fun q hq=>(zeL ps hs 0 hh y hy q hq).2;exact zfw hw m7 lp c (t+1) _ (d+1) (zkX hw m7 lp (by omega) hh) (by omega) p h
section
variable{m c i u:Nat}{z:Int}{cs:List Cra}{ps:List Pt}{ws:List Int}
theorem zfI(C:Tc m cs ps)(lw:ws.length=m)(hi:i<m)(t:Nat):(Gt m z ps ws t)[i]?=some (hT m z ps ws i t):=by obtain⟨h,e⟩:=zo2 C lw hi t;unfold hT;rw[e];rfl
theorem zoF(C:Tc m cs ps)(lw:ws.length=m)(hi:i<m)(ht:t<90)(h:((t+1:Nat):Int)<zaZ cs i):hT m z ps ws i (t+1)=zhJ m z ((t+1:Nat):Int) i (hT m z ps ws i t) (box (ltF m ((t+1:Nat):Int) 0 ps (Gt m z ps ws t)) (i:Nat)):=by obtain⟨g,e1,e2,_⟩:=zkW C lw ht (zfI C lw hi (t+1));rw[zfI C lw hi t]at e1;cases e1;exact e2 h
theorem zra(C:Tc m cs ps)(lw:ws.length=m)(hi:i<m)(ht:t<90)(h:¬((t+1:Nat):Int)<zaZ cs i):hT m z ps ws i (t+1)=hT m z ps ws i t:=by obtain⟨g,e1,_,e3⟩:=zkW C lw ht (zfI C lw hi (t+1));rw[zfI C lw hi t]at e1;cases e1;exact e3 h
theorem zj9(C:Tc m cs ps)(lw:ws.length=m)(hi:i<m)(h:¬((u+1:Nat):Int)<zaZ cs i):∀d,u+d<90->hT m z ps ws i (u+d)=hT m z ps ws i u
 |0,_=>rfl| d+1,hd=>by rw[<-zj9 C lw hi h d (by omega)];exact zra (t:=u+d) C lw hi (by omega) (by omega)
theorem zsE(C:Tc m cs ps)(lw:ws.length=m)(m7:m<=7)(hi:i<m)(hc:c<=8)(hu:u<=c)(hg:(u:Int)<zaZ cs i) :
  Wa ws i ((letP m z ps 1 c (ws.map fun w=>⟨[w],[],none⟩)).filter (toI i)) (fun t=>(hT m z ps ws i t).K) (fun t=>(hT m z ps ws i t).H) u:=by
 have bx:∀t,t<u->bxT i ((letP m z ps 1 c (ws.map fun w=>⟨[w],[],none⟩)).filter (toI i)) ((t+1:Nat):Int)=(box (ltF m ((t+1:Nat):Int) 0 ps (Gt m z ps ws t)) (i:Nat)).filter fun x=>x.2.isSome:=fun t ht=>by have:=zrq (m:=m) (r:=z) (ps:=ps) (i:=i) (t:=1) (hs:=ws.map fun w=>⟨[w],[],none⟩) (show t<c by omega);rw[Nat.add_comm 1 t]at this;exact this
 have gh:∀t,t<=u->Gh ws t (hT m z ps ws i t):=fun t ht=>zo3 C lw m7 t (by omega) _ (mem_of_getElem? (zfI C lw hi t));refine⟨fun t ht=>?_,fun t ht=>?_,fun t ht=>(gh t ht).k,fun t ht=>(gh t ht).sb,fun t ht=>?_,fun p hp=>?_,?_⟩;rw[zoF C lw hi (by omega) (by omega),bx t ht,zhd];rfl;rw[zoF C lw hi (by omega) (by omega),bx t ht,zgJ,<-zoh];rfl;rw[bx t ht];apply le_trans (length_filter_le _ _);have h1:=zkO (ltF m ((t+1:Nat):Int) 0 ps (Gt m z ps ws t)) (i:Nat);have h2:=zcJ m ((t+1:Nat):Int) ps (Gt m z ps ws t) 0;have h3:m*ps.length<=7*7:=Nat.mul_le_mul m7 (by rw[C.lp];exact m7);omega;have h:=mem_filter.mp hp;exact⟨h.2,zfw (by omega) m7 C.lp c 1 _ 0 (zo3 (r:=z) C lw m7 0 (by omega)) (by omega) p h.1⟩;apply le_trans (length_filter_le _ _);have h1:=zeP (r:=z) C m7 c 1 (ws.map fun w=>⟨[w],[],none⟩);rw[zjF,length_map]at h1;omega
theorem zmP(C:Tc m cs ps)(lw:ws.length=m)(hi:i<m)(hc:c<=8)(hz:z=(c:Nat))(hu:u<=c)(hg:(u:Int)<zaZ cs i):∀t,t<=u->(hT m z ps ws i t).H.length=t/\(hT m z ps ws i t).en=endZ z (hnds m) 0 ((hT m z ps ws i t).H.zip (lea (fun t=>(hT m z ps ws i t).K) t))
 |0,_=>by
  have e:=zfI (z:=z) C lw hi 0;have:(Gt m z ps ws 0)[i]?=some ⟨[ws[i]'(by omega)],[],none⟩:=by unfold Gt rnds;rw[getElem?_map,List.getElem?_eq_getElem (by omega)];rfl
  have e:=Option.some.inj (e.symm.trans this);rw[e];exact⟨rfl,rfl⟩
 |t+1,ht=>by
  obtain⟨h1,h2⟩:=zmP C lw hi hc hz hu hg t (by omega);have e:=zoF (z:=z) C lw hi (t:=t) (by omega) (by omega);have ll:(lea (fun t=>(hT m z ps ws i t).K) t).length=t:=by simp[lea]
  rw[zhg];rw[e];generalize hT m z ps ws i t=h at h1 h2;unfold zhJ;refine⟨by simp[h1],?_⟩;rw[List.zip_append (by rw[h1,ll]),List.zip_cons_cons,List.zip_nil_right,zfM,<-h2,List.map_fst_zip (by omega),List.length_zip,h1,ll];unfold enZ bfZ;cases h.en with
  |some e=>rfl| none=>
   rw[Nat.min_self,zero_add];have:(z<=((t+1:Nat):Int))↔((t:Int)+1=z):=by omega
   simp only[this];rfl
end
noncomputable def enB:CS:=.ifS (.or (.cmp .Eq (.ix Y0 Y5) Y4) (.cmp .Eq (.bin .Add Y5 Z1) Y3)) (.ret (.tup #[.bin .Add Y5 Z1,.ix Y1 Y5]) .nil) .nil (.asg 4 (.ix Y0 Y5) .nil)
noncomputable abbrev EE(hr ls:Nat)(m r:Int)(b k:Option D):Ev:=[some (.ref hr),some (.ref ls),some (.int m),some (.int r),b,k]
section
variable{hr ls:Nat}{m r:Int}{Hs:List (List Int)}{Ls:List Int}
theorem zkm:∀(l:List (List Int×Int))(k:Nat)(bf:List Int)(T:R.St)(x:Option D),T.get hr=some (.lst (Hs.map pD))->T.get ls=some (.lst (Ls.map D.int))->k+l.length<=900->(∀(j:Nat) x,l[j]?=some x->Hs[k+j]?=some x.1/\Ls[k+j]?=some x.2)->
  W (zaB [5] (exS cf enB) ((List.range' k l.length).map fun(i:Nat)=>.int (i:Nat)) (EE hr ls m r (some (pD bf)) x) T) fun f U=>U=T/\((∃δ,f=.nx δ/\endZ r bf k l=none)\/∃e,f=.rt (eD (some e))/\endZ r bf k l=some e)
 | [],k,bf,T,x,gh,gl,hk,ha=>by show W (Out.ok (Fl.nx _) T) _;rw[W_ok];exact⟨rfl,.inl ⟨_,rfl,rfl⟩⟩| y::l,k,bf,T,x,gh,gl,hk,ha=>by
  obtain⟨a1,a2⟩:=ha 0 y rfl;simp at hk;show W (Out.bind (exS cf enB (EE hr ls m r (some (pD bf)) (some (.int (k:Nat)))) T) _) _;rw[zaa];have at1:atI (Hs.map pD) ((k:Nat):Int)=some (pD y.1):=zci (by rw[getElem?_map];have a1:Hs[k]?=some y.1:=a1;rw[a1];rfl);have at2:atI (Ls.map D.int) ((k:Nat):Int)=some (.int y.2):=zci (by rw[getElem?_map];have a2:Ls[k]?=some y.2:=a2;rw[a2];rfl);have yes:(y.1=bf\/(k:Int)+1=r)->W (exS cf (.ret (.tup #[.bin .Add Y5 Z1,.ix Y1 Y5]) .nil) (EE hr ls m r (some (pD bf)) (some (.int (k:Nat)))) T) fun f U=>f=.rt (eD (some ((k:Int)+1,y.2)))/\U=T:=fun _=>by
   apply wS_W _;exists gl;exists at2;change show 2<=16777216 by decide
   exact⟨rfl,rfl⟩
  have et:evT cf (.or (.cmp .Eq (.ix Y0 Y5) Y4) (.cmp .Eq (.bin .Add Y5 Z1) Y3)) (EE hr ls m r (some (pD bf)) (some (.int (k:Nat)))) T=.ok (decide (y.1=bf\/(k:Int)+1=r)) T:=by refine W.eq (wT_W _ ?_);exists gh;exists at1;exists zoK _ _ _;by_cases c:y.1=bf;rw[decide_eq_true c];exact⟨by simp[c],rfl⟩;rw[decide_eq_false c];exact⟨by simp[c],rfl⟩
  unfold enB;rw[exS,et,zaD,zaa];by_cases c:y.1=bf\/(k:Int)+1=r;rw[decide_eq_true c,if_pos rfl];refine(yes c).mono fun f U q=>?_;obtain⟨rfl,rfl⟩:=q;exact⟨rfl,.inr ⟨_,rfl,by rw[endZ,if_pos c]⟩⟩;rw[decide_eq_false c,if_neg (by simp),exS,W_ok];have ea:evE cf (.ix Y0 Y5) (EE hr ls m r (some (pD bf)) (some (.int (k:Nat)))) T=.ok (pD y.1) T:=by refine W.eq (wE_W _ ?_);exists gh;exists at1;exact⟨rfl,rfl⟩
  apply zaY (δ':=EE hr ls m r (some (pD y.1)) (some (.int (k:Nat)))) ea rfl;have e:endZ r bf k (y::l)=endZ r y.1 (k+1) l:=by rw[endZ,if_neg c]
  rw[e];exact zkm l (k+1) y.1 T _ gh gl (by omega) fun j x hx=>by have:=ha (j+1) x (by simpa using hx);rwa [show k+(j+1)=k+1+j by omega]at this
theorem zr3(gh:S.get hr=some (.lst (Hs.map pD)))(gl:S.get ls=some (.lst (Ls.map D.int)))(hl:Hs.length=Ls.length)(h9:Hs.length<=900)(hm:m=(M:Nat))(m7:M<=7):app (callF prog (n+1)) 23 [.ref hr,.ref ls,.int m,.int r] S=.ok (eD (endZ r (hnds M) 0 (Hs.zip Ls))) S:=by
 refine W.eq (zdH rfl rfl ?_);refine zaY (δ':=EE hr ls m r (some (pD (hnds M))) none) (S':=S.enter) (W.eq (wE_W _ ?_)) rfl ?_;left;change by omega
 change by simp;omega
 refine⟨?_,rfl⟩;rw[hm];exact congrArg D.tup (zeu M);have el:evL (callF prog n) (.rng1 (.bi .len #[Y0])) (EE hr ls m r (some (pD (hnds M))) none) S.enter=.ok ((List.range' 0 (Hs.zip Ls).length).map fun(i:Nat)=>.int (i:Nat),[]) S.enter:=by
  refine W.eq (wL_W _ ?_);exists by rw[zaC];exact gh
  change by rw[length_map];omega
  refine⟨?_,rfl⟩;rw[List.length_zip,<-hl,Nat.min_self,<-List.range_eq_range',length_map];rfl
 apply zbu el;refine(zkm (Hs.zip Ls) 0 (hnds M) S.enter none (by rw[zaC];exact gh) (by rw[zaC];exact gl) (by rw[List.length_zip];omega) fun j x hx=>?_).mono fun f U q=>?_;rw[zero_add];have:=List.getElem?_zip_eq_some.mp hx;exact⟨this.1,this.2⟩;obtain⟨rfl,⟨δ,rfl,e⟩|⟨e,rfl,h⟩⟩:=q;dsimp only;rw[e];exact zan rfl ⟨rfl,rfl⟩;dsimp only;rw[h];exact zan rfl ⟨rfl,rfl⟩
end
theorem zlj:app (callF prog (n+1)) 24 [.int v] S=.ok (.bl true) S:=by
 refine W.eq (zdH rfl rfl (wS_W _ ?_))
 repeat (refine wOpt_of rfl ?_;conv=>whnf)
 exact zan rfl ⟨rfl,rfl⟩
theorem zfa(xs:List Int)(o:Option D):zaI [0] (evT (callF prog (n+1)) (CE.con (D.bl true)).tst) (evE (callF prog (n+1)) (.call 24 0 #[Y0])) (xs.map D.int) [o] V=.ok ((xs.map D.int).map fun _=>D.bl true) V:=by refine zba (fun _=>D.bl true) (xs.map D.int) o (fun x _=>rfl) fun x hx=>?_;obtain⟨v,_,rfl⟩:=mem_map.mp hx;refine W.eq (wE_W _ ?_);specialize zlj;exact⟨rfl,rfl⟩
theorem zkU{α:Type}(xs:List α):allD (xs.map fun _=>D.bl true)=some true:=by have:=zkT (List.replicate xs.length 0);rw[List.map_const',length_replicate]at this;rw[List.map_const'];exact this
theorem znK(e:Option (Int×Int)):app (callF prog (n+2)) 25 [eD e,eD e] S=.ok (.bl true) S:=by
 refine W.eq (zdH rfl rfl (wS_W _ ?_));cases e with
 |none=>exact zan rfl ⟨rfl,rfl⟩| some e=>
  exists rfl;exists zoK S.enter [e.1,e.2] [e.1,e.2];rw[decide_eq_true rfl];apply zaw;apply W.of (zfa [e.1,e.2] none);change show 2<=16777216 by decide
  exists zkU _;exact zan rfl ⟨rfl,rfl⟩
theorem zmE:∀{ds:List D},(∀d∈ds,∃a,pd S n d=some a)->∃as,ds.mapM (pd S n)=some as
 | [],_=>⟨[],rfl⟩| d::ds,h=>by obtain⟨a,e⟩:=h d (by simp);obtain⟨as,f⟩:=zmE (ds:=ds) fun x hx=>h x (by simp[hx]);exact⟨a::as,by rw[mapM_cons,e,f];rfl⟩
theorem zmD(gh:S.get h=some (.lst [.ref w,.ref c]))(gw:S.get w=some (.lst ds))(gc:S.get c=some (.lst es))(e1:ds.mapM (pd S 58)=some as)(e2:es.mapM (pd S 58)=some bs):pd S 60 (.ref h)=some (.list [.list as,.list bs]):=by apply zgm gh;rw[mapM_cons,mapM_cons,List.mapM_nil,zgm gw e1,zgm gc e2];rfl
theorem two_same{K:List Int}{H:List (List Int)}(gh:S.get h=some (.lst [.ref w,.ref c]))(gw:S.get w=some (.lst (K.map D.int)))(gc:S.get c=some (.lst (H.map pD)))(gh':S.get h'=some (.lst [.ref w',.ref c']))(gw':S.get w'=some (.lst (K.map D.int)))(gc':S.get c'=some (.lst (H.map pD))):eqD S (.ref h) (.ref h')=some true:=by
 obtain⟨bs,e⟩:=zmE fun d hd=>by obtain⟨x,_,rfl⟩:=mem_map.mp hd;exact⟨_,zoc S 57 x⟩
 exact zrh (zmD gh gw gc (zeC S 58 K) e) (zmD gh' gw' gc' (zeC S 58 K) e)
noncomputable def tkE:CE:=.lst #[.meth "known" [(0,32),(2,43)] Y0 #[Y1],.meth "heard_by" [(0,31),(2,42)] Y0 #[Y1]]
structure Pa(S:R.St)(m:Nat)(r:Int)(ps:List Pt)(a hl lt i:Nat)(p:Pt)(h:Hn):Prop where
 ga:S.get a=some (plD hl lt)
 gh:S.get hl=some (.lst (ps.map fun p=>.ref p.a))
 ep:ps[i]?=some p
 P:P1 S m r i p h
 hh:h.H.length<=500
section
variable{S:R.St}{n m a hl lt i:Nat}{r:Int}{ps:List Pt}{p:Pt}{h:Hn}
theorem Pa.up(X:Pa S m r ps a hl lt i p h)(u:Up S T):Pa T m r ps a hl lt i p h:=⟨u _ _ X.ga,u _ _ X.gh,X.ep,X.P.up u,X.hh⟩
noncomputable def tkS(S:R.St)(h:Hn):R.St:=((S.push (.lst ((zak h.K).map D.int))).push (.lst (h.H.map pD))).push (.lst [.ref S.len,.ref (S.len+1)])
theorem zpm(X:Pa S m r ps a hl lt i p h):evE (callF prog (n+5)) tkE [some (.ref a),some (.int (i:Nat)),x,y,z] S=.ok (.ref (S.len+2)) (tkS S h):=by
 have X1:=X.up (Up.push S (.lst ((zak h.K).map D.int)));refine W.eq (wE_W _ ?_);exists zau X.ga;exists rfl;change rfl;specialize zlS X.ga X.gh X.ep X.P;exists zau X1.ga;exists rfl;change rfl;specialize zlT X1.ga X1.gh X1.ep X1.P (by have:=X.hh;omega);change show 2<=16777216 by decide
 refine⟨?_,?_⟩;rw[plen,plen];unfold tkS;rw[plen]
theorem zmo(S:R.St)(h:Hn):(tkS S h).get (S.len+2)=some (.lst [.ref S.len,.ref (S.len+1)])/\(tkS S h).get S.len=some (.lst ((zak h.K).map D.int))/\(tkS S h).get (S.len+1)=some (.lst (h.H.map pD))/\Mv [] S (tkS S h)/\(tkS S h).len=S.len+3:=by unfold tkS;have l1:=plen S (.lst ((zak h.K).map D.int));have l2:=plen (S.push (.lst ((zak h.K).map D.int))) (.lst (h.H.map pD));have g1:=zac S (.lst ((zak h.K).map D.int));have g2:=zac (S.push (.lst ((zak h.K).map D.int))) (.lst (h.H.map pD));have g3:=zac ((S.push (.lst ((zak h.K).map D.int))).push (.lst (h.H.map pD))) (.lst [.ref S.len,.ref (S.len+1)]);rw[l2,l1]at g3;rw[l1]at g2;exact⟨g3,zaf (zaf g1),zaf g2,((Mv.push [] _ _).trans (Mv.push [] _ _)).trans (Mv.push [] _ _),by rw[plen,l2,l1]⟩
end
theorem zm6(H:List (List Int))(o:Option D):zaI [0] (evT cf (CE.con (D.bl true)).tst) (evE cf (.bi (.isin "tuple") #[Y0])) (H.map pD) [o] V=.ok ((H.map pD).map fun _=>D.bl true) V:=by refine zba (fun _=>D.bl true) (H.map pD) o (fun x _=>rfl) fun x hx=>?_;obtain⟨v,_,rfl⟩:=mem_map.mp hx;rfl
theorem zpX(X:Pa S m r ps a hl lt i p h)(gk:S.get kn=some (.lst ((zak h.K).map D.int)))(gr:S.get hr=some (.lst (h.H.map pD))):app (callF prog (n+6)) 26 [.ref a,.int (i:Nat),.ref kn,.ref hr] S=.ok (.bl true) S:=by
 refine W.eq (zdH rfl rfl ?_);have XE:=X.up (Up.enter S);have gkE:S.enter.get kn=some (.lst ((zak h.K).map D.int)):=by rw[zaC];exact gk
 have grE:S.enter.get hr=some (.lst (h.H.map pD)):=by rw[zaC];exact gr
 have fz:S.enter.frz.length<=S.enter.len:=by unfold St.len;omega
 have lkE:S.enter.lk=[]:=rfl;have hK:=X.P.k;have hH:=X.hh;refine W.mono (Q:=fun f U=>f=.rt (.bl true)) ?_ fun f U q=>by subst q;exact zan rfl ⟨rfl,rfl⟩
 generalize S.enter=E at XE gkE grE fz lkE;obtain⟨g2,g0,g1,v1,l1⟩:=zmo E h;have e1:=zpm (n:=n) (x:=some (.ref kn)) (y:=some (.ref hr)) (z:=none) XE;generalize hE1:tkS E h=E1 at g2 g0 g1 v1 l1 e1;apply zaY (δ':=[some (.ref a),some (.int (i:Nat)),some (.ref kn),some (.ref hr),some (.ref (E.len+2))]) e1 rfl;have v2:Mv [] E1 (E1.push (.lst [.ref kn,.ref hr])):=Mv.push [] _ _;have q2:=zac E1 (.lst [.ref kn,.ref hr]);have l2:=plen E1 (.lst [.ref kn,.ref hr]);have o2:∀l o,E1.get l=some o->(E1.push (.lst [.ref kn,.ref hr])).get l=some o:=fun l o e=>zaf e;have same:=two_same (o2 _ _ g2) (o2 _ _ g0) (o2 _ _ g1) q2 (o2 _ _ (v1.old _ _ (by simp) gkE)) (o2 _ _ (v1.old _ _ (by simp) grE));have ne:cmpO (E1.push (.lst [.ref kn,.ref hr])) .NotEq (.ref (E.len+2)) (.ref E1.len)=some false:=by show(eqD _ _ _).map (!·)=_;rw[same];rfl
 refine zcA (W.of (S:=E1.push (.lst [.ref kn,.ref hr])) (W.eq (wT_W _ ?_)) ⟨rfl,?_⟩);left;exists g2;exists rfl;exists by unfold tyOf;dsimp only;rw[g0]
 exists g2;exists rfl;exists by unfold tyOf;dsimp only;rw[g1]
 change show 2<=16777216 by decide
 exists ne;exact⟨rfl,rfl⟩;have g2:=o2 _ _ g2;have g1:=o2 _ _ g1;have g0:=o2 _ _ g0;have v12:=v1.trans v2;generalize E1.push (.lst [.ref kn,.ref hr])=E2 at g0 g1 g2 v2 v12 l2⊢;refine zcA (W.of (S:=E2) (W.eq (wT_W _ ?_)) ⟨rfl,?_⟩);left;exists g2;exists rfl;exists g0;apply zaw;apply W.of (zfa (zak h.K) none);change by rw[length_map,length_map,za5];omega
 exists zkU _;exists g2;exists rfl;exists g1;apply zaw;apply W.of (zm6 h.H none);change by rw[length_map,length_map];omega
 exists zkU _;exact⟨rfl,rfl⟩;have fr:∀{A:List Nat}{U:R.St}(l:Nat),E.len<=l->Mv A E U->Fr U l:=fun l hl v=>⟨by rw[v.frz];omega,by rw[v.lk,lkE];rfl⟩;obtain⟨E3,h3,m3,g3⟩:=zbf (fr E.len (le_refl _) v12) g0;have v13:Mv [E.len] E E3:=(v12.up (by simp)).trans m3;have g13:=m3.old _ _ (by simp) g1;have g23:=m3.old _ _ (by simp) g2;obtain⟨E4,h4,m4,g4⟩:=zbf (fr (E.len+1) (by omega) v13) g13;have v14:Mv [E.len,E.len+1] E E4:=(v13.up (by simp)).trans (m4.up (by simp));refine zbP (W.of (d:=.non) (S:=E3) (W.eq (wE_W _ ?_)) ?_);left;exists g2;exists rfl;exists g0;exists g0;change by rw[length_append,length_map,za5];simp;omega
 exists h3;exact⟨rfl,rfl⟩;refine zbP (W.of (d:=.non) (S:=E4) (W.eq (wE_W _ ?_)) ?_);left;exists g23;exists rfl;exists g13;change by decide
 exists g13;change by rw[length_append,length_map];simp;omega
 exists h4;exact⟨rfl,rfl⟩;have up4:Up E E4:=fun l o e=>v14.old _ _ (by have:=zai e;simp;omega) e;have X4:=XE.up up4;have e5:=zpm (n:=n) (x:=some (.ref kn)) (y:=some (.ref hr)) (z:=some (.ref (E.len+2))) X4;obtain⟨k2,k0,k1,w1,l5⟩:=zmo E4 h;generalize tkS E4 h=E5 at k2 k0 k1 w1 l5 e5;have q6:=zac E5 (.lst [.ref kn,.ref hr]);have o6:∀l o,E5.get l=some o->(E5.push (.lst [.ref kn,.ref hr])).get l=some o:=fun l o e=>zaf e;have same:=two_same (o6 _ _ k2) (o6 _ _ k0) (o6 _ _ k1) q6 (o6 _ _ (w1.old _ _ (by simp) (up4 _ _ gkE))) (o6 _ _ (w1.old _ _ (by simp) (up4 _ _ grE)));apply zi2;show W (evE (callF prog (n+5)) (.cmp .Eq tkE (.lst #[Y2,Y3])) _ E4) _;have eb:evE (callF prog (n+5)) (.lst #[Y2,Y3]) [some (.ref a),some (.int (i:Nat)),some (.ref kn),some (.ref hr),some (.ref (E.len+2))] E5=.ok (.ref E5.len) (E5.push (.lst [.ref kn,.ref hr])):=rfl;rw[evE,e5,zaD,eb,zaD];show W (Out.bind (lift _ (eqD (E5.push (.lst [.ref kn,.ref hr])) (.ref (E4.len+2)) (.ref E5.len))) _) _;rw[same,zaU,zaD,W_ok]
noncomputable def llB:CS:=.asg 11 (.bi .min2 #[Y6,.bin .Sub (.call 21 0 #[Y4,Y10]) Z1]) (.asgT [12,13,14] (.call 22 0 #[Y8,Y10,Y1,.ix Y3 Y10,Y11]) (.ifS (.nt (.tst (.call 26 0 #[Y7,Y10,Y12,Y13]))) (.ret (.con (D.bl false)) .nil) .nil (.ifS (.nt (.tst (.call 25 0 #[.meth "ended" [(0,29),(2,40)] Y7 #[Y10],.call 23 0 #[Y13,Y14,Y1,Y6]]))) (.ret (.con (D.bl false)) .nil) .nil .nil)))
structure Ll(V:R.St)(m:Nat)(z:Int)(c a wl cl le:Nat)(ws:List Int)(cs:List Cra)(ps:List Pt):Prop where
 P:Pz V m z c a ws cs ps
 gw:V.get wl=some (.lst (ws.map D.int))
 gc:V.get cl=some (.lst (cs.map craD))
 gl:V.get le=some (.lst (lets m z ps 1 c (ws.map fun w=>⟨[w],[],none⟩)))
 vc:∀x∈cs,VC (m:Nat) x
 m7:m<=7
 lw:ws.length=m
 hz:z=(c:Nat)
 c8:c<=8
noncomputable abbrev EV(q0 q2 q5:D)(m:Nat)(wl cl:Nat)(z:Int)(a le:Nat)(q9:D)(x y u v w:Option D):Ev:=[some q0,some (.int (m:Nat)),some q2,some (.ref wl),some (.ref cl),some q5,some (.int z),some (.ref a),some (.ref le),some q9,x,y,u,v,w]
section
variable{V:R.St}{m c a wl cl le n:Nat}{z:Int}{ws:List Int}{cs:List Cra}{ps:List Pt}{q0 q2 q5 q9:D}
theorem Ll.up(L:Ll V m z c a wl cl le ws cs ps)(u:Up V U):Ll U m z c a wl cl le ws cs ps:=⟨L.P.up u,u _ _ L.gw,u _ _ L.gc,u _ _ L.gl,L.vc,L.m7,L.lw,L.hz,L.c8⟩
theorem zmb(vc:∀x∈cs,VC (m:Nat) x):1<=zaZ cs i:=by rcases zgv i cs with⟨_,h⟩|⟨x,hx,_,h⟩;omega;have:=(vc x hx).t1;omega
theorem zou(L:Ll V m z c a wl cl le ws cs ps)(hi:i<m) :
  W (exS (callF prog (n+6)) llB (EV q0 q2 q5 m wl cl z a le q9 (some (.int (i:Nat))) y u v w) V) fun f U=>(∃y u v w,f=.nx (EV q0 q2 q5 m wl cl z a le q9 (some (.int (i:Nat))) y u v w))/\Up V U/\U.lk=V.lk:=by
 have C:Tc m cs ps:=⟨L.P.lp,L.P.cn,L.P.cy⟩;have lw:=L.lw;have m7:=L.m7;have hz:=L.hz;have c8:=L.c8;have gp:=zmb (i:=i) L.vc;obtain⟨k,hk⟩:∃k:Nat,(if zaZ cs i-1<z then zaZ cs i-1 else z)=(k:Nat):=⟨(if zaZ cs i-1<z then zaZ cs i-1 else z).toNat,by split<;>omega⟩;have kc:k<=c:=by split at hk<;>omega
 have kg:(k:Int)<zaZ cs i:=by split at hk<;>omega
 have hst:hT m z ps ws i c=hT m z ps ws i k:=by
  by_cases e:k=c;rw[e]
  . have:=zj9 (z:=z) (u:=k) C lw hi (by split at hk<;>omega) (c-k) (by omega)
    rwa [show k+(c-k)=c by omega]at this
 have A:=zsE (z:=z) C lw m7 hi c8 kc kg;have en:=zmP C lw hi c8 hz kc kg;obtain⟨w0,wi⟩:∃w0,ws[i]?=some w0:=⟨ws[i]'(by omega),by simp⟩;have h0:hT m z ps ws i 0=⟨[w0],[],none⟩:=by
  have e:=zfI (z:=z) C lw hi 0;have:(Gt m z ps ws 0)[i]?=some ⟨[w0],[],none⟩:=by unfold Gt rnds;rw[getElem?_map,wi];rfl
  exact Option.some.inj (e.symm.trans this)
 have gl:=L.gl;rw[zjF]at gl;refine zaY (δ':=EV q0 q2 q5 m wl cl z a le q9 (some (.int (i:Nat))) (some (.int (k:Nat))) u v w) (S':=V) (W.eq (wE_W _ ?_)) rfl ?_;left;specialize zpZ L.gc;left;rw[hk];exact⟨rfl,rfl⟩;have sw:=zli (n:=n+5) (q2:=.int (m:Nat)) gl A (by omega) (fun t ht=>by have:=(en t ht).1;omega) (by omega) rfl (by rw[h0]) (by rw[h0]);rw[exS,zaa];refine W.mono (Q:=fun d T=>∃a1 a2 a3,d=.tup [.ref a1,.ref a2,.ref a3]/\Wd V T a1 a2 a3 (fun t=>(hT m z ps ws i t).K) (fun t=>(hT m z ps ws i t).H) k) (wE_W _ ?_) fun d T q=>?_;left;exists L.gw;exists zci (by rw[getElem?_map,wi];rfl);refine za4 (sw.mono fun d T q=>?_);exact q;obtain⟨a1,a2,a3,rfl,D⟩:=q;have LT:=L.up D.up;obtain⟨hl,lt,ga,gh,_⟩:=LT.P.at_;obtain⟨p,ep⟩:∃p,ps[i]?=some p:=⟨ps[i]'(by rw[C.lp];exact hi),by simp⟩;have P1':=LT.P.p1 i p (hT m z ps ws i c) ep (zfI C lw hi c);rw[hst]at P1';have hl':=(en k (le_refl _)).1;have X:Pa T m z ps a hl lt i p (hT m z ps ws i k):=⟨ga,gh,ep,P1',by omega⟩;have st:=zpX (n:=n) X D.g1 D.g2;have se:=zr3 (n:=n+5) (r:=z) D.g2 D.g3 (by rw[hl'];simp[lea]) (by omega) rfl m7;rw[<-(en k (le_refl _)).2]at se;refine zcA (W.of (S:=T) (W.eq (wT_W _ ?_)) ⟨rfl,?_⟩);left;specialize st;exact⟨rfl,rfl⟩;refine zcA (W.of (S:=T) (W.eq (wT_W _ ?_)) ⟨rfl,?_⟩);left;exists zau ga;exists rfl;change rfl;specialize zlU ga gh ep P1';specialize se;specialize znK (hT m z ps ws i k).en;exact⟨rfl,rfl⟩;exact⟨⟨_,_,_,_,rfl⟩,D.up,D.lk⟩
theorem zjC:∀(is:List Nat)(V:R.St)(x y u v w:Option D),Ll V m z c a wl cl le ws cs ps->(∀i∈is,i<m)->
  W (zaB [10] (exS (callF prog (n+6)) llB) (is.map fun(i:Nat)=>.int (i:Nat)) (EV q0 q2 q5 m wl cl z a le q9 x y u v w) V) fun f U=>(∃x y u v w,f=.nx (EV q0 q2 q5 m wl cl z a le q9 x y u v w))/\Up V U/\U.lk=V.lk
 | [],V,x,y,u,v,w,L,hi=>by show W (Out.ok (Fl.nx _) V) _;rw[W_ok];exact⟨⟨x,y,u,v,w,rfl⟩,Up.refl _,rfl⟩| i::is,V,x,y,u,v,w,L,hi=>by show W (Out.bind (exS (callF prog (n+6)) llB (EV q0 q2 q5 m wl cl z a le q9 (some (.int (i:Nat))) y u v w) V) _) _;rw[zaa];refine(zou L (hi i (by simp))).mono fun f U q=>?_;obtain⟨⟨y,u,v,w,rfl⟩,u1,k1⟩:=q;refine(zjC is U _ y u v w (L.up u1) fun j hj=>hi j (by simp[hj])).mono fun f W' q=>?_;obtain⟨q1,q2,q3⟩:=q;exact⟨q1,u1.trans q2,q3.trans k1⟩
end
noncomputable def lF:CS:=.forS [10] (.val Y9) llB (.ret (.con (D.bl true)) .nil)
noncomputable def lR:CS:=.ifS (.cmp .Eq (.bin .Mod (.bin .FloorDiv (.call 15 0 #[Y0,Z2]) Z16) Z2) Z1) (.asg 9 (.slS Y9 (.neg Z1)) .nil) .nil
 lF
theorem zlZ:c_law.body=.asgT [1,2,3,4,5,6] (.call 20 0 #[Y0]) (.asg 7 (.mk 2 39 "Floods" 0 #[Y1,Y2,.mkL (.val Y3),.mkL (.val Y4),Y5]) (.asg 8 (.meth "letters" [(2,44)] Y7 .nil) (.asg 9 (.mkL (.rng1 Y1))
 lR))):=rfl
section
variable{V:R.St}{m c a wl cl le n:Nat}{z:Int}{ws:List Int}{cs:List Cra}{ps:List Pt}{q0 q2 q5:D}
theorem zqU{or:Nat}{js:List Nat}(L:Ll V m z c a wl cl le ws cs ps)(g:V.get or=some (.lst (js.map fun(i:Nat)=>.int (i:Nat))))(h:∀j∈js,j<m) :
  W (exS (callF prog (n+6)) lF (EV q0 q2 q5 m wl cl z a le (.ref or) none none none none none) V) fun f _=>f=.rt (.bl true):=by
 have el:evL (callF prog (n+6)) (.val Y9) (EV q0 q2 q5 m wl cl z a le (.ref or) none none none none none) V=.ok (js.map fun(i:Nat)=>.int (i:Nat),[or]) V:=by refine W.eq (wL_W _ ?_);exists g;exact⟨rfl,rfl⟩
 apply zbu el;refine(zjC js {V with lk:=[or]++V.lk} none none none none none (L.up fun l o e=>e) h).mono fun f U q=>?_;obtain⟨⟨x,y,u,v,w,rfl⟩,_,_⟩:=q;left
theorem zsn{ns:List Int}(L:Ll V m z c a wl cl le ws cs ps){or:Nat}(g:V.get or=some (.lst ((List.range m).map fun(i:Nat)=>.int (i:Nat)))) :
  W (exS (callF prog (n+6)) lR (EV (.fix (ns.map .int)) q2 q5 m wl cl z a le (.ref or) none none none none none) V) fun f _=>f=.rt (.bl true):=by
 have et:evT (callF prog (n+6)) (.cmp .Eq (.bin .Mod (.bin .FloorDiv (.call 15 0 #[Y0,Z2]) Z16) Z2) Z1) (EV (.fix (ns.map .int)) q2 q5 m wl cl z a le (.ref or) none none none none none) V=.ok (decide (zbH ns 2/16%2=1)) V:=by
  refine W.eq (wT_W _ ?_);specialize zdb;change by first|decide|omega|(simp;done)|(simp;omega)
  change by first|decide|omega|(simp;done)|(simp;omega)
  exact⟨rfl,rfl⟩
 unfold lR;rw[exS,et,zaD,zaa];by_cases k:zbH ns 2/16%2=1;rw[decide_eq_true k,if_pos rfl];obtain⟨js,hj,ej⟩:∃js:List Nat,(∀j∈js,j<m)/\stp ((List.range m).map fun(i:Nat)=>D.int (i:Nat)) (-1)=js.map fun(i:Nat)=>D.int (i:Nat):=by refine⟨(stpI m (-1)).filterMap ((List.range m)[·]?),fun j hj=>?_,?_⟩;obtain⟨x,_,hx⟩:=List.mem_filterMap.mp hj;exact mem_range.mp (mem_of_getElem? hx);unfold stp;rw[length_map,length_range,List.map_filterMap];congr 1;funext x;rw[getElem?_map]
 have sl:(js.map fun(i:Nat)=>D.int (i:Nat)).length<=16777216:=by
  rw[<-ej];have:=L.m7;have:m=0\/m=1\/m=2\/m=3\/m=4\/m=5\/m=6\/m=7:=by omega
  rcases this with rfl|rfl|rfl|rfl|rfl|rfl|rfl|rfl<;>decide +kernel
 refine zaY (δ':=EV (.fix (ns.map .int)) q2 q5 m wl cl z a le (.ref V.len) none none none none none) (S':=V.push (.lst (js.map fun(i:Nat)=>.int (i:Nat)))) (W.eq (wE_W _ ?_)) rfl ?_;left;change by decide
 exists g;left;rw[ej];change sl;exact⟨rfl,rfl⟩;exact zqU (L.up (Up.push _ _)) (zac _ _) hj;rw[decide_eq_false k,if_neg (by simp),exS,W_ok];exact zqU L g fun j hj=>mem_range.mp hj
end
theorem zqw(h:δ[1]?=some (some (.int (m:Nat))))(m7:m<=7):evE cf (.mkL (.rng1 Y1)) δ V=.ok (.ref V.len) (V.push (.lst ((List.range m).map fun(i:Nat)=>D.int (i:Nat)))):=by simp[evE,evL];rw[h];show(Out.bind (Out.bind (lift V (some (D.int (m:Nat)))) _) _)=_;rw[zaU,zaD];dsimp only;rw[if_pos (by omega),zaD,Int.toNat_natCast];unfold lay;rw[if_pos (by simp;omega)]
theorem law_true(ns:List Int)(h:ns.length<=63):W (callF prog 9 27 [.fix (ns.map .int)] ⟨[],[],[]⟩) fun d _=>d=.bl true:=by
 apply zrn rfl rfl rfl;refine W.mono (Q:=fun f _=>f=.rt (.bl true)) ?_ fun r T q=>by cases r with|nx _=>cases q|rt d=>cases q;rfl
 rw[zlZ,exS,zaa];have e20:W (evE (callF prog 8) (.call 20 0 #[Y0]) (zaE c_law [.fix (ns.map .int)]) S0) FoE:=by apply wE_W _;refine za4 ((ziZ ns h).mono fun d T q=>?_);exact q
 refine e20.mono fun d S q=>?_;unfold FoE at q;obtain⟨m,b,z,c,wl,cl,rd,ws,cs,F⟩:=q;have hd:=F.d;subst hd;have m7:=F.m7;have lw:=F.lw;have hz:=F.hz;have z8:=F.z8;have clen:=F.cl;have hff:∀T:R.St,T.frz.length<=T.len:=fun T=>by unfold St.len;omega
 apply zfZ;obtain⟨S2,hS2⟩:∃S2,(S.push (.lst (ws.map D.int))).push (.lst (cs.map craD))=S2:=⟨_,rfl⟩;have up2:Up S S2:=by rw[<-hS2];exact(Up.push _ _).trans (.push _ _)
 have kS2:S2.lk=[]:=by rw[<-hS2];exact F.lk
 have ln2:S.len<S2.len:=by rw[<-hS2,plen,plen];omega
 have gw2:S2.get S.len=some (.lst (ws.map D.int)):=by rw[<-hS2];exact zaf (zac _ _)
 have gc2:S2.get (S.push (.lst (ws.map D.int))).len=some (.lst (cs.map craD)):=by rw[<-hS2];exact zac _ _
 have mf:=zop (n:=0) (cr:=.ref (S.push (.lst (ws.map D.int))).len) (zac S2 (.ins 2 [])) ⟨hff S2,by show S2.lk.contains _=false;rw[kS2];rfl⟩ (zaf gw2) lw F.m1 m7 F.b0 F.b5 F.wb (by show ∀l∈S2.lk,_;rw[kS2];simp) (by omega) (.inr ⟨_,rfl,zaf gc2⟩) F.rd z8 hz F.vc F.nd;apply wE_W _;exists F.gw;change by rw[length_map];omega
 exists zaf F.gc;change by rw[length_map];omega
 subst hS2;refine za4 (mf.mono fun d U hU=>?_);obtain⟨rfl,ps,P⟩:=hU;change rfl;obtain⟨hl,lt,ga,gh,gl⟩:=P.at_;have old:∀l o,S.get l=some o->U.get l=some o:=fun l o e=>P.old _ _ (by have:=zai e;omega) (zaf (up2 l o e));have ll:=zeP (r:=z) ⟨P.lp,P.cn,P.cy⟩ m7 c 1 (ws.map fun w=>⟨[w],[],none⟩);generalize hLL:lets m z ps 1 c (ws.map fun w=>⟨[w],[],none⟩)=LL at gl ll;generalize((S.push (.lst (ws.map D.int))).push (.lst (cs.map craD))).len=a at ga P⊢;refine zaY (δ':=[some (.fix (ns.map .int)),some (.int (m:Nat)),some (.int b),some (.ref wl),some (.ref cl),some rd,some (.int z),some (.ref a),some (.ref U.len),none,none,none,none,none,none]) (S':=U.push (.lst LL)) (W.eq (wE_W _ ?_)) rfl ?_;left;exists zau ga;exists rfl;change rfl;specialize zjy ga gl (by omega);exact⟨rfl,rfl⟩;have u1:Up U (U.push (.lst LL)):=Up.push _ _;have g1:=zac U (.lst LL);generalize hV:U.push (.lst LL)=V1 at u1 g1⊢;generalize U.len=le at g1⊢;have Q:Pz U m z c a ws cs ps:=⟨P.lp,⟨hl,lt,ga,gh,by rw[hLL];exact gl⟩,P.lr,P.p1,P.cn,P.cy⟩;have L1:Ll V1 m z c a wl cl le ws cs ps:=⟨Q.up u1,u1 _ _ (old _ _ F.gw),u1 _ _ (old _ _ F.gc),by rw[hLL];exact g1,F.vc,m7,lw,hz,by omega⟩;rw[exS,zqw rfl m7,zaD];exact zsn (L1.up (Up.push _ _)) (zac _ _)
end
section
open PySem R L2
theorem lam_mem:(tab.lamP,("run":Str) ++ ".<locals>." ++ "<lambda>")∈Mks.ts:=by decide +kernel
theorem lam_one:∀p∈Mks.ts,p.1=tab.lamP->p.2=("run":Str) ++ ".<locals>." ++ "<lambda>":=by intro p hp _;simp only[Mks.ts,mks,mem_cons,not_mem_nil,or_false]at hp;subst hp;decide +kernel
theorem lam_b:∀j,j<=1->∃n,(["hands","rounds","wires"]:List Str).length=n+j/\∀(d:Addr)(kV doc pm:Value)(an:Option Addr)(cdv ct:Value)(us:List Value),us.length=n->∃k,bindArgs (fnOf "run" "run" (zax zg1) (zao zg1) (zad zg1) (.ref d) kV doc pm an cdv ct) ⟨us,[]⟩=seqItems? (.ref d)>>=k/\k (some [Value.none].toArray)=pure ((["hands","rounds","wires"]:List Str).zip (us++List.replicate j Value.none))
 |0,_=>⟨3,rfl,fun _ _ _ _ _ _ _=>us3 fun _ _ _=>⟨_,rfl,rfl⟩⟩|1,_=>⟨2,rfl,fun _ _ _ _ _ _ _=>us2 fun _ _=>⟨_,rfl,rfl⟩⟩
end
end Kz
open PySem PySem.W PyProof.Rows
set_option maxRecDepth 100000 in
set_option maxHeartbeats 0 in
theorem PySem.Challenge.cw_traitorround_k64_heard_and_ended_holds : PySem.Challenge.rw_traitorround_k64_heard_and_ended.Holds := by
 w_on;o_law;k_head;(case hw=>w_witness2)
 k_fill
 refine R.walk_ofT (l:=PySem.Challenge.rw_traitorround_k64_heard_and_ended) (n:=63) (k:=18) (x:="_law_script") (sp:=fun w=>R.spF _ (R.callF Kz.prog 9) 27) rfl (by decide) rfl ⟨rfl,by decide,by decide⟩ (fun w h Y=>PySem.W.km_in_of Y) ?hT ?hK ?F (fun _ _ a ns hl hx tb=>R.law_spT hx tb (Kz.law_true ns hl))
 case hT=>intro w h Y p hp;simp only[R.Mks.ts,Kz.mks,mem_cons,not_mem_nil,or_false]at hp;subst hp;exact PySem.W.km_tabs_of Y 242 (by simp)
 case hK=>intro w p hp;simp only[R.Mks.ts,Kz.mks,mem_cons,not_mem_nil,or_false]at hp;subst hp;exact⟨by with_unfolding_all rfl,246,by with_unfolding_all rfl⟩
 case F=>
  intro w mg fa h KX G hmg;apply R.all_of (n:=8) KX G hmg Kz.O46 (le_refl _)
  . (repeat' (first|exact trivial|apply R.AllAtG.cons|apply R.AllInG.cons))
    . apply R.clOk (c:=0) KX G rfl<;>first|k_is|((repeat' (first|exact trivial|apply R.AllAtG.cons|apply R.AllInG.cons))<;>k_is)
    . apply R.clOk (c:=1) KX G rfl<;>first|k_is|((repeat' (first|exact trivial|apply R.AllAtG.cons|apply R.AllInG.cons))<;>k_is)
    . apply R.clOk (c:=2) KX G rfl<;>first|k_is|((repeat' (first|exact trivial|apply R.AllAtG.cons|apply R.AllInG.cons))<;>k_is)
  . (repeat' (first|exact trivial|apply R.AllAtG.cons|apply R.AllInG.cons))<;>k_is
  . (repeat' (first|exact trivial|apply R.AllAtG.cons|apply R.AllInG.cons))<;>(apply R.coOk;k_is)
  . intro base bm
    (repeat' (first|exact trivial|apply R.AllAtG.cons|apply R.AllInG.cons))
    . apply R.dOk KX G Kz.O44<;>k_is
    . apply R.dOk KX G Kz.O34<;>k_is
    . apply R.dOk KX G Kz.O43<;>k_is
    . apply R.dOk KX G Kz.O41<;>k_is
    . apply R.dOk KX G Kz.O30<;>k_is
    . apply R.dOk KX G Kz.O40<;>k_is
    . apply R.dOk KX G Kz.O42<;>k_is
    . apply R.lOkD KX G bm Kz.O45 Kz.lam_mem Kz.lam_one Kz.lam_b<;>first|k_is|with_unfolding_all rfl
    . apply R.dOk KX G Kz.O36<;>k_is
    . apply R.dOk KX G Kz.O37<;>k_is
    . apply R.dOk KX G Kz.O39<;>k_is
    . apply R.dOk KX G Kz.O29<;>k_is
    . apply R.dOk KX G Kz.O22<;>k_is
    . apply R.dOk KX G Kz.O31<;>k_is
    . apply R.dOk KX G Kz.O9<;>k_is
    . apply R.dOk KX G Kz.O17<;>k_is
    . apply R.dOk KX G Kz.O33<;>k_is
    . apply R.dOk KX G Kz.O21<;>k_is
    . apply R.dOk KX G Kz.O18<;>k_is
    . apply R.dOk KX G Kz.O26<;>k_is
    . apply R.dOk KX G Kz.O16<;>k_is
    . apply R.dOk KX G Kz.O32<;>k_is
    . apply R.dOk KX G Kz.O23<;>k_is
    . apply R.dOk KX G Kz.O38<;>k_is
    . apply R.dOk KX G Kz.O24<;>k_is
    . apply R.dOk KX G Kz.O28<;>k_is
    . apply R.dOk KX G Kz.O35<;>k_is
    . apply R.dOk KX G Kz.O46<;>k_is
  . intro hc
    (repeat' (first|exact trivial|apply R.AllAtG.cons|apply R.AllInG.cons))
    . apply R.mOk (c:=0) hc Kz.O4 rfl rfl<;>k_is
    . apply R.mOk (c:=2) hc Kz.O14 rfl rfl<;>k_is
    . apply R.mOk (c:=2) hc Kz.O10 rfl rfl<;>k_is
    . apply R.mOk (c:=0) hc Kz.O7 rfl rfl<;>k_is
    . apply R.mOk (c:=1) hc Kz.O11 rfl rfl<;>k_is
    . apply R.mOk (c:=0) hc Kz.O0 rfl rfl<;>k_is
    . apply R.mOk (c:=2) hc Kz.O3 rfl rfl<;>k_is
    . apply R.mOk (c:=0) hc Kz.O2 rfl rfl<;>k_is
    . apply R.mOk (c:=2) hc Kz.O12 rfl rfl<;>k_is
    . apply R.mOk (c:=0) hc Kz.O5 rfl rfl<;>k_is
    . apply R.mOk (c:=2) hc Kz.O15 rfl rfl<;>k_is
    . apply R.mOk (c:=1) hc Kz.O1 rfl rfl<;>k_is
    . apply R.mOk (c:=0) hc Kz.O8 rfl rfl<;>k_is
    . apply R.mOk (c:=1) hc Kz.O19 rfl rfl<;>k_is
  . (repeat' (first|exact trivial|apply R.AllAtG.cons|apply R.AllInG.cons))
    . apply R.iOk (c:=1) Kz.O13 rfl<;>k_is
    . apply R.iOkD (c:=2) (n:=6) (items:=#[Value.none,Value.none]) Kz.O20 rfl (fun _ _ _ _ _ _ _=>Kz.us6 fun _ _ _ _ _ _=>⟨_,rfl,rfl⟩) rfl<;>k_is
    . apply R.iOk (c:=0) Kz.O6 rfl<;>k_is
  . (repeat' (first|exact trivial|apply R.AllAtG.cons|apply R.AllInG.cons))
    . apply R.cOk KX G Kz.O25<;>k_is
    . apply R.cOk KX G Kz.O27<;>k_is
  . (repeat' (first|exact trivial|apply R.AllAtG.cons|apply R.AllInG.cons))
  all_goals k_is
end

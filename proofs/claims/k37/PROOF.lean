import PyProof.Rows.All
import Wide.All
import OpenK.AllK
import Wide.FinOn
import Lean
import PyProof.EqAt
import PyProof.EqKinds
import PyProof.TupleCall
import PyProof.P3Statements
import PySem.Syntax
import PyProof.Dict
import PyProof.StationsW
import PyProof.ExcClass3
import PyProof.ExcInit
import PyProof.ExcAttrAll.ValueError
import OpenK.KMake
import OpenK.KWalk
import KE.KIsAll
import OpenK.KOwn
import KE.KTryMore
import PyProof.RulesAs
import PyProof.NsDelKeeps
import PySem.Challenge.RW_traitorround_k37_oral_refused
set_option Elab.async false
set_option linter.all false
set_option maxHeartbeats 4000000
set_option maxRecDepth 100000
set_option bootstrap.genMatcherCode false
set_option genInjectivity false
set_option genSizeOf false
set_option genSizeOfSpec false
theorem qa1{a b:Bool}(h:(a&&b)=true):a=true/\b=true:=(Bool.and_eq_true a b).mp h
theorem qd1{p:Prop}[Decidable p]{b:Bool}(h:(decide p&&b)=true):p/\b=true:=(qa1 h).imp_left of_decide_eq_true
theorem qb1{α:Type}[BEq α][LawfulBEq α]{x y:α}{b:Bool}(h:(x==y&&b)=true):x=y/\b=true:=(qa1 h).imp_left eq_of_beq
theorem qL{a b:Bool}{p:Prop}(f:a=true->p)(h:(a&&b)=true):p/\b=true:=(qa1 h).imp_left f
open Bool (and_eq_true not_eq_true' or_eq_true)
open Nat (le_of_eq le_of_lt le_refl le_succ le_trans lt_irrefl lt_of_lt_of_le lt_succ_self lt_trans ne_of_gt ne_of_lt zero_add zero_le)
open List (Pairwise all_cons all_eq_true any_cons append_assoc append_nil contains_cons getElem?_append_left getElem?_append_right getElem?_eq_getElem getElem?_map getElem?_set_ne getElem?_set_self isEmpty_iff length_append length_cons length_filter_le length_map length_nil length_replicate length_take lookup_cons mapM_cons map_append map_cons map_map map_nil mem_append mem_append_left mem_append_right mem_cons mem_cons_of_mem mem_cons_self mem_map mem_of_getElem? mem_range mem_singleton nodup_append nodup_cons not_mem_nil of_mem_zip pairwise_cons pairwise_map prefix_append prefix_refl size_toArray)
open PySem.W (KatTups callWith_K callWith_K0 cellsFrom_some codeHdIn codeIn emptyDict findCls fnOf handedIn instObj isFn kat_cons kat_no kat_one keepIn kia_one kitOne kitx_dict kitx_list kla_fn kla_obj lookIn makesIn methodObj mg_of nsIn plainGet plainGet_of plainOver readsIn specialIn tabObj takerIn takesIn)
open Option (bind_some)
open Array (length_toList)
structure PySem.W.Fast:Prop where(tw10030619469224992325 tw1007038434785937764 tw10115301019764585783 tw10129757468169468256 tw10183419587720611205 tw10256913897984289517 tw10281663351269359465 tw10286101482594955497 tw10297852670635996501 tw10360504788831098264 tw10429910592652415541 tw10493880857286152306 tw10582530789186766576 tw10648383282143367381 tw1072758409199307389 tw10762798002479080085 tw11054847503630523288 tw11187183311570931132 tw11187554620664579236 tw11369701852070434425 tw11529499975943015655 tw11667556258244553752 tw11707101130724666973 tw11839550676998036063 tw11859601872330633399 tw1200504127283007449 tw12198284956010189662 tw12551889996776283518 tw12591926124522082682 tw12795658868240650764 tw12852047749616820300 tw12937946791765595988 tw13010571689170573701 tw13175981317853178054 tw13626863493189779767 tw13668495608919915469 tw14061305777668075271 tw14140879380280151590 tw14209279623514015445 tw14246868669184788853 tw14251405831672459339 tw14567482516782293331 tw14934675836433089717 tw14962957640330923734 tw1497315967816920224 tw15005905057017129959 tw15011189013333211508 tw15120958943688719797 tw15377019456660034199 tw15477162113751265257 tw15587097469007160976 tw15609512238989952311 tw15847703835203579363 tw15847939823724094710 tw15943456433735257778 tw16010234772579946905 tw16172682326509511485 tw1618253455717703690 tw1632258673091727026 tw16341525845497371081 tw16430903725082476662 tw16492775732694294491 tw16553079390600510721 tw16673942917532755584 tw16771480043569025000 tw17132068775221769334 tw17144139559030570899 tw17144231921405511740 tw1718400643268830513 tw17241878506460350682 tw17423855462696130961 tw17426207597672366339 tw17775291423148570227 tw1780174889613074073 tw17811154875240361540 tw1799810462136836580 tw18015358825121010078 tw18020887903422700434 tw18062002957185628767 tw1963769098659619510 tw2026626970411988251 tw2047755103068362823 tw2088015944126973630 tw2179213406511681902 tw2250575791422583680 tw2409467289120756680 tw2695949535337893388 tw2791025774390837096 tw294589400712885388 tw3133244315545924421 tw3524955906440531577 tw358088389439986317 tw3586817672926357838 tw3795337385471607127 tw3930588514388829106 tw3966892951264969179 tw4031946688973975227 tw4321572362354345745 tw4333053915475431110 tw4417724947519288366 tw4494352822525834902 tw4783501454435460594 tw4925511016244738663 tw5146008492227202958 tw5282972229786577441 tw5312487338947879843 tw5330406249128700618 tw5434376221198264807 tw5532859210389095352 tw5533706205345806855 tw5541835597155270674 tw5646753386104178486 tw5722420474539422424 tw5797942665719310676 tw5897036109017546084 tw5940742306772034822 tw6024238250213261308 tw6218695390336755641 tw6530560883698300594 tw6552905982045016803 tw6605683970831329739 tw6864342097751101553 tw6995441512142820311 tw757445372982423091 tw7623062560442594289 tw7634621346405022974 tw7668671522988124050 tw7963151611033736605 tw8023769793708220917 tw8080034733005636309 tw8189657165979483723 tw8324679147828473006 tw8414070412820097802 tw8485168090929163019 tw8607186800317345709 tw8684286578042436370 tw8886239442743779455 tw9395302906161016711 tw9401454609333544403 tw9421442363933667086 tw951864636507117396 tw13235932641058459309 tw15598603110105857156 tw4884984668512689561 tw2663213521648588702 tw11843544231692736990 tw11859990437841117887 tw13110501966090031650 tw1392572512577236660 tw14117768549073799230 tw15022887174714179282 tw15577998540108758897 tw16332183459395322365 tw16894797462543975180 tw3969886897175515580 tw529888858516664275 tw587415487885830555 tw7202021283091341686 tw12795715710172621520 tw17505289745489670609 tw2558808137277491876 tw5061182314233888303 tw5804913371678091280 tw7025588873862745903 tw7397375799280377358 tw8775638997014497230 tw9185150950518278907 tw11466759732490561422 tw10603876708175630196 tw10640094543515541131 tw10777503077392002569 tw14397650280833183458 tw15145208163810906413 tw15624957550486397761 tw17198244804764925941 tw18178879013955287632 tw2067618403536867672 tw6578587032026025330 tw7526597605171211927 tw7555428192769714534 tw8906612312926094648 tw10046265454872826701 tw10229438615757576738 tw11156012160258934661 tw11391922986568111756 tw11991097443219362949 tw14056866680637985008 tw14888886216831815559 tw15744998865390950243 tw16024623287474819996 tw17330743714567060465 tw18315274426641881937 tw5737886636018212404 tw8143757307249451579 tw17308121786944260233 tw17457195000129819707 tw543709089250899569 tw7252923218357612822 tw13017505894597044016 tw1436844900574152265 tw14582981619336397650 tw15184269543282704389 tw15653987227899369761 tw1630074749881733749 tw16493246263091042797 tw3261523503200809255 tw3389338106024750412 tw6613505801988740441 tw7568821054161666487 tw12547735489876701774 tw14977249990836589293 tw17439413476448331144 tw429095307467076966 tw4957216714909889235 tw14659241601820440949 tw844845946436928925 tw16511162099881846887 tw12859608541831972701 tw15841506119328963524 tw5148135831696912784 tw8104550898923744390 tw11492584580554773070 tw6741945768098919571 tw12153455734486509594 tw4512755856890117721 tw11074327789239445900 tw13682754323547025874 tw13711839084013030145 tw9352874148032441717 tw12431052996382157226 tw12677531030721315200 tw15545129980170613780 tw6231560094061211648 tw6313381196137961461 tw17197688713712524156 tw6885751916484007641 tw7119576781090625040 tw6380814231516858951 tw3313597745101481578 tw5883012489195799114 tw6657383201133370379 tw17763668467741039207 tw1087562073954862501 tw17681159801143220560 tw17013996604227439421 tw8170342040721302822 tw16127373389922680333 tw11785846788004361019 tw7098330321762762720 tw15994597617165532394 tw15050851327965530960 tw15079875599626325135 tw16272211273355857068 tw3652054936335435730 tw5137673688874387354 tw6600167551970231776 tw8863188633686388951 tw14709695956234917050 tw967923499260665779 tw2066937885780226508 tw10327606836772016479 tw12024044302836695571 tw5914451012634256736 tw600662097360678316 tw15364250278702784772 tw16640630192965679695 tw9912462647212074424 tw3676356618891164065 tw11085701022113491516 tw10742951922600986219 tw6567874230684335235 tw18427383367766000673 tw11665010591180619655 tw3956006515555928754 tw4785322583767937782 tw6819136184295934034 tw87305363597207258 tw11106240675898907676 tw7940462729455872651 tw15862471345321813561 tw1710679983144311825 tw15542587415826544899 tw17685792272957175466 tw6762211213440103008 tw12294716003870561791 tw16434220784509586988 tw9099230002709573191 tw11946995820950937307 tw7448441318496996936 tw17641357389636457912 tw14727302549074389043 tw4720972261504406684 tw2365233697010065019 tw10707627678010834146 tw15180366993273944050 tw1676509573591840562 tw2546922357652990832 tw4861456776791381967 tw7788215672865469640 tw1024931507673424611 tw11692150440832119535 tw13159232287172699125 tw9318982482903934832 tw2966468831032299035 tw4053181625629942451 tw13611660235057443562 tw12043365633559835334 tw2065152632834066729 tw12189363859671918050 tw13896777464003644611 tw234427742905718844 tw9380200320738295256 tw9177863992450856525 tw12664214241637571203 tw6608118901721237295 tw6648268375678855038 tw2877680077926207377 tw2434115855038376050 tw4678733444450773751 tw7939944907823823810 tw17468676112417930343 tw12446970091208581118 tw12862144044199161495 tw15319727229085981578 tw1907572844016475874 tw18029849166096857809 tw8398483297119331738 tw9721679559819187945 tw12981689181133582243 tw16873096398436617159 tw17317901542552725239 tw2457006102041930156 tw6671789176133730873 tw7349287222874690340 tw9805176483778679808 tw3112349985713581946 tw5534578645118274405 tw6494982462795448526 tw13424630446095371182 tw15692451417353536619 tw14271115352543946388 tw6190701593724326119 tw12038797614468993223 tw7620274711648591995 tw4160934682206667653 tw4394688369537226948 tw6521056675816763002 tw6104899851853792223 tw12083983104479410273 tw4470673309882981478 tw5132292397829332966 tw9307077907173845324 tw14064589602123550034 tw13565148293656897018 tw807243105039180619 tw16482403283446712040 tw14091348563898000477 tw1088836108524608967 tw12905049685745654057 tw14478532936024220084 tw4628378397810449903 tw14019837883100266066 tw3357548807046968456 tw4896064169584704649 tw4984714777019798961 tw8529737069273635483 tw11867540464350952663 tw6685099262599162992 tw16145729942730170883 tw12308000013036545549 tw15600099079069288145 tw16302689625588874970 tw18342525626818562040 tw4541698044720589381 tw8372293169331601482 tw14241155814529918410 tw6398156175348807770 tw17225013722586086586 tw1246099286586123169 tw6687574822841996602 tw13598009708592543955 tw3261037114832253681 tw5882261339944284467 tw14847138428070755607 tw15380017317093680762 tw4195703942770769083 tw8038792485144618079 tw9500853507495270350 tw10723809625901393320 tw1442307085179534832 tw12882905807996140054 tw5348861039449840614 tw9396673308895729871 tw3830357117943063916 tw4933727868644108563 tw10329391017958491369 tw4900703486580251432 tw6173783251630619538 tw15778553428313477020 tw16456524618846892966 tw2164227631245232266 tw508012709683458473 tw7668948915626178814 tw863132394729699327 tw14056436528391182076 tw388027096866848283 tw17739537656474616533 tw11861720533151597065 tw2759126690618391809 tw10041198927301737177 tw3087516714558417602 tw15380726302878567398 tw5151428219612415560 tw145876964694544588 tw15848035275619330154 tw14693104543962517057 tw493182124372841084 tw8122821994340373140 tw3534212551546163663 tw3464294545281952429 tw7929130216913707613 tw11514179049379686869 tw2621111240834031235 tw12466430164637696450 tw11812281875586733 tw14910023207826708112 tw15599948051647305797 tw14633817883844110997 tw10955193226906458176 tw6324361195760547686 tw12660812017229906770 tw4204364783374462119 tw4672126985999188444 tw4481321731521038840 tw11144651335376958939 tw2031163073117895180 tw14068893860556026511 tw16300301198279971275 tw5618584557190088402 tw10028446868910367569 tw2857203467341073067 tw6868053910596914344 tw13528324053131447579 tw12733983731892233869 tw10163293712399087610 tw4910535433432311757 tw10063602275708631255 tw17149040477552983942 tw3121979159458908727 tw3522661899480615502 tw10907470795133371826 tw8983865035796481265 tw11218414415763043397 tw5962316598981813857 tw7268664897993524814 tw153065997548739757 tw5133935657570470439 tw4490572315196563325 tw3424898152065327664 tw12051412336307259263 tw10786602359926086434 tw9325503323343104829 tw9109759956509248435 tw9563290422696475272 tw16865490952911234301 tw16904774077807148877 tw2723588229258892659 tw8045142695325926832 tw4831203795082901498 tw17100580616730473785 tw15254831519073392757 tw12209840611024001280 tw1098783472728015646 tw7207563383801946511 tw2139712461314396628 tw15357092435915582981 tw14778990661398386556 tw7241632782010375594 tw9687102199862677285 tw6154190630292762863 tw11685263598866952415 tw16021151030239863372 tw241202159502265944 tw10702300382894497658 tw8357600098032652380 tw11743686394389044621 tw11137842702700053541 tw5310929174824822404 tw10729543491826592441 tw11682718159558603384 tw11462331759663969910 tw10860666824217666331 tw15736035267450833803 tw9415385684636277064 tw245880356592573163 tw13103293560620335233 tw6409708533005371178 tw12491357327509223388 tw9063653086464286439 tw13325777904576271507 tw1587382755095836650 tw7598463269376799687 tw11068235926048169382 tw12407715382000336138 tw17194810623607002650 tw12666477309641746190 tw14109775079584108924 tw6320960496770626258 tw1672659427378973318 tw16326154354134808659 tw13268240194387640026 tw1755741103460327489 tw8985587722418864121 tw1234762669628552557 tw7430092796030928967 tw3341590842736988960 tw10883199307780072462 tw3584625621971799012 tw14736788910171689589 tw10126277571301027025 tw2483180177719710768 tw4844437168191149067 tw17986716404968390580 tw11295451491196701066 tw4630713122012968066 tw8255980111259885580 tw13178987963172285111 tw3688822205458898732 tw6372705442958931085 tw5101109558459145392 tw17107960846472441436 tw6867525802060057958 tw15201865035806521796 tw11050665845279779916 tw3843940172242980897 tw1680728577525407664 tw11584459414992340101 tw3080072491807495796 tw12830213425027261467 tw237937969870969100 tw9839992913624003459 tw10151684148029161067 tw6322211285023981028 tw12490299888630215807 tw10250138741091376152 tw17529283644628406922 tw3388942838883882398 tw16937405372051768870 tw9470433620963193631 tw16523650118201563842 tw13463102345437379679 tw18379531025880090041 tw7831156315421335242 tw4678473814353966259 tw14909851321930459425 tw10734133637896792666 tw1812472361727975971 tw4053228494515108990 tw14756697533165930369 tw2822757365851985674 tw3049210713072611154 tw17421508646472324365 tw18413341196727692287 tw14158316372778820910 tw14358265786600049141 tw10982693093982728164 tw12780120014227527176 tw85870270352260801 tw10994870825909548686 tw16065576505824308210 tw7431983454322529416 tw11901267375929538983 tw11395576564990264484 tw8092377867530338338 tw10670444246516016757 tw4076609566281599853 tw228972392852368548 tw12014537911425313111 tw2995797732151604383 tw6148688038768567299 tw15758520113911069163 tw71374924674005167 tw12877370319056019009 tw8534966628466885689 tw17395210556616200422 tw569741105773490671 tw1014698642877923539 tw17639601510066632184 tw12664137025365654540 tw17063643391019713084 tw9356574291501594868 tw334456834615997980 tw1363751941117144075 tw1390893125533539778 tw560942786711088313 tw8220460085002676781 tw771573416985357174 tw13449282623596267729 tw10539079744112892844 tw7293428000842115376 tw2173243164717111911 tw1427419467082754653 tw14941911303126473400:True)
theorem eY{c d:Type _}{p q r:c->d->Prop}{P:Prop}(h:∃a b,p a b/\q a b/\r a b)(k:∀a b,p a b->q a b->r a b->P):P:=h.elim fun a h=>h.elim fun b h=>k a b h.1 h.2.1 h.2.2
theorem eX{e f g δ:Type _}{p q r s:e->f->g->δ->Prop}{P:Prop}(h:∃a b c d,p a b c d/\q a b c d/\r a b c d/\s a b c d)(k:∀a b c d,p a b c d->q a b c d->r a b c d->s a b c d->P):P:=h.elim fun a h=>h.elim fun b h=>h.elim fun c h=>h.elim fun d h=>k a b c d h.1 h.2.1 h.2.2.1 h.2.2.2
namespace L2
open PySem PySem.Spec PyProof.Rows
abbrev Key:=Sum Int Str
noncomputable def zf5:Key->Value->Bool
 |.inl k,v=>Value.isInt k v|.inr x,v=>Value.isStrOf x v
noncomputable def keyH(w:World):Key->Int
 |.inl k=>hashInt k|.inr x=>hashStr w x
theorem zaA:∀{k:Key}{v:Value},zf5 k v=true->(∃i t,k=Sum.inl i/\v=Value.int i t)\/(∃x t,k=Sum.inr x/\v=Value.str x t)
 |.inl i,v,h=>by obtain⟨t,e⟩:=Value.isInt_shape h;exact .inl ⟨i,t,rfl,e⟩| .inr x,v,h=>by obtain⟨t,e⟩:=Value.isStrOf_shape h;exact .inr ⟨x,t,rfl,e⟩
theorem zkp(i)(t):zf5 (.inl i) (.int i t)=true:=by simp[zf5,Value.isInt]
theorem zko(x)(t):zf5 (.inr x) (.str x t)=true:=by simp[zf5,Value.isStrOf]
theorem zrX(a b):decide ((Sum.inl a:Key)=Sum.inl b)=(a==b):=by by_cases e:a=b;subst e;simp;have h:¬(Sum.inl a:Key)=Sum.inl b:=fun q=>e (Sum.inl.inj q);rw[decide_eq_false h];exact(beq_eq_false_iff_ne.mpr e).symm
theorem zrT(a b):decide ((Sum.inr a:Key)=Sum.inr b)=decide (a=b):=by by_cases e:a=b;simp;have h:¬(Sum.inr a:Key)=Sum.inr b:=fun q=>e (Sum.inr.inj q);rw[decide_eq_false h,decide_eq_false e]
theorem zrW(a)(b):decide ((Sum.inl a:Key)=Sum.inr b)=false:=decide_eq_false (fun q=>by cases q)
theorem zrU(a)(b):decide ((Sum.inr a:Key)=Sum.inl b)=false:=decide_eq_false (fun q=>by cases q)
noncomputable def zat(prog:Program)(w:World):PySem.KeyKind prog w Key where
 is:=zf5
 hash:=keyH w
 inj:=fun v a b f d=>by rcases zaA f with⟨i,t,rfl,rfl⟩|⟨x,t,rfl,rfl⟩;rcases zaA d with⟨j,u,rfl,e⟩|⟨y,u,rfl,e⟩;injection e with c _;rw[c];exact nomatch e;rcases zaA d with⟨j,u,rfl,e⟩|⟨y,u,rfl,e⟩;exact nomatch e;injection e with c _;rw[c]
 byValue:=fun k v h=>by rcases zaA h with⟨i,t,rfl,rfl⟩|⟨x,t,rfl,rfl⟩<;>rfl
 pyHash:=fun hv h=>by rcases zaA hv with⟨i,t,rfl,rfl⟩|⟨x,t,rfl,rfl⟩;exact wpAny_pyHash_int h;exact wpAny_pyHash_str h
 eqBool:=fun g hv h=>by rcases zaA g with⟨i,t,rfl,rfl⟩|⟨x,t,rfl,rfl⟩;rcases zaA hv with⟨j,u,rfl,rfl⟩|⟨y,u,rfl,rfl⟩;rw[zrX]at h;exact wpAny_eqBool_int h;rw[zrW]at h;exact SeqAt.EqAt.int_str i t y u _ _ _ _ h;rcases zaA hv with⟨j,u,rfl,rfl⟩|⟨y,u,rfl,rfl⟩;rw[zrU]at h;exact SeqAt.EqAt.str_int x t j u _ _ _ _ h;rw[zrT]at h;exact wpAny_eqBool_str h
 «strs»:=fun k x t v h=>by
  rcases zaA h with⟨i,u,rfl,e⟩|⟨y,u,rfl,e⟩;exact nomatch e
  . injection e with c _;subst c;cases v<;>rfl
theorem ziG(prog)(w)(k)(v):(zat prog w).is k v=zf5 k v:=rfl
theorem zgS(prog)(w)(i)(t):(zat prog w).is (.inl i) (.int i t)=true:=zkp i t
theorem zgR(prog)(w)(x)(t):(zat prog w).is (.inr x) (.str x t)=true:=zko x t
set_option genInjectivity true in
inductive V where
 |non|bl (b:Bool)|int (i:Int)|str (x:Str)|byt (b:Array UInt8)|flt (b:UInt64)|ref (a:Addr)|ty (n:String)
 deriving DecidableEq
def RelV:V->Value->Prop
 |.non,u=>u=Value.none|.bl b,u=>u=Value.bool b|.int i,u=>∃t,u=Value.int i t|.str x,u=>∃t,u=Value.str x t|.byt b,u=>∃t,u=Value.bytes b t|.flt b,u=>∃t,u=Value.float b t|.ref a,u=>u=Value.ref a|.ty n,u=>u=Value.type n
abbrev Vals:List V->List Value->Prop:=Paired RelV
theorem Vals.length(r:Vals xs us):xs.length=us.length:=Paired.length r
theorem Vals.get:∀{xs:List V}{us:List Value}{i:Nat}{x:V},Vals xs us->xs[i]?=some x->∃u,us[i]?=some u/\RelV x u
 |_,_,_,_,.nil,e=>by simp at e|_,_,0,_,.cons r _,e=>by simp at e;subst e;exact⟨_,rfl,r⟩| _,_,i+1,x,.cons _ t,e=>by obtain⟨u,a,b⟩:=Vals.get t (by simpa using e);exact⟨u,by simpa using a,b⟩
theorem Vals.append:∀{xs ys:List V}{us a:List Value},Vals xs us->Vals ys a->Vals (xs++ys) (us++a)
 |_,_,_,_,.nil,s=>s|_,_,_,_,.cons r t,s=>.cons r (Vals.append t s)
theorem Vals.take:∀{xs:List V}{us:List Value}(n:Nat),Vals xs us->Vals (xs.take n) (us.take n)
 |_,_,0,_=>.nil|_,_,_+1,.nil=>.nil|_,_,n+1,.cons r t=>.cons r (Vals.take n t)
theorem Vals.drop:∀{xs:List V}{us:List Value}(n:Nat),Vals xs us->Vals (xs.drop n) (us.drop n)
 |_,_,0,r=>r|_,_,_+1,.nil=>.nil|_,_,n+1,.cons _ t=>Vals.drop n t
def RelO:Option V->Option Value->Prop
 |some v,some u=>RelV v u|none,none=>True|_,_=>False
def KV{a:Type}:List (a×V)->List (a×Value)->Prop:=Paired fun(p:a×V) (q:a×Value)=>p.1=q.1/\RelV p.2 q.2
noncomputable def kV:Key->V
 |.inl i=>.int i|.inr x=>.str x
inductive HO where
 |lst (xs:List V)
 |tup (xs:List V)
 |dK (kvs:List (Key×V))|dT (kvs:List (List Key×V))
 |set (S:Int->Bool) (n:Nat)
 |ins (C dx:Addr) (fs:List (Str×V))
 |own (x:Addr)
 |xd (fs:List (Str×V))
 |met (f x:Addr)
 |rng (lo hi:Int)
 |frz (o:Obj) (u:HO)
 |tbl (ps:Array Value)
 |ext (φ:Heap->Prop)
abbrev Hp:=Addr->Option HO
noncomputable def upd(H:Hp)(a:Addr)(o:HO):Hp:=fun b=>if b=a then some o else H b
theorem zag:upd H a o a=some o:=by unfold upd;rw[if_pos rfl]
theorem zae(h:b≠a):upd H a o b=H b:=by unfold upd;rw[if_neg h]
theorem zjb:upd (upd H a o) a u=upd H a u:=by funext b;unfold upd;split<;>rfl
theorem ne_of{H:Hp}(h:H a=some o)(h':H b=some u)(d:o≠u):a≠b:=by intro e;subst e;rw[h]at h';exact d (Option.some.inj h')
theorem zaj{H:Hp}(h:H a=some o)(h':H b=none):a≠b:=by intro e;subst e;rw[h]at h';cases h'
section
variable(P:Program)(w:World)
def ObjOk(H:Hp)(h:Heap)(a:Addr):HO->Prop
 |.lst d=>d.length<=sizeLine/\∃(b:List Value) (n:Nat),Vals d b/\h.get? a=some {cls:=.type "list",data:=.seq b.toArray n}|.tup d=>d.length<=sizeLine/\∃b:List Value,Vals d b/\IsTup h a b.toArray|.dK c=>c.length<=sizeLine/\(a==sysModules)=false/\∃k,KV c k/\h.DictOf (zat P w) a k
 |.dT c=>c.length<=sizeLine/\(a==sysModules)=false/\∃d:List (List Key×Addr×Value),
  Paired (fun(p:List Key×V) (q:List Key×Addr×Value)=>p.1=q.1/\H q.2.1=some (.tup (p.1.map kV))/\RelV p.2 q.2.2) c d/\
  ∃o l s,h.get? a=some o/\o.ExactDict/\o.data=.dict l s/\l.toList=d.map (entryOfKey (tupleKind (zat P w)))/\(d.map (·.1)).Nodup
 |.set S n=>h.SetOf (intKind P w) a S n
 |.ins C i g=>H i=some (.own a)/\g.length<=1000/\i≠a/\h.get? a=some (instObj C i)/\
  ∃e,h.Ns1 i e/\(∀f,RelO (g.lookup f) (e f))/\PySem.Within e (g.map (·.1))
 |.own _=>∃o,h.get? a=some o|.xd g=>∃e,h.Ns1 a e/\∀f,RelO (g.lookup f) (e f)|.rng lo y=>∃t u v,h.get? a=some {cls:=.type "range",data:=.fields #[.int lo t,.int y u,.int 1 v]}|.frz o u=>h.get? a=some o/\ObjOk H h a u|.tbl z=>h.get? a=some {cls:=.none,data:=.fields z}|.met f x=>h.get? a=some (methodObj (.ref f) (.ref x))|.ext j=>j h/\(∃o,h.get? a=some o)/\∀m r:Heap,j m->(∀o,m.get? a=some o->r.get? a=some o)->j r
def HOk(H:Hp)(h:Heap):Prop:=∀a o,H a=some o->ObjOk P w H h a o
end
section
variable{P:Program}{w:World}{H H':Hp}{h h':Heap}{a:Addr}{o:HO}
theorem ObjOk.lt(x:ObjOk P w H h a o):a<h.objs.size:=by cases o with|lst c=>obtain⟨_,_,_,_,e⟩:=x;exact Heap.lt_size e|tup c=>obtain⟨_,_,_,p⟩:=x;exact p.lt|dK b=>obtain⟨_,_,_,_,o,_,_,e,_⟩:=x;exact Heap.lt_size e|dT b=>obtain⟨_,_,_,_,o,_,_,e,_⟩:=x;exact Heap.lt_size e|set S n=>obtain⟨o,_,_,_,e,_⟩:=x;exact Heap.lt_size e|ins C g d=>obtain⟨_,_,_,e,_⟩:=x;exact Heap.lt_size e|own y=>obtain⟨_,e⟩:=x;exact Heap.lt_size e|xd d=>obtain⟨_,⟨_,_,_,e,_⟩,_⟩:=x;exact Heap.lt_size e|rng lo i=>obtain⟨_,_,_,e⟩:=x;exact Heap.lt_size e|frz j u=>obtain⟨e,_⟩:=x;exact Heap.lt_size e|tbl k=>exact Heap.lt_size (show h.get? a=some _ from x)|met f y=>exact Heap.lt_size (show h.get? a=some _ from x)|ext l=>obtain⟨_,⟨_,e⟩,_⟩:=x;exact Heap.lt_size e
theorem Paired.mapP:∀{c:List e}{d:List g},Paired F c d->(∀a b,F a b->G a b)->Paired G c d
 |_,_,.nil,_=>.nil|_,_,.cons r t,f=>.cons (f _ _ r) (Paired.mapP t f)
theorem ObjOk.stay(x:ObjOk P w H h a o)(k:∀b u,(b=a\/H b=some (.own a))->h.get? b=some u->h'.get? b=some u)
  (E:∀b,H b=some (.own a)->H' b=some (.own a)) (G:∀b xs,H b=some (.tup xs)->H' b=some (.tup xs)):ObjOk P w H' h' a o:=by
 induction o with|lst xs=>obtain⟨z,l,n,r,e⟩:=x;exact⟨z,l,n,r,k _ _ (.inl rfl) e⟩|tup xs=>obtain⟨z,l,r,g,e,c⟩:=x;exact⟨z,l,r,g,k _ _ (.inl rfl) e,c⟩|dK m=>obtain⟨z,y,I,r,g,i,j,e,c⟩:=x;exact⟨z,y,I,r,g,i,j,k _ _ (.inl rfl) e,c⟩| dT m=>obtain⟨z,y,xs,r,g,i,j,e,c⟩:=x;exact⟨z,y,xs,Paired.mapP r fun p q z=>⟨z.1,G _ _ z.2.1,z.2.2⟩,g,i,j,k _ _ (.inl rfl) e,c⟩|set S n=>obtain⟨g,i,j,t,e,c⟩:=x;exact⟨g,i,j,t,k _ _ (.inl rfl) e,c⟩| ins C O J=>obtain⟨d,z,L,e,s,⟨A,i,j,M,c⟩,r⟩:=x;exact⟨E _ d,z,L,k _ _ (.inl rfl) e,s,⟨A,i,j,k _ _ (.inr d) M,c⟩,r⟩|own y=>obtain⟨g,e⟩:=x;exact⟨g,k _ _ (.inl rfl) e⟩|xd J=>obtain⟨s,⟨A,i,j,e,c⟩,r⟩:=x;exact⟨s,⟨A,i,j,k _ _ (.inl rfl) e,c⟩,r⟩|rng lo Q=>obtain⟨t,u,v,e⟩:=x;exact⟨t,u,v,k _ _ (.inl rfl) e⟩|frz g u N=>obtain⟨e,q⟩:=x;exact⟨k _ _ (.inl rfl) e,N q⟩| tbl B=>have e:=x;exact k a _ (.inl rfl) e| met f y=>have e:=x;exact k a _ (.inl rfl) e|ext T=>obtain⟨p,⟨o,e⟩,st⟩:=x;exact⟨st _ _ p fun o q=>k _ _ (.inl rfl) q,⟨o,k _ _ (.inl rfl) e⟩,st⟩
theorem HOk.lt(x:HOk P w H h)(e:H a=some o):a<h.objs.size:=(x a o e).lt
theorem HOk.fresh(x:HOk P w H h)(e:h.objs.size<=a):H a=none:=by cases q:H a with|none=>rfl|some u=>exact absurd (lt_of_lt_of_le (x.lt q) e) (lt_irrefl _)
theorem HOk.kept(x:HOk P w H h)(k:∀b u,h.get? b=some u->h'.get? b=some u):HOk P w H h':=fun a o e=>(x a o e).stay (fun b u _ q=>k b u q) (fun _ q=>q) fun _ _ q=>q
theorem HOk.laid(x:HOk P w H h)(k:∀b u,h.get? b=some u->h'.get? b=some u)(g:h.objs.size<=a)(new:ObjOk P w (upd H a o) h' a o):HOk P w (upd H a o) h':=fun b u e=>by have d:=x.fresh g;by_cases f:b=a;subst f;rw[zag]at e;cases e;exact new;rw[zae f]at e;exact(x b u e).stay (fun c v _ q=>k c v q) (fun c q=>by rw[zae (zaj q d)];exact q) fun c i q=>by rw[zae (zaj q d)];exact q
end
def Rd(H:Hp)(a:Addr)(u:HO):Prop:=H a=some u\/∃o,H a=some (.frz o u)
theorem Rd.of(h:H a=some u):Rd H a u:=.inl h
theorem Rd.ok(r:Rd H a u)(x:HOk P w H h):ObjOk P w H h a u:=by rcases r with r|⟨o,r⟩;exact x a u r;obtain⟨_,q⟩:=x a _ r;exact q
def Mut:Option HO->Prop
 |some (.lst _)=>True|some (.dK _)=>True|some (.dT _)=>True|some (.set _ _)=>True|some (.ins _ _ _)=>True|some (.ext _)=>True|_=>False
section
variable{P:Program}{w:World}{H:Hp}{h h':Heap}{x e:Addr}{o':HO}
theorem HOk.write(ok:HOk P w H h)(g:Mut (H x))(n:e=x\/H e=some (.own x))(k:∀b u,b≠e->h.get? b=some u->h'.get? b=some u)(m:∃u,h'.get? e=some u)
  (new:ObjOk P w (upd H x o') h' x o'):HOk P w (upd H x o') h':=fun b u q=>by
 have d:∀c y,H c=some (.own y)->c≠x:=fun c y r z=>by subst z;rw[r]at g;exact g
 have f:∀c i,H c=some (.tup i)->c≠x:=fun c i r z=>by subst z;rw[r]at g;exact g
 by_cases j:b=x;subst j;rw[zag]at q;cases q;exact new;rw[zae j]at q;by_cases a:b=e;have o:H b=some (.own x):=by rcases n with z|z;exact absurd (a.trans z) j;rw[a];exact z
 rw[q]at o;cases o;obtain⟨v,hv⟩:=m;exact⟨v,by rw[a];exact hv⟩;refine(ok b u q).stay (fun c v l r=>k c v ?_ r) (fun c r=>by rw[zae (d c b r)];exact r) fun c i r=>by rw[zae (f c i r)];exact r
 rcases l with rfl|l;exact a;rintro rfl;rcases n with z|z;exact d c b l z;rw[l]at z;cases z;exact j rfl
end
structure Un(fs ex:List Addr)(H H':Hp)(h h':Heap):Prop where
 keep:∀b o,h.get? b=some o->H b=none->b∉fs->b∉ex->h'.get? b=some o
 slot:∀b o,h.get? b=some o->H b=none->b∈fs->b∉ex->∃sl,h'.get? b=some {o with slots:=sl}
 free:∀b o,h.get? b=some o->H b=none->b∉ex->H' b=none
 there:∀b o,h.get? b=some o->b∉ex->∃o',h'.get? b=some o'
 tups:∀b xs,H b=some (.tup xs)->H' b=some (.tup xs)
 frzs:∀b o u,H b=some (.frz o u)->H' b=some (.frz o u)
 tbls:∀b ps,H b=some (.tbl ps)->∃more,H' b=some (.tbl (ps++more))
section
variable{fs fs' ex ex':List Addr}{H H1 H2:Hp}{h h1 h2 h':Heap}{a x e:Addr}{o:HO}
theorem Un.any(u:Un fs ex H H1 h h1)(q:h.get? b=some ob)(n:H b=none)(c:b∉ex):∃f,h1.get? b=some {ob with slots:=f}:=by by_cases d:b∈fs;exact u.slot b ob q n d c;exact⟨ob.slots,u.keep b ob q n d c⟩
theorem Un.kept(k:∀b u,h.get? b=some u->h'.get? b=some u):Un fs ex H H h h':=⟨fun b c q _ _ _=>k b c q,fun b c q _ _ _=>⟨c.slots,k b c q⟩,fun _ _ _ n _=>n,fun b c q _=>⟨c,k b c q⟩,fun _ _ q=>q,fun _ _ _ q=>q,fun _ d q=>⟨#[],by rw[q];simp⟩⟩
theorem Un.refl:Un fs ex H H h h:=Un.kept fun _ _ q=>q
theorem Un.laid(k:∀b u,h.get? b=some u->h'.get? b=some u)(d:h.objs.size<=a)(c:H a=none):Un fs ex H (upd H a o) h h' where
 keep:=fun b u q _ _ _=>k b u q
 slot:=fun b u q _ _ _=>⟨u.slots,k b u q⟩
 free:=fun b u q n _=>by rw[zae (ne_of_lt (lt_of_lt_of_le (Heap.lt_size q) d))];exact n
 there:=fun b u q _=>⟨u,k b u q⟩
 tups:=fun b f q=>by rw[zae (zaj q c)];exact q
 frzs:=fun b u f q=>by rw[zae (zaj q c)];exact q
 tbls:=fun b g q=>⟨#[],by rw[zae (zaj q c),q];simp⟩
theorem Un.write(d:Mut (H x))(l:e=x\/H e=some (.own x))(k:∀b u,b≠e->h.get? b=some u->h'.get? b=some u)(f:∃u,h'.get? e=some u):Un fs ex H (upd H x o) h h':=by
 have i:∀b,H b=none->b≠x:=fun b n z=>by subst z;rw[n]at d;exact d
 have j:∀b,H b=none->b≠e:=fun b n z=>by subst z;rcases l with r|r;exact i b n r;rw[n]at r;cases r
 have g:∀b u,H b=some u->¬Mut (some u)->b≠x:=fun b u q m z=>by subst z;rw[q]at d;exact m d
 refine⟨fun b u q n _ _=>k b u (j b n) q,fun b u q n _ _=>⟨u.slots,k b u (j b n) q⟩,fun b u q n _=>by rw[zae (i b n)];exact n,fun b u q _=>?_,
  fun b p q=>by rw[zae (g b _ q fun z=>z)];exact q,fun b u p q=>by rw[zae (g b _ q fun z=>z)];exact q,fun b s q=>⟨#[],by rw[zae (g b _ q fun z=>z),q];simp⟩⟩
 by_cases c:b=e;subst c;exact f;exact⟨u,k b u c q⟩
end
noncomputable def trk(h:Heap)(H:Hp):List Addr:=(List.range h.objs.size).filter fun a=>(H a).isSome
noncomputable def hidT(h:Heap)(H:Hp):Heap:=PySem.W.hideAll h (trk h H)
theorem zkB(h)(H):(hidT h H).objs.size=h.objs.size:=PySem.W.hideAll_size _ _
theorem zmE(e:h.get? b=some o)(n:H b=none):(hidT h H).get? b=some o:=PySem.W.hideAll_get _ e fun a=>by have q:=(List.mem_filter.mp a).2;rw[n]at q;simp at q
theorem zph(e:(hidT h H).get? b=some o):h.get? b=some o/\H b=none:=by have a:=PySem.W.of_hideAll (trk h H) e;refine⟨a,?_⟩;cases q:H b with|none=>rfl| some x=>have c:b∈trk h H:=List.mem_filter.mpr ⟨mem_range.mpr (Heap.lt_size a),by simp[q]⟩;have z:(hidT h H).get? b=none:=PySem.W.hideAll_none (trk h H) c;rw[z]at e;cases e
structure Mod(K:PySem.W.Frag)(mg:Str->Option Value)(base:Heap):Prop where
 kin:K.In base
 glob:base.Ns mainGlobals mg
 blt:∃mb,base.Ns builtinsNs mb/\∀x:Str,x≠"__name__"->mb x=bootBuiltins x
 nolimit:base.NoLimit
structure Cx where
 prog:Program
 w:World
 K:PySem.W.Frag
 mg:Str->Option Value
 base:Heap
 A:Around
 N:List Str
 s₀:Shared
 H₀:Hp
 env:Env
 outer:List Env
 stack:List Env
 ex:List Addr
 fn:Str->Bool
 calm:Bool
 pn:List (Addr×Obj)
 xe:Value->Shared->Prop
noncomputable def frs(l:List Env):List Addr:=l.filterMap (·.frame)
noncomputable abbrev Cx.fs(X:Cx):List Addr:=frs X.outer
def Vis(a:Scope)(x:Str):Prop:=a.names.lookup x=some .local\/a.names.lookup x=some .cell\/a.names.lookup x=some .free
def Loc(a:Scope)(x:Str):Prop:=a.names.lookup x=some .local\/a.names.lookup x=some .cell
def Look(env:Env)(h:Heap)(m:Str->Option Value)(x:Str)(u:Value):Prop:=(env.kindOf x=some .local/\m x=some u)\/((env.kindOf x=some .cell\/env.kindOf x=some .free)/\∃c,env.cells.lookup x=some c/\h.IsCell c (some u))
structure Cx.Ok(X:Cx):Prop where
 mod:Mod X.K X.mg X.base
 kind:X.env.scope.kind=.function
 glob:X.env.globals=mainGlobals
 blt:X.env.builtins=builtinsNs
 above:X.s₀.heap.objs.size<=X.env.locals
 inj:∀x y c,X.env.cells.lookup x=some c->X.env.cells.lookup y=some c->x=y
 has:∀x,(X.env.kindOf x=some .cell\/X.env.kindOf x=some .free)->∃c,X.env.cells.lookup x=some c
 cab:∀x c,X.fn x=true->X.env.cells.lookup x=some c->X.s₀.heap.objs.size<=c
 hd:X.calm=true->X.A.handled=none
 frames:X.A.frames=some X.stack
 stk:X.stack=X.outer\/(X.stack=X.env::X.outer/\X.env.frame=some X.env.locals)
 exf:∀b∈X.ex,b≠X.env.locals/\∀x c,X.env.cells.lookup x=some c->c≠b
 bs:∀b o,X.base.get? b=some o->X.s₀.heap.get? b=some o/\X.H₀ b=none
 bsz:X.base.objs.size<=X.s₀.heap.objs.size
 noex:∀b o,X.base.get? b=some o->b∉X.ex
 exfs:∀b∈X.ex,b∉X.fs
 funs:X.s₀.heap.FunFrames X.base X.outer
 frf:∀b∈X.fs,X.H₀ b=none
structure Inv(X:Cx)(pins:List (Addr×Obj))(σ:List (Option V))(H:Hp)(s:Shared):Prop where
 ok:X.Ok
 os:s.os=X.s₀.os
 bare:AllBare s.gens
 base:Un X.fs X.ex X.H₀ H X.s₀.heap s.heap
 loc:∃m,s.heap.Ns X.env.locals m/\∀(i:Nat)(x:Str)(v:V),X.N[i]?=some x->σ[i]?=some (some v)->Vis X.env.scope x->∃u,RelV v u/\Look X.env s.heap m x u
 cell:∀x c,X.env.cells.lookup x=some c->∃v,s.heap.IsCell c v
 free:H X.env.locals=none
 freeC:∀x c,X.env.cells.lookup x=some c->H c=none
 pin:∀p∈X.pn++pins,s.heap.get? p.1=some p.2/\H p.1=none/\p.1≠X.env.locals/\p.1∉X.fs/\∀v,p.2.data≠.cell v
 hok:HOk X.prog X.w H s.heap
 len:σ.length=X.N.length
section
variable{X:Cx}{pins:List (Addr×Obj)}{σ:List (Option V)}{H H':Hp}{s:Shared}{h':Heap}
theorem Cx.Ok.nofr(ok:X.Ok)(e:X.base.get? b=some o):b∉X.fs:=fun a=>by have:=(ok.funs.mem a).1;rw[e]at this;cases this
theorem Inv.bs(I:Inv X pins σ H s):∀b o,X.base.get? b=some o->s.heap.get? b=some o/\H b=none:=fun b o e=>⟨I.base.keep b o (I.ok.bs b o e).1 (I.ok.bs b o e).2 (I.ok.nofr e) (I.ok.noex b o e),I.base.free b o (I.ok.bs b o e).1 (I.ok.bs b o e).2 (I.ok.noex b o e)⟩
theorem Inv.bk(I:Inv X pins σ H s):∀b o,X.base.get? b=some o->s.heap.get? b=some o:=fun b o e=>(I.bs b o e).1
theorem Inv.mod(I:Inv X pins σ H s):Mod X.K X.mg X.base:=I.ok.mod
theorem Inv.kIn(I:Inv X pins σ H s):X.K.In s.heap:=I.ok.mod.kin.keeps I.bk
theorem Inv.lt(I:Inv X pins σ H s):X.env.locals<s.heap.objs.size:=let ⟨_,a,_⟩:=I.loc;a.lt
theorem Inv.sz(I:Inv X pins σ H s):X.s₀.heap.objs.size<=s.heap.objs.size:=le_trans I.ok.above (le_of_lt I.lt)
theorem Inv.nofs(I:Inv X pins σ H s)(h:s.heap.objs.size<=a):a∉X.fs:=fun b=>by obtain⟨_,o,c,_⟩:=I.ok.funs.mem b;exact absurd (lt_of_lt_of_le (Heap.lt_size c) (le_trans I.sz h)) (lt_irrefl _)
theorem Inv.cne(I:Inv X pins σ H s):∀x c,X.env.cells.lookup x=some c->c≠X.env.locals:=fun x c e z=>by obtain⟨v,o,d,f⟩:=I.cell x c e;obtain⟨m,⟨g,h,i,a,b,_⟩,_⟩:=I.loc;rw[z,a]at d;cases d;rw[b]at f;cases f
theorem Inv.funs(I:Inv X pins σ H s):s.heap.FunFrames X.base X.outer:=by
 have a:∀(l:List Env),(∀b∈frs l,b∈X.fs)->X.s₀.heap.FunFrames X.base l->s.heap.FunFrames X.base l:=by intro l;induction l with|nil=>intro _ _;trivial| cons h r i=>intro g j;obtain⟨k,⟨L,o,c,m,n,p⟩,q⟩:=j;have d:=g L (by unfold frs;rw[List.filterMap_cons,c];exact mem_cons_self);obtain⟨t,e⟩:=I.base.slot L o n (I.ok.frf L d) d fun z=>I.ok.exfs L z d;exact⟨k,⟨L,_,c,m,e,p⟩,i (fun b f=>g b (by unfold frs;rw[List.filterMap_cons,c];exact mem_cons_of_mem _ f)) q⟩
 exact a X.outer (fun _ f=>f) I.ok.funs
theorem Inv.stack(I:Inv X pins σ H s):s.heap.FunFrames X.base X.stack:=by rcases I.ok.stk with e|⟨e,a⟩;rw[e];exact I.funs;rw[e];obtain⟨m,b,_⟩:=I.loc;refine .cons (by rw[I.ok.kind];decide) a b ?_ I.funs;exact Heap.get?_none_of_le (le_trans I.ok.bsz I.ok.above)
theorem Inv.stkSub(I:Inv X pins σ H s):∀b∈frs X.stack,b∈X.env.locals::X.fs:=fun b a=>by rcases I.ok.stk with e|⟨e,c⟩;rw[e]at a;exact mem_cons_of_mem _ a;rw[e]at a;unfold frs at a;rw[List.filterMap_cons,c]at a;exact a
theorem Inv.stkFree(I:Inv X pins σ H s):∀b∈frs X.stack,H b=none:=fun b a=>by rcases mem_cons.mp (I.stkSub b a) with e|a;rw[e];exact I.free;obtain⟨_,o,c,_⟩:=I.ok.funs.mem a;exact I.base.free b o c (I.ok.frf b a) fun z=>I.ok.exfs b z a
theorem Inv.step{ch:List Addr}(I:Inv X pins σ H s)(f:∀b∈ch,(b∈X.ex\/X.s₀.heap.objs.size<=b)/\b≠X.env.locals/\(∀x c,X.env.cells.lookup x=some c->c≠b)/\∀p∈X.pn++pins,p.1≠b)(g:∀b o,b≠X.env.locals->b∉X.fs->b∉ch->s.heap.get? b=some o->H b=none->h'.get? b=some o)(A:∀b o,b≠X.env.locals->b∈X.fs->b∉ch->s.heap.get? b=some o->H b=none->∃T,h'.get? b=some {o with slots:=T})(free:∀b o,b∉ch->s.heap.get? b=some o->H b=none->H' b=none)(B:∀b o,b∉ch->s.heap.get? b=some o->∃G,h'.get? b=some G)(J:∀b xs,H b=some (.tup xs)->H' b=some (.tup xs))(L:∀b o u,H b=some (.frz o u)->H' b=some (.frz o u))(M:∀b ps,H b=some (.tbl ps)->∃N,H' b=some (.tbl (ps++N)))(ns:∀m,s.heap.Ns X.env.locals m->h'.Ns X.env.locals m)(hok:HOk X.prog X.w H' h')(hg:AllBare g'):
  Inv X pins σ H' {s with heap:=h',gens:=g',drawn:=d',toks:=t'}:=by
 have O:∀b o,X.s₀.heap.get? b=some o->b≠X.env.locals:=fun b o e=>ne_of_lt (lt_of_lt_of_le (Heap.lt_size e) I.ok.above);have t:∀b o,X.s₀.heap.get? b=some o->b∉X.ex->b∉ch:=fun b o e a C=>by rcases(f b C).1 with z|z;exact a z;exact absurd (lt_of_lt_of_le (Heap.lt_size e) z) (lt_irrefl _)
 have h:∀x c,X.env.cells.lookup x=some c->∀v,s.heap.IsCell c v->h'.IsCell c v:=fun x c e v y=>by obtain⟨o,E,U⟩:=y;have j:c∉ch:=fun z=>(f c z).2.2.1 x c e rfl;by_cases hc:c∈X.fs;obtain⟨T,q⟩:=A c o (I.cne x c e) hc j E (I.freeC x c e);exact⟨_,q,U⟩;exact⟨o,g c o (I.cne x c e) hc j E (I.freeC x c e),U⟩
 refine⟨I.ok,I.os,hg,⟨fun b o e n C a=>?_,fun b o e n C a=>?_,fun b o e n a=>?_,fun b o e a=>?_,fun b xs e=>J b xs (I.base.tups b xs e),fun b o xs e=>L b o xs (I.base.frzs b o xs e),fun b ps e=>?_⟩,?_,fun x c e=>?_,?_,fun x c e=>?_,fun p hp=>?_,hok,I.len⟩;exact g b o (O b o e) C (t b o e a) (I.base.keep b o e n C a) (I.base.free b o e n a);obtain⟨T,w⟩:=I.base.slot b o e n C a;obtain⟨Y,Q⟩:=A b _ (O b o e) C (t b o e a) w (I.base.free b o e n a);exact⟨Y,Q⟩;obtain⟨G,w⟩:=I.base.there b o e a;exact free b G (t b o e a) w (I.base.free b o e n a);obtain⟨G,w⟩:=I.base.there b o e a;exact B b G (t b o e a) w;obtain⟨m1,w⟩:=I.base.tbls b ps e;obtain⟨m2,Q⟩:=M b _ w;exact⟨m1++m2,by rw[Q,Array.append_assoc]⟩;obtain⟨m,hn,hl⟩:=I.loc;refine⟨m,ns m hn,fun i x v w Q e3=>?_⟩;obtain⟨u,r,l⟩:=hl i x v w Q e3;refine⟨u,r,?_⟩;rcases l with l|⟨k,c,e,z⟩;exact .inl l;exact .inr ⟨k,c,e,h x c e _ z⟩;obtain⟨v,z⟩:=I.cell x c e;exact⟨v,h x c e v z⟩;obtain⟨m,⟨o,_,_,E,_⟩,_⟩:=I.loc;exact free _ o (fun z=>(f _ z).2.1 rfl) E I.free;obtain⟨v,o,E,U⟩:=I.cell x c e;exact free c o (fun z=>(f c z).2.2.1 x c e rfl) E (I.freeC x c e);obtain⟨e,n,ne,nf,d⟩:=I.pin p hp;have j:p.1∉ch:=fun z=>(f p.1 z).2.2.2 p hp rfl;exact⟨g p.1 p.2 ne nf j e n,free p.1 p.2 j e n,ne,nf,d⟩
theorem Inv.un(I:Inv X pins σ H s)(u:Un X.fs [] H H' s.heap h')(hok:HOk X.prog X.w H' h'):Inv X pins σ H' {s with heap:=h',toks:=t'}:=by obtain⟨m,⟨o,k,l,g,r⟩,_⟩:=id I.loc;obtain⟨p,h⟩:=u.any g I.free (by simp);exact I.step (ch:=[]) (fun _ z=>by cases z) (fun b o _ c _ e n=>u.keep b o e n c (by simp)) (fun b o _ c _ e n=>u.slot b o e n c (by simp)) (fun b o _ e n=>u.free b o e n (by simp)) (fun b o _ e=>u.there b o e (by simp)) u.tups u.frzs u.tbls (fun q i=>by obtain⟨t,d,f,a,j⟩:=i;rw[g]at a;cases a;exact⟨_,d,f,h,j⟩) hok I.bare
theorem Inv.call(I:Inv X pins σ H s)(u:Un (frs X.stack) ch H H' s.heap h')(hok:HOk X.prog X.w H' h')(k:AllBare g')(d:∀b∈ch,(b∈X.ex\/X.s₀.heap.objs.size<=b)/\b≠X.env.locals/\(∀x c,X.env.cells.lookup x=some c->c≠b)/\∀p∈X.pn++pins,p.1≠b):
  Inv X pins σ H' {s with heap:=h',gens:=g',drawn:=d',toks:=t'}:=by
 obtain⟨m,⟨o,v,w,j,r⟩,_⟩:=id I.loc;obtain⟨y,g⟩:=u.any j I.free fun z=>(d _ z).2.1 rfl;exact I.step d (fun b o g l a e n=>u.keep b o e n (fun z=>(mem_cons.mp (I.stkSub b z)).elim g l) a) (fun b o _ _ a e n=>u.any e n a) (fun b o a e n=>u.free b o e n a) (fun b o a e=>u.there b o e a) u.tups u.frzs u.tbls (fun A q=>by obtain⟨B,h,i,f,t⟩:=q;rw[j]at f;cases f;exact⟨_,h,i,g,t⟩) hok k
theorem Inv.turned(I:Inv X pins σ H s)(k:∀b o,b≠it->s.heap.get? b=some o->h'.get? b=some o)(g:H it=none)(f:it≠X.env.locals)(h:it∈X.ex\/X.s₀.heap.objs.size<=it)(i:∀x c,X.env.cells.lookup x=some c->c≠it)(j:∀p∈X.pn++pins,p.1≠it):Inv X pins σ H {s with heap:=h',toks:=t'}:=by
 have d:∀b u,H b=some u->b≠it:=fun b u e z=>by rw[z,g]at e;cases e
 refine I.step (ch:=[it]) (fun b l=>?_) (fun b o _ _ a e _=>k b o (fun z=>a (by simp[z])) e) (fun b o _ _ a e _=>⟨o.slots,k b o (fun z=>a (by simp[z])) e⟩) (fun _ _ _ _ n=>n)
  (fun b o a e=>⟨o,k b o (fun z=>a (by simp[z])) e⟩) (fun _ _ e=>e) (fun _ _ _ e=>e) (fun b B e=>⟨#[],by rw[e];simp⟩) (fun m t=>?_) (fun b u e=>?_) I.bare
 have e:b=it:=by simpa using l
 subst e;exact⟨h,f,i,j⟩;obtain⟨o,w,y,A,r⟩:=t;exact⟨o,w,y,k _ o (Ne.symm f) A,r⟩;refine(I.hok b u e).stay (fun c v a q=>k c v ?_ q) (fun _ q=>q) fun _ _ q=>q;rcases a with z|z;rw[z];exact d b u e;exact d c _ z
theorem Inv.tok(I:Inv X pins σ H s)(t):Inv X pins σ H {s with toks:=t}:=I.un Un.refl I.hok
theorem Inv.kept(I:Inv X pins σ H s)(k:∀b u,s.heap.get? b=some u->h'.get? b=some u):Inv X pins σ H {s with heap:=h',toks:=t'}:=I.un (Un.kept k) (I.hok.kept k)
theorem Inv.laid(I:Inv X pins σ H s)(k:∀b u,s.heap.get? b=some u->h'.get? b=some u)(c:s.heap.objs.size<=a)(new:ObjOk X.prog X.w (upd H a o) h' a o):
 Inv X pins σ (upd H a o) {s with heap:=h',toks:=t'}:=I.un (Un.laid k c (I.hok.fresh c)) (I.hok.laid k c new)
theorem Inv.write(I:Inv X pins σ H s)(c:Mut (H x))(d:e=x\/H e=some (.own x))(k:∀b u,b≠e->s.heap.get? b=some u->h'.get? b=some u)(a:∃u,h'.get? e=some u)(new:ObjOk X.prog X.w (upd H x o) h' x o):Inv X pins σ (upd H x o) {s with heap:=h',toks:=t'}:=I.un (Un.write c d k a) (I.hok.write c d k a new)
theorem Inv.pins_of(I:Inv X pins σ H s)(h:∀p∈a,s.heap.get? p.1=some p.2/\H p.1=none/\p.1≠X.env.locals/\p.1∉X.fs/\∀v,p.2.data≠.cell v):Inv X a σ H s:=⟨I.ok,I.os,I.bare,I.base,I.loc,I.cell,I.free,I.freeC,fun p b=>(mem_append.mp b).elim (fun z=>I.pin p (mem_append_left _ z)) (h p),I.hok,I.len⟩
theorem zhL{N:List Str}(c:N.Nodup){i j:Nat}(a:N[i]?=some x)(b:N[j]?=some x):i=j:=by obtain⟨f,d⟩:=List.getElem?_eq_some_iff.mp a;obtain⟨g,e⟩:=List.getElem?_eq_some_iff.mp b;exact(List.getElem_inj c).mp (d.trans e.symm)
theorem zfu(I:Inv X pins σ H s)(hN:X.N.Nodup)(hi:X.N[i]?=some x)(w:Loc X.env.scope x)(r:RelV v u)(h:∀s',Inv X pins (σ.set i (some v)) H s'->(∃a,Heap.SameBut a s.heap s'.heap/\(a=X.env.locals\/X.env.cells.lookup x=some a))->Q () s')(hf:X.fn x=true\/X.env.scope.names.lookup x=some .local:=by first|exact .inl rfl|exact .inr rfl|assumption):wpAny M A (storeName X.env x u) Q E s:=by
 obtain⟨m,hn,hl⟩:=id I.loc;have U:(X.env.scope.kind==.class||(X.env.scope.kind==.module&&X.env.locals != X.env.globals))=false:=by rw[I.ok.kind];rfl
 have G:i<σ.length:=by rw[I.len];exact(List.getElem?_eq_some_iff.mp hi).1
 have L:=I.cne;have g:∀{a:Addr}{h':Heap},(∃o,s.heap.get? a=some o/\H a=none)->Heap.SameBut a s.heap h'->HOk X.prog X.w H h':=fun {a h'} ha f b ob e=>by obtain⟨_,_,B⟩:=ha;refine(I.hok b ob e).stay (fun c w' t q=>(f.2 c ?_).trans q) (fun _ q=>q) fun _ _ q=>q;rintro rfl;rcases t with rfl|t;rw[B]at e;cases e;rw[B]at t;cases t
 rcases w with J|J;refine wpAny_storeName_local J hn (fun h' hn' f=>?_) U;obtain⟨oL,_,_,hoL,_⟩:=id hn;refine h _ ⟨I.ok,I.os,I.bare,⟨fun b o e n N w=>?_,fun b o e n N w=>?_,I.base.free,fun b o e w=>?_,I.base.tups,I.base.frzs,I.base.tbls⟩,⟨_,hn',fun j y v' l C e3=>?_⟩,fun y c e=>?_,I.free,I.freeC,fun p hp=>?_,g ⟨oL,hoL,I.free⟩ f,by simpa using I.len⟩ ⟨_,f,.inl rfl⟩;exact(f.2 b (ne_of_lt (lt_of_lt_of_le (Heap.lt_size e) I.ok.above))).trans (I.base.keep b o e n N w);obtain⟨sl,l⟩:=I.base.slot b o e n N w;exact⟨sl,(f.2 b (ne_of_lt (lt_of_lt_of_le (Heap.lt_size e) I.ok.above))).trans l⟩;obtain⟨o',l⟩:=I.base.there b o e w;exact⟨o',(f.2 b (ne_of_lt (lt_of_lt_of_le (Heap.lt_size e) I.ok.above))).trans l⟩;by_cases O:j=i;subst O;rw[hi]at l;cases l;rw[getElem?_set_self G]at C;cases C;exact⟨u,r,.inl ⟨J,by simp⟩⟩;rw[getElem?_set_ne (Ne.symm O)]at C;obtain⟨u',r',q⟩:=hl j y v' l C e3;refine⟨u',r',?_⟩;rcases q with⟨k,e⟩|⟨k,c,e,z⟩;refine .inl ⟨k,?_⟩;have:y≠x:=fun e=>O (zhL hN l (e▸hi));simp[this,e];exact .inr ⟨k,c,e,z.sameBut f (L y c e)⟩;obtain⟨w',z⟩:=I.cell y c e;exact⟨w',z.sameBut f (L y c e)⟩;obtain⟨e,n,ne,nf,d⟩:=I.pin p hp;exact⟨(f.2 p.1 ne).trans e,n,ne,nf,d⟩;have T:X.fn x=true:=by rcases hf with z|z;exact z;rw[z]at J;cases J
 obtain⟨c,t⟩:=I.ok.has x (.inl J);obtain⟨w',z⟩:=I.cell x c t;refine wpAny_storeName_cell I.ok.kind J t z (fun h' Y f=>?_);obtain⟨oc,hoc,hocd⟩:=id z;refine h {s with heap:=h'} ⟨I.ok,I.os,I.bare,⟨fun b o e n N w=>?_,fun b o e n N w=>?_,I.base.free,fun b o e w=>?_,I.base.tups,I.base.frzs,I.base.tbls⟩,⟨m,hn.sameBut f (Ne.symm (L x c t)),fun j y v' l C e3=>?_⟩,fun y c' e=>?_,I.free,I.freeC,fun p hp=>?_,g ⟨oc,hoc,I.freeC x c t⟩ f,by simpa using I.len⟩ ⟨c,f,.inr t⟩;exact(f.2 b (ne_of_lt (lt_of_lt_of_le (Heap.lt_size e) (I.ok.cab x c T t)))).trans (I.base.keep b o e n N w);obtain⟨sl,l⟩:=I.base.slot b o e n N w;exact⟨sl,(f.2 b (ne_of_lt (lt_of_lt_of_le (Heap.lt_size e) (I.ok.cab x c T t)))).trans l⟩;obtain⟨o',l⟩:=I.base.there b o e w;exact⟨o',(f.2 b (ne_of_lt (lt_of_lt_of_le (Heap.lt_size e) (I.ok.cab x c T t)))).trans l⟩;by_cases O:j=i;subst O;rw[hi]at l;cases l;rw[getElem?_set_self G]at C;cases C;exact⟨u,r,.inr ⟨.inl J,c,t,Y⟩⟩;rw[getElem?_set_ne (Ne.symm O)]at C;obtain⟨u',r',q⟩:=hl j y v' l C e3;refine⟨u',r',?_⟩;rcases q with q|⟨k,c',e,z'⟩;exact .inl q;refine .inr ⟨k,c',e,z'.sameBut f ?_⟩;rintro rfl;exact O (zhL hN l (I.ok.inj _ _ _ e t▸hi));by_cases hcc:c'=c;subst hcc;exact⟨_,Y⟩;obtain⟨w2,z2⟩:=I.cell y c' e;exact⟨w2,z2.sameBut f hcc⟩;obtain⟨e,n,ne,nf,d⟩:=I.pin p hp;refine⟨(f.2 p.1 ?_).trans e,n,ne,nf,d⟩;intro q;rw[q,hoc]at e;have q':=Option.some.inj e;exact d w' (by rw[<-q'];exact hocd)
theorem zeN(I:Inv X pins σ H s)(b:X.N.Nodup)(hi:X.N[i]?=some x)(c:Loc X.env.scope x)(r:RelV v u)(h:∀a,Inv X pins (σ.set i (some v)) H a->Q () a)(d:X.fn x=true\/X.env.scope.names.lookup x=some .local:=by first|exact .inl rfl|exact .inr rfl|assumption):wpAny M A (storeName X.env x u) Q E s:=
 zfu I b hi c r (fun a e _=>h a e) d
theorem Inv.call'(I:Inv X pins σ H s)(f:a.os=s.os)(u:Un (frs X.stack) ch H H' s.heap a.heap)(hok:HOk X.prog X.w H' a.heap)(g:AllBare a.gens)(d:∀b∈ch,(b∈X.ex\/X.s₀.heap.objs.size<=b)/\b≠X.env.locals/\(∀x c,X.env.cells.lookup x=some c->c≠b)/\∀p∈X.pn++pins,p.1≠b):Inv X pins σ H' a:=by
 obtain⟨h',g',d',t',h⟩:=a;have e:=f;subst e;exact I.call u hok g d
end
abbrev XK:=Value->Option Addr->Hp->Prop
abbrev St:=List (Option V)
abbrev VK:=V->Hp->Prop
abbrev TE:=St->Hp->VK->Prop
abbrev TT:=St->Hp->(Bool->Hp->Prop)->Prop
abbrev TA:=St->Hp->(List V->Hp->Prop)->Prop
structure Ends where
 nx:St->Hp->Prop
 rt:VK
 bk:St->Hp->Prop:=fun _ _=>False
 ct:St->Hp->Prop:=fun _ _=>False
abbrev TS:=Ends->St->Hp->Prop
def EP(X:Cx)(a:List (Addr×Obj))(c:St)(Q:VK)(u:Value)(d:Shared):Prop:=∃v b,Inv X a c b d/\RelV v u/\Q v b
def TP(X:Cx)(a:List (Addr×Obj))(d:St)(Q:Bool->Hp->Prop)(b:Bool)(e:Shared):Prop:=∃c,Inv X a d c e/\Q b c
def AP(X:Cx)(a:List (Addr×Obj))(d:St)(Q:List V->Hp->Prop)(us:List Value)(e:Shared):Prop:=∃b c,Inv X a d c e/\Vals b us/\Q b c
def SP(X:Cx)(b:List (Addr×Obj))(D:Ends)(f:Flow)(d:Shared):Prop:=match f with|.next=>∃a c,Inv X b a c d/\D.nx a c|.brk=>∃a c,Inv X b a c d/\D.bk a c|.cont=>∃a c,Inv X b a c d/\D.ct a c|.ret u=>∃v a c,Inv X b a c d/\RelV v u/\D.rt v c
def PE(X:Cx)(e:Expr)(t:TE):Prop:=∀(a:List (Addr×Obj))(s:Shared)(b:St)(H:Hp)(Q:VK),Inv X a b H s->t b H Q->wpAny (model X.prog X.w) X.A (eval e X.env) (EP X a b Q) X.xe s
def PT(X:Cx)(e:Expr)(t:TT):Prop:=∀(a:List (Addr×Obj))(s:Shared)(b:St)(H:Hp)(Q:Bool->Hp->Prop),Inv X a b H s->t b H Q->wpAny (model X.prog X.w) X.A (isTrue e X.env (eval e X.env)) (TP X a b Q) X.xe s
def PW(X:Cx)(e:Expr)(t:TT):Prop:=∀(b:Sem Value)(a:List (Addr×Obj))(s:Shared)(c:St)(H:Hp)(Q:Bool->Hp->Prop),Inv X a c H s->t c H Q->wpAny (model X.prog X.w) X.A (isTrue e X.env b) (TP X a c Q) X.xe s
theorem PW.pt(h:PW X e t):PT X e t:=h _
def PA(X:Cx)(es:List Expr)(t:TA):Prop:=∀(pos:Pos)(a:List (Addr×Obj))(s:Shared)(b:St)(H:Hp)(Q:List V->Hp->Prop),Inv X a b H s->t b H Q->wpAny (model X.prog X.w) X.A (spliced (backTo pos (starEach es X.env))) (AP X a b Q) X.xe s
def PS(X:Cx)(st:Stmt)(t:TS):Prop:=∀(a:List (Addr×Obj))(s:Shared)(b:St)(H:Hp)(D:Ends),Inv X a b H s->t D b H->wpAny (model X.prog X.w) X.A (exec st X.env) (SP X a D) X.xe s
def PSs(X:Cx)(st:List Stmt)(t:TS):Prop:=∀(a:List (Addr×Obj))(s:Shared)(b:St)(H:Hp)(D:Ends),Inv X a b H s->t D b H->wpAny (model X.prog X.w) X.A (execs st X.env) (SP X a D) X.xe s
theorem thn(h:wpAny M A t Q E s)(b:∀a s,Q a s->c a s):wpAny M A t c E s:=wpAny_mono h b fun _ _ x=>x
section
variable{X:Cx}
def tVar(i:Nat):TE:=fun a H Q=>∃v,a[i]?=some (some v)/\Q v H
def tC(v:V):TE:=fun _ H Q=>Q v H
theorem zcj(j:X.N[i]?=some x)(hv:Vis X.env.scope x)(hd:(x==("__debug__":Str))=false:=by decide)(f:(x==("__classdict__":Str))=false:=by decide):PE X (.Name x pos) (tVar i):=by intro d s k H Q I h;obtain⟨v,e,h⟩:=h;obtain⟨m,n,o⟩:=I.loc;obtain⟨u,r,l⟩:=o i x v j e hv;have fin:EP X d k Q u s:=⟨v,H,I,r,h⟩;rcases l with⟨b,p⟩|⟨b,c,g,a⟩;exact wpAny_Name (wpAny_loadName_local I.ok.kind b n p fin) hd;rcases b with b|b;exact wpAny_Name (wpAny_loadName_cell I.ok.kind b g a fin) hd;exact wpAny_Name (wpAny_loadName_free I.ok.kind b g a fin f) hd
theorem zfU:PE X (.Constant (.int i) j pos) (tC (.int i)):=fun _ _ _ H _ I h=>wpAny_Constant_int ⟨.int i,H,I.tok _,⟨_,rfl⟩,h⟩
theorem zta:PE X (.Constant (.bool b) j pos) (tC (.bl b)):=fun _ _ _ H _ I h=>Constant_bool ⟨.bl b,H,I,rfl,h⟩
theorem znr:PE X (.Constant .none j pos) (tC .non):=fun _ _ _ H _ I h=>Constant_none ⟨.non,H,I,rfl,h⟩
theorem zeq:PE X (.Constant (.str x) j pos) (tC (.str x)):=fun _ _ _ H _ I h=>Calls.Constant_str ⟨.str x,H,I.tok _,⟨_,rfl⟩,h⟩
def Gl(X:Cx)(x:Str):Prop:=X.env.kindOf x=some .globalImplicit
theorem zbq(I:Inv X a d H s)(b:Gl X x)(c:X.mg x=some u)(h:Q u s)(hd:(x==("__debug__":Str))=false:=by decide):wpAny (model X.prog X.w) X.A (eval (.Name x pos) X.env) Q E s:=
 Calls.Name_function_global I.ok.kind b (Calls.loadGlobal_global (by rw[I.ok.glob];exact I.mod.glob.keeps I.bk) c h) hd
theorem zc9(I:Inv X a g H s)(b:Gl X x)(c:X.mg x=none)(hv:bootBuiltins x=some u)(h:Q u s)(d:x≠"__name__":=by decide)(hd:(x==("__debug__":Str))=false:=by decide):wpAny (model X.prog X.w) X.A (eval (.Name x pos) X.env) Q E s:=by
 obtain⟨i,e,f⟩:=I.mod.blt;exact Calls.Name_function_global I.ok.kind b (Calls.loadGlobal_builtin (by rw[I.ok.glob];exact I.mod.glob.keeps I.bk) c (by rw[I.ok.blt];exact e.keeps I.bk) ((f x d).trans hv) h) hd
theorem zdI(a:Gl X x)(b:X.mg x=some u)(r:RelV v u)(hd:(x==("__debug__":Str))=false:=by decide):PE X (.Name x pos) (tC v):=fun _ _ _ H _ I h=>zbq I a b ⟨v,H,I,r,h⟩ hd
theorem zjX(a:Gl X x)(b:X.mg x=none)(hv:bootBuiltins x=some u)(r:RelV v u)(c:x≠"__name__":=by decide)(hd:(x==("__debug__":Str))=false:=by decide):PE X (.Name x pos) (tC v):=fun _ _ _ H _ I h=>zc9 I a b hv ⟨v,H,I,r,h⟩ c hd
variable{a b:Expr}{ta tb:TE}{pos:Pos}
theorem RelV.none_iff(r:RelV x v):(v==Value.none)=decide (x=.non):=by cases x with|non=>cases r;rfl|bl _=>cases r;rfl|int _=>obtain⟨t,rfl⟩:=r;rfl|str _=>obtain⟨t,rfl⟩:=r;rfl|byt _=>obtain⟨t,rfl⟩:=r;rfl|flt _=>obtain⟨t,rfl⟩:=r;rfl|ref _=>cases r;rfl|ty _=>cases r;rfl
variable{tA tB':TT}{rest:List Expr}
def tAnd(t u:TT):TT:=fun d H Q=>t d H fun c e=>if c=true then u d e Q else Q false e
def tOr(t u:TT):TT:=fun d H Q=>t d H fun c e=>if c=true then Q true e else u d e Q
def tNot(t:TT):TT:=fun d H Q=>t d H fun c e=>Q (!c) e
theorem zoP(f:PT X a tA):PW X (.BoolOp .And [a] pos) tA:=by intro i d s g H Q I h;refine isTrue_and (thn (f d s g H Q I h) fun c j e=>?_);cases c with|true=>exact isTrue_and_nil e|false=>exact e
theorem zrj(f:PT X a tA):PW X (.BoolOp .Or [a] pos) tA:=by intro i d s g H Q I h;refine isTrue_or (thn (f d s g H Q I h) fun c j e=>?_);cases c with|false=>exact isTrue_or_nil e|true=>exact e
theorem zrk(j:PT X a tA)(k:PW X (.BoolOp .And (b::rest) pos) tB'):PW X (.BoolOp .And (a::b::rest) pos) (tAnd tA tB'):=by intro l d s e H Q I h;refine isTrue_and (thn (j d s e H _ I h) fun c m z=>?_);obtain⟨f,g,i⟩:=z;cases c with|true=>exact k l d m e f Q g i|false=>exact⟨f,g,i⟩
theorem zs6(j:PT X a tA)(k:PW X (.BoolOp .Or (b::rest) pos) tB'):PW X (.BoolOp .Or (a::b::rest) pos) (tOr tA tB'):=by intro l d s e H Q I h;refine isTrue_or (thn (j d s e H _ I h) fun c m z=>?_);obtain⟨f,g,i⟩:=z;cases c with|true=>exact⟨f,g,i⟩|false=>exact k l d m e f Q g i
theorem zrm(e:PT X a tA):PT X (.UnaryOp .Not a pos) (tNot tA):=by intro d s f H Q I h;exact isTrue_not (e d s f H (fun c g=>Q (!c) g) I h)
def zsP(ta tb:TE):TE:=fun d H Q=>ta d H fun x e=>∃c,x=.bl c/\if c=true then tb d e Q else Q (.bl false) e
def tOrV(ta tb:TE):TE:=fun d H Q=>ta d H fun x e=>∃c,x=.bl c/\if c=true then Q (.bl true) e else tb d e Q
def zsL(ta:TE):TE:=fun d H Q=>ta d H fun x e=>∃c,x=.bl c/\Q (.bl (!c)) e
theorem znq(h:PE X a t):PE X (.BoolOp op [a] pos) t:=fun c s d H Q I e=>BoolOp_one (h c s d H Q I e)
theorem zry(j:PE X a ta)(k:PE X (.BoolOp .And (b::rest) pos) tb):PE X (.BoolOp .And (a::b::rest) pos) (zsP ta tb):=by intro d s f H Q I h;refine BoolOp_and (thn (j d s f H _ I h) fun v l z=>eY z fun x g i m e=>?_);obtain⟨c,rfl,e⟩:=e;cases m;refine wpAny_truthy_bool ?_;cases c with|true=>exact k d l f g Q i e|false=>exact⟨.bl false,g,i,rfl,e⟩
theorem zs9(j:PE X a ta)(k:PE X (.BoolOp .Or (b::rest) pos) tb):PE X (.BoolOp .Or (a::b::rest) pos) (tOrV ta tb):=by intro d s f H Q I h;refine BoolOp_or (thn (j d s f H _ I h) fun v l z=>eY z fun x g i m e=>?_);obtain⟨c,rfl,e⟩:=e;cases m;refine wpAny_truthy_bool ?_;cases c with|false=>exact k d l f g Q i e|true=>exact⟨.bl true,g,i,rfl,e⟩
theorem zrr(f:PE X a ta):PE X (.UnaryOp .Not a pos) (zsL ta):=by intro d s g H Q I h;refine UnaryOp_ (thn (f d s g H _ I h) fun v l z=>eY z fun x i j k e=>?_);obtain⟨c,rfl,e⟩:=e;cases k;exact not_of (wpAny_truthy_bool ⟨.bl (!c),i,j,rfl,e⟩)
def tIf(t:TT)(ta tb:TE):TE:=fun d H Q=>t d H fun c e=>if c=true then ta d e Q else tb d e Q
theorem zhI(l:PT X c tA)(m:PE X a ta)(n:PE X b tb):PE X (.IfExp c a b pos) (tIf tA ta tb):=by intro e s f H Q I h;refine wpAny_IfExp (thn (l e s f H _ I h) fun d g z=>?_);obtain⟨i,j,k⟩:=z;cases d with|true=>exact m e g f i Q j k|false=>exact n e g f i Q j k
end
def SqL(K:PySem.W.Frag)(H:Hp)(a:Addr)(xs:List V):Prop:=
 Rd H a (.lst xs)\/
  ∃(o:Obj) (b:Array Value) (n:Nat),K.lookup a=some o/\o.cls=.type "list"/\o.dict=none/\o.data=.seq b n/\b.size<=sizeLine/\Vals xs b.toList
def SqT(K:PySem.W.Frag)(H:Hp)(a:Addr)(xs:List V):Prop:=
 Rd H a (.tup xs)\/
  ∃(o:Obj) (b:Array Value) (n:Nat),K.lookup a=some o/\o.cls=.type "tuple"/\o.data=.seq b n/\b.size<=sizeLine/\Vals xs b.toList
noncomputable def absV:Value->Option V
 |.none=>some .non|.bool b=>some (.bl b)|.int i _=>some (.int i)|.str x _=>some (.str x)|.bytes b _=>some (.byt b)|.float b _=>some (.flt b)|.ref a=>some (.ref a)|.type n=>some (.ty n)|_=>none
theorem RelV.abs(r:RelV x u):absV u=some x:=by cases x with|non=>cases r;rfl|bl _=>cases r;rfl|int _=>obtain⟨t,rfl⟩:=r;rfl|str _=>obtain⟨t,rfl⟩:=r;rfl|byt _=>obtain⟨t,rfl⟩:=r;rfl|flt _=>obtain⟨t,rfl⟩:=r;rfl|ref _=>cases r;rfl|ty _=>cases r;rfl
theorem RelV.inj(r:RelV x u)(q:RelV y u):x=y:=Option.some.inj (r.abs.symm.trans q.abs)
theorem Vals.inj:∀{xs ys:List V}{us:List Value},Vals xs us->Vals ys us->xs=ys
 |_,_,_,.nil,.nil=>rfl|_,_,_,.cons r t,.cons a b=>by rw[r.inj a,Vals.inj t b]
section
variable{X:Cx}{pins:List (Addr×Obj)}{σ:St}{H:Hp}{s:Shared}{a:Addr}{xs ys:List V}
theorem SqL.of{K}(h:H a=some (.lst xs)):SqL K H a xs:=.inl (.inl h)
theorem SqT.of{K}(h:H a=some (.tup xs)):SqT K H a xs:=.inl (.inl h)
theorem Inv.list(I:Inv X pins σ H s)(h:SqL X.K H a xs):∃its:List Value,Vals xs its/\PlainL s.heap a its.toArray/\xs.length<=sizeLine:=by rcases h with h|⟨o,its,n,b,c,d,f,g,r⟩;obtain⟨z,its,n,r,e⟩:=h.ok I.hok;exact⟨its,r,⟨_,n,e,rfl,rfl,rfl⟩,z⟩;refine⟨its.toList,r,⟨o,n,I.kIn a o b,c,d,by simpa using f⟩,?_⟩;have e:=r.length;simp only[length_toList]at e;lia
theorem Inv.tuple(I:Inv X pins σ H s)(h:SqT X.K H a xs):∃its:List Value,Vals xs its/\IsTup s.heap a its.toArray/\xs.length<=sizeLine:=by rcases h with h|⟨o,its,n,b,c,d,f,r⟩;obtain⟨z,its,r,p⟩:=h.ok I.hok;exact⟨its,r,p,z⟩;refine⟨its.toList,r,⟨o,I.kIn a o b,c,n,by simpa using d⟩,?_⟩;have e:=r.length;simp only[length_toList]at e;lia
theorem Inv.list_inj(I:Inv X pins σ H s)(h:SqL X.K H a xs)(h':SqL X.K H a ys):xs=ys:=by
 obtain⟨c,r,⟨o,n,e,_,_,d⟩,_⟩:=I.list h;obtain⟨b,i,⟨k,l,f,_,_,g⟩,_⟩:=I.list h';rw[e]at f;cases f;rw[d]at g;injection g with j _;have:c=b:=by simpa using congrArg Array.toList j
 subst this;exact r.inj i
theorem Inv.tuple_inj(I:Inv X pins σ H s)(h:SqT X.K H a xs)(h':SqT X.K H a ys):xs=ys:=by
 obtain⟨c,r,⟨o,e,_,n,d⟩,_⟩:=I.tuple h;obtain⟨b,i,⟨k,f,_,l,g⟩,_⟩:=I.tuple h';rw[e]at f;cases f;rw[d]at g;injection g with j _;have:c=b:=by simpa using congrArg Array.toList j
 subst this;exact r.inj i
end
noncomputable abbrev Cx.wish(X:Cx)(E:Value->Shared->Prop):Cx:={X with xe:=E}
noncomputable abbrev Cx.nox(X:Cx):Cx:=X.wish fun _ _=>False
theorem Cx.Ok.wish{X:Cx}(ok:X.Ok)(E):(X.wish E).Ok:=⟨ok.mod,ok.kind,ok.glob,ok.blt,ok.above,ok.inj,ok.has,ok.cab,ok.hd,ok.frames,ok.stk,ok.exf,ok.bs,ok.bsz,ok.noex,ok.exfs,ok.funs,ok.frf⟩
theorem Cx.Ok.unwish{X:Cx}(ok:(X.wish E).Ok):X.Ok:=⟨ok.mod,ok.kind,ok.glob,ok.blt,ok.above,ok.inj,ok.has,ok.cab,ok.hd,ok.frames,ok.stk,ok.exf,ok.bs,ok.bsz,ok.noex,ok.exfs,ok.funs,ok.frf⟩
section
variable{X:Cx}{pins:List (Addr×Obj)}{σ:St}{H:Hp}{s:Shared}{E:Value->Shared->Prop}
theorem Inv.wish(I:Inv X pins σ H s)(E):Inv (X.wish E) pins σ H s:=⟨I.ok.wish E,I.os,I.bare,I.base,I.loc,I.cell,I.free,I.freeC,I.pin,I.hok,I.len⟩
theorem Inv.unwish(I:Inv (X.wish E) pins σ H s):Inv X pins σ H s:=⟨I.ok.unwish,I.os,I.bare,I.base,I.loc,I.cell,I.free,I.freeC,I.pin,I.hok,I.len⟩
theorem SP.unwish(h:SP (X.wish E) pins D f c):SP X pins D f c:=by cases f with|next=>obtain⟨a,b,I,q⟩:=h;exact⟨a,b,I.unwish,q⟩|brk=>obtain⟨a,b,I,q⟩:=h;exact⟨a,b,I.unwish,q⟩|cont=>obtain⟨a,b,I,q⟩:=h;exact⟨a,b,I.unwish,q⟩|ret u=>obtain⟨v,a,b,I,r,q⟩:=h;exact⟨v,a,b,I.unwish,r,q⟩
theorem PE.nox(h:PE X.nox e t):PE X e t:=fun pins s σ H Q I a=>wpAny_mono (h pins s σ H Q (I.wish _) a) (fun _ _ y=>eY y fun v b c r q=>⟨v,b,c.unwish,r,q⟩) fun _ _ z=>False.elim z
theorem PSs.nox{st}(h:PSs X.nox st t):PSs X st t:=fun pins s σ H D I a=>wpAny_mono (h pins s σ H D (I.wish _) a) (fun _ _ q=>q.unwish) fun _ _ z=>False.elim z
end
section
variable{X:Cx}{st:Stmt}{rest:List Stmt}{t u:TS}{e:Expr}{te:TE}{pos:Pos}
def zqn:TS:=fun D a H=>D.nx a H
def tSeq(t u:TS):TS:=fun D a H=>t {D with nx:=u D} a H
theorem zdG:PSs X [] zqn:=fun _ _ a H _ I h=>wpAny_execs_nil ⟨a,H,I,h⟩
theorem zaC(c:PS X st t)(d:PSs X rest u):PSs X (st::rest) (tSeq t u):=by intro a s g H D I h;refine wpAny_execs_cons (thn (c a s g H {D with nx:=u D} I h) fun f i q=>?_);cases f with| next=>obtain⟨b,j,k,q⟩:=q;exact d a i b j D k q|ret v=>exact q|brk=>exact q|cont=>exact q
theorem zgO(b:PS X st t):PSs X [st] t:=by intro a s c H D I h;refine wpAny_execs_cons (thn (b a s c H D I h) fun f d q=>?_);cases f with|next=>exact wpAny_execs_nil q|ret v=>exact q|brk=>exact q|cont=>exact q
theorem Inv.quiet(I:Inv X a b H s):interactive X.env=false:=by simp[interactive,I.ok.kind]
def zsM(te:TE):TS:=fun D a H=>te a H fun _ b=>D.nx a b
theorem zdH(c:PE X e te)(hs:swapsWith e none pos.line X.env=pure false:=by rfl):PS X (.Expr e pos) (zsM te):=by intro a s b H D I h;exact wpAny_Expr_any (thn (c a s b H _ I h) fun v i z=>eY z fun x d f j g=>⟨b,d,f,g⟩) I.quiet hs
def tRet(te:TE):TS:=fun D a H=>te a H D.rt
theorem zjP(c:PE X e te):PS X (.Return (some e) pos) (tRet te):=by intro a s b H D I h;exact wpAny_Return_some (thn (c a s b H _ I h) fun v j z=>eY z fun x d f g i=>⟨x,b,d,f,g,i⟩)
def tIfS(c:TT)(t u:TS):TS:=fun D a H=>c a H fun b d=>if b=true then t D a d else u D a d
theorem zoU(m:PT X c n)(o:PSs X a t)(p:PSs X b u):PS X (.If c a b pos) (tIfS n t u):=by intro f s g H D I h;refine wpAny_If (thn (m f s g H _ I h) fun d i z=>?_);obtain⟨j,k,l⟩:=z;cases d with|true=>exact o f i g j D k l|false=>exact p f i g j D k l
end
abbrev TG:=V->St->Hp->(St->Hp->Prop)->Prop
abbrev TGs:=List V->St->Hp->(St->Hp->Prop)->Prop
def PG(X:Cx)(a:Expr)(t:TG):Prop:=
 ∀(b:List (Addr×Obj))(s:Shared)(d:St)(H:Hp)(v:V)(u:Value)(Q:St->Hp->Prop),Inv X b d H s->RelV v u->t v d H Q->
  wpAny (model X.prog X.w) X.A (assign a X.env u) (fun _ f=>∃c e,Inv X b c e f/\Q c e) X.xe s
def PGs(X:Cx)(ts:List Expr)(t:TGs):Prop:=
 ∀(a:List (Addr×Obj))(s:Shared)(c:St)(H:Hp)(d:List V)(e:List Value)(Q:St->Hp->Prop),Inv X a c H s->Vals d e->t d c H Q->
  wpAny (model X.prog X.w) X.A (assignInOrder ((assignEach ts X.env).map (·.2)) e) (fun _ g=>∃b f,Inv X a b f g/\Q b f) X.xe s
section
variable{X:Cx}{pos:Pos}
def zfd(i:Nat):TG:=fun v a H Q=>Q (a.set i (some v)) H
theorem zgP(b:X.N.Nodup)(hi:X.N[i]?=some x)(c:Loc X.env.scope x)(d:X.fn x=true\/X.env.scope.names.lookup x=some .local:=by first|exact .inl rfl|exact .inr rfl|assumption):PG X (.Name x pos) (zfd i):=by intro a s f H v u Q I r h;exact wpAny_assign_Name (zeN I b hi c r (fun g e=>⟨_,H,e,h⟩) d)
def gNil:TGs:=fun a b H Q=>a=[]/\Q b H
def ztw(t:TG)(u:TGs):TGs:=fun b c H Q=>∃v r,b=v::r/\t v c H fun a d=>u r a d Q
theorem zo3:PGs X [] gNil:=by intro a s b H c d Q I r h;obtain⟨e,h⟩:=h;subst e;cases r;exact assignInOrder_nil ⟨b,H,I,h⟩
theorem zl5(c:PG X e t)(d:PGs X es u)(hs:(assignEach (e::es) X.env).map (·.2)=assign e X.env::(assignEach es X.env).map (·.2):=by rfl):PGs X (e::es) (ztw t u):=by
 intro a s f H n o Q I r h;obtain⟨v,p,g,h⟩:=h;subst g;cases r with| cons r i=>rw[hs];refine assignInOrder_cons (thn (c a s f H _ _ _ I r h) fun _ j z=>?_);obtain⟨b,k,l,m⟩:=z;exact d a j b k _ _ Q l i m
def gTup(K:PySem.W.Frag)(n:Nat)(t:TGs):TG:=fun v c H Q=>∃a b,v=.ref a/\SqT K H a b/\b.length=n/\t b c H Q
theorem zrp(j:X.calm=true)(h:PGs X es t)(l:(assignEach es X.env).length=n:=by rfl)(d:(assignEach es X.env).findIdx? (·.1)=none:=by rfl):PG X (.Tuple es k pos) (gTup X.K n t):=by
 intro c s g H v u Q I r f;obtain⟨a,m,p,q,w,f⟩:=f;subst p;cases r;obtain⟨x,i,y,C⟩:=I.tuple q;refine assign_Tuple_tuple (I.ok.hd j) y (by simp[l,<-w,i.length]) d fun z A=>?_;have B:=I.kept (t':=s.toks) fun b o e=>A b o (ne_of_lt (Heap.lt_size e)) e;exact h c _ g H m _ Q B (by simpa using i) f
def tAsg(b:TE)(g:TG):TS:=fun D a H=>b a H fun x c=>g x a c D.nx
theorem zfR(b:X.N.Nodup)(hi:X.N[i]?=some x)(c:Loc X.env.scope x)(d:PE X e f)(hs:swapsWith e (some (.Name x pos')) pos.line X.env=pure false:=by rfl)(g:X.fn x=true\/X.env.scope.names.lookup x=some .local:=by first|exact .inl rfl|exact .inr rfl|assumption):
  PS X (.Assign [.Name x pos'] e pos) (tAsg f (zfd i)):=by
 intro a s j H D I h;exact wpAny_Assign_Name (thn (d a s j H _ I h) fun v p z=>eY z fun y k l m n=>(zeN l b hi c m (fun q o=>⟨_,k,o,n⟩) g)) hs
end
structure It where
 go:Nat->Hp->Prop
 yld:Nat->Hp->V->Hp->Prop
 stop:Nat->Hp->Prop
def FpOk(X:Cx)(a:List (Addr×Obj))(H:Hp)(b:Addr):Prop:=H b=none/\b≠X.env.locals/\b∉X.fs/\(b∈X.ex\/X.s₀.heap.objs.size<=b)/\(∀x c,X.env.cells.lookup x=some c->c≠b)/\∀p∈X.pn++a,p.1≠b
theorem Inv.fpOk(I:Inv X a i H s)(d:s.heap.objs.size<=b)(f:g b=none):FpOk X a g b:=by refine⟨f,ne_of_gt (lt_of_lt_of_le I.lt d),I.nofs d,.inr (le_trans I.sz d),fun x c e z=>?_,fun p h z=>?_⟩;obtain⟨v,q⟩:=I.cell x c e;exact absurd (lt_of_lt_of_le q.lt (by rw[z];exact d)) (lt_irrefl _);exact absurd (lt_of_lt_of_le (Heap.lt_size (I.pin p h).1) (by rw[z];exact d)) (lt_irrefl _)
structure Turn(P:Program)(w:World)(K:PySem.W.Frag)(tg:Expr)(J:It)(fp:List Addr)(it:Addr)(tn:Nat->Heap->Prop):Prop where
 mem:it∈fp
 obj:∀i h,tn i h->∀b∈fp,∃o,h.get? b=some o/\∀v,o.data≠.cell v
 keep:∀i h h',tn i h->(∀b∈fp,∀o,h.get? b=some o->h'.get? b=some o)->tn i h'
 item:∀(X:Cx),X.prog=P->X.w=w->X.K=K->X.calm=true->∀(i:Nat)(pins:List (Addr×Obj))(s:Shared)(σ:St)(H:Hp)(E:Value->Shared->Prop),Inv X pins σ H s->(∀b∈fp,FpOk X pins H b)->tn i s.heap->J.go i H->
  wpAny (model P w) X.A (pyNext (.ref it)) (fun r s1=>∃u,r=some u/\
   wpAny (model P w) X.A (letOwnedTupleGo tg (.ref it) u) (fun _ s2=>∃x H',Inv X pins σ H' s2/\RelV x u/\J.yld i H x H'/\tn (i+1) s2.heap/\∀b∈fp,H' b=none) E s1) E s
 done:∀(X:Cx),X.prog=P->X.w=w->X.K=K->X.calm=true->∀(i:Nat)(pins:List (Addr×Obj))(s:Shared)(σ:St)(H:Hp)(E:Value->Shared->Prop),Inv X pins σ H s->(∀b∈fp,FpOk X pins H b)->tn i s.heap->J.stop i H->
  wpAny (model P w) X.A (pyNext (.ref it)) (fun r s1=>r=none/\Inv X pins σ H s1) E s
 self:∀(A:Around)(i:Nat)(s:Shared)(Q:Value->Shared->Prop)(E:Value->Shared->Prop),tn i s.heap->Q (.ref it) s->wpAny (model P w) A (pyIter (.ref it)) Q E s
abbrev TI:=St->Hp->(It->Hp->Prop)->Prop
def PIE(X:Cx)(a:List (Addr×Obj))(i:St)(j:Expr)(R:It->Hp->Prop)(c:Value)(e:Shared):Prop:=∃(f:Addr) (g:List Addr) (h:Nat->Heap->Prop) (J:It) (d:Hp),c=.ref f/\Inv X a i d e/\Turn X.prog X.w X.K j J g f h/\h 0 e.heap/\(∀b∈g,FpOk X a d b)/\R J d
def PI(X:Cx)(d b:Expr)(e:TI):Prop:=
 ∀(a:List (Addr×Obj))(s:Shared)(c:St)(H:Hp)(R:It->Hp->Prop),Inv X a c H s->e c H R->
  wpAny (model X.prog X.w) X.A (eval b X.env) (fun v f=>wpAny (model X.prog X.w) X.A (pyIter v) (PIE X a c d R) X.xe f) X.xe s
theorem zpD(b:s.heap.get? it=some o)(c:o.cls=.type n)(hd:o.data=.fields vs)(d:["enumerate","zip","dict_itemiterator","dict_reverseitemiterator","odict_iterator","itertools.zip_longest","itertools.pairwise"].contains n=false)(a:Q () s):wpAny M A (letOwnedTupleGo e (.ref it) u) Q E s:=by
 cases e<;>first
  |exact wpAny_pure a
  |(cases u<;>first
   |exact wpAny_pure a
   | (refine wpAny_bind (wpAny_load b ?_)
      rw[c,hd];show wpAny M A (if(["enumerate","zip","dict_itemiterator","dict_reverseitemiterator","odict_iterator","itertools.zip_longest","itertools.pairwise"].contains n&&vs[0]?==some (rawInt _))=true then _ else _) Q E s;rw[if_neg (by intro h;rw[d]at h;cases h)];exact wpAny_pure a))
noncomputable def Itl(K:PySem.W.Frag)(a:Addr):It:=⟨fun i H=>∃b x,SqL K H a b/\b[i]?=some x,fun i H x c=>c=H/\∀b,SqL K H a b->b[i]?=some x,fun i H=>∃b,SqL K H a b/\b.length<=i⟩
noncomputable def Itt(K:PySem.W.Frag)(a:Addr):It:=⟨fun i H=>∃b x,SqT K H a b/\b[i]?=some x,fun i H x c=>c=H/\∀b,SqT K H a b->b[i]?=some x,fun i H=>∃b,SqT K H a b/\b.length<=i⟩
noncomputable def Itr(lo:Int)(n:Nat):It:=⟨fun i _=>i<n,fun i H x a=>a=H/\x=.int (lo+i),fun i _=>n<=i⟩
theorem zfs{P:Program}{w:World}{K:PySem.W.Frag}{tg:Expr}(a it:Addr):Turn P w K tg (Itl K a) [it] it (fun i h=>h.IsListIter it a i) where
 mem:=by simp
 obj:=fun i h st b hb=>by
  have e:b=it:=by simpa using hb
  subst e;obtain⟨o,e,c,d⟩:=st;exact⟨o,e,fun v z=>by rw[d]at z;cases z⟩
 keep:=fun i h h' st k=>st.at fun o e=>k it (by simp) o e
 item:=by intro X hP hw hK hc i pins s σ H E I hf st hg;subst hP hw hK;obtain⟨xs,x,hq,hx⟩:=hg;obtain⟨its,rv,p,hz⟩:=I.list hq;obtain⟨u,hu,ru⟩:=rv.get hx;obtain⟨f0,f1,f2,f3,f4,f5⟩:=hf it (by simp);refine wpAny_pyNext_list_item st p.isList (x:=u) (by simpa using hu) fun h' st' sb=>?_;have I1:=I.turned (t':=s.toks) (fun b o hb e=>(sb.2 b hb).trans e) f0 f1 f3 f4 f5;obtain⟨o,e,c,d⟩:=id st';exact⟨u,rfl,zpD e c d (by decide) ⟨x,H,I1,ru,⟨rfl,fun ys hy=>by rw[I.list_inj hy hq];exact hx⟩,st',fun b hb=>(hf b hb).1⟩⟩
 done:=by intro X hP hw hK hc i pins s σ H E I hf st hg;subst hP hw hK;obtain⟨xs,hq,hx⟩:=hg;obtain⟨its,rv,p,hz⟩:=I.list hq;obtain⟨f0,f1,f2,f3,f4,f5⟩:=hf it (by simp);have hl:=rv.length;exact wpAny_pyNext_list_end (I.ok.hd hc) st p.isList (by simp;lia) fun h' eb=>⟨rfl,I.turned (t':=s.toks) (fun b o hb e=>eb b o hb e) f0 f1 f3 f4 f5⟩
 self:=fun _ _ _ _ _ st h=>wpAny_pyIter_listiter st h
theorem zij{P:Program}{w:World}{K:PySem.W.Frag}{tg:Expr}(a it:Addr):Turn P w K tg (Itt K a) [it] it (fun i h=>h.IsTupleIter it a i) where
 mem:=by simp
 obj:=fun i h st b hb=>by
  have e:b=it:=by simpa using hb
  subst e;obtain⟨o,e,c,d⟩:=st;exact⟨o,e,fun v z=>by rw[d]at z;cases z⟩
 keep:=fun i h h' st k=>st.at fun o e=>k it (by simp) o e
 item:=by intro X hP hw hK hc i pins s σ H E I hf st hg;subst hP hw hK;obtain⟨xs,x,hq,hx⟩:=hg;obtain⟨its,rv,p,hz⟩:=I.tuple hq;obtain⟨u,hu,ru⟩:=rv.get hx;obtain⟨f0,f1,f2,f3,f4,f5⟩:=hf it (by simp);refine wpAny_pyNext_tuple_item st (show s.heap.IsTuple a its.toArray from p) (x:=u) (by simpa using hu) fun h' st' sb=>?_;have I1:=I.turned (t':=s.toks) (fun b o hb e=>(sb.2 b hb).trans e) f0 f1 f3 f4 f5;obtain⟨o,e,c,d⟩:=id st';exact⟨u,rfl,zpD e c d (by decide) ⟨x,H,I1,ru,⟨rfl,fun ys hy=>by rw[I.tuple_inj hy hq];exact hx⟩,st',fun b hb=>(hf b hb).1⟩⟩
 done:=by intro X hP hw hK hc i pins s σ H E I hf st hg;subst hP hw hK;obtain⟨xs,hq,hx⟩:=hg;obtain⟨its,rv,p,hz⟩:=I.tuple hq;obtain⟨f0,f1,f2,f3,f4,f5⟩:=hf it (by simp);have hl:=rv.length;exact wpAny_pyNext_tuple_end (I.ok.hd hc) st (show s.heap.IsTuple a its.toArray from p) (by simp;lia) fun h' eb=>⟨rfl,I.turned (t':=s.toks) (fun b o hb e=>eb b o hb e) f0 f1 f3 f4 f5⟩
 self:=fun _ _ _ _ _ st h=>wpAny_pyIter_tupleiter st h
theorem zik{P:Program}{w:World}{K:PySem.W.Frag}{G:Expr}(it:Addr)(lo:Int)(n:Nat):Turn P w K G (Itr lo n) [it] it (fun i h=>IsRangeIter h it (lo+(i:Nat)*1) ((n:Int)-(i:Nat)) 1) where
 mem:=by simp
 obj:=fun i h st b c=>by
  have e:b=it:=by simpa using c
  subst e;exact⟨_,st,fun v z=>by have J:=z;cases J⟩
 keep:=fun i h f st k=>k it (by simp) _ st
 item:=by intro X j l m p i a s B H E I g st q;subst j l m;obtain⟨r,u,L,x,y,A⟩:=g it (by simp);have W:=Walks.range (prog:=X.prog) (w:=X.w) (I.ok.hd p) it lo 1 n;refine W.item i s _ _ q st fun v f C hv d M=>?_;obtain⟨t,rfl⟩:=hv;have N:Inv X a B H {s with heap:=f,toks:=C}:=I.turned (fun b o c e=>M b o (by simpa using c) e) r u x y A;refine⟨_,rfl,zpD d rfl rfl (by decide) ⟨.int (lo+i),H,N,⟨t,?_⟩,⟨rfl,rfl⟩,d,fun b c=>(g b c).1⟩⟩;rw[Int.mul_one]
 done:=by intro X j l m p i a s B H E I g st q;obtain⟨r,u,L,x,y,A⟩:=g it (by simp);exact wpAny_pyNext_range_end (I.ok.hd p) st (by have:n<=i:=q;lia) fun f O=>⟨rfl,I.turned (fun b o c e=>O b o c e) r u x y A⟩
 self:=fun _ _ _ _ _ st h=>wpAny_pyIter_rangeiter st h
section
variable{X:Cx}{tg:Expr}
def zpC(K:PySem.W.Frag)(c:TE):TI:=fun d H R=>c d H fun x b=>∃a,x=.ref a/\(∃e,SqL K b a e)/\R (Itl K a) b
theorem zo1(g:PE X l i):PI X tg l (zpC X.K i):=by
 intro c s j H R I h;refine thn (g c s j H _ I h) fun v d z=>eY z fun x k f m n=>?_;obtain⟨a,e,⟨w,r⟩,q⟩:=n;subst e;cases m;obtain⟨t,y,p,A⟩:=f.list r;refine wpAny_pyIter_list p.isList ?_;refine⟨d.heap.objs.size,[d.heap.objs.size],_,_,k,rfl,f.kept fun b o e=>Heap.get?_push_of_some _ e,zfs a _,⟨_,Heap.get?_push_size _ rfl,rfl,rfl⟩,fun b u=>?_,q⟩;have e:b=d.heap.objs.size:=by simpa using u
 subst e;exact f.fpOk (le_refl _) (f.hok.fresh (le_refl _))
theorem zhE{lo hi}(I:Inv X a d H s)(g:-(2^62)<=lo)(h:lo<2^62)(i:-(2^62)<=hi)(j:hi<2^62)(q:R (Itr lo (hi-lo).toNat) H):wpAny (model X.prog X.w) X.A (pyIter (.ref s.heap.objs.size)) (PIE X a d tg R) E {s with heap:=s.heap.push {cls:=.type "range",data:=.fields #[.int lo t,.int hi u,.int 1 v]},toks:=f}:=by
 refine wpAny_pyIter_range (IsRange.new ..) (small_one g h i j) ?_;have c:Inv X a d H {s with heap:=s.heap.push {cls:=.type "range",data:=.fields #[.int lo t,.int hi u,.int 1 v]},toks:=f}:=I.kept fun b o e=>Heap.get?_push_of_some _ e;refine⟨(s.heap.push {cls:=.type "range",data:=.fields #[.int lo t,.int hi u,.int 1 v]}).objs.size,[(s.heap.push {cls:=.type "range",data:=.fields #[.int lo t,.int hi u,.int 1 v]}).objs.size],_,_,H,rfl,
  c.kept fun b o e=>Heap.get?_push_of_some _ e,zik _ lo (hi-lo).toNat,?_,fun b k=>?_,q⟩
 have l:lo+((0:Nat):Int)*1=lo:=by simp
 have m:(((hi-lo).toNat:Nat):Int)-((0:Nat):Int)=Builtin.Range.rangeSize lo hi 1:=by rw[rangeSize_one];split<;>lia
 rw[l,m];exact Heap.get?_push_size _ rfl;have e:b=(s.heap.push {cls:=.type "range",data:=.fields #[.int lo t,.int hi u,.int 1 v]}).objs.size:=by simpa using k
 subst e;exact c.fpOk (le_refl _) (c.hok.fresh (le_refl _))
def ztt(a:TA):TI:=fun b H R=>a b H fun c d=>∃j:Int,c=[.int j]/\-(2^62)<=j/\j<2^62/\R (Itr 0 j.toNat) d
def zts(a:TA):TI:=fun b H R=>a b H fun c d=>∃i j:Int,c=[.int i,.int j]/\(-(2^62)<=i/\i<2^62/\-(2^62)<=j/\j<2^62)/\R (Itr i (j-i).toNat) d
theorem zjV(d:Gl X "range")(f:X.mg "range"=none)(g:PA X [a] i)(hs:starEach [a] X.env=[(false,eval a X.env)]:=by rfl):PI X tg (.Call (.Name "range" p) [a] [] pos) (ztt i):=by intro b s k H R I h;refine Call_ (zc9 I d f boot_range (PyProof.Rows.callWith_type1 (thn (g pos b s k H _ I h) fun u v z=>eY z fun w x l m c=>?_) hs rfl));obtain⟨j,e,c,n,q⟩:=c;subst e;cases m with| cons r o=>cases o;obtain⟨t,rfl⟩:=r;exact call_range_1 (zhE l (by lia) (by lia) c n (by simpa using q))
theorem zjU(k:Gl X "range")(l:X.mg "range"=none)(m:PA X [a,b] n)(hs:starEach [a,b] X.env=[(false,eval a X.env),(false,eval b X.env)]:=by rfl)(c:starEach [b] X.env=[(false,eval b X.env)]:=by rfl):
  PI X tg (.Call (.Name "range" p) [a,b] [] pos) (zts n):=by
 intro d s o H R I h;refine Call_ (zc9 I k l boot_range (PyProof.Rows.callWith_type1 (thn (m pos d s o H _ I h) fun B C z=>eY z fun E G u v f=>?_) (by rw[hs,c]) (by rw[c];rfl)));obtain⟨i,j,e,⟨f,w,x,y⟩,q⟩:=f;subst e;cases v with| cons r g=>cases g with| cons A g=>cases g;obtain⟨t,rfl⟩:=r;obtain⟨J,rfl⟩:=A;exact call_range_2 (zhE u f w x y q)
def tFor(f:TI)(g:TG)(h:TS):TS:=fun D a H=>f a H fun J j=>∃W:Nat->Nat->St->Hp->Prop,(∃m,W 0 m a j)/\∀i m a H,W i m a H->
 (J.stop i H/\D.nx a H)\/(J.go i H/\∃N:St->Hp->Prop,(∀b c,N b c->∃e,e<m/\W (i+1) e b c)/\∀x c,J.yld i H x c->g x a c fun d k=>h {D with nx:=N,ct:=N,bk:=D.nx} d k)
noncomputable def zfS(a:List Addr)(h:Heap):List (Addr×Obj):=a.filterMap fun b=>(h.get? b).map fun o=>(b,o)
theorem zb9(a:b∈c)(e:h.get? b=some o):(b,o)∈zfS c h:=List.mem_filterMap.mpr ⟨b,a,by rw[e];rfl⟩
theorem zj1(a:p∈zfS c h):p.1∈c/\h.get? p.1=some p.2:=by
 obtain⟨b,d,e⟩:=List.mem_filterMap.mp a;cases q:h.get? b with
 |none=>rw[q]at e;cases e
 |some o=>rw[q]at e;have f:=Option.some.inj e;subst f;exact⟨d,q⟩
theorem Inv.pinned(I:Inv X a h H s)(i:∀b∈c,FpOk X a H b)(j:∀b∈c,∃o,s.heap.get? b=some o/\∀v,o.data≠.cell v):Inv X (a++zfS c s.heap) h H s:=I.pins_of fun p k=>(mem_append.mp k).elim (fun z=>I.pin p (mem_append_right _ z)) fun z=>by obtain⟨f,e⟩:=zj1 z;obtain⟨l,m,n,_⟩:=i p.1 f;obtain⟨o,g,d⟩:=j p.1 f;rw[e]at g;cases g;exact⟨e,l,m,n,d⟩
theorem Inv.unpinned(I:Inv X (a++d) b H s):Inv X a b H s:=I.pins_of fun p c=>I.pin p (mem_append_right _ (mem_append_left _ c))
theorem znm(E:PassesOwn (model X.prog X.w) X.A X.env X.xe)(hc:X.calm=true)(hi:PI X tg y wi)(hg:PG X tg g)(j:PSs X G tb)(hs:∀x,foldedSetIterable y X.env x=pure x:=by intro _;rfl):PS X (.For tg y G [] pos) (tFor wi g tb):=by
 intro a s σ H D I h;refine wpAny_For (thn (hi a s σ H _ I h) fun v s1 h1=>thn h1 fun itv s2 h2=>?_) hs;obtain⟨it,L,tn,J,H2,e,I2,T,st2,f2,W,⟨m0,w0⟩,M⟩:=h2;subst e
 have k:∀{w:Hp},(∀b∈L,w b=none)->∀b∈L,FpOk X a w b:=fun hn b j=>⟨hn b j,(f2 b j).2⟩;refine codeAny_forLoop_any (fun n s'=>∃i l w,Inv X a l w s'/\tn i s'.heap/\(∀b∈L,w b=none)/\W i n l w) ?_ m0 ⟨0,σ,H2,I2,st2,fun b j=>(f2 b j).1,w0⟩;rintro n s3 ⟨i,p,H3,I3,Q,U,w3⟩;rcases M i n p H3 w3 with⟨stop,qn⟩|⟨go,N,hN,step⟩;refine wpAny_passesOwn E (thn (T.done X rfl rfl rfl hc i a s3 p H3 X.xe I3 (k U) Q stop) fun r s4 z'=>?_);obtain⟨hr,I4⟩:=z';subst hr;exact wpAny_execs_nil ⟨p,H3,I4,qn⟩;refine wpAny_passesOwn E (thn (T.item X rfl rfl rfl hc i a s3 p H3 X.xe I3 (k U) Q go) fun r s4 z=>?_);obtain⟨u,hr,h4⟩:=z;subst hr;refine wpAny_passesOwn E (thn h4 fun _ s5 z=>?_);obtain⟨x,H5,I5,r5,y5,C,fr5⟩:=z;have I5':=I5.pinned (k fr5) (T.obj _ _ C);refine wpAny_passesOwn E (thn (hg _ s5 p H5 x u _ I5' r5 (step x H5 y5)) fun _ s6 z=>?_);obtain⟨σ6,H6,I6,q6⟩:=z;refine wpAny_passesOwn E (thn (j _ s6 σ6 H6 _ I6 q6) fun f s7 B=>?_);have again:∀{c:St}{q:Hp},Inv X (a++zfS L s5.heap) c q s7->N c q->∃m,m<n/\∃i l w,Inv X a l w s7/\tn i s7.heap/\(∀b∈L,w b=none)/\W i m l w:=fun {c q} t Y=>by obtain⟨m',hm,w7⟩:=hN c q Y;refine⟨m',hm,i+1,c,q,t.unpinned,T.keep _ _ _ C fun b j o e=>(t.pin (b,o) (mem_append_right _ (mem_append_right _ (zb9 j e)))).1,fun b j=>?_,w7⟩;obtain⟨o,e,d⟩:=T.obj _ _ C b j;exact(t.pin (b,o) (mem_append_right _ (mem_append_right _ (zb9 j e)))).2.1
 cases f with|next=>obtain⟨c,q,t,Y⟩:=B;exact again t Y|cont=>obtain⟨c,q,t,Y⟩:=B;exact again t Y|brk=>obtain⟨c,q,t,B⟩:=B;exact⟨c,q,t.unpinned,B⟩|ret v=>obtain⟨x7,c,q,t,r7,B⟩:=B;exact⟨x7,c,q,t.unpinned,r7,B⟩
end
theorem zmJ{K}{g:TG}{k:TS}{D:Ends}(Pv:Nat->St->Hp->Prop)(n:Pv 0 b H)(o:∀i b H,i<=xs.length->Pv i b H->SqL K H a xs)(hs:∀i x b H,xs[i]?=some x->Pv i b H->g x b H fun c j=>k {D with nx:=Pv (i+1),ct:=Pv (i+1),bk:=D.nx} c j)(hd:∀b H,Pv xs.length b H->D.nx b H):
  ∃W:Nat->Nat->St->Hp->Prop,(∃m,W 0 m b H)/\∀i m b H,W i m b H->
   ((Itl K a).stop i H/\D.nx b H)\/((Itl K a).go i H/\∃N:St->Hp->Prop,(∀d f,N d f->∃l,l<m/\W (i+1) l d f)/\∀x f,(Itl K a).yld i H x f->g x b f fun c j=>k {D with nx:=N,ct:=N,bk:=D.nx} c j):=by
 refine⟨fun i m b H=>m=xs.length-i/\i<=xs.length/\Pv i b H,⟨xs.length,by simp,zero_le _,n⟩,?_⟩;rintro i m b H ⟨rfl,r,p⟩;have q:=o i b H r p;by_cases h:i<xs.length;refine .inr ⟨⟨xs,xs[i],q,by simp[h]⟩,Pv (i+1),fun d f s=>⟨xs.length-(i+1),by lia,rfl,h,s⟩,fun x f y=>?_⟩;obtain⟨e,y⟩:=y;subst e;exact hs i x b _ (y xs q) p;have e:i=xs.length:=by lia
 subst e;exact .inl ⟨⟨xs,q,le_refl _⟩,hd b H p⟩
abbrev R2:=V->V->Hp->VK->Prop
def OpR(X:Cx)(f:Value->Value->Sem Value)(r:R2):Prop:=
 ∀(a:List (Addr×Obj))(s:Shared)(b:St)(H:Hp)(x y:V)(v u:Value)(Q:VK),Inv X a b H s->RelV x v->RelV y u->r x y H Q->
  wpAny (model X.prog X.w) X.A (f v u) (EP X a b Q) X.xe s
def UnR(X:Cx)(f:Value->Sem Value)(r:V->Hp->VK->Prop):Prop:=
 ∀(a:List (Addr×Obj))(s:Shared)(b:St)(H:Hp)(x:V)(v:Value)(Q:VK),Inv X a b H s->RelV x v->r x H Q->
  wpAny (model X.prog X.w) X.A (f v) (EP X a b Q) X.xe s
def zcO(X:Cx)(f:Value)(r:List V->Hp->VK->Prop):Prop:=
 ∀(a:List (Addr×Obj))(s:Shared)(b:St)(H:Hp)(c:List V)(d:List Value)(Q:VK),Inv X a b H s->Vals c d->r c H Q->
  wpAny (model X.prog X.w) X.A (call f d) (EP X a b Q) X.xe s
def TruR(X:Cx)(r:V->Hp->(Bool->Hp->Prop)->Prop):Prop:=
 ∀(a:List (Addr×Obj))(s:Shared)(b:St)(H:Hp)(x:V)(v:Value)(Q:Bool->Hp->Prop),Inv X a b H s->RelV x v->r x H Q->
  wpAny (model X.prog X.w) X.A (truthy v) (TP X a b Q) X.xe s
def tOp(r:R2)(b c:TE):TE:=fun a H Q=>b a H fun x d=>c a d fun y e=>r x y e Q
def tUn(r:V->Hp->VK->Prop)(a:TE):TE:=fun b H Q=>a b H fun x c=>r x c Q
def rI(C:Int->Int->Prop)(g:Int->Int->V):R2:=fun x y H Q=>∃i j,x=.int i/\y=.int j/\C i j/\Q (g i j) H
def rI0(g:Int->Int->V):R2:=fun x y H Q=>∃i j,x=.int i/\y=.int j/\Q (g i j) H
def rU(g:Int->V):V->Hp->VK->Prop:=fun x H Q=>∃i,x=.int i/\Q (g i) H
section
variable{X:Cx}{a b c:Expr}{ta tb tc:TE}{pos:Pos}
theorem binT(m:PE X a ta)(n:PE X b tb){R:V->V->Hp->Prop}(I:Inv X d g H s)(h:ta g H fun x l=>tb g l fun y e=>R x y e){f:Value->Value->Sem Value}(o:∀v u k x y e,Inv X d g e k->RelV x v->RelV y u->R x y e->wpAny (model X.prog X.w) X.A (f v u) Q X.xe k):
  wpAny (model X.prog X.w) X.A (eval a X.env) (fun v i=>wpAny (model X.prog X.w) X.A (eval b X.env) (fun u j=>wpAny (model X.prog X.w) X.A (f v u) Q X.xe j) X.xe i) X.xe s:=by
 refine thn (m d s g H _ I h) fun v p z=>eY z fun x l q r t=>?_;exact thn (n d p g l _ q t) fun u k z=>eY z fun y e w A B=>(o v u k x y e w r A B)
theorem zrq(e:OpR X (binaryOp op) r)(f:PE X a ta)(g:PE X b tb):PE X (.BinOp a op b pos) (tOp r ta tb):=by intro d s i H Q I h;exact wpAny_BinOp (binT f g I h fun v u j x y k l m n q=>e d j i k x y v u Q l m n q)
theorem zs8(f:UnR X (unaryOp op) r)(g:PE X a ta):PE X (.UnaryOp op a pos) (tUn r ta):=by intro d s e H Q I h;exact UnaryOp_ (thn (g d s e H _ I h) fun v i z=>eY z fun x j k l m=>f d i e j x v Q k l m)
theorem opI{g:Int->Int->Int}(rule:∀(i j:Int)(t u:Tok)(s:Shared)(Q:Value->Shared->Prop)(E:Value->Shared->Prop),C i j->Q (.int (g i j) s.toks) {s with toks:=s.toks+1}->wpAny (model X.prog X.w) X.A (f (.int i t) (.int j u)) Q E s):
  OpR X f (rI C fun i j=>.int (g i j)):=by
 intro d s n H x y v u Q I e k h;obtain⟨i,j,rfl,rfl,l,q⟩:=h;obtain⟨t,rfl⟩:=e;obtain⟨m,rfl⟩:=k;exact rule i j t m s _ _ l ⟨.int (g i j),H,I.tok _,⟨_,rfl⟩,q⟩
theorem opI0{g:Int->Int->Int}(rule:∀(i j:Int)(t u:Tok)(s:Shared)(Q:Value->Shared->Prop)(E:Value->Shared->Prop),Q (.int (g i j) s.toks) {s with toks:=s.toks+1}->wpAny (model X.prog X.w) X.A (f (.int i t) (.int j u)) Q E s):
  OpR X f (rI0 fun i j=>.int (g i j)):=by
 intro d s m H x y v u Q I e k h;obtain⟨i,j,rfl,rfl,q⟩:=h;obtain⟨t,rfl⟩:=e;obtain⟨l,rfl⟩:=k;exact rule i j t l s _ _ ⟨.int (g i j),H,I.tok _,⟨_,rfl⟩,q⟩
theorem opB0{g:Int->Int->Bool}(rule:∀(i j:Int)(t u:Tok)(s:Shared)(Q:Value->Shared->Prop)(E:Value->Shared->Prop),Q (.bool (g i j)) s->wpAny (model X.prog X.w) X.A (f (.int i t) (.int j u)) Q E s):
  OpR X f (rI0 fun i j=>.bl (g i j)):=by
 intro d s m H x y v u Q I e k h;obtain⟨i,j,rfl,rfl,q⟩:=h;obtain⟨t,rfl⟩:=e;obtain⟨l,rfl⟩:=k;exact rule i j t l s _ _ ⟨.bl (g i j),H,I,rfl,q⟩
def CDiv(i j:Int):Prop:=0<j/\j<1073741824
def CPow(i j:Int):Prop:=0<=j/\j<=1000000/\i.natAbs<2^64
def CMul(i j:Int):Prop:=(-(2^64)<i/\i<2^64)\/(-(2^64)<j/\j<2^64)
theorem CMul.ok(h:CMul i j):IntMulOk i j:=by rcases h with⟨d,e⟩|⟨d,e⟩;exact .of_left (intBits_le_64 d e);exact .of_right (intBits_le_64 d e)
theorem znv:OpR X (binaryOp .Add) (rI0 fun i j=>.int (i+j)):=opI0 fun _ _ _ _ _ _ _ q=>add_int q
theorem zrz:OpR X (binaryOp .Sub) (rI0 fun i j=>.int (i-j)):=opI0 fun _ _ _ _ _ _ _ q=>sub_int q
theorem zrC:OpR X (binaryOp .Mult) (rI CMul fun i j=>.int (i*j)):=opI fun _ _ _ _ _ _ _ d q=>mul_int q d.ok
theorem zpe:OpR X (binaryOp .FloorDiv) (rI CDiv fun i j=>.int (i/j)):=opI fun i j _ _ _ _ _ d q=>by have e:=d.1;have f:=d.2;exact floordiv_int (by lia) (by rw[Int.fdiv_eq_ediv_of_nonneg i (by lia)];exact q) (.inl (PyProof.noPylong_small (by lia)))
theorem zrD:OpR X (binaryOp .Mod) (rI (fun _ j=>0<j) fun i j=>.int (i%j)):=opI fun i j _ _ _ _ _ d q=>by exact mod_int' (by lia) (by rw[Int.fmod_eq_emod_of_nonneg i (by lia)];exact q)
theorem zrA:OpR X (binaryOp .Pow) (rI CPow fun i j=>.int (i^j.toNat)):=opI fun _ _ _ _ _ _ _ d q=>pow_int_small d.1 d.2.1 d.2.2 q
theorem unI{g:Int->Int}(rule:∀(i:Int)(t:Tok)(s:Shared)(Q:Value->Shared->Prop)(E:Value->Shared->Prop),Q (.int (g i) s.toks) {s with toks:=s.toks+1}->wpAny (model X.prog X.w) X.A (f (.int i t)) Q E s):
  UnR X f (rU fun i=>.int (g i)):=by
 intro d s j H x v Q I e h;obtain⟨i,rfl,q⟩:=h;obtain⟨t,rfl⟩:=e;exact rule i t s _ _ ⟨.int (g i),H,I.tok _,⟨_,rfl⟩,q⟩
theorem zqc:UnR X (unaryOp .USub) (rU fun i=>.int (-i)):=unI fun _ _ _ _ _ q=>neg_int q
end
noncomputable def scal:V->V->Bool
 |.non,.non=>true|.non,.int _=>true|.int _,.non=>true|.non,.bl _=>true|.bl _,.non=>true|.non,.str _=>true|.str _,.non=>true
 |.int _,.int _=>true|.bl _,.bl _=>true|.str _,.str _=>true|.byt _,.byt _=>true
 |.int _,.str _=>true|.str _,.int _=>true|.bl _,.str _=>true|.str _,.bl _=>true
 |_,_=>false
def rEq:R2:=fun x y H Q=>scal x y=true/\Q (.bl (decide (x=y))) H
def rNe:R2:=fun x y H Q=>scal x y=true/\Q (.bl (!decide (x=y))) H
theorem zkZ:decide (V.int i=V.int j)=(i==j):=by rw[Bool.eq_iff_iff];simp
theorem znH:decide (V.bl i=V.bl j)=(i==j):=by rw[Bool.eq_iff_iff];simp
theorem zkY:decide (V.str i=V.str j)=(i==j):=by rw[Bool.eq_iff_iff];simp
theorem zk0:decide (V.byt i=V.byt j)=(i.toList==j.toList):=by rw[Bool.eq_iff_iff];cases i;cases j;simp
section
variable{X:Cx}{a b c:Expr}{ta tb tc:TE}{pos:Pos}
theorem zav(I:Inv X d f H s)(q:Q (.bl k) H)(e:k=g):EP X d f Q (.bool g) s:=by subst e;exact⟨.bl k,H,I,rfl,q⟩
theorem ztj:OpR X (compareOp .Eq) rEq:=by
 intro k s l H x y v u Q I g d h;obtain⟨f,q⟩:=h;cases x with
 |non=>cases g;cases y with|non=>cases d;exact PySem.EqNone.eq_none_none (zav I q (by simp))|bl j=>cases d;exact PySem.EqNone.eq_none_bool (zav I q (by simp))|int j=>obtain⟨e,rfl⟩:=d;exact PySem.EqNone.eq_none_int (zav I q (by simp))|str j=>obtain⟨e,rfl⟩:=d;exact PySem.EqNone.eq_none_str (zav I q (by simp))|_=>exact absurd (show false=true from f) Bool.false_ne_true
 |bl i=>cases g;cases y with|non=>cases d;exact PySem.EqNone.eq_bool_none (zav I q (by simp))|bl j=>cases d;exact eq_bool (zav I q znH)|str j=>obtain⟨e,rfl⟩:=d;exact PySem.EqMixed.eq_bool_str (zav I q (by simp))|_=>exact absurd (show false=true from f) Bool.false_ne_true
 |int i=>obtain⟨t,rfl⟩:=g;cases y with|non=>cases d;exact PySem.EqNone.eq_int_none (zav I q (by simp))|int j=>obtain⟨e,rfl⟩:=d;exact eq_int (zav I q zkZ)|str j=>obtain⟨e,rfl⟩:=d;exact PySem.EqMixed.eq_int_str (zav I q (by simp))|_=>exact absurd (show false=true from f) Bool.false_ne_true
 |str i=>obtain⟨t,rfl⟩:=g;cases y with|non=>cases d;exact PySem.EqNone.eq_str_none (zav I q (by simp))|bl j=>cases d;exact PySem.EqMixed.eq_str_bool (zav I q (by simp))|int j=>obtain⟨e,rfl⟩:=d;exact PySem.EqMixed.eq_str_int (zav I q (by simp))|str j=>obtain⟨e,rfl⟩:=d;exact eq_str (zav I q zkY)|_=>exact absurd (show false=true from f) Bool.false_ne_true
 |byt i=>obtain⟨t,rfl⟩:=g;cases y with|byt j=>obtain⟨e,rfl⟩:=d;exact PySem.W.eq_bytes (zav I q zk0)|_=>exact absurd (show false=true from f) Bool.false_ne_true
 |_=>cases y<;>exact absurd (show false=true from f) Bool.false_ne_true
theorem zte:OpR X (compareOp .NotEq) rNe:=by
 intro k s l H x y v u Q I g d h;obtain⟨f,q⟩:=h;cases x with
 |non=>cases g;cases y with|non=>cases d;exact PySem.EqNone.ne_none_none (zav I q (by simp))|bl j=>cases d;exact PySem.EqNone.ne_none_bool (zav I q (by simp))|int j=>obtain⟨e,rfl⟩:=d;exact PySem.EqNone.ne_none_int (zav I q (by simp))|str j=>obtain⟨e,rfl⟩:=d;exact PySem.EqNone.ne_none_str (zav I q (by simp))|_=>exact absurd (show false=true from f) Bool.false_ne_true
 |bl i=>cases g;cases y with|non=>cases d;exact PySem.EqNone.ne_bool_none (zav I q (by simp))|bl j=>cases d;exact ne_bool (zav I q (congrArg not znH))|str j=>obtain⟨e,rfl⟩:=d;exact PySem.EqMixed.ne_bool_str (zav I q (by simp))|_=>exact absurd (show false=true from f) Bool.false_ne_true
 |int i=>obtain⟨t,rfl⟩:=g;cases y with|non=>cases d;exact PySem.EqNone.ne_int_none (zav I q (by simp))|int j=>obtain⟨e,rfl⟩:=d;exact ne_int (zav I q (congrArg not zkZ))|str j=>obtain⟨e,rfl⟩:=d;exact PySem.EqMixed.ne_int_str (zav I q (by simp))|_=>exact absurd (show false=true from f) Bool.false_ne_true
 |str i=>obtain⟨t,rfl⟩:=g;cases y with|non=>cases d;exact PySem.EqNone.ne_str_none (zav I q (by simp))|bl j=>cases d;exact PySem.EqMixed.ne_str_bool (zav I q (by simp))|int j=>obtain⟨e,rfl⟩:=d;exact PySem.EqMixed.ne_str_int (zav I q (by simp))|str j=>obtain⟨e,rfl⟩:=d;exact ne_str (zav I q (congrArg not zkY))|_=>exact absurd (show false=true from f) Bool.false_ne_true
 |byt i=>obtain⟨t,rfl⟩:=g;cases y with|byt j=>obtain⟨e,rfl⟩:=d;exact PySem.W.ne_bytes (zav I q (congrArg not zk0))|_=>exact absurd (show false=true from f) Bool.false_ne_true
 |_=>cases y<;>exact absurd (show false=true from f) Bool.false_ne_true
theorem ztf:OpR X (compareOp .Lt) (rI0 fun i j=>.bl (decide (i<j))):=opB0 fun _ _ _ _ _ _ _ q=>lt_int q
theorem ztg:OpR X (compareOp .LtE) (rI0 fun i j=>.bl (decide (i<=j))):=opB0 fun _ _ _ _ _ _ _ q=>le_int q
theorem zth:OpR X (compareOp .Gt) (rI0 fun i j=>.bl (decide (j<i))):=opB0 fun _ _ _ _ _ _ _ q=>gt_int q
theorem zti:OpR X (compareOp .GtE) (rI0 fun i j=>.bl (decide (j<=i))):=opB0 fun _ _ _ _ _ _ _ q=>ge_int q
theorem zpd:OpR X (compareOp .IsNot) (fun x y H Q=>y=.non/\Q (.bl (!decide (x=.non))) H):=by
 intro d s g H x y v u Q I e f h;obtain⟨rfl,q⟩:=h;cases f;refine isnot_none_gen (zav I q ?_);cases x<;>first
  |(cases e;rfl)
  |(obtain⟨t,rfl⟩:=e;rfl)
theorem znw(b)(h:op≠.In:=by decide)(d:op≠.NotIn:=by decide):behindInMarks op b=false:=by
 have e:(op==CmpOp.In)=false:=by cases op<;>first|rfl|exact absurd rfl h
 have f:(op==CmpOp.NotIn)=false:=by cases op<;>first|rfl|exact absurd rfl d
 cases b<;>simp[behindInMarks,e,f]
theorem zo9(e:OpR X (compareOp op) r)(f:PE X a ta)(g:PE X b tb)(i:behindInMarks op b=false):PE X (.Compare a [op] [b] pos) (tOp r ta tb):=by intro d s j H Q I h;exact wpAny_Compare1 (binT f g I h fun v u k x y l m n o q=>e d k j l x y v u Q m n o q) i
def znU(t:TE):TT:=fun d H Q=>t d H fun x e=>∃k,x=.bl k/\Q k e
theorem zjO(i:OpR X (compareOp op) r)(l:PE X a ta)(m:PE X b tb)(n:behindInMarks op b=false):PT X (.Compare a [op] [b] pos) (znU (tOp r ta tb)):=by intro d s f H Q I h;refine wpAny_isTrue_Compare1 (thn (l d s f H _ I h) fun v o g=>eY g fun x p q t w=>thn (m d o f p _ q w) fun u A g=>eY g fun y B C E G=>thn (i d A f B x y v u _ C t E G) fun c O j=>?_) n;obtain⟨z,J,L,M,k,e,N⟩:=j;subst e;cases M;exact wpAny_truthy_bool ⟨J,L,N⟩
def znb(r f:R2)(ta tb tc:TE):TE:=fun d H Q=>ta d H fun x g=>tb d g fun y h=>r x y h fun z e=>∃k,z=.bl k/\
 (if k=true then tc d e fun i j=>f y i j Q else Q (.bl false) e)
theorem zmj(q:OpR X (compareOp op) r)(l:OpR X (compareOp g) t)(w:PE X a ta)(A:PE X b tb)(B:PE X c tc)(C:lastMarks [op,g] [b,c]=false:=by with_unfolding_all rfl):PE X (.Compare a [op,g] [b,c] pos) (znb r t ta tb tc):=by
 intro f s i H Q I h;refine Compare_chain (thn (w f s i H _ I h) fun v E ⟨x,G,J,L,M⟩=>chain_link (thn (A f E i G _ J M) fun u N ⟨y,O,T,m,U⟩=>thn (q f N i O x y v u _ T L m U) fun d Y j=>?_)) C;obtain⟨z,n,o,r3,k,e,p⟩:=j;subst e;cases r3;refine wpAny_truthy_bool ?_;cases k with|false=>exact ite_ff ⟨.bl false,n,o,rfl,p⟩|true=>exact ite_tt (chain_last (thn (B f Y i n _ o p) fun w' s4 k'=>(by obtain⟨z',H4,I4,r4,q4⟩:=k';exact l f s4 i H4 y z' u w' Q I4 m r4 q4)))
theorem zl0(q:OpR X (compareOp op) r)(l:OpR X (compareOp g) t)(w:PE X a ta)(A:PE X b tb)(B:PE X c tc)(C:lastMarks [op,g] [b,c]=false:=by with_unfolding_all rfl):PT X (.Compare a [op,g] [b,c] pos) (znU (znb r t ta tb tc)):=by
 intro f s i H Q I h;refine isTrue_chain (thn (w f s i H _ I h) fun v E ⟨x,G,J,L,M⟩=>test_link (thn (A f E i G _ J M) fun u N ⟨y,O,T,m,U⟩=>thn (q f N i O x y v u _ T L m U) fun d Y j=>?_)) C;obtain⟨z,n,o,r3,k,e,p⟩:=j;subst e;cases r3;refine wpAny_truthy_bool ?_;cases k with| false=>obtain⟨k',e',q'⟩:=p;cases e';exact ite_ff ⟨n,o,q'⟩| true=>refine ite_tt (test_last (thn (B f Y i n _ o p) fun w' s4 ⟨z',H4,I4,r4,q4⟩=>thn (l f s4 i H4 y z' u w' _ I4 m r4 q4) fun d' s5 j=>?_));obtain⟨z2,H5,I5,r5,k2,e2,q5⟩:=j;subst e2;cases r5;exact wpAny_truthy_bool ⟨H5,I5,q5⟩
def TruV(K:PySem.W.Frag)(x:V)(H:Hp)(k:Bool):Prop:=match x with|.non=>k=false|.bl b=>k=b|.int i=>k=(i != 0)|.str y=>y.length<=sizeLine/\k=((y.length:Int) != 0)|.byt y=>y.size<=sizeLine/\k=((y.size:Int) != 0)|.ref p=>(∃d,SqL K H p d/\k = !d.isEmpty)\/(∃d,SqT K H p d/\k = !d.isEmpty)\/∃e,H p=some (.dK e)/\k = !e.isEmpty|_=>False
theorem ziL(r:KV kvs vs):(!vs.isEmpty) = !kvs.isEmpty:=by cases r<;>rfl
theorem zev(r:Vals xs its):(!its.toArray.isEmpty) = !xs.isEmpty:=by cases r<;>simp
theorem zf2:(sizeLine:Nat)<2^63:=by decide
theorem zqf:TruR X (fun x H Q=>∃k,TruV X.K x H k/\Q k H):=by
 intro z s E H x v Q I l h;obtain⟨k,e,q⟩:=h;have J:=sizeLine_eq;cases x with
 |non=>cases l;have d:=e;subst d;exact truthy_none ⟨H,I,q⟩| bl b=>cases l;have d:=e;subst d;exact wpAny_truthy_bool ⟨H,I,q⟩| int i=>obtain⟨t,rfl⟩:=l;have d:=e;subst d;exact PySem.P.truthy_int ⟨H,I,q⟩| str y=>obtain⟨t,rfl⟩:=l;obtain⟨B,d⟩:y.length<=sizeLine/\k=((y.length:Int) != 0):=e;subst d;exact PySem.P.truthy_str (by lia) ⟨H,I.tok _,q⟩| byt y=>obtain⟨t,rfl⟩:=l;obtain⟨B,d⟩:y.size<=sizeLine/\k=((y.size:Int) != 0):=e;subst d;exact PySem.W.truthy_bytes (by lia) ⟨H,I.tok _,q⟩| ref p=>cases l;have d:=e;rcases d with⟨j,n,d⟩|⟨j,n,d⟩|⟨f,n,d⟩;subst d;obtain⟨u,r,w,A⟩:=I.list n;have g:=r.length;exact wpAny_truthy_list w.isList (by simp only[size_toArray];lia) ⟨H,I.tok _,by rw[zev r];exact q⟩;subst d;obtain⟨u,r,w,A⟩:=I.tuple n;have g:=r.length;exact truthy_tuple w (by simp only[size_toArray];lia) ⟨H,I.tok _,by rw[zev r];exact q⟩;subst d;obtain⟨A,C,o,r,m⟩:f.length<=sizeLine/\(p==sysModules)=false/\∃o,KV f o/\s.heap.DictOf (zat X.prog X.w) p o:=I.hok p _ n;have g:=Paired.length r;exact wpAny_truthy_dict C m (by lia) ⟨H,I.tok _,by rw[ziL r];exact q⟩
 |_=>exact(show False from e).elim
theorem zlZ(i:PE X a ta)(j:∀d,isTrue a X.env d=(do let v <-d;standAt a.pos;holding [v] (truthy v))) :
  PT X a (fun f H Q=>ta f H fun x g=>∃k,TruV X.K x g k/\Q k g):=by
 intro e s f H Q I h;exact isTrue_plain (thn (i e s f H _ I h) fun v l z=>eY z fun x m n o p=>zqf e l f m x v Q n o p) (j _)
theorem zlo(r:Vals [x] us):∃u,us=[u]/\RelV x u:=by cases r with|cons d e=>cases e;exact⟨_,rfl,d⟩
theorem zln(r:Vals [x,y] us):∃u d,us=[u,d]/\RelV x u/\RelV y d:=by cases r with| cons e f=>cases f with|cons g h=>cases h;exact⟨_,_,rfl,e,g⟩
theorem zm0:zcO X (.builtin "abs") (fun xs H Q=>∃i,xs=[.int i]/\Q (.int (if i<0 then -i else i)) H):=by intro d s e H xs f Q I r h;obtain⟨i,rfl,q⟩:=h;obtain⟨u,rfl,t,rfl⟩:=zlo r;exact call_abs_int fun u g=>⟨.int (if i<0 then -i else i),H,I.tok _,⟨_,rfl⟩,q⟩
end
structure ObjM(h:Heap)(x dx C:Addr)(mA:Str->Option Value):Prop where
 obj:h.get? x=some (instObj C dx)
 ns:h.Ns1 dx mA
 ne:dx≠x
theorem zf1{h:Heap}(n:h.Ns1 d f):∃od,h.get? d=some od/\∀name,lookIn name od=some (f name):=by
 obtain⟨o,c,p,g,i,j,_,k⟩:=n;refine⟨o,g,fun name=>?_⟩;have e:=k name;unfold nsFind findBy at e;rw[<-Array.find?_toList]at e;unfold lookIn;rw[i];dsimp only;split;rename_i y q;rw[q]at e;exact congrArg some e;rename_i q;rw[q]at e;have a:c.toList.any (·.refKey)=false:=by rw[List.any_eq_false];intro y l;obtain⟨z,t,b⟩:=j y (Array.mem_toList_iff.mp l);simp[DictEntry.refKey,b]
 have m:¬c.toList.any (·.refKey)=true:=by rw[a];exact Bool.false_ne_true
 rw[if_neg m];exact congrArg some e
theorem ObjM.look(I:ObjM h x a C b):∃od,PySem.W.InstAt h x (instObj C a) C (some od)/\∀name,lookIn name od=some (b name):=
 let ⟨od,c,d⟩:=zf1 I.ns
 ⟨od,⟨I.obj,rfl,rfl,c⟩,d⟩
section
variable{prog:Program}{w:World}{A:Around}{E:Value->Shared->Prop}{s:Shared}{K:PySem.W.Frag}{x dx C f:Addr}{mA:Str->Option Value}{name:Str}{v:Value}
theorem zpE(X:K.In s.heap)(I:ObjM s.heap x dx C mA)(c:plainGet K C name=true)(d:PySem.W.hasDictIn K C=true)(e:PySem.W.findIn K (.ref C) name=some none)(hv:mA name=some v)(a:handedIn v=true)(h:Q v {s with toks:=s.toks+1}):
  wpAny (model prog w) A (getAttr (.ref x) name b) Q E s:=by
 obtain⟨i,J,g⟩:=I.look;exact PySem.W.get_value X J (plainGet_of c).1 (PySem.W.findObj_own d e rfl (by rw[g,hv])) a h
theorem zmI(X:K.In s.heap)(I:ObjM s.heap x dx C mA)(a:plainGet K C name=true)(b:PySem.W.findIn K (.ref C) name=some (some (.ref f)))(c:isFn K (.ref f)=true)(hv:mA name=none)(h:Q (.ref f,[.ref x]) s):
  wpAny (model prog w) A (getMethod (.ref x) name g) Q E s:=by
 obtain⟨d,J,e⟩:=I.look;exact PySem.W.method_fn X J (plainGet_of a).1 (plainGet_of a).2 b (beq_iff_eq.mp c) (by show(lookIn name d).map (·.isSome)=some false;rw[e,hv];rfl) h
theorem zob(X:K.In s.heap)(I:ObjM s.heap x dx C mA)(hs:PySem.W.findIn K (.ref C) "__setattr__"=some (some (.builtin "object.__setattr__")))(k:plainOver K C=true)(l:takerIn K C name=some none)(m:PySem.W.hasDictIn K C=true)(n:PySem.Within mA o)(hsz:o.length<=sizeLine)(h:∀h',ObjM h' x dx C (fun y=>if y=name then some v else mA y)->Heap.SameBut dx s.heap h'->Q () {s with heap:=h',toks:=s.toks+2}):
  wpAny (model prog w) A (setAttr (.ref x) name v) Q E s:=by
 obtain⟨z,J,B⟩:=I.look;refine PySem.W.set_plain X J hs (PySem.W.osa_open X J k l fun b=>?_);obtain⟨G,p,e⟩:=PySem.W.any_some m;have q:=I.obj;refine wpAny_bind (wpAny_pure (wpAny_bind (wpAny_bind (wpAny_loadPart q (wpAny_bind (PySem.W.Looks.here (PySem.W.looks_clsIn X p) ?_))))));rw[e];refine wpAny_pure (wpAny_bind (wpAny_pure (wpAny_bind ?_)));refine wpAny_nsSet1 I.ns fun h' c d=>?_;obtain⟨oD,t,u,g,i,j⟩:=c.count (PySem.Within.cons name v n);refine wpAny_bind (wpAny_lookBehind g (by rw[i];exact pastItsLine_dict (le_trans j (by rw[length_cons];lia))) ?_);exact wpAny_pure (h _ ⟨(d.2 _ (Ne.symm I.ne)).trans I.obj,c,I.ne⟩ d)
theorem zhQ(X:K.In s.heap)(b:makesIn K C=true)(hi:PySem.W.findIn K (.ref C) "__init__"=some (some (.ref f)))(c:PySem.W.typeIn K (.ref f)=some (.type "function"))(h:codeAny (model prog w) (A.under (.builtin "type.__call__" ⟨.ref C::vs,a⟩)) (.call (.ref f) ⟨.ref (s.heap.objs.size+1)::vs,a⟩) (PySem.W.InitBack (s.heap.objs.size+1) R)
   {s with heap:=(s.heap.push emptyDict).push (instObj C s.heap.objs.size)}):
  codeAny (model prog w) A (.call (.ref C) ⟨vs,a⟩) R s:=by
 exact PySem.W.make_core (PySem.W.makes_of X b) (PySem.W.looks_findIn X hi) (fun self=>PySem.W.bind_fn X self c) (.inl rfl) h
end
noncomputable def putF(f:Str)(v:V):List (Str×V)->List (Str×V)
 | []=>[(f,v)]|(g,x)::r=>if g=f then(g,v)::r else(g,x)::putF f v r
theorem zdK(f g)(v):∀c:List (Str×V),(putF f v c).lookup g=if g=f then some v else c.lookup g
 | []=>by show List.lookup g [(f,v)]=_;by_cases h:g=f;have a:=beq_iff_eq.mpr h;simp only[List.lookup,a,if_pos h];have a:=beq_eq_false_iff_ne.mpr h;simp only[List.lookup,a,if_neg h]| (k,x)::r=>by have d:=zdK f g v r;rw[show putF f v ((k,x)::r)=(if k=f then(k,v)::r else(k,x)::putF f v r) from rfl];by_cases b:k=f;rw[if_pos b];by_cases h:g=k;have a:=beq_iff_eq.mpr h;simp only[List.lookup,a,if_pos (h.trans b)];have a:=beq_eq_false_iff_ne.mpr h;simp only[List.lookup,a,if_neg (fun e:g=f=>h (e.trans b.symm))];rw[if_neg b];by_cases h:g=k;have a:=beq_iff_eq.mpr h;simp only[List.lookup,a,if_neg (fun e:g=f=>b (h.symm.trans e))];have a:=beq_eq_false_iff_ne.mpr h;simp only[List.lookup,a];exact d
theorem zdM(f)(v):∀a:List (Str×V),f∈(putF f v a).map (·.1)/\∀g,g∈a.map (·.1)->g∈(putF f v a).map (·.1)
 | []=>⟨by simp[putF],fun g h=>by simp at h⟩| (k,x)::r=>by obtain⟨c,d⟩:=zdM f v r;rw[show putF f v ((k,x)::r)=(if k=f then(k,v)::r else(k,x)::putF f v r) from rfl];by_cases b:k=f;subst b;exact⟨by simp,fun g h=>by simpa using h⟩;rw[if_neg b];refine⟨?_,fun g h=>?_⟩;exact mem_cons_of_mem _ c;rcases mem_cons.mp h with e|e;exact mem_cons.mpr (.inl e);exact mem_cons_of_mem _ (d g e)
theorem zdL(f)(v):∀a:List (Str×V),(putF f v a).length<=a.length+1
 | []=>by simp[putF]| (k,x)::r=>by have c:=zdL f v r;rw[show putF f v ((k,x)::r)=(if k=f then(k,v)::r else(k,x)::putF f v r) from rfl];by_cases b:k=f;rw[if_pos b,length_cons,length_cons];lia;rw[if_neg b,length_cons,length_cons];lia
theorem RelO.some_of(r:RelO (some v) o):∃u,o=some u/\RelV v u:=by cases o with|none=>exact(show False from r).elim|some u=>exact⟨u,rfl,r⟩
theorem RelO.none_of(r:RelO none o):o=none:=by cases o with|none=>rfl|some u=>exact(show False from r).elim
theorem zgc(r:RelV v u):handedIn u=true:=by cases v with|non=>cases(show u=Value.none from r);rfl|bl b=>cases(show u=Value.bool b from r);rfl|int i=>obtain⟨t,e⟩:=(show ∃t,u=Value.int i t from r);cases e;rfl|str x=>obtain⟨t,e⟩:=(show ∃t,u=Value.str x t from r);cases e;rfl|byt b=>obtain⟨t,e⟩:=(show ∃t,u=Value.bytes b t from r);cases e;rfl|flt b=>obtain⟨t,e⟩:=(show ∃t,u=Value.float b t from r);cases e;rfl|ref a=>cases(show u=Value.ref a from r);rfl|ty n=>cases(show u=Value.type n from r);rfl
section
variable{P:Program}{w:World}{H H':Hp}{h h':Heap}{a C dx:Addr}{fs fs':List (Str×V)}
theorem zfa(hok:HOk P w H h)(e:H a=some (.ins C dx fs)):∃b,ObjM h a dx C b/\(∀f,RelO (fs.lookup f) (b f))/\PySem.Within b (fs.map (·.1))/\fs.length<=1000/\H dx=some (.own a):=by obtain⟨d,z,c,g,b,n,r,q⟩:=(show ObjOk P w H h a (.ins C dx fs) from hok a _ e);exact⟨b,⟨g,n,c⟩,r,q,z,d⟩
end
structure Cls(K:PySem.W.Frag)(C:Addr):Prop where
 pg:plainGet K C Str.empty=true
 hd:PySem.W.hasDictIn K C=true
 po:plainOver K C=true
 sa:PySem.W.findIn K (.ref C) "__setattr__"=some (some (.builtin "object.__setattr__"))
theorem Cls.get{K}(c:Cls K C)(f):plainGet K C f=true:=c.pg
def NoAttr(K:PySem.W.Frag)(C:Addr)(f:Str):Prop:=PySem.W.findIn K (.ref C) f=some none
theorem NoAttr.taker{K}(n:NoAttr K C f):takerIn K C f=some none:=by unfold takerIn;rw[show PySem.W.findIn K (.ref C) f=some none from n];rfl
structure Con(K:PySem.W.Frag)(C:Addr)(f:Str)(v:V)(u:Value):Prop where
 at_:PySem.W.findIn K (.ref C) f=some (some u)
 rel:RelV v u
 get:specialIn K u "__get__"=some none
 cp:PySem.W.copiedNames.contains f=false
structure Meth(K:PySem.W.Frag)(C:Addr)(m:Str)(f:Addr):Prop where
 at_:PySem.W.findIn K (.ref C) m=some (some (.ref f))
 fn:isFn K (.ref f)=true
 kp:keepIn K (.ref f)=true
section
variable{X:Cx}{pins:List (Addr×Obj)}{σ:St}{H:Hp}{s:Shared}{a C dx:Addr}{fs:List (Str×V)}{f:Str}{v:V}{A:Around}{E:Value->Shared->Prop}
theorem ziN(I:Inv X pins σ H s)(e:H a=some (.ins C dx fs))(c:Cls X.K C)(n:NoAttr X.K C f)(l:fs.lookup f=some v)(h:∀u d,Inv X pins σ H d->RelV v u->Q u d):wpAny (model X.prog X.w) A (getAttr (.ref a) f b) Q E s:=by
 obtain⟨i,O,r,_,_,_⟩:=zfa I.hok e;obtain⟨u,j,g⟩:=RelO.some_of (by rw[<-l];exact r f);exact zpE I.kIn O (c.get f) c.hd n j (zgc g) (h u _ (I.tok _) g)
theorem zc2(I:Inv X pins σ H s)(e:H a=some (.ins C dx fs))(c:Cls X.K C)(k:Meth X.K C m g)(l:fs.lookup m=none)(h:Q (.ref g,[.ref a]) s):wpAny (model X.prog X.w) A (getMethod (.ref a) m i) Q E s:=by
 obtain⟨b,O,r,_,_,_⟩:=zfa I.hok e;have d:=RelO.none_of (by rw[<-l];exact r m);exact zmI I.kIn O (c.get m) k.at_ k.fn d h
theorem zio(I:Inv X pins σ H s)(e:H a=some (.ins C dx fs))(c:Cls X.K C)(n:NoAttr X.K C f)(M:fs.length<1000)(m:RelV y u)(h:∀i,Inv X pins σ (upd H a (.ins C dx (putF f y fs))) i->Q () i):wpAny (model X.prog X.w) A (setAttr (.ref a) f u) Q E s:=by
 obtain⟨j,O,r,k,_,l⟩:=zfa I.hok e;have p:(fs.map (·.1)).length<=sizeLine:=by rw[length_map,sizeLine_eq];lia
 refine zob I.kIn O c.sa c.po n.taker c.hd k p fun t d w=>h _ ?_;have B:∃o,t.get? dx=some o:=let ⟨o,_,_,G,_⟩:=d.ns;⟨o,G⟩;refine I.write (by rw[e];exact True.intro) (.inr l) (fun b q J z=>(w.2 b J).trans z) B ?_;refine⟨by rw[zae O.ne];exact l,?_,O.ne,d.obj,_,d.ns,fun g=>?_,fun g L=>?_⟩
 have:=zdL f y fs;lia;rw[zdK];by_cases q:g=f;rw[if_pos q,if_pos q];exact m;rw[if_neg q,if_neg q];exact r g;by_cases q:g=f;rw[q];exact(zdM f y fs).1;refine(zdM f y fs).2 g (k g fun z=>L ?_);show(if g=f then some u else j g)=none;rw[if_neg q];exact z
theorem Inv.made(I:Inv X pins σ H s):Inv X pins σ (upd (upd H s.heap.objs.size (.own (s.heap.objs.size+1))) (s.heap.objs.size+1) (.ins C s.heap.objs.size []))
  {s with heap:=(s.heap.push emptyDict).push (instObj C s.heap.objs.size)}:=by
 have c:(s.heap.push emptyDict).get? s.heap.objs.size=some emptyDict:=Heap.get?_push_size s.heap rfl;have g:((s.heap.push emptyDict).push (instObj C s.heap.objs.size)).get? (s.heap.objs.size+1)=some (instObj C s.heap.objs.size):=by
  have:=Heap.get?_push_size (s.heap.push emptyDict) (o:=instObj C s.heap.objs.size) rfl
  rwa [Heap.size_push]at this
 have h:(s.heap.push emptyDict).Ns s.heap.objs.size (fun _=>none):=⟨emptyDict,#[],_,c,rfl,(fun e i=>absurd i (by simp)),fun _=>rfl⟩;have j:=I.laid (o:=.own (s.heap.objs.size+1)) (t':=s.toks) (fun b u q=>Heap.get?_push_of_some _ q) (le_refl _) ⟨_,c⟩;refine j.laid (fun b u q=>Heap.get?_push_of_some _ q) (le_of_eq (Heap.size_push _ _)) ?_;have d:s.heap.objs.size≠s.heap.objs.size+1:=ne_of_lt (lt_succ_self _);refine⟨by rw[zae d,zag],zero_le _,d,g,fun _=>none,(Heap.Ns1.of_empty h).at fun o q=>Heap.get?_push_of_some _ q,fun _=>True.intro,fun y k=>absurd rfl k⟩
theorem zld(c:attributeBase e f env (eval e env)=eval e env)(h:wpAny (model prog w) A (eval e env) (fun o b=>wpAny (model prog w) A (getAttr o f true) Q E b) E s):wpAny (model prog w) A (eval (.Attribute e f pos) env) Q E s:=
 Attribute_any_ h (by rw[arm_eval_Attribute,c])
end
def tFld(K:PySem.W.Frag)(d:TE)(f:Str):TE:=fun e H Q=>d e H fun x b=>∃a C g c v,x=.ref a/\b a=some (.ins C g c)/\Cls K C/\NoAttr K C f/\c.lookup f=some v/\Q v b
def sFld(K:PySem.W.Frag)(g h:TE)(f:Str):TS:=fun D b H=>h b H fun y i=>g b i fun x d=>∃a C e c,x=.ref a/\d a=some (.ins C e c)/\Cls K C/\NoAttr K C f/\c.length<1000/\
 D.nx b (upd d a (.ins C e (putF f y c)))
section
variable{X:Cx}{o e value:Expr}{f:Str}{pos pos' tpos:Pos}{ta tv:TE}
theorem zrw(d:PE X e ta)(g:attributeBase e f X.env (eval e X.env)=eval e X.env):PE X (.Attribute e f pos) (tFld X.K ta f):=by intro b s i H Q I h;refine zld g (thn (d b s i H _ I h) fun u y z=>?_);obtain⟨x,j,k,m,a,C,A,B,v,p,r,c,n,l,q⟩:=z;subst p;obtain rfl:u=Value.ref a:=m;exact ziN k r c n l fun E G t w=>⟨v,j,t,w,q⟩
theorem znn(g:PE X o ta)(hv:PE X value tv)(hs:swapsWith value (some (.Attribute o f pos')) pos.line X.env=pure false):PS X (.Assign [.Attribute o f pos'] value pos) (sFld X.K ta tv f):=by intro b s d H D I h;refine plainObj_wpAny_Assign_Attribute (thn (hv b s d H _ I h) fun u i z=>eY z fun y j m p q=>thn (g b i d j _ m q) fun r G k=>?_) hs;obtain⟨x,J,t,v,a,C,L,M,w,A,c,n,l,B⟩:=k;subst w;obtain rfl:r=Value.ref a:=v;exact zio t A c n l p fun N E=>⟨d,_,E,B⟩
end
section
variable{X:Cx}{pins:List (Addr×Obj)}{σ:St}{H:Hp}{s:Shared}{A:Around}{E:Value->Shared->Prop}{Q:Value->Shared->Prop}{c:Value}{b:Bool}
inductive TyOf(K:PySem.W.Frag)(H:Hp):V->Value->Prop where
 |non:TyOf K H .non (.type "NoneType")
 |bl (x:Bool):TyOf K H (.bl x) (.type "bool")
 |int (i:Int):TyOf K H (.int i) (.type "int")
 |str (x:Str):TyOf K H (.str x) (.type "str")
 |flt (x:UInt64):TyOf K H (.flt x) (.type "float")
 |lst {a:Addr} {xs:List V} (e:H a=some (.lst xs)):TyOf K H (.ref a) (.type "list")
 |frz {a:Addr} {o:Obj} {xs:List V} (e:H a=some (.frz o (.lst xs))):TyOf K H (.ref a) (.type "list")
 |tup {a:Addr} {xs:List V} (e:H a=some (.tup xs)):TyOf K H (.ref a) (.type "tuple")
 |dK {a:Addr} {kvs:List (Key×V)} (e:H a=some (.dK kvs)):TyOf K H (.ref a) (.type "dict")
 |dT {a:Addr} {kvs:List (List Key×V)} (e:H a=some (.dT kvs)):TyOf K H (.ref a) (.type "dict")
 |ins {a C dx:Addr} {fs:List (Str×V)} (e:H a=some (.ins C dx fs)) (cl:Cls K C) (ha:PySem.W.findIn K (.ref C) "__class__"=some (some (.builtin "object.__class__")))
  (hn:specialIn K (.builtin "object.__class__") "__get__"=some (some (.builtin "getset_descriptor.__get__"))) (htk:takesIn K (.builtin "object.__class__")=some true)
  (hm:PySem.W.mroIn K C (.type "object")=some true):TyOf K H (.ref a) (.ref C)
theorem zks(I:Inv X pins σ H s)(rx:RelV x u)(ty:TyOf X.K H x t)(e:kitOne X.K t c=some b)(h:∀tk,Q (.bool b) {s with toks:=tk}):
  wpAny (model X.prog X.w) A (call (.builtin "isinstance") [u,c]) Q E s:=by
 cases ty with|non=>cases(show u=Value.none from rx);exact kia_one PySem.W.kitx_none I.kIn True.intro e (fun z=>by cases z) h|bl y=>cases(show u=Value.bool y from rx);exact kia_one PySem.W.kitx_bool I.kIn True.intro e (fun z=>by cases z) h|int i=>obtain⟨t,q⟩:=(show ∃t,u=Value.int i t from rx);cases q;exact kia_one PySem.W.kitx_int I.kIn True.intro e (fun z=>by cases z) h|str y=>obtain⟨t,q⟩:=(show ∃t,u=Value.str y t from rx);cases q;exact kia_one PySem.W.kitx_str I.kIn True.intro e (fun z=>by cases z) h|flt y=>obtain⟨t,q⟩:=(show ∃t,u=Value.float y t from rx);cases q;exact kia_one PySem.W.kitx_float I.kIn True.intro e (fun z=>by cases z) h| @lst a xs ea=>cases(show u=Value.ref a from rx);obtain⟨_,_,n,_,h1⟩:=(show ObjOk X.prog X.w H s.heap a (.lst xs) from I.hok a _ ea);exact kia_one kitx_list I.kIn ⟨_,h1,rfl⟩ e (fun z=>by cases z) h| @frz a ob xs ea=>cases(show u=Value.ref a from rx);obtain⟨_,_,_,n,_,h1⟩:=(show ObjOk X.prog X.w H s.heap a (.frz ob (.lst xs)) from I.hok a _ ea);exact kia_one kitx_list I.kIn ⟨_,h1,rfl⟩ e (fun z=>by cases z) h| @tup a xs ea=>cases(show u=Value.ref a from rx);obtain⟨_,_,_,p⟩:=(show ObjOk X.prog X.w H s.heap a (.tup xs) from I.hok a _ ea);obtain⟨o,h1,h2,_⟩:=p;exact kia_one PySem.W.kitx_tuple I.kIn ⟨o,h1,h2⟩ e (fun z=>by cases z) h| @dK a kvs ea=>cases(show u=Value.ref a from rx);obtain⟨_,_,vs,_,p⟩:=(show ObjOk X.prog X.w H s.heap a (.dK kvs) from I.hok a _ ea);obtain⟨o,es,ep,h1,h2,_⟩:=p;exact kia_one kitx_dict I.kIn ⟨o,h1,h2.1⟩ e (fun z=>by cases z) h| @dT a kvs ea=>cases(show u=Value.ref a from rx);obtain⟨_,_,xs,_,o,es,ep,h1,h2,_⟩:=(show ObjOk X.prog X.w H s.heap a (.dT kvs) from I.hok a _ ea);exact kia_one kitx_dict I.kIn ⟨o,h1,h2.1⟩ e (fun z=>by cases z) h| @ins a C dx fs ea cl ha hn htk hm=>cases(show u=Value.ref a from rx);obtain⟨mA,O,_⟩:=zfa I.hok ea;obtain⟨od,J,_⟩:=O.look;exact kia_one (PySem.W.kitx_own (cl.get _) cl.hd ha hn htk hm) I.kIn J e (fun z=>by cases z) h
end
structure Room(k:Nat)(A:Around):Prop where
 hd:A.handled=none
 dp:A.depth+3*k+5<recursionLimit
 un:A.units+16*k+200<cLine
theorem Room.mono(r:Room k A)(h:j<=k):Room j A:=⟨r.hd,by have:=r.dp;lia,by have:=r.un;lia⟩
theorem Room.deeper(r:Room (k+1) A)(env):Room k (A.deeper env):=⟨r.hd,by have:=r.dp;show A.depth+1+3*k+5<_;lia,by have:=r.un;show A.units+3+16*k+200<_;lia⟩
theorem Room.in1(r:Room (k+1) A):Room k A.in1:=⟨r.hd,by have:=r.dp;lia,by have:=r.un;lia⟩
theorem ziI{A:Around}:(A.under (.builtin "type.__call__" ⟨.ref C::us,a⟩)).depth=A.depth+1:=by first|rfl|simp[Code.weight]
theorem ziH{A:Around}:(A.under (.builtin "type.__call__" ⟨.ref C::us,a⟩)).units=A.units+1:=by first|rfl|simp[Code.cUnits]
theorem Room.make(r:Room (k+1) A)(C)(us)(a):Room k (A.under (.builtin "type.__call__" ⟨.ref C::us,a⟩)):=⟨r.hd,by have:=r.dp;rw[ziI];lia,by have:=r.un;rw[ziH];lia⟩
theorem Room.depth(r:Room k A):A.depth<recursionLimit:=by have:=r.dp;lia
def tNil:TA:=fun _ H Q=>Q [] H
def zeL(b:TE)(c:TA):TA:=fun a H Q=>b a H fun x d=>c a d fun e f=>Q (x::e) f
section
variable{X:Cx}{e:Expr}{es:List Expr}{te:TE}{t:TA}{pos:Pos}
theorem zbM:PA X [] tNil:=fun _ _ _ _ H Q I h=>Calls.spliced_nil ⟨[],H,I,.nil,h⟩
theorem zaI(c:PE X e te)(d:PA X es t)(hs:starEach (e::es) X.env=(false,eval e X.env)::starEach es X.env:=by rfl):PA X (e::es) (zeL te t):=by intro pos a s b H Q I h;rw[hs];exact Calls.spliced_cons (thn (c a s b H _ I h) fun u f z=>eY z fun x g i j k=>(thn (d pos a f b g _ i k) fun q r z=>eY z fun l m n o p=>⟨x::l,m,n,.cons j o,p⟩))
def tTup(t:TA):TE:=fun c H Q=>t c H fun a b=>a.length<=sizeLine/\∀p,b p=none->Q (.ref p) (upd b p (.tup a))
def tLst(t:TA):TE:=fun c H Q=>t c H fun a b=>a.length<=sizeLine/\∀p,b p=none->Q (.ref p) (upd b p (.lst a))
theorem znp(h:PA X es t):PE X (.Tuple es m pos) (tTup t):=by intro a s g H Q I i;refine wpAny_Tuple_spliced (thn (h pos a s g H _ I i) fun j c ⟨k,d,f,r,z,q⟩=>⟨by rw[<-r.length];exact z,?_⟩);have l:=f.hok.fresh (le_refl _);refine⟨.ref c.heap.objs.size,upd d c.heap.objs.size (.tup k),f.laid (fun b u e=>Heap.get?_push_of_some _ e) (le_refl _) ?_,rfl,q _ l⟩;exact⟨z,j,r,⟨_,Heap.get?_push_size _ rfl,rfl,_,rfl⟩⟩
theorem zrs(h:PA X es t):PE X (.List es pos) (tLst t):=by intro a s g H Q I i;refine wpAny_List_spliced (thn (h pos a s g H _ I i) fun j c ⟨k,d,f,r,z,q⟩=>⟨by rw[<-r.length];exact z,?_⟩);have l:=f.hok.fresh (le_refl _);refine⟨.ref c.heap.objs.size,upd d c.heap.objs.size (.lst k),f.laid (fun b u e=>Heap.get?_push_of_some _ e) (le_refl _) ?_,rfl,q _ l⟩;exact⟨z,j,0,r,Heap.get?_push_size _ rfl⟩
end
abbrev Sp:=List V->Hp->VK->XK->Prop
abbrev CXT:=List Env->Hp->Shared->XK->Value->Shared->Prop
structure Env0(P:Program)(w:World)(K:PySem.W.Frag)(mg:Str->Option Value)(base:Heap)(A:Around)(outer:List Env)(s:Shared)(H:Hp):Prop where
 frames:A.frames=some outer
 mod:Mod K mg base
 bs:∀b o,base.get? b=some o->s.heap.get? b=some o/\H b=none
 bsz:base.objs.size<=s.heap.objs.size
 funs:s.heap.FunFrames base outer
 frf:∀b∈frs outer,H b=none
 hok:HOk P w H s.heap
 bare:AllBare s.gens
def CE(outer:List Env)(P:Program)(w:World)(H:Hp)(s:Shared)(Q:VK)(u:Value)(a:Shared):Prop:=∃v b,a.os=s.os/\AllBare a.gens/\Un (frs outer) [] H b s.heap a.heap/\HOk P w b a.heap/\RelV v u/\Q v b
def CR(CX:CXT)(outer:List Env)(P:Program)(w:World)(H:Hp)(s:Shared)(Q:VK)(E:XK)(r:Result)(a:Shared):Prop:=match r with|.ok (.ret u)=>CE outer P w H s Q u a|.ok _=>False|.error e=>CX outer H s E e a
structure FnOk(P:Program)(w:World)(K:PySem.W.Frag)(mg:Str->Option Value)(base:Heap)(CX:CXT)(k:Nat)(f:Addr)(fd:FuncData)(ps:List Str)(sp:Sp):Prop where
 len:∀vs H Q E,sp vs H Q E->vs.length=ps.length
 run:∀(A:Around)(outer:List Env)(s:Shared)(H:Hp)(args:Args)(us:List Value)(vs:List V)(Q:VK)(E:XK),Room k A->Env0 P w K mg base A outer s H->BindsTo s fd args (ps.zip us)->Vals vs us->sp vs H Q E->
  codeAny (model P w) A (.call (.ref f) args) (CR CX outer P w H s Q E) s
theorem FnOk.mono{K}(F:FnOk P w K b base CX j f c ps sp)(h:j<=k):
 FnOk P w K b base CX k f c ps sp:=⟨F.len,fun A a s H args d e Q E g=>F.run A a s H args d e Q E (g.mono h)⟩
theorem Env0.make{K}(e:Env0 P w K a base A outer s H)(C)(us)(b):
 Env0 P w K a base (A.under (.builtin "type.__call__" ⟨.ref C::us,b⟩)) outer s H:=⟨by first|exact e.frames|(simpa[Around.under,Code.envs,Code.isFrame,pushEnvs]using e.frames),e.mod,e.bs,e.bsz,e.funs,e.frf,e.hok,e.bare⟩
theorem Env0.in1{K}(e:Env0 P w K a base A outer s H):
 Env0 P w K a base A.in1 outer s H:=⟨e.frames,e.mod,e.bs,e.bsz,e.funs,e.frf,e.hok,e.bare⟩
section
variable{X:Cx}{pins:List (Addr×Obj)}{σ:St}{H:Hp}{s s':Shared}
theorem Inv.env0(I:Inv X pins σ H s):Env0 X.prog X.w X.K X.mg X.base X.A X.stack s H:=⟨I.ok.frames,I.ok.mod,I.bs,le_trans I.ok.bsz I.sz,I.stack,I.stkFree,I.hok,I.bare⟩
theorem Inv.after(I:Inv X pins σ H s)(h:CE X.stack X.prog X.w H s Q u s'):EP X pins σ Q u s':=by obtain⟨v,f,os,a,i,c,r,q⟩:=h;obtain⟨j,g,d,t,e⟩:=s';obtain rfl:e=s.os:=os;exact⟨v,f,I.call i c a (fun b z=>absurd z (by simp)),r,q⟩
end
def zeM(sp:Sp)(a:List V)(E:XK)(t:TA):TE:=fun b H Q=>t b H fun c d=>sp (c++a) d Q E
def znW(C:Addr)(sp:Sp)(b:List V)(E:XK)(t:TA):TE:=fun d H Q=>t d H fun e c=>∀x a,c x=none->c a=none->a≠x->
 sp (.ref x::(e++b)) (upd (upd c a (.own x)) x (.ins C a [])) (fun v f=>v=.non/\Q (.ref x) f) E
def Binds(K:PySem.W.Frag)(b:FuncData)(ps:List Str)(ds:List Value):Prop:=∀(s:Shared)(a:List Value),K.In s.heap->(a++ds).length=ps.length->BindsTo s b ⟨a,[]⟩ (ps.zip (a++ds))
theorem Binds.all{K}(h:∀us:List Value,us.length=ps.length->bindArgs b ⟨us,[]⟩=pure (ps.zip us)):Binds K b ps []:=fun s us _ a=>by rw[append_nil]at a⊢;exact .of_eq (h us a)
def zd9(CX:CXT)(X:Cx)(E:XK):Prop:=∀(a:List (Addr×Obj))(c:St)(H:Hp)(s:Shared)(e:Value)(b:Shared),Inv X a c H s->CX X.stack H s E e b->X.xe e b
section
variable{X:Cx}{CX:CXT}{k:Nat}{f C:Addr}{fd:FuncData}{ps:List Str}{sp:Sp}{dvs:List V}{ds:List Value}{E:XK}{x m:Str}{p pos apos:Pos}{e o:Expr}{es:List Expr}{ta:TE}{t:TA}
theorem zfy(F:FnOk X.prog X.w X.K X.mg X.base CX k f fd ps sp)(g:Room k X.A)(i:Binds X.K fd ps ds)(hd:Vals dvs ds)(j:zd9 CX X E)(I:Inv X a c H s)(r:Vals vs us)(h:sp (vs++dvs) H Q E):wpAny (model X.prog X.w) X.A (call (.ref f) us) (EP X a c Q) X.xe s:=by
 have d:=r.append hd;have l:(us++ds).length=ps.length:=by rw[<-d.length];exact F.len _ _ _ _ h
 refine wpAny_call (codeAny_mono (F.run X.A X.stack s H ⟨us,[]⟩ (us++ds) (vs++dvs) Q E g I.env0 (i s us I.kIn l) d h) fun r n b=>?_);cases r with|error e=>exact j a c H s e n I b| ok q=>cases q with|ret u=>exact I.after b|next=>exact False.elim b|brk=>exact False.elim b|cont=>exact False.elim b
theorem zpa(F:FnOk X.prog X.w X.K X.mg X.base CX k f fd ps sp)(g:Room k X.A)(i:Gl X x)(j:X.mg x=some (.ref f))(l:keepIn X.K (.ref f)=true)(n:Binds X.K fd ps ds)(hd:Vals dvs ds)(u:zd9 CX X E)
  (v:PA X (e::es) t) (b:(x==("__debug__":Str))=false:=by decide) (w:starEach (e::es) X.env=(false,eval e X.env)::starEach es X.env:=by rfl) (c:(backTo pos (starEach es X.env)).any (·.1)=false:=by rfl) :
  PE X (.Call (.Name x p) (e::es) [] pos) (zeM sp dvs E t):=by
 intro a s y H Q I h;refine wpAny_Call_Name_kw (zbq I i j ?_ b);exact callWith_K (h₀:=X.base) I.ok.mod.kin l (thn (v pos a s y H _ I h) fun A B z=>eY z fun G J d r q=>⟨d.kIn,(zfy F g n hd u d r q)⟩) w c
theorem zml(F:FnOk X.prog X.w X.K X.mg X.base CX k f fd ps sp)(c:Room k X.A)(d:Gl X x)(g:X.mg x=some (.ref f))(i:keepIn X.K (.ref f)=true)(j:Binds X.K fd ps ds)(hd:Vals dvs ds)(l:zd9 CX X E)
  (a:(x==("__debug__":Str))=false:=by decide):PE X (.Call (.Name x p) [] [] pos) (zeM sp dvs E tNil):=by
 intro b s n H Q I h;exact wpAny_Call_Name_kw (zbq I d g (callWith_K0 I.kIn i (zfy (us:=[]) F c j hd l I .nil h)) a)
structure Mk(K:PySem.W.Frag)(C f:Addr):Prop where
 makes:makesIn K C=true
 init:PySem.W.findIn K (.ref C) "__init__"=some (some (.ref f))
 fn:isFn K (.ref f)=true
 kp:keepIn K (.ref C)=true
theorem zhv(M:Mk X.K C f)(F:FnOk X.prog X.w X.K X.mg X.base CX k f fd ps sp)(l:Room (k+1) X.A)(n:Binds X.K fd ps ds)(hd:Vals dvs ds)(q:zd9 CX X E)(I:Inv X b g H s)(r:Vals vs us)(h:∀x c,H x=none->H c=none->c≠x->sp (.ref x::(vs++dvs)) (upd (upd H c (.own x)) x (.ins C c [])) (fun v w=>v=.non/\Q (.ref x) w) E):
  wpAny (model X.prog X.w) X.A (call (.ref C) us) (EP X b g Q) X.xe s:=by
 have i:=h (s.heap.objs.size+1) s.heap.objs.size (I.hok.fresh (le_succ _)) (I.hok.fresh (le_refl _)) (ne_of_lt (lt_succ_self _));have d:=Inv.made (C:=C) I;have j:Vals (V.ref (s.heap.objs.size+1)::(vs++dvs)) (Value.ref (s.heap.objs.size+1)::(us++ds)):=.cons rfl (r.append hd);have y:(Value.ref (s.heap.objs.size+1)::us++ds).length=ps.length:=by have e:=j.length;rw[F.len _ _ _ _ i]at e;exact e.symm
 refine wpAny_call (zhQ I.kIn M.makes M.init (beq_iff_eq.mp M.fn) (codeAny_mono (F.run _ X.stack _ _ ⟨Value.ref (s.heap.objs.size+1)::us,[]⟩ (Value.ref (s.heap.objs.size+1)::(us++ds)) _ _ E (l.make C us [])
  (d.env0.make C us []) (n _ (Value.ref (s.heap.objs.size+1)::us) d.kIn y) j i) fun r z a=>?_))
 cases r with|error e=>exact q b g _ _ e z d a| ok A=>cases A with| ret u=>obtain⟨v,B,G,J,L,N⟩:=d.after a;subst L;exact⟨J,⟨V.ref (s.heap.objs.size+1),B,G,rfl,N⟩⟩|next=>exact False.elim a|brk=>exact False.elim a|cont=>exact False.elim a
theorem zo5(M:Mk X.K C f)(F:FnOk X.prog X.w X.K X.mg X.base CX k f fd ps sp)(g:Room (k+1) X.A)(i:Gl X x)(j:X.mg x=some (.ref C))(l:Binds X.K fd ps ds)(hd:Vals dvs ds)(n:zd9 CX X E)
  (u:PA X (e::es) t) (b:(x==("__debug__":Str))=false:=by decide) (v:starEach (e::es) X.env=(false,eval e X.env)::starEach es X.env:=by rfl) (c:(backTo pos (starEach es X.env)).any (·.1)=false:=by rfl) :
  PE X (.Call (.Name x p) (e::es) [] pos) (znW C sp dvs E t):=by
 intro a s w H Q I h;refine wpAny_Call_Name_kw (zbq I i j ?_ b);exact callWith_K (h₀:=X.base) I.ok.mod.kin M.kp (thn (u pos a s w H _ I h) fun y A z=>eY z fun B G d r q=>⟨d.kIn,(zhv M F g l hd n d r q)⟩) v c
theorem zmc(M:Mk X.K C f)(F:FnOk X.prog X.w X.K X.mg X.base CX k f fd ps sp)(c:Room (k+1) X.A)(d:Gl X x)(g:X.mg x=some (.ref C))(i:Binds X.K fd ps ds)(hd:Vals dvs ds)(j:zd9 CX X E)
  (a:(x==("__debug__":Str))=false:=by decide):PE X (.Call (.Name x p) [] [] pos) (znW C sp dvs E tNil):=by
 intro b s l H Q I h;exact wpAny_Call_Name_kw (zbq I d g (callWith_K0 I.kIn M.kp (zhv (us:=[]) M F c i hd j I .nil h)) a)
end
def PK(X:Cx)(b:List Keyword)(t:TA):Prop:=∀(pos:Pos)(a:List (Addr×Obj))(s:Shared)(c:St)(H:Hp)(Q:List V->Hp->Prop),Inv X a c H s->t c H Q->wpAny (model X.prog X.w) X.A (evalAll ((backToKw pos (keywordEach b X.env)).map (·.2))) (AP X a c Q) X.xe s
section
variable{X:Cx}{CX:CXT}{k:Nat}{f C:Addr}{fd:FuncData}{ps ks:List Str}{sp:Sp}{E:XK}{x m:Str}{p pos apos kpos:Pos}{e o:Expr}{es:List Expr}{kws:List Keyword}{te ta:TE}{t tk:TA}{nm:Option Str}
theorem zno:PK X [] tNil:=fun _ _ _ _ H Q I h=>wpAny_evalAll_nil ⟨[],H,I,.nil,h⟩
theorem zjT(c:PE X e te)(d:PK X kws t):PK X (⟨nm,e,kpos⟩::kws) (zeL te t):=by intro pos a s b H Q I h;exact wpAny_evalAll_cons (wpAny_bind (thn (c a s b H _ I h) fun u g z=>eY z fun x i j l n=>wpAny_bind (wpAny_standAt (wpAny_pure (thn (d pos a g b i _ j n) fun B G z=>eY z fun q r w y A=>⟨x::q,r,w,.cons l y,A⟩)))))
structure KBinds(K:PySem.W.Frag)(fd:FuncData)(ps ks:List Str)(g:List Value->List Value->List Value)(gV:List V->List V->List V):Prop where
 to:∀(s:Shared)(us ws:List Value),K.In s.heap->(g us ws).length=ps.length->BindsTo s fd ⟨us,ks.zip ws⟩ (ps.zip (g us ws))
 rel:∀{vs:List V}{us:List Value}{zs:List V}{ws:List Value},Vals vs us->Vals zs ws->Vals (gV vs zs) (g us ws)
end
structure FnScope(N P:List Str)(sc:Scope):Prop where
 kind:sc.kind=.function
 co:sc.isCoroutine=false
 gen:sc.isGenerator=false
 nd:N.Nodup
 pre:N.take P.length=P
 par:∀x∈P,sc.names.lookup x=some .local\/sc.names.lookup x=some .cell
 nofree:∀y∈sc.names,y.2≠.free
theorem zgu{kindOf}:∀{a:List (Str×Value)}{m:Str->Option Value},(∀v,(x,v)∉a)->bindL kindOf a m x=m x
 | [],_,_=>rfl| (n,v)::r,m,h=>by
  unfold bindL;rw[zgu fun w b=>h w (mem_cons_of_mem _ b)];split;have:x≠n:=by rintro rfl;exact h v mem_cons_self
  simp[this];rfl
theorem zgw{kindOf}:∀{a:List (Str×Value)}{m:Str->Option Value},(∀v,(x,v)∉a)->bindC kindOf a m x=m x
 | [],_,_=>rfl| (n,v)::r,m,h=>by
  unfold bindC;rw[zgw fun w b=>h w (mem_cons_of_mem _ b)];split;rfl;have:x≠n:=by rintro rfl;exact h v mem_cons_self
  simp[this]
theorem zgv{kindOf}:∀{P:List Str}{vs:List Value}{i:Nat}{m:Str->Option Value},P.Nodup->P[i]?=some x->vs[i]?=some v->kindOf x=some .local->
  bindL kindOf (P.zip vs) m x=some v
 | [],_,_,_,_,h,_,_=>by simp at h|_::_,[],_,_,_,_,h,_=>by simp at h| p::P,w::vs,0,m,c,a,b,d=>by simp at a b;subst a;subst b;show bindL kindOf ((p,w)::P.zip vs) m p=_;unfold bindL;rw[zgu fun v hv=>(nodup_cons.mp c).1 (of_mem_zip hv).1,if_pos d];simp| p::P,w::vs,i+1,m,c,a,b,d=>by unfold bindL;exact zgv (i:=i) (nodup_cons.mp c).2 (by simpa using a) (by simpa using b) d
theorem zgx{kindOf}:∀{P:List Str}{vs:List Value}{i:Nat}{m:Str->Option Value},P.Nodup->P[i]?=some x->vs[i]?=some v->kindOf x≠some .local->
  bindC kindOf (P.zip vs) m x=some v
 | [],_,_,_,_,h,_,_=>by simp at h|_::_,[],_,_,_,_,h,_=>by simp at h| p::P,w::vs,0,m,c,a,b,d=>by simp at a b;subst a;subst b;show bindC kindOf ((p,w)::P.zip vs) m p=_;unfold bindC;rw[zgw fun v hv=>(nodup_cons.mp c).1 (of_mem_zip hv).1,if_neg d];simp| p::P,w::vs,i+1,m,c,a,b,d=>by unfold bindC;exact zgx (i:=i) (nodup_cons.mp c).2 (by simpa using a) (by simpa using b) d
noncomputable def start(N:List Str)(vs:List V):St:=vs.map some++List.replicate (N.length-vs.length) none
noncomputable def cxOf(CX:CXT)(P:Program)(w:World)(K:PySem.W.Frag)(mg:Str->Option Value)(base:Heap)(N:List Str)(a:Str)(scope:Scope)(f:Addr)(c:Value)(A:Around)(outer:List Env)(s:Shared)(H:Hp)(E:XK):Cx where
 prog:=P
 w:=w
 K:=K
 mg:=mg
 base:=base
 A:=A.deeper (envOfC a scope s.heap.objs.size f c)
 N:=N
 s₀:=s
 H₀:=H
 env:=envOfC a scope s.heap.objs.size f c
 outer:=outer
 stack:=envOfC a scope s.heap.objs.size f c::outer
 ex:=[]
 calm:=true
 fn:=fun _=>true
 pn:=[]
 xe:=fun e d=>wpAny (model P w) (A.deeper (envOfC a scope s.heap.objs.size f c)) (leaving (envOfC a scope s.heap.objs.size f c) e) (fun _ b=>CX outer H s E e b) (fun g b=>CX outer H s E g b) d
theorem zid{a:Scope}(h:a.names.lookup x=some .cell):∃c,(cellsFrom n a.names []).lookup x=some c:=by have q:=cellsFrom_some a.names n [] (.inl h);exact Option.isSome_iff_exists.mp q
theorem zf8{K}(S:FnScope N ps scope)(hd:A.handled=none)(j:Env0 P w K I base A outer s H)(U:vs.length=ps.length)(r:Vals vs us)(x:InCallC s s.heap.objs.size (bindL (envOfC g scope s.heap.objs.size f G).kindOf (ps.zip us) fun _=>none) (cellsFrom (s.heap.objs.size+1) scope.names []) (bindC (envOfC g scope s.heap.objs.size f G).kindOf (ps.zip us) fun _=>none) M):
  Inv (cxOf CX P w K I base N g scope f G A outer s H E) [] (start N vs) H M:=by
 have O:ps.length<=N.length:=by have:=congrArg List.length S.pre;rw[length_take]at this;lia
 obtain⟨B,Y,rfl,J⟩:=x.done;have l:∀b:Addr,b∉(cxOf CX P w K I base N g scope f G A outer s H E).ex:=fun b z=>absurd (show b∈([]:List Addr) from z) (by simp);refine⟨⟨j.mod,S.kind,rfl,rfl,le_refl _,fun y z c B d=>?_,fun y m=>?_,fun y c _ h=>?_,fun _=>hd,Around.frames_deeper j.frames,.inr ⟨rfl,rfl⟩,fun b z=>absurd z (l b),j.bs,j.bsz,fun b _ _=>l b,fun b z=>absurd z (l b),j.funs,j.frf⟩,
  rfl,j.bare,Un.kept J,⟨_,x.toInCall.ns,fun i y v B d h3=>?_⟩,fun y c h=>⟨_,x.cell y c h⟩,j.hok.fresh (le_refl _),fun y c h=>?_,fun p o=>absurd (show p∈([]:List (Addr×Obj)) from o) (by simp),j.hok.kept J,?_⟩
 exact name_of_addr x.apart (PySem.mem_of_lookup B) (PySem.mem_of_lookup d);rcases m with m|m;exact zid m;exact absurd rfl (S.nofree _ (PySem.mem_of_lookup m));exact le_of_lt (x.above y c (PySem.mem_of_lookup h));have C:i<vs.length:=by
  unfold start at d;by_cases C:i<vs.length;exact C
  . rw[getElem?_append_right (by simpa using C)]at d;rw[List.getElem?_replicate]at d;split at d<;>cases d
 have Q:vs[i]?=some v:=by
  unfold start at d;rw[getElem?_append_left (by simpa using C),getElem?_map]at d;cases e:vs[i]? with
  |none=>rw[e]at d;cases d
  |some a=>rw[e]at d;cases d;rfl
 obtain⟨u,L,T⟩:=r.get Q;have o:ps[i]?=some y:=by rw[<-S.pre,List.getElem?_take_of_lt (by lia)];exact B
 have t:ps.Nodup:=by rw[<-S.pre];exact S.nd.sublist (List.take_sublist _ _)
 refine⟨u,T,?_⟩;rcases S.par y (mem_of_getElem? o) with k|k;exact .inl ⟨k,zgv t o L k⟩;obtain⟨c,e⟩:=zid k;refine .inr ⟨.inl k,c,e,?_⟩;have q:=x.cell y c e;rw[zgx t o L (by show scope.names.lookup y≠_;rw[k];decide)]at q;exact q;exact j.hok.fresh (le_of_lt (x.above y c (PySem.mem_of_lookup h)));unfold start;show _=N.length;rw[length_append,length_map,length_replicate];lia
theorem zmK{K}{U kV p Y c ct oc}(lk:K.lookup f=some ⟨oc,od,.func (fnOf name a d h scope U kV p Y an c ct),osl⟩)(C:codeIn K c a=true)(S:FnScope N ps scope)(len:∀vs H Q E,sp vs H Q E->vs.length=ps.length)(j:∀(A:Around)(outer:List Env)(s:Shared)(H:Hp)(vs:List V)(Q:VK)(E:XK),Room k (A.deeper (envOfC a scope s.heap.objs.size f c))->sp vs H Q E->
   ∃t,PSs (cxOf CX P w K G base N a scope f c A outer s H E) h t/\t {nx:=fun _ i=>Q .non i,rt:=Q} (start N vs) H):
  FnOk P w K G base CX (k+1) f (fnOf name a d h scope U kV p Y an c ct) ps sp:=by
 refine⟨len,fun A outer s H args us vs Q E L z hb r B=>?_⟩;have hl:=len _ _ _ _ B;have KX:=z.mod.kin.keeps fun b o e=>(z.bs b o e).1;have M:=z.mod.nolimit.keeps fun b o e=>(z.bs b o e).1;have l:∀y∈ps.zip us,scope.names.lookup y.1=some .local\/(scope.names.lookup y.1=some .cell/\((cellsFrom (s.heap.objs.size+1) scope.names []).lookup y.1).isSome=true):=fun⟨n,v⟩ hy=>by rcases S.par n (of_mem_zip hy).1 with q|q;exact .inl q;exact .inr ⟨q,cellsFrom_some _ _ _ (.inl q)⟩
 refine codeAny_call_function L.depth (KX _ _ lk) rfl S.co S.gen rfl (PySem.W.codeRec_of KX C) (hb _ _ _ _ ?_);refine wpAny_newFunctionEnv_cells S.kind l fun env he s1 x=>?_;subst he;refine⟨M.keeps x.toInCall.keep,codeAny_func ?_⟩;obtain⟨t,ht,hq⟩:=j A outer s H vs Q E (L.deeper _) B;have I:Inv (cxOf CX P w K G base N a scope f c A outer s H E) [] (start N vs) H s1:=zf8 S L.hd z hl r x;refine wpAny_mono (ht [] s1 (start N vs) H _ I hq) (fun fl O m=>?_) fun e O m=>m;have fin:∀{g:St}{i:Hp}{v:V}{u:Value},Inv (cxOf CX P w K G base N a scope f c A outer s H E) [] g i O->RelV v u->Q v i->CE outer P w H s Q u O:=fun {g i v u} J T q=>⟨v,i,J.os,J.bare,J.base,J.hok,T,q⟩;cases fl with| ret u=>obtain⟨v,g,i,J,T,q⟩:=m;exact fin J T q| next=>obtain⟨g,i,J,q⟩:=m;exact fin (v:=V.non) J rfl q| brk=>obtain⟨_,_,_,q⟩:=m;exact False.elim q| cont=>obtain⟨_,_,_,q⟩:=m;exact False.elim q
section
variable{X:Cx}{x:Str}{p pos:Pos}{e:Expr}{es:List Expr}{t:TA}{id T:String}{r:List V->Hp->VK->Prop}
def tCB(r:List V->Hp->VK->Prop)(t:TA):TE:=fun a H Q=>t a H fun b c=>r b c Q
theorem zcz(f:zcO X (.builtin id) r)(g:Gl X x)(i:X.mg x=none)(hv:bootBuiltins x=some (.builtin id))(j:PA X (e::es) t)(k:x≠"__name__":=by decide)(b:(x==("__debug__":Str))=false:=by decide)
  (l:starEach (e::es) X.env=(false,eval e X.env)::starEach es X.env:=by rfl) (c:(backTo pos (starEach es X.env)).any (·.1)=false:=by rfl):PE X (.Call (.Name x p) (e::es) [] pos) (tCB r t):=by
 intro a s d H Q I h;exact wpAny_Call_Name_kw (zc9 I g i hv (PyProof.Rows.callWith_builtin1 (thn (j pos a s d H _ I h) fun m n z=>eY z fun o q u v w=>f a n d q o m Q u v w) l c) k b)
theorem zfV(f:zcO X (.type T) r)(g:Gl X x)(i:X.mg x=none)(hv:bootBuiltins x=some (.type T))(j:PA X (e::es) t)(k:x≠"__name__":=by decide)(b:(x==("__debug__":Str))=false:=by decide)
  (l:starEach (e::es) X.env=(false,eval e X.env)::starEach es X.env:=by rfl) (c:(backTo pos (starEach es X.env)).any (·.1)=false:=by rfl):PE X (.Call (.Name x p) (e::es) [] pos) (tCB r t):=by
 intro a s d H Q I h;exact wpAny_Call_Name_kw (zc9 I g i hv (PyProof.Rows.callWith_type1 (thn (j pos a s d H _ I h) fun m n z=>eY z fun o q u v w=>f a n d q o m Q u v w) l c) k b)
end
section
variable{κ:Type}[DecidableEq κ]
noncomputable def valV(kvs:List (κ×V))(k:κ):Option V:=(kvs.find? fun a=>decide (a.1=k)).map (·.2)
noncomputable def putK(kvs:List (κ×V))(k:κ)(v:V):List (κ×V):=if(kvs.any fun a=>decide (a.1=k))=true then kvs.map (fun a=>if a.1=k then(a.1,v) else a) else kvs++[(k,v)]
theorem zbz{k:κ}(e:p.1=k):valV (p::r) k=some p.2:=by simp[valV,e]
theorem zbA{k:κ}(e:¬p.1=k):valV (p::r) k=valV r k:=by simp[valV,e]
theorem zhr(k):∀kvs:List (κ×V),(kvs.any fun a=>decide (a.1=k))=(valV kvs k).isSome
 | []=>rfl| p::r=>by rw[any_cons];by_cases e:p.1=k;simp only[zbz e,decide_eq_true e,Bool.true_or,Option.isSome_some];rw[zbA e,decide_eq_false e];exact zhr k r
theorem zbl(kvs)(k:κ)(v):(putK kvs k v).length<=kvs.length+1:=by unfold putK;split;rw[length_map];lia;rw[length_append,length_cons,length_nil];lia
theorem RelO.isSome_eq(r:RelO o u):o.isSome=u.isSome:=by
 cases o with
 |none=>cases u with
  |none=>rfl|some _=>exact(show False from r).elim
 |some _=>cases u with|none=>exact(show False from r).elim|some _=>rfl
theorem RelO.getD(r:RelO o u)(a:RelV d d'):RelV (o.getD d) (u.getD d'):=by
 cases o with
 |none=>cases u with
  |none=>exact a|some _=>exact(show False from r).elim
 |some _=>cases u with|none=>exact(show False from r).elim|some _=>exact r
theorem KV.val(r:KV kvs vs)(k:κ):RelO (valV kvs k) (valueAt vs k):=by
 induction r with
 |nil=>exact True.intro| @cons p q i a h t f=>
  obtain⟨d,g⟩:=h;by_cases e:p.1=k;have c:=d.symm.trans e;have b:valueAt (q::a) k=some q.2:=by simp[valueAt,c]
  rw[zbz e,b];exact g;have c:¬q.1=k:=fun z=>e (d.trans z);have b:valueAt (q::a) k=valueAt a k:=by simp[valueAt,c]
  rw[zbA e,b];exact f
theorem KV.any(r:KV kvs vs)(k:κ):(kvs.any fun a=>decide (a.1=k))=vs.any fun a=>decide (a.1=k):=by induction r with|nil=>rfl|cons h t b=>rw[any_cons,any_cons,b,h.1]
theorem KV.repl(r:KV kvs vs)(k:κ)(c:RelV y u):
  KV (kvs.map fun a=>if a.1=k then(a.1,y) else a) (vs.map fun a=>if a.1=k then(a.1,u) else a):=by
 induction r with|nil=>exact .nil| @cons p q g i h t d=>rw[map_cons,map_cons];refine .cons ?_ d;obtain⟨b,f⟩:=h;by_cases e:p.1=k;rw[if_pos e,if_pos (b.symm.trans e)];exact⟨b,c⟩;rw[if_neg e,if_neg (fun z=>e (b.trans z))];exact⟨b,f⟩
theorem KV.put(r:KV kvs vs)(k:κ)(a:RelV y u):KV (putK kvs k y) (stored vs k u):=by unfold putK stored;rw[r.any k];by_cases e:(vs.any fun b=>decide (b.1=k))=true;rw[if_pos e,if_pos e];exact r.repl k a;rw[if_neg e,if_neg e];exact Paired.snoc r ⟨rfl,a⟩
theorem KV.length{vs:List (κ×Value)}(r:KV kvs vs):kvs.length=vs.length:=Paired.length r
end
theorem zg0(r:RelV (kV k) u):(zat P w).is k u=true:=by cases k with|inl i=>obtain⟨t,e⟩:=(show ∃t,u=Value.int i t from r);subst e;exact zgS P w i t|inr x=>obtain⟨t,e⟩:=(show ∃t,u=Value.str x t from r);subst e;exact zgR P w x t
theorem zf6:∀{ks:List Key}{us:List Value},Vals (ks.map kV) us->ItemsAre (zat P w) ks us
 | [],_,r=>by cases r;exact .nil| k::ks,_,r=>by cases r with|cons h t=>exact .cons (zg0 h) (zf6 t)
abbrev KT(H:Hp):List (List Key×V)->List (List Key×Addr×Value)->Prop:=Paired fun p q=>p.1=q.1/\H q.2.1=some (.tup (p.1.map kV))/\RelV p.2 q.2.2
theorem KT.val(r:KT H kvs xs)(k):RelO (valV kvs k) ((atKey xs k).map (·.2)):=by
 induction r with
 |nil=>exact True.intro| @cons p q i a h t f=>
  obtain⟨d,_,g⟩:=h;by_cases e:p.1=k;have c:=d.symm.trans e;have b:atKey (q::a) k=some q.2:=by simp[atKey,c]
  rw[zbz e,b];exact g;have c:¬q.1=k:=fun z=>e (d.trans z);have b:atKey (q::a) k=atKey a k:=by simp[atKey,c]
  rw[zbA e,b];exact f
theorem KT.repl(r:KT H kvs xs)(k)(d:RelV y u):
  KT H (kvs.map fun b=>if b.1=k then(b.1,y) else b) (xs.map (putAt k u)):=by
 induction r with|nil=>exact .nil| @cons p q i j h t f=>rw[map_cons];refine .cons ?_ f;obtain⟨a,c,g⟩:=h;unfold putAt;by_cases e:p.1=k;rw[if_pos e,if_pos (a.symm.trans e)];exact⟨a,c,d⟩;rw[if_neg e,if_neg (fun z=>e (a.trans z))];exact⟨a,c,g⟩
theorem KT.put(r:KT H kvs xs)(k)(c:H b=some (.tup (k.map kV)))(a:RelV y u):
  KT H (putK kvs k y) (storedH xs k b u):=by
 have e:(kvs.any fun d=>decide (d.1=k))=(atKey xs k).isSome:=by rw[zhr,(r.val k).isSome_eq,Option.isSome_map]
 unfold putK storedH;rw[e];by_cases q:(atKey xs k).isSome=true;rw[if_pos q,if_pos q];exact r.repl k a;rw[if_neg q,if_neg q];exact Paired.snoc r ⟨rfl,c,a⟩
theorem KT.keeps(r:KT H kvs xs)(a:∀b ys,H b=some (.tup ys)->c b=some (.tup ys)):KT c kvs xs:=Paired.mapP r fun _ _ z=>⟨z.1,a _ _ z.2.1,z.2.2⟩
section
variable{P:Program}{w:World}{H:Hp}{h:Heap}{a:Addr}
theorem zre(ok:HOk P w H h)(e:Rd H a u):ObjOk P w H h a u:=e.ok ok
theorem ziT(ok:HOk P w H h)(e:Rd H a (.dK kvs)):kvs.length<=sizeLine/\(a==sysModules)=false/\∃vs,KV kvs vs/\h.DictOf (zat P w) a vs:=show ObjOk P w H h a (.dK kvs) from zre ok e
theorem zpK(ok:HOk P w H h)(e:H a=some (.dK kvs)):kvs.length<=sizeLine/\(a==sysModules)=false/\∃vs,KV kvs vs/\h.DictOf (zat P w) a vs:=ziT ok (.inl e)
theorem zdN(ok:HOk P w H h)(e:H a=some (.tup (ks.map kV))):(tupleKind (zat P w)).is h ks a:=by obtain⟨_,b,r,o,c,d,n,f⟩:=(show ObjOk P w H h a (.tup (ks.map kV)) from ok a _ e);exact⟨o,b.toArray,n,c,d,f,by simpa using zf6 r⟩
theorem ziS(ok:HOk P w H h)(e:Rd H a (.dT kvs)):kvs.length<=sizeLine/\(a==sysModules)=false/\
  ∃xs,KT H kvs xs/\h.DictOfH (tupleKind (zat P w)) a xs:=by
 obtain⟨z,y,xs,r,o,f,g,i,j,k,n,s⟩:=(show ObjOk P w H h a (.dT kvs) from zre ok e);refine⟨z,y,xs,r,o,f,g,i,j,k,n,fun x b=>?_,s⟩;have c:∀{l:List (List Key×V)}{m:List (List Key×Addr×Value)},KT H l m->∀x∈m,(tupleKind (zat P w)).is h x.1 x.2.1:=by
  intro l m q;induction q with
  |nil=>intro x b;exact by cases b
  | @cons p q v A d t u=>intro x b;rcases mem_cons.mp b with e|b;subst e;exact zdN ok (by rw[<-d.1];exact d.2.1);exact u x b
 exact c r x b
theorem zsi(ok:HOk P w H h)(e:H a=some (.dT kvs)):kvs.length<=sizeLine/\(a==sysModules)=false/\
 ∃xs,KT H kvs xs/\h.DictOfH (tupleKind (zat P w)) a xs:=ziS ok (.inl e)
end
def DGet(H:Hp)(a:Addr)(y:V)(r:Option V):Prop:=(∃c k,Rd H a (.dK c)/\y=kV k/\r=valV c k)\/∃c k b,Rd H a (.dT c)/\y=.ref b/\H b=some (.tup (k.map kV))/\r=valV c k
def DPut(H:Hp)(a:Addr)(y v:V)(d:Hp):Prop:=
 (∃c k,H a=some (.dK c)/\y=kV k/\c.length<sizeLine/\d=upd H a (.dK (putK c k v)))\/
 ∃c k b,H a=some (.dT c)/\y=.ref b/\H b=some (.tup (k.map kV))/\c.length<sizeLine/\d=upd H a (.dT (putK c k v))
theorem DGet.k{k}(e:H a=some (.dK kvs)):DGet H a (kV k) (valV kvs k):=.inl ⟨kvs,k,.inl e,rfl,rfl⟩
theorem DGet.t{k}(e:H a=some (.dT kvs))(c:H b=some (.tup (k.map kV))):DGet H a (.ref b) (valV kvs k):=.inr ⟨kvs,k,b,.inl e,rfl,c,rfl⟩
theorem DPut.k{k}(e:H a=some (.dK kvs))(b:kvs.length<sizeLine):DPut H a (kV k) v (upd H a (.dK (putK kvs k v))):=.inl ⟨kvs,k,e,rfl,b,rfl⟩
section
variable{X:Cx}{pins:List (Addr×Obj)}{σ:St}{H:Hp}{s:Shared}{a:Addr}{y v:V}{u r:Value}{o:Option V}{A:Around}{E:Value->Shared->Prop}
theorem Inv.big(I:Inv X pins σ H s):sysModules<s.heap.objs.size:=by have h:=(I.mod.glob.keeps I.bk).lt;exact lt_trans (by decide) h
theorem zk2(x:A.units+1<cLine)(I:Inv X pins σ H s)(g:DGet H a y (some v))(t:RelV y u)(h:∀f w,Inv X pins σ H w->RelV v f->Q f w):
  wpAny (model X.prog X.w) A (getItem (.ref a) u) Q E s:=by
 rcases g with⟨i,k,e,j,l⟩|⟨i,k,b,e,j,B,l⟩;subst j;obtain⟨z,C,G,c,m⟩:=ziT I.hok e;obtain⟨f,n,d⟩:=RelO.some_of (by rw[l];exact c.val k);exact wpAny_getItem_of (zg0 t) m.mapOf n (h f _ (I.tok _) d);subst j;cases(show u=Value.ref b from t);obtain⟨z,C,J,c,m⟩:=ziS I.hok e;obtain⟨f,n,d⟩:=RelO.some_of (by rw[l];exact c.val k);obtain⟨p,L,q⟩:=Option.map_eq_some_iff.mp n;refine wpAny_getItem_heap (tupleKind_room_in1 x) (zdN I.hok B) m L ?_;rw[q];exact h f _ (I.tok _) d
theorem zdW(I:Inv X pins σ H s)(c:Mut (H a))(hs:Heap.SameBut a s.heap h')(d:∃q,h'.get? a=some q)(new:ObjOk X.prog X.w (upd H a ob) h' a ob):
  Inv X pins σ (upd H a ob) {s with heap:=h',toks:=t'}:=
 I.write c (.inl rfl) (fun b q f z=>(hs.2 b f).trans z) d new
theorem zkV(z:kvs.length<=sizeLine)(hd:(a==sysModules)=false)(b:KV kvs vs)(c:h'.DictOf (zat P w) a vs):
 ObjOk P w d h' a (.dK kvs):=⟨z,hd,vs,b,c⟩
theorem zk1(O:A.units+1<cLine)(I:Inv X pins σ H s)(g:DPut H a y v T)(C:RelV y u)(G:RelV v r)(h:∀J,Inv X pins σ T J->Q () J):
  wpAny (model X.prog X.w) A (setItem (.ref a) u r) Q E s:=by
 rcases g with⟨d,k,e,m,l,n⟩|⟨d,k,b,e,m,L,l,n⟩
 . subst m n;obtain⟨z,p,U,f,t⟩:=zpK I.hok e;have w:U.length<=sizeLine:=by rw[<-f.length];exact z
   have x:(putK d k v).length<=sizeLine:=by have:=zbl d k v;lia
   refine wpAny_setItem_pairs (zg0 C) t fun M i B=>h _ ?_;have Y:∃q,M.get? a=some q:=let ⟨q,_,_,j,_⟩:=i;⟨q,j⟩;exact zdW I (by rw[e];exact True.intro) B Y (zkV x p (f.put k G) i)
 subst m n;cases(show u=Value.ref b from C);obtain⟨z,p,xs,f,t⟩:=zsi I.hok e;have w:xs.length<=sizeLine:=by rw[<-Paired.length f];exact z
 have x:(putK d k v).length<=sizeLine:=by have:=zbl d k v;lia
 refine wpAny_setItem_heap (tupleKind_room_in1 O) (zdN I.hok L) t fun M i B=>h _ ?_;obtain⟨q,es,ep,j,h2,h3,h4,_,h5⟩:=i;refine zdW I (by rw[e];exact True.intro) B ⟨q,j⟩ ⟨x,p,_,(f.put k L G).keeps fun c ys N=>?_,q,es,ep,j,h2,h3,h4,h5⟩;rw[zae (ne_of N e (fun z=>by cases z))];exact N
end
def NoSl(i:Expr):Prop:=∀a b,subscripted i false a b=operate [a,b] (getItem a b)
theorem znY{T id}(l:typeLookup (.type T) "__getitem__"=pure (some (.builtin id)))(hs:NoSl a)(h:wpAny (model prog w) A (eval c env) (fun o e=>wpAny (model prog w) A (eval a env) (fun i b=>b.TypeIs o T/\wpAny (model prog w) A (getItem o i) Q E b) E e) E s):
  wpAny (model prog w) A (eval (.Subscript c a pos) env) Q E s:=by
 refine Subscript_ (wpAny_mono h (fun o e g=>wpAny_mono g (fun i b d=>?_) fun _ _ x=>x) fun _ _ x=>x);obtain⟨k,d⟩:=d;refine wpAny_bind ?_;refine wpAny_bind (wpAny_specialOf k l ?_);have fin:wpAny (model prog w) A (subscripted a false o i) (fun r f=>wpAny (model prog w) A (letTemporaryGo c o r>>=fun _=>pure r) Q E f) E b:=by rw[hs o i];exact wpAny_operating (wpAny_mono d (fun r f j=>wpAny_bind (wpAny_letTemporaryGo (wpAny_pure j))) fun _ _ x=>x)
 first
  |exact wpAny_pure (wpAny_bind fin)
  |exact wpAny_bind (wpAny_pure (wpAny_bind fin))
  |exact wpAny_bind fin
theorem zg6(I:Inv X f h H s)(g:DGet H a y o):s.TypeIs (.ref a) "dict":=by rcases g with⟨c,k,e,_,_⟩|⟨c,k,b,e,_,_,_⟩;obtain⟨_,_,i,_,d⟩:=ziT I.hok e;exact d.typeIs;obtain⟨_,_,j,_,d⟩:=ziS I.hok e;exact d.typeIs
def zsO(d e:TE):TE:=fun b H Q=>d b H fun x f=>e b f fun y c=>∃a v,x=.ref a/\DGet c a y (some v)/\Q v c
def zra(d e f:TE):TS:=fun D b H=>f b H fun v g=>d b g fun x h=>e b h fun y i=>∃a c,x=.ref a/\DPut i a y v c/\D.nx b c
section
variable{X:Cx}{o i e value:Expr}{pos pos' tpos:Pos}{td ty tv:TE}
theorem zo8(j:X.A.units+1<cLine)(l:PE X o td)(hi:PE X i ty)(hs:NoSl i):PE X (.Subscript o i pos) (zsO td ty):=by intro b s d H Q I h;refine znY PySem.F.slot_dict_getitem.lookup hs (thn (l b s d H _ I h) fun u m z=>eY z fun x n p q r=>thn (hi b m d n _ p r) fun E G k=>?_);obtain⟨y,t,f,w,a,v,A,g,B⟩:=k;subst A;obtain rfl:u=Value.ref a:=q;exact⟨zg6 f g,zk2 j f g w fun J L C c=>⟨v,t,C,c,B⟩⟩
theorem zoV(d:X.A.units+1<cLine)(f:PE X o td)(hi:PE X i ty)(hv:PE X value tv)(hs:swapsWith value (some (.Subscript o i pos')) pos.line X.env=pure false) :
  PS X (.Assign [.Subscript o i pos'] value pos) (zra td ty tv):=by
 intro b s c H D I h;refine wpAny_Assign_Subscript (thn (hv b s c H _ I h) fun r j z=>eY z fun v l m n p=>thn (f b j c l _ m p) fun u q z=>eY z fun x t w A B=>thn (hi b q c t _ w B) fun N O k=>?_) hs;obtain⟨y,Q,C,E,a,G,J,g,L⟩:=k;subst J;obtain rfl:u=Value.ref a:=A;exact zk1 d C g E n fun T M=>⟨c,G,M,L⟩
end
theorem zh8(h:Heap)(a:sysModules<h.objs.size):ObjOk P w H (h.push {cls:=.type "dict",data:=.dict #[]}) h.objs.size (.dK []):=⟨zero_le _,beq_eq_false_iff_ne.mpr (Ne.symm (ne_of_lt a)),[],.nil,Heap.DictOf.new h⟩
theorem zmT(h:Heap)(a:sysModules<h.objs.size):ObjOk P w H (h.push {cls:=.type "dict",data:=.dict #[]}) h.objs.size (.dT []):=⟨zero_le _,beq_eq_false_iff_ne.mpr (Ne.symm (ne_of_lt a)),[],.nil,_,#[],0,Heap.get?_push_size _ rfl,⟨rfl,rfl,rfl⟩,rfl,rfl,List.nodup_nil⟩
def zjn:TE:=fun _ H Q=>∀p,H p=none->Q (.ref p) (upd H p (.dK []))
def zqs:TE:=fun _ H Q=>∀p,H p=none->Q (.ref p) (upd H p (.dT []))
section
variable{X:Cx}{pos:Pos}
theorem zhJ:PE X (.Dict [] [] pos) zjn:=fun b s c H Q I h=>wpAny_Dict_empty ⟨.ref s.heap.objs.size,_,I.laid (fun _ _ q=>Heap.get?_push_of_some _ q) (le_refl _) (zh8 s.heap I.big),rfl,h _ (I.hok.fresh (le_refl _))⟩
theorem zmh:PE X (.Dict [] [] pos) zqs:=fun b s c H Q I h=>wpAny_Dict_empty ⟨.ref s.heap.objs.size,_,I.laid (fun _ _ q=>Heap.get?_push_of_some _ q) (le_refl _) (zmT s.heap I.big),rfl,h _ (I.hok.fresh (le_refl _))⟩
end
def zjk:List (TE×TE)->St->Hp->(List (V×V)->Hp->Prop)->Prop
 | [],_,H,Q=>Q [] H|(b,c)::r,a,H,Q=>b a H fun x d=>c a d fun y e=>zjk r a e fun f g=>Q ((x,y)::f) g
abbrev VV:List (V×V)->List (Value×Value)->Prop:=Paired fun p q=>RelV p.1 q.1/\RelV p.2 q.2
def PPs(X:Cx)(pos:Pos)(c:List (Option Expr))(a:List Expr)(d:List (TE×TE)):Prop:=
 ∀(b:List (Addr×Obj))(s:Shared)(e:St)(H:Hp)(Q:List (V×V)->Hp->Prop),Inv X b e H s->zjk d e H Q->
  wpAny (model X.prog X.w) X.A (evalPairs (pairTrees c a X.env pos)) (fun h i=>∃f g,Inv X b e g i/\VV f h/\Q f g) X.xe s
theorem zoZ:PPs X pos [] [] []:=fun a s b H Q I h=>pairTrees_nil_walk ⟨[],H,I,.nil,h⟩
theorem zdk(e:PE X k f)(hv:PE X v g)(i:PPs X pos ks vs b):
  PPs X pos (some k::ks) (v::vs) ((f,g)::b):=fun a s c H Q I h=>
 pairTrees_cons_walk (thn (e a s c H _ I h) fun u j z=>eY z fun x l m n o=>thn (hv a j c l _ m o) fun G p z=>eY z fun y q r t w=>thn (i a p c q _ r w) fun J L z=>eY z fun A B C d E=>⟨(x,y)::A,B,C,.cons ⟨n,t⟩ d,E⟩)
noncomputable def zcB(kvs a:List (Key×V)):List (Key×V):=a.foldl (fun b c=>putK b c.1 c.2) kvs
theorem KV.merge:∀{a:List (Key×V)}{rs:List (Key×Value)}{kvs:List (Key×V)}{vs:List (Key×Value)},KV a rs->KV kvs vs->KV (zcB kvs a) (merged vs rs):=by
 intro a rs kvs vs r;induction r generalizing kvs vs with
 |nil=>intro q;exact q| @cons p q d f h t b=>
  intro c;have e:KV (putK kvs p.1 p.2) (stored vs q.1 q.2):=by have:=c.put p.1 h.2;rw[<-h.1];exact this
  exact b e
theorem zcC:∀(a kvs:List (Key×V)),(zcB kvs a).length<=kvs.length+a.length
 | [],kvs=>by show kvs.length<=kvs.length+0;lia| p::r,kvs=>by have b:=zcC r (putK kvs p.1 p.2);have c:=zbl kvs p.1 p.2;show(zcB (putK kvs p.1 p.2) r).length<=_;rw[length_cons];lia
theorem zeC:∀{kvs:List (Key×V)}{d:List (Value×Value)},VV (kvs.map fun e=>(kV e.1,e.2)) d->∃rs,Carries (zat P w) d rs/\KV kvs rs
 | [],_,r=>by cases r;exact⟨[],True.intro,.nil⟩| p::kvs,_,r=>by cases r with| @cons a b g i h t=>obtain⟨rs,c,q⟩:=zeC t;obtain⟨j,f⟩:=b;exact⟨(p.1,f)::rs,⟨zg0 h.1,rfl,c⟩,.cons ⟨rfl,h.2⟩ q⟩
def zsN(b:List (TE×TE)):TE:=fun e H Q=>∀p,H p=none->zjk b e (upd H p (.dK [])) fun f c=>c p=some (.dK [])/\∃a:List (Key×V),f=a.map (fun d=>(kV d.1,d.2))/\a.length<=15/\Q (.ref p) (upd c p (.dK (zcB [] a)))
theorem zo7(h:PPs X pos b d l)(f:b.all (·.isSome)=true)(r:b.length=d.length)(t:b≠[])(m:b.length<=15):PE X (.Dict b d pos) (zsN l):=by
 intro g s u H Q I q;have v:=I.hok.fresh (le_refl s.heap.objs.size);have x:=I.laid (t':=s.toks) (fun _ _ q=>Heap.get?_push_of_some _ q) (le_refl _) (zh8 s.heap I.big);refine wpAny_Dict_walk (knd:=zat X.prog X.w) f r t m (thn (h g _ u _ _ x (q _ v)) fun Y s2 k=>?_);obtain⟨ps,H2,p,n,e,i,y,lk,A⟩:=k;subst y;obtain⟨B,c,C⟩:=zeC n;obtain⟨z,E,G,J,L⟩:=zpK p.hok e;cases J;refine⟨B,c,L,fun h' j M=>⟨.ref s.heap.objs.size,_,?_,rfl,A⟩⟩;have N:(zcB [] i).length<=sizeLine:=by have O:=zcC i [];rw[length_nil]at O;rw[sizeLine_eq];lia
 have T:∃q,h'.get? s.heap.objs.size=some q:=let ⟨q,_,_,U,_⟩:=j;⟨q,U⟩;exact zdW p (by rw[e];exact True.intro) M T (zkV N E (C.merge .nil) j)
structure M1(X:Cx)(o:Expr)(m:Str)(apos:Pos)(e:Expr)(cpos:Pos):Prop where
 base:attributeBase o m X.env (eval o X.env)=eval o X.env
 few:((backTo cpos (starEach [e] X.env)).all (fun x=>!x.1)&&(backToKw cpos (keywordEach [] X.env)).all (fun x=>x.1.isSome)
  && decide (([e]:List Expr).length+([]:List Keyword).length+(if([]:List Keyword).isEmpty then 0 else 1)<30))=true
 line:(apos.endLine==cpos.line)=true
 trees:backTo cpos (starEach [e] X.env)=[(false,eval e X.env)]
structure M2(X:Cx)(o:Expr)(m:Str)(apos:Pos)(e f:Expr)(cpos:Pos):Prop where
 base:attributeBase o m X.env (eval o X.env)=eval o X.env
 few:((backTo cpos (starEach [e,f] X.env)).all (fun x=>!x.1)&&(backToKw cpos (keywordEach [] X.env)).all (fun x=>x.1.isSome)
  && decide (([e,f]:List Expr).length+([]:List Keyword).length+(if([]:List Keyword).isEmpty then 0 else 1)<30))=true
 line:(apos.endLine==cpos.line)=true
 trees:backTo cpos (starEach [e,f] X.env)=[(false,eval e X.env),(false,eval f X.env)]
def IsD(H:Hp)(a:Addr):Prop:=(∃b,Rd H a (.dK b))\/∃b,Rd H a (.dT b)
theorem zf7(I:Inv X j k H s)(d:IsD H a):
  s.TypeIs (.ref a) "dict"/\(∀b,Value.ref a=.ref b->∃ob,s.heap.get? b=some ob/\ob.dict=none)/\(a==sysModules)=false:=by
 rcases d with⟨f,e⟩|⟨f,e⟩;obtain⟨_,g,l,_,c⟩:=ziT I.hok e;refine⟨c.typeIs,fun b q=>?_,g⟩;cases q;obtain⟨ob,_,_,h,i,_⟩:=c;exact⟨ob,h,i.2.1⟩;obtain⟨_,g,m,_,c⟩:=ziS I.hok e;refine⟨c.typeIs,fun b q=>?_,g⟩;cases q;obtain⟨ob,_,_,h,i,_⟩:=c;exact⟨ob,h,i.2.1⟩
section
variable{X:Cx}{pins:List (Addr×Obj)}{σ:St}{H:Hp}{s:Shared}{a:Addr}{y d:V}{u r:Value}{o:Option V}{A:Around}{E:Value->Shared->Prop}
theorem zsk(t:A.units+1<cLine)(I:Inv X pins σ H s)(g:DGet H a y o)(n:RelV y u)(h:∀p q,Inv X pins σ H q->RelV (o.getD .non) p->Q p q):
  wpAny (model X.prog X.w) A (call (.builtin "dict.get") [.ref a,u]) Q E s:=by
 rcases g with⟨i,k,e,j,l⟩|⟨i,k,b,e,j,v,l⟩;subst j;obtain⟨z,m,x,c,f⟩:=ziT I.hok e;refine call_meetsIn PySem.F.slot_dict_get f.typeIs PySem.F.entry_dict_get (PySem.F.args_dict_get_2 _ _) (meets_dict_get (zat X.prog X.w) a (zg0 n) m) ⟨_,f.mapOf,h _ _ (I.tok _) ?_⟩;rw[l];exact(c.val k).getD rfl;subst j;cases(show u=Value.ref b from n);obtain⟨z,m,w,c,f⟩:=ziS I.hok e;refine call_meetsIn PySem.F.slot_dict_get f.typeIs PySem.F.entry_dict_get (PySem.F.args_dict_get_2 _ _) (meetsH_dict_get (tupleKind (zat X.prog X.w)) a b m) ⟨tupleKind_room_in1 t,k,w,zdN I.hok v,f,h _ _ (I.tok _) ?_⟩;rw[l];exact(c.val k).getD rfl
theorem zsj(v:A.units+1<cLine)(I:Inv X pins σ H s)(g:DGet H a y o)(n:RelV y u)(p:RelV d r)(h:∀q t,Inv X pins σ H t->RelV (o.getD d) q->Q q t):
  wpAny (model X.prog X.w) A (call (.builtin "dict.get") [.ref a,u,r]) Q E s:=by
 rcases g with⟨i,k,e,j,l⟩|⟨i,k,b,e,j,w,l⟩;subst j;obtain⟨z,m,B,c,f⟩:=ziT I.hok e;refine call_meetsIn PySem.F.slot_dict_get f.typeIs PySem.F.entry_dict_get (PySem.F.args_dict_get_3 _ _ _) (meets_dict_get_default (zat X.prog X.w) a (zg0 n) m r) ⟨_,f.mapOf,h _ _ (I.tok _) ?_⟩;rw[l];exact(c.val k).getD p;subst j;cases(show u=Value.ref b from n);obtain⟨z,m,x,c,f⟩:=ziS I.hok e;refine call_meetsIn PySem.F.slot_dict_get f.typeIs PySem.F.entry_dict_get (PySem.F.args_dict_get_3 _ _ _) (meetsH_dict_get_default (tupleKind (zat X.prog X.w)) a b m r) ⟨tupleKind_room_in1 v,k,x,zdN I.hok w,f,h _ _ (I.tok _) ?_⟩;rw[l];exact(c.val k).getD p
end
def zqt(e f:TE):TE:=fun b H Q=>e b H fun x c=>∃a,x=.ref a/\IsD c a/\f b c fun y d=>∃o,DGet d a y o/\Q (o.getD .non) d
def zna(e f g:TE):TE:=fun b H Q=>e b H fun x c=>∃a,x=.ref a/\IsD c a/\f b c fun y h=>g b h fun z d=>∃o,DGet d a y o/\Q (o.getD z) d
section
variable{X:Cx}{o e f:Expr}{apos cpos:Pos}{td ty tx:TE}
theorem zmi(k:X.A.units+1<cLine)(l:PE X o td)(n:PE X e ty)(m:M1 X o "get" apos e cpos):PE X (.Call (.Attribute o "get" apos) [e] [] cpos) (zqt td ty):=by intro b s i H Q I h;refine wpAny_Call_method m.base m.few m.line PySem.F.plainAttrs_dict PySem.F.slot_dict_get PySem.F.type_dict_get (thn (l b s i H _ I h) fun u p z=>?_);obtain⟨x,q,j,r,a,t,d,v⟩:=z;subst t;obtain rfl:u=Value.ref a:=r;obtain⟨w,A,_⟩:=zf7 j d;refine⟨w,A,?_⟩;rw[m.trees];exact Calls.callWith_builtin rfl (Calls.evalArgs_plain (Calls.spliced_cons (thn (n b p i q _ j v) fun L M ⟨y,B,C,E,N,g,G⟩=>Calls.spliced_nil (zsk k C g E fun O T J c=>⟨_,B,J,c,G⟩))))
theorem zeX(l:X.A.units+1<cLine)(n:PE X o td)(p:PE X e ty)(q:PE X f tx)(m:M2 X o "get" apos e f cpos):PE X (.Call (.Attribute o "get" apos) [e,f] [] cpos) (zna td ty tx):=by intro b s c H Q I h;refine wpAny_Call_method m.base m.few m.line PySem.F.plainAttrs_dict PySem.F.slot_dict_get PySem.F.type_dict_get (thn (n b s c H _ I h) fun u r v=>?_);obtain⟨x,t,j,w,a,A,d,B⟩:=v;subst A;obtain rfl:u=Value.ref a:=w;obtain⟨C,E,_⟩:=zf7 j d;refine⟨C,E,?_⟩;rw[m.trees];exact Calls.callWith_builtin rfl (Calls.evalArgs_plain (Calls.spliced_cons (thn (p b r c t _ j B) fun iv G k=>eY k fun y J L M N=>Calls.spliced_cons (thn (q b G c J _ L N) fun fv s3 ⟨z,O,T,U,ov,g,Y⟩=>Calls.spliced_nil (zsj l T g M U fun w' s4 I4 i=>⟨_,O,I4,i,Y⟩)))))
end
end L2
namespace HT
open PySem PyProof.Rows
noncomputable def lexLt:List Int->List Int->Bool
 | [],[]=>false| [],_::_=>true|_::_,[]=>false|x::a,y::b=>if x=y then lexLt a b else decide (x<y)
theorem ziJ(x y)(xs ys):lexLt (x::xs) (y::ys)=if x=y then lexLt xs ys else decide (x<y):=rfl
theorem ze4:lexLt [] []=false:=rfl
theorem zeg(y)(ys):lexLt [] (y::ys)=true:=rfl
theorem zeh(x)(xs):lexLt (x::xs) []=false:=rfl
theorem zmS(A)(s)(a)(t)(c)(u):∃e,SeqAt.EqAt A s (.int a t) (.int c u) e/\(e=true↔a=c):=⟨(a==c),SeqAt.EqAt.int_int a t c u,by simp⟩
theorem zlV(A)(s)(a)(t)(c)(u)(prog)(w)(E)(Q)(h:Q (.bool (decide (a<c))) s):
  wpAny (model prog w) A (richCompare .Lt (.int a t) (.int c u)) Q E s:=
 (PyProof.Rows.lt_int h:wpAny (model prog w) A (compareOp .Lt (.int a t) (.int c u)) Q E s)
section
open PySem.SeqAt
open PySem.AutoSeq1 (wpAny_loadPart')
open PySem.MeetsSeq PySem.MeetsSeq2 PySem.MeetsSeq3
theorem zeJ(l b)(items f)(n n2)(dd O)(sl Q)(H I)(hi:IntsAre items.toList H)(hj:IntsAre f.toList I):
  Meets (Builtin.«tuple.__lt__» ⟨[.ref l,.ref b],[]⟩)
   (fun _ R s=>s.heap.get? l=some {cls:=.type "tuple",dict:=dd,data:=.seq items n,slots:=sl}/\s.heap.get? b=some {cls:=.type "tuple",dict:=O,data:=.seq f n2,slots:=Q}/\
    R (.ok (.ret (.bool (lexLt H I)))) s):=
 .of_wp fun prog w A R s h=>by
  obtain⟨J,g,d,L,os⟩:=s;obtain⟨hl,hb,h⟩:=h;have f2:=AutoSeq1.sub_tuple_tuple;have z1:items.size=H.length:=by rw[<-hi.length];simp
  have z2:f.size=I.length:=by rw[<-hj.length];simp
  wp_walk using wpAny_loadPart' hl,wpAny_loadPart' hb,wpAny_forIn_list _ (fun p b T=>b.1=none/\T=⟨J,g,d,L,os⟩/\∃(M N:List Value) (j k:List Int),p=M.zip N/\
   IntsAre M j/\IntsAre N k/\j.length+f.size=k.length+items.size/\R (.ok (.ret (.bool (lexLt j k)))) ⟨J,g,d,L,os⟩) _
  case turn=>
   rintro⟨y,x⟩ p b T ⟨z,rfl,M,N,j,k,m,B,o,i,r⟩;cases B with
   |nil=>rw[List.zip_nil_left]at m;cases m
   |cons a t E=>
    cases o with
    |nil=>rw[List.zip_nil_right]at m;cases m
    |cons c u G=>
     rw[List.zip_cons_cons]at m;injection m with U C;injection U with hy hx;subst hy hx;rw[ziJ]at r;simp only[length_cons]at i;obtain⟨e,he,v⟩:=zmS A.in1 ⟨J,g,d,L,os⟩ a t c u;refine wpAny_bind (he prog w _ _ ?_);cases e with
     |true=>
      rw[if_pos (v.mp rfl)]at r
      wp_walk
      exact⟨rfl,rfl,_,_,_,_,C,E,G,by lia,r⟩
     |false=>
      rw[if_neg (fun q=>absurd (v.mpr q) Bool.false_ne_true)]at r;have Y:=zlV A.in1 ⟨J,g,d,L,os⟩ a t c u prog w
      wp_walk using Y
      exact⟨_,rfl,by simpa using r⟩
  case fin=>
   rintro⟨b1,b2⟩ T ⟨z,rfl,M,N,j,k,m,B,o,i,r⟩;simp only at z;subst z;have hv:lexLt j k=decide (items.size<f.size):=by
    cases B with
    |nil=>cases o with| nil=>simp only[length_nil]at i;rw[ze4];exact(decide_eq_false (by lia)).symm| cons c u hw=>simp only[length_nil,length_cons]at i;rw[zeg];exact(decide_eq_true (by lia)).symm
    |cons a t hv=>cases o with| nil=>simp only[length_nil,length_cons]at i;rw[zeh];exact(decide_eq_false (by lia)).symm| cons c u hw=>rw[List.zip_cons_cons]at m;cases m
   rw[hv]at r
   wp_walk
   exact⟨_,rfl,by simpa[Builtin.Tuple.tupleCompareSizes]using r⟩
  case h=>exact⟨rfl,rfl,items.toList,f.toList,H,I,rfl,hi,hj,by lia,h⟩
end
section
variable{prog:Program}{w:World}{A:Around}{E:Value->Shared->Prop}{s:Shared}
theorem lt_tupInts(r:IsTup s.heap l items)(t:IsTup s.heap b a)(hi:IntsAre items.toList f)(u:IntsAre a.toList g)(v:A.units<cLine)(h:Q (.bool (lexLt f g)) s):wpAny (model prog w) A (compareOp .Lt (.ref l) (.ref b)) Q E s:=by
 obtain⟨⟨y,z,k,B⟩,m,o,n,p⟩:=id r;obtain⟨⟨q,i,data2,j⟩,c,d,C,e⟩:=id t;subst o p d e;exact richCompare_meets_room (op:=.Lt) ⟨_,m,rfl⟩ ⟨_,c,rfl⟩ PySem.F.slot_tuple_lt PySem.F.entry_tuple_lt (PySem.F.args_tuple_lt_2 _ _) (zeJ l b items a n C z i B j f g hi u)
  ⟨m,c,show Value.bool (lexLt f g)≠Value.notImplemented/\Q (.bool (lexLt f g)) s from⟨(fun x=>by cases x),h⟩⟩ v
theorem cat_tup(r:IsTup s.heap t vs.toArray)(u:IsTup s.heap b a.toArray)(hv:vs≠[])(v:a=[]->Q (.ref t) s)(x:a≠[]->Q (.ref s.heap.objs.size) {s with heap:=s.heap.push {cls:=.type "tuple",data:=.seq (vs++a).toArray}})(hsz:vs.length+a.length<=sizeLine):wpAny (model prog w) A (binaryOp .Add (.ref t) (.ref b)) Q E s:=by
 obtain⟨⟨cls,k,data,l⟩,i,m,n,o⟩:=id r;obtain⟨⟨p,d,data2,f⟩,c,g,q,h⟩:=id u;subst m o g h;have e:vs.toArray++a.toArray=(vs++a).toArray:=by simp
 by_cases j:a=[]
 exact concat_meets ⟨_,i,rfl⟩ ⟨_,c,rfl⟩ noFill_tuple_add seq_tuple_add PySem.F.slot_tuple_add PySem.F.entry_tuple_add (PySem.F.args_tuple_add_2 _ _)
  (tuple_addW1 t b vs.toArray a.toArray n q k d l f (by simpa using hv) (by simp[j])) ⟨i,c,v j⟩
 refine concat_meets ⟨_,i,rfl⟩ ⟨_,c,rfl⟩ noFill_tuple_add seq_tuple_add PySem.F.slot_tuple_add PySem.F.entry_tuple_add (PySem.F.args_tuple_add_2 _ _)
  (tuple_addW2 t b vs.toArray a.toArray n q k d l f (by simpa using hv) (by simpa using j) (by exact hsz)) ⟨i,c,?_⟩
 rw[e];exact x j
noncomputable def sIx(n d:Nat):Option Int->Nat
 |none=>d|some v=>if v<0 then(v+(n:Int)).toNat else min v.toNat n
theorem zq9(n d)(hd:d<=n)(o):sIx n d o<=n:=by cases o with|none=>exact hd| some v=>show(if v<0 then(v+(n:Int)).toNat else min v.toNat n)<=n;by_cases hv:v<0;lia;rw[if_neg hv];exact Nat.min_le_right _ _
theorem zk5(v)(n d:Nat):(if v<0 then max (v+(n:Int)) 0 else min v (n:Int))=((sIx n d (some v):Nat):Int):=by show(if v<0 then max (v+(n:Int)) 0 else min v (n:Int))=(((if v<0 then(v+(n:Int)).toNat else min v.toNat n):Nat):Int);by_cases hv:v<0;lia;lia
theorem zi0(lo hi)(n:Nat):Builtin.Slice.sliceAdjust lo hi 1 (n:Int)=(((sIx n 0 lo:Nat):Int),((sIx n n hi:Nat):Int)):=by
 have a:¬((1:Int)<0):=by lia
 unfold Builtin.Slice.sliceAdjust;refine Prod.ext ?_ ?_;cases lo with|none=>rfl|some v=>exact zk5 v n 0
 cases hi with|none=>rfl|some v=>exact zk5 v n n
theorem ziC(i j:Nat):Builtin.Slice.slicePlaces (i:Int) (j:Int) 1=j-i:=by
 unfold Builtin.Slice.slicePlaces;have a:(1:Int)>0:=by lia
 split<;>lia
theorem zeo(p:IsPart v o)(h:Q o s):wpAny (model prog w) A (Builtin.Slice.slicePartIndex v) Q E s:=by cases p with|none=>exact slicePart_none h|int i t=>exact slicePart_int h
theorem zdd{lo hi}{Q:Int×Int×Nat->Shared->Prop}(hs:s.heap.IsSliceOf e c d .none)(f:IsPart c lo)(g:IsPart d hi)(h:Q (((sIx n 0 lo:Nat):Int),1,sIx n n hi-sIx n 0 lo) s):wpAny (model prog w) A (Builtin.Slice.sliceApplied (.ref e) (pure (n:Int))) Q E s:=by
 obtain⟨os,a,i,b⟩:=id hs;refine wpAny_bind (wpAny_bind (wpAny_field a b rfl (wpAny_bind (wpAny_field a b rfl (wpAny_bind (wpAny_field a b rfl (wpAny_pure ?_)))))));refine wpAny_bind (slicePart_none ?_);refine wpAny_bind (zeo f (wpAny_bind (zeo g (wpAny_bind (wpAny_pure ?_)))));show wpAny _ _ (match Builtin.Slice.sliceAdjust lo hi 1 (n:Int) with|(lo,hi)=>pure (lo,(1:Int),Builtin.Slice.slicePlaces lo hi 1)) _ _ s;rw[zi0 lo hi n];show wpAny _ _ (pure (((sIx n 0 lo:Nat):Int),(1:Int),Builtin.Slice.slicePlaces ((sIx n 0 lo:Nat):Int) ((sIx n n hi:Nat):Int) 1)) _ _ s;rw[ziC];exact wpAny_pure h
theorem zl4(xs:Array Value)(i k:Nat):((List.range k).filterMap fun(m:Nat)=>xs[((i:Int)+(m:Int)*1).toNat]?).toArray=((xs.toList.drop i).take k).toArray:=by
 have e:(fun(m:Nat)=>xs[((i:Int)+(m:Int)*1).toNat]?)=fun m=>xs[i+m]?:=by
  funext m;have:((i:Int)+(m:Int)*1).toNat=i+m:=by lia
  rw[this]
 rw[e];have:=pick_run xs i k;rw[List.filterMap_map]at this;have a:((fun x=>xs[x]?)∘fun x=>i+x)=fun m=>xs[i+m]?:=rfl;rw[a]at this;rw[this]
theorem getItem_tuple_cut{lo hi}(b:IsTup s.heap t items)(hs:s.heap.IsSliceOf g i j .none)(k:IsPart i lo)(l:IsPart j hi)(n:¬(sIx items.size 0 lo=0/\sIx items.size items.size hi=items.size))(h:Q (.ref s.heap.objs.size) {s with heap:=s.heap.push {cls:=.type "tuple",data:=.seq ((items.toList.drop (sIx items.size 0 lo)).take (sIx items.size items.size hi-sIx items.size 0 lo)).toArray}})(hsz:items.size<=sizeLine):wpAny (model prog w) A (getItem (.ref t) (.ref g)) Q E s:=by
 have a:sizeOk (.seq ((items.toList.drop (sIx items.size 0 lo)).take (sIx items.size items.size hi-sIx items.size 0 lo)).toArray):=by show((items.toList.drop (sIx items.size 0 lo)).take (sIx items.size items.size hi-sIx items.size 0 lo)).toArray.size<=sizeLine;rw[size_toArray,length_take,List.length_drop,length_toList];omega
 have p:sIx items.size items.size hi<=items.size:=zq9 _ _ (le_refl _) hi;obtain⟨os,c,d,o⟩:=id hs;have e:s.TypeIs (.ref g) "slice":=⟨os,c,d⟩;unfold getItem
 try with_reducible refine wpAny_holding ?_
 first|refine wpAny_bind (wpAny_pure ?_)|skip
 refine wpAny_bind (wpAny_sequenceKey b.typeIs (by decide) ?_);refine wpAny_bind (wpAny_callSpecial?_slot (name:=Str.ofString "__getitem__") b.typeIs PyProof.Rows.slot_tuple_getitem
  (wpAny_call_entry PyProof.Rows.slot_tuple_getitem b.typeIs entry_tuple_getitem ?_ (args_tuple_getitem _ _)))
 show wpAny _ _ (Builtin.Tuple.tupleItemsOf (.ref t)>>=_) _ _ s;refine wpAny_bind (tupleItemsOf_ b ?_);refine wpAny_bind (wpAny_typeOf e ?_);rw[if_pos (by decide)];refine wpAny_bind (zdd hs k l ?_);have f:¬((((sIx items.size 0 lo:Nat):Int)==0&&(1:Int)==1&&(sIx items.size items.size hi-sIx items.size 0 lo)==items.size)=true):=by intro q;replace q:=qL qa1 q;have r:((sIx items.size 0 lo:Nat):Int)=0:=eq_of_beq q.1.1;have u:sIx items.size items.size hi-sIx items.size 0 lo=items.size:=eq_of_beq q.2;exact n ⟨by omega,by omega⟩
 show wpAny _ _ (if(((sIx items.size 0 lo:Nat):Int)==0&&(1:Int)==1&&(sIx items.size items.size hi-sIx items.size 0 lo)==items.size)=true then _ else _) _ _ s;rw[if_neg f,zl4]
 first
  |exact wpAny_bind (m:=Builtin.Tuple.tupleExact _) (wpAny_newObj_type (wpAny_pure ⟨_,rfl,wpAny_pure h⟩) a)
  |exact wpAny_bind (m:=Builtin.Tuple.tupleExact _) (wpAny_newObj_type (wpAny_bind (wpAny_pure (wpAny_pure ⟨_,rfl,wpAny_pure h⟩))) a)
  |exact wpAny_bind (wpAny_bind (m:=Builtin.Tuple.tupleExact _) (wpAny_newObj_type (wpAny_pure (wpAny_pure ⟨_,rfl,wpAny_pure h⟩)) a))
  |exact wpAny_bind (wpAny_bind (m:=Builtin.Tuple.tupleExact _) (wpAny_newObj_type (wpAny_pure ⟨_,rfl,wpAny_pure h⟩) a))
end
end HT
namespace L2
open PySem PySem.Spec PyProof.Rows
abbrev TO:=St->Hp->(Option Int->Hp->Prop)->Prop
def PO(X:Cx)(e:Option Expr)(t:TO):Prop:=
 ∀(a:List (Addr×Obj))(s:Shared)(b:St)(H:Hp)(Q:Option Int->Hp->Prop),Inv X a b H s->t b H Q->
  wpAny (model X.prog X.w) X.A (evalPart e X.env) (fun u d=>∃o c,Inv X a b c d/\IsPart u o/\Q o c) X.xe s
def zsK(t:TE):TO:=fun a H Q=>t a H fun x b=>∃i,x=.int i/\Q (some i) b
theorem zex:∀{us:List Value},Vals (a.map V.int) us->IntsAre us a:=by induction a with|nil=>intro us r;cases r;exact .nil| cons n a b=>intro us r;cases r with| cons c d=>obtain⟨t,e⟩:=c;subst e;exact .cons n t (b d)
section
variable{X:Cx}{e:Expr}{te:TE}{lo hi:Option Expr}{tl th:TO}{pos p2:Pos}
theorem zjS(h:PE X e te):PO X (some e) (zsK te):=by intro a s b H Q I c;refine thn (h a s b H _ I c) fun u k z=>eY z fun x d f g j=>?_;obtain⟨i,rfl,q⟩:=j;obtain⟨t,rfl⟩:=g;exact⟨some i,d,f,.int i t,q⟩
def SlR(X:Cx)(r:V->Option Int->Option Int->Hp->VK->Prop):Prop:=
 ∀(a:List (Addr×Obj))(s:Shared)(b:St)(H:Hp)(x:V)(v c d:Value)(lo hi:Option Int)(f:Addr)(Q:VK),Inv X a b H s->RelV x v->s.heap.IsSliceOf f c d .none->IsPart c lo->IsPart d hi->r x lo hi H Q->
  ∃T id,typeLookup (.type T) "__getitem__"=pure (some (.builtin id))/\s.TypeIs v T/\wpAny (model X.prog X.w) X.A (getItem v (.ref f)) (EP X a b Q) X.xe s
def tSl(r:V->Option Int->Option Int->Hp->VK->Prop)(te:TE)(tl th:TO):TE:=fun a H Q=>te a H fun x b=>tl a b fun l c=>th a c fun u d=>r x l u d Q
theorem zl8(j:SlR X r)(k:PE X e te)(m:PO X lo tl)(n:PO X hi th):PE X (.Subscript e (.Slice lo hi none p2) pos) (tSl r te tl th):=by intro a s d H Q I h;refine Subscript_ (thn (k a s d H _ I h) fun v o z=>eY z fun x p t w y=>?_);refine wpAny_Slice (thn (m a o d p _ t y) fun f A z=>eY z fun l B C E G=>thn (n a A d B _ C G) fun g c z=>eY z fun u i J L M=>?_);refine wpAny_pure ?_;have N:Inv X a d i {c with heap:=c.heap.push {cls:=.type "slice",data:=.fields #[f,g,.none]}}:=J.kept fun b ob q=>Heap.get?_push_of_some _ q;obtain⟨T,id,O,U,Y⟩:=j a {c with heap:=c.heap.push {cls:=.type "slice",data:=.fields #[f,g,.none]}} d i x v f g l u c.heap.objs.size Q N w (Heap.IsSliceOf.new ..) E L M;exact tail_any U O Y (by with_unfolding_all rfl)
noncomputable def cutV(xs:List V)(lo hi:Option Int):List V:=(xs.drop (HT.sIx xs.length 0 lo)).take (HT.sIx xs.length xs.length hi-HT.sIx xs.length 0 lo)
theorem zg9(xs)(lo hi):(cutV xs lo hi).length<=xs.length:=by unfold cutV;rw[length_take,List.length_drop];lia
def rSlT(K:PySem.W.Frag):V->Option Int->Option Int->Hp->VK->Prop:=fun x lo hi H Q=>∃a b,x=.ref a/\SqT K H a b/\
 ¬(HT.sIx b.length 0 lo=0/\HT.sIx b.length b.length hi=b.length)/\∀p,H p=none->Q (.ref p) (upd H p (.tup (cutV b lo hi)))
theorem zqG:SlR X (rSlT X.K):=by
 intro g s u H x v w y lo hi z Q I k l m n h;obtain⟨a,d,rfl,p,t,q⟩:=h;cases k;obtain⟨f,r,i,j⟩:=I.tuple p;have c:f.toArray.size=d.length:=by exact r.length.symm
 refine⟨"tuple",_,PyProof.Rows.slot_tuple_getitem.lookup,i.typeIs,?_⟩;refine HT.getItem_tuple_cut i l m n (by rw[c];exact t) ?_ (by rw[c];exact j);rw[c];refine⟨.ref s.heap.objs.size,_,I.laid (fun b A q=>Heap.get?_push_of_some _ q) (le_refl _) ?_,rfl,q _ (I.hok.fresh (le_refl _))⟩;exact⟨le_trans (zg9 d lo hi) j,_,(r.drop (HT.sIx d.length 0 lo)).take (HT.sIx d.length d.length hi-HT.sIx d.length 0 lo),IsTup.new _ _⟩
def rLtT(K:PySem.W.Frag):R2:=fun x y H Q=>∃a b c d,x=.ref a/\y=.ref b/\SqT K H a (c.map V.int)/\SqT K H b (d.map V.int)/\Q (.bl (HT.lexLt c d)) H
theorem zrE(j:X.A.units<cLine):OpR X (compareOp .Lt) (rLtT X.K):=by intro f s z H x y v u Q I k l h;obtain⟨a,b,g,i,rfl,rfl,m,n,q⟩:=h;cases k;cases l;obtain⟨d,o,p,_⟩:=I.tuple m;obtain⟨c,r,p2,_⟩:=I.tuple n;have t:=zex o;have w:=zex r;exact HT.lt_tupInts p p2 t w j ⟨.bl (HT.lexLt g i),H,I,rfl,q⟩
def zs3(K:PySem.W.Frag):R2:=fun x y H Q=>∃a b d c,x=.ref a/\y=.ref b/\SqT K H a d/\SqT K H b c/\d≠[]/\d.length+c.length<=sizeLine/\
 (c=[]->Q (.ref a) H)/\(c≠[]->∀p,H p=none->Q (.ref p) (upd H p (.tup (d++c))))
theorem Vals.nil_iff(r:Vals xs us):us=[]↔xs=[]:=by cases r with|nil=>simp|cons _ _=>simp
theorem zpf:OpR X (binaryOp .Add) (zs3 X.K):=by intro f s E H x y v u Q I j k h;obtain⟨a,b,l,m,rfl,rfl,n,p,r,g,t,A⟩:=h;cases j;cases k;obtain⟨B,d,C,_⟩:=I.tuple n;obtain⟨i,c,p2,_⟩:=I.tuple p;refine HT.cat_tup C p2 (fun z=>r (d.nil_iff.mp z)) (fun z=>⟨.ref a,H,I,rfl,t (c.nil_iff.mp z)⟩) (fun z=>?_) (by rw[<-d.length,<-c.length];exact g);refine⟨.ref s.heap.objs.size,_,I.laid (fun b G q=>Heap.get?_push_of_some _ q) (le_refl _) ?_,rfl,A (fun w=>z (c.nil_iff.mpr w)) _ (I.hok.fresh (le_refl _))⟩;exact⟨by rw[length_append];exact g,_,d.append c,IsTup.new _ _⟩
end
noncomputable def ixN(n:Nat)(i:Int):Option Nat:=if 0<=i then(if i<n then some i.toNat else none) else if -(n:Int)<=i then some (i+n).toNat else none
noncomputable def atI{a:Type}(xs:List a)(i:Int):Option a:=(ixN xs.length i).bind fun j=>xs[j]?
theorem zpw(h:ixN n i=some j):seqIndex? i n=some j/\j<n/\-(n:Int)<=i/\i<n:=by unfold ixN at h;by_cases b:0<=i;rw[if_pos b]at h;by_cases a:i<n;rw[if_pos a]at h;have e:=Option.some.inj h;exact⟨by rw[seqIndex_of b a,e],by lia,by lia,a⟩;rw[if_neg a]at h;cases h;rw[if_neg b]at h;by_cases a:-(n:Int)<=i;rw[if_pos a]at h;have e:=Option.some.inj h;exact⟨by rw[seqIndex_neg (by lia) a,e],by lia,a,by lia⟩;rw[if_neg a]at h;cases h
theorem zhg(h:atI xs i=some v):∃j,seqIndex? i xs.length=some j/\xs[j]?=some v/\j<xs.length/\-(xs.length:Int)<=i/\i<xs.length:=by
 unfold atI at h;cases e:ixN xs.length i with
 |none=>rw[e]at h;cases h
 |some j=>rw[e]at h;obtain⟨a,b,c,d⟩:=zpw e;exact⟨j,a,h,b,c,d⟩
def zll(b:Expr):Prop:=∀o i,subscripted b false o i=operate [o,i] (getItem o i)
def IxR(X:Cx)(r:R2):Prop:=
 ∀(c a:Expr)(b:List (Addr×Obj))(s:Shared)(d:St)(H:Hp)(x y:V)(v u:Value)(Q:VK),Inv X b d H s->RelV x v->RelV y u->r x y H Q->
  subscripted a false v u=operate [v,u] (getItem v u)->wpAny (model X.prog X.w) X.A (subscriptTail c a v u) (EP X b d Q) X.xe s
def MtR(X:Cx)(id:String)(r:V->List V->Hp->VK->Prop):Prop:=
 ∀(a:List (Addr×Obj))(s:Shared)(b:St)(H:Hp)(x:V)(c:List V)(v:Value)(d:List Value)(Q:VK),Inv X a b H s->RelV x v->Vals c d->r x c H Q->
  wpAny (model X.prog X.w) X.A (call (.builtin id) (v::d)) (EP X a b Q) X.xe s
section
variable{X:Cx}{a b:Expr}{ta tb:TE}{pos:Pos}
theorem IxR.or(h:IxR X r)(h':IxR X k):IxR X (fun x y H Q=>r x y H Q\/k x y H Q):=by intro c d e s f H x y v u Q I g i q j;rcases q with q|q;exact h c d e s f H x y v u Q I g i q j;exact h' c d e s f H x y v u Q I g i q j
theorem zrt(d:IxR X r)(e:PE X a ta)(f:PE X b tb)(hs:zll b):PE X (.Subscript a b pos) (tOp r ta tb):=by intro c s g H Q I h;exact Subscript_ (binT e f I h fun v u i x y j k l m q=>d a b c i g j x y v u Q k l m q (hs _ _))
def rIxL(K:PySem.W.Frag):R2:=fun x y H Q=>∃p c i v,x=.ref p/\y=.int i/\SqL K H p c/\atI c i=some v/\Q v H
def rIxT(K:PySem.W.Frag):R2:=fun x y H Q=>∃p c i v,x=.ref p/\y=.int i/\SqT K H p c/\atI c i=some v/\Q v H
def rIxS:R2:=fun x y H Q=>∃z i c,x=.str z/\y=.int i/\z.length<=sizeLine/\atI z.cps.toList i=some c/\Q (.str ⟨#[c]⟩) H
theorem ix_list:IxR X (rIxL X.K):=by
 intro e f c s n H x y v u Q I C E h o;obtain⟨p,U,i,z,rfl,rfl,G,J,q⟩:=h;cases C;obtain⟨t,rfl⟩:=E;obtain⟨g,r,k,Y⟩:=I.list G;obtain⟨j,d,L,h3,M,N⟩:=zhg J;obtain⟨w,A,l⟩:=r.get L;have O:=r.length;have hn:=zf2;have fin:EP X c n Q w s:=⟨z,H,I,l,q⟩;by_cases B:0<=i;have m:i.toNat=j:=by rw[seqIndex_of B N]at d;exact Option.some.inj d
 exact item_listR k.isList B (by lia) (by rw[m];simpa using A) fin o;have m:(i+(g.toArray.size:Int)).toNat=j:=by rw[seqIndex_neg (by lia) M]at d;rw[size_toArray,<-O];exact Option.some.inj d
 exact subscriptTail_builtinR k.isList.typeIs slot_list_getitem.lookup
  (wpAny_getItem_list_neg k.isList (by lia) (by rw[size_toArray]<;>lia) (by lia) (by rw[m];simpa using A) ⟨rfl,fin⟩) o
theorem ix_tup:IxR X (rIxT X.K):=by
 intro d e c s g H x y v u Q I l m h n;obtain⟨p,M,i,z,rfl,rfl,o,A,q⟩:=h;cases l;obtain⟨t,rfl⟩:=m;obtain⟨B,r,k,N⟩:=I.tuple o;obtain⟨j,C,E,O,T,U⟩:=zhg A;obtain⟨w,G,f⟩:=r.get E;have J:=r.length;have Y:=zf2;have fin:EP X c g Q w s:=⟨z,H,I,f,q⟩;exact subscriptTail_builtinR k.typeIs slot_tuple_getitem.lookup
  (getItem_tuple k (by lia) (by lia) (by rw[size_toArray,<-J];exact C) (by simpa using G) ⟨rfl,fin⟩) n
theorem zr2:IxR X rIxS:=by
 intro d e f s C H x y v u Q I k l h m;obtain⟨z,i,c,rfl,rfl,E,n,q⟩:=h;obtain⟨t,rfl⟩:=k;obtain⟨G,rfl⟩:=l;obtain⟨j,g,o,J,p,r⟩:=zhg n;have w:z.cps.toList.length=z.length:=by simp[Str.length]
 rw[w]at g p r;have L:=zf2;exact tail_any (typeIs_str s z t) slot_str_getitem.lookup (getItem_str (by
  have A:decide (i < -(2^63:Int))=false:=decide_eq_false (by lia);have B:decide (i≥2^63)=false:=decide_eq_false (by lia);rw[A,B,Bool.or_false]) (by rw[g];simpa using o) ⟨.str ⟨#[c]⟩,H,I.tok _,⟨_,rfl⟩,q⟩) m
def rIx(K:PySem.W.Frag):R2:=fun x y H Q=>rIxL K x y H Q\/rIxT K x y H Q\/rIxS x y H Q
theorem znB:IxR X (rIx X.K):=ix_list.or (ix_tup.or zr2)
theorem Inv.lst{c:List (Addr×Obj)}{d:St}{H:Hp}{s:Shared}{p:Addr}{xs:List V}(I:Inv X c d H s)(h:H p=some (.lst xs)) :
  ∃(its:List Value) (n:Nat),Vals xs its/\s.heap.get? p=some {cls:=.type "list",data:=.seq its.toArray n}/\xs.length<=sizeLine:=by
 obtain⟨z,its,n,r,e⟩:=I.hok p _ h;exact⟨its,n,r,e,z⟩
theorem zbZ:zcO X (.builtin "len") (fun xs H Q=>∃p ys,xs=[.ref p]/\(SqL X.K H p ys\/SqT X.K H p ys)/\Q (.int ys.length) H):=by intro i s l H xs m Q I r h;obtain⟨p,ys,rfl,d,q⟩:=h;obtain⟨u,rfl,j⟩:=zlo r;cases j;have n:=zf2;rcases d with d|d;obtain⟨e,f,g,k⟩:=I.list d;have c:=f.length;exact Calls.call_len_list g.isList (by simp only[size_toArray]<;>lia) ⟨.int ys.length,H,I.tok _,⟨s.toks+1,by rw[size_toArray,c]⟩,q⟩;obtain⟨e,f,g,k⟩:=I.tuple d;have c:=f.length;exact len_tuple g (by simp only[size_toArray]<;>lia) ⟨.int ys.length,H,I.tok _,⟨s.toks+1,by rw[size_toArray,c]⟩,q⟩
theorem zgq:zcO X (.type "list") (fun xs H Q=>∃p ys,xs=[.ref p]/\(SqL X.K H p ys\/SqT X.K H p ys)/\∀l,H l=none->Q (.ref l) (upd H l (.lst ys))):=by
 intro i s A H xs C Q I r h;obtain⟨p,ys,rfl,j,q⟩:=h;obtain⟨u,rfl,B⟩:=zlo r;cases B;have fin:∀(c:List Value),Vals ys c->ys.length<=sizeLine->∀(d:Heap)(f:Nat),(∀b z,s.heap.get? b=some z->d.get? b=some z)->
   d.get? s.heap.objs.size=some {cls:=.type "list",dict:=none,data:=.seq c.toArray f,slots:=#[]}->EP X i A Q (.ref s.heap.objs.size) {s with heap:=d}:=fun c g k d f m e=>
  ⟨.ref s.heap.objs.size,_,I.laid m (le_refl _) (show ObjOk X.prog X.w _ d _ (.lst ys) from⟨k,c,f,g,e⟩),rfl,q _ (I.hok.fresh (le_refl _))⟩
 rcases j with j|j;obtain⟨c,g,v,k⟩:=I.list j;have t:=g.length;obtain⟨o,w,x,n,y⟩:=v.isList;exact call_list_seq p (.inl rfl) w x y (fun d f m e=>fin c g k d f m e) (by simp only[size_toArray]<;>lia);obtain⟨c,g,v,k⟩:=I.tuple j;have t:=g.length;obtain⟨o,w,x,n,y⟩:=v;exact call_list_seq p (.inr rfl) w x y (fun d f m e=>fin c g k d f m e) (by simp only[size_toArray]<;>lia)
theorem zfm:zcO X (.type "tuple") (fun xs H Q=>∃p ys,xs=[.ref p]/\((SqL X.K H p ys/\∀l,H l=none->Q (.ref l) (upd H l (.tup ys)))\/(SqT X.K H p ys/\Q (.ref p) H))):=by intro c s k H xs y Q I r h;obtain⟨p,ys,rfl,h⟩:=h;obtain⟨u,rfl,v⟩:=zlo r;cases v;rcases h with⟨g,q⟩|⟨g,q⟩;obtain⟨d,i,j,m⟩:=I.list g;have n:=i.length;refine call_tuple_list j.isList (fun f w=>?_) (by simp only[size_toArray]<;>lia);have t:=I.kept (t':=s.toks) w;have x:=t.laid (t':=s.toks) (fun b o e=>Heap.get?_push_of_some _ e) (le_refl _) (show ObjOk X.prog X.w _ _ _ (.tup ys) from⟨m,d,i,IsTup.new _ _⟩);exact⟨.ref f.objs.size,_,x,rfl,q _ (t.hok.fresh (le_refl _))⟩;obtain⟨d,i,j,m⟩:=I.tuple g;exact call_tuple_same j ⟨.ref p,H,I,rfl,q⟩
def tyV(K:PySem.W.Frag)(T:String)(x:V)(H:Hp):Prop:=match x with
 |.str _=>T="str"|.int _=>T="int"
 |.ref p=>(T="list"/\∃d,SqL K H p d)\/(T="tuple"/\∃o,K.lookup p=some o/\o.cls=.type "tuple"/\o.dict=none)\/
  (T="dict"/\((∃c,H p=some (.dK c))\/∃c,H p=some (.dT c)))\/(T="set"/\∃S n,H p=some (.set S n))
 |_=>False
theorem zqd(I:Inv X l y H s)(r:RelV x v)(g:tyV X.K T x H):
  s.TypeIs v T/\∀a,v=.ref a->∃ob,s.heap.get? a=some ob/\ob.dict=none:=by
 cases x with
 |str z=>obtain⟨t,rfl⟩:=r;cases(show T="str" from g);exact⟨typeIs_str s z t,fun _ e=>by cases e⟩| int i=>obtain⟨t,rfl⟩:=r;cases(show T="int" from g);exact⟨typeIs_int s i t,fun _ e=>by cases e⟩| ref p=>
  cases r;rcases g with⟨rfl,A,q⟩|⟨rfl,o,d,u,h⟩|⟨rfl,d⟩|⟨rfl,S,n,d⟩;obtain⟨w,_,m,_⟩:=I.list q;refine⟨m.isList.typeIs,fun a e=>?_⟩;cases e;obtain⟨o,n,e,c,h,_⟩:=m;exact⟨o,e,h⟩;refine⟨⟨o,I.kIn p o d,u⟩,fun a e=>?_⟩;cases e;exact⟨o,I.kIn _ o d,h⟩;have z:∃o,s.heap.get? p=some o/\o.ExactDict:=by rcases d with⟨j,d⟩|⟨j,d⟩;obtain⟨_,_,_,_,o,_,_,e,f,_⟩:=I.hok p _ d;exact⟨o,e,f⟩;obtain⟨_,_,_,_,o,_,_,e,f,_⟩:=I.hok p _ d;exact⟨o,e,f⟩
  obtain⟨o,e,f⟩:=z;refine⟨⟨o,e,f.1⟩,fun a k=>?_⟩;cases k;exact⟨o,e,f.2.1⟩;obtain⟨o,_,_,_,e,f,_⟩:=I.hok p _ d;refine⟨⟨o,e,f.1⟩,fun a k=>?_⟩;cases k;exact⟨o,e,f.2.1⟩
 |_=>exact False.elim g
def tBM(K:PySem.W.Frag)(T:String)(r:V->List V->Hp->VK->Prop)(e:TE)(t:TA):TE:=fun c H Q=>e c H fun x d=>tyV K T x d/\t c d fun f g=>r x f g Q
variable{o e:Expr}{es:List Expr}{to:TE}{t:TA}{name:Str}{apos cpos:Pos}{T id:String}{r:V->List V->Hp->VK->Prop}
theorem zrx(u:PlainAttrs T)(i:Slot T name id)(l:typeOf (.builtin id)=pure (.type "method_descriptor"))(w:MtR X id r)(y:PE X o to)(A:PA X (e::es) t)
  (f:attributeBase o name X.env (eval o X.env)=eval o X.env:=by rfl)
  (j:((backTo cpos (starEach (e::es) X.env)).all (fun x=>!x.1)&&(backToKw cpos (keywordEach [] X.env)).all (fun x=>x.1.isSome)
   && decide ((e::es).length+([]:List Keyword).length+(if([]:List Keyword).isEmpty then 0 else 1)<30))=true:=by rfl)
  (g:(apos.endLine==cpos.line)=true:=by rfl) (hs:starEach (e::es) X.env=(false,eval e X.env)::starEach es X.env:=by rfl) (d:(backTo cpos (starEach es X.env)).any (·.1)=false:=by rfl) :
  PE X (.Call (.Attribute o name apos) (e::es) [] cpos) (tBM X.K T r to t):=by
 intro c s m H Q I h;refine wpAny_Call_method_late f j g rfl (thn (y c s m H _ I h) fun v B k=>?_);obtain⟨x,C,n,p,E,G⟩:=k;obtain⟨J,L⟩:=zqd n p E;refine⟨T,id,u,i,l,J,L,?_⟩;have q:=A cpos c B m C _ n G;rw[hs]at q⊢;refine Calls.callWith_builtin (by show(false||(backTo cpos (starEach es X.env)).any (·.1))=false;rw[d]<;>rfl) (Calls.evalArgs_plain ?_);exact thn q fun M N z=>eY z fun O U Y r2 q2=>w c N m U x O v M Q Y p r2 q2
end
def MtM(X:Cx)(id:String)(r:V->List V->Hp->VK->Prop):Prop:=
 ∀(a:List (Addr×Obj))(s:Shared)(b:St)(H:Hp)(x:V)(c:List V)(v:Value)(d:List Value)(Q:VK),Inv X a b H s->RelV x v->Vals c d->r x c H Q->
  wpAny (model X.prog X.w) X.A (call (.builtin id) (v::d)) (EP X a b Q) X.xe s
theorem Vals.one:∀{x:V}{us:List Value},Vals [x] us->∃u,us=[u]/\RelV x u
 |_,_,.cons r .nil=>⟨_,rfl,r⟩
section
variable{X:Cx}{pins:List (Addr×Obj)}{σ:St}{H:Hp}{s:Shared}{l b:Addr}{xs ys zs:List V}
theorem Inv.lset{its its':List Value}(I:Inv X pins σ H s)(a:H l=some (.lst xs))(e:s.heap.get? l=some {cls:=.type "list",data:=.seq its.toArray n})(c:f its.toArray=its'.toArray)(hv:Vals ys its')(hz:ys.length<=sizeLine):
  Inv X pins σ (upd H l (.lst ys)) {s with heap:=s.heap.update l (Obj.mapSeq f),toks:=t'}:=by
 have q:=PySem.IsL.update e f;rw[c]at q;refine I.write (by rw[a];exact trivial) (.inl rfl) (fun h u d g=>(Heap.get?_update_other s.heap (Obj.mapSeq f) (Ne.symm d)).trans g) ⟨_,q⟩ ?_;exact⟨hz,its',_,hv,q⟩
theorem Inv.lnew(I:Inv X pins σ H s)(hv:Vals ys its)(hz:ys.length<=sizeLine):
  Inv X pins σ (upd H s.heap.objs.size (.lst ys)) {s with heap:=s.heap.push {cls:=.type "list",data:=.seq its.toArray},toks:=t'}:=
 I.laid (fun _ _ q=>Heap.get?_push_of_some _ q) (le_refl _) ⟨hz,its,0,hv,Heap.get?_push_size _ rfl⟩
theorem Inv.fresh(I:Inv X pins σ H s):H s.heap.objs.size=none:=I.hok.fresh (le_refl _)
theorem Inv.lstM(I:Inv X pins σ H s)(a:H l=some (.lst xs)):xs.length<=sizeLine/\∃(its:List Value) (n:Nat),Vals xs its/\xs.length=its.length/\s.heap.get? l=some {cls:=.type "list",data:=.seq its.toArray n}:=by obtain⟨z,its,n,r,e⟩:=I.hok l _ a;exact⟨z,its,n,r,r.length,e⟩
theorem zmn(h:n<=sizeLine):Builtin.List.listTooLong n=false:=decide_eq_false (by lia)
end
section
variable{X:Cx}
def zoL:V->List V->Hp->VK->Prop:=fun x b H Q=>∃l a y,x=.ref l/\b=[y]/\H l=some (.lst a)/\a.length<sizeLine/\Q .non (upd H l (.lst (a++[y])))
theorem zfX:MtM X "list.append" zoL:=by intro b s i H x j v k Q I d f h;obtain⟨l,m,y,rfl,rfl,c,o,q⟩:=h;cases d;obtain⟨u,rfl,g⟩:=f.one;obtain⟨z,a,n,r,p,e⟩:=I.lstM c;refine call_meets F.slot_list_append ⟨_,e,rfl⟩ F.entry_list_append (F.args_list_append_2 _ _) (PySem.list_append l a.toArray n u (by rw[size_toArray];lia)) ⟨e,?_⟩;refine⟨.non,_,I.lset c e (by simp) (r.append (.cons g .nil)) ?_,rfl,q⟩;rw[length_append,List.length_singleton];lia
def zoK:V->List V->Hp->VK->Prop:=fun x d H Q=>∃l b a c,x=.ref l/\d=[.ref b]/\H l=some (.lst a)/\H b=some (.lst c)/\a.length+c.length<=sizeLine/\Q .non (upd H l (.lst (a++c)))
theorem zj4:MtM X "list.extend" zoK:=by
 intro g s A H x B v C Q I j k h;obtain⟨l,b,E,G,rfl,rfl,i,m,J,q⟩:=h;cases j;obtain⟨u,rfl,o⟩:=k.one;cases o;obtain⟨z,c,n,r,L,e⟩:=I.lstM i;obtain⟨M,a,p,t,w,y⟩:=I.lstM m;have f:c.toArray.size+a.toArray.size<=sizeLine:=by rw[size_toArray,size_toArray];lia
 have d:¬(!c.toArray.isEmpty&&Builtin.List.listTooLong (c.toArray.size+a.toArray.size))=true:=by rw[zmn f,Bool.and_false];exact Bool.false_ne_true
 refine call_meets F.slot_list_extend ⟨_,e,rfl⟩ F.entry_list_extend (F.args_list_extend_2 _ _)
  (AutoSeq1.list_extend_list_list_0 l c.toArray n b a.toArray p d (by lia) (by lia)) ⟨e,y,?_⟩
 refine⟨.non,_,I.lset i e (by simp) (r.append t) ?_,rfl,q⟩;rw[length_append];lia
def rCat:R2:=fun x y H Q=>∃l b a c,x=.ref l/\y=.ref b/\H l=some (.lst a)/\H b=some (.lst c)/\a.length+c.length<=sizeLine/\∀p,H p=none->Q (.ref p) (upd H p (.lst (a++c)))
theorem zrH:OpR X (binaryOp .Add) rCat:=by
 intro d s t H x y v u Q I f g h;obtain⟨l,b,w,A,rfl,rfl,i,j,B,q⟩:=h;cases f;cases g;obtain⟨z,c,n,r,C,e⟩:=I.lstM i;obtain⟨E,a,G,k,m,o⟩:=I.lstM j;refine PySem.P.add_list e o ?_ (by rw[size_toArray,size_toArray];lia);have p:c.toArray++a.toArray=(c++a).toArray:=by simp
 rw[p];exact⟨.ref _,_,I.lnew (r.append k) (by rw[length_append];lia),rfl,q _ I.fresh⟩
end
end L2
namespace Att
open PySem PySem.W PySem.Calls PyProof.Rows
theorem zdP:∀(c:List Int)(vs:List Value),WellAll P h vs (c.map WData.int)->IntsAre vs c:=by intro c;induction c with| nil=>intro vs w;cases w;exact .nil| cons n c d=>intro vs w;cases w with| cons a b=>cases a;exact .cons _ _ (d _ b)
theorem zjp{l:OpenLaw}(p:l.most=some n)(c:l.row.toRowW.claim.pre args=true)(k:WellAll P h e args):
  ∃a vs b,e=[Value.ref a]/\args=[WData.list (b.map WData.int)]/\h.get? a=some {cls:=.type "list",data:=.seq vs.toArray}/\IntsAre vs b/\b.length<=n:=by
 have m:=(pre_splitW c).1;have o:l.pre.holds [] {args:=args}=true:=(pre_splitW c).2;obtain⟨d,r,rfl,s,t⟩:=hasAllW_cons m;obtain rfl:=hasAllW_nil t;obtain⟨z,rfl,u⟩:=hasW_list s;obtain⟨b,rfl⟩:=items_int u;have f:b.length<=n:=by
  unfold OpenLaw.pre at o;have i:(WTm.not (.lt (.lit (.int (n:Int))) (.len (.arg 0)))).holds [] {args:=[.list (b.map .int)]}=true:=by have i:=(holds_andW o).1;rw[p]at i;exact i
  have j:=condW_of i (w_not (w_lt w_lit (w_len_list (w_arg rfl))));rw[length_map]at j;refine Nat.le_of_not_lt fun q=>?_;have v:(n:Int)<((b.length:Nat):Int):=by omega
  first
   |(exact absurd j (by decide))
   |(simp at j;omega)
 cases k with| cons w x=>cases x;cases w with|list y g=>exact⟨_,_,b,rfl,rfl,y,zdP b _ g,f⟩
theorem zjR(l:OpenLaw)(args):l.row.toRowW.claim.post args (.bool true) args=true:=
 postW_of
  (show WShape.has [] (.bool true) .bool=true by first|rfl|decide|simp[WShape.arms])
  (show(WTm.eq .res (.lit (.bool true))).value [] {args:=args,res:=some (.bool true),after:=args}=some (.bool (true==true)) from w_eq_bool (w_res rfl) w_lit) rfl
theorem attach_call{l:OpenLaw}(E:l.most=some n)(u:d.params.defaults=[])(call:∀(w:World)(s₀ b:Shared)(m v:Str->Option Value)(h:Addr)(o:Obj)(x p c:Value)(a:Addr)(vs:List Value)(s:List Int),
   Ground q e [] H w s₀ m v b.heap->I w b.heap->
   b.heap.get? h=some o->o.data=.func (docDef d.name d.params d.body d.scope x p c)->b.heap.CodeRec p d.name->m d.name=some (.ref h)->
   b.heap.get? a=some {cls:=.type "list",data:=.seq vs.toArray}->IntsAre vs s->s.length<=n->b.gens = #[]->
   codeAny (model l.prog w) callerA (.call (.ref h) ⟨[.ref a],[]⟩) (fun r t=>r=.ok (.ret (.bool true))/\OldK b.heap t.heap/\t.os=b.os/\AllBare t.gens) b):
  WalkO q e H I l.row.toRowW d [] (fun f vs=>PySem.call f vs):=by
 intro w s₀ b m v G Y h o x p c J kV L M y hD z N args B as i C O A Q;obtain rfl:J=.none:=Dflts.none hD u;obtain rfl:kV=.none:=Dflts.noKw hD;obtain⟨a,vs,s,rfl,rfl,j,g,k⟩:=zjp E i A;refine enter_call (codeAny_mono (call w s₀ b m v h o x p c a vs s G Y L (fd_plain M) y z j g k N) fun r t T=>?_);obtain⟨rfl,U,h3,h4⟩:=T;exact⟨.inl ⟨.bool true,.bool true,[],rfl,fun _=>rfl,.bool true,zjR l _,fun _=>⟨Pairwise.nil,fun _ hm=>(by cases hm)⟩⟩,U,h3,h4⟩
end Att
namespace L2
open PySem PySem.Spec PyProof.Rows
theorem zfr:∀{vs:List Value}{a:List Int},IntsAre vs a->Vals (a.map V.int) vs
 |_,_,.nil=>.nil|_,_,.cons n t h=>.cons ⟨t,rfl⟩ (zfr h)
noncomputable def zar(s:Stmt):Arguments:=match s with|.FunctionDef _ a _ _ _ _ _ _ _ _=>a|_=>{posonlyargs:=[],args:=[],vararg:=none,kwonlyargs:=[],kw_defaults:=[],kwarg:=none,defaults:=[]}
noncomputable def zal(s:Stmt):List Stmt:=match s with|.FunctionDef _ _ b _ _ _ _ _ _ _=>b|_=>[]
noncomputable def zaa(s:Stmt):Scope:=match s with|.FunctionDef _ _ _ _ _ _ a _ _ _=>a|_=>{kind:=.function,names:=[],isGenerator:=false,isCoroutine:=false}
abbrev CX0:CXT:=fun _ _ _ _ _ _=>False
abbrev E0:XK:=fun _ _ _=>False
theorem zgQ:zd9 CX0 X E0:=fun _ _ _ _ _ _ _ h=>h.elim
structure Fun(K:PySem.W.Frag)(x qual:Str)(st:Stmt)(f:Addr)(fd:FuncData):Prop where
 ex:∃(oc:Value) (od:Option Addr) (kV doc pm:Value) (an:Option Addr) (cdv ct:Value) (osl:Array (Option Value)),
  fd=fnOf x qual (zar st) (zal st) (zaa st) .none kV doc pm an cdv ct/\K.lookup f=some ⟨oc,od,.func fd,osl⟩/\codeIn K cdv qual=true
 kp:keepIn K (.ref f)=true
def Same(H a:Hp):Prop:=∀b o,H b=some o->a b=some o
noncomputable def zbc(a:List (Str×Addr))(y:Str×NameKind)(b:List (Str×Addr)):List (Str×Addr):=if(y.2==NameKind.free)=true then(match a.lookup y.1 with|some c=>(y.1,c)::b|none=>b) else b
noncomputable def zgo(b:List (Str×Addr))(names:List (Str×NameKind))(c:List (Str×Addr)):List (Str×Addr):=names.foldl (fun a y=>zbc b y a) c
theorem zdT{c a:Type}(f)(g:c->a->a):∀(l:List c)(b:a),(∀x∈l,∀b,f x b=pure (.yield (g x b)))->forIn l b f=(pure (l.foldl (fun b x=>g x b) b):Sem a)
 | [],b,_=>rfl| x::l,b,h=>by rw[List.forIn_cons,h x mem_cons_self];exact zdT f g l _ fun y d=>h y (mem_cons_of_mem _ d)
theorem zbN(h:∀y∈scope.names,y.2=.free->∃c,env.cells.lookup y.1=some c):
  closureFor scope env=pure (zgo env.cells scope.names []):=by
 unfold closureFor zgo;dsimp only;rw[zdT _ (fun y a=>zbc env.cells y a)];simp;intro y e a;obtain⟨n,k⟩:=y;by_cases b:k=.free;obtain⟨c,d⟩:=h _ e b;subst b;simp[cellOf,d,zbc];have:(k==NameKind.free)=false:=by simpa using b
 simp[this,zbc]
theorem zgn:∀(names:List (Str×NameKind))(b:List (Str×Addr)),(∀x c,b.lookup x=some c->a.lookup x=some c)->
  ∀x c,(zgo a names b).lookup x=some c->a.lookup x=some c
 | [],b,h=>h| y::r,b,h=>by
  refine zgn r (zbc a y b) ?_;intro x c e;unfold zbc at e;split at e;split at e;rename_i g d;rw[lookup_cons]at e;cases f:x==y.1 with| true=>rw[f]at e;have q:=beq_iff_eq.mp f;have i:=Option.some.inj e;rw[q,<-i];exact d|false=>rw[f]at e;exact h x c e
  exact h x c e;exact h x c e
theorem zdY:∀(names:List (Str×NameKind))(a:List (Str×Addr))(x:Str),(∀y∈names,y.2=.free->∃c,b.lookup y.1=some c)->
  ((∃c,a.lookup x=some c)\/(x,NameKind.free)∈names)->∃c,(zgo b names a).lookup x=some c
 | [],a,x,_,h=>by rcases h with h|h;exact h;cases h
 |y::r,a,x,d,h=>by
  refine zdY r (zbc b y a) x (fun z f=>d z (mem_cons_of_mem _ f)) ?_;rcases h with⟨c,h⟩|h;left;unfold zbc;split;split;rename_i g i;rw[lookup_cons];cases j:x==y.1 with|true=>exact⟨g,rfl⟩|false=>exact⟨c,h⟩
  exact⟨c,h⟩;exact⟨c,h⟩;rcases mem_cons.mp h with h|h;left;subst h;obtain⟨c,e⟩:=d _ mem_cons_self rfl;refine⟨c,?_⟩;simp[zbc,e];exact .inr h
noncomputable def zcf(env:Env)(y:Str×NameKind):Str×NameKind:=if(y.2==.free&&env.scope.kind==.function&&env.kindOf y.1==some .cell)=true then(y.1,.cell) else y
theorem zbD(scope)(env):(relabel scope env).names=scope.names.map (zcf env):=by refine List.map_congr_left fun y _=>?_;rfl
theorem zdx(env)(y):(zcf env y).1=y.1:=by unfold zcf;split<;>rfl
theorem zdw(env)(y):(zcf env y).2=y.2\/(y.2=.free/\(zcf env y).2=.cell):=by unfold zcf;split;rename_i h;replace h:=qL qb1 h;exact .inr ⟨h.1.1,rfl⟩;exact .inl rfl
theorem zbU(env)(x):∀names:List (Str×NameKind),∀k,(names.map (zcf env)).lookup x=some k->∃a,(x,a)∈names/\names.lookup x=some a/\(k=a\/(a=.free/\k=.cell))
 | [],k,h=>by simp at h| y::r,k,h=>by rw[map_cons]at h;have c:=zdx env y;have d:=zdw env y;obtain⟨n,f⟩:=y;generalize j:zcf env (n,f)=z at *;obtain⟨g,i⟩:=z;subst c;rw[lookup_cons]at h;rw[lookup_cons];cases b:x==g with| true=>rw[b]at h;have q:=beq_iff_eq.mp b;subst q;have e:=Option.some.inj h;subst e;exact⟨f,mem_cons_self,rfl,d⟩| false=>rw[b]at h;obtain⟨a,m,l,q⟩:=zbU env x r k h;exact⟨a,mem_cons_of_mem _ m,l,q⟩
theorem zbE(env)(x):∀names:List (Str×NameKind),names.lookup x=some .free->(names.map (zcf env)).lookup x=some .free\/(names.map (zcf env)).lookup x=some .cell
 | [],h=>by simp at h| y::r,h=>by
  rw[map_cons];have b:=zdx env y;have a:=zdw env y;obtain⟨n,c⟩:=y;generalize i:zcf env (n,c)=z at *;obtain⟨g,d⟩:=z;simp only at b a;subst b;rw[lookup_cons]at h;rw[lookup_cons];cases f:x==g with
  |true=>rw[f]at h;have e:=Option.some.inj h;subst e;rcases a with a|⟨_,a⟩;left;rw[a];right;rw[a]
  |false=>rw[f]at h;exact zbE env x r h
structure CompOk(sc scope:Scope)(N0:List Str)(js:List Nat):Prop where
 kind:scope.kind=.function
 nocell:∀y∈scope.names,y.2≠.cell
 locs:∀y∈scope.names,y.2=.local->scope.names.lookup y.1=some .local
 frees:∀y∈scope.names,y.2=.free->sc.names.lookup y.1=some .cell\/sc.names.lookup y.1=some .free
 caps:∀j∈js,scope.names.lookup (N0.getD j "")=some .free/\j<N0.length
noncomputable abbrev zaS(X:Cx)(a:List Str)(scope:Scope)(cl:List (Str×Addr))(C:Addr)(b:List Addr)(s:Shared)(H:Hp)(pn:List (Addr×Obj)):Cx:={X with N:=a,s₀:=s,H₀:=H,env:=compEnvC scope cl C X.env,outer:=X.stack,stack:=X.stack,ex:=b,fn:=fun _=>false,pn:=pn,xe:=fun _ _=>False}
noncomputable abbrev cxX(XE:Cx->Value->Shared->Prop)(X:Cx)(a:List Str)(scope:Scope)(cl:List (Str×Addr))(C:Addr)(b:List Addr)(s:Shared)(H:Hp)(pn:List (Addr×Obj)):Cx:={zaS X a scope cl C b s H pn with xe:=XE (zaS X a scope cl C b s H pn)}
noncomputable def csl(a:Nat)(b:List Nat)(c:St):St:=List.replicate a none++b.map fun j=>(c[j]?).join
noncomputable abbrev capN(a:List Str)(tgs:List Str)(b:List Nat):List Str:=tgs++b.map fun j=>a.getD j ""
def PTs(X:Cx)(b:List Expr)(t:TT):Prop:=
 ∀(a:List (Addr×Obj))(s:Shared)(d:St)(H:Hp)(Q:Bool->Hp->Prop),Inv X a d H s->t d H Q->
  wpAny (model X.prog X.w) X.A (forIn b true fun c r=>if r=true then do let e <-isTrue c X.env (eval c X.env);pure (ForInStep.yield e) else pure (ForInStep.yield r)) (TP X a d Q) X.xe s
def tYes:TT:=fun _ H Q=>Q true H
theorem zoS:PTs X [] tYes:=fun a s b H Q I h=>wpAny_tests_nil ⟨H,I,h⟩
theorem zjN(h:PT X c t):PTs X [c] t:=fun a s b H Q I q=>wpAny_tests_one (h a s b H Q I q)
def znX(o:Nat)(q:List Nat)(r:TI)(g:TG)(tt:TT)(s:TE):TE:=fun h H Q=>r h H fun J j=>∀p,j p=none->
 ∃W:Nat->Nat->St->Hp->Prop,(∃m,W 0 m (csl o q h) (upd j p (.lst [])))/\∀i m d e,W i m d e->
  (J.stop i e/\Q (.ref p) e)\/(J.go i e/\∃N:St->Hp->Prop,(∀a f,N a f->∃k,k<m/\W (i+1) k a f)/\
   ∀x f,J.yld i e x f->g x d f fun a t=>tt a t fun b l=>if b=true then s a l fun v n=>∃c,n p=some (.lst c)/\c.length<sizeLine/\N a (upd n p (.lst (c++[v]))) else N a l)
section
variable{prog:Program}{w:World}{A:Around}{R:Result->Shared->Prop}{s:Shared}
theorem ziU(J:Nat->Shared->Prop)(hE:∀e G,E e G->notedBy (model prog w) A env (fun x B=>R (.error x) B) e G)(k:∀n s,J n s->wpAny (model prog w) A (pyNext it) (fun r b=>(r=none/\R (.ok .next) b)\/∃v,r=some v/\
   wpAny (model prog w) A (letOwnedTupleGo C it v) (fun _ s₀=>wpAny (model prog w) A (assign C env v) (fun _ f=>
    wpAny (model prog w) A (forIn l true fun c r=>if r=true then do let ok <-isTrue c env (eval c env);pure (ForInStep.yield ok) else pure (ForInStep.yield r)) (fun ok d=>
     if ok=true then wpAny (model prog w) A (eval o env) (fun x g=>wpAny (model prog w) A (call (.builtin "list.append") [p,x]) (fun _ i=>∃m,m<n/\J m i) E g) E d
     else ∃m,m<n/\J m d) E f) E s₀) E b) E s)(n)(h:J n s):codeAny (model prog w) A (.compLoop (.ListComp o [⟨C,q,l,0⟩] scope pos) 0 it p env) R s:=by
 refine codeAny_loop rfl J (fun n s H=>?_) n h;refine wpAny_noted ?_;refine wpAny_bind (wpAny_standAt (wpAny_bind (wpAny_mono (k n s H) (fun r b a=>?_) hE)));rcases a with⟨rfl,a⟩|⟨v,rfl,a⟩;exact wpAny_pure a;refine wpAny_bind (wpAny_mono a (fun _ s₀ t=>?_) hE);refine wpAny_bind (wpAny_mono t (fun _ f u=>?_) hE);refine wpAny_bind (wpAny_mono u (fun ok d j=>?_) hE);cases ok with|false=>exact wpAny_pure ⟨rfl,j⟩| true=>exact wpAny_bind (wpAny_bind (wpAny_mono j (fun x g y=>(wpAny_bind (wpAny_mono y (fun _ i z=>wpAny_pure (wpAny_pure ⟨rfl,z⟩)) hE))) hE))
end
section
variable{X:Cx}{sc scope:Scope}{tgs:List Str}{js:List Nat}{elt tg iter:Expr}{ifs:List Expr}{pos:Pos}{wi:TI}{g:TG}{tt:TT}{te:TE}
theorem zgW(XE)(hc:X.calm=true)(hsc:X.env.scope=sc)(ok:CompOk sc scope X.N js)(hg:∀cl C B s H pn,PG (cxX XE X (capN X.N tgs js) scope cl C B s H pn) tg g)(ht:∀cl C B s H pn,PTs (cxX XE X (capN X.N tgs js) scope cl C B s H pn) ifs tt)(he:∀cl C B s H pn,PE (cxX XE X (capN X.N tgs js) scope cl C B s H pn) elt te){RR:Value->Addr->Result->Shared->Prop}{Q:VK}(I2:Inv X a σ H2 s2)(T:Turn X.prog X.w X.K tg J B it tn)(st2:tn 0 s2.heap)(f2:∀b∈B,FpOk X a H2 b)(rd:∀p,H2 p=none->∃W:Nat->Nat->St->Hp->Prop,(∃m,W 0 m (csl tgs.length js σ) (upd H2 p (.lst [])))/\∀i m G A,W i m G A->
   (J.stop i A/\Q (.ref p) A)\/(J.go i A/\∃N:St->Hp->Prop,(∀σ2 H2,N σ2 H2->∃m',m'<m/\W (i+1) m' σ2 H2)/\
    ∀x H2,J.yld i A x H2->g x G H2 fun σ2 H3=>tt σ2 H3 fun b H4=>if b=true then te σ2 H4 fun v H5=>∃L,H5 p=some (.lst L)/\L.length<sizeLine/\N σ2 (upd H5 p (.lst (L++[v]))) else N σ2 H4))(fin:∀p C A M,Inv X a σ A M->(∃m,M.heap.Ns C m)->s2.heap.objs.size<C->A C=none->Q (.ref p) A->RR (.ref p) C (.ok .next) M)(err:∀(Y:Cx)(p C:Addr),Y.env.frame=X.env.frame->X.s₀.heap.objs.size<=Y.s₀.heap.objs.size->(∀pins' G A M,Inv Y pins' G A M->Inv X a σ A M/\(∃m,M.heap.Ns C m)/\A C=none)->s2.heap.objs.size<C->(∀q∈X.pn++a,q.1<Y.s₀.heap.objs.size)->∀e M,XE Y e M->notedBy (model X.prog X.w) X.A Y.env (fun x s''=>RR (.ref p) C (.error x) s'') e M):
  wpAny (model X.prog X.w) X.A (newList []) (fun L s₃=>wpAny (model X.prog X.w) X.A (newFunctionEnv scope X.env.globals (zgo X.env.cells scope.names []) [] X.env.qual none .none (some X.env)) (fun cenv s₄=>codeAny (model X.prog X.w) X.A (.compStart (.ListComp elt [⟨tg,iter,ifs,0⟩] scope pos) 0 (.ref it) L {cenv with scope:=relabel scope X.env}) (RR L cenv.locals) s₄) E s₃) E s2:=by
 subst hsc;refine wpAny_newObj_type (wpAny_newFunctionEnv ok.nocell (by intro y hy;simp at hy) (fun I hns₁ hsb₁=>?_) ok.kind);have t:=I2.lnew (its:=[]) (ys:=[]) (t':=s2.toks) .nil (zero_le _);obtain⟨W,⟨m0,w0⟩,turn⟩:=rd _ I2.fresh;generalize hp:s2.heap.objs.size=p at *;generalize hs3:({s2 with heap:=s2.heap.push {cls:=.type "list",data:=.seq ([]:List Value).toArray}}:Shared)=l at t;have e3:l.heap=s2.heap.push {cls:=.type "list",data:=.seq ([]:List Value).toArray}:=by rw[<-hs3]
 have sz3:l.heap.objs.size=p+1:=by rw[e3,Heap.size_push,hp]
 generalize hH3:upd H2 p (.lst [])=H3 at *
 have hns:I.Ns l.heap.objs.size (fun x=>([]:List (Str×Value)).reverse.lookup x):=by rw[e3];exact hns₁
 have hsb:Heap.SameBut l.heap.objs.size (l.heap.push {cls:=.type "dict",data:=.dict #[]}) I:=by rw[e3];exact hsb₁
 have old:∀b o,l.heap.get? b=some o->I.get? b=some o:=fun b o e=>(hsb.2 b (ne_of_lt (Heap.lt_size e))).trans (Heap.get?_push_of_some _ e);have frees:∀y∈scope.names,y.2=.free->∃c,X.env.cells.lookup y.1=some c:=fun y hy hk=>I2.ok.has y.1 (ok.frees y hy hk);have w:∀x c,(zgo X.env.cells scope.names []).lookup x=some c->X.env.cells.lookup x=some c:=zgn scope.names [] (fun x c e=>by simp at e);generalize hcl:zgo X.env.cells scope.names []=cl at *;have okX:(cxX XE X (capN X.N tgs js) scope cl l.heap.objs.size B l H3 (X.pn++a)).Ok:=
  {mod:=t.ok.mod,kind:=ok.kind,glob:=t.ok.glob,blt:=t.ok.blt,above:=le_refl _,
   inj:=fun x y c e1 U=>t.ok.inj x y c (w x c e1) (w y c U),
   has:=fun x hk=>by
    have hk':(scope.names.map (zcf X.env)).lookup x=some .cell\/(scope.names.map (zcf X.env)).lookup x=some .free:=by rw[<-zbD];exact hk
    rw[<-hcl];refine zdY scope.names [] x frees (.inr ?_);rcases hk' with q|q;obtain⟨k0,m,_,e⟩:=zbU X.env x _ _ q;rcases e with e|⟨e,_⟩;subst e;exact absurd rfl (ok.nocell _ m);subst e;exact m;obtain⟨k0,m,_,e⟩:=zbU X.env x _ _ q;rcases e with e|⟨e,z⟩;subst e;exact m;exact absurd z (fun h=>(by cases h)),
   cab:=fun x c e=>absurd e Bool.false_ne_true,hd:=t.ok.hd,frames:=t.ok.frames,stk:=.inl rfl,
   exf:=fun b f=>⟨ne_of_lt (by
    obtain⟨o,ho,_⟩:=T.obj 0 _ st2 b f;rw[sz3,<-hp];exact Nat.lt_succ_of_lt (Heap.lt_size ho)),fun x c e=>(f2 b f).2.2.2.2.1 x c (w x c e)⟩,
   bs:=t.bs,bsz:=le_trans t.ok.bsz t.sz,
   noex:=fun b o e f=>by rcases(f2 b f).2.2.2.1 with z|z;exact t.ok.noex b o e z;exact absurd (lt_of_lt_of_le (Heap.lt_size e) (le_trans t.ok.bsz z)) (lt_irrefl _),
   exfs:=fun b f hx=>by rcases mem_cons.mp (t.stkSub b hx) with z|z;exact(f2 b f).2.1 z;exact(f2 b f).2.2.1 z,
   funs:=t.stack,frf:=t.stkFree}
 have I4:Inv (cxX XE X (capN X.N tgs js) scope cl l.heap.objs.size B l H3 (X.pn++a)) [] (csl tgs.length js σ) H3 {l with heap:=I}:=
  {ok:=okX,os:=rfl,bare:=t.bare,base:=Un.kept old,
   loc:=⟨_,hns,fun i x v e1 U e3=>by
    have U:(List.replicate tgs.length none++js.map fun j=>(σ[j]?).join)[i]?=some (some v):=U;by_cases hi:i<tgs.length;rw[getElem?_append_left (by rw[length_replicate];exact hi),List.getElem?_replicate,if_pos hi]at U;cases U;rw[getElem?_append_right (by lia),getElem?_map]at e1;rw[getElem?_append_right (by rw[length_replicate];lia),length_replicate,getElem?_map]at U;cases hj:js[i-tgs.length]? with
    |none=>rw[hj]at e1;cases e1
    |some j=>
     rw[hj]at e1 U;have e1:X.N.getD j ""=x:=Option.some.inj e1;have U:(σ[j]?).join=some v:=Option.some.inj U;have hjm:j∈js:=mem_of_getElem? hj;obtain⟨hfr,hjl⟩:=ok.caps j hjm;rw[e1]at hfr;have hNj:X.N[j]?=some x:=by rw[getElem?_eq_getElem hjl];rw[List.getD_eq_getElem?_getD,getElem?_eq_getElem hjl]at e1;exact congrArg some e1
     have hσ:σ[j]?=some (some v):=by
      cases q:σ[j]? with
      |none=>rw[q]at U;cases U
      |some o=>rw[q]at U;have U:o=some v:=U;rw[U]
     have hmem:(x,NameKind.free)∈scope.names:=by obtain⟨l1,l2,h3,_⟩:=List.lookup_eq_some_iff.mp hfr;rw[h3];simp
     have hkX:=ok.frees _ hmem rfl;have hvis:Vis X.env.scope x:=hkX.elim (fun z=>.inr (.inl z)) fun z=>.inr (.inr z);obtain⟨m,hn,hl⟩:=t.loc;obtain⟨u,r,lk⟩:=hl j x v hNj hσ hvis;refine⟨u,r,.inr ⟨?_,?_⟩⟩;have q:=zbE X.env x scope.names hfr;rw[<-zbD]at q;exact q.symm;rcases lk with⟨k,_⟩|⟨_,c,ec,z⟩
     . exfalso;have k:X.env.scope.names.lookup x=some .local:=k;rcases hkX with q|q<;>(rw[k]at q;cases q)
     obtain⟨c',hc'⟩:∃c',cl.lookup x=some c':=by rw[<-hcl];exact zdY scope.names [] x frees (.inr hmem)
     have q:=w x c' hc';rw[ec]at q;cases q;obtain⟨o,ho,hd⟩:=z;exact⟨c,hc',o,old _ _ ho,hd⟩⟩,
   cell:=fun x c e=>by obtain⟨v,o,ho,hd⟩:=t.cell x c (w x c e);exact⟨v,o,old _ _ ho,hd⟩,
   free:=t.fresh,
   freeC:=fun x c e=>t.freeC x c (w x c e),
   pin:=fun q hq=>by
    have hq:q∈X.pn++a:=by simpa using hq
    obtain⟨e,n,ne,nf,d⟩:=t.pin q hq;refine⟨old _ _ e,n,ne_of_lt (Heap.lt_size e),fun z=>?_,d⟩;rcases mem_cons.mp (t.stkSub _ z) with z|z;exact ne z;exact nf z,
   hok:=t.hok.kept old,
   len:=by show(List.replicate tgs.length none++js.map fun j=>(σ[j]?).join).length=(tgs++js.map fun j=>X.N.getD j "").length;simp}
 have stat:∀{A:Hp},(∀b∈B,A b=none)->∀b∈B,FpOk (cxX XE X (capN X.N tgs js) scope cl l.heap.objs.size B l H3 (X.pn++a)) [] A b:=fun hn b f=>
  ⟨hn b f,(okX.exf b f).1,okX.exfs b f,.inl f,(okX.exf b f).2,fun q hq=>by
   have hq:q∈X.pn++a:=by simpa using hq
   exact(f2 b f).2.2.2.2.2 q hq⟩
 have fr3:∀b∈B,H3 b=none:=fun b f=>by obtain⟨o,ho,_⟩:=T.obj 0 _ st2 b f;rw[<-hH3,zae (ne_of_lt (hp▸Heap.lt_size ho))];exact(f2 b f).1
 have st4:tn 0 I:=T.keep 0 _ _ st2 fun b f o e=>old b o (by rw[e3];exact Heap.get?_push_of_some _ e);have loop:codeAny (model X.prog X.w) X.A (.compLoop (.ListComp elt [⟨tg,iter,ifs,0⟩] scope pos) 0 (.ref it) (.ref p) (compEnvC scope cl l.heap.objs.size X.env)) (RR (.ref p) l.heap.objs.size) {l with heap:=I}:=by
  refine ziU (hE:=fun e M z=>err (zaS X (capN X.N tgs js) scope cl l.heap.objs.size B l H3 (X.pn++a)) p l.heap.objs.size rfl t.sz (fun pins' G A M J=>?_) (by rw[sz3];exact lt_succ_self _) (fun q hq=>Heap.lt_size (t.pin q hq).1) e M z) (fun n M=>∃i G A,Inv (cxX XE X (capN X.N tgs js) scope cl l.heap.objs.size B l H3 (X.pn++a)) [] G A M/\tn i M.heap/\(∀b∈B,A b=none)/\W i n G A) ?_ m0 ⟨0,_,H3,I4,st4,fr3,w0⟩;have hX:=t.call' J.os J.base J.hok J.bare fun b f=>⟨(f2 b f).2.2.2.1,(f2 b f).2.1,(f2 b f).2.2.2.2.1,(f2 b f).2.2.2.2.2⟩;obtain⟨m,hm,_⟩:=J.loc;exact⟨hX,⟨m,hm⟩,J.free⟩;rintro n s4 ⟨i,σ4,H4,J4,st4,fr4,w4⟩;rcases turn i n σ4 H4 w4 with⟨stop,qn⟩|⟨go,N,hN,step⟩;refine thn (T.done (cxX XE X (capN X.N tgs js) scope cl l.heap.objs.size B l H3 (X.pn++a)) rfl rfl rfl hc i [] s4 σ4 H4 _ J4 (stat fr4) st4 stop) fun r s5 ⟨hr,J5⟩=>.inl ⟨hr,?_⟩;have hX:=t.call' J5.os J5.base J5.hok J5.bare fun b f=>⟨(f2 b f).2.2.2.1,(f2 b f).2.1,(f2 b f).2.2.2.2.1,(f2 b f).2.2.2.2.2⟩;obtain⟨m,hm,_⟩:=J5.loc;exact fin p _ H4 s5 hX ⟨m,hm⟩ (by rw[sz3];exact lt_succ_self _) J5.free qn
  refine thn (T.item (cxX XE X (capN X.N tgs js) scope cl l.heap.objs.size B l H3 (X.pn++a)) rfl rfl rfl hc i [] s4 σ4 H4 _ J4 (stat fr4) st4 go) fun r s5 ⟨u,hr,h5⟩=>.inr ⟨u,hr,?_⟩;refine thn h5 fun _ s6 q'=>?_;obtain⟨x,H6,J6,r6,y6,st6,fr6⟩:=q';have J6':=J6.pinned (stat fr6) (T.obj _ _ st6);refine thn (hg _ _ _ _ _ _ _ s6 σ4 H6 x u _ J6' r6 (step x H6 y6)) fun _ s7 q'=>?_;obtain⟨O,H7,J7,q7⟩:=q';refine thn (ht _ _ _ _ _ _ _ s7 O H7 _ J7 q7) fun ok8 s8 q'=>?_;obtain⟨H8,J8,q8⟩:=q';have again:∀{s9:Shared}{H9:Hp},Inv (cxX XE X (capN X.N tgs js) scope cl l.heap.objs.size B l H3 (X.pn++a)) ([]++zfS B s6.heap) O H9 s9->N O H9->
    ∃m,m<n/\∃i G A,Inv (cxX XE X (capN X.N tgs js) scope cl l.heap.objs.size B l H3 (X.pn++a)) [] G A s9/\tn i s9.heap/\(∀b∈B,A b=none)/\W i m G A:=fun {s9 H9} J9 n9=>by
   obtain⟨m',hm,w9⟩:=hN O H9 n9;refine⟨m',hm,i+1,O,H9,J9.unpinned,T.keep _ _ _ st6 fun b f o e=>(J9.pin (b,o) (mem_append_right _ (mem_append_right _ (zb9 f e)))).1,fun b f=>?_,w9⟩;obtain⟨o,e,d⟩:=T.obj _ _ st6 b f;exact(J9.pin (b,o) (mem_append_right _ (mem_append_right _ (zb9 f e)))).2.1
  cases ok8 with|false=>exact again J8 q8| true=>refine thn (he _ _ _ _ _ _ _ s8 O H8 _ J8 q8) fun y s9 q'=>?_;obtain⟨v,H9,J9,r9,L,ha,hl,q9⟩:=q';refine thn (zfX _ s9 O H9 (.ref p) [v] (.ref p) [y] (fun _ H=>N O H) J9 rfl (.cons r9 .nil) ⟨p,L,v,rfl,rfl,ha,hl,q9⟩) fun _ s10 z'=>eY z' fun _ H10 J10 _ q10=>?_;exact again J10 q10
 exact codeAny_compStart_list loop (T.self _ 0 _ _ _ st4 loop)
theorem zes(G:X.calm=true)(o:X.env.scope=sc)(ok:CompOk sc scope X.N js)(I:∀cl C j s H pn,PG (zaS X (capN X.N tgs js) scope cl C j s H pn) tg g)(L:∀cl C j s H pn,PTs (zaS X (capN X.N tgs js) scope cl C j s H pn) ifs tt)(M:∀cl C j s H pn,PE (zaS X (capN X.N tgs js) scope cl C j s H pn) elt te){u:Value->Addr->Result->Shared->Prop}{Q:VK}(O:Inv X f w d q)(T:Turn X.prog X.w X.K tg J j it U)(r:U 0 q.heap)(Y:∀b∈j,FpOk X f d b)(rd:∀p,d p=none->∃W:Nat->Nat->St->Hp->Prop,(∃m,W 0 m (csl tgs.length js w) (upd d p (.lst [])))/\∀i m k e,W i m k e->
   (J.stop i e/\Q (.ref p) e)\/(J.go i e/\∃N:St->Hp->Prop,(∀a d,N a d->∃y,y<m/\W (i+1) y a d)/\
    ∀x d,J.yld i e x d->g x k d fun a H3=>tt a H3 fun b A=>if b=true then te a A fun v B=>∃c,B p=some (.lst c)/\c.length<sizeLine/\N a (upd B p (.lst (c++[v]))) else N a A))(fin:∀p C e t,Inv X f w e t->(∃m,t.heap.Ns C m)->q.heap.objs.size<C->e C=none->Q (.ref p) e->u (.ref p) C (.ok .next) t):
  wpAny (model X.prog X.w) X.A (newList []) (fun c l=>wpAny (model X.prog X.w) X.A (newFunctionEnv scope X.env.globals (zgo X.env.cells scope.names []) [] X.env.qual none .none (some X.env)) (fun h n=>codeAny (model X.prog X.w) X.A (.compStart (.ListComp elt [⟨tg,iter,ifs,0⟩] scope pos) 0 (.ref it) c {h with scope:=relabel scope X.env}) (u c h.locals) n) E l) E q:=
 zgW (fun _ _ _=>False) G o ok I L M O T r Y rd fin fun _ _ _ _ _ _ _ _ _ _ z=>z.elim
theorem zmd(sc)(tgs)(js)(r:X.calm=true)(d:X.env.scope=sc)(ok:CompOk sc scope X.N js)(hi:PI X tg iter wi)(t:∀cl C a s H pn,PG (zaS X (capN X.N tgs js) scope cl C a s H pn) tg g)(u:∀cl C a s H pn,PTs (zaS X (capN X.N tgs js) scope cl C a s H pn) ifs tt)(w:∀cl C a s H pn,PE (zaS X (capN X.N tgs js) scope cl C a s H pn) elt te)(hs:∀x,foldedSetIterable iter X.env x=pure x:=by intro _;rfl):
  PE X (.ListComp elt [⟨tg,iter,ifs,0⟩] scope pos) (znX tgs.length js wi g tt te):=by
 intro f s z H Q I h;have frees:∀y∈scope.names,y.2=.free->∃c,X.env.cells.lookup y.1=some c:=fun y A B=>I.ok.has y.1 (by
  have q:=ok.frees y A B;rw[<-d]at q;exact q)
 refine wpAny_comprehension_free rfl hs (zbN frees) ok.kind ok.locs (thn (hi f s z H _ I h) fun v s1 E=>thn E fun G s2 L=>?_);obtain⟨it,a,tn,J,H2,e,i,T,k,M,N⟩:=L;subst e;refine zes r d ok t u w i T k M N fun p C O U Y l j hn q=>?_;obtain⟨m,l⟩:=l;refine⟨m,l,fun h' n=>⟨.ref p,O,?_,rfl,q⟩⟩;exact Y.turned (fun b o hb e=>(n.2 b hb).trans e) hn (ne_of_gt (lt_trans i.lt j)) (.inr (le_trans i.sz (le_of_lt j))) (fun x c e=>by obtain⟨v,o,ho,_⟩:=i.cell x c e;exact ne_of_lt (lt_trans (Heap.lt_size ho) j)) fun q hq=>ne_of_lt (lt_trans (Heap.lt_size (i.pin q hq).1) j)
theorem zoT(sc)(tgs)(js)(hN:X.N.Nodup)(r:X.N[i]?=some y)(t:Loc X.env.scope y)(hc:X.calm=true)(j:X.env.scope=sc)(ok:CompOk sc scope X.N js)(hi:PI X tg iter wi)(hg:∀cl C f s H pn,PG (zaS X (capN X.N tgs js) scope cl C f s H pn) tg g)(ht:∀cl C f s H pn,PTs (zaS X (capN X.N tgs js) scope cl C f s H pn) ifs tt)(he:∀cl C f s H pn,PE (zaS X (capN X.N tgs js) scope cl C f s H pn) elt te)(u:swapsWith (.ListComp elt [⟨tg,iter,ifs,0⟩] scope pos) (some (.Name y py)) spos.line X.env=pure true:=by rfl)(hs:∀x,foldedSetIterable iter X.env x=pure x:=by intro _;rfl)(hf:X.fn y=true\/X.env.scope.names.lookup y=some .local:=by first|exact .inl rfl|exact .inr rfl|assumption):
  PS X (.Assign [.Name y py] (.ListComp elt [⟨tg,iter,ifs,0⟩] scope pos) spos) (tAsg (znX tgs.length js wi g tt te) (zfd i)):=by
 intro d s w H D I h;have frees:∀y∈scope.names,y.2=.free->∃c,X.env.cells.lookup y.1=some c:=fun y t hk=>I.ok.has y.1 (by
  have q:=ok.frees y t hk;rw[<-j]at q;exact q)
 rw[exec_Assign_Name_used _ _ _ _ u];refine wpAny_bind (wpAny_standAt (wpAny_bind ?_));refine wpAny_bind (wpAny_mono (wpAny_comprehension_free rfl hs (zbN frees) ok.kind ok.locs
  (thn (hi d s w H _ I h) fun v s1 h1=>thn h1 fun itv s2 h2=>?_)) (fun _ A B=>wpAny_pure (wpAny_pure B)) fun _ _ e=>e)
 obtain⟨it,f,tn,J,H2,e,k,T,E,f2,rd⟩:=h2;subst e;refine zes hc j ok hg ht he k T E f2 rd (Q:=fun x H1=>zfd i x w H1 D.nx) fun p C H' A I' G n hn q=>?_;obtain⟨m,G⟩:=G;have hL:=ne_of_gt (lt_trans k.lt n);have l:∀x c,X.env.cells.lookup x=some c->c≠C:=fun x c e=>by obtain⟨v,o,ho,_⟩:=k.cell x c e;exact ne_of_lt (lt_trans (Heap.lt_size ho) n)
 refine wpAny_assign_Name (zfu I' hN r t (v:=.ref p) rfl (fun L M N=>?_) hf);obtain⟨a,O,ha⟩:=N;have U:C≠a:=by rcases ha with z|z;rw[z];exact hL;exact fun e=>l y a z e.symm
 exact⟨m,G.sameBut O U,fun h' Y=>⟨w.set i (some (.ref p)),H',(M.turned (t':=L.toks) (it:=C) (fun b o hb e=>(Y.2 b hb).trans e) hn hL (.inr (le_trans k.sz (le_of_lt n))) l fun q B=>ne_of_lt (lt_trans (Heap.lt_size (k.pin q B).1) n)),q⟩⟩
end
structure FunV(K:PySem.W.Frag)(x qual:Str)(st:Stmt)(dV:Value)(f:Addr)(fd:FuncData):Prop where
 ex:∃(oc:Value) (od:Option Addr) (kV doc pm:Value) (an:Option Addr) (cdv ct:Value) (osl:Array (Option Value)),
  fd=fnOf x qual (zar st) (zal st) (zaa st) dV kV doc pm an cdv ct/\K.lookup f=some ⟨oc,od,.func fd,osl⟩/\codeIn K cdv qual=true
 kp:keepIn K (.ref f)=true
theorem zbY{K}{st}{e kV d g b ct}(l:K.lookup f=some ⟨j,od,.func (fnOf x a (zar st) (zal st) (zaa st) e kV d g i b ct),h⟩)(c:codeIn K b a=true)(k:keepIn K (.ref f)=true):FunV K x a st e f (fnOf x a (zar st) (zal st) (zaa st) e kV d g i b ct):=⟨⟨j,od,kV,d,g,i,b,ct,h,rfl,l,c⟩,k⟩
section
variable{P:Program}{w:World}{K:PySem.W.Frag}{mg:Str->Option Value}{base:Heap}
theorem FunV.ok{st}(F:FunV K x b st n f g)(S:FnScope N ps (zaa st))(len:∀vs H Q E,sp vs H Q E->vs.length=ps.length)(c:∀(a:Value)(A:Around)(outer:List Env)(s:Shared)(H:Hp)(vs:List V)(Q:VK)(E:XK),Room k (A.deeper (envOfC b (zaa st) s.heap.objs.size f a))->sp vs H Q E->
   ∃t,PSs (cxOf CX0 P w K mg base N b (zaa st) f a A outer s H E).nox (zal st) t/\t {nx:=fun _ i=>Q .non i,rt:=Q} (start N vs) H):FnOk P w K mg base CX0 (k+1) f g ps sp:=by
 obtain⟨o,p,kV,j,r,u,a,v,l,rfl,lk,d⟩:=F.ex;refine zmK lk d S len fun A outer s H vs Q E m e=>?_;obtain⟨t,h,q⟩:=c a A outer s H vs Q E m e;exact⟨t,h.nox,q⟩
theorem FunV.binds{st}(F:FunV K x c st g f i)(h:∀(kV a d:Value)(e:Option Addr)(b ct:Value)(us:List Value),us.length=ps.length->bindArgs (fnOf x c (zar st) (zal st) (zaa st) g kV a d e b ct) ⟨us,[]⟩=pure (ps.zip us)):Binds K i ps []:=by
 obtain⟨l,m,kV,a,d,e,b,ct,j,rfl,lk,k⟩:=F.ex;exact .all (h kV a d e b ct)
structure Has(P:Program)(w:World)(K:PySem.W.Frag)(mg:Str->Option Value)(base:Heap)(k:Nat)(x:Str)(ps:List Str)(dvs:List V)(sp:Sp):Prop where
 ex:∃(f:Addr) (fd:FuncData) (ds:List Value),FnOk P w K mg base CX0 k f fd ps sp/\mg x=some (.ref f)/\keepIn K (.ref f)=true/\Binds K fd ps ds/\Vals dvs ds
end
theorem zrv(G:Has X.prog X.w X.K X.mg X.base k x ps a sp)(d:Room k X.A)(g:PA X (e::es) t)(h:Gl X x:=by rfl)(b:(x==("__debug__":Str))=false:=by decide)(i:starEach (e::es) X.env=(false,eval e X.env)::starEach es X.env:=by rfl)(c:(backTo pos (starEach es X.env)).any (·.1)=false:=by rfl):
  PE X (.Call (.Name x p) (e::es) [] pos) (zeM sp a E0 t):=by
 obtain⟨f,o,q,F,j,l,m,n⟩:=G.ex;exact zpa F d h j l m n zgQ g b i c
theorem zru(G:Has X.prog X.w X.K X.mg X.base k x ps a sp)(c:Room k X.A)(d:Gl X x:=by rfl)(b:(x==("__debug__":Str))=false:=by decide):PE X (.Call (.Name x p) [] [] pos) (zeM sp a E0 tNil):=by
 obtain⟨f,j,l,F,e,g,h,i⟩:=G.ex;exact zml F c d e g h i zgQ b
mutual
def Rep(H:Hp):PyData->V->Prop
 |.none,v=>v=.non|.bool b,v=>v=.bl b|.int i,v=>v=.int i|.str x,v=>v=.str x|.list ds,v=>∃a vs,v=.ref a/\H a=some (.lst vs)/\RepAll H ds vs|.tuple ds,v=>∃a vs,v=.ref a/\H a=some (.tup vs)/\RepAll H ds vs|.dict _,_=>False
def RepAll(H:Hp):List PyData->List V->Prop
 | [],vs=>vs=[]|d::ds,vs=>∃v r,vs=v::r/\Rep H d v/\RepAll H ds r
end
mutual
noncomputable def imm:PyData->Bool
 |.none=>true|.bool _=>true|.int _=>true|.str _=>true|.list _=>false|.tuple ds=>zga ds|.dict _=>false
noncomputable def zga:List PyData->Bool
 | []=>true|d::ds=>imm d&&zga ds
end
def Tups(H c:Hp):Prop:=∀b a,H b=some (.tup a)->c b=some (.tup a)
theorem Tups.refl(H):Tups H H:=fun _ _ h=>h
theorem Tups.trans(a:Tups H e)(b:Tups e f):Tups H f:=fun c d h=>b c d (a c d h)
theorem Tups.upd{H:Hp}{p:Addr}{o:HO}(h:∀xs,H p≠some (.tup xs)):Tups H (upd H p o):=fun b xs e=>by
 have hb:b≠p:=fun z=>by subst z;exact h xs e
 rw[zae hb];exact e
theorem Tups.upd_lst(h:H p=some (.lst xs)):Tups H (L2.upd H p o):=Tups.upd fun a e=>by rw[h]at e;cases e
theorem Tups.upd_new(h:H p=none):Tups H (L2.upd H p o):=Tups.upd fun a e=>by rw[h]at e;cases e
mutual
theorem Rep.same{H H':Hp}(hs:Same H H'):∀{d:PyData}{v:V},Rep H d v->Rep H' d v
 |.none,_,h=>h|.bool _,_,h=>h|.int _,_,h=>h|.str _,_,h=>h| .list ds,v,h=>by obtain⟨a,vs,e,ha,r⟩:=h;exact⟨a,vs,e,hs _ _ ha,RepAll.same hs r⟩| .tuple ds,v,h=>by obtain⟨a,vs,e,ha,r⟩:=h;exact⟨a,vs,e,hs _ _ ha,RepAll.same hs r⟩|.dict _,_,h=>h
theorem RepAll.same{H H':Hp}(hs:Same H H'):∀{ds:List PyData}{vs:List V},RepAll H ds vs->RepAll H' ds vs
 | [],_,h=>h| d::ds,vs,h=>by obtain⟨v,r,e,h1,h2⟩:=h;exact⟨v,r,e,Rep.same hs h1,RepAll.same hs h2⟩
end
mutual
theorem Rep.tups{H H':Hp}(hs:Tups H H'):∀{d:PyData}{v:V},imm d=true->Rep H d v->Rep H' d v
 |.none,_,_,h=>h|.bool _,_,_,h=>h|.int _,_,_,h=>h|.str _,_,_,h=>h|.list ds,v,i,h=>by cases i| .tuple ds,v,i,h=>by obtain⟨a,vs,e,ha,r⟩:=h;exact⟨a,vs,e,hs _ _ ha,RepAll.tups hs i r⟩|.dict _,_,_,h=>h
theorem RepAll.tups{H H':Hp}(hs:Tups H H'):∀{ds:List PyData}{vs:List V},zga ds=true->RepAll H ds vs->RepAll H' ds vs
 | [],_,_,h=>h| d::ds,vs,i,h=>by
  obtain⟨v,r,e,h1,h2⟩:=h;have i':imm d=true/\zga ds=true:=by simpa[zga]using i
  exact⟨v,r,e,Rep.tups hs i'.1 h1,RepAll.tups hs i'.2 h2⟩
end
mutual
theorem Rep.reads{X:Cx}{pins:List (Addr×Obj)}{σ:St}{H:Hp}{s:Shared}(I:Inv X pins σ H s):∀(d:PyData)(v:V)(u:Value),Rep H d v->RelV v u->∃as,Reads s.heap u d as
 |.none,v,u,h,r=>by cases(show v=.non from h);cases(show u=Value.none from r);exact⟨_,.none⟩| .bool b,v,u,h,r=>by cases(show v=.bl b from h);cases(show u=Value.bool b from r);exact⟨_,.bool b⟩| .int i,v,u,h,r=>by cases(show v=.int i from h);obtain⟨t,rfl⟩:=(show ∃t,u=Value.int i t from r);exact⟨_,.int i t⟩| .str x,v,u,h,r=>by cases(show v=.str x from h);obtain⟨t,rfl⟩:=(show ∃t,u=Value.str x t from r);exact⟨_,.str x t⟩| .list ds,v,u,h,r=>by obtain⟨a,vs,rfl,ha,hr⟩:=h;cases(show u=Value.ref a from r);obtain⟨its,n,rv,e,_⟩:=I.lst ha;obtain⟨as,q⟩:=RepAll.reads I ds vs its hr rv;exact⟨_,.list e rfl rfl q⟩| .tuple ds,v,u,h,r=>by obtain⟨a,vs,rfl,ha,hr⟩:=h;cases(show u=Value.ref a from r);obtain⟨its,rv,⟨o,e1,e2,n,e3⟩,_⟩:=I.tuple (SqT.of (K:=X.K) ha);obtain⟨as,q⟩:=RepAll.reads I ds vs its hr rv;exact⟨_,.tuple e1 e2 e3 q⟩|.dict _,_,_,h,_=>False.elim h
theorem RepAll.reads{X:Cx}{pins:List (Addr×Obj)}{σ:St}{H:Hp}{s:Shared}(I:Inv X pins σ H s):∀(ds:List PyData)(vs:List V)(us:List Value),RepAll H ds vs->Vals vs us->∃as,ReadsAll s.heap us ds as
 | [],vs,us,h,r=>by cases(show vs=[] from h);cases r;exact⟨_,.nil⟩| d::ds,vs,us,h,r=>by obtain⟨v,vr,rfl,h1,h2⟩:=h;cases r with| cons r1 r2=>obtain⟨as,q1⟩:=Rep.reads I d v _ h1 r1;obtain⟨bs,q2⟩:=RepAll.reads I ds vr _ h2 r2;exact⟨_,.cons q1 q2⟩
end
section
variable{X:Cx}
def rEqD(g:Bool->Bool):R2:=fun x y H Q=>∃a b,Rep H a x/\Rep H b y/\a.canLay0=true/\b.canLay0=true/\min a.depth b.depth<=60/\Q (.bl (g (PyData.eqv a b))) H
theorem zrG(k:X.A.units+64<cLine):OpR X (compareOp .Eq) (rEqD id):=by intro a s l H x y v u Q I b c h;obtain⟨d,e,f,g,l1,l2,m,q⟩:=h;obtain⟨n,i⟩:=Rep.reads I d x v f b;obtain⟨o,j⟩:=Rep.reads I e y u g c;exact SeqAt.compareEq_reads i j l1 l2 (by lia) (zav I q rfl)
theorem zrB(k:X.A.units+64<cLine):OpR X (compareOp .NotEq) (rEqD not):=by intro a s l H x y v u Q I b c h;obtain⟨d,e,f,g,l1,l2,m,q⟩:=h;obtain⟨n,i⟩:=Rep.reads I d x v f b;obtain⟨o,j⟩:=Rep.reads I e y u g c;exact SeqAt.compareNe_reads i j l1 l2 (by lia) (zav I q rfl)
theorem zrF:OpR X (compareOp .Is) (fun x y H Q=>∃a b,x=.bl a/\y=.bl b/\Q (.bl (a==b)) H):=by intro c s f H x y v u Q I d e h;obtain⟨a,b,rfl,rfl,q⟩:=h;cases d;cases e;refine wpAny_is_plain (by cases a<;>cases b<;>rfl) (zav I q ?_);cases a<;>cases b<;>rfl
noncomputable def zc7(H:Hp):V->Option String
 |.non=>some "NoneType"|.bl _=>some "bool"|.int _=>some "int"|.str _=>some "str"
 |.ref a=>match H a with
  |some (.lst _)=>some "list"|some (.frz _ (.lst _))=>some "list"|some (.tup _)=>some "tuple"|some (.dK _)=>some "dict"|some (.dT _)=>some "dict"|_=>none
 |_=>none
theorem zjc{K}(h:zc7 H x=some a):TyOf K H x (.type a):=by
 cases x with
 |non=>cases h;exact .non|bl b=>cases h;exact .bl b|int i=>cases h;exact .int i|str y=>cases h;exact .str y|byt _=>cases h
 |flt _=>cases h
 |ty _=>cases h
 |ref p=>
  unfold zc7 at h;cases e:H p with
  |none=>simp[e]at h| some o=>
   cases o with
   |lst d=>simp[e]at h;subst h;exact .lst e|tup d=>simp[e]at h;subst h;exact .tup e|dK c=>simp[e]at h;subst h;exact .dK e|dT c=>simp[e]at h;subst h;exact .dT e| frz f q=>cases q with|lst d=>simp[e]at h;subst h;exact .frz e|_=>simp[e]at h
   |_=>simp[e]at h
noncomputable def subT(a b:String):Bool:=a==b||(a=="bool"&&b=="int")
theorem zpt(K)(c:a∈["NoneType","bool","int","str","list","tuple","dict"])(d:b∈["bool","int","str","list","tuple","dict"]):kitOne K (.type a) (.type b)=some (subT a b):=by simp only[mem_cons,not_mem_nil,or_false]at c d;rcases c with rfl|rfl|rfl|rfl|rfl|rfl|rfl<;>rcases d with rfl|rfl|rfl|rfl|rfl|rfl<;>rfl
theorem zii(h:zc7 H x=some a):a∈["NoneType","bool","int","str","list","tuple","dict"]:=by
 cases x with
 |non=>cases h;simp|bl b=>cases h;simp|int i=>cases h;simp|str y=>cases h;simp|byt _=>cases h
 |flt _=>cases h
 |ty _=>cases h
 |ref p=>unfold zc7 at h;simp only at h;split at h<;>first|(cases h;simp)|cases h
theorem zhb:zcO X (.builtin "isinstance") (fun xs H Q=>∃x c a,xs=[x,.ty c]/\zc7 H x=some a/\c∈["bool","int","str","list","tuple","dict"]/\Q (.bl (subT a c)) H):=by intro b s k H xs l Q I r h;obtain⟨x,c,a,rfl,d,e,q⟩:=h;obtain⟨u,f,rfl,g,i⟩:=zln r;cases(show f=Value.type c from i);exact zks I g (zjc d) (zpt X.K (zii d) e) fun j=>⟨.bl (subT a c),H,I.tok j,rfl,q⟩
end
section
variable{X:Cx}(K:PySem.W.Frag)(hK:X.K=K)
include hK
end
end L2
namespace TM
structure Good(m:Nat)(wo:Option Int)(s:Int)(n:Nat)(p:List Int):Prop where
 len:p.length=n
 head:p.head?=some s
 nd:p.Nodup
 rng:∀h∈p,0<=h/\h<m/\wo≠some h
end TM
namespace L2
open PySem PySem.Spec PyProof.Rows
theorem zsr:bootBuiltins "len"=some (.builtin "len"):=by decide +kernel
theorem zst:bootBuiltins "abs"=some (.builtin "abs"):=by decide +kernel
theorem zbd:bootBuiltins "isinstance"=some (.builtin "isinstance"):=by decide +kernel
theorem zss:bootBuiltins "int"=some (.type "int"):=by decide +kernel
theorem zpU:bootBuiltins "bool"=some (.type "bool"):=by decide +kernel
theorem zsq:bootBuiltins "str"=some (.type "str"):=by decide +kernel
theorem zlb:bootBuiltins "list"=some (.type "list"):=by decide +kernel
theorem zig:bootBuiltins "tuple"=some (.type "tuple"):=by decide +kernel
theorem zpT:bootBuiltins "dict"=some (.type "dict"):=by decide +kernel
theorem zla{K}{st}(n)(t:ps.length=n+ds.length)(F:FunV K x c st (.ref d) f j)(e:K.lookup d=some ⟨xc,u,.seq items v,xs⟩)(h:∀(kV a g:Value)(i:Option Addr)(b ct:Value)(us:List Value),us.length=n->∃k,bindArgs (fnOf x c (zar st) (zal st) (zaa st) (.ref d) kV a g i b ct) ⟨us,[]⟩=seqItems? (.ref d)>>=k/\k (some items)=pure (ps.zip (us++ds))):
  Binds K j ps ds:=by
 obtain⟨w,y,kV,a,g,i,b,ct,l,rfl,lk,m⟩:=F.ex;intro s us o p;obtain⟨k,q,r⟩:=h kV a g i b ct us (by rw[length_append]at p;lia);exact BindsTo.of_defaults rfl (o _ _ e) rfl q r
end L2
namespace R
abbrev K3:=Int×List Int×Int
noncomputable def lexZ:List Int->List Int->Bool
 | [],[]=>false| [],_::_=>true|_::_,[]=>false|x::a,y::b=>if x=y then lexZ a b else decide (x<y)
theorem zbk(x y)(xs ys):lexZ (x::xs) (y::ys)=if x=y then lexZ xs ys else decide (x<y):=rfl
theorem zcY:∀l:List Int,lexZ l l=false
 | []=>rfl|x::l=>by rw[zbk,if_pos rfl];exact zcY l
theorem zf3:∀{a b c:List Int},lexZ a b=true->lexZ b c=true->lexZ a c=true
 | [],[],c,h,k=>by cases h| [],y::b,[],h,k=>by cases k| [],y::b,z::c,h,k=>rfl|x::a,[],c,h,k=>by cases h|x::a,y::b,[],h,k=>by cases k| x::a,y::b,z::c,h,k=>by rw[zbk]at h k⊢;split at h;rename_i e;split at k;rename_i d;rw[if_pos (e.trans d)];exact zf3 h k;rw[if_neg (by lia)];exact decide_eq_true (by lia);split at k;rw[if_neg (by lia)];exact decide_eq_true (by lia);rw[if_neg (by lia)];exact decide_eq_true (by lia)
theorem zf4:∀{a b:List Int},a≠b->lexZ a b=true\/lexZ b a=true
 | [],[],h=>absurd rfl h| [],y::b,_=>.inl rfl|x::a,[],_=>.inr rfl| x::a,y::b,h=>by rw[zbk,zbk];by_cases e:x=y;subst e;rw[if_pos rfl,if_pos rfl];exact zf4 fun z=>h (by rw[z]);rw[if_neg e,if_neg (Ne.symm e)];rcases Int.lt_or_gt_of_ne e with z|z;exact .inl (decide_eq_true z);exact .inr (decide_eq_true z)
def Lt3(a b:K3):Prop:=a.1<b.1\/(a.1=b.1/\(lexZ a.2.1 b.2.1=true\/(a.2.1=b.2.1/\a.2.2<b.2.2)))
noncomputable instance(a b:K3):Decidable (Lt3 a b):=by unfold Lt3;infer_instance
theorem zca(a):¬Lt3 a a:=by unfold Lt3;rw[zcY];simp
theorem zdJ(h:Lt3 a b)(k:Lt3 b c):Lt3 a c:=by rcases h with h|⟨g,e⟩;rcases k with k|⟨f,d⟩;exact .inl (by lia);exact .inl (by lia);rcases k with k|⟨f,d⟩;exact .inl (by lia);refine .inr ⟨g.trans f,?_⟩;rcases e with e|⟨e,j⟩;rcases d with d|⟨d,i⟩;exact .inl (zf3 e d);exact .inl (d▸e);rcases d with d|⟨d,i⟩;exact .inl (e▸d);exact .inr ⟨e.trans d,by lia⟩
theorem zf0(h:a≠b):Lt3 a b\/Lt3 b a:=by unfold Lt3;obtain⟨e,f,g⟩:=a;obtain⟨i,j,k⟩:=b;by_cases c:e=i;by_cases d:f=j;have l:g≠k:=fun z=>h (by rw[c,d,z]);rcases Int.lt_or_gt_of_ne l with z|z;exact .inl (.inr ⟨c,.inr ⟨d,z⟩⟩);exact .inr (.inr ⟨c.symm,.inr ⟨d.symm,z⟩⟩);rcases zf4 d with z|z;exact .inl (.inr ⟨c,.inl z⟩);exact .inr (.inr ⟨c.symm,.inl z⟩);rcases Int.lt_or_gt_of_ne c with z|z;exact .inl (.inl z);exact .inr (.inl z)
noncomputable def ins3(x:K3):List K3->List K3
 | []=>[x]|y::l=>if Lt3 x y then x::y::l else y::ins3 x l
noncomputable def zin:List K3->List K3
 | []=>[]|x::l=>ins3 x (zin l)
theorem zdS(x):∀l:List K3,(ins3 x l).Perm (x::l)
 | []=>List.Perm.refl _| y::l=>by unfold ins3;split;exact List.Perm.refl _;exact((zdS x l).cons y).trans (List.Perm.swap ..)
theorem zb4:∀l:List K3,(zin l).Perm l
 | []=>List.Perm.refl _|x::l=>(zdS x _).trans ((zb4 l).cons x)
theorem zdR(x):∀{l:List K3},x∉l->l.Pairwise Lt3->(ins3 x l).Pairwise Lt3
 | [],_,_=>by simp[ins3]| y::l,g,h=>by have d:=pairwise_cons.mp h;unfold ins3;split;rename_i c;exact pairwise_cons.mpr ⟨fun z f=>by rcases mem_cons.mp f with e|e;rw[e];exact c;exact zdJ c (d.1 z e),h⟩;rename_i c;refine pairwise_cons.mpr ⟨fun z f=>?_,zdR x (fun m=>g (mem_cons_of_mem _ m)) d.2⟩;rcases mem_cons.mp ((zdS x l).mem_iff.mp f) with e|e;rw[e];rcases zf0 (a:=y) (fun z=>g (by rw[z];exact mem_cons_self)) with q|q;exact q;exact absurd q c;exact d.1 z e
theorem zbS:∀{l:List K3},l.Nodup->(zin l).Pairwise Lt3
 | [],_=>Pairwise.nil| x::l,h=>by have a:=nodup_cons.mp h;exact zdR x (fun m=>a.1 ((zb4 l).mem_iff.mp m)) (zbS a.2)
theorem zcm:∀{a b:List K3},a.Perm b->a.Pairwise Lt3->b.Pairwise Lt3->a=b
 | [],b,p,_,_=>(List.nil_perm.mp p).symm|x::a,[],p,_,_=>absurd (List.perm_nil.mp p) (by simp)| x::a,y::b,p,h,i=>by
  have c:=pairwise_cons.mp h;have d:=pairwise_cons.mp i;have e:x=y:=by rcases mem_cons.mp (p.mem_iff.mp mem_cons_self) with f|f;exact f;rcases mem_cons.mp (p.mem_iff.mpr mem_cons_self) with g|g;exact g.symm;exact absurd (zdJ (d.1 x f) (c.1 y g)) (zca y)
  subst e;rw[zcm (List.Perm.cons_inv p) c.2 d.2]
theorem zgh{b:Type}{p q}:∀{l:List b},(∀x∈l,p x=true->q x=true)->(l.filter p).length<=(l.filter q).length
 | [],_=>le_refl _| x::l,h=>by have a:=zgh fun y c=>h y (mem_cons_of_mem _ c);rw[List.filter_cons,List.filter_cons];cases e:p x with|true=>rw[h x mem_cons_self e];simp;exact a| false=>cases q x with|true=>simp;lia|false=>simpa using a
theorem zgg{c:Type}{p q}:∀{l:List c}{a:c},(∀x∈l,p x=true->q x=true)->a∈l->p a=false->q a=true->(l.filter p).length<(l.filter q).length
 | [],_,_,h,_,_=>by cases h| x::l,a,h,i,d,f=>by rw[List.filter_cons,List.filter_cons];rcases mem_cons.mp i with e|e;subst e;have:=zgh fun y b=>h y (mem_cons_of_mem _ b);rw[f];simp;lia;have g:=zgg (fun y b=>h y (mem_cons_of_mem _ b)) e d f;cases j:p x with|true=>rw[h x mem_cons_self j];simp;exact g| false=>cases q x with|true=>simp;lia|false=>simpa using g
end R
namespace R
open PySem PySem.Spec PyProof.Rows L2
section
variable{prog:Program}{w:World}{A:Around}{E:Value->Shared->Prop}{s:Shared}
theorem zpz{x y:List Int}(h:(x.map Sum.inl:List Key)=y.map Sum.inl):x=y:=(List.map_inj_right (fun a b e=>Sum.inl.inj e)).mp h
end
end R
namespace R
noncomputable def zfz(a b:Int×Int):Bool:=decide (b.2<a.2\/(a.2=b.2/\a.1<=b.1))
noncomputable def zbQ(rows:List (Int×Int)):List (Int×Int):=rows.mergeSort zfz
noncomputable def bump:List (Int×Int)->Int->List (Int×Int)
 | [],w=>[(w,1)]|(k,c)::r,w=>if k=w then(k,c+1)::r else(k,c)::bump r w
noncomputable def zam(kvs:List (Int×Int))(b:List (Option Int)):List (Int×Int):=b.foldl (fun a w=>match w with|some x=>bump a x|none=>a) kvs
theorem zd5:∀(kvs:List (Int×Int))(w:Int),(bump kvs w).map (·.1)=if w∈kvs.map (·.1) then kvs.map (·.1) else kvs.map (·.1)++[w]
 | [],w=>by simp[bump]| (k,c)::r,w=>by unfold bump;by_cases e:k=w;subst e;simp;have a:=zd5 r w;rw[if_neg e];simp only[map_cons,mem_cons,a];by_cases h:w∈r.map (·.1);rw[if_pos h,if_pos (.inr h)];rw[if_neg h,if_neg (by rintro(z|z);exact e z.symm;exact h z)];rfl
theorem ziY(h:(kvs.map (·.1)).Nodup):((bump kvs w).map (·.1)).Nodup:=by rw[zd5];split;exact h;rename_i n;rw[nodup_append];refine⟨h,by simp,?_⟩;intro a d b c;rw[mem_singleton]at c;subst c;intro z;subst z;exact n d
theorem za7:∀(a:List (Option Int)){kvs:List (Int×Int)},(kvs.map (·.1)).Nodup->((zam kvs a).map (·.1)).Nodup
 | [],_,h=>h|some w::a,kvs,h=>za7 a (ziY h)|none::a,kvs,h=>za7 a h
theorem zeA(b):(zam [] b).length<=b.length:=by
 have:∀(b:List (Option Int))(a:List (Int×Int)),(zam a b).length<=a.length+b.length:=by
  intro b;induction b with
  |nil=>intro a;simp[zam]| cons w b c=>
   intro a;cases w with
   |none=>have:=c a;show(zam a b).length<=_;simp;lia| some x=>
    have:=c (bump a x);have d:(bump a x).length<=a.length+1:=by have:=congrArg List.length (zd5 a x);simp only[length_map]at this;rw[this];split<;>simp
    show(zam (bump a x) b).length<=_;simp;lia
 simpa using this b []
end R
namespace R
open PySem (Str PyData Operator CmpOp)
set_option genInjectivity true in
inductive D where
 |non|bl (b:Bool)|int (i:Int)|str (x:Str)|tup (ds:List D)|ref (l:Nat)
 |fix (ds:List D)
inductive MO where
 |lst (ds:List D)|dic (kvs:List (Int×D))|ins (c:Nat) (fs:List (Str×D))
 |dtp (kvs:List (List Int×D))
 |exc (c:Nat) (fs:List (Str×D))
structure St where
 frz:List MO
 new:List MO
 lk:List Nat
inductive Out(α:Type) where
 |ok (a:α) (S:St)
 |err (d:D) (S:St)
 |bad
noncomputable def Out.bind{b c:Type}(o:Out b)(f:b->St->Out c):Out c:=match o with|.ok a S=>f a S|.err d S=>.err d S|.bad=>.bad
noncomputable def Out.ne{b:Type}:Out b->Out b
 |.ok a S=>.ok a S|_=>.bad
noncomputable def lift{b:Type}(S:St):Option b->Out b
 |some a=>.ok a S|none=>.bad
namespace St
noncomputable def get(S:St)(l:Nat):Option MO:=if l<S.frz.length then S.frz[l]? else S.new[l-S.frz.length]?
noncomputable def len(S:St):Nat:=S.frz.length+S.new.length
noncomputable def push(S:St)(o:MO):St:={S with new:=S.new++[o]}
noncomputable def put(S:St)(l:Nat)(o:MO):Option St:=if l<S.frz.length then none else if S.lk.contains l then none else some {S with new:=S.new.set (l-S.frz.length) o}
noncomputable def enter(S:St):St:=⟨S.frz++S.new,[],[]⟩
end St
noncomputable def lay(S:St)(ds:List D):Out D:=if ds.length<=16777216 then .ok (.ref S.len) (S.push (.lst ds)) else .bad
noncomputable def wr(S:St)(l:Nat)(ds:List D)(d:D):Out D:=if ds.length<=16777216 then(match S.put l (.lst ds) with|some a=>.ok d a|none=>.bad) else .bad
noncomputable def pd(S:St):Nat->D->Option PyData
 |_,.non=>some .none|_,.bl b=>some (.bool b)|_,.int i=>some (.int i)|_,.str x=>if PySem.PyData.strOk x then some (.str x) else none|n+1,.tup a=>(a.mapM (pd S n)).map PyData.tuple
 |n+1,.ref l=>match S.get l with
  |some (.lst a)=>(a.mapM (pd S n)).map PyData.list|_=>none
 |_,.fix _=>none|0,_=>none
mutual
noncomputable def flat(n:Nat):D->Bool
 |.tup ds=>flats n ds|.ref l=>decide (l<n)|.fix ds=>flats n ds|_=>true
noncomputable def flats(n:Nat):List D->Bool
 | []=>true|d::ds=>flat n d&&flats n ds
end
noncomputable def zbC(S:St):D->Option (List D)
 |.tup a=>some a|.fix a=>some a
 |.ref l=>match S.get l with
  |some (.lst a)=>some a|_=>none
 |_=>none
noncomputable def lkOf(S:St):D->List Nat
 |.ref l=>[l]|_=>[]
noncomputable def tru(S:St):D->Option Bool
 |.non=>some false|.bl b=>some b|.int i=>some (i != 0)|.tup a=>some (!a.isEmpty)
 |.ref l=>match S.get l with
  |some (.lst a)=>some (!a.isEmpty)|_=>none
 |_=>none
noncomputable def tyOf(S:St):D->Option String
 |.non=>some "NoneType"|.bl _=>some "bool"|.int _=>some "int"|.str _=>some "str"|.tup _=>some "tuple"
 |.ref l=>match S.get l with
  |some (.lst _)=>some "list"|some (.dic _)=>some "dict"|some (.dtp _)=>some "dict"|_=>none
 |.fix _=>none
noncomputable def ixN(n:Nat)(i:Int):Option Nat:=if 0<=i then(if i<n then some i.toNat else none) else if -(n:Int)<=i then some (i+n).toNat else none
noncomputable def atI{a:Type}(xs:List a)(i:Int):Option a:=(ixN xs.length i).bind fun j=>xs[j]?
noncomputable def sIx(n d:Nat):Option Int->Nat
 |none=>d|some i=>if i<0 then(i+n).toNat else min i.toNat n
noncomputable def zc0:D->Option Int
 |.int i=>some i|_=>none
noncomputable def zpk(i j:Int):Bool:=decide (-(2^64)<i/\i<2^64)||decide (-(2^64)<j/\j<2^64)
noncomputable def binI(S:St)(op:Operator)(i j:Int):Out D:=match op with|.Add=>.ok (.int (i+j)) S|.Sub=>.ok (.int (i-j)) S|.Mult=>if zpk i j then .ok (.int (i*j)) S else .bad|.FloorDiv=>if 0<j/\j<1073741824 then .ok (.int (i/j)) S else .bad|.Mod=>if 0<j then .ok (.int (i%j)) S else .bad|.Pow=>if 0<=j/\j<=1000000/\-18446744073709551616<i/\i<18446744073709551616 then .ok (.int (i^j.toNat)) S else .bad|_=>.bad
noncomputable def binD(S:St)(op:Operator)(x y:D):Out D:=match x,y with|.int i,.int j=>binI S op i j|.tup c,.tup d=>(match op with|.Add=>if c.length+d.length<=16777216 then .ok (.tup (c++d)) S else .bad|_=>.bad)|.ref a,.ref b=>(match op,S.get a,S.get b with|.Add,some (.lst c),some (.lst d)=>lay S (c++d)|_,_,_=>.bad)|_,_=>.bad
noncomputable def eqD(S:St)(x y:D):Option Bool:=(pd S 60 x).bind fun a=>(pd S 60 y).map fun b=>PyData.eqv a b
noncomputable def inD(S:St)(x:D)(ys:List D):Option Bool:=(ys.mapM fun z=>eqD S z x).map fun a=>a.any id
noncomputable def lexLt:List Int->List Int->Bool
 | [],[]=>false| [],_::_=>true|_::_,[]=>false|a::c,b::d=>if a=b then lexLt c d else decide (a<b)
noncomputable def za3(ds:List D):Option (List Int):=ds.mapM zc0
noncomputable def cmpI(op:CmpOp)(i j:Int):Option Bool:=match op with|.Eq=>some (decide (i=j))|.NotEq=>some (!decide (i=j))|.Lt=>some (decide (i<j))|.LtE=>some (decide (i<=j))|.Gt=>some (decide (j<i))|.GtE=>some (decide (j<=i))|_=>none
noncomputable def zpy:D->Bool|.non=>true|_=>false
noncomputable def zi4:D->Option (Option Int)
 |.non=>some none|.int i=>some (some i)|_=>none
noncomputable def ze8:D->Option (List Int)
 |.tup a=>za3 a|_=>none
noncomputable def ze5:D->Option K3
 |.tup [_,.tup a,.int b,_]=>(za3 a).map fun p=>(0,p,b)|_=>none
noncomputable def zer(S:St)(x:D):Option (List D×List K3):=match x with|.ref p=>(match S.get p with|some (.lst a)=>(a.mapM ze5).map fun b=>(a,b)|_=>none)|_=>none
noncomputable def srtD(ds:List D)(ks:List K3):List D:=(zin ks).map fun k=>((ks.zip ds).lookup k).getD .non
noncomputable def valP(kvs:List (List Int×D))(k:List Int):Option D:=(kvs.find? fun a=>decide (a.1=k)).map (·.2)
noncomputable def cmpO(S:St)(op:CmpOp)(x y:D):Option Bool:=match op with|.Eq=>eqD S x y|.NotEq=>(eqD S x y).map (!·)|.Is=>(match y with|.non=>some (zpy x)|.bl b=>(match x with|.bl a=>some (a==b)|_=>none)|_=>none)|.IsNot=>(match y with|.non=>some (!zpy x)|_=>none)|.In=>(zbC S y).bind fun c=>inD S x c|.NotIn=>((zbC S y).bind fun c=>inD S x c).map (!·)|.Lt=>(match x,y with|.tup d,.tup c=>(za3 d).bind fun a=>(za3 c).map fun b=>lexLt a b|_,_=>none)|_=>none
noncomputable def cmpD(S:St)(op:CmpOp)(x y:D):Option Bool:=match x,y with|.int i,.int j=>cmpI op i j|_,_=>cmpO S op x y
inductive Bi where
 |len
 |abs
 |isin (t:String)
noncomputable def zcP(ds:List D):Option (List (Option Int)):=ds.mapM zi4
inductive Mt where
 |append
 |count
noncomputable def bi(S:St):Bi->List D->Out D
 |.len,[x]=>(match x with
  |.tup b=>.ok (.int b.length) S|.fix b=>.ok (.int b.length) S|.ref l=>(match S.get l with|some (.lst b)=>.ok (.int b.length) S|_=>.bad)|_=>.bad)
 |.abs,[.int i]=>.ok (.int (if i<0 then -i else i)) S|.isin t,[x]=>(match tyOf S x with|some a=>.ok (.bl (a==t||(a=="bool"&&t=="int"))) S|none=>.bad)|_,_=>.bad
noncomputable def isL(S:St):D->Bool
 |.ref l=>(match S.get l with|some (.lst _)=>true|_=>false)|_=>false
noncomputable def zsn:D->Option Bool
 |.bl b=>some b|_=>none
noncomputable def zcN(ds:List D):Option (List Bool):=ds.mapM zsn
noncomputable def mt(S:St):Mt->D->List D->Out D
 |.append,.ref l,[y]=>(match S.get l with|some (.lst a)=>wr S l (a++[y]) .non|_=>.bad)
 |.count,.ref l,[.bl b]=>(match S.get l with
  |some (.lst a)=>(match zcN a with|some c=>.ok (.int (c.count b:Nat)) S|none=>.bad)|_=>.bad)
 |_,_,_=>.bad
noncomputable def putP:List (List Int×D)->List Int->D->List (List Int×D)
 | [],k,v=>[(k,v)]|(j,d)::r,k,v=>if j=k then(j,v)::r else(j,d)::putP r k v
noncomputable def putI:List (Int×D)->Int->D->List (Int×D)
 | [],k,v=>[(k,v)]|(j,d)::r,k,v=>if j=k then(j,v)::r else(j,d)::putI r k v
noncomputable def isDt(S:St):D->Bool
 |.ref l=>(match S.get l with|some (.dtp _)=>true|_=>false)|_=>false
noncomputable def dGet(S:St)(x y:D):Option (Option D):=match x with|.ref l=>(match S.get l with|some (.dtp a)=>(ze8 y).map fun k=>valP a k|_=>none)|_=>none
noncomputable def dPut(S:St)(x y v:D):Option St:=match x with
 |.ref l=>(match S.get l with
  |some (.dtp a)=>(ze8 y).bind fun k=>if a.length<16777216 then S.put l (.dtp (putP a k v)) else none|some (.dic a)=>(zc0 y).bind fun k=>if a.length<16777216 then S.put l (.dic (putI a k v)) else none|some (.lst b)=>(zc0 y).bind fun i=>(ixN b.length i).bind fun j=>S.put l (.lst (b.set j v))|_=>none)
 |_=>none
noncomputable def lsts(S:St)(x y:D):Option (Nat×List D×List D):=match x,y with|.ref p,.ref r=>(match S.get p,S.get r with|some (.lst a),some (.lst b)=>some (p,a,b)|_,_=>none)|_,_=>none
noncomputable def zfh(S:St)(x y v:D):Option (D×St):=match dGet S x y with|some (some u)=>some (u,S)|some none=>(dPut S x y v).map fun T=>(v,T)|none=>none
noncomputable def valI(kvs:List (Int×D))(k:Int):Option D:=(kvs.find? fun a=>decide (a.1=k)).map (·.2)
noncomputable def isDi(S:St):D->Bool
 |.ref l=>(match S.get l with|some (.dic _)=>true|_=>false)|_=>false
noncomputable def zfj(S:St)(x y:D):Option (Option D):=match x with|.ref l=>(match S.get l with|some (.dic a)=>(zc0 y).map fun k=>valI a k|_=>none)|_=>none
noncomputable def zej(S:St)(x y v:D):Option (D×St):=match zfj S x y with|some (some u)=>some (u,S)|some none=>(dPut S x y v).map fun T=>(v,T)|none=>none
noncomputable def zbG(S:St):D->Option (Nat×List (Str×D))
 |.ref l=>(match S.get l with|some (.ins c a)=>some (c,a)|_=>none)|_=>none
noncomputable def zjM(f:Str)(v:D):List (Str×D)->List (Str×D)
 | []=>[(f,v)]|(g,x)::r=>if g=f then(g,v)::r else(g,x)::zjM f v r
noncomputable def za1(S:St)(x:D)(f:Str)(v:D):Option St:=match x with|.ref l=>(match S.get l with|some (.ins c a)=>if a.length<1000 then S.put l (.ins c (zjM f v a)) else none|_=>none)|_=>none
noncomputable def zch(S:St):D->Option (Nat×List (Str×D))
 |.ref l=>(match S.get l with|some (.exc c a)=>some (c,a)|_=>none)|_=>none
noncomputable def zhY:D->Bool|.non=>true|_=>false
mutual
inductive CE where
 |any
 |loc (i:Nat)
 |con (d:D)
 |tst (a:CE)
 |bin (op:Operator) (a b:CE)
 |neg (a:CE)
 |nt (a:CE)
 |cmp (op:CmpOp) (a b:CE)
 |cmp2 (op op':CmpOp) (a b c:CE)
 |and (a b:CE)
 |or (a b:CE)
 |ite (c a b:CE)
 |tup (es:CEs)
 |lst (es:CEs)
 |dnew
 |dnewT
 |srtK (a:CE)
 |dgetI (a b c:CE)
 |dsetI (a b c:CE)
 |dget1 (a b:CE)
 |dget2 (a b c:CE)
 |dsetd (a b c:CE)
 |extv (a b:CE)
 |sel4 (k1 k2 k3 k4:Str) (a b c d i:CE)
 |ix (a b:CE)
 |fld (a:CE) (f:Str)
 |mk (c f:Nat) (x:Str) (j:Nat) (es:CEs)
 |meth (m:Str) (tb:List (Nat×Nat)) (o:CE) (es:CEs)
 |callC (f:Nat) (x m:Str) (es:CEs)
 |fldX (a:CE) (f:Str)
 |iscX (cs:List Nat) (x:Str) (a:CE)
 |iscT (rs:List (Str×List Nat)) (a:CE)
 |call (f j:Nat) (es:CEs)
 |callW (f j:Nat) (es:CEs)
 |bi (b:Bi) (es:CEs)
 |mt (m:Mt) (o:CE) (es:CEs)
 |mkL (l:CL)
 |mkT (l:CL)
inductive CEs where
 |nil
 |cons (e:CE) (r:CEs)
inductive CL where
 |val (e:CE)
 |rng1 (a:CE)
 |rng2 (a b:CE)
 |enum (a:CE)
 |comp (nt:Nat) (js:List Nat) (g:List Nat) (it:CL) (c:CE) (e:CE)
end
inductive XE where
 |val (e:CE)
 |call (f:Nat) (es:CEs)
 |meth (m:Str) (tb:List (Nat×Nat)) (o:CE) (es:CEs)
 |ix (a:CE) (b:XE)
 |on (o:XE) (m:Str) (tb:List (Nat×Nat))
 |ite (c:CE) (a b:XE)
inductive TrB where
 |run (f:Nat) (es:CEs)
 |asg (i f:Nat) (es:CEs)
 |ite (c:CE) (a b:TrB)
 |setF (a:CE) (f:Str) (g:Nat) (es:CEs)
 |mk (c f:Nat) (x:Str) (j:Nat) (es:CEs)
 |runX (x:XE)
inductive CS where
 |nil
 |stop
 |asg (i:Nat) (e:CE) (r:CS)
 |setF (a:CE) (f:Str) (e:CE) (r:CS)
 |ifS (c:CE) (t u:CS) (r:CS)
 |forS (g:List Nat) (l:CL) (b:CS) (r:CS)
 |ret (e:CE) (r:CS)
 |retX (x:XE) (r:CS)
 |expr (e:CE) (r:CS)
 |rais (c:Nat) (x f:Str) (a:CE)
 |tryS (b:TrB) (x:Str) (ie ix:Nat) (r:CS)
 |blk (b:TrB) (r:CS)
abbrev Ev:=List (Option D)
noncomputable def zd6:List Nat->List D->Ev->Ev
 |i::b,d::c,a=>zd6 b c (a.set i (some d))|_,_,a=>a
noncomputable def asgG(g:List Nat)(x:D)(δ:Ev):Option Ev:=match g with| [i]=>some (δ.set i (some x))|is=>(match x with|.tup a=>if a.length=is.length then some (zd6 is a δ) else none|_=>none)
noncomputable def ziE(x y:D):D:=.tup [x,y]
noncomputable def zdV(S:St):D->Option (List D×List Nat)
 |.ref l=>(match S.get l with|some (.lst a)=>some (a.mapIdx fun i d=>ziE (.int i) d,[l])|_=>none)|_=>none
abbrev CF:=Nat->List D->St->Out D
noncomputable def zbb(S:St)(d:D)(T:St):Out D:=
 if flat S.len d then .ok d S else
 let a:Out D:=.ok d ⟨S.frz,S.new++T.new,S.lk⟩
 match d with
  |.ref l=>(match T.get l with
   |some (.lst c)=>if flats S.len c then .ok (.ref S.len) (S.push (.lst c)) else a|some (.dic b)=>if flats S.len (b.map (·.2)) then .ok (.ref S.len) (S.push (.dic b)) else a|_=>a)
  |_=>a
@[irreducible]noncomputable def app(cf:CF)(f:Nat)(ds:List D)(S:St):Out D:=(cf f ds S.enter).bind fun d T=>zbb S d T
@[irreducible]noncomputable def appW(cf:CF)(f:Nat)(ds:List D)(S:St):Out D:=cf f ds S
noncomputable def csl(a:Nat)(b:List Nat)(δ:Ev):Ev:=List.replicate a none++b.map fun j=>(δ[j]?).join
noncomputable def za5(g:List Nat)(c:Ev->St->Out Bool)(e:Ev->St->Out D):List D->Ev->St->Out (List D)
 | [],_,S=>.ok [] S| x::f,i,S=>match asgG g x i with|none=>.bad|some a=>(c a S).bind fun b h=>if b then(e a h).bind fun d j=>(za5 g c e f a j).bind fun k l=>.ok (d::k) l else za5 g c e f a h
noncomputable def za8{b:Type}(c:List Nat)(S:St)(f:St->Out b):Out b:=(f {S with lk:=c++S.lk}).bind fun a d=>.ok a {d with lk:=S.lk}
section
variable(cf:CF)
noncomputable def selD(e f g h:Str)(a b c d:D):D->Option D
 |.str s=>if s=e then some a else if s=f then some b else if s=g then some c else if s=h then some d else none|_=>none
mutual
noncomputable def evE(e₀:CE)(δ:Ev)(S:St):Out D:=match e₀ with
 |.loc i=>lift S (δ[i]?).join|.con d=>.ok d S|.tst _=>.bad|.any=>.bad|.bin op a b=>(evE a δ S).bind fun x S1=>(evE b δ S1).bind fun y S2=>binD S2 op x y|.neg a=>(evE a δ S).bind fun x S1=>match x with|.int i=>.ok (.int (-i)) S1|_=>.bad
 |.nt a=>(evE a δ S).bind fun x S1=>match x with|.bl b=>.ok (.bl (!b)) S1|_=>.bad
 |.cmp op a b=>(evE a δ S).bind fun x S1=>(evE b δ S1).bind fun y S2=>(lift S2 (cmpD S2 op x y)).bind fun k S3=>.ok (.bl k) S3|.cmp2 op op' a b c=>(evE a δ S).bind fun x S1=>(evE b δ S1).bind fun y S2=>(lift S2 (cmpD S2 op x y)).bind fun k S3=>if k then(evE c δ S3).bind fun z S4=>(lift S4 (cmpD S4 op' y z)).bind fun k' S5=>.ok (.bl k') S5 else .ok (.bl false) S3|.and a b=>(evE a δ S).bind fun x S1=>match x with|.bl k=>if k then evE b δ S1 else .ok (.bl false) S1|_=>.bad
 |.or a b=>(evE a δ S).bind fun x S1=>match x with|.bl k=>if k then .ok (.bl true) S1 else evE b δ S1|_=>.bad
 |.ite c a b=>(evT c δ S).bind fun k S1=>if k then evE a δ S1 else evE b δ S1|.tup es=>(evEs es δ S).bind fun ds S1=>if ds.length<=16777216 then .ok (.tup ds) S1 else .bad|.lst es=>(evEs es δ S).bind fun ds S1=>lay S1 ds|.dnew=>.ok (.ref S.len) (S.push (.dic []))|.dnewT=>.ok (.ref S.len) (S.push (.dtp []))|.srtK a=>(evE a δ S).bind fun x S1=>(lift S1 (zer S1 x)).bind fun q S2=>if q.2.length<64/\q.2.Nodup then lay S2 (srtD q.1 q.2) else .bad|.sel4 k1 k2 k3 k4 a b c d i=>(evE a δ S).bind fun x1 S1=>(evE b δ S1).bind fun x2 S2=>(evE c δ S2).bind fun x3 S3=>(evE d δ S3).bind fun x4 S4=>(evE i δ S4).bind fun y S5=>lift S5 (selD k1 k2 k3 k4 x1 x2 x3 x4 y)|.dget1 a b=>(evE a δ S).bind fun x S1=>if isDt S1 x then(evE b δ S1).bind fun y S2=>(lift S2 (dGet S2 x y)).bind fun o S3=>.ok (o.getD .non) S3 else .bad|.dget2 a b c=>(evE a δ S).bind fun x S1=>if isDt S1 x then(evE b δ S1).bind fun y S2=>(evE c δ S2).bind fun z S3=>(lift S3 (dGet S3 x y)).bind fun o S4=>.ok (o.getD z) S4 else .bad|.dgetI a b c=>(evE a δ S).bind fun x S1=>if isDi S1 x then(evE b δ S1).bind fun y S2=>(evE c δ S2).bind fun z S3=>(lift S3 (zfj S3 x y)).bind fun o S4=>.ok (o.getD z) S4 else .bad|.dsetd a b c=>(evE a δ S).bind fun x S1=>if isDt S1 x then(evE b δ S1).bind fun y S2=>(evE c δ S2).bind fun z S3=>(lift S3 (zfh S3 x y z)).bind fun o _=>.ok o.1 o.2 else .bad|.dsetI a b c=>(evE a δ S).bind fun x S1=>if isDi S1 x then(evE b δ S1).bind fun y S2=>(evE c δ S2).bind fun z S3=>(lift S3 (zej S3 x y z)).bind fun o _=>.ok o.1 o.2 else .bad|.extv a b=>(evE a δ S).bind fun x S1=>if isL S1 x then(evE b δ S1).bind fun y S2=>(lift S2 (lsts S2 x y)).bind fun o S3=>wr S3 o.1 (o.2.1++o.2.2) .non else .bad|.fld a f=>(evE a δ S).bind fun x S1=>lift S1 ((zbG S1 x).bind fun p=>p.2.lookup f)|.mk c f _ j es=>(evEs es δ S).bind fun ds S1=>(appW cf f (.ref S1.len::(ds++List.replicate j .non)) (S1.push (.ins c []))).bind fun d S2=>if zhY d then .ok (.ref S1.len) S2 else .bad|.meth m tb o es=>(evE o δ S).bind fun x S1=>(lift S1 (zbG S1 x)).bind fun p S1=>(lift S1 (tb.lookup p.1)).bind fun f S1=>if(p.2.lookup m).isNone then(evEs es δ S1).bind fun ds S2=>appW cf f (x::ds) S2 else .bad|.callC f _ _ es=>(evEs es δ S).bind fun ds S1=>appW cf f ds S1|.fldX a f=>(evE a δ S).bind fun x S1=>lift S1 ((zch S1 x).bind fun p=>p.2.lookup f)|.iscX cs _ a=>(evE a δ S).bind fun x S1=>(lift S1 (zch S1 x)).bind fun p S1=>.ok (.bl (cs.contains p.1)) S1|.iscT rs a=>(evE a δ S).bind fun x S1=>(lift S1 (zch S1 x)).bind fun p S1=>.ok (.bl (rs.any fun r=>r.2.contains p.1)) S1|.ix a b=>(evE a δ S).bind fun x S1=>(evE b δ S1).bind fun y S2=>match zbC S2 x,y with|some ds,.int i=>lift S2 (atI ds i)|_,_=>.bad
 |.call f j es=>(evEs es δ S).bind fun ds S1=>app cf f (ds++List.replicate j .non) S1|.callW f j es=>(evEs es δ S).bind fun ds S1=>appW cf f (ds++List.replicate j .non) S1|.bi b es=>(evEs es δ S).bind fun ds S1=>R.bi S1 b ds|.mt m o es=>(evE o δ S).bind fun x S1=>if isL S1 x then(evEs es δ S1).bind fun ds S2=>R.mt S2 m x ds else .bad|.mkL l=>(evL l δ S).bind fun r S1=>lay S1 r.1|.mkT l=>(evL l δ S).bind fun r S1=>if r.1.length<=16777216 then .ok (.tup r.1) S1 else .bad
noncomputable def evEs(e₀:CEs)(δ:Ev)(S:St):Out (List D):=match e₀ with|.nil=>.ok [] S|.cons e r=>(evE e δ S).bind fun d S1=>(evEs r δ S1).bind fun ds S2=>.ok (d::ds) S2
noncomputable def evT(e₀:CE)(δ:Ev)(S:St):Out Bool:=match e₀ with|.cmp op a b=>(evE a δ S).bind fun x S1=>(evE b δ S1).bind fun y S2=>lift S2 (cmpD S2 op x y)|.cmp2 op op' a b c=>(evE a δ S).bind fun x S1=>(evE b δ S1).bind fun y S2=>(lift S2 (cmpD S2 op x y)).bind fun k S3=>if k then(evE c δ S3).bind fun z S4=>lift S4 (cmpD S4 op' y z) else .ok false S3|.nt a=>(evT a δ S).bind fun k S1=>.ok (!k) S1|.and a b=>(evT a δ S).bind fun k S1=>if k then evT b δ S1 else .ok false S1|.or a b=>(evT a δ S).bind fun k S1=>if k then .ok true S1 else evT b δ S1|.tst e=>(evE e δ S).bind fun x S1=>lift S1 (tru S1 x)|_=>.bad
noncomputable def evL(e₀:CL)(δ:Ev)(S:St):Out (List D×List Nat):=match e₀ with
 |.val e=>(evE e δ S).bind fun x S1=>(lift S1 (zbC S1 x)).bind fun ds S2=>.ok (ds,lkOf S2 x) S2|.rng1 a=>(evE a δ S).bind fun x S1=>match x with|.int j=>if -(2^62)<=j/\j<2^62 then .ok ((List.range j.toNat).map fun(k:Nat)=>.int k,[]) S1 else .bad|_=>.bad
 |.rng2 a b=>(evE a δ S).bind fun x S1=>(evE b δ S1).bind fun y S2=>match x,y with
  |.int i,.int j=>if -(2^62)<=i/\i<2^62/\-(2^62)<=j/\j<2^62 then .ok ((List.range (j-i).toNat).map fun(k:Nat)=>.int (i+k),[]) S2 else .bad|_,_=>.bad
 |.enum a=>(evE a δ S).bind fun x S1=>lift S1 (zdV S1 x)|.comp n js g it c e=>(evL it δ S).bind fun r S1=>(za8 r.2 S1 fun S2=>za5 g (evT c) (evE e) r.1 (csl n js δ) S2).bind fun ds S3=>if ds.length<=16777216 then .ok (ds,[]) S3 else .bad
end
inductive Fl where
 |nx (δ:Ev)|rt (d:D)|ex (d:D)
noncomputable def zaP(g:List Nat)(b:Ev->St->Out Fl):List D->Ev->St->Out Fl
 | [],a,S=>.ok (.nx a) S| x::i,a,S=>match asgG g x a with|none=>.bad| some c=>(b c S).bind fun f e=>match f with|.nx h=>zaP g b i h e|.rt d=>.ok (.rt d) e|.ex d=>.ok (.ex d) e
@[irreducible]noncomputable def appX(f:Nat)(ds:List D)(S:St):Out D:=match cf f ds S.enter with|.ok d T=>zbb S d T|.err d T=>.err d ⟨S.frz,S.new++T.new,S.lk⟩|.bad=>.bad
noncomputable def mthX(m:Str)(a:List (Nat×Nat))(x:D)(S:St)(k:Nat->Out D):Out D:=match zbG S x with
 |some p=>(match a.lookup p.1 with
  |some f=>if(p.2.lookup m).isNone then k f else .bad|none=>.bad)
 |none=>.bad
noncomputable def ixX(x y:D)(S:St):Out D:=match zbC S x,y with|some a,.int i=>lift S (atI a i)|_,_=>.bad
noncomputable def exX(g:XE)(δ:Ev)(S:St):Out D:=match g with|.val e=>(evE cf e δ S).ne|.call f h=>(evEs cf h δ S).ne.bind fun i d=>appX cf f i d|.meth m j o h=>(evE cf o δ S).ne.bind fun x d=>mthX m j x d fun f=>(evEs cf h δ d).ne.bind fun i l=>appW cf f (x::i) l|.ix a b=>(evE cf a δ S).ne.bind fun x d=>(exX b δ d).bind fun y l=>ixX x y l|.on o m j=>(exX o δ S).bind fun x d=>mthX m j x d fun f=>(appW cf f [x] d).ne|.ite c a b=>(evT cf c δ S).ne.bind fun k d=>if k then exX a δ d else exX b δ d
noncomputable def exT(n:TrB)(δ:Ev)(S:St):Out Ev:=match n with
 |.runX x=>(exX cf x δ S).bind fun _ e=>.ok δ e|.run f l=>match evEs cf l δ S with|.ok m e=>(appX cf f m e).bind fun _ h=>.ok δ h|_=>.bad
 |.asg i f l=>match evEs cf l δ S with|.ok m e=>(appX cf f m e).bind fun d h=>.ok (δ.set i (some d)) h|_=>.bad
 |.ite c a b=>match evT cf c δ S with|.ok k e=>if k then exT a δ e else exT b δ e|_=>.bad
 |.setF a f g l=>match evEs cf l δ S with
  |.ok m e=>(match appX cf g m e with
   |.ok v h=>(match evE cf a δ h with
    |.ok x o=>(match za1 o x f v with|some p=>.ok δ p|none=>.bad)|_=>.bad)
   |.err d h=>.err d h|.bad=>.bad)
  |_=>.bad
 |.mk c f _ j l=>match evEs cf l δ S with
  |.ok m e=>(match appW cf f (.ref e.len::(m++List.replicate j .non)) (e.push (.ins c [])) with
   |.ok d h=>if zhY d then .ok δ h else .bad|.err d h=>.err d h|.bad=>.bad)
  |_=>.bad
noncomputable def exS(n:CS)(δ:Ev)(S:St):Out Fl:=match n with
 |.nil=>.ok (.nx δ) S|.stop=>.bad|.asg i e r=>(evE cf e δ S).bind fun x h=>exS r (δ.set i (some x)) h|.setF a f e r=>(evE cf e δ S).bind fun v h=>(evE cf a δ h).bind fun x m=>match za1 m x f v with|some o=>exS r δ o|none=>.bad
 |.ifS c t u r=>(evT cf c δ S).bind fun k h=>(if k then exS t δ h else exS u δ h).bind fun f m=>match f with
  |.nx j=>exS r j m|.rt d=>.ok (.rt d) m|.ex d=>.ok (.ex d) m
 |.forS g l b r=>(evL cf l δ S).bind fun q h=>(za8 q.2 h fun m=>zaP g (exS b) q.1 δ m).bind fun f o=>match f with
  |.nx j=>exS r j o|.rt d=>.ok (.rt d) o|.ex d=>.ok (.ex d) o
 |.retX x _=>match exX cf x δ S with
  |.ok d h=>.ok (.rt d) h|.err d h=>.ok (.ex d) h|.bad=>.bad
 |.ret e _=>(evE cf e δ S).bind fun x h=>.ok (.rt x) h|.expr e r=>(evE cf e δ S).bind fun _ h=>exS r δ h|.rais c _ f a=>(evE cf a δ S).bind fun d h=>.ok (.ex (.ref h.len)) (h.push (.exc c [(f,d)]))
 |.blk b r=>match exT cf b δ S with
  |.ok j h=>exS r j h|.err d h=>.ok (.ex d) h|.bad=>.bad
 |.tryS b _ p s r=>match exT cf b δ S with|.ok j h=>exS r j h|.err d h=>if(zch h d).isSome then exS r ((δ.set p none).set s (some d)) h else .bad|.bad=>.bad
end
inductive Prim where
 |tally
 |lam
noncomputable def rowD(r:Int×Int):D:=.tup [.int r.1,.int r.2]
noncomputable def talD(os:List (Option Int)):List D:=(zbQ (zam [] os)).map rowD
noncomputable def prm(S:St):Prim->List D->Out D
 |.tally,[.ref l]=>(match S.get l with
  |some (.lst a)=>(match zcP a with
   |some os=>if(zam [] os).length<64/\os.length<=16777216 then .ok (.ref S.len) (S.push (.lst (talD os))) else .bad|none=>.bad)
  |_=>.bad)
 |_,_=>.bad
structure Fn where
 np:Nat
 nn:Nat
 body:CS
 prim:Option Prim
noncomputable def zaq(F:Fn)(ds:List D):Ev:=ds.map some++List.replicate (F.nn-F.np) none
noncomputable def callF(P:List Fn):Nat->CF
 |0,_,_,_=>.bad
 |n+1,f,a,S=>match P[f]? with
  | some F=>if a.length=F.np then(match F.prim with
     |some .lam=>if 3<=n then(exS (callF P n) F.body (zaq F a) S).ne.bind fun r T=>(match r with
      |.nx _=>.ok .non T|.rt d=>.ok d T|.ex _=>.bad) else .bad
     |some p=>if 3<=n then prm S p a else .bad| none=>(exS (callF P n) F.body (zaq F a) S).ne.bind fun r T=>match r with|.nx _=>.ok .non T|.rt d=>.ok d T|.ex d=>.err d T)
    else .bad
  |none=>.bad
@[simp]theorem zan{α β:Type}(a:α)(S:St)(f:α->St->Out β):(Out.ok a S).bind f=f a S:=rfl
@[simp]theorem zsF{α β:Type}(f:α->St->Out β):(Out.bad:Out α).bind f=.bad:=rfl
@[simp]theorem zsE{α β:Type}(d:D)(S:St)(f:α->St->Out β):(Out.err d S:Out α).bind f=.err d S:=rfl
@[simp]theorem zaV{α:Type}(S:St)(a:α):lift S (some a)=.ok a S:=rfl
theorem zaB(S:St):S.enter.get=S.get:=by funext l;simp only[St.get,St.enter,length_append,List.getElem?_append];by_cases h:l<S.frz.length;simp[lt_of_lt_of_le h (Nat.le_add_right _ _)];split;rfl;exact(List.getElem?_eq_none (by lia)).symm
@[simp]theorem zkT(S:St):S.enter.frz=S.frz++S.new:=rfl
@[simp]theorem zsg(S:St):S.enter.new=[]:=rfl
@[simp]theorem zsD(S:St):S.enter.lk=[]:=rfl
@[simp]theorem enter_len(S:St):S.enter.len=S.len:=by simp[St.len]
theorem ze6(S:St):(S.frz++S.new).length=S.len:=by simp[St.len]
theorem get_lt{S:St}(h:S.get l=some o):l<S.len:=by unfold St.get at h;unfold St.len;split at h;lia;have:=(List.getElem?_eq_some_iff.mp h).1;lia
theorem zg3{S:St}(h:S.get l=some o)(a)(lk):(St.mk (S.frz++S.new) a lk).get l=some o:=by
 have b:=get_lt h;rw[<-zaB]at h;unfold St.get at h⊢;have e:l<(S.frz++S.new).length:=by rw[ze6];exact b
 simp only[zkT,e]at h⊢;exact h
theorem zfc(F a)(lk)(i):(St.mk F a lk).get (F.length+i)=a[i]?:=by
 have:¬F.length+i<F.length:=by lia
 simp[St.get,this]
theorem zmH(F a)(lk):(St.mk F a lk).get F.length=a[0]?:=zfc F a lk 0
@[simp]theorem zsB(n:Nat):flat n .non=true:=by simp[flat]
@[simp]theorem zh4(n:Nat)(i:Int):flat n (.int i)=true:=by simp[flat]
@[simp]theorem zcd(n:Nat)(ds:List D):flat n (.tup ds)=flats n ds:=by simp[flat]
@[simp]theorem zge(n:Nat):flats n []=true:=by simp[flats]
@[simp]theorem zcc(n:Nat)(d:D)(ds:List D):flats n (d::ds)=(flat n d&&flats n ds):=by simp[flats]
theorem zaX(n):∀ds:List D,flats n ds=true↔∀d∈ds,flat n d=true
 | []=>by simp|d::ds=>by simp[zaX n ds]
@[simp]theorem zez(n:Nat)(ns:List Int):flats n (ns.map D.int)=true:=by rw[zaX];simp
@[simp]theorem zcZ(S:St)(d:D)(T:St)(h:flat S.len d=true):zbb S d T=.ok d S:=by simp[zbb,h]
def W{b:Type}(o:Out b)(Q:b->St->Prop):Prop:=match o with|.ok a S=>Q a S|_=>False
@[simp]theorem W_ok{α:Type}(a:α)(S:St)(Q:α->St->Prop):W (.ok a S) Q=Q a S:=rfl
@[simp]theorem ztJ{α:Type}(Q:α->St->Prop):W (.bad:Out α) Q=False:=rfl
@[simp]theorem ztI{α:Type}(d:D)(S:St)(Q:α->St->Prop):W (.err d S:Out α) Q=False:=rfl
@[simp]theorem zaf{α β:Type}(o:Out α)(f:α->St->Out β)(Q:β->St->Prop):W (o.bind f) Q=W o fun a S=>W (f a S) Q:=by cases o<;>rfl
theorem W.mono(h:W o Q)(b:∀a S,Q a S->c a S):W o c:=by cases o with|ok a S=>exact b a S h|err d S=>exact h|bad=>exact h
theorem W.b(h:W (o.bind f) Q):W o fun a S=>W (f a S) Q:=Eq.mp (zaf o f Q) h
theorem W.bd(h:W o R)(k:∀a S,R a S->W (f a S) Q):W (o.bind f) Q:=Eq.mpr (zaf o f Q) (h.mono k)
theorem W.eq(h:W o fun a T=>a=d/\T=S):o=.ok d S:=by cases o with|ok a T=>obtain⟨rfl,rfl⟩:=h;rfl|err d S=>exact False.elim h|bad=>exact False.elim h
theorem W.of(h:o=.ok d S)(q:Q d S):W o Q:=by rw[h];exact q
theorem W.iff:W o Q↔∃a S,o=.ok a S/\Q a S:=by cases o with|ok a S=>exact⟨fun h=>⟨a,S,rfl,h⟩,fun⟨_,_,e,h⟩=>by cases e;exact h⟩|err d S=>exact⟨fun h=>h.elim,fun k=>(by obtain⟨_,_,e,_⟩:=k;cases e)⟩|bad=>exact⟨fun h=>h.elim,fun z=>(by obtain⟨_,_,e,_⟩:=z;cases e)⟩
@[simp]theorem W_ne{α:Type}{o:Out α}{Q:α->St->Prop}:W o.ne Q=W o Q:=by cases o<;>rfl
noncomputable def fin(S:St)(r:Fl)(T:St):Out D:=match r with|.nx _=>zbb S .non T|.rt d=>zbb S d T|.ex d=>.err d T
@[simp]theorem zh5(S T:St)(d:D):fin S (.rt d) T=zbb S d T:=rfl
@[simp]theorem ztG(S T:St)(δ:Ev):fin S (.nx δ) T=.ok .non S:=by simp[fin]
theorem znL(h:P[f]?=some F)(a:ds.length=F.np)(b:F.prim=none:=by rfl):
  app (callF P (n+1)) f ds S=(exS (callF P n) F.body (zaq F ds) S.enter).ne.bind fun r T=>fin S r T:=by
 simp only[app,callF,h,a,b];generalize exS (callF P n) F.body (zaq F ds) S.enter=o;cases o with|ok r T=>cases r<;>rfl|err d S=>rfl|bad=>rfl
theorem zem(I:Nat->Ev->St->Prop)(l:D->St->Prop):∀(xs:List D)(k:Nat)(δ:Ev)(S:St),I k δ S->
  (∀i x δ S,xs[i]?=some x->I (k+i) δ S->∃a,asgG g x δ=some a/\W (b a S) fun f j=>match f with|.nx c=>I (k+i+1) c j|.rt d=>l d j|.ex _=>False)->
  W (zaP g b xs δ S) fun f j=>match f with|.nx a=>I (k+xs.length) a j|.rt d=>l d j|.ex _=>False
 | [],k,δ,S,h,_=>by simpa[zaP]using h| x::xs,k,δ,S,h,step=>by obtain⟨a,e,w⟩:=step 0 x δ S rfl h;simp only[zaP,e,zaf];refine w.mono fun f o m=>?_;cases f with|rt d=>exact m|ex d=>exact m.elim| nx c=>have n:=zem I l xs (k+1) c o m (fun i y δ S p q=>by have:=step (i+1) y δ S (by simpa using p) (by rw[show k+(i+1)=k+1+i by lia];exact q);rw[show k+(i+1)+1=k+1+i+1 by lia]at this;exact this);rw[show k+1+xs.length=k+(x::xs).length by simp;lia]at n;exact n
theorem zbB(p)(f):∀(xs:List D)(o:Option D),
  (∀x∈xs,c (some x::rest) S=.ok (p x) S)->(∀x∈xs,p x=true->e (some x::rest) S=.ok (f x) S)->za5 [0] c e xs (o::rest) S=.ok ((xs.filter p).map f) S
 | [],o,_,_=>rfl| x::xs,o,d,g=>by have h:=zbB p f xs (some x) (fun y a=>d y (mem_cons_of_mem _ a)) (fun y a=>g y (mem_cons_of_mem _ a));simp only[za5,asgG,List.set_cons_zero,d x mem_cons_self];cases b:p x with|false=>simp[h,b]|true=>simp[h,b,g x mem_cons_self b]
theorem zcQ(f)(xs)(o)(a:∀x∈xs,c (some x::rest) S=.ok true S)(b:∀x∈xs,e (some x::rest) S=.ok (f x) S):za5 [0] c e xs (o::rest) S=.ok (xs.map f) S:=by
 have:=zbB (fun _=>true) f xs o a (fun x d _=>b x d);rw[List.filter_eq_self.mpr (fun _ _=>rfl)]at this;exact this
@[simp]theorem zp1{α:Type}(S:St)(f:St->Out α):za8 [] S f=(f S).bind fun a S'=>.ok a {S' with lk:=S.lk}:=rfl
def wIf(c:Bool)(P Q:Prop):Prop:=match c with|true=>P|false=>Q
@[irreducible]def wOpt{α:Type}(o:Option α)(k:α->Prop):Prop:=match o with|some a=>k a|none=>False
@[irreducible]def zaF(p k:Prop):Prop:=p/\k
@[irreducible]def wOut{α:Type}(o:Out α)(Q:α->St->Prop):Prop:=W o Q
theorem zdp(h:c=true)(k:P):wIf c P Q:=by subst h;exact k
theorem zfp(h:c=false)(k:Q):wIf c P Q:=by subst h;exact k
theorem zi8(a:c=true->P)(b:c=false->Q):wIf c P Q:=by cases c with|true=>exact zdp rfl (a rfl)|false=>exact zfp rfl (b rfl)
theorem zdq[Decidable p](a:p->P)(b:¬p->Q):wIf (decide p) P Q:=zi8 (fun h=>a (of_decide_eq_true h)) (fun h=>b (of_decide_eq_false h))
theorem wOpt_of(h:o=some a)(q:k a):wOpt o k:=by unfold wOpt;rw[h];exact q
theorem wNeed_of(h:p)(q:k):zaF p k:=by unfold zaF;exact⟨h,q⟩
theorem wOut_of(h:o=.ok a S)(q:Q a S):wOut o Q:=by unfold wOut;rw[h];exact q
theorem za0(h:W o Q):wOut o Q:=by unfold wOut;exact h
abbrev wGet(S:St)(l:Nat)(k:MO->Prop):Prop:=wOpt (S.get l) k
abbrev wPut(S:St)(l:Nat)(o:MO)(k:St->Prop):Prop:=wOpt (S.put l o) k
theorem zaN{S:St}(h:S.get l=some o)(q:k o):wGet (St.mk (S.frz++S.new) a lk) l k:=wOpt_of (zg3 h a lk) q
theorem zaG(h:a[i]?=some o)(q:k o):wGet (St.mk F a lk) (F.length+i) k:=wOpt_of ((zfc F a lk i).trans h) q
def wLay(S:St)(ds:List D)(Q:D->St->Prop):Prop:=zaF (ds.length<=16777216) (Q (.ref S.len) (S.push (.lst ds)))
theorem zhp(h:wLay S ds Q):W (lay S ds) Q:=by unfold wLay zaF at h;unfold lay;rw[if_pos h.1];exact h.2
def wWr(S:St)(l:Nat)(ds:List D)(d:D)(Q:D->St->Prop):Prop:=zaF (ds.length<=16777216) (wPut S l (.lst ds) fun a=>Q d a)
theorem zp7(h:wWr S l ds d Q):W (wr S l ds d) Q:=by unfold wWr zaF wPut wOpt at h;unfold wr;rw[if_pos h.1];have a:=h.2;cases e:S.put l (.lst ds) with|none=>rw[e]at a;exact a.elim|some b=>rw[e]at a;exact a
def zqa(S:St)(op:Operator)(i j:Int)(Q:D->St->Prop):Prop:=match op with|.Add=>Q (.int (i+j)) S|.Sub=>Q (.int (i-j)) S|.Mult=>zaF (zpk i j=true) (Q (.int (i*j)) S)|.FloorDiv=>zaF (0<j/\j<1073741824) (Q (.int (i/j)) S)|.Mod=>zaF (0<j) (Q (.int (i%j)) S)|.Pow=>zaF (0<=j/\j<=1000000/\-18446744073709551616<i/\i<18446744073709551616) (Q (.int (i^j.toNat)) S)|_=>False
def wBin(S:St)(op:Operator)(x y:D)(Q:D->St->Prop):Prop:=match x,y with|.int i,.int j=>zqa S op i j Q|.tup c,.tup d=>(match op with|.Add=>zaF (c.length+d.length<=16777216) (Q (.tup (c++d)) S)|_=>False)|.ref a,.ref b=>(match op with|.Add=>wGet S a fun o=>wGet S b fun u=>(match o,u with|.lst c,.lst d=>wLay S (c++d) Q|_,_=>False)|_=>False)|_,_=>False
theorem zp9(h:wBin S op x y Q):W (binD S op x y) Q:=by
 unfold wBin at h;unfold binD;split at h
 . unfold zqa zaF at h;unfold binI;split at h<;>(try dsimp only)<;>first|exact h|(rw[if_pos h.1];exact h.2)|exact False.elim h
 split at h
 . unfold zaF at h
   rw[if_pos h.1];exact h.2
 exact h.elim;split at h
 . unfold wGet wOpt at h
   cases a:S.get _ with|none=>simp only[a]at h| some o=>simp only[a]at h;cases b:S.get _ with|none=>simp only[b]at h| some u=>simp only[b]at h;cases o<;>cases u<;>first|exact zhp h|exact h.elim
 exact h.elim;exact h.elim
def wCmp(S:St)(op:CmpOp)(x y:D)(Q:Bool->Prop):Prop:=match x,y with|.int i,.int j=>(match cmpI op i j with|some k=>Q k|none=>False)| _,_=>(match op with|.Is=>(match cmpO S .Is x y with|some k=>Q k|none=>False)|.IsNot=>(match cmpO S .IsNot x y with|some k=>Q k|none=>False)|_=>wOpt (cmpO S op x y) Q)
theorem zk4(h:∀i j,x=.int i->y=.int j->False):cmpD S op x y=cmpO S op x y:=by unfold cmpD;split;rename_i i j;exact(h i j rfl rfl).elim;rfl
theorem zgB(h:wCmp S op x y Q):∃k,cmpD S op x y=some k/\Q k:=by
 have fin:∀o:Option Bool,(match o with|some k=>Q k|none=>False)->∃k,o=some k/\Q k:=fun o q=>by cases o with|none=>exact q.elim|some k=>exact⟨k,rfl,q⟩
 unfold wCmp at h;split at h;exact fin _ h;rename_i a;rw[zk4 a];split at h;exact fin _ h;exact fin _ h;unfold wOpt at h;cases e:cmpO S op x y with|none=>rw[e]at h;exact h.elim|some k=>rw[e]at h;exact⟨k,rfl,h⟩
theorem zhq(h:wCmp S op x y fun k=>Q k S):W (lift S (cmpD S op x y)) Q:=by obtain⟨k,e,q⟩:=zgB h;rw[e];exact q
def wBi(S:St)(b:Bi)(ds:List D)(Q:D->St->Prop):Prop:=match b,ds with
 |.len,[x]=>(match x with
  |.tup ds=>Q (.int ds.length) S|.fix ds=>Q (.int ds.length) S|.ref l=>wGet S l fun o=>(match o with|.lst ds=>Q (.int ds.length) S|_=>False)|_=>False)
 |.abs,[.int i]=>Q (.int (if i<0 then -i else i)) S|.isin t,[x]=>wOpt (tyOf S x) fun a=>Q (.bl (a==t||(a=="bool"&&t=="int"))) S|_,_=>False
theorem zsI(h:wBi S b ds Q):W (bi S b ds) Q:=by
 unfold wBi at h;split at h;split at h;exact h;exact h;rename_i l;unfold wGet wOpt at h;simp only[bi];cases e:S.get l with|none=>rw[e]at h;exact h.elim|some o=>rw[e]at h;cases o<;>first|exact h|exact h.elim
 exact h.elim;exact h;rename_i t x;unfold wOpt at h;simp only[bi];cases e:tyOf S x with|none=>rw[e]at h;exact h.elim|some a=>rw[e]at h;exact h
 exact h.elim
def wIsL(S:St)(x:D)(P:Prop):Prop:=match x with|.ref l=>wGet S l fun o=>(match o with|.lst _=>P|_=>False)|_=>False
theorem zi7(h:wIsL S x P):isL S x=true/\P:=by
 unfold wIsL at h;split at h;rename_i l;unfold wGet wOpt at h;unfold isL;cases e:S.get l with|none=>rw[e]at h;exact h.elim| some o=>rw[e]at h;cases o with|lst a=>exact⟨by simp[e],h⟩|_=>exact False.elim h
 exact h.elim
def wMt(S:St)(m:Mt)(x:D)(ds:List D)(Q:D->St->Prop):Prop:=match m,x,ds with
 |.append,.ref l,[y]=>wGet S l fun o=>(match o with|.lst ds=>wWr S l (ds++[y]) .non Q|_=>False)
 |.count,.ref l,[.bl b]=>wGet S l fun o=>(match o with
  |.lst ds=>wOpt (zcN ds) fun a=>Q (.int (a.count b:Nat)) S|_=>False)
 |_,_,_=>False
theorem zsH(h:wMt S m x ds Q):W (mt S m x ds) Q:=by
 unfold wMt at h;split at h;rename_i l y;unfold wGet wOpt at h;simp only[mt];cases e:S.get l with|none=>rw[e]at h;exact h.elim|some o=>rw[e]at h;cases o<;>first|exact zp7 h|exact h.elim
 rename_i l i;unfold wGet wOpt at h;simp only[mt];cases e:S.get l with
 |none=>rw[e]at h;exact h.elim| some o=>
  rw[e]at h;cases o with
  |lst ds=>simp only at h⊢;cases a:zcN ds with|none=>rw[a]at h;exact h.elim|some y=>rw[a]at h;exact h
  |_=>exact h.elim
 exact h.elim
def wSeq(S:St)(x:D)(k:List D->Prop):Prop:=match x with|.tup a=>k a|.fix a=>k a|.ref l=>wGet S l fun o=>(match o with|.lst a=>k a|_=>False)|_=>False
theorem zi5(h:wSeq S x k):∃ds,zbC S x=some ds/\k ds:=by
 unfold wSeq at h;unfold zbC;split at h;exact⟨_,rfl,h⟩;exact⟨_,rfl,h⟩;rename_i l;unfold wGet wOpt at h;cases e:S.get l with|none=>rw[e]at h;exact h.elim| some o=>rw[e]at h;cases o with|lst ds=>exact⟨ds,by simp[e],h⟩|dic _=>exact False.elim h|ins _ _=>exact False.elim h|dtp _=>exact False.elim h|exc _ _=>exact False.elim h
 exact h.elim
def wTru(S:St)(x:D)(Q:Bool->Prop):Prop:=match x with|.bl b=>Q b|.non=>Q false|.int i=>Q (i != 0)|.tup a=>Q (!a.isEmpty)|.ref l=>wGet S l fun o=>(match o with|.lst a=>Q (!a.isEmpty)|_=>False)|_=>False
theorem zp8(h:wTru S x fun k=>Q k S):W (lift S (tru S x)) Q:=by
 unfold wTru at h;unfold tru;split at h;exact h;exact h;exact h;exact h;rename_i l;unfold wGet wOpt at h;simp only;cases e:S.get l with|none=>rw[e]at h;exact h.elim|some o=>rw[e]at h;cases o<;>first|exact h|exact h.elim
 exact h.elim
@[irreducible]def zih{α:Type}(ls:List Nat)(S:St)(f:St->Out α)(Q:α->St->Prop):Prop:=W (za8 ls S f) Q
theorem zi6(h:zih a S f Q):W (za8 a S f) Q:=by unfold zih at h;exact h
theorem zba(h:W (f {S with lk:=b++S.lk}) fun a T=>Q a {T with lk:=S.lk}):zih b S f Q:=by unfold zih za8;rw[zaf];exact h
section
variable(cf:CF)
mutual
def wE(e₀:CE)(δ:Ev)(S:St)(Q:(D->St->Prop)):Prop:=match e₀ with|.loc i=>(match (δ[i]?).join with|some d=>Q d S|none=>False)|.con d=>Q d S|.tst _=>False|.any=>False|.bin op a b=>wE a δ S fun x S1=>wE b δ S1 fun y S2=>wBin S2 op x y Q|.neg a=>wE a δ S fun x S1=>(match x with|.int i=>Q (.int (-i)) S1|_=>False)|.nt a=>wE a δ S fun x S1=>(match x with|.bl b=>Q (.bl (!b)) S1|_=>False)|.cmp op a b=>wE a δ S fun x S1=>wE b δ S1 fun y S2=>wCmp S2 op x y fun k=>Q (.bl k) S2|.cmp2 op op' a b c=>wE a δ S fun x S1=>wE b δ S1 fun y S2=>wCmp S2 op x y fun k=>wIf k (wE c δ S2 fun z S4=>wCmp S4 op' y z fun k'=>Q (.bl k') S4) (Q (.bl false) S2)|.and a b=>wE a δ S fun x S1=>(match x with|.bl k=>wIf k (wE b δ S1 Q) (Q (.bl false) S1)|_=>False)|.or a b=>wE a δ S fun x S1=>(match x with|.bl k=>wIf k (Q (.bl true) S1) (wE b δ S1 Q)|_=>False)|.ite c a b=>wT c δ S fun k S1=>wIf k (wE a δ S1 Q) (wE b δ S1 Q)|.tup es=>wEs es δ S fun ds S1=>zaF (ds.length<=16777216) (Q (.tup ds) S1)|.lst es=>wEs es δ S fun ds S1=>wLay S1 ds Q|.dnew=>Q (.ref S.len) (S.push (.dic []))|.dnewT=>Q (.ref S.len) (S.push (.dtp []))|.srtK a=>wE a δ S fun r S1=>wOpt (zer S1 r) fun q=>zaF (q.2.length<64/\q.2.Nodup) (wLay S1 (srtD q.1 q.2) Q)|.sel4 k1 k2 k3 k4 a b c d i=>wE a δ S fun x1 S1=>wE b δ S1 fun x2 S2=>wE c δ S2 fun x3 S3=>wE d δ S3 fun x4 S4=>wE i δ S4 fun y S5=>wOpt (selD k1 k2 k3 k4 x1 x2 x3 x4 y) fun z=>Q z S5|.dget1 a b=>wE a δ S fun x S1=>zaF (isDt S1 x=true) (wE b δ S1 fun y S2=>wOpt (dGet S2 x y) fun o=>Q (o.getD .non) S2)|.dget2 a b c=>wE a δ S fun x S1=>zaF (isDt S1 x=true) (wE b δ S1 fun y S2=>wE c δ S2 fun z S3=>wOpt (dGet S3 x y) fun o=>Q (o.getD z) S3)|.dgetI a b c=>wE a δ S fun x S1=>zaF (isDi S1 x=true) (wE b δ S1 fun y S2=>wE c δ S2 fun z S3=>wOpt (zfj S3 x y) fun o=>Q (o.getD z) S3)|.dsetd a b c=>wE a δ S fun x S1=>zaF (isDt S1 x=true) (wE b δ S1 fun y S2=>wE c δ S2 fun z S3=>wOpt (zfh S3 x y z) fun o=>Q o.1 o.2)|.dsetI a b c=>wE a δ S fun x S1=>zaF (isDi S1 x=true) (wE b δ S1 fun y S2=>wE c δ S2 fun z S3=>wOpt (zej S3 x y z) fun o=>Q o.1 o.2)|.extv a b=>wE a δ S fun x S1=>wIsL S1 x (wE b δ S1 fun y S2=>wOpt (lsts S2 x y) fun o=>wWr S2 o.1 (o.2.1++o.2.2) .non Q)|.fld a f=>wE a δ S fun x S1=>wOpt ((zbG S1 x).bind fun p=>p.2.lookup f) fun v=>Q v S1|.mk c f _ j es=>wEs es δ S fun ds S1=>wOut (appW cf f (.ref S1.len::(ds++List.replicate j .non)) (S1.push (.ins c []))) fun d S2=>zaF (zhY d=true) (Q (.ref S1.len) S2)|.meth m tb o es=>wE o δ S fun x S1=>wOpt (zbG S1 x) fun p=>wOpt (tb.lookup p.1) fun f=>zaF ((p.2.lookup m).isNone=true) (wEs es δ S1 fun ds S2=>wOut (appW cf f (x::ds) S2) Q)|.callC f _ _ es=>wEs es δ S fun ds S1=>wOut (appW cf f ds S1) Q|.fldX a f=>wE a δ S fun x S1=>wOpt (zch S1 x) fun p=>wOpt (p.2.lookup f) fun d=>Q d S1|.iscX cs _ a=>wE a δ S fun x S1=>wOpt (zch S1 x) fun p=>Q (.bl (cs.contains p.1)) S1|.iscT rs a=>wE a δ S fun x S1=>wOpt (zch S1 x) fun p=>Q (.bl (rs.any fun r=>r.2.contains p.1)) S1|.ix a b=>wE a δ S fun x S1=>wE b δ S1 fun y S2=>wSeq S2 x fun ds=>(match y with|.int i=>wOpt (atI ds i) fun d=>Q d S2|_=>False)|.call f j es=>wEs es δ S fun ds S1=>wOut (app cf f (ds++List.replicate j .non) S1) Q|.callW f j es=>wEs es δ S fun ds S1=>wOut (appW cf f (ds++List.replicate j .non) S1) Q|.bi b es=>wEs es δ S fun ds S1=>wBi S1 b ds Q|.mt m o es=>wE o δ S fun x S1=>wIsL S1 x (wEs es δ S1 fun ds S2=>wMt S2 m x ds Q)|.mkL l=>wL l δ S fun r S1=>wLay S1 r.1 Q|.mkT l=>wL l δ S fun r S1=>zaF (r.1.length<=16777216) (Q (.tup r.1) S1)
def wEs(e₀:CEs)(δ:Ev)(S:St)(Q:(List D->St->Prop)):Prop:=match e₀ with|.nil=>Q [] S|.cons e r=>wE e δ S fun d S1=>wEs r δ S1 fun ds S2=>Q (d::ds) S2
def wT(e₀:CE)(δ:Ev)(S:St)(Q:(Bool->St->Prop)):Prop:=match e₀ with|.cmp op a b=>wE a δ S fun x S1=>wE b δ S1 fun y S2=>wCmp S2 op x y fun k=>Q k S2|.cmp2 op op' a b c=>wE a δ S fun x S1=>wE b δ S1 fun y S2=>wCmp S2 op x y fun k=>wIf k (wE c δ S2 fun z S4=>wCmp S4 op' y z fun k'=>Q k' S4) (Q false S2)|.nt a=>wT a δ S fun k S1=>Q (!k) S1|.and a b=>wT a δ S fun k S1=>wIf k (wT b δ S1 Q) (Q false S1)|.or a b=>wT a δ S fun k S1=>wIf k (Q true S1) (wT b δ S1 Q)|.tst e=>wE e δ S fun x S1=>wTru S1 x fun k=>Q k S1|_=>False
def wL(e₀:CL)(δ:Ev)(S:St)(Q:(List D×List Nat->St->Prop)):Prop:=match e₀ with
 |.val e=>wE e δ S fun x S1=>wSeq S1 x fun ds=>Q (ds,lkOf S1 x) S1|.rng1 a=>wE a δ S fun x S1=>(match x with|.int j=>zaF (-(2^62)<=j/\j<2^62) (Q ((List.range j.toNat).map fun(k:Nat)=>.int k,[]) S1)|_=>False)
 |.rng2 a b=>wE a δ S fun x S1=>wE b δ S1 fun y S2=>(match x,y with
  |.int i,.int j=>zaF (-(2^62)<=i/\i<2^62/\-(2^62)<=j/\j<2^62) (Q ((List.range (j-i).toNat).map fun(k:Nat)=>.int (i+k),[]) S2)|_,_=>False)
 |.enum a=>wE a δ S fun x S1=>wOpt (zdV S1 x) fun r=>Q r S1|.comp n js g it c e=>wL it δ S fun r S1=>zih r.2 S1 (fun S2=>za5 g (evT cf c) (evE cf e) r.1 (csl n js δ) S2) fun ds S3=>zaF (ds.length<=16777216) (Q (ds,[]) S3)
end
def wS(n:CS)(δ:Ev)(S:St)(Q:(Fl->St->Prop)):Prop:=match n with|.nil=>Q (.nx δ) S|.stop=>False|.asg i e r=>wE cf e δ S fun x h=>wS r (δ.set i (some x)) h Q|.setF a f e r=>wE cf e δ S fun v h=>wE cf a δ h fun x j=>wOpt (za1 j x f v) fun o=>wS r δ o Q|.ifS c t u r=>wT cf c δ S fun k h=>wIf k (wS t δ h fun f j=>(match f with|.nx m=>wS r m j Q|.rt d=>Q (.rt d) j|.ex d=>Q (.ex d) j)) (wS u δ h fun f j=>(match f with|.nx m=>wS r m j Q|.rt d=>Q (.rt d) j|.ex d=>Q (.ex d) j))|.forS g l b r=>wL cf l δ S fun q h=>zih q.2 h (fun j=>zaP g (exS cf b) q.1 δ j) fun f o=>(match f with|.nx m=>wS r m o Q|.rt d=>Q (.rt d) o|.ex d=>Q (.ex d) o)|.retX x r=>wOut (exS cf (.retX x r) δ S) Q|.ret e _=>wE cf e δ S fun x h=>Q (.rt x) h|.expr e r=>wE cf e δ S fun _ h=>wS r δ h Q|.rais c _ f a=>wE cf a δ S fun d h=>Q (.ex (.ref h.len)) (h.push (.exc c [(f,d)]))|.blk b r=>wOut (exS cf (.blk b r) δ S) Q|.tryS b x p s r=>wOut (exS cf (.tryS b x p s r) δ S) Q
end
section
variable{cf:CF}
mutual
theorem wE_W:∀(e:CE){δ:Ev}{S:St}{Q:D->St->Prop},wE cf e δ S Q->W (evE cf e δ S) Q
 |.loc i,δ,S,Q,h=>(fun o (h:match o with|some d=>Q d S|none=>False)=>(by cases o<;>exact h:W (lift S o) Q)) _ h|.con d,δ,S,Q,h=>h|.tst _,δ,S,Q,h=>h.elim|.any,δ,S,Q,h=>h.elim|.bin op a b,δ,S,Q,h=>W.bd (wE_W a h) fun x S1 h1=>W.bd (wE_W b h1) fun y S2 h2=>zp9 h2| .neg a,δ,S,Q,h=>by refine W.bd (wE_W a h) fun x S1 h1=>?_;cases x<;>first|exact h1|exact h1.elim
 |.nt a,δ,S,Q,h=>by refine W.bd (wE_W a h) fun x S1 h1=>?_;cases x<;>first|exact h1|exact h1.elim
 |.cmp op a b,δ,S,Q,h=>W.bd (wE_W a h) fun x S1 h1=>W.bd (wE_W b h1) fun y S2 h2=>W.bd (zhq (Q:=fun k S=>Q (.bl k) S) h2) fun _ _ h=>h| .cmp2 op op' a b c,δ,S,Q,h=>by refine W.bd (wE_W a h) fun x S1 h1=>W.bd (wE_W b h1) fun y S2 h2=>?_;obtain⟨k,e,hk⟩:=zgB h2;rw[e];unfold wIf at hk;cases k with|false=>exact hk| true=>simp only[if_true,lift,zan]at hk⊢;exact W.bd (wE_W c hk) fun z S4 h4=>W.bd (zhq (Q:=fun k S=>Q (.bl k) S) h4) fun _ _ h=>h
 |.and a b,δ,S,Q,h=>by
  refine W.bd (wE_W a h) fun x S1 h1=>?_;cases x with
  |bl k=>unfold wIf at h1;cases k with|false=>exact h1|true=>exact wE_W b h1
  |_=>exact h1.elim
 |.or a b,δ,S,Q,h=>by
  refine W.bd (wE_W a h) fun x S1 h1=>?_;cases x with
  |bl k=>unfold wIf at h1;cases k with|true=>exact h1|false=>exact wE_W b h1
  |_=>exact h1.elim
 |.ite c a b,δ,S,Q,h=>by refine W.bd (wT_W c h) fun k S1 h1=>?_;unfold wIf at h1;cases k with|true=>exact wE_W a h1|false=>exact wE_W b h1
 |.tup es,δ,S,Q,h=>by refine W.bd (zdr es h) fun ds S1 h1=>?_;unfold zaF at h1;rw[if_pos h1.1];exact h1.2|.lst es,δ,S,Q,h=>W.bd (zdr es h) fun ds S1 h1=>zhp h1|.dnew,δ,S,Q,h=>h|.dnewT,δ,S,Q,h=>h| .dget1 a b,δ,S,Q,h=>by refine W.bd (wE_W a h) fun x S1 h1=>?_;unfold zaF at h1;rw[if_pos h1.1];refine W.bd (wE_W b h1.2) fun y S2 h2=>?_;unfold wOpt at h2;cases e:dGet S2 x y with|none=>rw[e]at h2;exact h2.elim|some o=>rw[e]at h2;exact h2
 |.dget2 a b c,δ,S,Q,h=>by refine W.bd (wE_W a h) fun x S1 h1=>?_;unfold zaF at h1;rw[if_pos h1.1];refine W.bd (wE_W b h1.2) fun y S2 h2=>?_;refine W.bd (wE_W c h2) fun z S3 h3=>?_;unfold wOpt at h3;cases e:dGet S3 x y with|none=>rw[e]at h3;exact h3.elim|some o=>rw[e]at h3;exact h3
 |.dgetI a b c,δ,S,Q,h=>by refine W.bd (wE_W a h) fun x S1 h1=>?_;unfold zaF at h1;rw[if_pos h1.1];refine W.bd (wE_W b h1.2) fun y S2 h2=>?_;refine W.bd (wE_W c h2) fun z S3 h3=>?_;unfold wOpt at h3;cases e:zfj S3 x y with|none=>rw[e]at h3;exact h3.elim|some o=>rw[e]at h3;exact h3
 |.dsetd a b c,δ,S,Q,h=>by refine W.bd (wE_W a h) fun x S1 h1=>?_;unfold zaF at h1;rw[if_pos h1.1];refine W.bd (wE_W b h1.2) fun y S2 h2=>?_;refine W.bd (wE_W c h2) fun z S3 h3=>?_;unfold wOpt at h3;cases e:zfh S3 x y z with|none=>rw[e]at h3;exact h3.elim|some o=>rw[e]at h3;exact h3
 |.dsetI a b c,δ,S,Q,h=>by refine W.bd (wE_W a h) fun x S1 h1=>?_;unfold zaF at h1;rw[if_pos h1.1];refine W.bd (wE_W b h1.2) fun y S2 h2=>?_;refine W.bd (wE_W c h2) fun z S3 h3=>?_;unfold wOpt at h3;cases e:zej S3 x y z with|none=>rw[e]at h3;exact h3.elim|some o=>rw[e]at h3;exact h3
 |.extv a b,δ,S,Q,h=>by refine W.bd (wE_W a h) fun x S1 h1=>?_;obtain⟨c,h1⟩:=zi7 h1;rw[if_pos c];refine W.bd (wE_W b h1) fun y S2 h2=>?_;unfold wOpt at h2;cases e:lsts S2 x y with|none=>rw[e]at h2;exact h2.elim|some o=>rw[e]at h2;exact zp7 h2
 |.fld a f,δ,S,Q,h=>by refine W.bd (wE_W a h) fun x S1 h1=>?_;unfold wOpt at h1;cases e:(zbG S1 x).bind fun p=>p.2.lookup f with|none=>rw[e]at h1;exact h1.elim|some o=>rw[e]at h1;exact h1
 |.mk c f _ j es,δ,S,Q,h=>by refine W.bd (zdr es h) fun ds S1 h1=>?_;unfold wOut at h1;refine W.bd h1 fun d S2 h2=>?_;unfold zaF at h2;rw[if_pos h2.1];exact h2.2| .meth m tb o es,δ,S,Q,h=>by refine W.bd (wE_W o h) fun x S1 h1=>?_;unfold wOpt at h1;cases e:zbG S1 x with|none=>rw[e]at h1;exact h1.elim| some p=>rw[e]at h1;dsimp only at h1;cases e2:tb.lookup p.1 with|none=>rw[e2]at h1;exact h1.elim| some f=>rw[e2]at h1;unfold zaF at h1;rw[zaV,zan];rw[e2,zaV,zan,if_pos h1.1];refine W.bd (zdr es h1.2) fun ds S2 h2=>?_;unfold wOut at h2;exact h2
 |.callC f _ _ es,δ,S,Q,h=>by refine W.bd (zdr es h) fun ds S1 h1=>?_;unfold wOut at h1;exact h1| .fldX a f,δ,S,Q,h=>by refine W.bd (wE_W a h) fun x S1 h1=>?_;unfold wOpt at h1;cases e:zch S1 x with|none=>rw[e]at h1;exact h1.elim| some p=>rw[e]at h1;dsimp only at h1;rw[bind_some];cases e2:p.2.lookup f with|none=>rw[e2]at h1;exact h1.elim|some d=>rw[e2]at h1;exact h1
 |.iscX cs _ a,δ,S,Q,h=>by refine W.bd (wE_W a h) fun x S1 h1=>?_;unfold wOpt at h1;cases e:zch S1 x with|none=>rw[e]at h1;exact h1.elim|some p=>rw[e]at h1;exact h1
 |.iscT rs a,δ,S,Q,h=>by refine W.bd (wE_W a h) fun x S1 h1=>?_;unfold wOpt at h1;cases e:zch S1 x with|none=>rw[e]at h1;exact h1.elim|some p=>rw[e]at h1;exact h1
 |.ix a b,δ,S,Q,h=>by
  refine W.bd (wE_W a h) fun x S1 h1=>W.bd (wE_W b h1) fun y S2 h2=>?_;obtain⟨ds,e,h3⟩:=zi5 h2;rw[e];cases y with
  |int i=>unfold wOpt at h3;simp only at h3⊢;cases e2:atI ds i with|none=>rw[e2]at h3;exact h3.elim|some d=>rw[e2]at h3;exact h3
  |_=>exact h3.elim
 |.call f j es,δ,S,Q,h=>by refine W.bd (zdr es h) fun ds S1 h1=>?_;unfold wOut at h1;exact h1| .callW f j es,δ,S,Q,h=>by refine W.bd (zdr es h) fun ds S1 h1=>?_;unfold wOut at h1;exact h1|.bi b es,δ,S,Q,h=>W.bd (zdr es h) fun ds S1 h1=>zsI h1| .mt m o es,δ,S,Q,h=>by refine W.bd (wE_W o h) fun x S1 h1=>?_;obtain⟨c,h2⟩:=zi7 h1;rw[if_pos c];exact W.bd (zdr es h2) fun ds S2 h3=>zsH h3|.mkL l,δ,S,Q,h=>W.bd (wL_W l h) fun ds S1 h1=>zhp h1| .mkT l,δ,S,Q,h=>by refine W.bd (wL_W l h) fun r S1 h1=>?_;unfold zaF at h1;rw[if_pos h1.1];exact h1.2| .sel4 k1 k2 k3 k4 a b c d i,δ,S,Q,h=>by refine W.bd (wE_W a h) fun x1 S1 h1=>W.bd (wE_W b h1) fun x2 S2 h2=>W.bd (wE_W c h2) fun x3 S3 h3=>W.bd (wE_W d h3) fun x4 S4 h4=>W.bd (wE_W i h4) fun y S5 h5=>?_;unfold wOpt at h5;cases e:selD k1 k2 k3 k4 x1 x2 x3 x4 y with|none=>rw[e]at h5;exact h5.elim|some z=>rw[e]at h5;exact h5
 |.srtK a,δ,S,Q,h=>by refine W.bd (wE_W a h) fun r S1 h1=>?_;unfold wOpt at h1;cases e:zer S1 r with|none=>rw[e]at h1;exact h1.elim| some d=>rw[e]at h1;unfold zaF at h1;simp only[lift,zan];rw[if_pos h1.1];exact zhp h1.2
theorem zdr:∀(es:CEs){δ:Ev}{S:St}{Q:List D->St->Prop},wEs cf es δ S Q->W (evEs cf es δ S) Q
 |.nil,δ,S,Q,h=>h|.cons e r,δ,S,Q,h=>W.bd (wE_W e h) fun d S1 h1=>W.bd (zdr r h1) fun ds S2 h2=>h2
theorem wT_W:∀(e:CE){δ:Ev}{S:St}{Q:Bool->St->Prop},wT cf e δ S Q->W (evT cf e δ S) Q
 |.cmp op a b,δ,S,Q,h=>W.bd (wE_W a h) fun x S1 h1=>W.bd (wE_W b h1) fun y S2 h2=>zhq h2| .cmp2 op op' a b c,δ,S,Q,h=>by refine W.bd (wE_W a h) fun x S1 h1=>W.bd (wE_W b h1) fun y S2 h2=>?_;obtain⟨k,e,hk⟩:=zgB h2;rw[e];unfold wIf at hk;cases k with|false=>exact hk| true=>simp only[if_true,lift,zan]at hk⊢;exact W.bd (wE_W c hk) fun z S4 h4=>zhq h4
 |.nt a,δ,S,Q,h=>W.bd (wT_W a h) fun k S1 h1=>h1| .and a b,δ,S,Q,h=>by refine W.bd (wT_W a h) fun k S1 h1=>?_;unfold wIf at h1;cases k with|false=>exact h1|true=>exact wT_W b h1
 |.or a b,δ,S,Q,h=>by refine W.bd (wT_W a h) fun k S1 h1=>?_;unfold wIf at h1;cases k with|true=>exact h1|false=>exact wT_W b h1
 |.tst e,δ,S,Q,h=>W.bd (wE_W e h) fun x S1 h1=>zp8 h1|.loc i,δ,S,Q,h=>h.elim|.con d,δ,S,Q,h=>h.elim|.bin op a b,δ,S,Q,h=>h.elim|.neg a,δ,S,Q,h=>h.elim|.ite c a b,δ,S,Q,h=>h.elim|.tup es,δ,S,Q,h=>h.elim|.lst es,δ,S,Q,h=>h.elim|.dnew,δ,S,Q,h=>h.elim|.dnewT,δ,S,Q,h=>h.elim|.dget1 a b,δ,S,Q,h=>h.elim|.dget2 a b c,δ,S,Q,h=>h.elim|.dgetI a b c,δ,S,Q,h=>h.elim|.dsetd a b c,δ,S,Q,h=>h.elim|.dsetI a b c,δ,S,Q,h=>h.elim|.extv a b,δ,S,Q,h=>h.elim|.fld a f,δ,S,Q,h=>h.elim|.mk c f x j es,δ,S,Q,h=>h.elim|.meth m tb o es,δ,S,Q,h=>h.elim|.callC f x m es,δ,S,Q,h=>h.elim|.fldX a f,δ,S,Q,h=>h.elim|.iscX cs x a,δ,S,Q,h=>h.elim|.iscT rs a,δ,S,Q,h=>h.elim|.ix a b,δ,S,Q,h=>h.elim|.call f j es,δ,S,Q,h=>h.elim|.callW f j es,δ,S,Q,h=>h.elim|.bi b es,δ,S,Q,h=>h.elim|.mt m o es,δ,S,Q,h=>h.elim|.mkL l,δ,S,Q,h=>h.elim|.any,δ,S,Q,h=>h.elim|.mkT l,δ,S,Q,h=>h.elim|.srtK a,δ,S,Q,h=>h.elim|.sel4 k1 k2 k3 k4 a b c d i,δ,S,Q,h=>h.elim
theorem wL_W:∀(l:CL){δ:Ev}{S:St}{Q:List D×List Nat->St->Prop},wL cf l δ S Q->W (evL cf l δ S) Q
 |.val e,δ,S,Q,h=>by refine W.bd (wE_W e h) fun x S1 h1=>?_;obtain⟨ds,e,h2⟩:=zi5 h1;rw[e];exact h2| .rng1 a,δ,S,Q,h=>by refine W.bd (wE_W a h) fun x S1 h1=>?_;cases x with| int j=>unfold zaF at h1;simp only;rw[if_pos h1.1];exact h1.2|_=>exact h1.elim
 |.rng2 a b,δ,S,Q,h=>by
  refine W.bd (wE_W a h) fun x S1 h1=>W.bd (wE_W b h1) fun y S2 h2=>?_;cases x with
  |int i=>cases y with| int j=>unfold zaF at h2;simp only;rw[if_pos h2.1];exact h2.2|_=>exact h2.elim
  |_=>exact h2.elim
 |.enum a,δ,S,Q,h=>by refine W.bd (wE_W a h) fun x S1 h1=>?_;unfold wOpt at h1;cases e:zdV S1 x with|none=>rw[e]at h1;exact h1.elim|some r=>rw[e]at h1;exact h1
 |.comp n js g it c e,δ,S,Q,h=>by refine W.bd (wL_W it h) fun r S1 h1=>W.bd (zi6 h1) fun ds S3 h3=>?_;unfold zaF at h3;rw[if_pos h3.1];exact h3.2
end
theorem wS_W:∀(s:CS){δ:Ev}{S:St}{Q:Fl->St->Prop},wS cf s δ S Q->W (exS cf s δ S) Q
 |.nil,δ,S,Q,h=>h|.stop,δ,S,Q,h=>h.elim|.asg i e r,δ,S,Q,h=>W.bd (wE_W e h) fun x o j=>wS_W r j| .setF a f e r,δ,S,Q,h=>by refine W.bd (wE_W e h) fun v o j=>W.bd (wE_W a j) fun x n p=>?_;unfold wOpt at p;cases e:za1 n x f v with|none=>rw[e]at p;exact p.elim|some w=>rw[e]at p;exact wS_W r p
 |.ifS c t u r,δ,S,Q,h=>by
  refine W.bd (wT_W c h) fun k o j=>?_;have nx:∀(f:Fl)(n:St),(match f with|.nx m=>wS cf r m n Q|.rt d=>Q (.rt d) n|.ex d=>Q (.ex d) n)->W (match f with|.nx m=>exS cf r m n|.rt d=>.ok (.rt d) n|.ex d=>.ok (.ex d) n) Q:=fun f n q=>by cases f with|nx m=>exact wS_W r q|rt d=>exact q|ex d=>exact q
  cases k with|true=>exact W.bd (wS_W t j) nx|false=>exact W.bd (wS_W u j) nx
 |.forS g l b r,δ,S,Q,h=>by refine W.bd (wL_W l h) fun q o j=>W.bd (zi6 j) fun f n q=>?_;cases f with|nx m=>exact wS_W r q|rt d=>exact q|ex d=>exact q
 |.ret e r,δ,S,Q,h=>W.bd (wE_W e h) fun x o j=>j|.expr e r,δ,S,Q,h=>W.bd (wE_W e h) fun x o j=>wS_W r j|.rais c x f a,δ,S,Q,h=>W.bd (wE_W a h) fun d o j=>j| .tryS b x y z r,δ,S,Q,h=>by have h:wOut _ _:=h;unfold wOut at h;exact h| .blk b r,δ,S,Q,h=>by have h:wOut _ _:=h;unfold wOut at h;exact h| .retX x r,δ,S,Q,h=>by have h:wOut _ _:=h;unfold wOut at h;exact h
@[irreducible]def wFin(S:St)(r:Fl)(T:St)(Q:D->St->Prop):Prop:=W (fin S r T) Q
theorem zhh(h:P[f]?=some F)(a:ds.length=F.np)(w:wS (callF P n) F.body (zaq F ds) S.enter fun r T=>wFin S r T Q)(b:F.prim=none:=by rfl):
  W (app (callF P (n+1)) f ds S) Q:=by
 rw[znL h a b,zaf,W_ne];refine(wS_W _ w).mono fun r T q=>?_;unfold wFin at q;exact q
theorem zaT(h:P[f]?=some F)(b:ds.length=F.np)(w:wS (callF P n) F.body (zaq F ds) S.enter fun r T=>wFin S r T fun a c=>a=d/\c=e)(g:F.prim=none:=by rfl):
 app (callF P (n+1)) f ds S=.ok d e:=W.eq (zhh h b w g)
theorem zac(h:flat S.len d=true)(q:Q d S):wFin S (.rt d) T Q:=by unfold wFin;rw[zh5,zcZ S d T h];exact q
theorem zfq(c:S.len<=l)(a:T.get l=some (.lst ds))(h:flats S.len ds=true)(q:Q (.ref S.len) (S.push (.lst ds))):wFin S (.rt (.ref l)) T Q:=by
 have b:flat S.len (.ref l)=false:=by simp[flat];omega
 unfold wFin;rw[zh5];unfold zbb;simp only[b,a,h];exact q
theorem zb3(b:a[i]?=some (.lst ds))(h:flats S.len ds=true)(q:Q (.ref S.len) (S.push (.lst ds))):
  wFin S (.rt (.ref ((S.frz++S.new).length+i))) (St.mk (S.frz++S.new) a lk) Q:=
 zfq (by rw[ze6];lia) ((zfc _ a lk i).trans b) h q
theorem zi9(c:S.len<=l)(a:T.get l=some (.lst ds))(h:flats S.len ds=false)(q:Q (.ref l) ⟨S.frz,S.new++T.new,S.lk⟩):wFin S (.rt (.ref l)) T Q:=by
 have b:flat S.len (.ref l)=false:=by simp[flat];omega
 unfold wFin;rw[zh5];unfold zbb;simp only[b,a,h];exact q
end
structure Frm(S S':St):Prop where
 frz:S'.frz=S.frz
 lk:S'.lk=S.lk
 len:S.new.length<=S'.new.length
 same:∀l∈S.lk,l<S.len->S'.get l=S.get l
theorem Frm.refl(S):Frm S S:=⟨rfl,rfl,le_refl _,fun _ _ _=>rfl⟩
theorem Frm.lens(h:Frm S a):S.len<=a.len:=by unfold St.len;rw[h.frz];have:=h.len;lia
theorem Frm.trans(a:Frm S d)(b:Frm d e):Frm S e:=⟨b.frz.trans a.frz,b.lk.trans a.lk,le_trans a.len b.len,fun l c h=>(b.same l (by rw[a.lk];exact c) (lt_of_lt_of_le h a.lens)).trans (a.same l c h)⟩
theorem Frm.push(S)(o):Frm S (S.push o):=by refine⟨rfl,rfl,by simp[St.push],fun l _ h=>?_⟩;unfold St.len at h;unfold St.get St.push;simp only;split;rfl;rw[getElem?_append_left (by omega)]
theorem Frm.put(h:S.put l o=some a):Frm S a:=by
 unfold St.put at h;split at h;cases h;split at h;cases h;rename_i f b;injection h with h;subst h;refine⟨rfl,rfl,by simp,fun m c g=>?_⟩;have d:m≠l:=fun e=>by subst e;exact b (by simpa using c)
 unfold St.get;split;rfl;rw[getElem?_set_ne (by lia)]
abbrev WF{b:Type}(S:St)(o:Out b)(Q:b->St->Prop):Prop:=W o fun a c=>Q a c/\Frm S c
theorem WF.bind(h:WF S o fun a c=>W (f a c) Q)(d:∀a c,W (f a c) Q->WF c (f a c) Q):WF S (o.bind f) Q:=by rw[WF,zaf];exact h.mono fun a c k=>(by obtain⟨q,e⟩:=k;exact (d a c q).mono fun b j z=>(by obtain⟨g,i⟩:=z;exact ⟨g,e.trans i⟩))
theorem WF.bd(F:∀R,W o R->WF S o R)(h:W (o.bind f) Q)(c:∀a b,W (f a b) Q->WF b (f a b) Q):WF S (o.bind f) Q:=(F _ h.b).bind c
theorem zmr(h:W (lay S ds) Q):WF S (lay S ds) Q:=by unfold lay at h⊢;split;rename_i c;rw[if_pos c]at h;exact⟨h,Frm.push _ _⟩;rename_i c;rw[if_neg c]at h;exact h.elim
theorem wr_F(h:W (wr S l ds d) Q):WF S (wr S l ds d) Q:=by
 unfold wr at h⊢;split;rename_i c;rw[if_pos c]at h;cases e:S.put l (.lst ds) with|none=>rw[e]at h;exact h.elim|some a=>rw[e]at h;exact⟨h,Frm.put e⟩
 rename_i c;rw[if_neg c]at h;exact h.elim
theorem zaL(h:W (lift S o) Q):WF S (lift S o) Q:=by cases o with|none=>exact h.elim|some a=>exact⟨h,Frm.refl S⟩
theorem zsp(h:W (binD S op x y) Q):WF S (binD S op x y) Q:=by
 unfold binD at h⊢;split
 . unfold binI at h⊢;cases op<;>dsimp only at h⊢<;> first
    |exact⟨h,Frm.refl S⟩
    |exact h.elim
    | (split at h
       rename_i c;rw[if_pos c];exact⟨h,Frm.refl S⟩;exact h.elim)
 . dsimp only at h;cases op<;>dsimp only at h⊢<;> first
    |exact False.elim h
    | (split at h
       rename_i c;rw[if_pos c];exact⟨h,Frm.refl S⟩;exact False.elim h)
 dsimp only at h;split at h;exact zmr h;exact False.elim h;rename_i a b d;split at h;exact(a _ _ rfl rfl).elim;exact(b _ _ rfl rfl).elim;exact(d _ _ rfl rfl).elim;exact False.elim h
theorem bi_F(h:W (bi S b ds) Q):WF S (bi S b ds) Q:=by
 unfold bi at h⊢;split;rename_i x;cases x with
 |tup ds=>exact⟨h,Frm.refl S⟩|fix ds=>exact⟨h,Frm.refl S⟩| ref l=>dsimp only at h⊢;cases e:S.get l with|none=>rw[e]at h;exact False.elim h|some o=>rw[e]at h;cases o<;>first|exact⟨h,Frm.refl S⟩|exact False.elim h
 |_=>exact False.elim h
 exact⟨h,Frm.refl S⟩;dsimp only at h;split at h;exact⟨h,Frm.refl S⟩;exact False.elim h;exact False.elim (by simpa using h)
theorem mt_F(h:W (mt S m x ds) Q):WF S (mt S m x ds) Q:=by unfold mt at h⊢;split;dsimp only at h;split at h;exact wr_F h;exact False.elim h;dsimp only at h;split at h;split at h;exact⟨h,Frm.refl _⟩;exact False.elim h;exact False.elim h;exact False.elim (by simpa using h)
theorem Frm.keep(S T:St):Frm S ⟨S.frz,S.new++T.new,S.lk⟩:=by refine⟨rfl,rfl,by simp,fun l _ h=>?_⟩;unfold St.len at h;unfold St.get;simp only;split;rfl;rw[getElem?_append_left (by omega)]
theorem zlk{o}{f:b->St->Out c}{Q}(h:W (lift S o) fun a T=>W (f a T) Q):∃a,o=some a/\W (f a S) Q:=by cases o with|none=>exact h.elim|some a=>exact⟨a,rfl,h⟩
theorem zhu(h:za1 S x f v=some a):Frm S a:=by unfold za1 at h;split at h;split at h;split at h;exact Frm.put h;cases h;cases h;cases h
theorem znI(h:dPut S x y v=some b):Frm S b:=by
 unfold dPut at h;split at h;split at h;cases e:ze8 y with
 |none=>rw[e]at h;cases h
 |some k=>rw[e]at h;split at h;exact Frm.put h;cases h
 cases e:zc0 y with
 |none=>rw[e]at h;cases h
 |some k=>rw[e]at h;split at h;exact Frm.put h;cases h
 cases e:zc0 y with
 |none=>rw[e]at h;cases h
 |some k=>
  rw[e,bind_some]at h;rename_i c _;cases a:ixN c.length k with
  |none=>rw[a]at h;cases h
  |some j=>rw[a]at h;exact Frm.put h
 cases h;cases h
theorem zpM(h:zfh S x y v=some o):Frm S o.2:=by
 unfold zfh at h;split at h;cases h;exact Frm.refl _;cases e:dPut S x y v with
 |none=>rw[e]at h;cases h
 |some T=>rw[e]at h;cases h;exact znI e
 cases h
theorem zpL(h:zej S x y v=some o):Frm S o.2:=by
 unfold zej at h;split at h;cases h;exact Frm.refl _;cases e:dPut S x y v with
 |none=>rw[e]at h;cases h
 |some T=>rw[e]at h;cases h;exact znI e
 cases h
theorem zkh(h:W (zbb S d T) Q):WF S (zbb S d T) Q:=by unfold zbb at h⊢;split;rename_i c;rw[if_pos c]at h;exact⟨h,Frm.refl S⟩;rename_i c;rw[if_neg c]at h;split at h;split at h;split at h;rename_i c;rw[if_pos c];exact⟨h,Frm.push _ _⟩;rename_i c;rw[if_neg c];exact⟨h,Frm.keep _ _⟩;split at h;rename_i c;rw[if_pos c];exact⟨h,Frm.push _ _⟩;rename_i c;rw[if_neg c];exact⟨h,Frm.keep _ _⟩;exact⟨h,Frm.keep _ _⟩;exact⟨h,Frm.keep _ _⟩
theorem ztC(h:W (app cf f ds S) Q):WF S (app cf f ds S) Q:=by unfold app at h⊢;cases e:cf f ds S.enter with|ok d T=>rw[e]at h;exact zkh h|err d T=>rw[e]at h;exact h.elim|bad=>rw[e]at h;exact h.elim
theorem Frm.unlock(h:Frm {S with lk:=c++S.lk} T):Frm S {T with lk:=S.lk}:=⟨h.frz,rfl,h.len,fun l a b=>h.same l (mem_append_right _ a) b⟩
theorem zhS(h:W (za8 b S f) Q)(d:∀c,W (f {S with lk:=b++S.lk}) c->WF {S with lk:=b++S.lk} (f {S with lk:=b++S.lk}) c):WF S (za8 b S f) Q:=by unfold za8 at h⊢;rw[zaf]at h;rw[WF,zaf];exact(d _ h).mono fun a T z=>(by obtain⟨q,e⟩:=z;exact ⟨q,e.unlock⟩)
theorem zeI(i:∀δ S Q,W (c δ S) Q->WF S (c δ S) Q)(j:∀δ S Q,W (e δ S) Q->WF S (e δ S) Q):
  ∀(xs:List D)(δ:Ev)(S:St)(Q:List D->St->Prop),W (za5 g c e xs δ S) Q->WF S (za5 g c e xs δ S) Q
 | [],δ,S,Q,h=>⟨h,Frm.refl S⟩| x::xs,δ,S,Q,h=>by simp only[za5]at h⊢;cases k:asgG g x δ with|none=>rw[k]at h;exact h.elim| some a=>rw[k]at h;rw[zaf]at h;refine WF.bind (i _ _ _ h) fun b m f=>?_;cases b with| false=>exact zeI i j xs a m Q f| true=>simp only[if_true]at f⊢;rw[zaf]at f;refine WF.bind (j _ _ _ f) fun d n l=>?_;rw[zaf]at l;exact WF.bind (zeI i j xs a n _ l) fun p q o=>⟨o,Frm.refl _⟩
theorem zhs(e:∀δ S Q,W (b δ S) Q->WF S (b δ S) Q):
  ∀(xs:List D)(δ:Ev)(S:St)(Q:Fl->St->Prop),W (zaP g b xs δ S) Q->WF S (zaP g b xs δ S) Q
 | [],δ,S,Q,h=>⟨h,Frm.refl S⟩| x::xs,δ,S,Q,h=>by simp only[zaP]at h⊢;cases i:asgG g x δ with|none=>rw[i]at h;exact h.elim| some j=>rw[i]at h;rw[zaf]at h;refine WF.bind (e _ _ _ h) fun f k a=>?_;cases f with|nx c=>exact zhs e xs c k Q a|rt d=>exact⟨a,Frm.refl _⟩|ex d=>exact⟨a,Frm.refl _⟩
def CFok(cf:CF):Prop:=∀f a S d T,(cf f a S=.ok d T\/cf f a S=.err d T)->Frm S T
theorem appW_F(a:CFok cf)(h:W (appW cf f ds S) Q):WF S (appW cf f ds S) Q:=by unfold appW at h⊢;cases e:cf f ds S with|ok d T=>rw[e]at h;exact⟨h,a f ds S d T (.inl e)⟩|err d T=>rw[e]at h;exact h.elim|bad=>rw[e]at h;exact h.elim
section
variable{cf:CF}(hcf:CFok cf)
include hcf
mutual
theorem zap:∀(e:CE)(δ:Ev)(S:St)(Q:D->St->Prop),W (evE cf e δ S) Q->WF S (evE cf e δ S) Q
 |.loc i,δ,S,Q,h=>zaL h|.con d,δ,S,Q,h=>⟨h,Frm.refl S⟩|.tst _,δ,S,Q,h=>h.elim|.any,δ,S,Q,h=>h.elim| .bin op a b,δ,S,Q,h=>by refine WF.bd (zap a δ S) h fun x S1 h1=>?_;exact WF.bd (zap b δ S1) h1 fun y S2 h2=>zsp h2| .neg a,δ,S,Q,h=>by refine WF.bd (zap a δ S) h fun x S1 h1=>?_;cases x<;>first|exact⟨h1,Frm.refl _⟩|exact h1.elim
 |.nt a,δ,S,Q,h=>by refine WF.bd (zap a δ S) h fun x S1 h1=>?_;cases x<;>first|exact⟨h1,Frm.refl _⟩|exact h1.elim
 |.cmp op a b,δ,S,Q,h=>by refine WF.bd (zap a δ S) h fun x S1 h1=>?_;refine WF.bd (zap b δ S1) h1 fun y S2 h2=>?_;exact WF.bd (fun _=>zaL) h2 fun k S3 h3=>⟨h3,Frm.refl _⟩| .cmp2 op op' a b c,δ,S,Q,h=>by refine WF.bd (zap a δ S) h fun x S1 h1=>?_;refine WF.bd (zap b δ S1) h1 fun y S2 h2=>?_;refine WF.bd (fun _=>zaL) h2 fun k S3 h3=>?_;cases k with|false=>exact⟨h3,Frm.refl _⟩| true=>simp only[if_true]at h3⊢;refine WF.bd (zap c δ S3) h3 fun z S4 h4=>?_;exact WF.bd (fun _=>zaL) h4 fun k S3 h3=>⟨h3,Frm.refl _⟩
 |.and a b,δ,S,Q,h=>by
  refine WF.bd (zap a δ S) h fun x S1 h1=>?_;cases x with
  |bl k=>cases k with|false=>exact⟨h1,Frm.refl _⟩|true=>exact zap b δ S1 Q h1
  |_=>exact h1.elim
 |.or a b,δ,S,Q,h=>by
  refine WF.bd (zap a δ S) h fun x S1 h1=>?_;cases x with
  |bl k=>cases k with|true=>exact⟨h1,Frm.refl _⟩|false=>exact zap b δ S1 Q h1
  |_=>exact h1.elim
 |.ite c a b,δ,S,Q,h=>by refine WF.bd (zdU c δ S) h fun k S1 h1=>?_;cases k with|true=>exact zap a δ S1 Q h1|false=>exact zap b δ S1 Q h1
 |.tup es,δ,S,Q,h=>by refine WF.bd (za9 es δ S) h fun ds S1 h1=>?_;split at h1;rename_i c;rw[if_pos c];exact⟨h1,Frm.refl _⟩;exact h1.elim|.lst es,δ,S,Q,h=>WF.bd (za9 es δ S) h fun ds S1 h1=>zmr h1|.dnew,δ,S,Q,h=>⟨h,Frm.push _ _⟩|.dnewT,δ,S,Q,h=>⟨h,Frm.push _ _⟩| .dget1 a b,δ,S,Q,h=>by refine WF.bd (zap a δ S) h fun x S1 h1=>?_;split at h1;rename_i c;rw[if_pos c];refine WF.bd (zap b δ S1) h1 fun y S2 h2=>?_;exact WF.bd (fun _=>zaL) h2 fun k S3 h3=>⟨h3,Frm.refl _⟩;exact h1.elim| .dget2 a b c,δ,S,Q,h=>by refine WF.bd (zap a δ S) h fun x S1 h1=>?_;split at h1;rename_i c;rw[if_pos c];refine WF.bd (zap b δ S1) h1 fun y S2 h2=>?_;refine WF.bd (zap _ δ S2) h2 fun z S3 h3=>?_;exact WF.bd (fun _=>zaL) h3 fun k S3 h3=>⟨h3,Frm.refl _⟩;exact h1.elim| .dgetI a b c,δ,S,Q,h=>by refine WF.bd (zap a δ S) h fun x S1 h1=>?_;split at h1;rename_i c;rw[if_pos c];refine WF.bd (zap b δ S1) h1 fun y S2 h2=>?_;refine WF.bd (zap _ δ S2) h2 fun z S3 h3=>?_;exact WF.bd (fun _=>zaL) h3 fun k S3 h3=>⟨h3,Frm.refl _⟩;exact h1.elim| .dsetd a b c,δ,S,Q,h=>by refine WF.bd (zap a δ S) h fun x S1 h1=>?_;split at h1;rename_i c;rw[if_pos c];refine WF.bd (zap b δ S1) h1 fun y S2 h2=>?_;refine WF.bd (zap _ δ S2) h2 fun z S3 h3=>?_;rw[zaf]at h3;obtain⟨o,e,h4⟩:=zlk h3;rw[e];exact⟨h4,zpM e⟩;exact h1.elim| .dsetI a b c,δ,S,Q,h=>by refine WF.bd (zap a δ S) h fun x S1 h1=>?_;split at h1;rename_i c;rw[if_pos c];refine WF.bd (zap b δ S1) h1 fun y S2 h2=>?_;refine WF.bd (zap _ δ S2) h2 fun z S3 h3=>?_;rw[zaf]at h3;obtain⟨o,e,h4⟩:=zlk h3;rw[e];exact⟨h4,zpL e⟩;exact h1.elim| .extv a b,δ,S,Q,h=>by refine WF.bd (zap a δ S) h fun x S1 h1=>?_;split at h1;rename_i c;rw[if_pos c];refine WF.bd (zap b δ S1) h1 fun y S2 h2=>?_;exact WF.bd (fun _=>zaL) h2 fun o S3 h3=>wr_F h3;exact h1.elim|.fld a f,δ,S,Q,h=>WF.bd (zap a δ S) h fun x S1 h1=>zaL h1| .mk c f _ j es,δ,S,Q,h=>by refine WF.bd (za9 es δ S) h fun ds S1 h1=>?_;rw[zaf]at h1;have h2:=(appW_F hcf h1:WF (S1.push (.ins c [])) _ _);refine WF.bind (h2.mono fun d T q=>⟨q.1,(Frm.push S1 _).trans q.2⟩) fun d S2 h3=>?_;split at h3;rename_i c;rw[if_pos c];exact⟨h3,Frm.refl _⟩;exact h3.elim| .meth m tb o es,δ,S,Q,h=>by refine WF.bd (zap o δ S) h fun x S1 h1=>?_;refine WF.bd (fun _=>zaL) h1 fun p S2 h2=>?_;refine WF.bd (fun _=>zaL) h2 fun f S3 h3=>?_;split at h3;rename_i c;rw[if_pos c];exact WF.bd (za9 es δ S3) h3 fun ds S4 h4=>appW_F hcf h4;exact h3.elim|.callC f _ _ es,δ,S,Q,h=>WF.bd (za9 es δ S) h fun ds S1 h1=>appW_F hcf h1|.fldX a f,δ,S,Q,h=>WF.bd (zap a δ S) h fun x S1 h1=>zaL h1| .iscX cs _ a,δ,S,Q,h=>by refine WF.bd (zap a δ S) h fun x S1 h1=>?_;exact WF.bd (fun _=>zaL) h1 fun p S2 h2=>⟨h2,Frm.refl _⟩| .iscT rs a,δ,S,Q,h=>by refine WF.bd (zap a δ S) h fun x S1 h1=>?_;exact WF.bd (fun _=>zaL) h1 fun p S2 h2=>⟨h2,Frm.refl _⟩| .ix a b,δ,S,Q,h=>by refine WF.bd (zap a δ S) h fun x S1 h1=>?_;refine WF.bd (zap b δ S1) h1 fun y S2 h2=>?_;split at h2;exact zaL h2;exact h2.elim|.call f j es,δ,S,Q,h=>WF.bd (za9 es δ S) h fun ds S1 h1=>ztC h1|.callW f j es,δ,S,Q,h=>WF.bd (za9 es δ S) h fun ds S1 h1=>appW_F hcf h1|.bi b es,δ,S,Q,h=>WF.bd (za9 es δ S) h fun ds S1 h1=>bi_F h1| .mt m o es,δ,S,Q,h=>by refine WF.bd (zap o δ S) h fun x S1 h1=>?_;split at h1;rename_i c;rw[if_pos c];exact WF.bd (za9 es δ S1) h1 fun ds S2 h2=>mt_F h2;exact h1.elim|.mkL l,δ,S,Q,h=>WF.bd (zmR l δ S) h fun r S1 h1=>zmr h1| .mkT l,δ,S,Q,h=>by refine WF.bd (zmR l δ S) h fun r S1 h1=>?_;split at h1;rename_i c;rw[if_pos c];exact⟨h1,Frm.refl _⟩;exact h1.elim| .sel4 k1 k2 k3 k4 a b c d i,δ,S,Q,h=>by refine WF.bd (zap a δ S) h fun x1 S1 h1=>?_;refine WF.bd (zap b δ S1) h1 fun x2 S2 h2=>?_;refine WF.bd (zap c δ S2) h2 fun x3 S3 h3=>?_;refine WF.bd (zap d δ S3) h3 fun x4 S4 h4=>?_;exact WF.bd (zap i δ S4) h4 fun y S5 h5=>zaL h5| .srtK a,δ,S,Q,h=>by refine WF.bd (zap a δ S) h fun r S1 h1=>?_;refine WF.bd (fun _=>zaL) h1 fun k S3 h3=>?_;split at h3;rename_i c;rw[if_pos c];exact zmr h3;exact h3.elim
theorem za9:∀(es:CEs)(δ:Ev)(S:St)(Q:List D->St->Prop),W (evEs cf es δ S) Q->WF S (evEs cf es δ S) Q
 |.nil,δ,S,Q,h=>⟨h,Frm.refl S⟩| .cons e r,δ,S,Q,h=>by refine WF.bd (zap e δ S) h fun x S1 h1=>?_;exact WF.bd (za9 r δ S1) h1 fun k S3 h3=>⟨h3,Frm.refl _⟩
theorem zdU:∀(e:CE)(δ:Ev)(S:St)(Q:Bool->St->Prop),W (evT cf e δ S) Q->WF S (evT cf e δ S) Q
 |.cmp op a b,δ,S,Q,h=>by refine WF.bd (zap a δ S) h fun x S1 h1=>?_;exact WF.bd (zap b δ S1) h1 fun y S2 h2=>zaL h2| .cmp2 op op' a b c,δ,S,Q,h=>by refine WF.bd (zap a δ S) h fun x S1 h1=>?_;refine WF.bd (zap b δ S1) h1 fun y S2 h2=>?_;refine WF.bd (fun _=>zaL) h2 fun k S3 h3=>?_;cases k with|false=>exact⟨h3,Frm.refl _⟩| true=>simp only[if_true]at h3⊢;exact WF.bd (zap c δ S3) h3 fun z S4 h4=>zaL h4
 |.nt a,δ,S,Q,h=>WF.bd (zdU a δ S) h fun k S3 h3=>⟨h3,Frm.refl _⟩| .and a b,δ,S,Q,h=>by refine WF.bd (zdU a δ S) h fun k S1 h1=>?_;cases k with|false=>exact⟨h1,Frm.refl _⟩|true=>exact zdU b δ S1 Q h1
 |.or a b,δ,S,Q,h=>by refine WF.bd (zdU a δ S) h fun k S1 h1=>?_;cases k with|true=>exact⟨h1,Frm.refl _⟩|false=>exact zdU b δ S1 Q h1
 |.tst e,δ,S,Q,h=>WF.bd (zap e δ S) h fun k S3 h3=>zaL h3|.loc i,δ,S,Q,h=>h.elim|.con d,δ,S,Q,h=>h.elim|.bin op a b,δ,S,Q,h=>h.elim|.neg a,δ,S,Q,h=>h.elim|.ite c a b,δ,S,Q,h=>h.elim|.tup es,δ,S,Q,h=>h.elim|.lst es,δ,S,Q,h=>h.elim|.dnew,δ,S,Q,h=>h.elim|.dnewT,δ,S,Q,h=>h.elim|.dget1 a b,δ,S,Q,h=>h.elim|.dget2 a b c,δ,S,Q,h=>h.elim|.dgetI a b c,δ,S,Q,h=>h.elim|.dsetd a b c,δ,S,Q,h=>h.elim|.dsetI a b c,δ,S,Q,h=>h.elim|.extv a b,δ,S,Q,h=>h.elim|.fld a f,δ,S,Q,h=>h.elim|.mk c f x j es,δ,S,Q,h=>h.elim|.meth m tb o es,δ,S,Q,h=>h.elim|.callC f x m es,δ,S,Q,h=>h.elim|.fldX a f,δ,S,Q,h=>h.elim|.iscX cs x a,δ,S,Q,h=>h.elim|.iscT rs a,δ,S,Q,h=>h.elim|.ix a b,δ,S,Q,h=>h.elim|.call f j es,δ,S,Q,h=>h.elim|.callW f j es,δ,S,Q,h=>h.elim|.bi b es,δ,S,Q,h=>h.elim|.mt m o es,δ,S,Q,h=>h.elim|.mkL l,δ,S,Q,h=>h.elim|.any,δ,S,Q,h=>h.elim|.mkT l,δ,S,Q,h=>h.elim|.srtK a,δ,S,Q,h=>h.elim|.sel4 k1 k2 k3 k4 a b c d i,δ,S,Q,h=>h.elim
theorem zmR:∀(l:CL)(δ:Ev)(S:St)(Q:List D×List Nat->St->Prop),W (evL cf l δ S) Q->WF S (evL cf l δ S) Q
 |.val e,δ,S,Q,h=>by refine WF.bd (zap e δ S) h fun x S1 h1=>?_;exact WF.bd (fun _=>zaL) h1 fun k S3 h3=>⟨h3,Frm.refl _⟩| .rng1 a,δ,S,Q,h=>by refine WF.bd (zap a δ S) h fun x S1 h1=>?_;cases x with| int j=>dsimp only at h1⊢;split at h1;rename_i c;rw[if_pos c];exact⟨h1,Frm.refl _⟩;exact h1.elim|_=>exact h1.elim
 |.rng2 a b,δ,S,Q,h=>by refine WF.bd (zap a δ S) h fun x S1 h1=>?_;refine WF.bd (zap b δ S1) h1 fun y S2 h2=>?_;split at h2;split at h2;rename_i c;rw[if_pos c];exact⟨h2,Frm.refl _⟩;exact h2.elim;exact h2.elim|.enum a,δ,S,Q,h=>WF.bd (zap a δ S) h fun x S1 h1=>zaL h1| .comp n js g it c e,δ,S,Q,h=>by refine WF.bd (zmR it δ S) h fun r S1 h1=>?_;rw[zaf]at h1;exact WF.bind (zhS h1 fun Q' h2=>zeI (fun δ S Q=>zdU c δ S Q) (fun δ S Q=>zap e δ S Q) _ _ _ _ h2) fun k S3 h3=>by split at h3;rename_i c;rw[if_pos c];exact⟨h3,Frm.refl _⟩;exact h3.elim
end
theorem zd7{f:Nat}{ds:List D}{S:St}:(∀d T,appX cf f ds S=.ok d T->Frm S T)/\∀d T,appX cf f ds S=.err d T->Frm S T:=by
 unfold appX;cases e:cf f ds S.enter with
 |ok d T=>
  refine⟨fun b c h=>?_,fun b c h=>?_⟩;have w:W (zbb S d T) fun a g=>a=b/\g=c:=by rw[show zbb S d T=_ from h];exact⟨rfl,rfl⟩
  have:=zkh w;rw[show zbb S d T=_ from h]at this;exact this.2;exfalso;have h:zbb S d T=.err b c:=h;unfold zbb at h;split at h;cases h;split at h
  . split at h
    all_goals first|(split at h<;>cases h)|cases h
  cases h
 |err d T=>exact⟨(fun b c h=>by cases h),fun b c h=>by cases h;exact Frm.keep _ _⟩|bad=>exact⟨(fun b c h=>by cases h),(fun b c h=>by cases h)⟩
noncomputable def FrX{b:Type}(S:St)(o:Out b):Prop:=(∀a T,o=.ok a T->Frm S T)/\∀d T,o=.err d T->Frm S T
omit hcf in
theorem FrX.bind(h:FrX S o)(q:∀a T,FrX T (f a T)):FrX S (o.bind f):=by cases o with|ok a T=>exact⟨fun b c e=>(h.1 a T rfl).trans ((q a T).1 b c e),fun d c e=>(h.1 a T rfl).trans ((q a T).2 d c e)⟩|err d T=>exact⟨(fun _ _ e=>by cases e),fun g c e=>by cases e;exact h.2 d T rfl⟩|bad=>exact⟨(fun _ _ e=>by cases e),(fun _ _ e=>by cases e)⟩
omit hcf in
theorem FrX.bad:FrX S (Out.bad:Out a):=⟨(fun _ _ e=>by cases e),(fun _ _ e=>by cases e)⟩
omit hcf in
theorem FrX.ne(h:∀Q,W o Q->WF S o Q):FrX S o.ne:=by cases o with|ok a T=>exact⟨fun b c e=>by cases e;exact(h (fun _ _=>True) trivial).2,(fun _ _ e=>by cases e)⟩|err d T=>exact FrX.bad|bad=>exact FrX.bad
omit hcf in
theorem FrX.lift{α:Type}{S:St}{o:Option α}:FrX S (lift S o):=by cases o with|none=>exact FrX.bad|some a=>exact⟨fun b T' e=>by cases e;exact Frm.refl _,(fun _ _ e=>nomatch e)⟩
omit hcf in
theorem znx(h:∀f,FrX S (k f)):FrX S (mthX m a x S k):=by unfold mthX;split;split;split;exact h _;exact FrX.bad;exact FrX.bad;exact FrX.bad
theorem zlj{f:Nat}{ds:List D}{S:St}:FrX S (appW cf f ds S):=by unfold appW;exact⟨fun d T e=>hcf _ _ _ _ _ (.inl e),fun d T e=>hcf _ _ _ _ _ (.inr e)⟩
omit hcf in
theorem ztq:FrX S (ixX x y S):=by unfold ixX;split;exact FrX.lift;exact FrX.bad
theorem ziQ:∀(x:XE)(δ:Ev)(S:St),FrX S (exX cf x δ S)
 |.val e,δ,S=>FrX.ne (zap hcf e δ S)|.call f i,δ,S=>by exact(FrX.ne (za9 hcf i δ S)).bind fun ds g=>zd7 hcf| .meth m j o i,δ,S=>by exact(FrX.ne (zap hcf o δ S)).bind fun x g=>znx fun f=>(FrX.ne (za9 hcf i δ g)).bind fun ds l=>zlj hcf| .ix a b,δ,S=>by exact(FrX.ne (zap hcf a δ S)).bind fun x g=>(ziQ b δ g).bind fun y l=>ztq| .on o m j,δ,S=>by refine(ziQ o δ S).bind fun x g=>znx fun f=>?_;have h:=zlj hcf (f:=f) (ds:=[x]) (S:=g);cases e:appW cf f [x] g with|ok d T=>exact⟨fun b n z=>by cases z;exact h.1 _ _ e,(fun _ _ z=>by cases z)⟩|err d T=>exact FrX.bad|bad=>exact FrX.bad
 |.ite c a b,δ,S=>by refine(FrX.ne (zdU hcf c δ S)).bind fun k g=>?_;split;exact ziQ a δ g;exact ziQ b δ g
theorem zgi:∀(b:TrB)(δ:Ev)(S:St),(∀l T,exT cf b δ S=.ok l T->Frm S T)/\∀d T,exT cf b δ S=.err d T->Frm S T
 |.runX x,δ,S=>by exact(ziQ hcf x δ S).bind fun _ n=>⟨fun _ _ e=>by cases e;exact Frm.refl _,(fun _ _ e=>by cases e)⟩| .run f o,δ,S=>by
  simp only[exT];cases e:evEs cf o δ S with
  |ok r n=>have m:=(za9 hcf o δ S (fun _ _=>True) (by rw[e];trivial));rw[e]at m;dsimp only;cases p:appX cf f r n with|ok d q=>exact⟨fun l T h=>by cases h;exact m.2.trans ((zd7 hcf).1 _ _ p),(fun d T h=>by cases h)⟩|err d q=>exact⟨(fun l T h=>by cases h),fun d T h=>by cases h;exact m.2.trans ((zd7 hcf).2 _ _ p)⟩|bad=>exact⟨(fun l T h=>by cases h),(fun d T h=>by cases h)⟩
  |err d T=>exact⟨(fun l T h=>by cases h),(fun d T h=>by cases h)⟩|bad=>exact⟨(fun l T h=>by cases h),(fun d T h=>by cases h)⟩
 |.asg i f o,δ,S=>by
  simp only[exT];cases e:evEs cf o δ S with
  |ok r n=>have m:=(za9 hcf o δ S (fun _ _=>True) (by rw[e];trivial));rw[e]at m;dsimp only;cases p:appX cf f r n with|ok d q=>exact⟨fun l T h=>by cases h;exact m.2.trans ((zd7 hcf).1 _ _ p),(fun d T h=>by cases h)⟩|err d q=>exact⟨(fun l T h=>by cases h),fun d T h=>by cases h;exact m.2.trans ((zd7 hcf).2 _ _ p)⟩|bad=>exact⟨(fun l T h=>by cases h),(fun d T h=>by cases h)⟩
  |err d T=>exact⟨(fun l T h=>by cases h),(fun d T h=>by cases h)⟩|bad=>exact⟨(fun l T h=>by cases h),(fun d T h=>by cases h)⟩
 |.ite c a b,δ,S=>by
  simp only[exT];cases e:evT cf c δ S with
  |ok k n=>have m:=(zdU hcf c δ S (fun _ _=>True) (by rw[e];trivial));rw[e]at m;cases k with|true=>exact⟨fun l T h=>m.2.trans ((zgi a δ n).1 _ _ h),fun d T h=>m.2.trans ((zgi a δ n).2 _ _ h)⟩|false=>exact⟨fun l T h=>m.2.trans ((zgi b δ n).1 _ _ h),fun d T h=>m.2.trans ((zgi b δ n).2 _ _ h)⟩
  |err d T=>exact⟨(fun l T h=>by cases h),(fun d T h=>by cases h)⟩|bad=>exact⟨(fun l T h=>by cases h),(fun d T h=>by cases h)⟩
 |.setF a f g o,δ,S=>by
  simp only[exT];cases e:evEs cf o δ S with
  |ok r n=>
   have m:=(za9 hcf o δ S (fun _ _=>True) (by rw[e];trivial));rw[e]at m;dsimp only;cases p:appX cf g r n with
   |ok v q=>
    have s:=(zd7 hcf).1 _ _ p;dsimp only;cases t:evE cf a δ q with
    |ok x w=>have u:=(zap hcf a δ q (fun _ _=>True) (by rw[t];trivial));rw[t]at u;dsimp only;cases y:za1 w x f v with|some z=>exact⟨fun l T h=>by cases h;exact((m.2.trans s).trans u.2).trans (zhu y),(fun d T h=>by cases h)⟩|none=>exact⟨(fun l T h=>by cases h),(fun d T h=>by cases h)⟩
    |err d T=>exact⟨(fun l T h=>by cases h),(fun d T h=>by cases h)⟩|bad=>exact⟨(fun l T h=>by cases h),(fun d T h=>by cases h)⟩
   |err d q=>exact⟨(fun l T h=>by cases h),fun d T h=>by cases h;exact m.2.trans ((zd7 hcf).2 _ _ p)⟩|bad=>exact⟨(fun l T h=>by cases h),(fun d T h=>by cases h)⟩
  |err d T=>exact⟨(fun l T h=>by cases h),(fun d T h=>by cases h)⟩|bad=>exact⟨(fun l T h=>by cases h),(fun d T h=>by cases h)⟩
 |.mk c f x j o,δ,S=>by
  simp only[exT];cases e:evEs cf o δ S with
  |ok r n=>have m:=(za9 hcf o δ S (fun _ _=>True) (by rw[e];trivial));rw[e]at m;dsimp only;unfold appW;have s:Frm S (n.push (.ins c [])):=m.2.trans (Frm.push _ _);cases p:cf f (.ref n.len::(r++List.replicate j .non)) (n.push (.ins c [])) with| ok d q=>dsimp only;split;exact⟨fun l T h=>by cases h;exact s.trans (hcf _ _ _ _ _ (.inl p)),(fun d T h=>by cases h)⟩;exact⟨(fun l T h=>by cases h),(fun d T h=>by cases h)⟩|err d q=>exact⟨(fun l T h=>by cases h),fun d T h=>by cases h;exact s.trans (hcf _ _ _ _ _ (.inr p))⟩|bad=>exact⟨(fun l T h=>by cases h),(fun d T h=>by cases h)⟩
  |err d T=>exact⟨(fun l T h=>by cases h),(fun d T h=>by cases h)⟩|bad=>exact⟨(fun l T h=>by cases h),(fun d T h=>by cases h)⟩
theorem zcI:∀(s:CS)(δ:Ev)(S:St)(Q:Fl->St->Prop),W (exS cf s δ S) Q->WF S (exS cf s δ S) Q
 |.nil,δ,S,Q,h=>⟨h,Frm.refl S⟩|.stop,δ,S,Q,h=>h.elim|.asg i e r,δ,S,Q,h=>WF.bd (zap hcf e δ S) h fun x j m=>zcI r _ j Q m| .setF a f e r,δ,S,Q,h=>by refine WF.bd (zap hcf e δ S) h fun v j m=>?_;refine WF.bd (zap hcf a δ j) m fun x p n=>?_;cases w:za1 p x f v with|none=>rw[w]at n;exact n.elim| some y=>rw[w]at n;exact(zcI r δ y Q n).mono fun a B q=>⟨q.1,(zhu w).trans q.2⟩
 |.ifS c t u r,δ,S,Q,h=>by
  refine WF.bd (zdU hcf c δ S) h fun k j m=>?_;rw[zaf]at m;refine WF.bind ?_ fun f p n=>?_;cases k with|true=>exact zcI t δ j _ m|false=>exact zcI u δ j _ m
  cases f with|nx o=>exact zcI r _ p Q n|rt d=>exact⟨n,Frm.refl _⟩|ex d=>exact⟨n,Frm.refl _⟩
 |.forS g l b r,δ,S,Q,h=>by refine WF.bd (zmR hcf l δ S) h fun q j m=>?_;rw[zaf]at m;refine WF.bind (zhS m fun C n=>zhs (fun δ S Q=>zcI b δ S Q) _ _ _ _ n) fun f y z=>?_;cases f with|nx o=>exact zcI r _ y Q z|rt d=>exact⟨z,Frm.refl _⟩|ex d=>exact⟨z,Frm.refl _⟩
 |.ret e r,δ,S,Q,h=>WF.bd (zap hcf e δ S) h fun x j m=>⟨m,Frm.refl _⟩|.expr e r,δ,S,Q,h=>WF.bd (zap hcf e δ S) h fun x j m=>zcI r _ j Q m|.rais c x f a,δ,S,Q,h=>WF.bd (zap hcf a δ S) h fun d j m=>⟨m,Frm.push _ _⟩| .retX x r,δ,S,Q,h=>by simp only[exS]at h⊢;have A:=ziQ hcf x δ S;cases e:exX cf x δ S with|ok d j=>rw[e]at h;exact⟨h,A.1 _ _ e⟩|err d j=>rw[e]at h;exact⟨h,A.2 _ _ e⟩|bad=>rw[e]at h;exact h.elim
 |.blk b r,δ,S,Q,h=>by simp only[exS]at h⊢;cases e:exT cf b δ S with| ok o j=>rw[e]at h;exact(zcI r _ j Q h).mono fun a T q=>⟨q.1,((zgi hcf b δ S).1 _ _ e).trans q.2⟩| err d j=>rw[e]at h;exact⟨h,(zgi hcf b δ S).2 _ _ e⟩|bad=>rw[e]at h;exact h.elim
 |.tryS b x E G r,δ,S,Q,h=>by simp only[exS]at h⊢;cases e:exT cf b δ S with| ok o j=>rw[e]at h;exact(zcI r _ j Q h).mono fun a T q=>⟨q.1,((zgi hcf b δ S).1 _ _ e).trans q.2⟩| err d j=>rw[e]at h;dsimp only at h⊢;split at h;rename_i c;rw[if_pos c];exact(zcI r _ j Q h).mono fun a T q=>⟨q.1,((zgi hcf b δ S).2 _ _ e).trans q.2⟩;exact False.elim h|bad=>rw[e]at h;exact h.elim
end
end R
namespace R
open PySem
noncomputable def TrcR(h:Heap)(e:Addr)(vs:Array Value)(lo:Nat):Prop:=∃T a b,vs[1]?=some (.ref T)/\T≠e/\h.get? T=some a/\a.data=.fields b/\3<b.size/\lo<=T
noncomputable def Trc(h:Heap)(e:Addr)(vs:Array Value)(lo:Nat):Prop:=vs[1]?=some .none\/TrcR h e vs lo
structure Ntd(fs:List Addr)(e:Addr)(oe:Obj)(vs:Array Value)(lo:Nat)(h h':Heap):Prop where
 keep:∀b o,b≠e->vs[1]?≠some (.ref b)->b∉fs->h.get? b=some o->h'.get? b=some o
 slot:∀b o,b∈fs->h.get? b=some o->∃sl,h'.get? b=some {o with slots:=sl}
 there:∀b o,h.get? b=some o->∃o',h'.get? b=some o'
 sz:h.objs.size<=h'.objs.size
 exc:∃vs',h'.get? e=some {oe with data:=.fields vs'}/\vs'.size=vs.size/\TrcR h' e vs' lo/\∀T,vs'[1]?=some (.ref T)->h.objs.size<=T\/vs[1]?=some (.ref T)
theorem Ntd.trans(n:Ntd l e d vs lo h p)(f:p.get? e=some {d with data:=.fields a})(m:Ntd l e {d with data:=.fields a} a lo p t):Ntd l e d vs lo h t:=by
 obtain⟨g,r,u,B,l1⟩:=n.exc;obtain rfl:g=a:=by rw[f]at r;simpa using r.symm
 obtain⟨i,v,w,x,l2⟩:=m.exc;refine⟨fun b o s hv c q=>m.keep b o s (fun z=>?_) c (n.keep b o s hv c q),fun b o c q=>?_,fun b o q=>?_,le_trans n.sz m.sz,i,v,w.trans u,x,fun T y=>?_⟩;rcases l1 b z with z|z;exact absurd (Heap.lt_size q) (Nat.not_lt.mpr z);exact hv z;obtain⟨C,j⟩:=n.slot b o c q;obtain⟨k,A⟩:=m.slot b _ c j;exact⟨k,A⟩;obtain⟨E,j⟩:=n.there b o q;exact m.there b _ j;rcases l2 T y with z|z;exact .inl (le_trans n.sz z);exact l1 T z
section
variable{M:Model}{A:Around}{E:Value->Shared->Prop}{s:Shared}{base:Heap}{env:Env}{outer:List Env}{L e:Addr}{oe:Obj}{vs:Array Value}{lo:Nat}
theorem znG(k:A.frames=some (env::outer))(y:s.heap.FunFrames base (env::outer))(I:env.frame=some L)(z:s.heap.get? e=some oe)(hd:oe.data=.fields vs)(hz:1<vs.size)(l:lo<=s.heap.objs.size)(h:∀h',s.heap.objs.size<=h'.objs.size->(∀b o,b≠e->b∉(env::outer).filterMap (·.frame)->s.heap.get? b=some o->h'.get? b=some o)->(∀b o,b≠e->s.heap.get? b=some o->∃g,h'.get? b=some {o with slots:=g})->
   (∃c,h'.get? e=some {oe with data:=.fields c}/\c.size=vs.size/\TrcR h' e c lo/\∀T,c[1]?=some (.ref T)->s.heap.objs.size<=T)->Q () {s with heap:=h'}):
  wpAny M A (do let J <-frameOf env;let i <-entryPlaceOf L b;let N <-EntryCells.newEntry d J .none (rawInt L) .none i;setField (.ref e) 1 N) Q E s:=by
 have m:e∉(env::outer).filterMap (·.frame):=fun O=>by obtain⟨_,o,B,n⟩:=y.mem O;rw[z]at B;cases B;exact n vs hd
 refine wpAny_bind (wpAny_frameOf_fun k y I fun a U=>?_);obtain⟨p,same,r⟩:=U;refine wpAny_bind (wpAny_entryPlaceOf fun i t=>?_);refine wpAny_bind (wpAny_newObj_type ?_ (t.sizeOk5 _ _ _ _ _));generalize Y:({cls:=.type "traceback",dict:=none,data:=.fields ([d,.ref L,.none,rawInt L,.none]++(if i.isEmpty then List.replicate 6 Value.none else i)).toArray}:Obj)=j;obtain⟨u,f,h3⟩:∃u,j.data=.fields u/\3<u.size:=by subst Y;exact⟨_,rfl,by simp only[size_toArray,length_append,length_cons];lia⟩
 have C:=(same e m).trans z;have G:=Heap.get?_push_of_some j C;refine wpAny_setField G hd hz ?_;have H:=ne_of_gt (Heap.lt_size C);have d3:=Obj.data_mapFields hd (·.setIfInBounds 1 (Value.ref a.objs.size));have e3:=Heap.get?_update_self (Obj.mapFields (·.setIfInBounds 1 (Value.ref a.objs.size))) G (Obj.isFreed_of_fields d3);have v:=Obj.isFreed_of_fields f;have T3:=(Heap.get?_update_other (a.push j) (Obj.mapFields (·.setIfInBounds 1 (Value.ref a.objs.size))) (Ne.symm H)).trans (Heap.get?_push_size a v);refine h _ ?_ (fun b o w n q=>?_) (fun b o w q=>?_) ?_;rw[Heap.size_after_update,Heap.size_push,p];exact le_succ _;have x:=(same b n).trans q;rw[Heap.get?_update_other _ _ (Ne.symm w)];exact Heap.get?_push_of_some _ x;obtain⟨g,x⟩:=r b o q;refine⟨g,?_⟩;rw[Heap.get?_update_other _ _ (Ne.symm w)];exact Heap.get?_push_of_some _ x
 . refine⟨vs.setIfInBounds 1 (.ref a.objs.size),?_,by simp,⟨a.objs.size,_,_,by simp[hz],H,T3,f,h3,by rw[p];exact l⟩,fun T f=>?_⟩
   rotate_left
   have:(vs.setIfInBounds 1 (.ref a.objs.size))[1]?=some (Value.ref a.objs.size):=by simp[hz]
   rw[this]at f;cases f;exact le_of_eq p.symm;rw[e3];obtain⟨oc,od,dt,g⟩:=oe;subst hd;rfl
theorem zm5{h:Heap}(v)(f:h.get? T=some g)(a:g.data=.fields ts)(i:3<ts.size):
  (∀b,b≠T->(h.update T (Obj.mapFields (·.setIfInBounds 3 v))).get? b=h.get? b)/\∃c d,(h.update T (Obj.mapFields (·.setIfInBounds 3 v))).get? T=some c/\c.data=.fields d/\3<d.size:=
 ⟨fun b j=>Heap.get?_update_other _ _ (Ne.symm j),_,_,Heap.get?_update_self _ f (Obj.isFreed_of_fields (Obj.data_mapFields a _)),Obj.data_mapFields a _,by simpa using i⟩
theorem zhP(v)(l:s.heap.FunFrames base (env::outer))(m:s.heap.get? e=some oe)(hd:oe.data=.fields vs)(c:vs[1]?=some (.ref T))(f:T≠e)(h:s.heap.get? T=some n)(i:n.data=.fields ts)(p:3<ts.size)(r:lo<=T):
  Ntd ((env::outer).filterMap (·.frame)) e oe vs lo s.heap (s.heap.update T (Obj.mapFields (·.setIfInBounds 3 v))):=by
 obtain⟨oth,t,u,g,d,z⟩:=zm5 v h i p;have a:T∉(env::outer).filterMap (·.frame):=fun w=>by obtain⟨_,o,j,x⟩:=l.mem w;rw[h]at j;cases j;exact x ts i
 refine⟨fun b o _ hv _ q=>(oth b fun z=>hv (z▸c)).trans q,fun b o y q=>⟨o.slots,(oth b fun z=>a (z▸y)).trans q⟩,fun b o q=>?_,le_of_eq (Heap.size_after_update ..).symm,vs,?_,rfl,⟨T,t,u,c,f,g,d,z,r⟩,fun _ z=>.inr z⟩;by_cases k:b=T;subst k;exact⟨_,g⟩;exact⟨_,(oth b k).trans q⟩;rw[oth e (Ne.symm f),m];obtain⟨B,C,G,H⟩:=oe;subst hd;rfl
theorem zkI(g:s.heap.FunFrames base (env::outer))(a:s.heap.get? e=some oe)(hd:oe.data=.fields vs)(i:TrcR s.heap e vs lo)(h:∀h',Ntd ((env::outer).filterMap (·.frame)) e oe vs lo s.heap h'->Q () {s with heap:=h'}):wpAny M A (setFlight (.ref e) l) Q E s:=by
 obtain⟨T,m,n,b,j,c,d,f,k⟩:=i;refine wpAny_bind (wpAny_field a hd b ?_);exact wpAny_setField c d f (h _ (zhP _ g a hd b j c d f k))
theorem ztk(k:A.frames=some (env::outer))(v:s.heap.FunFrames base (env::outer))(w:env.frame=some L)(c:s.heap.get? e=some oe)(hd:oe.data=.fields vs)(tr:Trc s.heap e vs lo)(l:lo<=s.heap.objs.size)(h:∀h',Ntd ((env::outer).filterMap (·.frame)) e oe vs lo s.heap h'->Q () {s with heap:=h'}):
  wpAny M A (noteFrame (.ref e) env) Q E s:=by
 have m:e∉(env::outer).filterMap (·.frame):=fun n=>by obtain⟨_,o,O,d⟩:=v.mem n;rw[c]at O;cases O;exact d vs hd
 unfold noteFrame;simp only[w];rcases tr with f|⟨T,oT,U,f,x,i,j,p,Y⟩;refine wpAny_bind (wpAny_field c hd f ?_);refine znG k v w c hd (Array.getElem?_eq_some_iff.mp f).1 l fun h' y B r ⟨g,t,C,G,H⟩=>h h' ⟨fun b o a _ d q=>B b o a d q,fun b o n q=>r b o (fun z=>m (z▸n)) q,fun b o q=>?_,y,g,t,C,G,fun T z=>.inl (H T z)⟩;by_cases a:b=e;subst a;exact⟨_,t⟩;obtain⟨I,J⟩:=r b o a q;exact⟨_,J⟩;refine wpAny_bind (wpAny_field c hd f ?_);refine wpAny_bind (wpAny_field i j (Array.getElem?_eq_getElem p) ?_);split;refine wpAny_pure ?_;have:=h s.heap ⟨fun b o _ _ _ q=>q,fun b o _ q=>⟨o.slots,q⟩,fun b o q=>⟨o,q⟩,le_refl _,vs,(by rw[c];obtain⟨oc,od,dt,I⟩:=oe;subst hd;rfl),rfl,⟨T,oT,U,f,x,i,j,p,Y⟩,fun _ z=>.inr z⟩;exact this;refine wpAny_bind (wpAny_setField i j p ?_);have n1:=zhP Value.none v c hd f x i j p Y;obtain⟨oth,_⟩:=zm5 Value.none i j p;have N:=v.of_keeps fun b o a d=>⟨o,(oth b fun z=>by rw[z,i]at a;cases a;exact d U j).trans a,rfl⟩;have u:(s.heap.update T (Obj.mapFields (·.setIfInBounds 3 Value.none))).get? e=some {oe with data:=.fields vs}:=by rw[oth e (Ne.symm x),c];obtain⟨oc,od,dt,I⟩:=oe;subst hd;rfl
 refine znG k N w u rfl (Array.getElem?_eq_some_iff.mp f).1 (by rw[Heap.size_after_update];exact l)
  fun h' y B r ⟨g,t,C,G,H⟩=>h h' (n1.trans u ⟨fun b o a _ d q=>B b o a d q,fun b o n q=>r b o (fun z=>m (z▸n)) q,fun b o q=>?_,y,g,t,C,G,fun T z=>.inl (H T z)⟩)
 by_cases a:b=e;subst a;exact⟨_,t⟩;obtain⟨I,J⟩:=r b o a q;exact⟨_,J⟩
theorem Ntd.frames(n:Ntd ((env::outer).filterMap (·.frame)) e oe vs lo h h')(f:h.FunFrames base (env::outer))(g:h.get? e=some oe)(hd:oe.data=.fields vs)(i:Trc h e vs lo):h'.FunFrames base (env::outer):=f.of_keeps fun b o a c=>by by_cases d:b∈(env::outer).filterMap (·.frame);obtain⟨p,q⟩:=n.slot b o d a;exact⟨_,q,rfl⟩;refine⟨o,n.keep b o (fun z=>?_) (fun z=>?_) d a,rfl⟩;rw[z,g]at a;cases a;exact c vs hd;rcases i with t|⟨T,r,j,k,u,l,m,v,w⟩;rw[t]at z;cases z;rw[k]at z;cases z;rw[l]at a;cases a;exact c j m
theorem zhK(a:A.frames=some (env::outer))(c:s.heap.FunFrames base (env::outer))(i:env.frame=some L)(d:s.heap.get? e=some oe)(hd:oe.data=.fields vs)(f:Trc s.heap e vs lo)(b:lo<=s.heap.objs.size)(h:∀h',Ntd ((env::outer).filterMap (·.frame)) e oe vs lo s.heap h'->Q () {s with heap:=h'}):
  wpAny M A (noteFrame (.ref e) env) (fun _ j=>wpAny M A (setFlight (.ref e) none) Q E j) E s:=by
 refine ztk a c i d hd f b fun h' n=>?_;obtain⟨k,g,p,l,q⟩:=n.exc;exact zkI (n.frames c d hd f) g rfl l fun o m=>h o (n.trans g m)
end
section
variable{prog:Program}{w:World}{A:Around}{E:Value->Shared->Prop}{h:Heap}{g:Array GenState}{d:Drawn}{t:Nat}{os:OsState}
variable{nm q:Str}{C N:Addr}{bs bm bmB:List Value}{hdct:Bool}{sn:List Str}{sub:List Value}{ab:Bool}{col:Option Bool}{dd:Option Addr}{k0 k1 k2 k3 k5:Option Value}{B newId initId:String}
theorem zmP(F:ExcBaseFacts B newId initId bmB)(T:OwnTail h bmB bm)(c:h.get? C=some (excClassObj nm q C N bs bm hdct sn sub ab col dd k0 k1 k2 k3 k5 newId))(v:h.Ns N n)(hi:n "__init__"=some (.ref fI))(j:h.get? fI=some y)(k:y.cls=.type "function")(G:∀h' e,Heap.MadeExcOf h h' e (.ref C) rest->h.objs.size<=e->wpAny (model prog w) A (call (.ref fI) (.ref e::rest)) (fun r p=>r=.none/\Q (.done (.ret (.ref e))) p) E ⟨h',g,d,t,os⟩)(a:rest.length<=sizeLine):
  wpAny (model prog w) A (Builtin.«type.__call__» ⟨.ref C::rest,[]⟩) Q E ⟨h,g,d,t,os⟩:=by
 repeat (first|with_reducible refine wpAny_loadPart_at c ?_|with_reducible refine wpAny_madeBy_exc c ?_|wp_step)
 refine codeAny_call_builtin_code (Code.quiet_builtin _ F.quiet) (wpAny_check_new_subT F T c (codeAny_exc_new_subT F T c ?_ a));show wpAny _ _ _ _ _ _;generalize l:h.push {cls:=.type "tuple",data:=.seq rest.toArray}=H;generalize m:H.push {cls:=.ref C,data:=.fields #[.ref h.objs.size,.none,.none,.none,.bool false,.none]}=f;have i:∀b o,h.get? b=some o->f.get? b=some o:=fun b o z=>by subst m l;exact Heap.get?_push_of_some _ (Heap.get?_push_of_some _ z)
 have s:f.get? (h.objs.size+1)=some {cls:=.ref C,data:=.fields #[.ref h.objs.size,.none,.none,.none,.bool false,.none]}:=by subst m l;heap_get
 have gt:f.get? h.objs.size=some {cls:=.type "tuple",data:=.seq rest.toArray}:=by subst m l;exact Heap.get?_push_of_some _ (Heap.get?_push_at rfl rfl)
 have u:=i _ _ c;have I:f.Ns N n:=v.keeps i;have J:=T.keeps i;have self:(Value.ref C::bm).contains (.ref C)=true:=by simp
 unfold isInstance
 repeat (first|with_reducible refine wpAny_loadPart_at s ?_|(with_reducible refine wpAny_isSubtype_exc u ?_;rw[self])|wp_step)
 show wpAny _ _ (typeLookup (.ref C) _) _ _ _;refine wpAny_typeLookup_tail u I J F.mroIs F.init.lookup ?_;rw[hi];refine wpAny_holding (wpAny_bind ?_);unfold bindSpecial;refine wpAny_bind (wpAny_typeOf (T:="function") ⟨_,i _ _ j,k⟩ ?_);rw[if_pos (by decide)];refine wpAny_pure (wpAny_bind (wpAny_mono (G f (h.objs.size+1) ⟨i,Heap.get?_none_of_le (le_succ _),h.objs.size,s,Heap.get?_none_of_le (le_refl _),gt⟩ (le_succ _)) (fun r p L=>?_) fun _ _ x=>x));obtain⟨rfl,M⟩:=L
 wp_walk
 exact M
theorem zmM(F:ExcBaseFacts B newId initId bmB)(T:OwnTail h bmB bm)(b:h.get? C=some (excClassObj nm q C N bs bm hdct sn sub ab col dd k0 k1 k2 k3 k5 newId))(i:h.Ns N j)(hi:j "__init__"=some (.ref fI))(c:h.get? fI=some k)(f:k.cls=.type "function")(l:∀h' e,Heap.MadeExcOf h h' e (.ref C) rest->h.objs.size<=e->wpAny (model prog w) (A.under (.builtin "type.__call__" ⟨.ref C::rest,[]⟩)) (call (.ref fI) (.ref e::rest)) (fun r m=>r=.none/\Q (.ref e) m) E ⟨h',g,d,t,os⟩)(a:rest.length<=sizeLine):
  wpAny (model prog w) A (call (.ref C) rest) Q E ⟨h,g,d,t,os⟩:=by
 have s:=tc_lookup;have u:=tc_bind (.ref C);refine wpAny_call (codeAny_of_tree ?_);show wpAny _ _ (callAny (.ref C) _) _ _ _
 repeat (any_goals (first|assumption|with_reducible refine wpAny_loadPart_at b ?_|wp_step))
 exact⟨rfl,codeAny_call_builtin_at (Code.quiet_builtin _ (by decide +kernel)) entry_typeCall (wpAny_check_type_call_sub b (zmP F T b i hi c f (fun h' e o p=>(l h' e o p)) a))⟩
end
noncomputable abbrev newX(C:Value)(a:Option Addr)(t:Addr):Obj:={cls:=C,dict:=a,data:=.fields #[.ref t,.none,.none,.none,.bool false,.none]}
section
variable{prog:Program}{w:World}{A:Around}{E:Value->Shared->Prop}{h:Heap}{g:Array GenState}{d:Drawn}{t:Nat}{os:OsState}
variable{nm q:Str}{C N:Addr}{bs bm bmB:List Value}{hdct:Bool}{sn:List Str}{sub:List Value}{ab:Bool}{col:Option Bool}{dd:Option Addr}{k0 k1 k2 k3 k5:Option Value}{B newId initId:String}
theorem zmO(F:ExcBaseFacts B newId initId bmB)(T:OwnTail h bmB bm)(c:h.get? C=some (excClassObj nm q C N bs bm hdct sn sub ab col dd k0 k1 k2 k3 k5 newId))(a:h.get? e=some (newX (.ref C) none k))(f:∀h' i,(∀b o,b≠e->h.get? b=some o->h'.get? b=some o)->h'.get? e=some (newX (.ref C) none i)->Q .none ⟨h',g,d,t,os⟩):
  wpAny (model prog w) A (call (.builtin initId) [.ref e,v]) Q E ⟨h,g,d,t,os⟩:=by
 refine wpAny_call (codeAny_call_builtin F.init.plain F.initEntry (wpAny_check_init_subT F T c a rfl ?_))
 wp_walk
 refine f _ h.objs.size (fun b o j q=>?_) ?_;rw[Heap.get?_update_other _ _ (Ne.symm j)];exact Heap.get?_push_of_some _ q;exact Heap.get?_update_self _ (Heap.get?_push_of_some _ a) rfl
end
end R
namespace R
open PySem PySem.W PySem.Builtin.Object
section
variable{prog:Program}{w:World}{A:Around}{E:Value->Shared->Prop}{s:Shared}{K:Frag}{x C:Addr}{ox:Obj}{name:Str}{v:Value}
noncomputable def zvT:Value->Option String|.type a=>some a|_=>none
theorem zvU(h:zvT v=some a):v=.type a:=by cases v<;>first|(cases h;rfl)|cases h
noncomputable def zvR:Value->Bool|.ref _=>true|_=>false
noncomputable def zjz:List Value->Bool
 | []=>false|v::l=>if zvR v then zjz l else decide (zvT v=some "ValueError"/\l.map zvT=[some "Exception",some "BaseException",some "object"])
theorem zhB:∀{l:List Value},zjz l=true->(∀self:Value,refuseLoop self "__setattr__" l=pure ())/\l.contains (.type "object")=true/\l.isEmpty=false
 |v::l,e=>by
  by_cases h:zvR v=true
  . obtain⟨c,rfl⟩:∃c,v=.ref c:=by cases v<;>first|exact⟨_,rfl⟩|cases h
    replace e:(if zvR (.ref c)=true then zjz l else _)=true:=e;rw[if_pos h]at e;obtain⟨a,b,_⟩:=zhB e;exact⟨fun self=>(refuseLoop_ref self _ c l).trans (a self),by rw[contains_cons,b,Bool.or_true],rfl⟩
  . replace e:(if zvR v=true then zjz l else decide (zvT v=some "ValueError"/\l.map zvT=[some "Exception",some "BaseException",some "object"]))=true:=e;rw[if_neg h]at e;obtain⟨b,g⟩:=of_decide_eq_true e;cases zvU b;obtain⟨_,a,rfl,b,i⟩:=List.map_eq_cons_iff.mp g;cases zvU b;obtain⟨_,a,rfl,b,j⟩:=List.map_eq_cons_iff.mp i;cases zvU b;obtain⟨_,a,rfl,b,k⟩:=List.map_eq_cons_iff.mp j;cases zvU b;cases List.map_eq_nil_iff.mp k;exact⟨PySem.F.store_ValueError.passes,by simp,rfl⟩
noncomputable def zjY(K:Frag)(C:Addr):Bool:=match clsIn K C with|some a=>zjz a.mro|none=>false
theorem zpc(X:K.In s.heap)(J:InstAt s.heap x ox C od)(a:zjY K C=true)(h:findIn K (.ref C) name=some none)(i:wpAny (model prog w) A.in1 (Builtin.ObjectAttr.storeInOwnDict (.ref x) (.ref C) (.str name d) name v false)
   (fun fin b=>match fin with|.done f=>R (.ok f) b|.again c=>c.quiet=true/\codeAny (model prog w) A c R b) (fun e b=>R (.error e) b) s):
  codeAny (model prog w) A (.call (.builtin "object.__setattr__") ⟨[.ref x,.str name d,v],[]⟩) R s:=by
 unfold zjY at a;split at a
 case h_2=>cases a
 rename_i j g;obtain⟨k,l,m⟩:=zhB a;have st:=PySem.F.store_object;have n:Looks (model prog w) s.heap (isInstance (.ref x) (.type "object")) true:=by refine J.type.andThen (looks_mroIn X ?_);unfold mroIn;rw[g,bind_some,if_neg (by rw[m];decide),l]
 refine codeAny_call_builtin st.slot.plain st.entry (@check_slot (model prog w) _ _ s _ _ _ _ [.str name d,v] [] _ st.kind st.split n (st.args _ _ _) ?_);have o:Looks (model prog w) s.heap (mroOf (.ref C)) j.mro:=(looks_clsIn X g).andThen .now;rw[osa_eq,refuse_eq];refine wpAny_bind (wpAny_bind (J.type.here (wpAny_bind (o.here ?_))));rw[k];exact wpAny_pure (wpAny_bind (J.type.here (wpAny_bind ((looks_findIn X h).here (wpAny_bind (wpAny_pure i))))))
theorem zkO(X:K.In s.heap)(c:s.heap.get? x=some ox)(j:ox.cls=.ref C)(hd:ox.data=.fields vs)(k:ox.dict=none)(hs:findIn K (.ref C) "__setattr__"=some (some (.builtin "object.__setattr__")))(G:zjY K C=true)(H:findIn K (.ref C) name=some none)(I:hasDictIn K C=true)(h:∀h',h'.get? x=some {ox with dict:=some s.heap.objs.size}->h'.Ns1 s.heap.objs.size (fun y=>if y=name then some v else none)->(∀b o,b≠x->s.heap.get? b=some o->h'.get? b=some o)->Q () {s with heap:=h',toks:=s.toks+2}):
  wpAny (model prog w) A (setAttr (.ref x) name v) Q E s:=by
 have J:InstAt s.heap x ox C none:=⟨c,j,by unfold notCls;rw[hd],by rw[k];trivial⟩;refine set_plain X J hs (zpc X J G H ?_);obtain⟨cd,L,l⟩:=any_some I;obtain⟨a,g,d,t,os⟩:=s;obtain⟨oc,od,M,m⟩:=ox;subst j hd k;refine wpAny_bind (wpAny_pure (wpAny_bind (wpAny_bind (wpAny_loadPart c (wpAny_bind (Looks.here (looks_clsIn X L) ?_))))));rw[l];have f:(a.push {cls:=.type "dict",data:=.dict #[]}).get? x=some _:=Heap.get?_push_of_some _ c;have B:=ne_of_lt (Heap.lt_size c);refine wpAny_bind (wpAny_alloc' (wpAny_bind (wpAny_update' f (wpAny_pure ?_))));generalize n:(a.push {cls:=.type "dict",data:=.dict #[]}).update x (fun o=>{cls:=o.cls,dict:=some a.objs.size,data:=o.data,slots:=o.slots})=p;have N:p.get? a.objs.size=some {cls:=.type "dict",data:=.dict #[]}:=by subst n;exact(Heap.get?_update_ne _ _ _ _ B.symm).trans (Heap.get?_push_at rfl rfl)
 have O:p.get? x=some {cls:=.ref C,dict:=some a.objs.size,data:=.fields vs,slots:=m}:=by subst n;exact Heap.get?_update_self _ f rfl
 have T:p.Ns a.objs.size (fun _=>none):=⟨_,#[],_,N,rfl,fun e c=>absurd c (by simp),fun _=>rfl⟩;refine wpAny_bind (wpAny_pure (wpAny_bind (wpAny_nsSet1 (Heap.Ns1.of_empty T) fun h' i hs=>?_)));obtain⟨oD,U,Y,r,u,z⟩:=i.count (Within.cons name v Within.nil);refine wpAny_bind (wpAny_lookBehind r (by rw[u];exact pastItsLine_dict (le_trans z (by rw[length_cons,length_nil];lia))) (wpAny_pure (h h' ?_ i fun b o hb q=>?_)));exact(hs.2 x B).trans O;subst n;exact(hs.2 b (ne_of_lt (Heap.lt_size q))).trans ((Heap.get?_update_ne _ _ _ _ hb).trans (Heap.get?_push_of_some _ q))
theorem zh6(X:K.In s.heap)(I:InstAt s.heap x ox C od)(m:findIn K (.ref C) "__getattribute__"=some (some (.builtin "BaseException.__getattribute__")))(n:findIn K (.ref C) "__getattr__"=some none)(i:mroIn K C (.type "BaseException")=some true)(B:wpAny (model prog w) A.in1 (Builtin.«object.__getattribute__» ⟨[.ref x,.str name c],[]⟩) (fun fin b=>match fin with|.done (.ret u)=>wpAny (model prog w) A (handedOut u) Q E b|_=>False) (fun _ _=>False) s):
  wpAny (model prog w) A (getAttrBy (.ref x) (.str name c) fill a) Q E s:=by
 obtain⟨j,g,d,t,os⟩:=s;have p:=I.type (M:=model prog w);have G:=looks_findIn (M:=model prog w) X m;have L2:=looks_findIn (M:=model prog w) X n;have H:=looks_mroIn (M:=model prog w) X i;unfold getAttrBy;refine wpAny_holding (wpAny_bind (p.at (wpAny_bind (G.at ?_))));unfold getAttrByItsOwn hookBefore;refine wpAny_bind (L2.at (wpAny_bind (wpAny_attempt (wpAny_holding ?_))));have J:(a&&onTheHeap (Value.builtin "BaseException.__getattribute__"))=false:=by cases a<;>rfl
 unfold callGetattribute;rw[J,if_neg (by decide)];unfold boundAndCalled;refine wpAny_bind (wpAny_of_eq (F.attr_ValueError.ga.bind _) (wpAny_call (codeAny_call_builtin F.attr_ValueError.ga.plain F.entry_bexc_ga ?_)));have L:builtinKind "BaseException.__getattribute__"=some .slot:=by decide +kernel
 have o:splitId "BaseException.__getattribute__"=some ("BaseException","__getattribute__"):=by decide +kernel
 have q:=F.args_bexc_ga (.ref x) (.str name c);simp only[checkBuiltinCall,L,o];have N:Looks (model prog w) j (isInstance (.ref x) (.type "BaseException")) true:=p.andThen H;refine wpAny_bind (N.at ?_);rw[if_neg (by decide)];have h:wpAny (model prog w) A.in1 (Builtin.«object.__getattribute__» ⟨[.ref x,.str name c],[]⟩) (fun fin b=>match fin with|.done f=>(match (Except.ok f:Result) with|.ok (.ret u)=>wpAny (model prog w) A (handedOut u) Q E b|.ok _=>False|.error e=>wpAny (model prog w) A (getattributeRaised (.ref x) (.str name c) (.ref C) e none fill a) Q E b)|.again y=>y.quiet=true/\codeAny (model prog w) A y (fun r b=>match r with|.ok (.ret u)=>wpAny (model prog w) A (handedOut u) Q E b|.ok _=>False|.error e=>wpAny (model prog w) A (getattributeRaised (.ref x) (.str name c) (.ref C) e none fill a) Q E b) b)
   (fun e b=>wpAny (model prog w) A (getattributeRaised (.ref x) (.str name c) (.ref C) e none fill a) Q E b) ⟨j,g,d,t,os⟩:=by
  refine wpAny_mono B (fun fin b z=>?_) fun _ _ z=>z.elim;rcases fin with (_|_|_|u)|_
  all_goals first|exact z.elim|exact z
 cases k:Manifest.signature? "BaseException.__getattribute__" with|none=>exact wpAny_pure h| some l=>simp only[argsOk,k]at q;have O:Bind.checkArgs "BaseException.__getattribute__" l ⟨[.ref x]++[.str name c],[]⟩=pure ():=q;show wpAny _ _ (Bind.checkArgs "BaseException.__getattribute__" l ⟨[.ref x]++[.str name c],[]⟩) _ _ _;rw[O];exact wpAny_pure h
theorem zmN(X:K.In s.heap)(I:InstAt s.heap x ox C od)(b:findIn K (.ref C) "__getattribute__"=some (some (.builtin "BaseException.__getattribute__")))(c:findIn K (.ref C) "__getattr__"=some none)(a:mroIn K C (.type "BaseException")=some true)(e:findObj K C od name=some (.value v))(f:handedIn v=true)(h:Q v {s with toks:=s.toks+1}):
  wpAny (model prog w) A (getAttr (.ref x) name d) Q E s:=by
 have g:=I.type (M:=model prog w);have i:=looks_find (M:=model prog w) X I e;refine wpAny_bind (wpAny_mkText (zh6 X I b c a ?_));refine wpAny_bind (wpAny_pure (wpAny_bind (wpAny_pure (wpAny_bind (g.at (wpAny_bind (i.at (wpAny_pure ?_))))))));show wpAny _ _ (handedOut v) _ _ _;rw[handedOut_of f];exact wpAny_pure h
theorem zkQ(X:K.In s.heap)(I:InstAt s.heap x ox C (some od))(c:findIn K (.ref C) "__getattribute__"=some (some (.builtin "BaseException.__getattribute__")))(d:findIn K (.ref C) "__getattr__"=some none)(a:mroIn K C (.type "BaseException")=some true)(b:hasDictIn K C=true)(f:findIn K (.ref C) "__class__"=some (some (.builtin "object.__class__")))(g:specialIn K (.builtin "object.__class__") "__get__"=some (some (.builtin "getset_descriptor.__get__")))(e:takesIn K (.builtin "object.__class__")=some true)(i:mroIn K C (.type "object")=some true)(h:Q (some (.ref C)) {s with toks:=s.toks+1}):wpAny (model prog w) A (getAttr? (.ref x) "__class__") Q E s:=by
 have j:findObj K C (some od) "__class__"=some (.bind (.builtin "getset_descriptor.__get__") (.builtin "object.__class__")):=findObj_data (by obtain⟨n,k,_⟩:=any_some b;rw[k];rfl) f g e;have l:=I.type (M:=model prog w);have m:=looks_find (M:=model prog w) X I j;refine wpAny_bind (wpAny_mkText ?_);refine wpAny_bind (wpAny_attempt (zh6 X I c d a ?_));refine wpAny_bind (wpAny_pure (wpAny_bind (wpAny_pure (wpAny_bind (l.at (wpAny_bind (m.at ?_)))))));refine wpAny_bind (wpAny_holding (wpAny_call (class_get X I i ?_)));refine wpAny_pure ?_;show wpAny _ _ (handedOut (.ref C)) _ _ _;exact wpAny_pure (wpAny_pure h)
theorem zkP(c:findIn K (.ref C) "__getattribute__"=some (some (.builtin "BaseException.__getattribute__")))(d:findIn K (.ref C) "__getattr__"=some none)(b:mroIn K C (.type "BaseException")=some true)(a:hasDictIn K C=true)(l:findIn K (.ref C) "__class__"=some (some (.builtin "object.__class__")))(m:specialIn K (.builtin "object.__class__") "__get__"=some (some (.builtin "getset_descriptor.__get__")))(f:takesIn K (.builtin "object.__class__")=some true)(o:mroIn K C (.type "object")=some true):
  KitX K (.ref x) (.ref C) (fun h=>InstAt h x ox C (some od)):=by
 obtain⟨t,g,_⟩:=any_some a;unfold clsIn at g;split at g;rename_i j;refine⟨fun _ _ _ I=>I.type,fun _ _ X _ u y B G k q=>wpAny_bind (wpAny_loadPart (k _ _ (X _ _ j)) (wpAny_pure q)),fun h p H r n J X i=>Bool.eq_false_iff.mpr fun q=>?_,fun X I k=>zkQ X I c d b a l m f o k⟩;have e:=Value.ref.inj (beq_iff_eq.mp q);subst e;have z:=(X _ _ j).symm.trans i;cases z;cases g
end
end R
namespace R
open PySem PySem.Spec PyProof.Rows L2
noncomputable abbrev XN(a C:Addr):HO:=.ext fun h=>∃t,h.get? a=some (newX (.ref C) none t)
noncomputable abbrev XD(a C b:Addr):HO:=.ext fun h=>∃t,h.get? a=some (newX (.ref C) (some b) t)
noncomputable abbrev XO(a C c:Addr):HO:=.ext fun h=>∃b d,h.get? a=some ⟨.ref C,some c,.fields b,d⟩/\1<b.size
structure Fly(lo:Nat)(H:Hp)(h:Heap)(a:Addr):Prop where
 ex:∃C dx vs sl,H a=some (XO a C dx)/\h.get? a=some ⟨.ref C,some dx,.fields vs,sl⟩/\Trc h a vs lo/\∀T,vs[1]?=some (.ref T)->H T=none
 lo:lo<=a
theorem XO.ok(e:h.get? a=some ⟨.ref C,some c,.fields vs,b⟩)(z:1<vs.size):ObjOk P w H h a (XO a C c):=⟨⟨vs,b,e,z⟩,⟨_,e⟩,fun d f y k=>(by obtain⟨vs,b,e,z⟩:=y;exact ⟨vs,b,k _ e,z⟩)⟩
theorem XD.ok(e:h.get? a=some (newX (.ref C) (some b) t)):ObjOk P w H h a (XD a C b):=⟨⟨t,e⟩,⟨_,e⟩,fun c d z k=>(by obtain⟨t,e⟩:=z;exact ⟨t,k _ e⟩)⟩
theorem XN.ok(e:h.get? a=some (newX (.ref C) none t)):ObjOk P w H h a (XN a C):=⟨⟨t,e⟩,⟨_,e⟩,fun b c z k=>(by obtain⟨t,e⟩:=z;exact ⟨t,k _ e⟩)⟩
noncomputable def CXe(P:Program)(w:World):CXT:=fun b H s E e c=>∃a d,e=.ref a/\c.os=s.os/\AllBare c.gens/\Un (frs b) [] H d s.heap c.heap/\HOk P w d c.heap/\Fly s.heap.objs.size d c.heap a/\E (.ref a) none d
theorem Fly.mono{lo b}(f:Fly lo H h a)(l:b<=lo):Fly b H h a:=by obtain⟨C,c,d,e,g,i,j,k⟩:=f.ex;refine⟨⟨C,c,d,e,g,i,?_,k⟩,le_trans l f.lo⟩;rcases j with t|⟨T,m,n,o,p,q,r,s,u⟩;exact .inl t;exact .inr ⟨T,m,n,o,p,q,r,s,le_trans l u⟩
section
variable{X:Cx}{pins:List (Addr×Obj)}{σ:L2.St}{H:Hp}{s:Shared}{a:Addr}{lo:Nat}{h':Heap}
theorem zdO(I:Inv X pins σ H s)(stk:X.stack=X.env::X.outer)(fr:X.env.frame=some X.env.locals)(f:Fly lo H s.heap a)(l:X.s₀.heap.objs.size<=lo)(hp:∀p∈X.pn++pins,p.1<lo)(he:s.heap.get? a=some oe)(hd:oe.data=.fields vs)(n:Ntd ((X.env::X.outer).filterMap (·.frame)) a oe vs lo s.heap h'):Inv X pins σ H {s with heap:=h'}/\Fly lo H h' a:=by
 obtain⟨C,dx,g,sl,B,h2,tr,h4⟩:=f.ex;rw[he]at h2;cases h2;obtain rfl:g=vs:=by simpa using hd
 obtain⟨G,e1,e2,J,L⟩:=n.exc;have h:frs X.stack=(X.env::X.outer).filterMap (·.frame):=by rw[stk];rfl
 have M:∀b,H b≠none->b∉(X.env::X.outer).filterMap (·.frame):=fun b d k=>d (I.stkFree b (by rw[h];exact k));have nT:∀b,H b≠none->g[1]?≠some (.ref b):=fun b d z=>d (h4 b z);have N:1<g.size:=by rcases tr with t|⟨T,_,_,t,_⟩<;>exact(Array.getElem?_eq_some_iff.mp t).1
 have O:HOk X.prog X.w H h':=fun b u e=>by
  by_cases d:b=a;subst d;rw[B]at e;cases e;exact XO.ok e1 (by rw[e2];exact N);refine(I.hok b u e).stay (fun c v w q=>?_) (fun _ q=>q) fun _ _ q=>q;have A:H c≠none:=by rcases w with z|z<;>(first|(rw[z,e];simp)|(rw[z];simp))
  refine n.keep c v (fun z=>?_) (nT c A) (M c A) q;rcases w with y|y;exact d (y.symm.trans z);rw[z,B]at y;cases y
 have ch:∃ch:List Addr,(∀b∈ch,(b∈X.ex\/X.s₀.heap.objs.size<=b)/\b≠X.env.locals/\(∀x c,X.env.cells.lookup x=some c->c≠b)/\∀p∈X.pn++pins,p.1≠b)/\∀b,b∉ch->g[1]?≠some (.ref b):=by rcases tr with t|⟨T,oT,ts,t1,t2,Q,E,t5,t6⟩;exact⟨[],(fun _ z=>by cases z),fun b _ z=>by rw[t]at z;cases z⟩;refine⟨[T],fun b d=>?_,fun b d z=>d (by rw[t1]at z;cases z;exact mem_singleton.mpr rfl)⟩;have e:=mem_singleton.mp d;subst e;refine⟨.inr (le_trans l t6),fun z=>?_,fun x c e z=>?_,fun p U z=>?_⟩;obtain⟨m,⟨o,es,ep,j,i,_⟩,_⟩:=I.loc;rw[z,j]at Q;cases Q;rw[i]at E;cases E;obtain⟨v,o,j,i⟩:=I.cell x c e;rw[z,Q]at j;cases j;rw[i]at E;cases E;exact absurd (hp p U) (by rw[z];exact Nat.not_lt.mpr t6)
 obtain⟨ch,c1,c2⟩:=ch;refine⟨I.step c1 (fun b o hL Y w q hn=>?_) (fun b o hL Y w q hn=>?_) (fun _ _ _ _ q=>q) (fun b o _ q=>n.there b o q) (fun _ _ q=>q) (fun _ _ _ q=>q) (fun b ps q=>⟨#[],by rw[q];simp⟩) (fun m k=>?_) O I.bare,⟨C,dx,G,sl,B,e1,.inr J,?_⟩,f.lo⟩;refine n.keep b o (fun z=>by rw[z,B]at hn;cases hn) (c2 b w) (fun k=>?_) q;have:=I.stkSub b (by rw[h];exact k);rcases mem_cons.mp this with z|z;exact hL z;exact Y z;refine n.slot b o ?_ q;rw[List.filterMap_cons,fr];exact mem_cons_of_mem _ Y;obtain⟨o,es,ep,j,r⟩:=k;obtain⟨sl',q⟩:=n.slot X.env.locals o (by rw[List.filterMap_cons,fr];exact mem_cons_self) j;exact⟨_,es,ep,q,r⟩;intro T hT;rcases L T hT with z|z;exact I.hok.fresh z;exact h4 T z
theorem zkg{K}(I:Inv (cxOf (CXe P w) P w K d base N b scope f e A outer s₀ H₀ E) pins σ H s)(g:Fly s₀.heap.objs.size H s.heap a)(hE:E (.ref a) none H):(cxOf (CXe P w) P w K d base N b scope f e A outer s₀ H₀ E).xe (.ref a) s:=by
 have J:Inv (cxOf (CXe P w) P w K d base N b scope f e A outer s₀ H₀ E) [] σ H s:=I.pins_of fun p z=>nomatch z;obtain⟨C,k,l,m,o,h,i,q⟩:=id g.ex;refine wpAny_bind (zhK J.ok.frames J.stack rfl h rfl i J.sz fun h' n=>?_);obtain⟨c,j⟩:=zdO J rfl rfl g (le_refl _) (fun p z=>absurd (show p∈([]:List (Addr×Obj)) from z) (by simp)) h rfl n;exact⟨a,H,rfl,c.os,c.bare,c.base,c.hok,j,hE⟩
end
noncomputable abbrev bmV:List Value:=[.type "ValueError",.type "Exception",.type "BaseException",.type "object"]
noncomputable def excJ(K:PySem.W.Frag)(C fI:Addr):Bool:=(K.lookup C).any fun o=>decide (o.cls=.type "type")&&match o.data with
 |.cls a=>(match a.mro,o.slots.toList with
  |.ref D::c,[_,_,_,_,some (.builtin n),_]=>D==C&&(n=="ValueError.__new__"&&(!a.hasDel&&(PySem.W.tailIn K bmV c&&(PySem.W.nsOkIn K a.ns&&nsIn K a.ns "__init__" == some (some (.ref fI))))))|_,_=>false)
 |_=>false

structure XcAt(h:Heap)(C fI:Addr):Prop where
 ex:∃(nm q:Str) (N:Addr) (bs bm:List Value) (hdct:Bool) (sn:List Str) (sub:List Value) (ab:Bool) (col:Option Bool) (dd:Option Addr) (k0 k1 k2 k3 k5:Option Value) (mN:Str->Option Value),
  h.get? C=some (excClassObj nm q C N bs bm hdct sn sub ab col dd k0 k1 k2 k3 k5 "ValueError.__new__")/\h.Ns N mN/\mN "__init__"=some (.ref fI)/\OwnTail h bmV bm
theorem zpi{K}(X:K.In h)(G:h.Ns N m)(e:nsIn K N x=some (some v)):m x=some v:=by
 obtain⟨o,f,g,a,b,_,c⟩:=G;unfold nsIn at e;split at e;rename_i d;have:=X _ _ d;rw[a]at this;cases this;cases b;split at e;rename_i q;cases e;rw[<-c];unfold nsFind findBy;rw[<-Array.find?_toList,q];rfl
 . split at e<;>cases e
 cases e
theorem znO{K}(X:K.In h)(q:excJ K C fI=true):XcAt h C fI:=by
 unfold excJ at q;cases k:K.lookup C with
 |none=>rw[k]at q;cases q
 |some z=>
 rw[k]at q;obtain⟨c,g,i,j⟩:=z;obtain⟨rfl,q⟩:=qd1 q;cases i with
 |cls i=>dsimp only at q;split at q;rename_i D m o p r s n t d e;simp only[and_eq_true,beq_iff_eq,not_eq_true']at q;obtain⟨rfl,rfl,a,u,b,f⟩:=q;obtain⟨v,w,x,y,z,A,B,sub,E,c,G⟩:=i;subst d a;obtain⟨l⟩:=j;subst e;exact⟨v,z,y,w,m,A,B,sub,E,c,g,o,p,r,s,t,_,X _ _ k,.of_isNs (PySem.W.isNs_of_in X b),zpi X (.of_isNs (PySem.W.isNs_of_in X b)) f,PySem.W.tail_of_in X u⟩;cases q
 |_=>cases q
structure Xc(K:PySem.W.Frag)(C fI:Addr)(f:Str):Prop where
 ex:excJ K C fI=true
 fn:isFn K (.ref fI)=true
 sa:PySem.W.findIn K (.ref C) "__setattr__"=some (some (.builtin "object.__setattr__"))
 po:zjY K C=true
 hd:PySem.W.hasDictIn K C=true
 no:NoAttr K C f
section
variable{X:Cx}{pins:List (Addr×Obj)}{σ:L2.St}{H:Hp}{s:Shared}{e C fI:Addr}{f:Str}
theorem zqb(h:H a=some o):upd H a o=H:=by funext b;unfold upd;split;rename_i z;rw[z,h];rfl
theorem zpA(I:Inv X pins σ H s)(x:excJ X.K C fI=true)(a:H e=some (XN e C))(h:∀c,Inv X pins σ H c->Q .none c):
  wpAny (model X.prog X.w) X.A (call (.builtin "ValueError.__init__") [.ref e,v]) Q X.xe s:=by
 obtain⟨p,q,N,r,u,i,w,sub,y,k,z,A,j,b,B,E,G,l,J,L,T⟩:=(znO I.kIn x).ex;obtain⟨⟨t,m⟩,_⟩:=(show ObjOk X.prog X.w H s.heap e (XN e C) from I.hok e _ a);obtain⟨M,g,d,n,os⟩:=s;refine zmO F.excBase_ValueError T l m fun h' O j b=>h _ ?_;have:=I.write (t':=n) (by rw[a];exact True.intro) (.inl rfl) j ⟨_,b⟩ (XN.ok b);rw[zqb a]at this;exact this
theorem zpV(I:Inv X pins σ H s)(c:Xc X.K C fI f)(d:H e=some (XN e C))(N:RelV v u)(h:∀l od B,H l=none->l≠e->Inv X pins σ (upd (upd H l (.frz od (.xd [(f,v)]))) e (XD e C l)) B->Q () B):wpAny (model X.prog X.w) X.A (setAttr (.ref e) f u) Q X.xe s:=by
 obtain⟨⟨t,E⟩,_⟩:=(show ObjOk X.prog X.w H s.heap e (XN e C) from I.hok e _ d);have O:=Heap.lt_size E;refine zkO I.kIn E rfl rfl rfl c.sa c.po c.no c.hd fun T G J m=>?_;obtain⟨od,es,ep,U,r⟩:=id J;have Y:=ne_of_gt O;refine h s.heap.objs.size od _ (I.hok.fresh (le_refl _)) Y ?_
 have un:Un X.fs [] H (upd (upd H s.heap.objs.size (.frz od (.xd [(f,v)]))) e (XD e C s.heap.objs.size)) s.heap T:=by refine⟨fun b o q n _ _=>m b o (fun z=>by rw[z,d]at n;cases n) q,fun b o q n _ _=>⟨o.slots,m b o (fun z=>by rw[z,d]at n;cases n) q⟩,fun b o q n _=>?_,fun b o q _=>?_,fun b xs q=>?_,fun b o u q=>?_,fun b ps q=>?_⟩;rw[zae (fun z=>by rw[z,d]at n;cases n),zae (ne_of_lt (Heap.lt_size q))];exact n;by_cases j:b=e;subst j;exact⟨_,G⟩;exact⟨o,m b o j q⟩;have k:=I.hok.lt q;rw[zae (fun z=>by rw[z,d]at q;cases q),zae (ne_of_lt k)];exact q;have k:=I.hok.lt q;rw[zae (fun z=>by rw[z,d]at q;cases q),zae (ne_of_lt k)];exact q;have k:=I.hok.lt q;refine⟨#[],?_⟩;rw[zae (fun z=>by rw[z,d]at q;cases q),zae (ne_of_lt k),q];simp
 refine I.un un fun b o q=>?_;by_cases j:b=e;subst j;rw[zag]at q;cases q;exact XD.ok G;rw[zae j]at q;by_cases M:b=s.heap.objs.size;subst M;rw[zag]at q;cases q;refine⟨U,_,J,fun g=>?_⟩;by_cases x:g=f;subst x;simp[RelO,N];have:(g==f)=false:=by simpa using x
 simp[RelO,List.lookup,this,x];rw[zae M]at q;refine(I.hok b o q).stay (fun c w a qc=>m c w (fun z=>?_) qc) (fun c a=>?_) fun c xs a=>?_;rcases a with y|y;exact j (y.symm.trans z);rw[z,d]at y;cases y;have A:=I.hok.lt a;rw[zae (fun z=>by rw[z,d]at a;cases a),zae (ne_of_lt A)];exact a;have A:=I.hok.lt a;rw[zae (fun z=>by rw[z,d]at a;cases a),zae (ne_of_lt A)];exact a
end
structure XUp(K:PySem.W.Frag)(mg:Str->Option Value)(xR:Str):Prop where
 ex:∃CR:Addr,mg xR=some (.ref CR)/\specialIn K (.ref CR) "__getattribute__"=some (some (.builtin "type.__getattribute__"))/\readsIn K CR (.type "type")=true/\findCls K (.ref CR) (.type "type") "__init__"=some (.val (.builtin "ValueError.__init__"))
structure XSt(st:Stmt)(xR y f:Str):Prop where
 body:∃(txt:Str) (j:Nat) (p1 p2 p3 p4 p5 p6 p7 p8 p9 p10:Pos),zal st=[.Expr (.Call (.Attribute (.Name xR p1) "__init__" p2) [.Name "self" p3,.Constant (.str txt) j p4] [] p5) p6,.Assign [.Attribute (.Name "self" p7) f p8] (.Name y p9) p10]/\(p2.endLine==p5.line)=true
 sc:FnScope ["self",y] ["self",y] (zaa st)
 v1:(zaa st).names.lookup ("self":Str)=some .local
 v2:(zaa st).names.lookup y=some .local
 gl:(zaa st).names.lookup xR=some .globalImplicit
 n1:(xR==("__debug__":Str))=false
 n2:(y==("__debug__":Str))=false/\(y==("__classdict__":Str))=false
noncomputable def spI(K:PySem.W.Frag)(fI:Addr)(f:Str):Sp:=fun b H Q _=>∃e C v,b=[.ref e,v]/\H e=some (XN e C)/\Xc K C fI f/\∀a c,H a=none->a≠e->Q .non (upd (upd H a (.frz c (.xd [(f,v)]))) e (XD e C a))
structure XGet(K:PySem.W.Frag)(C:Addr):Prop where
 ga:PySem.W.findIn K (.ref C) "__getattribute__"=some (some (.builtin "BaseException.__getattribute__"))
 gh:PySem.W.findIn K (.ref C) "__getattr__"=some none
 sb:PySem.W.mroIn K C (.type "BaseException")=some true
 hd:PySem.W.hasDictIn K C=true
end R
namespace R
open PySem L2
def KL(K:PySem.W.Frag)(a:Addr)(xs:List V):Prop:=∃(o:Obj) (b:Array Value) (n:Nat),K.lookup a=some o/\o.cls=.type "list"/\o.dict=none/\o.data=.seq b n/\b.size<=sizeLine/\Vals xs b.toList
def FixL(K:PySem.W.Frag)(H:Hp)(a:Addr)(xs:List V):Prop:=(∃o,H a=some (.frz o (.lst xs)))\/KL K a xs
theorem FixL.sq(h:FixL K H a xs):SqL K H a xs:=h.elim (fun z=>(by obtain⟨o,e⟩:=z;exact .inl (.inr ⟨o,e⟩))) .inr
class Mks where
 ts:List (Addr×Str)
 cl:List Addr
 xc:List Addr:=[]
variable[Mks]
def TabIn(H:Hp)(P:Addr)(q:Str):Prop:=∃a:Array Value,H P=some (.tbl a)/\TriplesOk a.toList/\
 ∀(pos:Pos)(v:Value),codeAmong pos a.toList=some v->∃(c:Addr) (b:Obj) (d:Array Value) (t:Tok),v=.ref c/\H c=some (.frz b (.own 0))/\b.data=.fields d/\d[1]?=some (.str q t)
theorem TabIn.up(t:TabIn H P q)(e:a P=H P)(f:∀b o u,H b=some (.frz o u)->a b=some (.frz o u)):TabIn a P q:=by obtain⟨d,g,h,i⟩:=t;refine⟨d,by rw[e];exact g,h,fun pos v hv=>?_⟩;obtain⟨c,j,k,t,l,m,n⟩:=i pos v hv;exact⟨c,j,k,t,l,f _ _ _ m,n⟩
def TB(H:Hp):Prop:=∀p∈Mks.ts,TabIn H p.1 p.2
structure Kp(H H':Hp):Prop where
 tups:Tups H H'
 frzs:∀b o u,H b=some (.frz o u)->H' b=some (.frz o u)
 tab:TB H->TB H'
theorem Kp.refl(H):Kp H H:=⟨Tups.refl H,fun _ _ _ h=>h,fun h=>h⟩
theorem Kp.trans(a:Kp H d)(b:Kp d e):Kp H e:=⟨a.tups.trans b.tups,fun c o u h=>b.frzs c o u (a.frzs c o u h),fun h=>b.tab (a.tab h)⟩
theorem Kp.same(a:Tups H d)(b:∀b o u,H b=some (.frz o u)->d b=some (.frz o u))(c:∀P ps,H P=some (.tbl ps)->d P=some (.tbl ps)):Kp H d:=⟨a,b,fun h p e=>by obtain⟨ps,f,_⟩:=id (h p e);exact(h p e).up ((c _ _ f).trans f.symm) b⟩
theorem FixL.kp(h:FixL K H a xs)(k:Kp H b):FixL K b a xs:=h.elim (fun z=>(by obtain⟨o,e⟩:=z;exact .inl ⟨o,k.frzs _ _ _ e⟩)) .inr
mutual
def RV(K:PySem.W.Frag)(ι:List Addr)(H:Hp):D->V->Prop
 |.non,v=>v=.non|.bl b,v=>v=.bl b|.int i,v=>v=.int i|.str x,v=>v=.str x|.tup ds,v=>∃a xs,v=.ref a/\H a=some (.tup xs)/\RVs K ι H ds xs|.ref l,v=>∃a,ι[l]?=some a/\v=.ref a|.fix ds,v=>∃a xs,v=.ref a/\FixL K H a xs/\RVs K ι H ds xs
def RVs(K:PySem.W.Frag)(ι:List Addr)(H:Hp):List D->List V->Prop
 | [],vs=>vs=[]|d::ds,vs=>∃v r,vs=v::r/\RV K ι H d v/\RVs K ι H ds r
end
noncomputable def kI(k:List Int):List Key:=k.map Sum.inl
def RKs(K:PySem.W.Frag)(b:List Addr)(H:Hp):List (List Int×D)->List (List Key×V)->Prop
 | [],a=>a=[]|(k,d)::r,a=>∃v w,a=(kI k,v)::w/\RV K b H d v/\RKs K b H r w
def RIs(K:PySem.W.Frag)(b:List Addr)(H:Hp):List (Int×D)->List (Key×V)->Prop
 | [],a=>a=[]|(k,d)::r,a=>∃v w,a=((Sum.inl k:Key),v)::w/\RV K b H d v/\RIs K b H r w
def RFs(K:PySem.W.Frag)(b:List Addr)(H:Hp):List (Str×D)->List (Str×V)->Prop
 | [],a=>a=[]|(f,d)::r,a=>∃v w,a=(f,v)::w/\RV K b H d v/\RFs K b H r w
def RO(K:PySem.W.Frag)(e:List Addr)(H:Hp)(a:Addr):MO->Prop
 |.lst i=>∃h,H a=some (.lst h)/\RVs K e H i h|.dic b=>(b.map (·.1)).Nodup/\∃d,H a=some (.dK d)/\RIs K e H b d|.ins c g=>∃C f d,Mks.cl[c]?=some C/\H a=some (.ins C f d)/\RFs K e H g d|.dtp b=>(b.map (·.1)).Nodup/\∃d,H a=some (.dT d)/\RKs K e H b d|.exc c g=>∃C f j d,Mks.xc[c]?=some C/\H a=some (XO a C f)/\H f=some (.frz j (.xd d))/\RFs K e H g d
structure RH(K:PySem.W.Frag)(ι:List Addr)(H:Hp)(S:St):Prop where
 len:ι.length=S.len
 nd:ι.Nodup
 obj:∀l o,S.get l=some o->∃a,ι[l]?=some a/\RO K ι H a o
 tab:TB H
structure Ext(ι:List Addr)(H:Hp)(ι':List Addr)(H':Hp):Prop where
 pre:ι <+: ι'
 kp:Kp H H'
 rest:∀a o,a∉ι->H a=some o->(H' a=some o\/((∃ps,o=.tbl ps)/\∃ps,H' a=some (.tbl ps)))/\a∉ι'
theorem Ext.refl(b)(H):Ext b H b H:=⟨prefix_refl _,Kp.refl H,fun a o h e=>⟨.inl e,h⟩⟩
theorem Ext.trans(a:Ext j H f k)(b:Ext f k g l):Ext j H g l:=⟨a.pre.trans b.pre,a.kp.trans b.kp,fun x o h e=>by obtain⟨c,i⟩:=a.rest x o h e;rcases c with c|⟨t,m,c⟩;exact b.rest x o i c;obtain⟨d,n⟩:=b.rest x _ i c;refine⟨.inr ⟨t,?_⟩,n⟩;rcases d with d|⟨_,d⟩;exact⟨m,d⟩;exact d⟩
theorem Ext.keep(x:Ext b H c d)(h:a∉b)(e:H a=some o)(n:∀ps,o≠.tbl ps):d a=some o:=(x.rest a o h e).1.elim id fun k=>(by obtain⟨⟨ps,z⟩,_⟩:=k;exact absurd z (n ps))
theorem zbV(h:c <+: b){l:Nat}{a:Addr}(e:c[l]?=some a):b[l]?=some a:=by obtain⟨t,rfl⟩:=h;rw[getElem?_append_left (List.getElem?_eq_some_iff.mp e).1];exact e
mutual
theorem RV.up{K:PySem.W.Frag}{ι ι':List Addr}{H H':Hp}(hp:ι <+: ι')(hk:Kp H H'):∀{d:D}{v:V},RV K ι H d v->RV K ι' H' d v
 |.non,_,r=>r|.bl _,_,r=>r|.int _,_,r=>r|.str _,_,r=>r| .tup ds,_,r=>by obtain⟨a,xs,e,ha,q⟩:=r;exact⟨a,xs,e,hk.tups _ _ ha,RVs.up hp hk q⟩| .ref l,_,r=>by obtain⟨a,e,q⟩:=r;exact⟨a,zbV hp e,q⟩| .fix ds,_,r=>by obtain⟨a,xs,e,ha,q⟩:=r;exact⟨a,xs,e,ha.kp hk,RVs.up hp hk q⟩
theorem RVs.up{K:PySem.W.Frag}{ι ι':List Addr}{H H':Hp}(hp:ι <+: ι')(hk:Kp H H'):∀{ds:List D}{vs:List V},RVs K ι H ds vs->RVs K ι' H' ds vs
 | [],_,r=>r| d::ds,vs,r=>by obtain⟨v,w,e,r1,r2⟩:=r;exact⟨v,w,e,RV.up hp hk r1,RVs.up hp hk r2⟩
end
theorem RKs.up(c:g <+: a)(f:Kp H h):∀{kvs:List (List Int×D)}{b:List (List Key×V)},RKs K g H kvs b->RKs K a h kvs b
 | [],_,r=>r| (k,d)::kvs,b,r=>by obtain⟨v,w,e,i,j⟩:=r;exact⟨v,w,e,RV.up c f i,RKs.up c f j⟩
theorem RIs.up(c:g <+: a)(f:Kp H h):∀{kvs:List (Int×D)}{b:List (Key×V)},RIs K g H kvs b->RIs K a h kvs b
 | [],_,r=>r| (k,d)::kvs,b,r=>by obtain⟨v,w,e,i,j⟩:=r;exact⟨v,w,e,RV.up c f i,RIs.up c f j⟩
theorem RFs.up(b:j <+: a)(c:Kp H k):∀{g:List (Str×D)}{i:List (Str×V)},RFs K j H g i->RFs K a k g i
 | [],_,h=>h| (f,d)::r,_,h=>by obtain⟨v,w,e,l,m⟩:=h;exact⟨v,w,e,RV.up b c l,RFs.up b c m⟩
theorem RFs.length:∀{a:List (Str×D)}{b:List (Str×V)},RFs K e H a b->b.length=a.length
 | [],_,h=>by cases(show _=[] from h);rfl| (f,d)::r,_,h=>by obtain⟨v,w,rfl,g,c⟩:=h;simp[RFs.length c]
theorem RFs.look(f):∀{a:List (Str×D)}{b:List (Str×V)},RFs K e H a b->(a.lookup f=none/\b.lookup f=none)\/∃d v,a.lookup f=some d/\b.lookup f=some v/\RV K e H d v
 | [],_,h=>by cases(show _=[] from h);exact .inl ⟨rfl,rfl⟩| (g,d)::r,_,h=>by
  obtain⟨v,w,rfl,i,j⟩:=h;by_cases c:(f==g)=true;exact .inr ⟨d,v,by simp only[List.lookup,c],by simp only[List.lookup,c],i⟩;have c:(f==g)=false:=by simpa using c
  simp only[List.lookup,c];exact RFs.look f j
theorem RFs.put(f)(q:RV K a H d v):∀{b:List (Str×D)}{e:List (Str×V)},RFs K a H b e->RFs K a H (zjM f d b) (putF f v e)
 | [],_,h=>by cases(show _=[] from h);exact⟨v,[],rfl,q,rfl⟩| (g,x)::r,_,h=>by obtain⟨u,w,rfl,j,i⟩:=h;unfold zjM putF;by_cases c:g=f;rw[if_pos c,if_pos c];exact⟨v,w,rfl,q,i⟩;rw[if_neg c,if_neg c];exact⟨u,_,rfl,j,RFs.put f q i⟩
theorem zkq(h:kI j=kI k):j=k:=(List.map_inj_right (fun a b e=>Sum.inl.inj e)).mp h
theorem RKs.length:∀{kvs:List (List Int×D)}{a:List (List Key×V)},RKs K c H kvs a->a.length=kvs.length
 | [],_,r=>by rw[show _=[] from r];rfl| (k,d)::kvs,a,r=>by obtain⟨v,w,rfl,_,b⟩:=r;simp[RKs.length b]
theorem RIs.length:∀{kvs:List (Int×D)}{a:List (Key×V)},RIs K c H kvs a->a.length=kvs.length
 | [],_,r=>by rw[show _=[] from r];rfl| (k,d)::kvs,a,r=>by obtain⟨v,w,rfl,_,b⟩:=r;simp[RIs.length b]
theorem RKs.val(k):∀{kvs:List (List Int×D)}{a:List (List Key×V)},RKs K b H kvs a->(valP kvs k=none/\valV a (kI k)=none)\/∃d v,valP kvs k=some d/\valV a (kI k)=some v/\RV K b H d v
 | [],_,r=>by rw[show _=[] from r];exact .inl ⟨rfl,rfl⟩| (j,d)::kvs,a,r=>by
  obtain⟨v,w,rfl,c,f⟩:=r;by_cases e:j=k;subst e;exact .inr ⟨d,v,by simp[valP],by simp[valV],c⟩;have g:¬kI j=kI k:=fun z=>e (zkq z);have h:valP ((j,d)::kvs) k=valP kvs k:=by simp[valP,e]
  have i:valV ((kI j,v)::w) (kI k)=valV w (kI k):=by simp[valV,g]
  rw[h,i];exact RKs.val k f
theorem zfP[DecidableEq a]{x:a×V}{r:List (a×V)}{k:a}(h:x.1≠k):putK (x::r) k v=x::putK r k v:=by unfold putK;have:decide (x.1=k)=false:=decide_eq_false h;simp only[any_cons,this,Bool.false_or];split;rw[map_cons,if_neg h];rfl
theorem RKs.keys:∀{kvs:List (List Int×D)}{a:List (List Key×V)},RKs K c H kvs a->a.map (·.1)=kvs.map (fun p=>kI p.1)
 | [],_,r=>by rw[show _=[] from r];rfl| (k,d)::kvs,a,r=>by obtain⟨v,w,rfl,_,b⟩:=r;simp[RKs.keys b]
theorem RIs.keys:∀{kvs:List (Int×D)}{a:List (Key×V)},RIs K c H kvs a->a.map (·.1)=kvs.map (fun p=>(Sum.inl p.1:Key))
 | [],_,r=>by rw[show _=[] from r];rfl| (k,d)::kvs,a,r=>by obtain⟨v,w,rfl,_,b⟩:=r;simp[RIs.keys b]
theorem RKs.put(k)(q:RV K m H d v):∀{kvs:List (List Int×D)}{b:List (List Key×V)},(kvs.map (·.1)).Nodup->RKs K m H kvs b->RKs K m H (putP kvs k d) (putK b (kI k) v)
 | [],_,_,r=>by rw[show _=[] from r];exact⟨v,[],rfl,q,rfl⟩| (j,e)::kvs,b,c,r=>by
  obtain⟨u,w,rfl,o,f⟩:=r;simp only[map_cons,nodup_cons]at c;by_cases z:j=k;subst z;have h:putP ((j,e)::kvs) j d=(j,d)::kvs:=by simp[putP]
  have i:putK ((kI j,u)::w) (kI j) v=(kI j,v)::w:=by
   unfold putK;have:(((kI j,u)::w).any fun a=>decide (a.1=kI j))=true:=by simp
   rw[if_pos this,map_cons,if_pos rfl,List.map_congr_left,List.map_id];intro a l;have n:a.1∈w.map (·.1):=mem_map.mpr ⟨a,l,rfl⟩;rw[f.keys]at n;obtain⟨p,s,t⟩:=mem_map.mp n;have:a.1≠kI j:=fun y=>c.1 (by
    rw[<-t]at y;rw[<-zkq y];exact mem_map.mpr ⟨p,s,rfl⟩)
   simp[this]
  rw[h,i];exact⟨v,w,rfl,q,f⟩;have h:putP ((j,e)::kvs) k d=(j,e)::putP kvs k d:=by simp[putP,z]
  have i:putK ((kI j,u)::w) (kI k) v=(kI j,u)::putK w (kI k) v:=zfP fun y=>z (zkq y);rw[h,i];exact⟨u,_,rfl,o,RKs.put k q c.2 f⟩
theorem RIs.put(k)(q:RV K m H d v):∀{kvs:List (Int×D)}{b:List (Key×V)},(kvs.map (·.1)).Nodup->RIs K m H kvs b->RIs K m H (putI kvs k d) (putK b (Sum.inl k:Key) v)
 | [],_,_,r=>by rw[show _=[] from r];exact⟨v,[],rfl,q,rfl⟩| (j,e)::kvs,b,c,r=>by
  obtain⟨u,w,rfl,o,f⟩:=r;simp only[map_cons,nodup_cons]at c;by_cases z:j=k;subst z;have h:putI ((j,e)::kvs) j d=(j,d)::kvs:=by simp[putI]
  have i:putK (((Sum.inl j:Key),u)::w) (Sum.inl j:Key) v=((Sum.inl j:Key),v)::w:=by
   unfold putK;have:((((Sum.inl j:Key),u)::w).any fun a=>decide (a.1=(Sum.inl j:Key)))=true:=by simp
   rw[if_pos this,map_cons,if_pos rfl,List.map_congr_left,List.map_id];intro a l;have n:a.1∈w.map (·.1):=mem_map.mpr ⟨a,l,rfl⟩;rw[f.keys]at n;obtain⟨p,s,t⟩:=mem_map.mp n;have:a.1≠(Sum.inl j:Key):=fun y=>c.1 (by
    rw[<-t]at y;rw[<-Sum.inl.inj y];exact mem_map.mpr ⟨p,s,rfl⟩)
   simp[this]
  rw[h,i];exact⟨v,w,rfl,q,f⟩;have h:putI ((j,e)::kvs) k d=(j,e)::putI kvs k d:=by simp[putI,z]
  have i:putK (((Sum.inl j:Key),u)::w) (Sum.inl k:Key) v=((Sum.inl j:Key),u)::putK w (Sum.inl k:Key) v:=zfP fun y=>z (Sum.inl.inj y);rw[h,i];exact⟨u,_,rfl,o,RIs.put k q c.2 f⟩
theorem zfO(k)(d):∀kvs:List (List Int×D),(putP kvs k d).map (·.1)=if k∈kvs.map (·.1) then kvs.map (·.1) else kvs.map (·.1)++[k]
 | []=>by simp[putP]| (j,e)::r=>by unfold putP;by_cases z:j=k;subst z;simp;have a:=zfO k d r;rw[if_neg z];simp only[map_cons,mem_cons,a];by_cases h:k∈r.map (·.1);rw[if_pos h,if_pos (.inr h)];rw[if_neg h,if_neg (by rintro(y|y);exact z y.symm;exact h y)];rfl
theorem ziA(h:(kvs.map (·.1)).Nodup):((putP kvs k d).map (·.1)).Nodup:=by rw[zfO];split;exact h;rename_i n;rw[nodup_append];refine⟨h,by simp,fun a e b c=>?_⟩;rw[mem_singleton]at c;subst c;exact fun z=>n (z▸e)
theorem zfQ(k)(d):∀kvs:List (Int×D),(putI kvs k d).map (·.1)=if k∈kvs.map (·.1) then kvs.map (·.1) else kvs.map (·.1)++[k]
 | []=>by simp[putI]| (j,e)::r=>by unfold putI;by_cases z:j=k;subst z;simp;have a:=zfQ k d r;rw[if_neg z];simp only[map_cons,mem_cons,a];by_cases h:k∈r.map (·.1);rw[if_pos h,if_pos (.inr h)];rw[if_neg h,if_neg (by rintro(y|y);exact z y.symm;exact h y)];rfl
theorem ziB(h:(kvs.map (·.1)).Nodup):((putI kvs k d).map (·.1)).Nodup:=by rw[zfQ];split;exact h;rename_i n;rw[nodup_append];refine⟨h,by simp,fun a e b c=>?_⟩;rw[mem_singleton]at c;subst c;exact fun z=>n (z▸e)
theorem RV.ext(h:Ext b H a c)(r:RV K b H d v):RV K a c d v:=r.up h.pre h.kp
theorem RVs.ext(h:Ext b H a c)(r:RVs K b H ds vs):RVs K a c ds vs:=r.up h.pre h.kp
theorem RVs.length:∀{ds:List D}{vs:List V},RVs K b H ds vs->vs.length=ds.length
 | [],_,r=>by rw[show _=[] from r];rfl| d::ds,vs,r=>by obtain⟨v,w,rfl,_,a⟩:=r;simp[RVs.length a]
theorem RVs.get:∀{ds:List D}{vs:List V}{i:Nat}{d:D},RVs K b H ds vs->ds[i]?=some d->∃v,vs[i]?=some v/\RV K b H d v
 | [],_,_,_,_,e=>by simp at e| d::ds,vs,0,a,r,e=>by obtain⟨v,w,rfl,c,_⟩:=r;simp at e;subst e;exact⟨v,rfl,c⟩| d::ds,vs,i+1,a,r,e=>by obtain⟨v,w,rfl,_,f⟩:=r;obtain⟨u,g,h⟩:=RVs.get f (by simpa using e);exact⟨u,by simpa using g,h⟩
theorem RVs.get'{i:Nat}(r:RVs K c H ds vs)(e:vs[i]?=some v):∃d,ds[i]?=some d/\RV K c H d v:=by
 have a:i<ds.length:=by rw[<-r.length];exact(List.getElem?_eq_some_iff.mp e).1
 obtain⟨u,b,f⟩:=r.get (getElem?_eq_getElem a);rw[e]at b;cases b;exact⟨_,getElem?_eq_getElem a,f⟩
theorem RVs.append:∀{ds es:List D}{vs us:List V},RVs K a H ds vs->RVs K a H es us->RVs K a H (ds++es) (vs++us)
 | [],_,_,_,r,q=>by rw[show _=[] from r];exact q| d::ds,es,vs,us,r,q=>by obtain⟨v,w,rfl,b,c⟩:=r;exact⟨v,w++us,rfl,b,RVs.append c q⟩
theorem RVs.ints:∀a:List Int,RVs K b H (a.map D.int) (a.map V.int)
 | []=>rfl|n::a=>⟨_,_,rfl,rfl,RVs.ints a⟩
theorem RVs.ints_eq:∀{a:List Int}{vs:List V},RVs K d H (a.map D.int) vs->vs=a.map V.int
 | [],_,h=>h| n::a,vs,h=>by obtain⟨v,r,rfl,b,c⟩:=h;rw[RVs.ints_eq c,show v=.int n from b];rfl
theorem ze9:∀{ds:List D}{a:List Int},za3 ds=some a->ds=a.map D.int:=by
 intro ds;unfold za3;induction ds with
 |nil=>intro a h;simp at h;subst h;rfl| cons d ds b=>
  intro a h;rw[mapM_cons]at h;cases d with
  |int i=>cases e:List.mapM zc0 ds with|none=>rw[e]at h;simp[zc0]at h|some c=>rw[e]at h;simp[zc0]at h;subst h;simp[b e]
  |_=>simp[zc0]at h
mutual
theorem RV.flat{K:PySem.W.Frag}{ι:List Addr}{H:Hp}:∀{d:D}{v:V},RV K ι H d v->R.flat ι.length d=true
 |.non,_,_=>by simp[R.flat]|.bl _,_,_=>by simp[R.flat]|.int _,_,_=>by simp[R.flat]|.str _,_,_=>by simp[R.flat]| .tup ds,_,r=>by obtain⟨a,xs,e,ha,q⟩:=r;simp only[R.flat];exact RVs.flats q| .ref l,_,r=>by obtain⟨a,e,q⟩:=r;simp only[R.flat,decide_eq_true_eq];exact(List.getElem?_eq_some_iff.mp e).1| .fix ds,_,r=>by obtain⟨a,xs,e,ha,q⟩:=r;simp only[R.flat];exact RVs.flats q
theorem RVs.flats{K:PySem.W.Frag}{ι:List Addr}{H:Hp}:∀{ds:List D}{vs:List V},RVs K ι H ds vs->R.flats ι.length ds=true
 | [],_,_=>by simp[R.flats]| d::ds,vs,r=>by obtain⟨v,w,e,r1,r2⟩:=r;simp only[R.flats,and_eq_true];exact⟨RV.flat r1,RVs.flats r2⟩
end
mutual
theorem RV.restrict{K:PySem.W.Frag}{ι ι':List Addr}{H:Hp}(hp:ι <+: ι'):∀{d:D}{v:V},R.flat ι.length d=true->RV K ι' H d v->RV K ι H d v
 |.non,_,_,r=>r|.bl _,_,_,r=>r|.int _,_,_,r=>r|.str _,_,_,r=>r| .tup ds,_,f,r=>by obtain⟨a,xs,e,ha,q⟩:=r;simp only[R.flat]at f;exact⟨a,xs,e,ha,RVs.restrict hp f q⟩| .ref l,_,f,r=>by obtain⟨a,e,q⟩:=r;simp only[R.flat,decide_eq_true_eq]at f;refine⟨a,?_,q⟩;obtain⟨t,rfl⟩:=hp;rw[getElem?_append_left f]at e;exact e| .fix ds,_,f,r=>by obtain⟨a,xs,e,ha,q⟩:=r;simp only[R.flat]at f;exact⟨a,xs,e,ha,RVs.restrict hp f q⟩
theorem RVs.restrict{K:PySem.W.Frag}{ι ι':List Addr}{H:Hp}(hp:ι <+: ι'):∀{ds:List D}{vs:List V},R.flats ι.length ds=true->RVs K ι' H ds vs->RVs K ι H ds vs
 | [],_,_,r=>r| d::ds,vs,f,r=>by obtain⟨v,w,e,r1,r2⟩:=r;simp only[R.flats,and_eq_true]at f;exact⟨v,w,e,RV.restrict hp f.1 r1,RVs.restrict hp f.2 r2⟩
end
theorem RKs.flats:∀{kvs:List (List Int×D)}{a:List (List Key×V)},RKs K b H kvs a->R.flats b.length (kvs.map (·.2))=true
 | [],_,_=>by simp[R.flats]| (k,d)::kvs,a,r=>by obtain⟨v,w,e,c,f⟩:=r;simp only[map_cons,R.flats,and_eq_true];exact⟨RV.flat c,RKs.flats f⟩
theorem RKs.restrict(c:g <+: a):∀{kvs:List (List Int×D)}{b:List (List Key×V)},R.flats g.length (kvs.map (·.2))=true->RKs K a H kvs b->RKs K g H kvs b
 | [],_,_,r=>r| (k,d)::kvs,b,f,r=>by obtain⟨v,w,e,h,i⟩:=r;simp only[map_cons,R.flats,and_eq_true]at f;exact⟨v,w,e,RV.restrict c f.1 h,RKs.restrict c f.2 i⟩
theorem RIs.flats:∀{kvs:List (Int×D)}{a:List (Key×V)},RIs K b H kvs a->R.flats b.length (kvs.map (·.2))=true
 | [],_,_=>by simp[R.flats]| (k,d)::kvs,a,r=>by obtain⟨v,w,e,c,f⟩:=r;simp only[map_cons,R.flats,and_eq_true];exact⟨RV.flat c,RIs.flats f⟩
theorem RIs.restrict(c:g <+: a):∀{kvs:List (Int×D)}{b:List (Key×V)},R.flats g.length (kvs.map (·.2))=true->RIs K a H kvs b->RIs K g H kvs b
 | [],_,_,r=>r| (k,d)::kvs,b,f,r=>by obtain⟨v,w,e,h,i⟩:=r;simp only[map_cons,R.flats,and_eq_true]at f;exact⟨v,w,e,RV.restrict c f.1 h,RIs.restrict c f.2 i⟩
theorem RFs.flats:∀{a:List (Str×D)}{b:List (Str×V)},RFs K c H a b->R.flats c.length (a.map (·.2))=true
 | [],_,_=>by simp| (f,d)::r,_,h=>by obtain⟨v,w,_,e,g⟩:=h;simp only[map_cons,zcc,and_eq_true];exact⟨RV.flat e,RFs.flats g⟩
theorem RFs.restrict(g:i <+: a):∀{b:List (Str×D)}{j:List (Str×V)},R.flats i.length (b.map (·.2))=true->RFs K a H b j->RFs K i H b j
 | [],_,_,h=>h| (f,d)::r,_,c,h=>by obtain⟨v,w,e,k,l⟩:=h;simp only[map_cons,zcc,and_eq_true]at c;exact⟨v,w,e,RV.restrict g c.1 k,RFs.restrict g c.2 l⟩
theorem RO.up(h:RO K p H a o)(j:p <+: k)(i:Kp H n)(e:n a=H a):RO K k n a o:=by cases o with|lst u=>obtain⟨q,b,d⟩:=h;exact⟨q,e.trans b,d.up j i⟩|dic l=>obtain⟨f,g,b,d⟩:=h;exact⟨f,g,e.trans b,d.up j i⟩|ins c r=>obtain⟨C,m,g,f,b,d⟩:=h;exact⟨C,m,g,f,e.trans b,d.up j i⟩|dtp l=>obtain⟨f,g,b,d⟩:=h;exact⟨f,g,e.trans b,d.up j i⟩|exc c r=>obtain⟨C,m,s,g,f,b,d,t⟩:=h;exact⟨C,m,s,g,f,e.trans b,i.frzs _ _ _ d,t.up j i⟩
theorem RO.stay(h:RO K d H a o)(x:Ext d H b c)(e:c a=H a):RO K b c a o:=h.up x.pre x.kp e
section
variable{K:PySem.W.Frag}{ι ι':List Addr}{H H':Hp}{S S' T:St}{l:Nat}{a p:Addr}
theorem RH.mem(h:RH K ι H S)(e:S.get l=some o):∃a,ι[l]?=some a/\RO K ι H a o/\a∈ι:=by obtain⟨a,b,c⟩:=h.obj l o e;exact⟨a,b,c,mem_of_getElem? b⟩
theorem zmG(h:l<S.len):∃o,S.get l=some o:=by unfold St.len at h;unfold St.get;split;rename_i c;exact⟨_,getElem?_eq_getElem c⟩;exact⟨_,getElem?_eq_getElem (by omega)⟩
theorem RH.off(h:RH K ι H S)(x:Ext ι H ι H')(e:∀a∈ι,H' a=H a):RH K ι H' S:=⟨h.len,h.nd,fun l o q=>let ⟨a,b,c,d⟩:=h.mem q;⟨a,b,c.stay x (e a d)⟩,x.kp.tab h.tab⟩
theorem RH.live(h:RH K ι H S)(m:a∈ι):∃o,H a=some o/\(∀xs,o≠.tup xs)/\(∀z u,o≠.frz z u)/\∀ps,o≠.tbl ps:=by
 obtain⟨l,j⟩:=List.mem_iff_getElem?.mp m;have f:l<S.len:=by rw[<-h.len];exact(List.getElem?_eq_some_iff.mp j).1
 obtain⟨o,e⟩:=zmG f;obtain⟨b,k,d⟩:=h.obj l o e;rw[j]at k;cases k;cases o with|lst s=>obtain⟨xs,q,_⟩:=d;exact⟨_,q,⟨fun _ z=>(by cases z),fun _ _ z=>(by cases z),fun _ z=>(by cases z)⟩⟩|dic g=>obtain⟨_,i,q,_⟩:=d;exact⟨_,q,⟨fun _ z=>(by cases z),fun _ _ z=>(by cases z),fun _ z=>(by cases z)⟩⟩|ins c n=>obtain⟨C,r,i,_,q,_⟩:=d;exact⟨_,q,⟨fun _ z=>(by cases z),fun _ _ z=>(by cases z),fun _ z=>(by cases z)⟩⟩|dtp g=>obtain⟨_,i,q,_⟩:=d;exact⟨_,q,⟨fun _ z=>(by cases z),fun _ _ z=>(by cases z),fun _ z=>(by cases z)⟩⟩|exc c n=>obtain⟨C,r,t,i,_,q,_⟩:=d;exact⟨_,q,⟨fun _ z=>(by cases z),fun _ _ z=>(by cases z),fun _ z=>(by cases z)⟩⟩
theorem RH.fresh(h:RH K ι H S)(b:H p=Option.none):p∉ι:=fun c=>by obtain⟨o,e,_⟩:=h.live c;rw[b]at e;cases e
theorem RH.notup(h:RH K ι H S)(b:H p=some (.tup xs)):p∉ι:=fun c=>by obtain⟨o,e,q,_⟩:=h.live c;rw[b]at e;cases e;exact q _ rfl
theorem Kp.new(c:H p=Option.none)(o):Kp H (upd H p o):=.same (Tups.upd_new c) (fun b z u e=>by rw[zae (zaj e c)];exact e) fun b d e=>by rw[zae (zaj e c)];exact e
theorem Ext.new(b:H p=Option.none)(o):Ext ι H ι (upd H p o):=⟨prefix_refl _,Kp.new b o,fun a u h e=>⟨.inl (by rw[zae (zaj e b)];exact e),h⟩⟩
theorem RH.new(h:RH K ι H S)(b:H p=Option.none)(o):RH K ι (upd H p o) S:=h.off (Ext.new b o) fun a c=>zae fun e=>h.fresh b (e▸c)
theorem zfb(S:St)(o):(S.push o).get S.len=some o:=by
 have h:¬S.len<S.frz.length:=by unfold St.len;lia
 unfold St.get St.push;unfold St.len;simp
theorem zco(h:l<S.len):(S.push o).get l=S.get l:=by unfold St.len at h;unfold St.get St.push;simp only;split;rfl;rw[getElem?_append_left (by omega)]
theorem zb7(S:St)(o):(S.push o).len=S.len+1:=by simp[St.push,St.len];lia
theorem Ext.obj(h:RH K ι H S)(b:H p=Option.none)(u):Ext ι H (ι++[p]) (upd H p u):=
 ⟨prefix_append _ _,Kp.new b u,fun a o c e=>⟨.inl (by rw[zae (zaj e b)];exact e),by
  intro z;rcases mem_append.mp z with z|z;exact c z;simp at z;exact zaj e b z⟩⟩
theorem RH.obj'(h:RH K ι H S)(c:H p=Option.none)(u)(o)(g:RO K (ι++[p]) (upd H p u) p o):RH K (ι++[p]) (upd H p u) (S.push o):=by
 refine⟨by rw[length_append,h.len,zb7];rfl,?_,fun l q e=>?_,(Kp.new c u).tab h.tab⟩;rw[nodup_append];refine⟨h.nd,by simp,fun a i b f=>?_⟩;simp at f;subst f;exact fun z=>h.fresh c (z▸i);by_cases j:l<S.len;rw[zco j]at e;obtain⟨a,k,m,n⟩:=h.mem e;exact⟨a,zbV (prefix_append _ _) k,m.stay (Ext.obj h c u) (zae fun z=>h.fresh c (z▸n))⟩;have d:=get_lt e;rw[zb7]at d;have:l=S.len:=by lia
 subst this;rw[zfb]at e;cases e;exact⟨p,by rw[<-h.len];simp,g⟩
theorem RH.lay(h:RH K ι H S)(b:H p=Option.none)(r:RVs K ι H ds xs):RH K (ι++[p]) (upd H p (.lst xs)) (S.push (.lst ds)):=h.obj' b _ _ ⟨xs,zag,r.ext (Ext.obj h b _)⟩
theorem RH.last(h:RH K ι H S)(p):(ι++[p])[S.len]?=some p:=by rw[<-h.len];simp
theorem Ext.wr(h:RH K ι H S)(e:S.get l=some o)(f:ι[l]?=some a)(u):Ext ι H ι (upd H a u):=by have d:=mem_of_getElem? f;refine⟨prefix_refl _,.same (fun b g c=>?_) (fun b z v c=>?_) fun b i c=>?_,fun b o c e=>⟨.inl ((zae fun(z:b=a)=>c (by rw[z];exact d)).trans e),c⟩⟩;rw[zae];exact c;rintro rfl;exact h.notup c d;rw[zae];exact c;rintro rfl;obtain⟨o,e,_,q,_⟩:=h.live d;rw[c]at e;cases e;exact q _ _ rfl;rw[zae];exact c;rintro rfl;obtain⟨o,e,_,_,q⟩:=h.live d;rw[c]at e;cases e;exact q _ rfl
theorem zoQ(e:S.put l o=some S'):S'.len=S.len/\(l<S.len->S'.get l=some o)/\(∀m,m≠l->S'.get m=S.get m)/\S.frz.length<=l:=by unfold St.put at e;split at e;cases e;split at e;cases e;injection e with e;subst e;rename_i b d;refine⟨by simp[St.len],fun c=>?_,fun m f=>?_,by lia⟩;unfold St.len at c;unfold St.get;simp only[b,if_false];rw[getElem?_set_self (by lia)];unfold St.get;split;rfl;rw[getElem?_set_ne (by lia)]
theorem RH.wr(h:RH K ι H S)(e:S.get l=some o)(d:ι[l]?=some a)(w:S.put l i=some S')(j:RO K ι (upd H a u) a i):RH K ι (upd H a u) S':=by obtain⟨k,n,q,_⟩:=zoQ w;refine⟨h.len.trans k.symm,h.nd,fun m t c=>?_,(Ext.wr h e d u).kp.tab h.tab⟩;by_cases f:m=l;subst f;rw[n (get_lt e)]at c;cases c;exact⟨a,d,j⟩;rw[q m f]at c;obtain⟨b,g,r,_⟩:=h.mem c;refine⟨b,g,r.stay (Ext.wr h e d u) (zae ?_)⟩;rintro rfl;obtain⟨v,s⟩:=List.getElem?_eq_some_iff.mp d;obtain⟨x,c⟩:=List.getElem?_eq_some_iff.mp g;exact f ((List.getElem_inj h.nd).mp (c.trans s.symm))
end
end R
namespace R
open PySem PySem.Spec PyProof.Rows L2
variable[Mks]
def Lf(K:PySem.W.Frag)(e:List Addr)(H:Hp)(Q:D->R.St->Prop):VK:=fun v b=>∃d a c,Ext e H a b/\RV K a b d v/\RH K a b c/\Q d c
section
variable{K:PySem.W.Frag}{ι ι':List Addr}{H H':Hp}{S S':R.St}{Q:D->R.St->Prop}{d:D}{v:V}{p:Addr}
theorem Lf.of(h:RH K ι H S)(r:RV K ι H d v)(q:Q d S):Lf K ι H Q v H:=⟨d,ι,S,Ext.refl ι H,r,h,q⟩
theorem Lf.up(x:Ext ι H ι' H')(h:Lf K ι' H' Q v b):Lf K ι H Q v b:=by obtain⟨d,a,c,e,r⟩:=h;exact⟨d,a,c,x.trans e,r⟩
theorem Lf.tup(h:RH K ι H S)(a:H p=Option.none){ds:List D}{xs:List V}(r:RVs K ι H ds xs)(q:Q (.tup ds) S):Lf K ι H Q (.ref p) (upd H p (.tup xs)):=⟨.tup ds,ι,S,Ext.new a _,⟨p,xs,rfl,zag,r.ext (Ext.new a _)⟩,h.new a _,q⟩
theorem Lf.lst(h:RH K ι H S)(a:H p=Option.none){ds:List D}{xs:List V}(r:RVs K ι H ds xs)(q:Q (.ref S.len) (S.push (.lst ds))):Lf K ι H Q (.ref p) (upd H p (.lst xs)):=⟨.ref S.len,ι++[p],S.push (.lst ds),Ext.obj h a _,⟨p,h.last p,rfl⟩,h.lay a r,q⟩
theorem Lf.wr(h:RH K ι H S)(e:S.get l=some o)(b:ι[l]?=some a)(w:S.put l (.lst ds)=some S')(r:RVs K ι H ds xs)(c:RV K ι H d v)(q:Q d S'):Lf K ι H Q v (upd H a (.lst xs)):=⟨d,ι,S',Ext.wr h e b _,c.ext (Ext.wr h e b _),h.wr e b w ⟨xs,zag,r.ext (Ext.wr h e b _)⟩,q⟩
end
theorem zhU(h:W (lay S ds) Q):ds.length<=sizeLine/\Q (.ref S.len) (S.push (.lst ds)):=by unfold lay at h;split at h;rename_i c;exact⟨by exact c,h⟩;exact h.elim
theorem zp4(h:W (wr S l ds d) Q):ds.length<=sizeLine/\∃a,S.put l (.lst ds)=some a/\Q d a:=by
 unfold wr at h;split at h;rename_i c;refine⟨by exact c,?_⟩;cases e:S.put l (.lst ds) with|none=>rw[e]at h;exact h.elim|some a=>rw[e]at h;exact⟨a,rfl,h⟩
 exact h.elim
def rD2(K:PySem.W.Frag)(f:R.St->D->D->Out D):R2:=fun x y H g=>∃a S d e b,RV K a H d x/\RV K a H e y/\RH K a H S/\W (f S d e) b/\∀v c,Lf K a H b v c->g v c
section
variable{X:Cx}
theorem zmZ{vs g:List Value}(m:IsTup s.heap t vs.toArray)(o:IsTup s.heap b g.toArray)(hv:vs=[])(p:Q (.ref b) s):wpAny (model prog w) A (binaryOp .Add (.ref t) (.ref b)) Q E s:=by
 obtain⟨⟨q,r,h,u⟩,i,j,n,k⟩:=id m;obtain⟨⟨l,e,data2,f⟩,a,c,v,d⟩:=id o;subst j k c d;exact concat_meets ⟨_,i,rfl⟩ ⟨_,a,rfl⟩ noFill_tuple_add seq_tuple_add PySem.F.slot_tuple_add PySem.F.entry_tuple_add (PySem.F.args_tuple_add_2 _ _)
  (tuple_addW0 t b vs.toArray g.toArray n v r e u f (by simp[hv])) ⟨i,a,p⟩
theorem zmm:OpR X (binaryOp .Add) (fun x y H Q=>∃a b ys,x=.ref a/\y=.ref b/\SqT X.K H a []/\SqT X.K H b ys/\Q (.ref b) H):=by intro c s n H x y v u Q I e f h;obtain⟨a,b,ys,rfl,rfl,g,i,q⟩:=h;cases e;cases f;obtain⟨j,k,l,_⟩:=I.tuple g;obtain⟨d,o,m,_⟩:=I.tuple i;exact zmZ l m (k.nil_iff.mpr rfl) ⟨.ref b,H,I,rfl,q⟩
theorem zso(op):OpR X (binaryOp op) (rD2 X.K fun S d e=>binD S op d e):=by
 intro g s l H x y v u h I m n Y;obtain⟨ι,S,d,e,Qd,E,G,o,f,q⟩:=Y;dsimp only at f;unfold binD at f;split at f;rename_i i j;obtain rfl:x=.int i:=E;obtain rfl:y=.int j:=G;have fin:∀k:Int,Qd (.int k) S->h (.int k) H:=fun k hk=>q _ _ (Lf.of (d:=.int k) o rfl hk);unfold binI at f;split at f;exact znv g s l H _ _ v u h I m n ⟨i,j,rfl,rfl,fin _ f⟩;exact zrz g s l H _ _ v u h I m n ⟨i,j,rfl,rfl,fin _ f⟩;split at f;rename_i c;refine zrC g s l H _ _ v u h I m n ⟨i,j,rfl,rfl,?_,fin _ f⟩;unfold zpk at c;rw[or_eq_true,decide_eq_true_eq,decide_eq_true_eq]at c;exact c;exact f.elim;split at f;rename_i c;exact zpe g s l H _ _ v u h I m n ⟨i,j,rfl,rfl,c,fin _ f⟩;exact f.elim;split at f;rename_i c;exact zrD g s l H _ _ v u h I m n ⟨i,j,rfl,rfl,c,fin _ f⟩;exact f.elim;split at f;rename_i c;exact zrA g s l H _ _ v u h I m n ⟨i,j,rfl,rfl,⟨c.1,c.2.1,by omega⟩,fin _ f⟩;exact f.elim;exact f.elim;rename_i J L;split at f;split at f;rename_i c;obtain⟨a,w,rfl,A,r⟩:=E;obtain⟨b,B,rfl,C,t⟩:=G;by_cases O:w=[];subst O;have M:J=[]:=by have:=r.length;simpa using this.symm
 subst M;exact zmm g s l H _ _ v u h I m n ⟨a,b,B,rfl,rfl,SqT.of A,SqT.of C,(q _ _ (Lf.of (d:=.tup L) o ⟨b,B,rfl,C,t⟩ (by simpa using f)))⟩;refine zpf g s l H _ _ v u h I m n ⟨a,b,w,B,rfl,rfl,SqT.of A,SqT.of C,O,?_,fun Q=>?_,fun Q p N=>?_⟩;rw[r.length,t.length];exact c;subst Q;have M:L=[]:=by have:=t.length;simpa using this.symm
 subst M;exact q _ _ (Lf.of (d:=.tup J) o ⟨a,w,rfl,A,r⟩ (by simpa using f));exact q _ _ (Lf.tup o N (r.append t) f);exact f.elim;exact f.elim;split at f;rename_i J L e1 e2;obtain⟨a1,h1,rfl⟩:=E;obtain⟨b1,h2,rfl⟩:=G;obtain⟨a2,T,w,A,r⟩:=o.obj _ _ e1;obtain⟨b2,U,B,C,t⟩:=o.obj _ _ e2;rw[h1]at T;cases T;rw[h2]at U;cases U;obtain⟨z,hq⟩:=zhU f;refine zrH g s l H _ _ v u h I m n ⟨a1,b1,w,B,rfl,rfl,A,C,?_,fun p N=>?_⟩;rw[r.length,t.length];rw[length_append]at z;exact z;exact q _ _ (Lf.lst o N (r.append t) hq);exact f.elim;exact f.elim
theorem zaQ{a b:Type}{f:a->Option b}{x:a}{xs:List a}{ys:List b}(h:(x::xs).mapM f=some ys):∃y r,f x=some y/\xs.mapM f=some r/\ys=y::r:=by
 rw[mapM_cons]at h;cases e:f x with
 |none=>rw[e]at h;cases h
 |some y=>
  rw[e]at h;cases c:xs.mapM f with
  |none=>rw[c]at h;cases h
  |some r=>rw[c]at h;injection h with h;exact⟨y,r,rfl,rfl,h.symm⟩
theorem ziD(I:RH X.K C H S):∀(n:Nat)(d:D)(j:PyData)(v:V),pd S n d=some j->RV X.K C H d v->Rep H j v/\j.canLay0=true/\j.depth<=n:=by
 intro n;induction n with
 |zero=>
  intro d p v h r;cases d<;>simp only[pd]at h
  cases h;exact⟨r,rfl,le_refl _⟩;cases h;exact⟨r,rfl,le_refl _⟩;cases h;exact⟨r,rfl,le_refl _⟩;split at h;rename_i c;cases h;exact⟨r,c,le_refl _⟩;cases h
  all_goals cases h
 |succ n J=>
  have k:∀(g:List D)(f:List PyData)(t:List V),g.mapM (pd S n)=some f->RVs X.K C H g t->RepAll H f t/\PyData.canLayAll0 f=true/\PyData.depthAll f<=n:=by
   intro g;induction g with
   |nil=>
    intro f t h r;have h:f=[]:=by simpa using h.symm
    subst h;exact⟨r,rfl,zero_le _⟩
   |cons d g z=>intro f t h r;obtain⟨y,m,A,u,rfl⟩:=zaQ h;obtain⟨v,w,rfl,L,M⟩:=r;obtain⟨N,E,Q⟩:=J d y v A L;obtain⟨o,q,G⟩:=z m w u M;refine⟨⟨v,w,rfl,N,o⟩,by simp[PyData.canLayAll0,E,q],?_⟩;simp only[PyData.depthAll];lia
  intro d p v h r;cases d with
  |non=>cases h;exact⟨r,rfl,zero_le _⟩|bl b=>cases h;exact⟨r,rfl,zero_le _⟩|int i=>cases h;exact⟨r,rfl,zero_le _⟩| str x=>simp only[pd]at h;split at h;rename_i c;cases h;exact⟨r,c,zero_le _⟩;cases h
  |tup g=>
   simp only[pd]at h;cases e:g.mapM (pd S n) with
   |none=>rw[e]at h;cases h
   |some f=>
    rw[e]at h;have h:PyData.tuple f=p:=by simpa using h
    subst h;obtain⟨a,s,rfl,B,m⟩:=r;obtain⟨o,q,G⟩:=k g f s e m;refine⟨⟨a,s,rfl,B,o⟩,by simp[PyData.canLay0,q],?_⟩;simp only[PyData.depth];lia
  |ref l=>
   simp only[pd]at h;split at h;rename_i g O;cases e:g.mapM (pd S n) with
   |none=>rw[e]at h;cases h
   |some f=>
    rw[e]at h;have h:PyData.list f=p:=by simpa using h
    subst h;obtain⟨a,A,rfl⟩:=r;obtain⟨E,u,s,B,m⟩:=I.obj _ _ O;rw[A]at u;cases u;obtain⟨o,q,G⟩:=k g f s e m;refine⟨⟨a,s,rfl,B,o⟩,by simp[PyData.canLay0,q],?_⟩;simp only[PyData.depth];lia
   cases h
  |fix g=>cases h
def rC2(K:PySem.W.Frag)(op:CmpOp):R2:=fun x y H b=>∃a S d e k,RV K a H d x/\RV K a H e y/\RH K a H S/\cmpD S op d e=some k/\b (.bl k) H
theorem zh7(h:eqD S d e=some k):∃a b,pd S 60 d=some a/\pd S 60 e=some b/\k=PyData.eqv a b:=by
 unfold eqD at h;cases c:pd S 60 d with
 |none=>rw[c]at h;cases h
 |some a=>
  rw[c]at h;cases f:pd S 60 e with
  |none=>rw[f]at h;cases h
  |some b=>rw[f]at h;injection h with h;exact⟨a,b,rfl,rfl,h.symm⟩
open Classical in
noncomputable def eqRd(h:Heap)(p:PyData)(u:Value):Bool:=if c:∃q as,Reads h u q as/\q.canLay0=true then PyData.eqv c.choose p else false
theorem zpI(r:Reads h u q as)(c:q.canLay0=true):eqRd h p u=PyData.eqv q p:=by have a:∃q as,Reads h u q as/\q.canLay0=true:=⟨q,as,r,c⟩;unfold eqRd;rw[dif_pos a];obtain⟨b,d,e⟩:=a.choose_spec;rw[SeqAt.Reads.unique _ _ _ _ _ c r d]
theorem zmA(I:Inv X m σ H s)(hA:A.units+62<cLine)(n:RH X.K o H S)(q:pd S 60 x=some c)(E:RV X.K o H x f)(G:RelV f g):
  ∀{ds:List D}{vs:List V}{us:List Value}{bs:List Bool},RVs X.K o H ds vs->Vals vs us->ds.mapM (fun z=>eqD S z x)=some bs->us.any (eqRd s.heap c)=bs.any id/\∀u∈us,SeqAt.EqAt A s u g (eqRd s.heap c u):=by
 obtain⟨J,L,x3⟩:=ziD n 60 x c f q E;obtain⟨i,j⟩:=Rep.reads I c f g J G;intro ds;induction ds with
 |nil=>
  intro vs us bs r k h;cases(show vs=[] from r);cases k;have h:bs=[]:=by simpa using h.symm
  subst h;exact⟨rfl,fun u M=>by cases M⟩
 |cons d ds N=>intro vs us bs r k h;obtain⟨v,w,rfl,O,Q⟩:=r;obtain⟨b,rr,e,T,rfl⟩:=zaQ h;cases k with| cons U Y=>rename_i u us';obtain⟨a,b',e1,t,rfl⟩:=zh7 e;rw[q]at t;cases t;obtain⟨p1,y,p3⟩:=ziD n 60 d a v e1 O;obtain⟨as,B⟩:=Rep.reads I a v u p1 U;have C:=zpI (p:=c) B y;obtain⟨i1,i2⟩:=N Q Y T;refine⟨by simp[C,i1],fun z l=>?_⟩;rcases mem_cons.mp l with rfl|l;rw[C];exact SeqAt.eqAt_reads a c A s z g as i B j y L (by lia);exact i2 z l
theorem znf(i:RH X.K f H S)(h:zbC S d=some ds)(r:RV X.K f H d v):∃a xs,v=.ref a/\(SqL X.K H a xs\/SqT X.K H a xs)/\RVs X.K f H ds xs:=by
 cases d with
 |tup j=>cases h;obtain⟨a,xs,rfl,b,c⟩:=r;exact⟨a,xs,rfl,.inr (SqT.of b),c⟩| fix j=>cases h;obtain⟨a,xs,rfl,b,c⟩:=r;exact⟨a,xs,rfl,.inl b.sq,c⟩| ref l=>simp only[zbC]at h;split at h;rename_i k e;cases h;obtain⟨a,m,rfl⟩:=r;obtain⟨n,g,xs,b,c⟩:=i.obj _ _ e;rw[m]at g;cases g;exact⟨a,xs,rfl,.inl (SqL.of b),c⟩;cases h
 |_=>cases h
theorem zr6(h:inD S x ys=some k):∃bs,ys.mapM (fun z=>eqD S z x)=some bs/\k=bs.any id:=by
 unfold inD at h;cases e:ys.mapM (fun z=>eqD S z x) with
 |none=>rw[e]at h;cases h
 |some bs=>rw[e]at h;injection h with h;exact⟨bs,rfl,h.symm⟩
theorem zhT:∀(as bs:List Int),R.lexLt as bs=HT.lexLt as bs
 | [],[]=>by simp[R.lexLt,HT.lexLt]| [],_::_=>by simp[R.lexLt,HT.lexLt]|_::_,[]=>by simp[R.lexLt,HT.lexLt]|a::as,b::bs=>by simp[R.lexLt,HT.lexLt,zhT as bs]
theorem nonV{K}(hd:RV K a H d x):decide (x=V.non)=zpy d:=by cases d with|non=>rw[show x=.non from hd];rfl|bl b=>rw[show x=.bl b from hd];rfl|int b=>rw[show x=.int b from hd];rfl|str b=>rw[show x=.str b from hd];rfl|tup b=>obtain⟨_,_,rfl,_⟩:=hd;rfl|ref b=>obtain⟨_,_,rfl⟩:=hd;rfl|fix b=>obtain⟨_,_,rfl,_⟩:=hd;rfl
theorem zeB(hu:X.A.units+128<cLine)(op):OpR X (compareOp op) (rC2 X.K op):=by
 intro f s t H x y v u A I m l q';obtain⟨ι,S,d,e,k,E,G,Y,c,q⟩:=q';unfold cmpD at c;split at c;rename_i i j;obtain rfl:x=.int i:=E;obtain rfl:y=.int j:=G;unfold cmpI at c;split at c;cases c;exact ztj f s t H _ _ v u A I m l ⟨rfl,by simpa using q⟩;cases c;exact zte f s t H _ _ v u A I m l ⟨rfl,by simpa using q⟩;cases c;exact ztf f s t H _ _ v u A I m l ⟨i,j,rfl,rfl,q⟩;cases c;exact ztg f s t H _ _ v u A I m l ⟨i,j,rfl,rfl,q⟩;cases c;exact zth f s t H _ _ v u A I m l ⟨i,j,rfl,rfl,q⟩;cases c;exact zti f s t H _ _ v u A I m l ⟨i,j,rfl,rfl,q⟩;cases c;unfold cmpO at c;have J:∀(k:Bool),((zbC S e).bind fun L=>inD S d L)=some k->∃a B,y=.ref a/\(SqL X.K H a B\/SqT X.K H a B)/\∃(C:PyData),∀us,Vals B us->us.any (eqRd s.heap C)=k/\∀z∈us,SeqAt.EqAt X.A.in1 s z v (eqRd s.heap C z):=by
  intro k h;cases es:zbC S e with
  |none=>rw[es]at h;cases h
  |some L=>
   rw[es]at h;obtain⟨bs,M,rfl⟩:=zr6 (show inD S d L=some k from h);obtain⟨a,B,rfl,n,rr⟩:=znf Y es G;refine⟨a,B,rfl,n,?_⟩;cases N:pd S 60 d with
   |some C=>exact⟨C,fun us O=>zmA I (show X.A.units+1+62<cLine by lia) Y N E m rr O M⟩| none=>
    cases L with
    |nil=>
     refine⟨.none,fun us O=>?_⟩;cases(show B=[] from rr);cases O;have M:bs=[]:=by simpa using M.symm
     subst M;exact⟨rfl,fun z hz=>by cases hz⟩
    |cons z zs=>obtain⟨b,r,o,_⟩:=zaQ M;obtain⟨_,_,_,h3,_⟩:=zh7 o;rw[N]at h3;cases h3
 split at c
 . skip
   obtain⟨a,b,o,p,rfl⟩:=zh7 c;obtain⟨p1,p2,p3⟩:=ziD Y 60 d a x o E;obtain⟨q1,q2,q3⟩:=ziD Y 60 e b y p G;exact zrG (by lia) f s t H x y v u A I m l ⟨a,b,p1,q1,p2,q2,by lia,q⟩
 cases Q:eqD S d e with
 |none=>rw[Q]at c;cases c
 |some k'=>
  rw[Q]at c;obtain⟨a,b,o,p,rfl⟩:=zh7 Q;obtain⟨p1,p2,p3⟩:=ziD Y 60 d a x o E;obtain⟨q1,q2,q3⟩:=ziD Y 60 e b y p G;have c:k = !PyData.eqv a b:=by simpa using c.symm
  subst c;exact zrB (by lia) f s t H x y v u A I m l ⟨a,b,p1,q1,p2,q2,by lia,q⟩
 split at c;obtain rfl:y=.non:=G;cases c;obtain rfl:u=Value.none:=l;refine is_none_gen ⟨.bl _,H,I,rfl,?_⟩;rw[m.none_iff,nonV E];exact q;rename_i b _;split at c;rename_i a _;cases c;exact zrF f s t H _ _ v u A I m l ⟨a,b,E,G,q⟩;cases c;cases c;split at c;obtain rfl:y=.non:=G;cases c;obtain rfl:u=Value.none:=l;refine isnot_none_gen ⟨.bl _,H,I,rfl,?_⟩;rw[m.none_iff,nonV E];exact q;cases c
 . skip
   obtain⟨a,B,rfl,n,C,N⟩:=J _ c;cases(show u=Value.ref a from l);rcases n with n|n;obtain⟨g,r,T,hz⟩:=I.list n;obtain⟨o,p⟩:=N g r;exact SeqAt.in_listAt (eqRd s.heap C) T.isList (fun w U=>p w (by simpa using U)) (zav I q (by simpa using o.symm));obtain⟨g,r,T,hz⟩:=I.tuple n;obtain⟨o,p⟩:=N g r;exact SeqAt.in_tupleAt (eqRd s.heap C) T (fun w U=>p w (by simpa using U)) (zav I q (by simpa using o.symm))
 cases Q:(zbC S e).bind fun L=>inD S d L with
 |none=>rw[Q]at c;cases c
 |some k'=>
  rw[Q]at c;have c:k = !k':=by simpa using c.symm
  subst c;obtain⟨a,B,rfl,n,C,N⟩:=J k' Q;cases(show u=Value.ref a from l);rcases n with n|n;obtain⟨g,r,T,hz⟩:=I.list n;obtain⟨o,p⟩:=N g r;exact SeqAt.notIn_listAt (eqRd s.heap C) T.isList (fun w U=>p w (by simpa using U)) (zav I q (by simpa using congrArg (!·) o.symm));obtain⟨g,r,T,hz⟩:=I.tuple n;obtain⟨o,p⟩:=N g r;exact SeqAt.notIn_tupleAt (eqRd s.heap C) T (fun w U=>p w (by simpa using U)) (zav I q (by simpa using congrArg (!·) o.symm))
 split at c;rename_i B L _;cases e1:za3 B with
 |none=>rw[e1]at c;cases c
 |some ns=>
  cases e2:za3 L with
  |none=>rw[e1,e2]at c;cases c
  |some ms=>
   rw[e1,e2]at c;have c:k=lexLt ns ms:=by simpa using c.symm
   subst c;obtain⟨a,us,rfl,ha,r1⟩:=E;obtain⟨b,ws,rfl,M,r2⟩:=G;rw[ze9 e1]at r1;rw[ze9 e2]at r2;rw[r1.ints_eq]at ha;rw[r2.ints_eq]at M;exact zrE (by lia) f s t H _ _ v u A I m l ⟨a,b,ns,ms,rfl,rfl,SqT.of ha,SqT.of M,by rw[<-zhT];exact q⟩
 cases c;cases c
end
noncomputable def zai:Expr->Bool|.Starred _ _=>false|_=>true
noncomputable def zbj:Expr->Bool|.ListComp ..=>false|.SetComp ..=>false|.DictComp ..=>false|_=>true
noncomputable def zb8:Expr->Bool|.Slice ..=>false|_=>true
noncomputable def za2:Expr->Bool|.Set ..=>false|_=>true
noncomputable def zaE:Expr->Bool|.Call (.Name _ _) [] [] _=>false|_=>true
noncomputable def zhH:Expr->Bool|.UnaryOp .Not _ _=>false|.BoolOp ..=>false|.IfExp ..=>false|.Compare ..=>false|_=>true
theorem zah(h:zai e=true)(es)(env):starEach (e::es) env=(false,eval e env)::starEach es env:=by cases e<;>first|rfl|cases h
theorem zbR(h:zbj e=true)(t)(l)(env):swapsWith e t l env=pure false:=by cases e<;>first|rfl|cases h
theorem zpv(h:zb8 e=true):zll e:=by intro o i;cases e<;>first|rfl|cases h
theorem ze2(h:za2 e=true)(op):behindInMarks op e=false:=by cases e<;>first|rfl|cases h
theorem zbg(h:zaE e=true)(x)(env)(w):attributeBase e x env w=w:=by unfold attributeBase;split;cases h;rfl
theorem zqg(h:zhH e=true)(env)(w):isTrue e env w=(do let v <-w;standAt e.pos;holding [v] (truthy v)):=by
 cases e with
 |UnaryOp a x p=>cases a<;>first|rfl|cases h
 |_=>first|rfl|cases h
theorem zg4(h:za2 e=true)(env)(x):foldedSetIterable e env x=pure x:=by cases e<;>first|rfl|cases h
theorem zaz:∀{es:List Expr},es.all zai=true->(backTo pos (starEach es env)).any (·.1)=false
 | [],_=>rfl| e::es,h=>by rw[all_cons,and_eq_true]at h;rw[zah h.1];exact zaz h.2
def BM(b:Str->Option Value)(base:Heap):Prop:=∃(a:Addr) (o:Obj),b "__builtins__"=some (.ref a)/\a≠builtinsNs/\a≠mainGlobals/\base.get? a=some o/\o.cls=.type "module"/\o.dict=some builtinsNs/\o.data=.plain
structure Maker(X:Cx)(c P:Addr):Prop where
 bm:BM X.mg X.base
 code:X.env.code=.ref c
 hd:codeHdIn X.K c P=true
 mem:(P,X.env.qual ++ "<lambda>")∈Mks.ts
 one:∀p∈Mks.ts,p.1=P->p.2=X.env.qual ++ "<lambda>"
structure Tab where
 blt:List Str
 cons:List (Str×D)
 fns:List (Str×List Str×Nat)
 cls:List Str:=[]
 flds:List Str:=[]
 mts:List (Nat×Str×Nat):=[]
 inits:List (Nat×Nat×Nat):=[]
 cms:List (Str×Str×Nat):=[]
 isas:List (Str×List Nat):=[]
 lam:List Str:=["lambda"]
 lamP:Nat:=0
 xcs:List (Nat×Str×Str):=[]
 xflds:List Str:=[]
 xisas:List (Str×List Nat):=[]
 xisbs:List (Str×List Nat):=[]
 xfns:List Nat:=[]
 xtrs:List Str:=[]
noncomputable def zmy(a:Scope)(x:Str):Bool:=match a.names.lookup x with|some .local=>true|some .cell=>true|some .free=>true|_=>false
noncomputable def zdh(a:Scope)(x:Str):Bool:=match a.names.lookup x with|some .local=>true|some .cell=>true|_=>false
noncomputable def isGl(a:Scope)(x:Str):Bool:=match a.names.lookup x with|some .globalImplicit=>true|_=>false
noncomputable def eqC:D->D->Bool
 |.non,.non=>true|.bl a,.bl b=>a==b|.int a,.int b=>a==b|.str a,.str b=>a==b|_,_=>false
theorem zsf:∀{d e:D},eqC d e=true->d=e:=by intro d e h;cases d<;>cases e<;>first|rfl|(cases eq_of_beq h;rfl)|cases h
noncomputable def sV:D->V
 |.non=>.non|.bl b=>.bl b|.int i=>.int i|.str x=>.str x|_=>.non
noncomputable def zoo:D->Bool
 |.non=>true|.bl _=>true|.int _=>true|.str _=>true|_=>false
theorem zs0{K}(h:zoo d=true):RV K a H d (sV d):=by cases d<;>first|rfl|cases h
noncomputable def conB:D->Const->Bool
 |.non,.none=>true|.bl a,.bool b=>a==b|.int a,.int b=>a==b|.str a,.str b=>a==b|_,_=>false
noncomputable def bltB(T:Tab)(a:Scope)(x:Str):Bool:=isGl a x&&T.blt.contains x
def spF(K:PySem.W.Frag)(cf:CF)(f:Nat):Sp:=fun g H h _=>∃c S e,RVs K c H e g/\RH K c H S/\W (cf f e S) (fun d T=>∀v b a,Ext c H a b->RV K a b d v->RH K a b T->h v b)
structure HasM(P:Program)(w:World)(K:PySem.W.Frag)(mg:Str->Option Value)(base:Heap)(k c:Nat)(m:Str)(sp:Sp):Prop where
 ex:∃(C fa:Addr) (fd:FuncData) (ps:List Str),Mks.cl[c]?=some C/\Cls K C/\Meth K C m fa/\FnOk P w K mg base CX0 k fa fd ps sp/\Binds K fd ps []
structure HasI(P:Program)(w:World)(K:PySem.W.Frag)(mg:Str->Option Value)(base:Heap)(k c j:Nat)(sp:Sp):Prop where
 ex:∃(C fa:Addr) (fd:FuncData) (ps:List Str),Mks.cl[c]?=some C/\Mk K C fa/\FnOk P w K mg base CX0 k fa fd ps sp/\Binds K fd ps (List.replicate j Value.none)
structure HasC(P:Program)(w:World)(K:PySem.W.Frag)(mg:Str->Option Value)(base:Heap)(k:Nat)(x m:Str)(sp:Sp):Prop where
 ex:∃(C fa:Addr) (fd:FuncData) (ps:List Str) (mc:Value),mg x=some (.ref C)/\specialIn K (.ref C) "__getattribute__"=some (some (.builtin "type.__getattribute__"))/\readsIn K C mc=true/\findCls K (.ref C) mc m=some (.val (.ref fa))/\
  keepIn K (.ref fa)=true/\FnOk P w K mg base CX0 k fa fd ps sp/\Binds K fd ps []
structure IsaOk(K:PySem.W.Frag)(C:Addr):Prop where
 ha:PySem.W.findIn K (.ref C) "__class__"=some (some (.builtin "object.__class__"))
 hn:specialIn K (.builtin "object.__class__") "__get__"=some (some (.builtin "getset_descriptor.__get__"))
 ht:takesIn K (.builtin "object.__class__")=some true
 hm:PySem.W.mroIn K C (.type "object")=some true
noncomputable def spX(K:PySem.W.Frag)(cf:CF)(f:Nat):Sp:=fun h H i E=>∃e S g,RVs K e H g h/\RH K e H S/\(match cf f g S with|.ok d T=>∀v c b,Ext e H b c->RV K b c d v->RH K b c T->i v c|.err d T=>∀a c b,Ext e H b c->RV K b c d (.ref a)->RH K b c T->E (.ref a) none c|.bad=>False)
structure XTabOk(T:Tab)(cf:CF)(k:Nat)(P:Program)(w:World)(K:PySem.W.Frag)(mg:Str->Option Value)(base:Heap):Prop where
 cl:∀(c:Nat)(x f:Str),T.xcs.contains (c,x,f)=true->∃(C fI:Addr) (fd:FuncData) (ps:List Str),Mks.xc[c]?=some C/\mg x=some (.ref C)/\keepIn K (.ref C)=true/\Xc K C fI f/\FnOk P w K mg base CX0 k fI fd ps (spI K fI f)/\Binds K fd ps []
 fl:∀f,T.xflds.contains f=true->∀(c:Nat) C,Mks.xc[c]?=some C->XGet K C/\NoAttr K C f
 is:∀(x:Str)(cs:List Nat),T.xisas.contains (x,cs)=true->∃D,mg x=some (.ref D)/\∀(c:Nat) C,Mks.xc[c]?=some C->XGet K C/\IsaOk K C/\kitOne K (.ref C) (.ref D)=some (cs.contains c)
 ib:∀(x:Str)(cs:List Nat),T.xisbs.contains (x,cs)=true->mg x=none/\x≠"__name__"/\∃t,bootBuiltins x=some (.type t)/\∀(c:Nat) C,Mks.xc[c]?=some C->XGet K C/\IsaOk K C/\kitOne K (.ref C) (.type t)=some (cs.contains c)
 fn:∀(f:Nat)(x:Str)(ps:List Str)(nd:Nat),T.xfns.contains f=true->T.fns[f]?=some (x,ps,nd)->∃fa fd,FnOk P w K mg base (CXe P w) k fa fd ps (spX K cf f)/\mg x=some (.ref fa)/\keepIn K (.ref fa)=true/\Binds K fd ps []
 tr:∀x,T.xtrs.contains x=true->∃CR,mg x=some (.ref CR)/\∀(c:Nat) C,Mks.xc[c]?=some C->PySem.W.exmOne K (.ref C) (.ref CR)=some true
structure HasMX(P:Program)(w:World)(K:PySem.W.Frag)(mg:Str->Option Value)(base:Heap)(k c:Nat)(m:Str)(sp:Sp):Prop where
 ex:∃(C fa:Addr) (fd:FuncData) (ps:List Str),Mks.cl[c]?=some C/\Cls K C/\Meth K C m fa/\FnOk P w K mg base (CXe P w) k fa fd ps sp/\Binds K fd ps []
structure HasIX(P:Program)(w:World)(K:PySem.W.Frag)(mg:Str->Option Value)(base:Heap)(k c j:Nat)(sp:Sp):Prop where
 ex:∃(C fa:Addr) (fd:FuncData) (ps:List Str),Mks.cl[c]?=some C/\Mk K C fa/\FnOk P w K mg base (CXe P w) k fa fd ps sp/\Binds K fd ps (List.replicate j Value.none)
structure TabOk(T:Tab)(cf:CF)(k:Nat)(P:Program)(w:World)(K:PySem.W.Frag)(mg:Str->Option Value)(base:Heap):Prop where
 blt:∀x,T.blt.contains x=true->mg x=none
 con:∀x d,T.cons.lookup x=some d->zoo d=true/\∃u,mg x=some u/\RelV (sV d) u
 fns:∀f x ps nd,T.fns[f]?=some (x,ps,nd)->∀j,j<=nd->Has P w K mg base k x ps (List.replicate j .non) (spF K cf f)
 frm:CFok cf
 cls:∀(c:Nat)(x:Str),T.cls[c]?=some x->∃C,Mks.cl[c]?=some C/\Cls K C/\mg x=some (.ref C)/\∀f,T.flds.contains f=true->NoAttr K C f
 mth:∀(c:Nat)(m:Str)(fi:Nat),T.mts.contains (c,m,fi)=true->HasM P w K mg base k c m (spF K cf fi)
 ini:∀(c fi j:Nat),T.inits.contains (c,fi,j)=true->HasI P w K mg base k c j (spF K cf fi)
 cmd:∀(x m:Str)(fi:Nat),T.cms.contains (x,m,fi)=true->HasC P w K mg base k x m (spF K cf fi)
 cln:(T.flds≠[]\/T.inits≠[]\/T.isas≠[])->Mks.cl.length<=T.cls.length
 isa:∀(x:Str)(cs:List Nat),T.isas.contains (x,cs)=true->∃D,mg x=some (.ref D)/\∀c C,Mks.cl[c]?=some C->IsaOk K C/\kitOne K (.ref C) (.ref D)=some (cs.contains c)
 xtb:XTabOk T cf k P w K mg base
 inx:∀(c fi j:Nat),T.inits.contains (c,fi,j)=true->HasIX P w K mg base k c j (spX K cf fi)
 mtx:∀(c:Nat)(m:Str)(fi:Nat),T.mts.contains (c,m,fi)=true->HasMX P w K mg base k c m (spX K cf fi)
structure Gd(T:Tab)(cf:CF)(k:Nat)(N:List Str)(sc:Scope)(X:Cx):Prop where
 nm:X.N=N
 nd:N.Nodup
 loc:∀x,sc.names.lookup x=some .local->X.env.scope.names.lookup x=some .local
 cell:∀x,sc.names.lookup x=some .cell->X.env.scope.names.lookup x=some .cell
 free:∀x,sc.names.lookup x=some .free->X.env.scope.names.lookup x=some .free\/X.env.scope.names.lookup x=some .cell
 glob:∀x,sc.names.lookup x=some .globalImplicit->X.env.scope.names.lookup x=some .globalImplicit
 fn:(∀x,X.fn x=true)\/∀x,sc.names.lookup x≠some .cell
 calm:X.calm=true
 xe:PassesOwn (model X.prog X.w) X.A X.env X.xe
 room':Room (k+1) X.A
 tab:TabOk T cf k X.prog X.w X.K X.mg X.base
 lam:N=T.lam->3<=k/\∃c,Maker X c T.lamP
section
variable{T:Tab}{cf:CF}{k:Nat}{N:List Str}{sc:Scope}{X:Cx}
theorem Gd.room(G:Gd T cf k N sc X):Room k X.A:=G.room'.mono (le_succ k)
theorem Gd.hu(G:Gd T cf k N sc X):X.A.units+128<cLine:=by have:=G.room.un;lia
theorem Gd.vis(G:Gd T cf k N sc X)(h:zmy sc x=true):Vis X.env.scope x:=by unfold zmy at h;split at h;rename_i e;exact .inl (G.loc x e);rename_i e;exact .inr (.inl (G.cell x e));rename_i e;rcases G.free x e with q|q;exact .inr (.inr q);exact .inr (.inl q);cases h
theorem Gd.lc(G:Gd T cf k N sc X)(h:zdh sc x=true):Loc X.env.scope x/\(X.fn x=true\/X.env.scope.names.lookup x=some .local):=by unfold zdh at h;split at h;rename_i e;exact⟨.inl (G.loc x e),.inr (G.loc x e)⟩;rename_i e;refine⟨.inr (G.cell x e),?_⟩;rcases G.fn with q|q;exact .inl (q x);exact absurd e (q x);cases h
theorem Gd.gl(G:Gd T cf k N sc X)(h:isGl sc x=true):Gl X x:=by unfold isGl at h;split at h;rename_i e;exact G.glob x e;cases h
end
def RS(K:PySem.W.Frag)(b:List Addr)(H:Hp)(δ:Ev)(a:L2.St):Prop:=δ.length=a.length/\∀(i:Nat)(d:D),δ[i]?=some (some d)->∃v,a[i]?=some (some v)/\RV K b H d v
theorem RS.ext{K}(h:RS K b H δ c)(x:Ext b H a f):RS K a f δ c:=⟨h.1,fun i d e=>let ⟨v,g,r⟩:=h.2 i d e;⟨v,g,r.ext x⟩⟩
theorem RS.set{K}(h:RS K c H δ g)(r:RV K c H d v)(i):RS K c H (δ.set i (some d)) (g.set i (some v)):=by
 refine⟨by simp[h.1],fun j e b=>?_⟩;by_cases a:i=j;subst a;have f:i<δ.length:=by have:=(List.getElem?_eq_some_iff.mp b).1;simpa using this
 rw[getElem?_set_self f]at b;cases b;exact⟨v,getElem?_set_self (by rw[<-h.1];exact f),r⟩;rw[getElem?_set_ne a]at b;obtain⟨k,l,m⟩:=h.2 j e b;exact⟨k,by rw[getElem?_set_ne a];exact l,m⟩
def tE(K:PySem.W.Frag)(cf:CF)(d:CE):TE:=fun e H f=>∃b a S Q,RS K a H b e/\RH K a H S/\W (evE cf d b S) Q/\∀v c,Lf K a H Q v c->f v c
def LfB(K:PySem.W.Frag)(e:List Addr)(H:Hp)(Q:Bool->R.St->Prop):Bool->Hp->Prop:=fun b c=>∃a d,Ext e H a c/\RH K a c d/\Q b d
def tT(K:PySem.W.Frag)(cf:CF)(e:CE):TT:=fun f H g=>∃c a S Q,RS K a H c f/\RH K a H S/\W (evT cf e c S) Q/\∀b d,LfB K a H Q b d->g b d
def LfA(K:PySem.W.Frag)(e:List Addr)(H:Hp)(Q:List D->R.St->Prop):List V->Hp->Prop:=fun f b=>∃c a d,Ext e H a b/\RVs K a b c f/\RH K a b d/\Q c d
def tAs(K:PySem.W.Frag)(cf:CF)(a:CEs):TA:=fun f H g=>∃c b S Q,RS K b H c f/\RH K b H S/\W (evEs cf a c S) Q/\∀d e,LfA K b H Q d e->g d e
inductive SqK(K:PySem.W.Frag)(ι:List Addr)(H:Hp)(S:R.St)(a:Addr)(xs:List V)(ds:List D)(lks:List Nat):Prop where
 |tmp (h:a∉ι) (e:H a=some (.lst xs)):SqK K ι H S a xs ds lks
 |tup (e:H a=some (.tup xs)):SqK K ι H S a xs ds lks
 |fix (e:FixL K H a xs):SqK K ι H S a xs ds lks
 |own (l:Nat) (hl:l∈lks) (hi:ι[l]?=some a) (hs:S.get l=some (.lst ds)) (e:H a=some (.lst xs)):SqK K ι H S a xs ds lks
def Sq(K:PySem.W.Frag)(c:List Addr)(H:Hp)(S:R.St)(v:V)(ds:List D)(b:List Nat):Prop:=∃a d,v=.ref a/\RVs K c H ds d/\SqK K c H S a d ds b
def LfL(K:PySem.W.Frag)(f:List Addr)(H:Hp)(Q:List D×List Nat->R.St->Prop):VK:=fun v c=>∃e b a d,Ext f H a c/\Sq K a c d v e b/\RH K a c d/\Q (e,b) d
def tL(K:PySem.W.Frag)(cf:CF)(cl:CL):TE:=fun d H e=>∃b a S Q,RS K a H b d/\RH K a H S/\W (evL cf cl b S) Q/\∀v c,LfL K a H Q v c->e v c
def LfT(K:PySem.W.Frag)(g:List Addr)(H:Hp)(Q:List D×List Nat->R.St->Prop):VK:=fun v c=>∃d b e a f,Ext g H b c/\v=.ref a/\RVs K b c d f/\a∉b/\c a=some (.lst f)/\RH K b c e/\H a=none/\Q (d,[]) e
def tLt(K:PySem.W.Frag)(cf:CF)(cl:CL):TE:=fun d H e=>∃b a S Q,RS K a H b d/\RH K a H S/\W (evL cf cl b S) Q/\∀v c,LfT K a H Q v c->e v c
theorem LfT.l{K}(h:LfT K c H Q v d):LfL K c H Q v d:=by obtain⟨f,b,g,a,i,x,rfl,r,j,e,k,_,q⟩:=h;exact⟨f,[],b,g,x,⟨a,i,rfl,r,.tmp j e⟩,k,q⟩
theorem PE.imp(h:PE X e t)(i:∀a H Q,t' a H Q->t a H Q):PE X e t':=fun b s a H Q I q=>h b s a H Q I (i a H Q q)
theorem PT.imp(h:PT X e t)(i:∀a H Q,t' a H Q->t a H Q):PT X e t':=fun b s a H Q I q=>h b s a H Q I (i a H Q q)
theorem PW.imp(h:PW X e t)(i:∀a H Q,t' a H Q->t a H Q):PW X e t':=fun c b s a H Q I q=>h c b s a H Q I (i a H Q q)
theorem PA.imp(h:PA X es t)(i:∀a H Q,t' a H Q->t a H Q):PA X es t':=fun pos b s a H Q I q=>h pos b s a H Q I (i a H Q q)
theorem tE.run{K}(hs:RS K f H δ i)(j:RH K f H S)(w:W (evE cf a δ S) Q)(h:∀d v b c e,Ext f H b c->RS K b c δ i->RH K b c e->RV K b c d v->Q d e->k v c):tE K cf a i H k:=
 ⟨δ,f,S,Q,hs,j,w,fun v c z=>(by obtain⟨d,b,e,x,r,g,q⟩:=z;exact h d v b c e x (hs.ext x) g r q)⟩
theorem tT.run{K}(hs:RS K f H δ i)(j:RH K f H S)(w:W (evT cf a δ S) Q)(h:∀b c d e,Ext f H c d->RS K c d δ i->RH K c d e->Q b e->k b d):tT K cf a i H k:=
 ⟨δ,f,S,Q,hs,j,w,fun b d z=>eY z fun c e x g q=>h b c d e x (hs.ext x) g q⟩
theorem tAs.run{K}(hs:RS K f H δ i)(j:RH K f H S)(w:W (evEs cf a δ S) Q)(h:∀ds vs b c e,Ext f H b c->RS K b c δ i->RH K b c e->RVs K b c ds vs->Q ds e->k vs c):tAs K cf a i H k:=
 ⟨δ,f,S,Q,hs,j,w,fun v c z=>(by obtain⟨d,b,e,x,r,g,q⟩:=z;exact h d v b c e x (hs.ext x) g r q)⟩
theorem PE.ofT(h:PE X e (tLt X.K cf cl)):PE X e (tL X.K cf cl):=PE.imp h fun g H i z=>eX z fun a b S Q c d w q=>⟨a,b,S,Q,c,d,w,fun v f l=>q v f l.l⟩
theorem tLt.run{K}(hs:RS K f H δ i)(j:RH K f H S)(w:W (evL cf a δ S) Q)(h:∀ds p xs b c d,Ext f H b c->RS K b c δ i->RH K b c d->RVs K b c ds xs->p∉b->c p=some (.lst xs)->H p=none->Q (ds,[]) d->k (.ref p) c):tLt K cf a i H k:=
 ⟨δ,f,S,Q,hs,j,w,fun v c z=>(by obtain⟨ds,b,d,p,xs,x,e,r,l,m,g,n,q⟩:=z;exact e▸h ds p xs b c d x (hs.ext x) g r l m n q)⟩
theorem tL.run{K}(hs:RS K f H δ i)(j:RH K f H S)(w:W (evL cf a δ S) Q)(h:∀ds c v b d e,Ext f H b d->RS K b d δ i->RH K b d e->Sq K b d e v ds c->Q (ds,c) e->k v d):tL K cf a i H k:=
 ⟨δ,f,S,Q,hs,j,w,fun v d z=>eX z fun ds c b e x r g q=>h ds c v b d e x (hs.ext x) g r q⟩
section
variable{T:Tab}{cf:CF}{k:Nat}{N:List Str}{sc:Scope}{X:Cx}{pos:Pos}
theorem zfn(h:W o Q):∃a S,o=.ok a S/\Q a S:=W.iff.mp h
theorem zay(h:W (lift S o) Q):∃a,o=some a/\Q a S:=by cases o with|none=>exact h.elim|some a=>exact⟨a,rfl,h⟩
theorem zqQ(G:Gd T cf k N sc X)(b:N[i]?=some x)(c:zmy sc x=true)(f:(x==("__debug__":Str))=false)(g:(x==("__classdict__":Str))=false):PE X (.Name x pos) (tE X.K cf (.loc i)):=by
 refine PE.imp (zcj (by rw[G.nm];exact b) (G.vis c) f g) fun p H s y=>eX y fun a t S Q h j w q=>?_;obtain⟨d,e,l⟩:=zay w;have m:a[i]?=some (some d):=by
  cases z:a[i]? with
  |none=>rw[z]at e;cases e
  |some o=>rw[z]at e;simp at e;rw[e]
 obtain⟨v,n,r⟩:=h.2 i d m;exact⟨v,n,q v H (Lf.of j r l)⟩
theorem zqT(h:conB d c=true):PE X (.Constant c j pos) (tE X.K cf (.con d)):=by
 have key:∀{v:V},PE X (.Constant c j pos) (tC v)->(∀K a H,RV K a H d v)->PE X (.Constant c j pos) (tE X.K cf (.con d)):=fun {v} b e=>PE.imp b fun g H i z=>eX z fun l a S Q m f w q=>q v H (Lf.of f (e _ _ _) w)
 cases d<;>cases c<;>first
  |exact key znr fun _ _ _=>rfl
  |cases h
  |(cases eq_of_beq h;exact key zfU fun _ _ _=>rfl)
  |(cases eq_of_beq h;exact key zta fun _ _ _=>rfl)
  |(cases eq_of_beq h;exact key zeq fun _ _ _=>rfl)
theorem zoi(G:Gd T cf k N sc X)(b:isGl sc x=true)(c:T.cons.lookup x=some d')(f:eqC d' d=true)(g:(x==("__debug__":Str))=false):PE X (.Name x pos) (tE X.K cf (.con d)):=by have e:=zsf f;subst e;obtain⟨a,u,h,r⟩:=G.tab.con x d' c;exact PE.imp (zdI (G.gl b) h r g) fun j H l z=>eX z fun m n S Q o i w q=>q (sV d') H (Lf.of i (zs0 a) w)
theorem zqV(j:PE X a (tE X.K cf m))(n:PE X b (tE X.K cf o)):PE X (.BinOp a op b pos) (tE X.K cf (.bin op m o)):=by refine PE.imp (zrq (zso op) j n) fun J H L y=>eX y fun M O S Q p r w q=>?_;exact tE.run p r w.b fun d v s U Y t c f x A=>tE.run c f A.b fun e u g H2 B i C h E G=>⟨g,B,d,e,Q,x.ext i,E,h,G,fun z I l=>q z I (Lf.up (t.trans i) l)⟩
theorem zqK(e:PE X a (tE X.K cf f)):PE X (.UnaryOp .USub a pos) (tE X.K cf (.neg f)):=by refine PE.imp (zs8 zqc e) fun o H p z=>eX z fun r s S Q g h w q=>?_;refine tE.run g h w.b fun d v j t u l m b n c=>?_;cases d with| int i=>obtain rfl:v=.int i:=n;exact⟨i,rfl,q _ _ (Lf.up l (Lf.of (d:=.int (-i)) b rfl c))⟩|_=>exact c.elim
theorem zsS(e:PE X a (tE X.K cf f)):PE X (.UnaryOp .Not a pos) (tE X.K cf (.nt f)):=by refine PE.imp (zrr e) fun o H p z=>eX z fun r s S Q g h w q=>?_;refine tE.run g h w.b fun d v j t u l m b n c=>?_;cases d with| bl i=>obtain rfl:v=.bl i:=n;exact⟨i,rfl,q _ _ (Lf.up l (Lf.of (d:=.bl (!i)) b rfl c))⟩|_=>exact c.elim
theorem zqU(G:Gd T cf k N sc X)(l:PE X a (tE X.K cf m))(f:PE X b (tE X.K cf n))(o:za2 b=true):PE X (.Compare a [op] [b] pos) (tE X.K cf (.cmp op m n)):=by refine PE.imp (zo9 (zeB G.hu op) l f (ze2 o op)) fun J H L z=>eX z fun M O S Q p r w q=>?_;refine tE.run p r w.b fun d v s U Y t g h x y=>tE.run g h y.b fun e u i H2 A j B c C E=>?_;obtain⟨b,f,I⟩:=zay E.b;exact⟨i,A,d,e,b,x.ext j,C,c,f,q _ _ (Lf.up (t.trans j) (Lf.of (d:=.bl b) c rfl I))⟩
theorem zqw(G:Gd T cf k N sc X)(m:PE X a (tE X.K cf n))(g:PE X b (tE X.K cf o))(p:za2 b=true):PT X (.Compare a [op] [b] pos) (tT X.K cf (.cmp op n o)):=by refine PT.imp (zjO (zeB G.hu op) m g (ze2 p op)) fun J H L z=>eX z fun M O S Q r s w q=>?_;refine tE.run r s w.b fun d v t U Y x h i y A=>tE.run h i A.b fun e u c H2 j l B f C E=>?_;obtain⟨b,g,I⟩:=zay E;exact⟨c,j,d,e,b,y.ext l,C,f,g,b,rfl,q _ _ ⟨c,j,x.trans l,f,I⟩⟩
theorem zom(G:Gd T cf k N sc X)(A:PE X a (tE X.K cf B))(g:PE X b (tE X.K cf C))(E:PE X c (tE X.K cf I))(hm:za2 b=true)(j:za2 c=true):
  PE X (.Compare a [op,h] [b,c] pos) (tE X.K cf (.cmp2 op h B C I)):=by
 refine PE.imp (zmj (zeB G.hu op) (zeB G.hu h) A g E (by simp[lastMarks,ze2 j])) fun σ H Qv z=>eX z fun δ ι S Q J L w q=>?_;refine tE.run J L w.b fun d v M H1 S1 t l m O U=>tE.run l m U.b fun e u n H2 Y o p f x w2=>?_;obtain⟨b,g,r⟩:=zay w2.b;refine⟨n,Y,d,e,b,O.ext o,x,f,g,b,rfl,?_⟩;cases b with|false=>exact q _ _ (Lf.up (t.trans o) (Lf.of (d:=.bl false) f rfl r))| true=>simp only[if_true,zaf]at r⊢;refine tE.run p f r fun e' u' s H3 S3 y hs3 i r3 w4=>?_;obtain⟨b,g,w5⟩:=zay w4;exact⟨s,S3,e,e',b,x.ext y,r3,i,g,q _ _ (Lf.up ((t.trans o).trans y) (Lf.of (d:=.bl b) i rfl w5))⟩
theorem znZ(G:Gd T cf k N sc X)(C:PE X a (tE X.K cf E))(g:PE X b (tE X.K cf I))(J:PE X c (tE X.K cf L))(hm:za2 b=true)(m:za2 c=true):
  PT X (.Compare a [op,h] [b,c] pos) (tT X.K cf (.cmp2 op h E I L)):=by
 refine PT.imp (zl0 (zeB G.hu op) (zeB G.hu h) C g J (by simp[lastMarks,ze2 m])) fun σ H Qv z=>eX z fun δ ι S Q M O w q=>?_;refine tE.run M O w.b fun d v U H1 S1 t n o Y w1=>tE.run n o w1.b fun e u i H2 x p r f y w2=>?_;obtain⟨b,g,s⟩:=zay w2.b;refine⟨i,x,d,e,b,Y.ext p,y,f,g,b,rfl,?_⟩;cases b with|false=>exact⟨false,rfl,q _ _ ⟨i,x,t.trans p,f,s⟩⟩| true=>simp only[if_true,zaf]at s⊢;refine tE.run r f s fun e' u' j H3 A B hs3 l r3 w4=>?_;obtain⟨b,g,w5⟩:=zay w4;exact⟨j,A,e,e',b,y.ext B,r3,l,g,b,rfl,q _ _ ⟨j,A,(t.trans p).trans B,l,w5⟩⟩
theorem zng(j:PE X a (tE X.K cf m))(n:PE X (.BoolOp .And (b::rest) pos) (tE X.K cf o)):PE X (.BoolOp .And (a::b::rest) pos) (tE X.K cf (.and m o)):=by
 refine PE.imp (zry j n) fun A H B y=>eX y fun p C S Q r s w q=>?_;refine tE.run r s w.b fun d v f E t i g e u h=>?_;cases d with
 |bl c=>obtain rfl:v=.bl c:=u;refine⟨c,rfl,?_⟩;cases c with|false=>exact q _ _ (Lf.up i (Lf.of (d:=.bl false) e rfl h))|true=>exact⟨p,f,t,Q,g,e,h,fun z x l=>q z x (Lf.up i l)⟩
 |_=>exact h.elim
theorem zqJ(j:PE X a (tE X.K cf m))(n:PE X (.BoolOp .Or (b::rest) pos) (tE X.K cf o)):PE X (.BoolOp .Or (a::b::rest) pos) (tE X.K cf (.or m o)):=by
 refine PE.imp (zs9 j n) fun A H B y=>eX y fun p C S Q r s w q=>?_;refine tE.run r s w.b fun d v f E t i g e u h=>?_;cases d with
 |bl c=>obtain rfl:v=.bl c:=u;refine⟨c,rfl,?_⟩;cases c with|true=>exact q _ _ (Lf.up i (Lf.of (d:=.bl true) e rfl h))|false=>exact⟨p,f,t,Q,g,e,h,fun z x l=>q z x (Lf.up i l)⟩
 |_=>exact h.elim
theorem LfB.up{K}(x:Ext d H a e)(h:LfB K a e Q b f):LfB K d H Q b f:=by obtain⟨c,g,i,r⟩:=h;exact⟨c,g,x.trans i,r⟩
theorem znd(j:PT X a (tT X.K cf m))(n:PW X (.BoolOp .And (b::rest) pos) (tT X.K cf o)):PW X (.BoolOp .And (a::b::rest) pos) (tT X.K cf (.and m o)):=by refine PW.imp (zrk j n) fun u H v y=>eX y fun p x S Q r s w q=>?_;refine tT.run r s w.b fun c d A g h f e i=>?_;cases c with|false=>exact q _ _ ⟨d,g,h,e,i⟩|true=>exact⟨p,d,g,Q,f,e,i,fun z t l=>q z t (LfB.up h l)⟩
theorem zqv(j:PT X a (tT X.K cf m))(n:PW X (.BoolOp .Or (b::rest) pos) (tT X.K cf o)):PW X (.BoolOp .Or (a::b::rest) pos) (tT X.K cf (.or m o)):=by refine PW.imp (zs6 j n) fun u H v y=>eX y fun p x S Q r s w q=>?_;refine tT.run r s w.b fun c d A g h f e i=>?_;cases c with|true=>exact q _ _ ⟨d,g,h,e,i⟩|false=>exact⟨p,d,g,Q,f,e,i,fun z t l=>q z t (LfB.up h l)⟩
theorem zsQ(e:PT X a (tT X.K cf f)):PT X (.UnaryOp .Not a pos) (tT X.K cf (.nt f)):=PT.imp (zrm e) fun n H o z=>eX z fun p r S Q g h w q=>(tT.run g h w.b fun c b s i j l d m=>q _ _ ⟨b,i,j,d,m⟩)
theorem zqh(o:RH X.K p H S)(r:RV X.K p H d v)(h:tru S d=some b):TruV X.K v H b:=by
 cases d with
 |non=>obtain rfl:v=.non:=r;cases h;rfl|bl c=>obtain rfl:v=.bl c:=r;cases h;rfl|int i=>obtain rfl:v=.int i:=r;cases h;rfl| tup g=>obtain⟨a,f,rfl,j,m⟩:=r;cases h;refine .inr (.inl ⟨f,SqT.of j,?_⟩);have:=m.length;cases g<;>cases f<;>first|rfl|simp at this
 |ref l=>
  simp only[tru]at h;split at h
  . rename_i g e;cases h;obtain⟨a,q,rfl⟩:=r;obtain⟨s,n,f,j,m⟩:=o.obj _ _ e;rw[q]at n;cases n;refine .inl ⟨f,SqL.of j,?_⟩;have:=m.length;cases g<;>cases f<;>first|rfl|simp at this
  cases h
 |_=>cases h
theorem zqu(f:PE X a (tE X.K cf g))(h:zhH a=true):PT X a (tT X.K cf (.tst g)):=by refine PT.imp (zlZ f (zqg h X.env)) fun t H u z=>eX z fun x y S Q i j w q=>?_;refine tE.run i j w.b fun d v e A l m n c o p=>?_;obtain⟨b,r,s⟩:=zay p;exact⟨b,zqh c o r,q _ _ ⟨e,l,m,c,s⟩⟩
theorem zqR(n:PT X c (tT X.K cf o))(p:PE X a (tE X.K cf r))(s:PE X b (tE X.K cf t)):PE X (.IfExp c a b pos) (tE X.K cf (.ite o r t)):=by refine PE.imp (zhI n p s) fun x H A y=>eX y fun h B S Q u v w q=>?_;refine tT.run u v w.b fun c d C i j e f m=>?_;cases c with|true=>exact⟨h,d,i,Q,e,f,m,fun z g l=>q z g (Lf.up j l)⟩|false=>exact⟨h,d,i,Q,e,f,m,fun z g l=>q z g (Lf.up j l)⟩
theorem zni:PA X [] (tAs X.K cf .nil):=PA.imp zbM fun c H d z=>eX z fun e a S Q f b w q=>q [] H ⟨[],a,S,Ext.refl _ _,rfl,b,by simpa[evEs]using w⟩
theorem zjs(j:PE X e (tE X.K cf l))(a:PA X es (tAs X.K cf b))(m:zai e=true):PA X (e::es) (tAs X.K cf (.cons l b)):=by refine PA.imp (zaI j a (zah m es X.env)) fun E H G z=>eX z fun I J S Q n o w q=>?_;exact tE.run n o w.b fun d v p L M r c f s t=>tAs.run c f t.b fun u x g O y i A h B C=>(q _ _ ⟨d::u,g,y,r.trans i,⟨v,x,rfl,s.ext i,B⟩,h,C⟩)
theorem zqI(h:PA X es (tAs X.K cf a)):PE X (.Tuple es j pos) (tE X.K cf (.tup a)):=by refine PE.imp (znp h) fun o H r z=>eX z fun s t S Q f g w q=>?_;refine tAs.run f g w.b fun u v i x y l m b e d=>?_;split at d;rename_i c;exact⟨by rw[e.length];exact c,fun p n=>q _ _ (Lf.up l (Lf.tup b n e d))⟩;exact d.elim
theorem zqP(h:PA X es (tAs X.K cf a)):PE X (.List es pos) (tE X.K cf (.lst a)):=by refine PE.imp (zrs h) fun o H r z=>eX z fun s t S Q e f w q=>?_;refine tAs.run e f w.b fun u v g x y i j b d l=>?_;obtain⟨c,m⟩:=zhU l;exact⟨by rw[d.length];exact c,fun p n=>q _ _ (Lf.up i (Lf.lst b n d m))⟩
theorem zol:PE X (.Dict [] [] pos) (tE X.K cf .dnew):=by refine PE.imp zhJ fun d H e z=>eX z fun f c S Q g a w q=>?_;intro p b;exact q _ _ ⟨.ref S.len,c++[p],S.push (.dic []),Ext.obj a b _,⟨p,a.last p,rfl⟩,a.obj' b _ _ ⟨List.nodup_nil,[],zag,rfl⟩,w⟩
theorem zr3(o:RH X.K h H S)(r:RV X.K h H d v)(p:zbC S d=some ds)(b:R.atI ds i=some e):∃u,rIx X.K v (.int i) H (fun z q=>z=u/\q=H)/\RV X.K h H e u:=by
 obtain⟨a,f,rfl,c,n⟩:=znf o p r;have s:=n.length;have key:∃u,L2.atI f i=some u/\RV X.K h H e u:=by
  unfold R.atI at b;cases l:R.ixN ds.length i with
  |none=>rw[l]at b;cases b
  |some j=>
   rw[l]at b;obtain⟨u,g,m⟩:=n.get (show ds[j]?=some e from b);refine⟨u,?_,m⟩;unfold L2.atI;have:L2.ixN f.length i=some j:=by rw[s];exact l
   rw[this];exact g
 obtain⟨u,g,m⟩:=key;refine⟨u,?_,m⟩;rcases c with c|c;exact .inl ⟨a,f,i,u,rfl,rfl,c,g,rfl,rfl⟩;exact .inr (.inl ⟨a,f,i,u,rfl,rfl,c,g,rfl,rfl⟩)
theorem zjK{K}(h:rIx K x y H (fun z g=>z=u/\g=H))(q:Q u H):rIx K x y H Q:=by rcases h with⟨p,f,i,v,a,b,d,e,rfl,_⟩|⟨p,f,i,v,a,b,d,e,rfl,_⟩|⟨z,i,c,a,b,d,e,j,_⟩;exact .inl ⟨p,f,i,v,a,b,d,e,q⟩;exact .inr (.inl ⟨p,f,i,v,a,b,d,e,q⟩);exact .inr (.inr ⟨z,i,c,a,b,d,e,by rw[j];exact q⟩)
theorem zsU(l:PE X a (tE X.K cf m))(n:PE X b (tE X.K cf o))(p:zb8 b=true):PE X (.Subscript a b pos) (tE X.K cf (.ix m o)):=by refine PE.imp (zrt znB l n (zpv p)) fun U H Y y=>eX y fun δ ι S Q r s w q=>?_;refine tE.run r s w.b fun d v t H1 S1 x f g A B=>tE.run f g B.b fun e u C H2 S2 j E c G h=>?_;split at h;rename_i ds i I;obtain⟨z,J,L⟩:=zay h;obtain rfl:u=.int i:=G;obtain⟨u,M,O⟩:=zr3 c (A.ext j) I J;exact zjK M (q _ _ (Lf.up (x.trans j) (Lf.of c O L)));exact h.elim
end
end R
namespace R
open PySem PySem.Spec PyProof.Rows L2
section
variable[Mks]{T:Tab}{cf:CF}{k:Nat}{N:List Str}{sc:Scope}{X:Cx}{pos:Pos}
theorem val4(t:[a,b,c,d].Nodup):
  valV (zcB [] [((.inr a:Key),v1),(.inr b,v2),(.inr c,v3),(.inr d,v4)]) (.inr s)=if s=a then some v1 else if s=b then some v2 else if s=c then some v3 else if s=d then some v4 else none:=by
 simp only[nodup_cons,mem_cons,not_or]at t;obtain⟨⟨g,i,j⟩,⟨l,m⟩,n⟩:=t;have e:zcB [] [((.inr a:Key),v1),(.inr b,v2),(.inr c,v3),(.inr d,v4)]=[(.inr a,v1),(.inr b,v2),(.inr c,v3),(.inr d,v4)]:=by simp[zcB,putK,g,i,j,l,m,n]
 have f:∀{x:Str},¬s=x->¬(Sum.inr x:Key)=Sum.inr s:=fun h z=>h (Sum.inr.inj z).symm;rw[e];by_cases o:s=a;subst o;rw[if_pos rfl];exact zbz rfl;rw[if_neg o,zbA (f o)];by_cases p:s=b;subst p;rw[if_pos rfl];exact zbz rfl;rw[if_neg p,zbA (f p)];by_cases q:s=c;subst q;rw[if_pos rfl];exact zbz rfl;rw[if_neg q,zbA (f q)];by_cases r:s=d;subst r;rw[if_pos rfl];exact zbz rfl;rw[if_neg r,zbA (f r)];rfl
theorem zod(G:Gd T cf k N sc X){B C E I:Str}{ca cb cc cd ci:CE}{a b c d i:Expr}{j1 j2 j3 j4:Nat}{p1 p2 p3 p4 p:Pos}(hn:[B,C,E,I].Nodup)(ha:PE X a (tE X.K cf ca))(hb:PE X b (tE X.K cf cb))(hc:PE X c (tE X.K cf cc))(hd:PE X d (tE X.K cf cd))(hi:PE X i (tE X.K cf ci))(hs:NoSl i) :
  PE X (.Subscript (.Dict [some (.Constant (.str B) j1 p1),some (.Constant (.str C) j2 p2),some (.Constant (.str E) j3 p3),some (.Constant (.str I) j4 p4)] [a,b,c,d] p) i pos) (tE X.K cf (.sel4 B C E I ca cb cc cd ci)):=by
 refine PE.imp (zo8 (by have:=G.hu;lia) (zo7 (zdk zeq ha (zdk zeq hb (zdk zeq hc (zdk zeq hd zoZ)))) rfl rfl (by simp) (by simp)) hi hs) fun O H Qv z'=>eX z' fun δ ι S Q hs hh w q=>?_;change W (Out.bind _ _) _ at w;simp only[zaf] at w;intro h hp;have x0:Ext ι H ι (upd H h (.dK [])):=Ext.new hp _;have A:=hh.fresh hp;show tE X.K cf ca O (upd H h (.dK [])) _;refine tE.run (hs.ext x0) (hh.new hp (.dK [])) w fun d1 v1 ι1 H1 S1 x1 hs1 hh1 r1 w1=>?_;show tE X.K cf cb O H1 _;refine tE.run hs1 hh1 w1 fun d2 v2 ι2 H2 S2 x2 hs2 hh2 r2 w2=>?_;show tE X.K cf cc O H2 _;refine tE.run hs2 hh2 w2 fun d3 v3 ι3 H3 S3 x3 hs3 hh3 r3 w3=>?_;show tE X.K cf cd O H3 _;refine tE.run hs3 hh3 w3 fun d4 v4 j J S4 x4 hs4 m r4 w4=>?_;have L:=((x1.trans x2).trans x3).trans x4;have n:J h=some (.dK []):=L.keep A zag (by intro ps z;cases z);have pn:h∉j:=(L.rest h _ A zag).2;refine⟨n,[(.inr B,v1),(.inr C,v2),(.inr E,v3),(.inr I,v4)],rfl,by simp,?_⟩;have V4:=fun s=>val4 (s:=s) (v1:=v1) (v2:=v2) (v3:=v3) (v4:=v4) hn;generalize zcB [] [((.inr B:Key),v1),(.inr C,v2),(.inr E,v3),(.inr I,v4)]=g at V4⊢;have kp:Kp J (upd J h (.dK g)):=by refine .same (fun b xs e=>?_) (fun b o u e=>?_) fun b ps e=>?_;rw[zae (by intro z;rw[z,n]at e;cases e)];exact e;rw[zae (by intro z;rw[z,n]at e;cases e)];exact e;rw[zae (by intro z;rw[z,n]at e;cases e)];exact e
 have xe:Ext ι H j (upd J h (.dK g)):=by
  have x:=x0.trans L;refine⟨x.pre,x.kp.trans kp,fun b o hb e=>?_⟩;have bp:b≠h:=by intro z;rw[z,hp]at e;cases e
  obtain⟨U,M⟩:=x.rest b o hb e;refine⟨?_,M⟩;rcases U with U|⟨t,ps,U⟩;exact .inl (by rw[zae bp];exact U);exact .inr ⟨t,ps,by rw[zae bp];exact U⟩
 have hh5:RH X.K j (upd J h (.dK g)) S4:=⟨m.len,m.nd,fun l o e=>let ⟨b,M,h2,hm⟩:=m.mem e;⟨b,M,h2.up (prefix_refl _) kp (zae fun z=>pn (z▸hm))⟩,kp.tab m.tab⟩;show tE X.K cf ci O (upd J h (.dK g)) _;refine tE.run (hs.ext xe) hh5 w4 fun y vy Y H6 S6 x6 hs6 hh6 r6 w6=>?_;obtain⟨u,f,w7⟩:=zay w6;have h6:H6 h=some (.dK g):=x6.keep pn zag (by intro ps z;cases z);have up:∀{e:D}{v:V},RV X.K j J e v->RV X.K Y H6 e v:=fun r=>(r.up (prefix_refl _) kp).ext x6;cases y with
 |str s=>
  obtain rfl:vy=.str s:=r6;have rr:∃v,valV g (.inr s)=some v/\RV X.K Y H6 u v:=by rw[V4];replace f:(if s=B then some d1 else if s=C then some d2 else if s=E then some d3 else if s=I then some d4 else none)=some u:=f;by_cases M:s=B;rw[if_pos M]at f⊢;cases f;exact⟨v1,rfl,up (r1.ext ((x2.trans x3).trans x4))⟩;rw[if_neg M]at f⊢;by_cases h2:s=C;rw[if_pos h2]at f⊢;cases f;exact⟨v2,rfl,up (r2.ext (x3.trans x4))⟩;rw[if_neg h2]at f⊢;by_cases h3:s=E;rw[if_pos h3]at f⊢;cases f;exact⟨v3,rfl,up (r3.ext x4)⟩;rw[if_neg h3]at f⊢;by_cases h4:s=I;rw[if_pos h4]at f⊢;cases f;exact⟨v4,rfl,up r4⟩;rw[if_neg h4]at f;cases f
  obtain⟨v,ev,rv⟩:=rr;exact⟨h,v,rfl,.inl ⟨g,.inr s,.inl h6,rfl,ev.symm⟩,q _ _ (Lf.up (xe.trans x6) (Lf.of hh6 rv w7))⟩
 |_=>cases f
end
section
variable{prog:Program}{w:World}{K:Type}[DecidableEq K]{knd:HeapKind prog w K}{A:Around}{E:Value->Shared->Prop}{s:Shared}{xs:List (K×Addr×Value)}{d:Addr}
theorem ztv(q:knd.room A.in1)(a:knd.is s.heap k c)(G:(d==sysModules)=false)(r:s.heap.DictOfH knd d xs)(hsz:xs.length<=sizeLine)(H:∀p t,atKey xs k=some p->Q p.2 {s with toks:=t})(I:∀h' t,atKey xs k=none->h'.DictOfH knd d (storedH xs k c v)->Heap.SameBut d s.heap h'->Q v {s with heap:=h',toks:=t}):
  wpAny (model prog w) A (call (.builtin "dict.setdefault") [.ref d,.ref c,v]) Q E s:=by
 have u:=r.typeIs;refine wpAny_call_entry PySem.F.slot_dict_setdefault u PySem.F.entry_dict_setdefault ?_ (PySem.F.args_dict_setdefault_3 _ _ _);obtain⟨o,M,J,h,L,f,m,z,n⟩:=id r;refine wpAny_bind ?_;refine wpAny_bind (wpAny_notOrdered_dict u ?_);refine wpAny_pure ?_;dsimp only;rw[G];refine wpAny_bind ?_;unfold dictSetDefault
 try with_reducible refine wpAny_holding ?_
 refine wpAny_bind (knd.pyHash q a ?_);refine wpAny_bind (wpAny_dictFind_heap q a h f m z n (fun i=>?_) fun j p B=>?_);have l:=not_mem_keys_of_get i;have b:=atKey_none_of_get i;refine wpAny_bind (wpAny_rule (wpAny_bind (wpAny_updateDictKeys (hz:=by have e:=size_of_entries m;lia) h f (wpAny_pure (wpAny_pure ⟨v,rfl,I _ _ b ⟨_,_,J+1,Heap.get?_update_self _ h (Obj.isFreed_of_dict (Obj.data_mapDictKeys f _)),L.mapDictKeys _,Obj.data_mapDictKeys f _,?_,?_,?_⟩ (Heap.SameBut.update ..)⟩)))));rw[storedH_new b];simp[m,entryOfKey];rw[storedH_new b];intro x g;rcases mem_append.mp g with g|g;exact knd.keeps (z x g) h f (Heap.SameBut.update ..);cases mem_singleton.mp g;exact knd.keeps a h f (Heap.SameBut.update ..);rw[storedH_new b,map_append,nodup_append];refine⟨n,by simp,fun x g y C=>?_⟩;simp at C;subst C;exact fun e=>l (e▸g);refine wpAny_bind (wpAny_dictEntries h f ?_);rw[entry_at m j,B];exact wpAny_bind (wpAny_rule (wpAny_pure (wpAny_pure ⟨_,rfl,H p _ (atKey_of_get n B)⟩)))
end
section
variable{X:Cx}{o e f:Expr}{apos cpos:Pos}{td ty tv:TE}
def zqr(td ty tv:TE):TE:=fun g H Q=>td g H fun x h=>∃a,x=.ref a/\IsD h a/\ty g h fun y i=>tv g i fun v d=>∃c k b,d a=some (.dT c)/\y=.ref b/\d b=some (.tup (k.map kV))/\(∀u,valV c k=some u->Q u d)/\(valV c k=none->c.length<sizeLine/\Q v (upd d a (.dT (putK c k v))))
theorem zmf(hu:X.A.units+1<cLine)(ho:PE X o td)(he:PE X e ty)(hf:PE X f tv)(m:M2 X o "setdefault" apos e f cpos):PE X (.Call (.Attribute o "setdefault" apos) [e,f] [] cpos) (zqr td ty tv):=by
 intro pins s σ H Q I h;refine wpAny_Call_method m.base m.few m.line PySem.F.plainAttrs_dict PySem.F.slot_dict_setdefault PySem.F.type_dict_setdefault (thn (ho pins s σ H _ I h) fun u s1 ⟨x,H1,I1,rx,a,ex,d,q1⟩=>?_);subst ex;obtain rfl:u=Value.ref a:=rx;obtain⟨t1,t2,_⟩:=zf7 I1 d;refine⟨t1,t2,?_⟩;rw[m.trees];refine Calls.callWith_builtin rfl (Calls.evalArgs_plain (Calls.spliced_cons (thn (he pins s1 σ H1 _ I1 q1) fun iv s2 z'=>eY z' fun y H2 I2 ry q2=>Calls.spliced_cons (thn (hf pins s2 σ H2 _ I2 q2) fun fv s3 ⟨v,H3,I3,rv,ws,k,b,ea,ey,eb,q3,q4⟩=>Calls.spliced_nil ?_))));subst ey;cases(show iv=Value.ref b from ry);obtain⟨z,hd,xs,rel,dd⟩:=zsi I3.hok ea;have hz:xs.length<=sizeLine:=by rw[<-Paired.length rel];exact z
 refine ztv (tupleKind_room_in1 hu) (zdN I3.hok eb) hd dd hz (fun p t hp=>?_) fun h' t hp dd' hs=>?_;have r:=rel.val k;rw[hp]at r;cases l:valV ws k with|none=>rw[l]at r;exact r.elim|some u=>rw[l]at r;exact⟨u,H3,I3.tok _,r,q3 u l⟩
 have r:=rel.val k;rw[hp]at r;cases l:valV ws k with
 |some u=>rw[l]at r;exact r.elim| none=>
  obtain⟨hl,q5⟩:=q4 l;have hl2:(putK ws k v).length<=sizeLine:=by have:=zbl ws k v;omega
  obtain⟨q',es,ep,hq,h2,h3,h4,_,h5⟩:=dd';refine⟨v,upd H3 a (.dT (putK ws k v)),zdW (ob:=.dT (putK ws k v)) (t':=t) I3 (by rw[ea];exact True.intro) hs ⟨q',hq⟩ ⟨hl2,hd,_,(rel.put k eb rv).keeps fun c ys ec=>?_,q',es,ep,hq,h2,h3,h4,h5⟩,rv,q5⟩;rw[zae (ne_of ec ea (fun z=>nomatch z))];exact ec
end
section
variable{prog:Program}{w:World}{K:Type}[DecidableEq K]{knd:HeapKind prog w K}{A:Around}{E:Value->Shared->Prop}{s:Shared}{xs:List (K×Addr×Value)}{d j:Addr}{i ep:Nat}
end
end R
namespace R
open PySem PySem.Spec PyProof.Rows L2
variable[Mks]
section
variable{K:PySem.W.Frag}{ι ι':List Addr}{H H':Hp}{S T:R.St}{d:D}{v:V}
theorem zpF(a:T.frz=S.frz++S.new)(h:S.get l=some o):T.get l=some o:=by obtain⟨f,n,k⟩:=T;subst a;exact zg3 h n k
theorem RH.cut(m:RH K ι H S)(x:Ext ι H ι' H')(t:RH K ι' H' T)(y:T.frz=S.frz++S.new):RH K ι H' S:=by refine⟨m.len,m.nd,fun l o e=>?_,t.tab⟩;obtain⟨a,u,j⟩:=m.obj l o e;obtain⟨b,w,k⟩:=t.obj l o (zpF y e);rw[zbV x.pre u]at w;cases w;refine⟨a,u,?_⟩;cases o with| lst E=>obtain⟨G,_,f⟩:=j;obtain⟨g,h,i⟩:=k;exact⟨g,h,i.restrict x.pre f.flats⟩| dic n=>obtain⟨_,p,_,f⟩:=j;obtain⟨q,g,h,i⟩:=k;exact⟨q,g,h,i.restrict x.pre f.flats⟩| ins c z=>obtain⟨_,_,p,_,_,f⟩:=j;obtain⟨C,r,g,s,h,i⟩:=k;exact⟨C,r,g,s,h,i.restrict x.pre f.flats⟩| dtp n=>obtain⟨_,p,_,f⟩:=j;obtain⟨q,g,h,i⟩:=k;exact⟨q,g,h,i.restrict x.pre f.flats⟩| exc c z=>obtain⟨_,_,_,p,_,_,_,f⟩:=j;obtain⟨C,r,A,g,s,B,h,i⟩:=k;exact⟨C,r,A,g,s,B,h,i.restrict x.pre f.flats⟩
theorem Ext.cut(x:Ext ι H ι' H'):Ext ι H ι H':=⟨prefix_refl _,x.kp,fun a o h e=>⟨(x.rest a o h e).1,h⟩⟩
theorem zoX(c:ι <+: ι')(e:ι'.Nodup)(b:ι'[l]?=some a)(h:ι.length<=l):a∉ι:=fun f=>by obtain⟨t,rfl⟩:=c;rw[getElem?_append_right h]at b;have g:=mem_of_getElem? b;exact(nodup_append.mp e).2.2 a f a g rfl
theorem zkN(x:Ext ι H ι' H')(g:ι'.Nodup)(f:ι'[l]?=some a)(h:ι.length<=l):Ext ι H (ι++[a]) H':=by refine⟨prefix_append _ _,x.kp,fun b o c e=>⟨(x.rest b o c e).1,fun z=>?_⟩⟩;rcases mem_append.mp z with z|z;exact c z;simp at z;subst z;exact(x.rest b o c e).2 (mem_of_getElem? f)
theorem RH.one{l:Nat}{a:Addr}{o:MO}(f:RH K ι H' S)(i:a∉ι)(j:RO K (ι++[a]) H' a o):RH K (ι++[a]) H' (S.push o):=by
 refine⟨by rw[length_append,f.len,zb7];rfl,?_,fun l k e=>?_,f.tab⟩;rw[nodup_append];refine⟨f.nd,by simp,fun b m c h=>?_⟩;simp at h;subst h;exact fun z=>i (z▸m);by_cases n:l<S.len;rw[zco n]at e;obtain⟨b,p,q⟩:=f.obj l k e;exact⟨b,zbV (prefix_append _ _) p,q.up (prefix_append _ _) (Kp.refl _) rfl⟩;have g:=get_lt e;rw[zb7]at g;have:l=S.len:=by lia
 subst this;rw[zfb]at e;cases e;exact⟨a,by rw[<-f.len];simp,j⟩
theorem RH.keep(a:RH K ι' H' T)(c:T.frz=S.frz++S.new):RH K ι' H' ⟨S.frz,S.new++T.new,S.lk⟩:=by
 have g:∀l,(R.St.mk S.frz (S.new++T.new) S.lk).get l=T.get l:=fun l=>by unfold St.get;rw[c];simp only[length_append];by_cases b:l<S.frz.length;rw[if_pos b,if_pos (by lia),getElem?_append_left b];by_cases f:l<S.frz.length+S.new.length;rw[if_neg b,if_pos f,getElem?_append_left (by lia),getElem?_append_right (by lia)];rw[if_neg f,getElem?_append_right (by lia)];congr 1;lia
 refine⟨?_,a.nd,fun l o e=>a.obj l o (by rw[<-g];exact e),a.tab⟩;rw[a.len];unfold St.len;rw[c];simp only[length_append];lia
theorem ze7(g:RH K ι H S)(x:Ext ι H ι' H')(r:RV K ι' H' d v)(f:RH K ι' H' T)(h:T.frz=S.frz++S.new)(w:W (zbb S d T) Q):Lf K ι H Q v H':=by
 have m:=g.cut x f h;unfold zbb at w;split at w;rename_i c;rw[<-g.len]at c;exact⟨d,ι,S,x.cut,r.restrict x.pre c,m,w⟩;rename_i c;split at w;rename_i l;obtain⟨a,i,rfl⟩:=id r;have n:ι.length<=l:=by simp only[R.flat]at c;rw[g.len];lia
 have u:=zoX x.pre f.nd i n;split at w;rename_i y e;obtain⟨b,j,o⟩:=f.obj l _ e;rw[i]at j;cases j;split at w;rename_i k;rw[<-g.len]at k;obtain⟨p,q,s⟩:=o;refine⟨.ref S.len,ι++[a],S.push (.lst y),zkN x f.nd i n,⟨a,by rw[<-g.len];simp,rfl⟩,m.one (l:=l) u ⟨p,q,(s.restrict x.pre k).up (prefix_append _ _) (Kp.refl _)⟩,w⟩;exact⟨_,ι',_,x,r,f.keep h,w⟩;rename_i t e;obtain⟨b,j,o⟩:=f.obj l _ e;rw[i]at j;cases j;split at w;rename_i k;rw[<-g.len]at k;obtain⟨z,p,q,s⟩:=o;refine⟨.ref S.len,ι++[a],S.push (.dic t),zkN x f.nd i n,⟨a,by rw[<-g.len];simp,rfl⟩,m.one (l:=l) u ⟨z,p,q,(s.restrict x.pre k).up (prefix_append _ _) (Kp.refl _)⟩,w⟩;exact⟨_,ι',_,x,r,f.keep h,w⟩;exact⟨_,ι',_,x,r,f.keep h,w⟩;exact⟨_,ι',_,x,r,f.keep h,w⟩
end
section
variable{T:Tab}{cf:CF}{k:Nat}{N:List Str}{sc:Scope}{X:Cx}{pos p:Pos}
theorem RVs.nons{K}:∀j:Nat,RVs K a H (List.replicate j .non) (List.replicate j .non)
 |0=>rfl|j+1=>⟨.non,List.replicate j .non,rfl,rfl,RVs.nons j⟩
theorem RH.enter{K}(h:RH K a H S):RH K a H S.enter:=⟨by rw[enter_len];exact h.len,h.nd,fun l o e=>h.obj l o (by rw[zaB]at e;exact e),h.tab⟩
theorem zk7(b:CFok cf)(h:tE X.K cf (.call f j c) l H m):
  zeM (spF X.K cf f) (List.replicate j .non) E0 (tAs X.K cf c) l H m:=by
 obtain⟨G,I,S,Q,n,o,w,q⟩:=h;refine tAs.run n o w.b fun s J g L t u y a z i=>?_;unfold app at i;rw[zaf]at i;refine⟨g,t.enter,s++List.replicate j .non,z.append (RVs.nons j),a.enter,?_⟩;obtain⟨d,M,e,A⟩:=zfn i;rw[e];exact fun v B C x r E=>q v B (Lf.up u (ze7 a x r E (b _ _ _ _ _ (.inl e)).frz A))
theorem zlc{K}(g:RH K b c j)(x:Ext h H b c)(d:c a=none):H a=none:=by
 cases e:H a with
 |none=>rfl| some o=>
  by_cases f:a∈h;have i:a∈b:=by obtain⟨t,rfl⟩:=x.pre;exact mem_append_left _ f
  exact absurd i (g.fresh d)
  . have:=(x.rest a o f e).1;rw[d]at this;rcases this with z|⟨_,_,z⟩<;>cases z
theorem zon(G:Gd T cf k N sc X)(d:T.fns[f]?=some (x,ps,c))(g:j<=c)(i:isGl sc x=true)(hd:(x==("__debug__":Str))=false)(l:PA X (e::es) (tAs X.K cf b))(a:(e::es).all zai=true):
  PE X (.Call (.Name x p) (e::es) [] pos) (tE X.K cf (.call f j b)):=by
 have Hs:=G.tab.fns f x ps c d j g;rw[all_cons,and_eq_true]at a;exact PE.imp (zrv Hs G.room l (G.gl i) hd (zah a.1 es X.env) (zaz a.2)) fun m H n h=>zk7 G.tab.frm h
theorem zlF(G:Gd T cf k N sc X)(c:T.fns[f]?=some (x,ps,a))(g:j<=a)(h:isGl sc x=true)(hd:(x==("__debug__":Str))=false):
  PE X (.Call (.Name x p) [] [] pos) (tE X.K cf (.call f j .nil)):=by
 have Hs:=G.tab.fns f x ps a c j g;refine PE.imp (zru Hs G.room (G.gl h) hd) fun s H t z=>eX z fun u i S Q y b w q=>?_;change W (Out.bind _ _) _ at w;simp only[evEs,zan] at w;unfold app at w;rw[zaf]at w;obtain⟨d,A,e,l⟩:=zfn w;refine⟨i,S.enter,[]++List.replicate j .non,RVs.append rfl (RVs.nons j),b.enter,?_⟩;rw[e];exact fun v m n x r o=>q v m (ze7 b x r o (G.tab.frm _ _ _ _ _ (.inl e)).frz l)
theorem ziW(h:tE X.K cf (.callW f j a) l H m):
  zeM (spF X.K cf f) (List.replicate j .non) E0 (tAs X.K cf a) l H m:=by
 obtain⟨G,I,S,Q,n,o,w,q⟩:=h;refine tAs.run n o w.b fun s J b L t u y c z i=>?_;unfold appW at i;refine⟨b,t,s++List.replicate j .non,z.append (RVs.nons j),c,?_⟩;obtain⟨d,A,e,B⟩:=zfn i;rw[e];exact fun v C g x r E=>q v C (Lf.up u ⟨d,g,A,x,r,E,B⟩)
theorem zlD(G:Gd T cf k N sc X)(d:T.fns[f]?=some (x,ps,c))(g:j<=c)(i:isGl sc x=true)(hd:(x==("__debug__":Str))=false)(l:PA X (e::es) (tAs X.K cf b))(a:(e::es).all zai=true):
  PE X (.Call (.Name x p) (e::es) [] pos) (tE X.K cf (.callW f j b)):=by
 have Hs:=G.tab.fns f x ps c d j g;rw[all_cons,and_eq_true]at a;exact PE.imp (zrv Hs G.room l (G.gl i) hd (zah a.1 es X.env) (zaz a.2)) fun m H n h=>ziW h
inductive PartOk(X:Cx)(cf:CF):Bool->CE->Option Expr->Prop where
 |no {c:CE} (h:∃d,c=.con d):PartOk X cf false c none
 |yes {c:CE} {e:Expr} (h:PE X e (tE X.K cf c)):PartOk X cf true c (some e)
end
def rB(K:PySem.W.Frag)(f:R.St->List D->Out D):List V->Hp->VK->Prop:=fun e H g=>∃a S b c,RVs K a H b e/\RH K a H S/\W (f S b) c/\∀v d,Lf K a H c v d->g v d
section
variable{T:Tab}{cf:CF}{k:Nat}{N:List Str}{sc:Scope}{X:Cx}{pos p:Pos}
theorem RVs.one{K}(r:RVs K a H [d] xs):∃v,xs=[v]/\RV K a H d v:=by obtain⟨v,w,rfl,b,c⟩:=r;cases(show w=[] from c);exact⟨v,rfl,b⟩
theorem zrQ:zcO X (.builtin "len") (rB X.K fun S ds=>R.bi S .len ds):=by
 intro c s m H f n t I u z;obtain⟨E,S,ds,G,r,j,w,q⟩:=z;dsimp only at w;unfold bi at w;split at w
 case h_1 x=>
  obtain⟨v,rfl,y⟩:=r.one;split at w;obtain⟨a,f,rfl,g,i⟩:=y;refine zbZ c s m H _ n t I u ⟨a,f,rfl,.inr (SqT.of g),?_⟩;rw[i.length];exact q _ _ (Lf.of (d:=.int _) j rfl w);obtain⟨a,f,rfl,g,i⟩:=y;refine zbZ c s m H _ n t I u ⟨a,f,rfl,.inl g.sq,?_⟩;rw[i.length];exact q _ _ (Lf.of (d:=.int _) j rfl w);rename_i l;obtain⟨a,B,rfl⟩:=y;cases e:S.get l with|none=>rw[e]at w;exact w.elim| some o=>rw[e]at w;obtain⟨b,A,C⟩:=j.obj _ _ e;rw[B]at A;cases A;cases o with| lst ds=>obtain⟨f,g,i⟩:=C;refine zbZ c s m H _ n t I u ⟨a,f,rfl,.inl (SqL.of g),?_⟩;rw[i.length];exact q _ _ (Lf.of (d:=.int _) j rfl w)|_=>exact w.elim
  exact w.elim
 all_goals first|exact w.elim|(rename_i h;cases h)
theorem zsx:zcO X (.builtin "abs") (rB X.K fun S ds=>R.bi S .abs ds):=by
 intro a s b H l c e I f z;obtain⟨m,S,ds,n,r,g,w,q⟩:=z;dsimp only at w;unfold bi at w;split at w
 case h_2 i _=>obtain⟨v,rfl,j⟩:=r.one;obtain rfl:v=.int i:=j;exact zm0 a s b H _ c e I f ⟨i,rfl,q _ _ (Lf.of (d:=.int _) g rfl w)⟩
 all_goals first|exact w.elim|(rename_i h;cases h)
theorem zbO(G:Gd T cf k N sc X)(h:bltB T sc x=true):Gl X x/\X.mg x=none:=by unfold bltB at h;replace h:=qa1 h;exact⟨G.gl h.1,G.tab.blt x h.2⟩
theorem zsV{id}(i:zcO X (.builtin id) (rB X.K fun S ds=>R.bi S b ds))(h:Gl X x/\X.mg x=none)(hv:bootBuiltins x=some (.builtin id))(j:PA X (e::es) (tAs X.K cf c))(a:(e::es).all zai=true)(m:x≠"__name__")(d:(x==("__debug__":Str))=false):
  PE X (.Call (.Name x p) (e::es) [] pos) (tE X.K cf (.bi b c)):=by
 rw[all_cons,and_eq_true]at a;refine PE.imp (zcz i h.1 h.2 hv j m d (zah a.1 es X.env) (zaz a.2)) fun B H C z=>eX z fun E G S Q n o w q=>?_;exact tAs.run n o w.b fun ds I f J r s t g u y=>⟨f,r,ds,Q,u,g,y,fun v A l=>q v A (Lf.up s l)⟩
theorem znR(m:RH X.K n H S)(r:RV X.K n H d v)(h:tyOf S d=some a):zc7 H v=some a:=by
 cases d with
 |non=>obtain rfl:v=.non:=r;exact h|bl b=>obtain rfl:v=.bl b:=r;exact h|int b=>obtain rfl:v=.int b:=r;exact h|str b=>obtain rfl:v=.str b:=r;exact h| tup i=>obtain⟨p,q,rfl,c,_⟩:=r;simp only[zc7,c];exact h| ref l=>
  obtain⟨p,s,rfl⟩:=r;simp only[tyOf]at h;simp only[zc7];cases e:S.get l with
  |none=>rw[e]at h;cases h
  |some o=>
   rw[e]at h;obtain⟨b,j,f⟩:=m.obj _ _ e;rw[s]at j;cases j;cases o with
   |lst i=>obtain⟨q,c,_⟩:=f;rw[c];exact h|dic g=>obtain⟨_,t,c,_⟩:=f;rw[c];exact h|ins _ _=>cases h
   |exc _ _=>cases h
   |dtp g=>obtain⟨_,t,c,_⟩:=f;rw[c];exact h
 |fix i=>cases h
theorem zof(G:Gd T cf k N sc X)(i:Gl X "isinstance"/\X.mg "isinstance"=none)(j:Gl X y/\X.mg y=none)(l:bootBuiltins y=some (.type t))(m:t∈["bool","int","str","list","tuple","dict"])(g:y≠"__name__")(h:(y==("__debug__":Str))=false)(n:PE X e (tE X.K cf o))(b:zai e=true):PE X (.Call (.Name "isinstance" p) [e,.Name y p2] [] pos) (tE X.K cf (.bi (.isin t) (.cons o .nil))):=by
 refine PE.imp (zcz zhb i.1 i.2 zbd (zaI n (zaI (zjX (v:=.ty t) j.1 j.2 l rfl g h) zbM) (zah b _ X.env)) (by decide) (by decide) (zah b _ X.env)) fun E H I z=>eX z fun J L S Q r s w q=>?_;change W (Out.bind _ _) _ at w;simp only[evEs,zaf,W_ok] at w;refine tE.run r s w fun d v u M x A B c C f=>?_;simp only[bi]at f;cases e:tyOf x d with|none=>rw[e]at f;exact f.elim| some a=>rw[e]at f;exact⟨v,t,a,rfl,znR c C e,m,q _ _ (Lf.up A (Lf.of (d:=.bl _) c rfl f))⟩
theorem znC(c:RH X.K f H S)(r:RV X.K f H d v)(h:isL S d=true):tyV X.K "list" v H:=by
 cases d with
 |ref l=>
  obtain⟨p,g,rfl⟩:=r;simp only[isL]at h;cases e:S.get l with
  |none=>rw[e]at h;cases h
  |some o=>rw[e]at h;obtain⟨b,a,i⟩:=c.obj _ _ e;rw[g]at a;cases a;cases o with|lst n=>obtain⟨j,m,_⟩:=i;exact .inl ⟨rfl,j,SqL.of m⟩|_=>cases h
 |_=>cases h
def rM(K:PySem.W.Frag)(m:Mt):V->List V->Hp->VK->Prop:=fun x f H g=>∃a S d b c,RV K a H d x/\RVs K a H b f/\RH K a H S/\W (R.mt S m d b) c/\∀v e,Lf K a H c v e->g v e
theorem zlg:MtR X "list.append" (rM X.K .append):=by
 intro f s n H x Y v t A I B C z;obtain⟨ι,S,d,E,Qd,r,G,g,w,q⟩:=z;unfold R.mt at w;split at w
 case h_1 l y _=>obtain⟨a,i,rfl⟩:=r;obtain⟨u,rfl,J⟩:=G.one;cases e:S.get l with|none=>rw[e]at w;exact w.elim| some o=>rw[e]at w;obtain⟨b,j,L⟩:=g.obj _ _ e;rw[i]at j;cases j;cases o with| lst E=>obtain⟨M,O,m⟩:=L;obtain⟨c,S',Q,U⟩:=zp4 w;refine zfX f s n H _ _ v t A I B C ⟨a,M,u,rfl,rfl,O,?_,?_⟩;rw[m.length];rw[length_append,List.length_singleton]at c;lia;exact q _ _ (Lf.wr (d:=.non) g e i Q (m.append ⟨u,[],rfl,J,rfl⟩) rfl U)|_=>exact w.elim
 all_goals first|exact w.elim|(rename_i h;cases h)
theorem zi3:∀{ds:List D}{os:List (Option Int)},zcP ds=some os->ds=os.map fun o=>match o with|some i=>D.int i|none=>D.non:=by intro ds;unfold zcP;induction ds with|nil=>intro os h;simp at h;subst h;rfl| cons d ds b=>intro os h;obtain⟨y,r,a,c,rfl⟩:=zaQ h;rw[b c];cases d<;>simp[zi4]at a<;>subst a<;>rfl
noncomputable def wV:Option Int->V
 |some i=>.int i|none=>.non
theorem zhm{K}:∀{os:List (Option Int)}{vs:List V},RVs K c H (os.map fun o=>match o with|some i=>D.int i|none=>D.non) vs->vs=os.map wV
 | [],_,h=>h| o::os,vs,h=>by obtain⟨v,r,rfl,a,b⟩:=h;rw[zhm b];cases o<;>rw[show v=_ from a]<;>rfl
theorem zm2:∀{ds:List D}{bs:List Bool},zcN ds=some bs->ds=bs.map D.bl:=by intro ds;unfold zcN;induction ds with|nil=>intro bs h;simp at h;subst h;rfl| cons d ds b=>intro bs h;obtain⟨y,r,a,c,rfl⟩:=zaQ h;rw[b c];cases d<;>simp[zsn]at a<;>subst a<;>rfl
theorem zk9{K}:∀{bs:List Bool}{vs:List V},RVs K d H (bs.map D.bl) vs->vs=bs.map V.bl
 | [],_,h=>h| b::bs,vs,h=>by obtain⟨v,r,rfl,a,c⟩:=h;rw[zk9 c,show v=V.bl b from a];rfl
noncomputable def isB(b:Bool):Value->Bool
 |.bool c=>c==b|_=>false
theorem zdX(b):∀{bs:List Bool}{us:List Value},Vals (bs.map V.bl) us->(∀y∈us,∃c,y=Value.bool c)/\us.countP (isB b)=bs.count b
 | [],us,r=>by cases r;exact⟨fun y a=>by simp at a,rfl⟩| c::bs,us,r=>by cases r with| @cons _ u _ us d e=>obtain⟨f,g⟩:=zdX b e;obtain rfl:u=Value.bool c:=d;refine⟨fun y a=>?_,?_⟩;rcases mem_cons.mp a with rfl|a;exact⟨_,rfl⟩;exact f y a;rw[List.countP_cons,List.count_cons,g];simp[isB]
theorem zmX:MtR X "list.count" (rM X.K .count):=by
 intro m s σ H x xs v us Qv I M O z;obtain⟨ι,S,d,t,Qd,r,Q,A,w,q⟩:=z;unfold R.mt at w;split at w
 case h_2 l i _=>
  obtain⟨a,U,rfl⟩:=r;obtain⟨u,rfl,Y⟩:=Q.one;obtain rfl:u=.bl i:=Y;cases e:S.get l with
  |none=>rw[e]at w;exact w.elim| some o=>
   rw[e]at w;obtain⟨b,B,h3⟩:=A.obj _ _ e;rw[U]at B;cases B;cases o with
   |lst t=>obtain⟨zs,ha,C⟩:=h3;dsimp only at w;cases f:zcN t with|none=>rw[f]at w;exact w.elim| some os=>rw[f]at w;rw[zm2 f]at C;cases zk9 C;obtain⟨c,rz,pl,_⟩:=I.list (SqL.of ha);obtain⟨u1,rfl,g⟩:=Vals.one O;obtain rfl:=g;cases M;obtain⟨c1,c2⟩:=zdX i rz;have hl:=pl.isList;obtain⟨⟨cls,dd,E,sl⟩,G,J,n,L⟩:=id hl;subst J L;refine call_meets PySem.F.slot_list_count ⟨_,G,rfl⟩ PySem.F.entry_list_count (PySem.F.args_list_count_2 _ _) (PySem.SeqAt.list_countAt a c.toArray n dd sl (.bool i) (isB i)) ⟨G,fun y hy=>?_,?_⟩;obtain⟨j,rfl⟩:=c1 y (by simpa using hy);exact PySem.SeqAt.EqAt.bool_bool j i;rw[c2];exact⟨.int _,H,I.tok _,⟨_,rfl⟩,q _ _ (Lf.of (d:=.int _) A rfl w)⟩
   |_=>exact w.elim
 all_goals first|exact w.elim|(rename_i h;cases h)
theorem zqL{id}(b:Slot "list" name id)(i:typeOf (.builtin id)=pure (.type "method_descriptor"))(u:MtR X id (rM X.K m))(x:PE X o (tE X.K cf A))(B:PE X e (tE X.K cf C))(a:zai e=true)(f:zaE o=true)(E:(apos.endLine==cpos.line)=true):
  PE X (.Call (.Attribute o name apos) [e] [] cpos) (tE X.K cf (.mt m A (.cons C .nil))):=by
 refine PE.imp (zrx PySem.F.plainAttrs_list b i u x (zjs B zni a) (zbg f name X.env _) (by rw[zah a];rfl) E (zah a [] X.env)) fun σ H Qv y=>eX y fun δ ι S Q G I w q=>?_;refine tE.run G I w.b fun d v J H1 S1 L j g s h=>?_;split at h;rename_i c;refine⟨znC g s c,?_⟩;rw[zaf]at h;exact tAs.run j g h fun M vs n H2 O t U r Y w2=>⟨n,O,d,M,Q,s.ext t,Y,r,w2,fun z H3 l=>q z H3 (Lf.up (L.trans t) l)⟩;exact h.elim
theorem SqK.seq{K}(h:SqK K c H S a xs ds b):SqL K H a xs\/SqT K H a xs:=by cases h with|tmp h e=>exact .inl (SqL.of e)|tup e=>exact .inr (SqT.of e)|fix e=>exact .inl e.sq|own l d f g e=>exact .inl (SqL.of e)
theorem zqF(r:PE X e (tE X.K cf s)):PE X e (tL X.K cf (.val s)):=by
 refine PE.imp r fun J H L z=>eX z fun M O S Q t u w q=>?_;refine tE.run t u w.b fun d v i x m y A c j B=>?_;obtain⟨C,b,E⟩:=zay B.b;refine q v x ⟨C,lkOf m d,i,m,y,?_,c,E⟩;cases d with
 |tup G=>cases b;obtain⟨a,f,rfl,g,h⟩:=j;exact⟨a,f,rfl,h,.tup g⟩| fix G=>cases b;obtain⟨a,f,rfl,g,h⟩:=j;exact⟨a,f,rfl,h,.fix g⟩| ref l=>simp only[zbC]at b;split at b;rename_i I e;cases b;obtain⟨a,n,rfl⟩:=j;obtain⟨U,o,f,g,h⟩:=c.obj _ _ e;rw[n]at o;cases o;exact⟨a,f,rfl,h,.own l (by simp[lkOf]) n e g⟩;cases b
 |_=>cases b
theorem zcW(b:PE X e c)(a:zai e=true):PA X [e] (zeL c tNil):=zaI b zbM (zah a [] X.env)
theorem zqM(G:Gd T cf k N sc X)(n:Gl X "tuple"/\X.mg "tuple"=none)(x:PE X e (tL X.K cf cl))(f:zai e=true):PE X (.Call (.Name "tuple" p) [e] [] pos) (tE X.K cf (.mkT cl)):=by
 refine PE.imp (zfV zfm n.1 n.2 zig (zcW x f) (by decide) (by decide) (zah f [] X.env)) fun L H o z=>eX z fun M O S Q r y w q=>?_;refine tL.run r y w.b fun A B v C b U s E g I i=>?_;split at i;obtain⟨a,j,rfl,t,J⟩:=I;have fresh:SqL X.K b a j->∃p m,[V.ref a]=[V.ref p]/\((SqL X.K b p m/\∀l,b l=none->o (.ref l) (upd b l (.tup m)))\/(SqT X.K b p m/\o (.ref p) b)):=fun h=>⟨a,j,rfl,.inl ⟨h,fun l u=>q _ _ (Lf.up s (Lf.tup g u t i))⟩⟩;cases J with|tmp h e=>exact fresh (SqL.of e)|fix e=>exact fresh e.sq|own l u Y r e=>exact fresh (SqL.of e)|tup e=>exact⟨a,j,rfl,.inr ⟨SqT.of e,q _ _ (Lf.up s (Lf.of (d:=.tup A) g ⟨a,j,rfl,e,t⟩ i))⟩⟩
 exact i.elim
theorem zqN(G:Gd T cf k N sc X)(f:Gl X "list"/\X.mg "list"=none)(g:PE X e (tL X.K cf cl))(b:zai e=true):PE X (.Call (.Name "list" p) [e] [] pos) (tE X.K cf (.mkL cl)):=by refine PE.imp (zfV zgq f.1 f.2 zlb (zcW g b) (by decide) (by decide) (zah b [] X.env)) fun B H C z=>eX z fun E I S Q h i w q=>?_;refine tL.run h i w.b fun J j v m L M n o d r s=>?_;obtain⟨c,t⟩:=zhU s;obtain⟨a,u,rfl,x,y⟩:=r;exact⟨a,u,rfl,y.seq,fun l A=>q _ _ (Lf.up n (Lf.lst d A x t))⟩
theorem zj6(h:tE X.K cf (.mkL cl) m H n):tLt X.K cf cl m H n:=by obtain⟨E,G,S,Q,r,s,w,q⟩:=h;refine tLt.run r s w.b fun t p u g I i d v a x y e A B=>?_;obtain⟨c,C⟩:=zhU B;refine q _ _ ⟨.ref i.len,g++[p],i.push (.lst t),?_,⟨p,a.last p,rfl⟩,a.one (l:=0) y ⟨u,e,x.up (prefix_append _ _) (Kp.refl _)⟩,C⟩;refine⟨d.pre.trans (prefix_append _ _),d.kp,fun b o j f=>⟨(d.rest b o j f).1,fun z=>?_⟩⟩;rcases mem_append.mp z with z|z;exact(d.rest b o j f).2 z;simp at z;subst z;rw[A]at f;cases f
theorem zg1(f:RH X.K g H S)(r:RV X.K g H d v)(h:isDt S d=true):∃a,v=.ref a/\IsD H a:=by
 cases d with
 |ref l=>
  obtain⟨p,i,rfl⟩:=r;simp only[isDt]at h;cases e:S.get l with
  |none=>rw[e]at h;cases h
  |some o=>rw[e]at h;obtain⟨b,c,j⟩:=f.obj _ _ e;rw[i]at c;cases c;cases o with|dtp m=>obtain⟨_,n,q,_⟩:=j;exact⟨p,rfl,.inr ⟨n,.inl q⟩⟩|_=>cases h
 |_=>cases h
theorem znA{k}(r:RV X.K d H y v)(h:ze8 y=some k):∃b,v=.ref b/\H b=some (.tup ((kI k).map kV)):=by cases y with| tup e=>obtain⟨b,f,rfl,a,c⟩:=r;rw[ze9 h]at c;rw[c.ints_eq]at a;refine⟨b,rfl,?_⟩;rw[a];unfold kI;rw[map_map];rfl|_=>cases h
theorem zpN(n:RH X.K c H S)(q:RV X.K c H x r)(s:RV X.K c H y t)(h:dGet S x y=some o):∃a j,r=.ref a/\DGet H a t j/\RV X.K c H (o.getD .non) (j.getD .non):=by
 unfold dGet at h;cases x with
 |ref l=>
  obtain⟨p,u,rfl⟩:=q;dsimp only at h;cases e:S.get l with
  |none=>rw[e]at h;cases h
  |some w=>
   rw[e]at h;obtain⟨b,m,z⟩:=n.obj _ _ e;rw[u]at m;cases m;cases w with
   |dtp A=>
    obtain⟨_,I,B,C⟩:=z;cases f:ze8 y with
    |none=>rw[f]at h;cases h
    |some k=>rw[f]at h;cases h;obtain⟨b,rfl,E⟩:=znA s f;refine⟨p,_,rfl,DGet.t B E,?_⟩;rcases C.val k with⟨g,i⟩|⟨d,v,g,i,G⟩;dsimp only;rw[g,i];rfl;dsimp only;rw[g,i];exact G
   |_=>cases h
 |_=>cases h
theorem zlz:PE X (.Dict [] [] pos) (tE X.K cf .dnewT):=by refine PE.imp zmh fun d H e z=>eX z fun f c S Q g a w q=>?_;intro p b;exact q _ _ ⟨.ref S.len,c++[p],S.push (.dtp []),Ext.obj a b _,⟨p,a.last p,rfl⟩,a.obj' b _ _ ⟨List.nodup_nil,[],zag,rfl⟩,w⟩
theorem zlC(G:Gd T cf k N sc X)(s:PE X o (tE X.K cf t))(u:PE X e (tE X.K cf x))(b:zai e=true)(f:zaE o=true)(A:(apos.endLine==cpos.line)=true):
  PE X (.Call (.Attribute o "get" apos) [e] [] cpos) (tE X.K cf (.dget1 t x)):=by
 refine PE.imp (zmi (by have:=G.hu;lia) s u ⟨zbg f "get" X.env _,by rw[zah b];rfl,A,by rw[zah b];rfl⟩) fun σ H Qv z=>eX z fun δ ι S Q B C w q=>?_;refine tE.run B C w.b fun d v E H1 S1 I l h m j=>?_;split at j;rename_i c;obtain⟨a,rfl,hD⟩:=zg1 h m c;refine⟨a,rfl,hD,?_⟩;rw[zaf]at j;refine tE.run l h j fun y vy J H2 S2 n L i M r=>?_;rw[zaf]at r;obtain⟨o,O,U⟩:=zay r;obtain⟨a',Y,ea,g,rv⟩:=zpN i (m.ext n) M O;cases ea;exact⟨Y,g,q _ _ (Lf.up (I.trans n) (Lf.of i rv U))⟩;exact j.elim
end
end R
namespace R
open PySem PySem.W PyProof.Rows
section
variable{n:Nat}{r:Nat->Int}{cmp:Nat->Nat->(Bool->Shared->Prop)->Shared->Prop}{s:Shared}
abbrev GP(n:Nat)(p:Array Nat):Prop:=p.Perm (List.range n).toArray
noncomputable def kAt(r:Nat->Int)(p:Array Nat)(i:Nat):Int:=r (p.getD i 0)
def AscTo(r:Nat->Int)(p:Array Nat)(k:Nat):Prop:=∀i j,i<j->j<k->kAt r p i<kAt r p j
def DescTo(r:Nat->Int)(p:Array Nat)(k:Nat):Prop:=∀i j,i<j->j<k->kAt r p j<kAt r p i
theorem GP.size(h:GP n p):p.size=n:=by have:=h.size_eq;simpa using this
theorem GP.list(h:GP n p):p.toList.Perm (List.range n):=by have:=Array.perm_iff_toList_perm.mp h;simpa using this
theorem zbm(p:Array Nat)(hi):p.getD i 0=p.toList[i]'(by simpa using hi):=by simp[hi]
theorem GP.lt(h:GP n p)(hi:i<n):p.getD i 0<n:=by have a:=h.size;rw[zbm p (by lia)];exact mem_range.mp (h.list.mem_iff.mp (List.getElem_mem _))
theorem GP.inj(h:GP n p)(c:∀i j,i<n->j<n->r i=r j->i=j)(hi:i<n)(d:j<n)(e:kAt r p i=kAt r p j):i=j:=by have a:=c _ _ (h.lt hi) (h.lt d) e;have g:=h.size;rw[zbm p (by lia),zbm p (by lia)]at a;have f:=h.list.nodup_iff.mpr List.nodup_range;have b:=List.pairwise_iff_getElem.mp f;rcases Nat.lt_trichotomy i j with z|z|z;exact absurd a (b i j _ _ z);exact z;exact absurd a.symm (b j i _ _ z)
theorem GP.tri(h:GP n p)(a:∀i j,i<n->j<n->r i=r j->i=j)(hi:i<n)(b:j<n)(d:i≠j)(c:¬kAt r p i<kAt r p j):kAt r p j<kAt r p i:=by have:kAt r p i≠kAt r p j:=fun e=>d (h.inj a hi b e);lia
theorem AscTo.snoc(h:AscTo r p k)(d:1<=k)(c:kAt r p (k-1)<kAt r p k):AscTo r p (k+1):=by
 intro i j a f;by_cases e:j<k;exact h i j a e;have:j=k:=by lia
 subst this;by_cases b:i=j-1;subst b;exact c;have:=h i (j-1) (by lia) (by lia);lia
theorem DescTo.snoc(h:DescTo r p k)(d:1<=k)(c:kAt r p k<kAt r p (k-1)):DescTo r p (k+1):=by
 intro i j a f;by_cases e:j<k;exact h i j a e;have:j=k:=by lia
 subst this;by_cases b:i=j-1;subst b;exact c;have:=h i (j-1) (by lia) (by lia);lia
variable(hr:∀i j,i<n->j<n->r i=r j->i=j)(hc:∀i j (C:Bool->Shared->Prop),i<n->j<n->C (decide (r i<r j)) s->cmp i j C s)
include hr hc
theorem zlf{p:Array Nat}(g:GP n p){Q:Nat->Shared->Prop}:∀(f a:Nat),1<=a->a+f<=n->AscTo r p a->
  (∀m,a<=m->m<=a+f->AscTo r p m->(m=a+f\/kAt r p m<kAt r p (m-1))->Q m s)->(kas_asc p f a).kasWp cmp Q s
 |0,a,_,_,h,q=>q a (le_refl _) (le_refl _) h (.inl rfl)| f+1,a,b,l,h,q=>by refine hc _ _ _ (g.lt (by lia)) (g.lt (by lia)) ?_;by_cases c:kAt r p a<kAt r p (a-1);have e:decide (r (p.getD a 0)<r (p.getD (a-1) 0))=true:=decide_eq_true c;show(if decide (r (p.getD a 0)<r (p.getD (a-1) 0))=true then KasT.ret a else kas_asc p f (a+1)).kasWp cmp Q s;rw[if_pos e];exact q a (le_refl _) (by lia) h (.inr c);have e:¬decide (r (p.getD a 0)<r (p.getD (a-1) 0))=true:=fun z=>c (of_decide_eq_true z);show(if decide (r (p.getD a 0)<r (p.getD (a-1) 0))=true then KasT.ret a else kas_asc p f (a+1)).kasWp cmp Q s;rw[if_neg e];refine zlf g f (a+1) (by lia) (by lia) (h.snoc b (g.tri hr (by lia) (by lia) (by lia) c)) fun m o t d k=>q m (by lia) (by lia) d ?_;rcases k with z|z;exact .inl (by lia);exact .inr z
theorem zkW{p:Array Nat}(g:GP n p){Q:Array Nat×Nat×Nat->Shared->Prop}:∀(f a:Nat),1<=a->a+f<=n->DescTo r p a->
  (∀m,a<=m->m<=a+f->DescTo r p m->Q (p,m,0) s)->(kas_desc f p a 0).kasWp cmp Q s
 |0,a,_,_,h,q=>q a (le_refl _) (le_refl _) h| f+1,a,b,o,h,q=>by refine hc _ _ _ (g.lt (by lia)) (g.lt (by lia)) ?_;by_cases c:kAt r p a<kAt r p (a-1);have e:decide (r (p.getD a 0)<r (p.getD (a-1) 0))=true:=decide_eq_true c;rw[e];exact zkW g f (a+1) (by lia) (by lia) (h.snoc b c) fun m t u d=>q m (by lia) (by lia) d;have e:decide (r (p.getD a 0)<r (p.getD (a-1) 0))=false:=decide_eq_false c;rw[e];refine hc _ _ _ (g.lt (by lia)) (g.lt (by lia)) ?_;have k:=g.tri hr (by lia) (by lia) (by lia) c;have l:decide (r (p.getD (a-1) 0)<r (p.getD a 0))=true:=decide_eq_true k;rw[l];exact q a (le_refl _) (by lia) h
omit hr hc in
theorem GP.rev(g:GP n p)(i j):GP n (kas_rev p i j):=(mirror_perm _ _ _ _).trans g
omit hr hc in
theorem zkr(g:GP n p)(d:m<=n)(hi:i<m):kAt r (kas_rev p 0 m) i=kAt r p (m-1-i):=by
 have f:=g.size;have e:=getElem?_mirror_all (xs:=p) (i:=0) (j:=m) (by lia) i;unfold kAt kas_rev;congr 1;have a:(mirror p 0 m ((m-0)/2)).getD i 0=((mirror p 0 m ((m-0)/2))[i]?).getD 0:=by simp[Array.getD_eq_getD_getElem?]
 have b:p.getD (m-1-i) 0=(p[m-1-i]?).getD 0:=by simp[Array.getD_eq_getD_getElem?]
 rw[a];congr 1;rw[e];have c:0<=i/\i<m:=⟨zero_le _,hi⟩;simp[hi]
 try (congr 1;lia)
omit hr hc in
theorem DescTo.rev(g:GP n p)(a:m<=n)(h:DescTo r p m):AscTo r (kas_rev p 0 m) m:=by intro i j b c;rw[zkr g a (by omega),zkr g a c];exact h _ _ (by omega) (by omega)
theorem zmW{p:Array Nat}(g:GP n p)(x:1<=n){Q:Nat×Array Nat->Shared->Prop}(q:∀m b,1<=m->m<=n->GP n b->AscTo r b m->Q (m,b) s):(kas_count n p).kasWp cmp Q s:=by
 unfold kas_count;rw[KasT.kasWp_bind];refine zlf hr hc g (n-1) 1 (le_refl _) (by lia) (fun i j _ _=>by lia) fun m f y a l=>?_;by_cases e:m=n;subst e;simp only[beq_self_eq_true];exact q m p f (le_refl _) g a;rw[if_neg (by simpa using e)];have c:=l.resolve_left (by lia);by_cases h:m>1;rw[if_pos h];refine hc _ _ _ (g.lt (by lia)) (g.lt (by lia)) ?_;have o:=a 0 (m-1) (by lia) (by lia);have d:decide (r (p.getD 0 0)<r (p.getD (m-1) 0))=true:=decide_eq_true o;rw[d];exact q m p f (by lia) g a;rw[if_neg h];have d:m=1:=by lia
 subst d;unfold kas_descPart;rw[KasT.kasWp_bind];have t:DescTo r p (1+1):=by
  intro i j u z;have:i=0/\j=1:=by lia
  obtain⟨rfl,rfl⟩:=this;exact c
 refine zkW hr hc g (n-(1+1)) (1+1) (by lia) (by lia) t fun k A B v=>?_;show(kas_tail3 k n p).kasWp cmp Q s;unfold kas_tail3;rw[KasT.kasWp_bind];exact zlf hr hc (g.rev 0 k) (n-k) k (by lia) (by lia) (v.rev g (by lia)) fun j E G w _=>(q j _ (by lia) (by lia) (g.rev 0 k) w)
theorem zeW{p:Array Nat}(g:GP n p){k:Nat}(h:k<n)(m:AscTo r p k){Q:Nat->Shared->Prop}:∀(f l t:Nat),l<=t->t<=k->t-l<=f->(∀i,i<l->kAt r p i<kAt r p k)->(∀i,t<=i->i<k->kAt r p k<kAt r p i)->
  (∀l,l<=k->(∀i,i<l->kAt r p i<kAt r p k)->(∀i,l<=i->i<k->kAt r p k<kAt r p i)->Q l s)->(kas_place p k f l t).kasWp cmp Q s
 |0,l,t,w,v,x,a,b,q=>q l (by lia) a fun i o d=>b i (by lia) d| f+1,l,t,w,v,x,a,b,q=>by unfold kas_place;by_cases e:l≥t;rw[if_pos e];exact q l (by lia) a fun i o d=>b i (by lia) d;rw[if_neg e];refine hc _ _ _ (g.lt h) (g.lt (by lia)) ?_;by_cases c:kAt r p k<kAt r p ((l+t)/2);have u:decide (r (p.getD k 0)<r (p.getD ((l+t)/2) 0))=true:=decide_eq_true c;rw[u];refine zeW g h m f l ((l+t)/2) (by lia) (by lia) (by lia) a (fun i o d=>?_) q;by_cases z:i=(l+t)/2;rw[z];exact c;have:=m ((l+t)/2) i (by lia) d;lia;have u:decide (r (p.getD k 0)<r (p.getD ((l+t)/2) 0))=false:=decide_eq_false c;rw[u];have y:=g.tri hr h (by lia) (by lia) c;refine zeW g h m f ((l+t)/2+1) t (by lia) v (by lia) (fun i o=>?_) b q;by_cases z:i=(l+t)/2;rw[z];exact y;have:=m i ((l+t)/2) (by lia) (by lia);lia
omit hr hc in
theorem zeu(g:GP n p)(c:k<n)(d:l<=k)(i):kAt r (bubble p k (k-l)) i=if i=l then kAt r p k else if l<i/\i<=k then kAt r p (i-1) else kAt r p i:=by
 have f:=g.size;have e:=getElem?_bubble (xs:=p) (src:=k) (by lia) (k-l) (by lia) i;have a:∀(q:Array Nat)(j:Nat),q.getD j 0=(q[j]?).getD 0:=fun q j=>by simp[Array.getD_eq_getD_getElem?]
 unfold kAt;rw[a,e];have b:k-(k-l)=l:=by lia
 rw[b];split;rw[a];split;rw[a];rw[a]
omit hr hc in
theorem ziZ(g:GP n p)(e:k<n)(f:l<=k)(c:AscTo r p k)(a:∀i,i<l->kAt r p i<kAt r p k)(b:∀i,l<=i->i<k->kAt r p k<kAt r p i):AscTo r (bubble p k (k-l)) (k+1):=by intro i j d t;rw[zeu g e f,zeu g e f];by_cases h:i=l;rw[if_pos h,if_neg (by omega),if_pos (by omega)];exact b _ (by omega) (by omega);rw[if_neg h];by_cases m:l<i/\i<=k;rw[if_pos m,if_neg (by omega),if_pos (by omega)];exact c _ _ (by omega) (by omega);rw[if_neg m];by_cases o:j=l;rw[if_pos o];exact a _ (by omega);rw[if_neg o];by_cases q:l<j/\j<=k;rw[if_pos q];by_cases z:i=j-1;omega;exact c _ _ (by omega) (by omega);rw[if_neg q];exact c _ _ d (by omega)
theorem znK{Q:Array Nat->Shared->Prop}:∀(f k:Nat)(p:Array Nat),k+f=n->1<=k->GP n p->AscTo r p k->(∀b,GP n b->AscTo r b n->Q b s)->(kas_bin f p k).kasWp cmp Q s
 |0,k,p,e,_,g,a,q=>q p g (by rw[show n=k by lia];exact a)| f+1,k,p,e,m,g,a,q=>by unfold kas_bin;rw[KasT.kasWp_bind];exact zeW hr hc g (by lia) a k 0 k (by lia) (le_refl _) (by lia) (fun i c=>by lia) (fun i c d=>by lia) fun l l1 l2 h=>(znK f (k+1) _ (by lia) (by lia) ((bubble_perm _ _ _).trans g) (ziZ g (by lia) l1 a l2 h) q)
theorem zn5(c:1<=n){Q:Array Nat->Shared->Prop}(q:∀p,GP n p->AscTo r p n->Q p s):(kas_sort n).kasWp cmp Q s:=by
 unfold kas_sort;rw[KasT.kasWp_bind];refine zmW hr hc (Array.Perm.refl _) c fun m b d f g a=>?_;have em:max m 1=m:=by lia
 rw[em];by_cases e:m<n;rw[if_pos e];exact znK hr hc (n-m) m b (by lia) d g a q;rw[if_neg e];exact q b g (by rw[show n=m by lia];exact a)
end
end R
namespace R
open PySem PySem.Spec PyProof.Rows L2
theorem zkd:∀(as bs:List Int),lexZ as bs=HT.lexLt as bs
 | [],[]=>by simp[lexZ,HT.lexLt]| [],_::_=>by simp[lexZ,HT.lexLt]|_::_,[]=>by simp[lexZ,HT.lexLt]|a::as,b::bs=>by simp[lexZ,HT.lexLt,zkd as bs]
section
variable{prog:Program}{w:World}{A:Around}{E:Value->Shared->Prop}{s:Shared}
theorem zjg(x:IsTupleKey (zat prog w) h (ks.map Sum.inl) b):∃items,IsTup h b items/\IntsAre items.toList ks:=by
 obtain⟨o,items,n,e,f,g,j⟩:=x;refine⟨items,⟨o,e,f,n,g⟩,?_⟩;have:∀{l:List Int}{a:List Value},ItemsAre (zat prog w) (l.map Sum.inl) a->IntsAre a l:=by intro l;induction l with|nil=>intro a h;cases h;exact .nil| cons x l k=>intro a h;cases h with| @cons _ v _ a m p=>rcases zaA (show zf5 (Sum.inl x) v=true from m) with⟨i,t,c,d⟩|⟨y,t,c,d⟩;cases c;subst d;exact .cons _ _ (k p);cases c
 exact this j
theorem zjW{b:Type}{xs:List b}{p:List Nat}(d)(c:p.Perm (List.range xs.length)):(p.map fun i=>xs.getD i d).Perm xs:=by
 have a:=c.map fun i=>xs.getD i d;have e:(List.range xs.length).map (fun i=>xs.getD i d)=xs:=by apply List.ext_getElem;simp;intro i g f;simp[f]
 rw[e]at a;exact a
end
end R
namespace R
open PySem PySem.Spec PyProof.Rows L2
variable[Mks]
section
variable{T:Tab}{cf:CF}{k:Nat}{N:List Str}{sc:Scope}{X:Cx}{pos p p2 pos':Pos}
theorem zh9(m:RH X.K d H S)(n:RV X.K d H x q)(r:RV X.K d H y s)(h:dGet S x y=some o):
  ∃l a b kvs f c,x=.ref l/\d[l]?=some a/\S.get l=some (.dtp kvs)/\q=.ref a/\ze8 y=some c/\(kvs.map (·.1)).Nodup/\H a=some (.dT f)/\RKs X.K d H kvs f/\s=.ref b/\H b=some (.tup ((kI c).map kV))/\o=valP kvs c:=by
 unfold dGet at h;cases x with
 |ref l=>
  obtain⟨p,i,rfl⟩:=n;dsimp only at h;cases e:S.get l with
  |none=>rw[e]at h;cases h
  |some t=>
   rw[e]at h;obtain⟨b,j,u⟩:=m.obj _ _ e;rw[i]at j;cases j;cases t with
   |dtp kvs=>
    obtain⟨v,f,w,z⟩:=u;cases g:ze8 y with
    |none=>rw[g]at h;cases h
    |some c=>rw[g]at h;cases h;obtain⟨b,rfl,A⟩:=znA r g;exact⟨l,p,b,kvs,f,c,rfl,i,e,rfl,rfl,v,w,z,rfl,A,rfl⟩
   |_=>cases h
 |_=>cases h
theorem zlB(G:Gd T cf k N sc X)(O:PE X o (tE X.K cf U))(Y:PE X e (tE X.K cf ce))(hx:PE X x (tE X.K cf cx))(h:zai e=true)(f:zai x=true)(i:zaE o=true)(hl:(apos.endLine==cpos.line)=true):
  PE X (.Call (.Attribute o "get" apos) [e,x] [] cpos) (tE X.K cf (.dget2 U ce cx)):=by
 refine PE.imp (zeX (by have:=G.hu;lia) O Y hx ⟨zbg i "get" X.env _,by rw[zah h,zah f];rfl,hl,by rw[zah h,zah f];rfl⟩) fun σ H Qv u=>eX u fun δ ι S Q hs hh w q=>?_;refine tE.run hs hh w.b fun d v ι1 H1 S1 x1 r j E m=>?_;split at m;rename_i c;obtain⟨a,rfl,hD⟩:=zg1 j E c;refine⟨a,rfl,hD,?_⟩;rw[zaf]at m;refine tE.run r j m fun y vy ι2 H2 S2 I s t r2 J=>?_;rw[zaf]at J;refine tE.run s t J fun z vz ι3 H3 S3 A hs3 g r3 L=>?_;rw[zaf]at L;obtain⟨o,eo,n⟩:=zay L;obtain⟨l,a',b,kvs,ws,kk,_,_,_,ea,_,nd,ha,rk,rfl,hb,rfl⟩:=zh9 g (E.ext (I.trans A)) (r2.ext A) eo;cases ea;refine⟨_,DGet.t ha hb,?_⟩;have M:=(x1.trans I).trans A;rcases rk.val kk with⟨B,C⟩|⟨d',v',B,C,rv⟩;rw[B]at n;rw[C];exact q _ _ (Lf.up M (Lf.of g r3 n));rw[B]at n;rw[C];exact q _ _ (Lf.up M (Lf.of g rv n));exact m.elim
theorem zlx(G:Gd T cf k N sc X)(ho:PE X o (tE X.K cf co))(he:PE X e (tE X.K cf ce))(hx:PE X x (tE X.K cf cx))(m:zai e=true)(i:zai x=true)(n:zaE o=true)(hl:(apos.endLine==cpos.line)=true):
  PE X (.Call (.Attribute o "setdefault" apos) [e,x] [] cpos) (tE X.K cf (.dsetd co ce cx)):=by
 refine PE.imp (zmf (by have:=G.hu;omega) ho he hx ⟨zbg n "setdefault" X.env _,by rw[zah m,zah i];rfl,hl,by rw[zah m,zah i];rfl⟩) fun σ H Qv z'=>eX z' fun δ ι S Q hs hh w q=>?_;refine tE.run hs hh w.b fun d v ι1 H1 S1 x1 M s r1 B=>?_;split at B;rename_i c;obtain⟨a,rfl,hD⟩:=zg1 s r1 c;refine⟨a,rfl,hD,?_⟩;rw[zaf]at B;refine tE.run M s B fun y vy ι2 H2 S2 x2 O U r2 w2=>?_;rw[zaf]at w2;refine tE.run O U w2 fun z vz Y H3 C x3 hs3 g r3 w3=>?_;rw[zaf]at w3;obtain⟨r,f,w4⟩:=zay w3;have up:=(x1.trans x2).trans x3;unfold zfh at f;cases eg:dGet C d y with
 |none=>rw[eg]at f;cases f
 |some og=>
  obtain⟨l,a',b,t,E,j,rfl,hi,hg,ea,ek,nd,ha,rk,rfl,hb,rfl⟩:=zh9 g (r1.ext (x2.trans x3)) (r2.ext x3) eg;cases ea;rw[eg]at f;have A:∀T,dPut C (.ref l) y z=some T->t.length<16777216/\C.put l (.dtp (putP t j z))=some T:=fun T h=>by unfold dPut at h;dsimp only at h;rw[hg]at h;dsimp only at h;rw[ek]at h;split at h;rename_i c;exact⟨c,h⟩;cases h
  rcases rk.val j with⟨e1,I⟩|⟨d',v',e1,I,rv⟩;rw[e1]at f;dsimp only at f;cases ep:dPut C (.ref l) y z with
  |none=>rw[ep]at f;cases f
  |some T'=>
   rw[ep]at f;cases f;obtain⟨c,es⟩:=A _ ep;have J:=Ext.wr g hg hi (.dT (putK E (kI j) vz));have hz:E.length<sizeLine:=by rw[rk.length,sizeLine_eq];exact c
   refine⟨E,kI j,b,ha,rfl,hb,fun u L=>absurd (I.symm.trans L) (fun z=>by cases z),fun _=>⟨hz,?_⟩⟩;exact q _ _ ⟨z,Y,T',up.trans J,r3.ext J,g.wr hg hi es ⟨ziA nd,_,zag,(rk.put j r3 nd).up J.pre J.kp⟩,w4⟩
  rw[e1]at f;cases f;refine⟨E,kI j,b,ha,rfl,hb,fun u L=>?_,fun hn=>absurd (I.symm.trans hn) (fun z=>by cases z)⟩;rw[I]at L;cases L;exact q _ _ (Lf.up up (Lf.of g rv w4))
 exact B.elim
theorem zok(O:PE X o (tE X.K cf U))(Y:PE X e (tE X.K cf cb))(g:zai e=true)(i:zaE o=true)(hl:(apos.endLine==cpos.line)=true):
  PE X (.Call (.Attribute o "extend" apos) [e] [] cpos) (tE X.K cf (.extv U cb)):=by
 refine PE.imp (zrx PySem.F.plainAttrs_list PySem.F.slot_list_extend PySem.F.type_list_extend zj4 O (zcW Y g) (zbg i "extend" X.env _) (by rw[zah g];rfl) hl (zah g [] X.env)) fun σ H Qv z=>eX z fun δ ι S Q hs hh w q=>?_;refine tE.run hs hh w.b fun d v ι1 H1 S1 x1 s j x r=>?_;split at r;rename_i c;refine⟨znC j x c,?_⟩;rw[zaf]at r;refine tE.run s j r fun y vy ι2 H2 A B hs2 h r2 C=>?_;rw[zaf]at C;obtain⟨o,f,w3⟩:=zay C;unfold lsts at f;cases d with
 |ref l=>
  cases y with
  |ref m=>
   obtain⟨a,E,rfl⟩:=x.ext B;obtain⟨b,h2,rfl⟩:=r2;dsimp only at f;cases n:A.get l with
   |none=>rw[n]at f;cases f
   |some G=>
    cases t:A.get m with
    |none=>rw[n,t]at f;cases G<;>cases f| some u=>
     rw[n,t]at f;cases G with
     |lst xs=>cases u with| lst ys=>cases f;obtain⟨a',I,zs,ha,J⟩:=h.obj _ _ n;rw[E]at I;cases I;obtain⟨b',L,us,hb,M⟩:=h.obj _ _ t;rw[h2]at L;cases L;obtain⟨c2,S',hp,w4⟩:=zp4 w3;refine⟨a,b,zs,us,rfl,rfl,ha,hb,?_,q _ _ (Lf.up (x1.trans B) (Lf.wr (d:=.non) h n E hp (J.append M) rfl w4))⟩;rw[J.length,M.length,<-length_append];exact c2|_=>cases f
     |_=>cases f
  |_=>cases f
 |_=>cases f
 exact r.elim
end
structure Ltr(K:PySem.W.Frag)(ι:List Addr)(H:Hp)(S:R.St)(lks:List Nat)(ι2:List Addr)(H2:Hp)(S2:R.St):Prop where
 ext:Ext ι H ι2 H2
 rh:RH K ι2 H2 S2
 lck:∀l∈lks,S2.get l=S.get l
structure Wk(K:PySem.W.Frag)(J:It)(ds:List D)(lks:List Nat)(ι:List Addr)(H:Hp)(S:R.St):Prop where
 go:∀(i:Nat)(ι2:List Addr)(H2:Hp)(S2:R.St),Ltr K ι H S lks ι2 H2 S2->i<ds.length->J.go i H2
 yld:∀(i:Nat)(ι2:List Addr)(H2:Hp)(S2:R.St)(x:V)(H':Hp),Ltr K ι H S lks ι2 H2 S2->i<ds.length->J.yld i H2 x H'->Ext ι2 H2 ι2 H'/\RH K ι2 H' S2/\∃d,ds[i]?=some d/\RV K ι2 H' d x
 stop:∀(i:Nat)(ι2:List Addr)(H2:Hp)(S2:R.St),Ltr K ι H S lks ι2 H2 S2->ds.length<=i->J.stop i H2
 lks:∀l∈lks,l<S.len
def LfI(K:PySem.W.Frag)(f:List Addr)(H:Hp)(Q:List D×List Nat->R.St->Prop)(J:It)(c:Hp):Prop:=∃e b a d,Ext f H a c/\RH K a c d/\Q (e,b) d/\Wk K J e b a c d
def tI(K:PySem.W.Frag)(cf:CF)(cl:CL):TI:=fun d H R=>∃b a S Q,RS K a H b d/\RH K a H S/\W (evL cf cl b S) Q/\∀J c,LfI K a H Q J c->R J c
theorem PI.imp(h:PI X c e t)(i:∀a H Q,t' a H Q->t a H Q):PI X c e t':=fun b s a H Q I q=>h b s a H Q I (i a H Q q)
def iSeq(K:PySem.W.Frag)(d:TE):TI:=fun e H R=>d e H fun x b=>∃a,x=.ref a/\(((∃c,SqL K b a c)/\R (Itl K a) b)\/((∃c,SqT K b a c)/\R (Itt K a) b))
section
variable{T:Tab}{cf:CF}{k:Nat}{N:List Str}{sc:Scope}{X:Cx}{pos p:Pos}{tg:Expr}
theorem zro(t:PE X l u):PI X tg l (iSeq X.K u):=by
 intro f s w H R I h;refine thn (t f s w H _ I h) fun v c z=>eY z fun x r d y i=>?_;obtain⟨a,rfl,i⟩:=i;cases y;rcases i with⟨⟨A,j⟩,q⟩|⟨⟨A,j⟩,q⟩;obtain⟨g,B,m,C⟩:=d.list j;refine wpAny_pyIter_list m.isList ?_;refine⟨c.heap.objs.size,[c.heap.objs.size],_,_,r,rfl,d.kept fun b o e=>Heap.get?_push_of_some _ e,zfs a _,⟨_,Heap.get?_push_size _ rfl,rfl,rfl⟩,fun b n=>?_,q⟩;have e:b=c.heap.objs.size:=by simpa using n
 subst e;exact d.fpOk (le_refl _) (d.hok.fresh (le_refl _));obtain⟨g,B,m,C⟩:=d.tuple j;refine wpAny_pyIter_tuple (show c.heap.IsTuple a g.toArray from m) ?_;refine⟨c.heap.objs.size,[c.heap.objs.size],_,_,r,rfl,d.kept fun b o e=>Heap.get?_push_of_some _ e,zij a _,⟨_,Heap.get?_push_size _ rfl,rfl,rfl⟩,fun b n=>?_,q⟩;have e:b=c.heap.objs.size:=by simpa using n
 subst e;exact d.fpOk (le_refl _) (d.hok.fresh (le_refl _))
theorem zgA{K:PySem.W.Frag}{o:List Addr}{H:Hp}{S:R.St}{a:Addr}{ds:List D}{lks:List Nat}(q:∀l∈lks,l<S.len)
  (h:∀b c f,Ltr K o H S lks b c f->∃xs,SqL K c a xs/\RVs K b c ds xs/\∀ys,SqL K c a ys->True):Wk K (Itl K a) ds lks o H S where
 go:=fun i b c f g n=>by obtain⟨xs,j,m,_⟩:=h b c f g;exact⟨xs,xs[i]'(by rw[m.length];exact n),j,getElem?_eq_getElem _⟩
 yld:=fun i b c f x s g n y=>by obtain⟨xs,j,m,_⟩:=h b c f g;obtain⟨rfl,y⟩:=y;obtain⟨d,e,r⟩:=m.get' (y xs j);exact⟨Ext.refl _ _,g.rh,d,e,r⟩
 stop:=fun i b c f g n=>by obtain⟨xs,j,m,_⟩:=h b c f g;exact⟨xs,j,by rw[m.length];exact n⟩
 lks:=q
theorem zp5{K:PySem.W.Frag}{g:List Addr}{H:Hp}{S:R.St}{a:Addr}{ds:List D}{lks:List Nat}{xs:List V}(m:∀l∈lks,l<S.len)(e:H a=some (.tup xs))(rr:RVs K g H ds xs):Wk K (Itt K a) ds lks g H S where
 go:=fun i c h j b f=>⟨xs,xs[i]'(by rw[rr.length];exact f),SqT.of (b.ext.kp.tups _ _ e),getElem?_eq_getElem _⟩
 yld:=fun i c h j x n b f y=>by obtain⟨rfl,y⟩:=y;obtain⟨d,e,r⟩:=(rr.ext b.ext).get' (y xs (SqT.of (b.ext.kp.tups _ _ e)));exact⟨Ext.refl _ _,b.rh,d,e,r⟩
 stop:=fun i c h j b f=>⟨xs,SqT.of (b.ext.kp.tups _ _ e),by rw[rr.length];exact f⟩
 lks:=m
theorem zne(E:PE X e (tL X.K cf cl))(u:∀{δ:Ev}{S:R.St}{Q:List D×List Nat->R.St->Prop},W (evL cf cl δ S) Q->W (evL cf cl δ S) fun r y=>(∀l∈r.2,l<y.len)/\Q r y):PI X tg e (tI X.K cf cl):=by refine PI.imp (zro E) fun σ H R z=>eX z fun δ ι S Q G I w q=>?_;refine tL.run G I (u w) fun m c v d H1 o s J f L i=>?_;obtain⟨t,i⟩:=i;obtain⟨a,j,rfl,x,M⟩:=L;refine⟨a,rfl,?_⟩;cases M with|tmp h e=>exact .inl ⟨⟨j,SqL.of e⟩,q _ _ ⟨m,c,d,o,s,f,i,zgA t fun n A B g=>⟨j,SqL.of (g.ext.keep h e (by simp)),x.ext g.ext,fun _ _=>trivial⟩⟩⟩|fix e=>exact .inl ⟨⟨j,e.sq⟩,q _ _ ⟨m,c,d,o,s,f,i,zgA t fun n A B g=>⟨j,(e.kp g.ext.kp).sq,x.ext g.ext,fun _ _=>trivial⟩⟩⟩|tup e=>exact .inr ⟨⟨j,SqT.of e⟩,q _ _ ⟨m,c,d,o,s,f,i,zp5 t e x⟩⟩| own l O U Y e=>refine .inl ⟨⟨j,SqL.of e⟩,q _ _ ⟨m,c,d,o,s,f,i,zgA t fun n A B g=>?_⟩⟩;obtain⟨b,C,zs,hz,rz⟩:=g.rh.obj l (.lst m) ((g.lck l O).trans Y);rw[zbV g.ext.pre U]at C;cases C;exact⟨zs,SqL.of hz,rz,fun _ _=>trivial⟩
theorem zrO(h:W (evL cf (.val c) δ S) Q):W (evL cf (.val c) δ S) fun r b=>(∀l∈r.2,l<b.len)/\Q r b:=by
 change W (Out.bind _ _) _ at h⊢;simp only[zaf] at h⊢;refine h.mono fun x i d=>?_;obtain⟨j,e,f⟩:=zay d;rw[e];refine⟨fun l a=>?_,f⟩;cases x with
 |ref m=>simp[lkOf]at a;subst a;simp only[zbC]at e;split at e;rename_i g;exact get_lt g;cases e
 |_=>simp[lkOf]at a
theorem zpr(h:W (evL cf (.comp n d g it c e) δ S) Q):W (evL cf (.comp n d g it c e) δ S) fun r b=>(∀l∈r.2,l<b.len)/\Q r b:=by change W (Out.bind _ _) _ at h⊢;simp only[zaf] at h⊢;refine h.mono fun j m f=>f.mono fun r o a=>?_;split at a;rename_i c;rw[if_pos c];exact⟨fun l i=>by simp at i,a⟩;exact a.elim
theorem zho{K:PySem.W.Frag}{f:List Addr}{H:Hp}{S:R.St}(lo:Int)(n:Nat):Wk K (Itr lo n) ((List.range n).map fun(j:Nat)=>D.int (lo+j)) [] f H S where
 go:=fun i b d e c a=>by show i<n;simpa using a
 yld:=fun i b d e x h c a y=>by
  obtain⟨rfl,rfl⟩:=y;have a:i<n:=by simpa using a
  exact⟨Ext.refl _ _,c.rh,.int (lo+i),by simp[a],rfl⟩
 stop:=fun i b d e c a=>by show n<=i;simpa using a
 lks:=fun l g=>by simp at g
theorem zn7(i:Gl X "range"/\X.mg "range"=none)(l:PE X a (tE X.K cf m))(f:zai a=true):PI X tg (.Call (.Name "range" p) [a] [] pos) (tI X.K cf (.rng1 m)):=by
 refine PI.imp (zjV i.1 i.2 (zcW l f) (zah f [] X.env)) fun x H R z=>eX z fun y A S Q n o w q=>?_;refine tE.run n o w.b fun d v g B r s t h u b=>?_;cases d with
 |int j=>
  obtain rfl:v=.int j:=u;dsimp only at b;split at b;rename_i c;have e:((List.range j.toNat).map fun(k:Nat)=>D.int k)=(List.range j.toNat).map fun(k:Nat)=>D.int (0+k):=by simp
  rw[e]at b;exact⟨j,rfl,c.1,c.2,q _ _ ⟨_,[],g,r,s,h,b,zho 0 j.toNat⟩⟩;exact b.elim
 |_=>exact b.elim
theorem zn6(r:Gl X "range"/\X.mg "range"=none)(s:PE X a (tE X.K cf t))(x:PE X b (tE X.K cf y))(g:zai a=true)(f:zai b=true):PI X tg (.Call (.Name "range" p) [a,b] [] pos) (tI X.K cf (.rng2 t y)):=by refine PI.imp (zjU r.1 r.2 (zaI s (zcW x f) (zah g [b] X.env)) (by rw[zah g,zah f];rfl) (zah f [] X.env)) fun U H R z=>eX z fun Y ι S Q A B w q=>?_;refine tE.run A B w.b fun d v C H1 S1 E l m G I=>tE.run l m I.b fun e u n H2 J L M o O h=>?_;split at h;rename_i i j;obtain rfl:v=.int i:=G;obtain rfl:u=.int j:=O;split at h;rename_i c;exact⟨i,j,rfl,c,q _ _ ⟨_,[],n,J,E.trans L,o,h,zho i (j-i).toNat⟩⟩;exact h.elim;exact h.elim
theorem zcR{g:List Addr}(I:Inv X a i H s)(k:∀b o,b∉g->s.heap.get? b=some o->h'.get? b=some o)(h:∀b∈g,FpOk X a H b):Inv X a i H {s with heap:=h',toks:=t'}:=by
 have f:∀b u,H b=some u->b∉g:=fun b u e z=>by rw[(h b z).1]at e;cases e
 refine I.step (fun b j=>?_) (fun b o _ _ d e _=>k b o d e) (fun b o _ _ d e _=>⟨o.slots,k b o d e⟩) (fun _ _ _ _ n=>n)
  (fun b o d e=>⟨o,k b o d e⟩) (fun _ _ e=>e) (fun _ _ _ e=>e) (fun b E e=>⟨#[],by rw[e];simp⟩) (fun m l=>?_) (fun b u e=>?_) I.bare
 obtain⟨G,t,J,w,x,y⟩:=h b j;exact⟨w,t,x,y⟩;obtain⟨o,A,B,C,r⟩:=l;exact⟨o,A,B,k _ o (fun z=>(h _ z).2.1 rfl) C,r⟩;refine(I.hok b u e).stay (fun c v d q=>k c v ?_ q) (fun _ q=>q) fun _ _ q=>q;rcases d with z|z;rw[z];exact f b u e;exact f c _ z
def tG(K:PySem.W.Frag)(is:List Nat):TG:=fun v f H g=>∃e c d a,RS K c H e f/\RV K c H d v/\asgG is d e=some a/\∀b,RS K c H a b->g b H
def tGs(K:PySem.W.Frag)(is:List Nat):TGs:=fun e f H g=>∃d b c,RS K b H d f/\RVs K b H c e/\c.length=is.length/\∀a,RS K b H (zd6 is c d) a->g a H
theorem PG.imp(h:PG X tg t)(i:∀v a H Q,t' v a H Q->t v a H Q):PG X tg t':=fun b s a H v u Q I r q=>h b s a H v u Q I r (i v a H Q q)
theorem PGs.imp(h:PGs X es t)(i:∀v a H Q,t' v a H Q->t v a H Q):PGs X es t':=fun b s a H v u Q I r q=>h b s a H v u Q I r (i v a H Q q)
theorem zn9(G:Gd T cf k N sc X)(hi:N[i]?=some x)(a:zdh sc x=true):PG X (.Name x pos) (tG X.K [i]):=by refine PG.imp (zgP (by rw[G.nm];exact G.nd) (by rw[G.nm];exact hi) (G.lc a).1 (G.lc a).2) fun v f H g z=>eX z fun h j d b c r e q=>?_;cases e;exact q _ (c.set r i)
noncomputable def zc8(sc:Scope)(N:List Str):List Nat->List Expr->Bool
 | [],[]=>true|i::a,.Name x _::b=>(N[i]?==some x)&&zdh sc x&&zc8 sc N a b|_,_=>false
theorem zfv(G:Gd T cf k N sc X):∀{is:List Nat}{es:List Expr},zc8 sc N is es=true->PGs X es (tGs X.K is)/\(assignEach es X.env).length=is.length/\(assignEach es X.env).findIdx? (·.1)=none
 | [],[],_=>⟨PGs.imp zo3 fun v j H n z=>by
  obtain⟨l,m,a,c,r,b,q⟩:=z
  have:a=[]:=by simpa using b
  subst this;exact⟨r,q j (by simpa[zd6]using c)⟩,rfl,rfl⟩
 | [],_::_,h=>by cases h|_::_,[],h=>by cases h| i::is,e::es,h=>by
  cases e with
  |Name x pos=>
   replace h:=qL qb1 h;obtain⟨o,s,t⟩:=zfv G h.2;refine⟨PGs.imp (zl5 (zgP (by rw[G.nm];exact G.nd) (by rw[G.nm];exact h.1.1) (G.lc h.1.2).1 (G.lc h.1.2).2) o) fun v j H n zz=>?_,?_,?_⟩;obtain⟨l,m,a,c,r,b,q⟩:=zz;cases a with|nil=>simp at b| cons d a=>obtain⟨u,w,rfl,y,A⟩:=r;exact⟨u,w,rfl,⟨l.set i (some d),m,a,c.set y i,A,by simpa using b,fun f g=>q f (by simpa[zd6]using g)⟩⟩
   show((false,_)::assignEach es X.env).length=_;simp[s];show((false,_)::assignEach es X.env).findIdx? _=_;simp[List.findIdx?_cons,t]
  |_=>cases h
theorem zm3(g:2<=is.length)(e:asgG is d δ=some f):∃ds,d=.tup ds/\ds.length=is.length/\f=zd6 is ds δ:=by
 match is,g with
 |a::b::t,_=>
  cases d with
  |tup ds=>simp only[asgG]at e;split at e;rename_i c;cases e;exact⟨ds,rfl,c,rfl⟩;cases e
  |_=>cases e
theorem zqH(G:Gd T cf k N sc X)(h:zc8 sc N is es=true)(g:2<=is.length):PG X (.Tuple es j pos) (tG X.K is):=by obtain⟨i,l,b⟩:=zfv G h;refine PG.imp (zrp G.calm i l b) fun v x H y z=>eX z fun m n d o s r e q=>?_;obtain⟨t,rfl,c,rfl⟩:=zm3 g e;obtain⟨a,u,rfl,w,f⟩:=r;exact⟨a,u,rfl,SqT.of w,by rw[f.length];exact c,m,n,t,s,f,c,q⟩
theorem Ext.tmp{p}(x:Ext f H a d)(g:H p=none)(e:d p=some (.lst vs)):Ext f H a (upd d p (.lst us)):=by refine⟨x.pre,x.kp.trans (.same (Tups.upd_lst e) (fun b o u h=>?_) fun b m h=>?_),fun b o i c=>?_⟩;rw[zae];exact h;rintro rfl;rw[e]at h;cases h;rw[zae];exact h;rintro rfl;rw[e]at h;cases h;obtain⟨j,l⟩:=x.rest b o i c;refine⟨?_,l⟩;rw[zae];exact j;rintro rfl;rw[g]at c;cases c
theorem Kp.tmp{p}(e:H p=some (.lst vs)):Kp H (upd H p (.lst us)):=.same (Tups.upd_lst e) (fun b o u h=>by
 rw[zae];exact h;rintro rfl;rw[e]at h;cases h) fun b a h=>by
 rw[zae];exact h;rintro rfl;rw[e]at h;cases h
theorem RH.tmp{K}{p}(b:RH K c H S)(d:p∉c)(e:H p=some (.lst vs)):RH K c (upd H p (.lst us)) S:=⟨b.len,b.nd,fun l o q=>by obtain⟨a,f,g,h⟩:=b.mem q;exact⟨a,f,g.up (prefix_refl _) (Kp.tmp e) (zae fun z=>d (z▸h))⟩,(Kp.tmp e).tab b.tab⟩
theorem RS.up{K}(h:RS K b H δ c)(f:b <+: a)(g:Kp H j):RS K a j δ c:=⟨h.1,fun i d e=>let ⟨v,l,r⟩:=h.2 i d e;⟨v,l,r.up f g⟩⟩
theorem RH.lk{K}(a:RH K b H S)(ks):RH K b H {S with lk:=ks}:=⟨a.len,a.nd,fun l o e=>a.obj l o e,a.tab⟩
theorem RS.csl{K}(h:RS K g H δ l)(a)(b):RS K g H (R.csl a b δ) (L2.csl a b l):=by
 refine⟨by simp[R.csl,L2.csl],fun i d e=>?_⟩;unfold R.csl at e;unfold L2.csl;by_cases c:i<a;rw[getElem?_append_left (by simpa using c),List.getElem?_replicate]at e;rw[if_pos c]at e;cases e;rw[getElem?_append_right (by simpa using c)]at e⊢;simp only[length_replicate,getElem?_map]at e⊢;cases f:b[i-a]? with
 |none=>rw[f]at e;cases e
 |some j=>
  rw[f]at e;simp only[Option.map_some]at e⊢;have m:δ[j]?=some (some d):=by
   cases z:δ[j]? with
   |none=>rw[z]at e;cases e
   |some o=>rw[z]at e;simp at e;rw[e]
  obtain⟨v,n,r⟩:=h.2 j d m;exact⟨v,by rw[n];rfl,r⟩
theorem zgj{a:Type}{xs:List a}{x}(h:xs[i]?=some x):xs.drop i=x::xs.drop (i+1):=by obtain⟨b,c⟩:=List.getElem?_eq_some_iff.mp h;rw[List.drop_eq_getElem_cons b,c]
def CInv(K:PySem.W.Frag)(cf:CF)(g:List Nat)(c e:CE)(Q:List D×List Nat->R.St->Prop)(ds:List D)(f:List Nat)(n:List Addr)(r:Hp)(j:R.St)(p:Addr)(i:Nat)(o:L2.St)(l:Hp):Prop:=
 i<=ds.length/\∃h a m d q,RS K a l h o/\Ltr K n r j f a l m/\m.lk=f++j.lk/\j.len<=m.len/\p∉a/\l p=some (.lst q)/\RVs K a l d q/\
  W (za5 g (evT cf c) (evE cf e) (ds.drop i) h m) fun b s=>(d++b).length<=16777216/\Q (d++b,[]) {s with lk:=j.lk}
theorem zia(hcf:CFok cf)(h:tLt X.K cf (.comp nt js is it c e) σ H Qv):znX nt js (tI X.K cf it) (tG X.K is) (tT X.K cf c) (tE X.K cf e) σ H Qv:=by
 obtain⟨δ,ι,S,Q,hs,hh,w,q⟩:=h;refine⟨δ,ι,S,_,hs,hh,w.b,fun J H1 y=>eX y fun ds a I A x1 L U wk=>?_⟩;replace U:=U.b;unfold za8 at U;rw[zaf]at U;intro p Y;have hpi:=L.fresh Y;refine⟨fun i m σ' H'=>m=ds.length-i/\CInv X.K cf is c e Q ds a I H1 A p i σ' H',⟨_,rfl,zero_le _,R.csl nt js δ,I,{A with lk:=a++A.lk},[],[],((hs.ext x1).csl _ _).up (prefix_refl _) (Kp.new Y _),⟨Ext.new Y _,(L.lk _).new Y _,fun l _=>rfl⟩,rfl,le_refl _,hpi,zag,rfl,?_⟩,?_⟩;refine U.mono fun B S2 w2=>?_;simp only[W_ok]at w2;split at w2;rename_i c;exact⟨by simpa using c,by simpa using w2⟩;exact w2.elim;rintro i m σ' H' ⟨rfl,hle,δ',g,S',s,vs,hs',C,hlk,hln,t,hpv,ra,j⟩;rcases Nat.lt_or_eq_of_le hle with u|rfl;refine .inr ⟨wk.go i g H' S' C u,CInv X.K cf is c e Q ds a I H1 A p (i+1),fun σ2 H2 h=>⟨_,by lia,rfl,h⟩,fun x H2 hy=>?_⟩;obtain⟨x2,hh2,d,hd,rd⟩:=wk.yld i g H' S' x H2 C u hy;have hs2:=hs'.ext x2;have hp2:=x2.keep t hpv (by simp);rw[zgj hd]at j;simp only[za5]at j;cases ea:asgG is d δ' with
 |none=>rw[ea]at j;exact j.elim| some n=>
  rw[ea]at j;rw[zaf]at j;refine⟨δ',g,d,n,hs2,rd,ea,fun σ2 hs3=>?_⟩;refine tT.run hs3 hh2 (zdU hcf c n S' _ j) fun b ι3 H3 S3 x3 hs4 hh3 M=>?_;obtain⟨M,f3⟩:=M;have O:=x3.keep t hp2 (by simp);have o:=(x3.rest p _ t hp2).2;have E:∀{S4:R.St},Frm S' S4->S4.lk=a++A.lk/\A.len<=S4.len/\∀l∈a,S4.get l=A.get l:=fun f=>⟨f.lk.trans hlk,le_trans hln f.lens,fun l hl=>(f.same l (by rw[hlk];exact mem_append_left _ hl) (lt_of_lt_of_le (wk.lks l hl) hln)).trans (C.lck l hl)⟩;cases b with
  |false=>obtain⟨k1,k2,k3⟩:=E f3;exact⟨u,n,ι3,S3,s,vs,hs4,⟨(C.ext.trans x2).trans x3,hh3,k3⟩,k1,k2,o,O,(ra.ext x2).ext x3,M⟩| true=>
   simp only[if_true]at M⊢;rw[zaf]at M;refine tE.run hs4 hh3 (zap hcf e n S3 _ M) fun z v ι4 H4 S4 x4 hs5 hh4 rz w4=>?_;obtain⟨w4,f4⟩:=w4;obtain⟨k1,k2,k3⟩:=E (f3.trans f4);have r:=x4.keep o O (by simp);have G:=(x4.rest p _ o O).2;rw[zaf]at w4;have ra4:=((ra.ext x2).ext x3).ext x4;have hlen:s.length<16777216:=by obtain⟨B,S5,_,w5⟩:=zfn w4;have:=w5.1;simp at this;lia
   refine⟨vs,r,by rw[ra4.length];exact hlen,u,n,ι4,S4,s++[z],vs++[v],hs5.up (prefix_refl _) (Kp.tmp r),⟨(((C.ext.trans x2).trans x3).trans x4).tmp Y r,hh4.tmp G r,k3⟩,k1,k2,G,zag,?_,?_⟩;exact(RVs.append (es:=[z]) ra4 ⟨v,[],rfl,rz,rfl⟩).up (prefix_refl _) (Kp.tmp r);refine w4.mono fun B S5 w5=>?_;simpa using w5
 refine .inl ⟨wk.stop _ g H' S' C (le_refl _),?_⟩;rw[List.drop_length]at j;simp only[za5,W_ok,append_nil]at j;exact q _ _ ⟨s,g,{S' with lk:=A.lk},p,vs,x1.trans C.ext,rfl,ra,t,hpv,C.rh.lk _,zlc L x1 Y,j.2⟩
noncomputable def Ite(K:PySem.W.Frag)(a:Addr):It:=
 ⟨fun i H=>∃b x,SqL K H a b/\b[i]?=some x,
  fun i H v c=>∃T x,H T=none/\v=.ref T/\c=upd H T (.tup [.int i,x])/\∀b,SqL K H a b->b[i]?=some x,
  fun i H=>∃b,SqL K H a b/\b.length<=i⟩
theorem zje{P:Program}{w:World}{K:PySem.W.Frag}{es:List Expr}{j:Nat}{pt:Pos}{e it a:Addr}(r:e≠it):Turn P w K (.Tuple es j pt) (Ite K a) [e,it] e
  (fun i h=>(∃l,IsEnum h e it i l)/\h.IsListIter it a i) where
 mem:=by simp
 obj:=fun i h st c d=>by obtain⟨⟨l,m⟩,⟨o4,B,_,d4⟩⟩:=st;simp only[mem_cons,not_mem_nil,or_false]at d;rcases d with rfl|rfl;exact⟨_,m,fun v z=>by cases z⟩;exact⟨_,B,fun v z=>by rw[d4]at z;cases z⟩
 keep:=fun i h h' st k=>by obtain⟨⟨l,m⟩,B⟩:=st;exact⟨⟨l,k e (by simp) _ m⟩,B.at fun o x=>k it (by simp) o x⟩
 item:=by
  intro X C G J d i g s L H E I M st O;subst C G J;obtain⟨xs,x,y,hx⟩:=O;obtain⟨xv,Q,U,_⟩:=I.list y;obtain⟨u,hu,ru⟩:=Q.get hx;obtain⟨⟨l,A⟩,m⟩:=st;refine wpAny_pyNext_enum_item A m U.isList (x:=u) (by simpa using hu) r fun h' a1 a3 a5 a6 Y=>?_;have hn:=I.hok.fresh (le_refl _);have I1:Inv X g L (upd H s.heap.objs.size (.tup [.int i,x])) {s with heap:=s.heap.push {cls:=.type "tuple",data:=.seq #[.int i s.toks,u]},toks:=s.toks+1}:=I.laid (t':=s.toks+1) (fun b u e=>Heap.get?_push_of_some _ e) (le_refl _) ⟨by rw[sizeLine_eq];simp,[.int i s.toks,u],.cons ⟨_,rfl⟩ (.cons ru .nil),⟨_,Heap.get?_push_size _ rfl,rfl,_,rfl⟩⟩;have lt:∀{c o},s.heap.get? c=some o->c≠s.heap.objs.size:=fun e=>ne_of_lt (Heap.lt_size e);have nf:∀c∈[e,it],c≠s.heap.objs.size:=by intro c d;simp only[mem_cons,not_mem_nil,or_false]at d;rcases d with rfl|rfl;exact lt A;obtain⟨o,z,_⟩:=m;exact lt z
  have n:∀c∈[e,it],FpOk X g (upd H s.heap.objs.size (.tup [.int i,x])) c:=fun c d=>by obtain⟨f0,f⟩:=M c d;exact⟨by rw[zae (nf c d)];exact f0,f⟩
  have two:∀{c:Addr},¬c∈[e,it]->c≠e/\c≠it:=fun {c} d=>by simp only[mem_cons,not_mem_nil,or_false,not_or]at d;exact d
  have k2:∀c o,¬c∈[e,it]->(s.heap.push {cls:=.type "tuple",data:=.seq #[.int i s.toks,u]}).get? c=some o->h'.get? c=some o:=fun c o d z=>by by_cases hs:c=s.heap.objs.size;subst hs;have e2:(s.heap.push {cls:=.type "tuple",data:=.seq #[.int i s.toks,u]}).get? s.heap.objs.size=_:=Heap.get?_push_size _ rfl;rw[e2]at z;cases z;exact a5;exact Y c o (two d).1 (two d).2 ((Heap.get?_push_ne _ _ _ hs).symm.trans z)
  have I2:=zcR (s:={s with heap:=s.heap.push {cls:=.type "tuple",data:=.seq #[.int i s.toks,u]},toks:=s.toks+1}) (h':=h') (t':=s.toks+1) I1 k2 n;refine⟨_,rfl,?_⟩;refine wpAny_letOwnedTupleGo_enum a1 fun h2' hz' t=>?_;refine⟨.ref s.heap.objs.size,upd H s.heap.objs.size (.tup [.int i,x]),zcR (t':=s.toks+1) I2 (fun c o d z=>t.extBut _ _ (two d).1 z) n,rfl,⟨_,x,hn,rfl,rfl,fun xs' hx'=>by rw[I.list_inj hx' y];exact hx⟩,
   ⟨⟨_,hz'⟩,a3.extBut t.extBut (Ne.symm r)⟩,fun c d=>(n c d).1⟩
 done:=by intro X C G J d i g s L H E I M st O;subst C G J;obtain⟨xs,y,hl⟩:=O;obtain⟨xv,Q,U,_⟩:=I.list y;obtain⟨⟨l,A⟩,m⟩:=st;have l1:=Q.length;refine wpAny_pyNext_enum_end (I.ok.hd d) A m U.isList (by simp;lia) fun h' Y=>⟨rfl,zcR (t':=s.toks) I (fun c o d z=>Y c o (fun q=>d (by simp[q])) z) M⟩
 self:=fun _ _ _ _ _ st h=>wpAny_pyIter_enum st.1.choose_spec h
def ztu(K:PySem.W.Frag)(t:TA):TI:=fun c H R=>t c H fun d b=>∃a e,d=[.ref a]/\SqL K b a e/\R (Ite K a) b
theorem zo2(n:Gl X "enumerate")(o:X.mg "enumerate"=none)(t:PA X [a] u)(hs:starEach [a] X.env=[(false,eval a X.env)]):
  PI X (.Tuple es j G) (.Call (.Name "enumerate" p) [a] [] pos) (ztu X.K u):=by
 intro b s v H R I h;refine Call_ (zc9 I n o boot_enumerate (PyProof.Rows.callWith_type1 (thn (t pos b s v H _ I h) fun J g z=>eY z fun L w d x f=>?_) hs rfl));obtain⟨l,M,e,f,q⟩:=f;subst e;cases x with
 |cons r y=>
  cases y;cases r;obtain⟨O,Q,A,_⟩:=d.list f;refine call_enumerate_list A.isList fun U i B C E=>?_;refine wpAny_pyIter_enum i ?_;refine⟨_,_,_,_,w,rfl,d.kept E,zje (Nat.succ_ne_self _),⟨⟨_,i⟩,B⟩,fun c m=>?_,q⟩;simp only[mem_cons,not_mem_nil,or_false]at m;have:g.heap.objs.size<=c:=by rcases m with rfl|rfl;exact le_succ _;exact le_refl _
  exact d.fpOk this (d.hok.fresh this)
theorem znQ{K}(o:S.get l=some (.lst ds))(v:q[l]?=some a):Wk K (Ite K a) (ds.mapIdx fun i d=>ziE (.int i) d) [l] q H S:=by
 have g:∀{b f m},Ltr K q H S [l] b f m->∃c,SqL K f a c/\RVs K b f ds c:=fun {b f m} e=>by obtain⟨E,r,c,h,j⟩:=e.rh.obj l (.lst ds) ((e.lck l (by simp)).trans o);rw[zbV e.ext.pre v]at r;cases r;exact⟨c,SqL.of h,j⟩
 refine⟨fun i b f m e n=>?_,fun i b f m x G e n y=>?_,fun i b f m e n=>?_,fun k w=>?_⟩;obtain⟨c,h,j⟩:=g e;rw[List.length_mapIdx]at n;have z:=j.length;exact⟨c,c[i]'(by lia),h,getElem?_eq_getElem _⟩;obtain⟨c,h,j⟩:=g e;obtain⟨T,u,s,rfl,rfl,A⟩:=y;obtain⟨d,B,C⟩:=j.get' (A c h);have t:Ext b f b (upd f T (.tup [.int i,u])):=Ext.new s _;refine⟨t,e.rh.new s _,ziE (.int i) d,by rw[List.getElem?_mapIdx,B];rfl,?_⟩;exact⟨T,[.int i,u],rfl,zag,.int i,[u],rfl,rfl,u,[],rfl,C.ext t,rfl⟩;obtain⟨c,h,j⟩:=g e;rw[List.length_mapIdx]at n;have z:=j.length;exact⟨c,h,by lia⟩;cases mem_singleton.mp w;exact get_lt o
end
end R
namespace R
open PySem PySem.Spec PyProof.Rows L2
section
variable[Mks]{T:Tab}{cf:CF}{k:Nat}{N:List Str}{sc:Scope}{X:Cx}{pos p:Pos}
theorem ziR(h:zdV S x=some r):∃l ds,x=.ref l/\S.get l=some (.lst ds)/\r=(ds.mapIdx fun i d=>ziE (.int i) d,[l]):=by
 cases x with
 |ref l=>
  simp only[zdV]at h;cases e:S.get l with
  |none=>rw[e]at h;cases h
  |some o=>rw[e]at h;cases o with|lst ds=>cases h;exact⟨l,ds,rfl,e,rfl⟩|_=>cases h
 |_=>cases h
theorem zn8(f:Gl X "enumerate"/\X.mg "enumerate"=none)(m:PE X a (tE X.K cf n))(b:zai a=true):PI X (.Tuple es j I) (.Call (.Name "enumerate" p) [a] [] pos) (tI X.K cf (.enum n)):=by refine PI.imp (zo2 f.1 f.2 (zcW m b) (zah b [] X.env)) fun J H R z=>eX z fun L M S Q o s w q=>?_;refine tE.run o s w.b fun d v e O t u x c y A=>?_;obtain⟨r,B,C⟩:=zay A;obtain⟨l,U,rfl,g,rfl⟩:=ziR B;obtain⟨a,h,rfl⟩:=y;obtain⟨Y,i,E,G,rx⟩:=c.obj l _ g;rw[h]at i;cases i;exact⟨a,E,rfl,SqL.of G,q _ _ ⟨_,_,e,t,u,c,C,znQ g h⟩⟩
end
end R
namespace R
open PySem PySem.Spec PyProof.Rows L2
variable[Mks]
noncomputable def noTab:Tab:={blt:=[],cons:=[],fns:=[]}
noncomputable def noCF:CF:=fun _ _ _=>.bad
theorem zmo{K}:TabOk noTab noCF k P w K g base:=
 ⟨fun x h=>(by cases h),fun x d h=>(by cases h),fun f x b e h=>(by simp[noTab]at h),fun f i S d l h=>(by rcases h with h|h<;>cases h),fun c x h=>(by simp[noTab]at h),fun c m f h=>(by simp[noTab]at h),fun c f j h=>(by simp[noTab]at h),fun x m f h=>(by simp[noTab]at h),fun h=>(by simp[noTab]at h),fun x a h=>(by simp[noTab]at h),
  ⟨fun c x f h=>(by simp[noTab]at h),fun f h=>(by simp[noTab]at h),fun x a h=>(by simp[noTab]at h),fun x a h=>(by simp[noTab]at h),fun f x b e h=>(by simp[noTab]at h),fun x h=>(by simp[noTab]at h)⟩,fun c f j h=>(by simp[noTab]at h),fun c m f h=>(by simp[noTab]at h)⟩
theorem zrc{K}(a:TB H):RH K [] H ⟨[],[],[]⟩:=⟨rfl,List.nodup_nil,fun l o h=>(by simp[St.get]at h),a⟩
section
variable{X:Cx}{pins:List (Addr×Obj)}{σ:L2.St}{H H':Hp}{s:Shared}
structure Own(X:Cx)(pins:List (Addr×Obj))(b:Addr):Prop where
 new:X.s₀.heap.objs.size<=b
 loc:b≠X.env.locals
 cel:∀x c,X.env.cells.lookup x=some c->c≠b
 pin:∀p∈X.pn++pins,p.1≠b
theorem Own.fresh(I:Inv X pins σ H s)(h:s.heap.objs.size<=b):Own X pins b:=by refine⟨le_trans I.sz h,fun e=>?_,fun x c e z=>?_,fun p a z=>?_⟩;exact absurd (lt_of_lt_of_le I.lt h) (by rw[e];exact lt_irrefl _);obtain⟨v,o,d,_⟩:=I.cell x c e;exact absurd (lt_of_lt_of_le (Heap.lt_size d) h) (by rw[z];exact lt_irrefl _);exact absurd (lt_of_lt_of_le (Heap.lt_size (I.pin p a).1) h) (by rw[z];exact lt_irrefl _)
theorem Own.stk(o:Own X pins b)(I:Inv X pins σ H s):b∉frs X.stack:=fun a=>by rcases mem_cons.mp (I.stkSub b a) with e|e;exact o.loc e;obtain⟨_,d,c,_⟩:=I.ok.funs.mem e;exact absurd (lt_of_lt_of_le (Heap.lt_size c) o.new) (lt_irrefl _)
theorem zaM{ch:List Addr}(I:Inv X pins σ H s)(f:∀b∈ch,Own X pins b)(g:∀b∈ch,H b=none)(k:∀b o,b∉ch->s.heap.get? b=some o->h'.get? b=some o)(h:AllBare g'):
  Inv X pins σ H {s with heap:=h',gens:=g',drawn:=d',toks:=t'}:=by
 refine I.call ⟨fun b o e n _ d=>k b o d e,fun b o e n _ d=>⟨o.slots,k b o d e⟩,fun b o _ n _=>n,fun b o e d=>⟨o,k b o d e⟩,fun _ _ e=>e,fun _ _ _ e=>e,fun b i e=>⟨#[],by rw[e];simp⟩⟩ ?_ h fun b c=>⟨.inr (f b c).new,(f b c).loc,(f b c).cel,(f b c).pin⟩;intro a o e;refine(I.hok a o e).stay (fun b u c q=>k b u (fun z=>?_) q) (fun _ q=>q) fun _ _ q=>q;have:=g b z;rcases c with rfl|c;rw[e]at this;cases this;rw[c]at this;cases this
end
section
variable{X:Cx}{pins:List (Addr×Obj)}{σ:L2.St}{H H':Hp}{s:Shared}{b:Addr}{o:HO}
theorem zbX(I:Inv X pins σ H s)(f:Own X pins b)(d:H b=none)(ok:ObjOk X.prog X.w (upd H b o) s.heap b o):Inv X pins σ (upd H b o) s:=by
 have g:Un (frs X.stack) [b] H (upd H b o) s.heap s.heap:=⟨fun c q e _ _ _=>e,fun c q e _ _ _=>⟨q.slots,e⟩,fun c q e n h=>by rw[zae (by simpa using h)];exact n,fun c q e _=>⟨q,e⟩,
  fun c i q=>by rw[zae (zaj q d)];exact q,fun c q u e=>by rw[zae (zaj e d)];exact e,fun c k q=>⟨#[],by rw[zae (zaj q d),q];simp⟩⟩
 refine I.call' rfl g ?_ I.bare fun c j=>?_;intro a u e;by_cases z:a=b;subst z;rw[zag]at e;cases e;exact ok;rw[zae z]at e;exact(I.hok a u e).stay (fun _ _ _ q=>q) (fun c q=>by rw[zae (zaj q d)];exact q) fun c i q=>by rw[zae (zaj q d)];exact q
 rw[mem_singleton.mp j];exact⟨.inr f.new,f.loc,f.cel,f.pin⟩
end
structure StepT(P:Addr)(H H':Hp):Prop where
 rest:∀a o,a≠P->H a=some o->H' a=some o
 tab:∀ps,H P=some (.tbl ps)->∃more,H' P=some (.tbl (ps++more))
theorem zfk(h:TriplesOk l)(e:codeAmong pos (l++[a,b,c])=some v):codeAmong pos l=some v\/v=c:=by
 induction l using codeAmong.induct (pos:=pos) with
 |case1 d _ g _ k f cond=>simp only[List.cons_append,codeAmong,cond]at e⊢;exact .inl e| case2 d _ g _ k f cond m=>simp only[List.cons_append,codeAmong,cond]at e⊢;exact m (by simpa[TriplesOk]using h) e| case3 l i=>
  cases l with
  |nil=>right;unfold codeAmong at e;split at e;rename_i h;obtain⟨_,_,rfl,rfl⟩:=h;split at e;cases e;rfl;simp[codeAmong]at e;cases e
  |cons x l=>exfalso;unfold TriplesOk at h;split at h;rename_i j;cases j;rename_i j;cases j;exact i _ _ _ _ _ _ rfl;exact h
theorem StepT.ext(st:StepT P H c)(b:H P=some (.tbl ps))(g:TB c):Ext [] H [] c:=by
 have d:∀a o,H a=some o->(∀ps,o≠.tbl ps)->a≠P:=fun a o e n z=>by rw[z,b]at e;cases e;exact n _ rfl
 refine⟨prefix_refl _,⟨fun a i e=>st.rest a _ (d a _ e (by simp)) e,fun a o u e=>st.rest a _ (d a _ e (by simp)) e,fun _=>g⟩,fun a o _ e=>⟨?_,by simp⟩⟩;by_cases z:a=P;subst z;obtain⟨f,h⟩:=st.tab ps b;rw[b]at e;cases e;exact .inr ⟨⟨_,rfl⟩,_,h⟩;exact .inl (st.rest a o z e)
section
variable{X:Cx}{pins:List (Addr×Obj)}{σ:L2.St}{H:Hp}{s:Shared}{c P:Addr}{params:Arguments}{scope:Scope}{lpos:Pos}
theorem BM.at_(b:BM X.mg X.base)(I:Inv X pins σ H s)(f:H P=some o):s.heap.BuiltinsAt X.mg P:=by obtain⟨a,d,g,h,i,j,k⟩:=b;obtain⟨l,e⟩:=I.bs a d j;exact⟨a,d,g,h,i,fun z=>(by rw[z,f]at e;cases e),l,k⟩
end
theorem zkk{K}(S:FnScope N ps scope)(i:Room (k+1) A)(j:Env0 P w K n base A outer s H)(B:s.heap.get? f=some (kla_obj name a c d scope [] C h ct))(l:s.heap.CodeRec (.ref h) a)(G:BindsTo s (kla_fn name a c d scope [] C (.ref h) ct) args (ps.zip us))(r:Vals vs us)(L:vs.length=ps.length)(M:Room k (A.deeper (envOfC a scope s.heap.objs.size f (.ref h)))->PE (cxOf CX P w K n base N a scope f (.ref h) A outer s H E) d t)(O:t (start N vs) H Q):
  codeAny (model P w) A (.call (.ref f) args) (CR CX outer P w H s Q E) s:=by
 have m:s.heap.NoLimit:=j.mod.nolimit.keeps fun b o e=>(j.bs b o e).1;have g:∀y∈ps.zip us,scope.names.lookup y.1=some .local\/(scope.names.lookup y.1=some .cell/\((cellsFrom (s.heap.objs.size+1) scope.names []).lookup y.1).isSome=true):=fun z' T=>(by obtain⟨x,v⟩:=z';exact (S.par x (of_mem_zip T).1).elim .inl fun q=>.inr ⟨q,cellsFrom_some _ _ _ (.inl q)⟩);refine PySem.W.kla_callFunE i.depth B rfl S.co S.gen rfl l (G _ _ _ _ ?_);refine wpAny_newFunctionEnv_cells S.kind g fun U Y p x=>?_;subst Y;refine⟨m.keeps x.toInCall.keep,PySem.W.kla_codeExpr ?_⟩;have I:Inv (cxOf CX P w K n base N a scope f (.ref h) A outer s H E) [] (start N vs) H p:=zf8 S i.hd j L r x;exact wpAny_mono (M (i.deeper _) [] p (start N vs) H _ I O) (fun u s' z=>eY z fun v H' J rv q=>⟨v,H',J.os,J.bare,J.base,J.hok,rv,q⟩) fun e s' hs=>hs
structure LamAt(H:Hp)(f:Addr)(name qual:Str)(params:Arguments)(body:Expr)(scope:Scope):Prop where
 ex:∃(pm ct:Value) (c':Addr) (oc:Obj) (vs:Array Value) (t:Tok),H f=some (.frz (kla_obj name qual params body scope [] pm c' ct) (.own 0))/\H c'=some (.frz oc (.own 0))/\oc.data=.fields vs/\vs[1]?=some (.str qual t)
theorem LamAt.up(L:LamAt H f name b a c scope)(k:Kp H d):LamAt d f name b a c scope:=by obtain⟨e,g,h,i,j,t,l,m,n⟩:=L.ex;exact⟨e,g,h,i,j,t,k.frzs _ _ _ l,k.frzs _ _ _ m,n⟩
abbrev zfo(s:Shared)(a:Addr)(vs:List Value)(e:Nat):Prop:=s.heap.get? a=some (seqObj "list" vs.toArray e)
theorem zeU(h:zfo s a vs e)(g)(b:g vs.toArray=us.toArray):∃c,zfo {s with heap:=s.heap.update a (Obj.mapSeq g)} a us c:=⟨_,by have:=get?_update_seq h g;rw[b]at this;exact this⟩
theorem zb6{s:Shared}(n:b≠a)(h:s.heap.get? b=some o):(s.heap.update a g).get? b=some o:=by rw[Heap.get?_update_ne _ _ _ _ n];exact h
structure KEnd(X:Cx)(pins:List (Addr×Obj))(σ:L2.St)(H:Hp)(D:Addr)(out:List Value)(s':Shared):Prop where
 ex:∃H' e,Inv X pins σ H' s'/\Ext [] H [] H'/\H' D=none/\zfo s' D out e
theorem getD_mem{a:Type}{xs:List a}(d)(h:i<xs.length):xs[i]?=some (xs.getD i d):=by rw[List.getD_eq_getElem?_getD,getElem?_eq_getElem h];rfl
section
variable{X:Cx}{pins:List (Addr×Obj)}{σ:L2.St}{H H':Hp}{s:Shared}{b:Addr}{o:HO}
theorem zfg(c:H b=none):Ext [] H [] (upd H b o):=⟨prefix_refl _,Kp.new c o,fun a u _ e=>⟨.inl (by rw[zae (zaj e c)];exact e),by simp⟩⟩
end
section
variable{X:Cx}{pins:List (Addr×Obj)}{σ:L2.St}{H:Hp}{s:Shared}{c P:Addr}{params:Arguments}{body:Expr}{scope:Scope}{lpos:Pos}
theorem zmt(I:Inv X pins σ H s)(bm:BM X.mg X.base)(p:X.env.code=.ref c)(hC:codeHdIn X.K c P=true)(tb:TabIn H P (X.env.qual ++ "<lambda>"))(L:defaultsOf params X.env=([],[]))(M:closureFor scope X.env=pure [])(q:∀f H' s',Inv X pins σ H' s'->LamAt H' f "<lambda>" (X.env.qual ++ "<lambda>") params body scope->TabIn H' P (X.env.qual ++ "<lambda>")->StepT P H H'->Q (.ref f) s'):
  wpAny (model X.prog X.w) X.A (eval (.Lambda params body scope lpos) X.env) Q E s:=by
 obtain⟨w,k,N,h3⟩:=tb;have C:=PySem.W.codeHd_of_K I.kIn hC;have hP:=I.hok P _ k;have i:=bm.at_ I k;have hg:=I.mod.glob.keeps I.bk;have O:=Heap.lt_size hP;refine PySem.W.kla_eval L ?_;cases hf:codeAmong lpos w.toList with
 |some cv=>
  obtain⟨g,x,vs,t,rfl,T,a3,a4⟩:=h3 lpos cv hf;refine PySem.W.kla_makeFunctionHit M I.ok.glob hg p C hP N hf i fun j h U hk Y=>?_;have hn:=I.hok.fresh Y;have ow:=Own.fresh I Y;have I1:Inv X pins σ H {s with heap:=h.push (kla_obj "<lambda>" (X.env.qual ++ "<lambda>") params body scope [] ((X.mg "__name__").getD .none) g j),toks:=U}:=zaM (ch:=[]) I (fun b i=>by cases i) (fun b i=>by cases i) (fun b o _ e=>Heap.get?_push_of_some _ (hk b o e)) I.bare;have I2:=zbX (o:=.frz (kla_obj "<lambda>" (X.env.qual ++ "<lambda>") params body scope [] ((X.mg "__name__").getD .none) g j) (.own 0)) I1 ow hn ⟨Heap.get?_push_size _ rfl,_,Heap.get?_push_size _ rfl⟩;have st:∀a o,H a=some o->upd H h.objs.size (.frz (kla_obj "<lambda>" (X.env.qual ++ "<lambda>") params body scope [] ((X.mg "__name__").getD .none) g j) (.own 0)) a=some o:=fun a o e=>by rw[zae (zaj e hn)];exact e
  refine q _ _ _ I2 ⟨_,j,g,x,vs,t,zag,st _ _ T,a3,a4⟩ ?_ ⟨fun a o _ e=>st a o e,fun ps' e=>⟨#[],by rw[st _ _ e];simp⟩⟩;exact TabIn.up ⟨w,k,N,h3⟩ (by rw[st _ _ k,k]) fun b o u e=>st _ _ e
 |none=>
  have hgP:mainGlobals≠P:=fun z=>by obtain⟨o,es,ep,e,hd,_⟩:=hg;rw[z,hP]at e;cases e;cases hd
  refine PySem.W.kla_makeFunction M I.ok.glob hg p C hP N hf hgP i fun g j h U hx m A hrec htb=>?_;obtain⟨c2,x,vs,t,e2,hoc,hd,hv⟩:=hrec;cases e2;generalize hfo:kla_obj "<lambda>" (X.env.qual ++ "<lambda>") params body scope [] ((X.mg "__name__").getD .none) g j=B;have hfr:(h.push B).get? h.objs.size=some B:=by rw[<-hfo];exact Heap.get?_push_size _ rfl
  have hfn:=I.hok.fresh (le_trans m (le_of_lt A));have hcn:=I.hok.fresh m;have nPc:=ne_of_lt (lt_of_lt_of_le O m);have nPf:=ne_of_lt (lt_trans (lt_of_lt_of_le O m) A);have ncf:=ne_of_lt A;have st:∀a o,a≠P->H a=some o->upd (upd (upd H P (.tbl (w ++ #[rawInt lpos.line,rawInt lpos.col,.ref g]))) g (.frz x (.own 0))) h.objs.size (.frz B (.own 0)) a=some o:=fun a o n e=>by rw[zae (zaj e hfn),zae (zaj e hcn),zae n];exact e
  have G:upd (upd (upd H P (.tbl (w ++ #[rawInt lpos.line,rawInt lpos.col,.ref g]))) g (.frz x (.own 0))) h.objs.size (.frz B (.own 0)) P=some (.tbl (w ++ #[rawInt lpos.line,rawInt lpos.col,.ref g])):=by rw[zae nPf,zae nPc,zag]
  have atC:upd (upd (upd H P (.tbl (w ++ #[rawInt lpos.line,rawInt lpos.col,.ref g]))) g (.frz x (.own 0))) h.objs.size (.frz B (.own 0)) g=some (.frz x (.own 0)):=by rw[zae ncf,zag]
  have J:∀a,H a=none->a≠P:=fun a e z=>by rw[z,k]at e;cases e
  have l:∀b o,b≠P->s.heap.get? b=some o->(h.push B).get? b=some o:=fun b o n e=>Heap.get?_push_of_some _ (hx b o n e);have inv:Inv X pins σ (upd (upd (upd H P (.tbl (w ++ #[rawInt lpos.line,rawInt lpos.col,.ref g]))) g (.frz x (.own 0))) h.objs.size (.frz B (.own 0))) {s with heap:=h.push B,toks:=U}:=by refine I.call (ch:=[]) ⟨fun b o e n _ _=>l b o (J b n) e,fun b o e n _ _=>⟨o.slots,l b o (J b n) e⟩,fun b o e n _=>?_,fun b o e _=>?_,fun b xs e=>?_,fun b o u e=>?_,fun b ps' e=>?_⟩ ?_ I.bare (fun b i=>by cases i);have i:=Heap.lt_size e;rw[zae (ne_of_lt (lt_trans (lt_of_lt_of_le i m) A)),zae (ne_of_lt (lt_of_lt_of_le i m)),zae (J b n)];exact n;by_cases z:b=P;subst z;exact⟨_,Heap.get?_push_of_some _ htb⟩;exact⟨o,l b o z e⟩;exact st b _ (fun z=>by rw[z,k]at e;cases e) e;exact st b _ (fun z=>by rw[z,k]at e;cases e) e;by_cases z:b=P;subst z;rw[k]at e;cases e;exact⟨_,G⟩;exact⟨#[],by rw[st b _ z e];simp⟩;intro a u e;by_cases zf:a=h.objs.size;subst zf;rw[zag]at e;cases e;exact⟨hfr,_,hfr⟩;rw[zae zf]at e;by_cases zc:a=g;subst zc;rw[zag]at e;cases e;exact⟨Heap.get?_push_of_some _ hoc,_,Heap.get?_push_of_some _ hoc⟩;rw[zae zc]at e;by_cases zp:a=P;subst zp;rw[zag]at e;cases e;exact Heap.get?_push_of_some _ htb;rw[zae zp]at e;refine(I.hok a u e).stay (fun b o i r=>l b o ?_ r) (fun b r=>st b _ (fun z=>by rw[z,k]at r;cases r) r) fun b xs r=>st b _ (fun z=>by rw[z,k]at r;cases r) r;rcases i with rfl|i;exact zp;intro z;rw[z,k]at i;cases i
  refine q _ _ _ inv ⟨_,j,g,x,vs,t,by rw[zag,<-hfo],atC,hd,hv⟩ ?_ ⟨fun a o n e=>st a o n e,fun ps' e=>by rw[k]at e;cases e;exact⟨_,G⟩⟩;refine⟨_,G,?_,fun pos v e=>?_⟩;have:=TriplesOk_snoc lpos.line lpos.col (.ref g) w.toList N;simpa using this;have r:codeAmong pos (w.toList++[rawInt lpos.line,rawInt lpos.col,.ref g])=some v:=by simpa using e
  rcases zfk N r with z|z;obtain⟨d,od,ws,u,a1,T,a3⟩:=h3 pos v z;exact⟨d,od,ws,u,a1,st _ _ (fun y=>by rw[y,k]at T;cases T) T,a3⟩;exact⟨g,x,vs,t,z,atC,hd,hv⟩
end
def oneK(k:VK)(vs:List V)(H:Hp):Prop:=match vs with | [w]=>k w H|_=>False
theorem zdm(h:oneK k vs H):∃w,vs=[w]/\k w H:=by unfold oneK at h;split at h;exact⟨_,rfl,h⟩;exact h.elim
def tLam(q:Str)(a:Arguments)(b:Expr)(scope:Scope):TE:=fun d H Q=>TB H/\∀f c,LamAt c f "<lambda>" q a b scope->Ext [] H [] c->Q (.ref f) c
section
variable{X:Cx}{o:Expr}{p apos cpos kpos lpos pos:Pos}{td:TE}{c P:Addr}{params:Arguments}{body:Expr}{scope:Scope}
theorem zns(mk:Maker X c P)(a:defaultsOf params X.env=([],[]))(d:closureFor scope X.env=pure []):PE X (.Lambda params body scope lpos) (tLam (X.env.qual ++ "<lambda>") params body scope):=by intro i s m H Q I h;obtain⟨n,j,_⟩:=id (h.1 _ mk.mem);refine zmt I mk.bm mk.code mk.hd (h.1 _ mk.mem) a d fun f k q J L T S=>⟨.ref f,k,J,rfl,h.2 f k L (S.ext j fun p g=>?_)⟩;by_cases z:p.1=P;rw[mk.one p g z,z];exact T;obtain⟨r,l,_⟩:=id (h.1 p g);exact(h.1 p g).up ((S.rest _ _ z l).trans l.symm) fun b o u e=>S.rest b _ (fun y=>by rw[y]at e;rw[j]at e;cases e) e
end
end R
namespace R
open PySem PySem.Spec PyProof.Rows L2
section
variable{ρ:Type}{lt:ρ->ρ->Prop}[DecidableRel lt]
noncomputable def rkG(lt:ρ->ρ->Prop)[DecidableRel lt](rows:List ρ)(k:ρ):Int:=((rows.filter fun x=>decide (lt x k)).length:Nat)
structure Ord(lt:ρ->ρ->Prop):Prop where
 irr:∀r,¬lt r r
 tra:∀{a b c},lt a b->lt b c->lt a c
 tot:∀{a b},a≠b->lt a b\/lt b a
theorem zhx(o:Ord lt)(c:a∈rows)(h:lt a b):rkG lt rows a<rkG lt rows b:=by unfold rkG;have:=zgg (q:=fun x=>decide (lt x b)) (l:=rows) (a:=a) (fun x _ d=>decide_eq_true (o.tra (of_decide_eq_true d) h)) c (decide_eq_false (o.irr a)) (decide_eq_true h);lia
theorem zjx(o:Ord lt)(c:a∈rows)(d:b∈rows):lt a b↔rkG lt rows a<rkG lt rows b:=by refine⟨zhx o c,fun h=>?_⟩;by_cases e:a=b;lia;rcases o.tot e with z|z;exact z;have:=zhx o d z;lia
theorem zoF(o:Ord lt)(c:a∈rows)(d:b∈rows)(h:rkG lt rows a=rkG lt rows b):a=b:=by by_cases e:a=b;exact e;rcases o.tot e with z|z;have:=zhx o c z;lia;have:=zhx o d z;lia
end
variable[Mks]
section
variable{ρ:Type}[Inhabited ρ]{lt:ρ->ρ->Prop}[DecidableRel lt]{RA KA:Hp->Addr->ρ->Prop}{κ:SortKind}
variable{X:Cx}{pins:List (Addr×Obj)}{σ:L2.St}{H:Hp}{s:Shared}{A':Around}{f D kS:Addr}{rows:List ρ}
structure SortK(X:Cx)(pins:List (Addr×Obj))(σ:L2.St)(A':Around)(H:Hp)(f:Addr)(RA KA:Hp->Addr->ρ->Prop)(κ:SortKind)(lt:ρ->ρ->Prop)[DecidableRel lt]:Prop where
 upR:∀{H1 H2 a r},Kp H1 H2->RA H1 a r->RA H2 a r
 upK:∀{H1 H2 b r},Kp H1 H2->KA H1 b r->KA H2 b r
 call:∀{H1 s1 a r},Inv X pins σ H1 s1->Ext [] H [] H1->RA H1 a r->wpAny (model X.prog X.w) A' (call (.ref f) [.ref a]) (fun y s'=>∃b H',y=.ref b/\Inv X pins σ H' s'/\KA H' b r/\Ext [] H1 [] H'/\Un (frs X.stack) [] H1 H' s1.heap s'.heap) (fun _ _=>False) s1
 kind:∀{H1 s1}{ks:List Value}{Q:SortKind->Shared->Prop}{E:Value->Shared->Prop},Inv X pins σ H1 s1->(∀k∈ks,∃b r,k=Value.ref b/\KA H1 b r)->1<=ks.length->Q κ s1->wpAny (model X.prog X.w) A' (keyKind' ks.toArray) Q E s1
 less:∀{H1 s1 b c r r'}{Q:Bool->Shared->Prop}{E:Value->Shared->Prop},Inv X pins σ H1 s1->KA H1 b r->KA H1 c r'->Q (decide (lt r r')) s1->wpAny (model X.prog X.w) A' (keyLt' κ (.ref b) (.ref c)) Q E s1
 ord:Ord lt
structure KeyG(KA:Hp->Addr->ρ->Prop)(rows:List ρ)(H:Hp)(ks:List Value)(i:Nat):Prop where
 len:ks.length=i
 at_:∀(j:Nat)(k:Value),ks[j]?=some k->∃(b:Addr) (r:ρ),rows[j]?=some r/\k=Value.ref b/\KA H b r
theorem KeyG.snoc(e:SortK X pins σ A' H f RA KA κ lt)(K:KeyG KA rows g ks i)(x:Ext [] g [] d)(l:rows[i]?=some r)(m:KA d b r):KeyG KA rows d (ks++[.ref b]) (i+1):=by
 refine⟨by simp[K.len],fun j k a=>?_⟩;by_cases h:j<ks.length;rw[getElem?_append_left h]at a;obtain⟨c,q,n,o,p⟩:=K.at_ j k a;exact⟨c,q,n,o,e.upK x.kp p⟩;have:j=ks.length:=by have:=(List.getElem?_eq_some_iff.mp a).1;simp at this;lia
 subst this;simp at a;exact⟨b,r,by rw[K.len];exact l,a.symm,m⟩
structure KJG(KA:Hp->Addr->ρ->Prop)(X:Cx)(pins:List (Addr×Obj))(σ:L2.St)(H:Hp)(D kS:Addr)(e1:Nat)(rows:List ρ)(i:Nat)(s':Shared):Prop where
 ex:∃H' ks e,Inv X pins σ H' s'/\Ext [] H [] H'/\H' D=none/\H' kS=none/\zfo s' D [] e1/\zfo s' kS ks e/\KeyG KA rows H' ks i
theorem zmv(h:SortK X pins σ A' H f RA KA κ lt){u i:Nat}{a:Addr}{r:ρ}(oD:Own X pins D)(v:Own X pins kS)(L:D≠kS)(M:RA H a r)(j:rows[i]?=some r)(hi:i<64){w:Shared}(J:KJG KA X pins σ H D kS u rows i w){items:Array Value} :
  wpAny (model X.prog X.w) A' (do
   match <-(call (.ref f) [.ref a]).attempt with
   |.ok k=>Builtin.List.listUpdate (.ref kS) (·.push k);pure (ForInStep.yield PUnit.unit)| .error e=>
    rule "list.sort.key-raised"
    let c <-Builtin.List.listItems (.ref kS)
    Builtin.List.listUpdate (.ref kS) fun _=>#[]
    letGo c.toList.reverse [e]
    Builtin.List.listUpdate (.ref D) fun _=>items;throw e) (fun q l=>q=.yield ⟨⟩/\KJG KA X pins σ H D kS u rows (i+1) l) (fun _ _=>False) w:=by
 obtain⟨Y,m,e,I,x,A,n,lD,p,B⟩:=J.ex;refine wpAny_bind (wpAny_attempt (wpAny_mono (h.call I x (h.upR x.kp M)) ?_ fun _ _ z=>z.elim));rintro y N ⟨b,O,rfl,C,t,E,d⟩;have Q:=d.keep D _ lD A (oD.stk I) (by simp);have G:=d.keep kS _ p n (v.stk I) (by simp);have hz:=B.len;refine wpAny_bind (listUpdate_at G rfl (wpAny_pure ⟨rfl,?_⟩) (by rw[size_toArray,sizeLine_eq];lia) (by rw[Array.size_push,size_toArray,sizeLine_eq];lia));obtain⟨T,U⟩:=zeU (us:=m++[.ref b]) G (·.push (.ref b)) (by simp);refine⟨O,m++[.ref b],T,?_,x.trans E,d.free D _ lD A (by simp),d.free kS _ p n (by simp),zb6 L Q,U,B.snoc h E j t⟩;exact zaM C (fun b g=>by rw[mem_singleton.mp g];exact v) (fun b g=>by rw[mem_singleton.mp g];exact d.free kS _ p n (by simp)) (fun b o g q=>zb6 (by simpa using g) q) C.bare
theorem zqk{st}(g:(arrOf st).map (·.2)=a.toArray)(hz:a.length<64)(hi:i<64)(n:failedOf st=none)(oD:Own X pins D)(p:Own X pins kS)(r:D≠kS)(J:KJG KA X pins σ H D kS k rows i s)(h:∀l,KEnd X pins σ H D a l->P (.done (.ret .none)) l):wpAny (model X.prog X.w) A' (ksk_tail D false k (.ref kS) st) P E s:=by
 obtain⟨t,u,e,I,x,m,v,lD,w,y⟩:=J.ex;have C:u.length<64:=by rw[y.len];exact hi
 have z:=zaM (h':=s.heap.update kS (Obj.mapSeq fun _=>#[])) (g':=s.gens) (t':=s.toks) (d':=s.drawn) (ch:=[kS]) I (fun b c=>by rw[mem_singleton.mp c];exact p) (fun b c=>by rw[mem_singleton.mp c];exact v) (fun b o c q=>zb6 (by simpa using c) q) I.bare;have d:zfo {s with heap:=s.heap.update kS (Obj.mapSeq fun _=>#[])} D [] k:=zb6 r lD;obtain⟨A,j⟩:=zeU (us:=a) d (fun _=>a.toArray) rfl;have B:=zaM (h':=(s.heap.update kS (Obj.mapSeq fun _=>#[])).update D (Obj.mapSeq fun _=>a.toArray)) (g':=s.gens) (t':=s.toks) (d':=s.drawn) (ch:=[D]) z (fun b c=>by rw[mem_singleton.mp c];exact oD) (fun b c=>by rw[mem_singleton.mp c];exact m) (fun b o c q=>zb6 (by simpa using c) q) I.bare;unfold ksk_tail;rw[g,n];refine wpAny_bind (listUpdate_at w rfl (wpAny_bind (wpAny_letGo (wpAny_bind (seqEpoch_at d rfl (wpAny_bind (listUpdate_at d rfl ?_ (by simp) (by simp only[Bool.false_eq_true,if_false,size_toArray,sizeLine_eq];lia))))))) (by rw[size_toArray,sizeLine_eq];lia) (by simp));simp only[bne_self_eq_false,Bool.false_eq_true,if_false];exact wpAny_pure (h _ ⟨t,A,B,x,m,j⟩)
structure PlcG(lt:ρ->ρ->Prop)(rows:List ρ)(p:List Nat):Prop where
 lt':∀i∈p,i<rows.length
 asc:(p.map fun i=>rows.getD i default).Pairwise lt
 perm:p.Perm (List.range rows.length)
theorem endG(v:SortK X pins σ A' H f RA KA κ lt){vs:List Value}(M:vs.length=rows.length)(t:rows.length<64)(nd:rows.Nodup)(oD:Own X pins D)(oK:Own X pins kS)(ne:D≠kS)(J:KJG KA X pins σ H D kS e1 rows rows.length s)(h:∀p l,PlcG lt rows p->KEnd X pins σ H D (p.map fun i=>vs.getD i Value.none) l->P (.done (.ret .none)) l):
  wpAny (model X.prog X.w) A' (Builtin.List.listItems (.ref kS)>>=fun w=>ksk_end D false vs.toArray e1 (.ref kS) w) P E s:=by
 obtain⟨H1,o,e,I,x,d1,k1,lD,lK,N⟩:=id J.ex;refine wpAny_bind (listItems_at lK rfl ?_);unfold ksk_end;simp only[if_false];have q:o.length=vs.length:=by rw[N.len,M]
 by_cases u:vs.toArray.size<2;rw[if_pos u,if_pos u];have y:rows.length<2:=by rw[<-M];simpa using u
 refine wpAny_bind (wpAny_pure (wpAny_bind ?_));have eo:(arrOf (SortSt.mk' general' (o.toArray.zip vs.toArray) #[] 7 none)).map (·.2)=vs.toArray:=by apply Array.toList_inj.mp;rw[Array.toList_map,ksk_zip];exact List.map_snd_zip (by lia)
 have T:((List.range rows.length).map fun i=>vs.getD i Value.none)=vs:=by apply List.ext_getElem;simp[M];intro i g1 g2;simp[g2]
 refine wpAny_pure (zqk eo (by lia) t rfl oD oK ne J fun l K=>h (List.range rows.length) l ⟨fun i d=>mem_range.mp d,?_,List.Perm.refl _⟩ (by rw[T];exact K));rw[List.pairwise_iff_getElem];intro i j d m A;simp at d m;lia;have y:2<=vs.length:=by simpa using u
 rw[if_neg u,if_neg u];have hk:∀k∈o,∃b r,k=Value.ref b/\KA H1 b r:=fun k hm=>by obtain⟨j,m⟩:=List.mem_iff_getElem?.mp hm;obtain⟨b,r,_,O,U⟩:=N.at_ j k m;exact⟨b,_,O,U⟩
 refine wpAny_bind (v.kind I hk (by lia) ?_);refine wpAny_bind (wpAny_mono (PySem.W.kat_run (Q:=fun n l=>∃p:Array Nat,GP rows.length p/\AscTo (fun i=>rkG lt rows (rows.getD i default)) p rows.length/\l=s/\arrOf n=p.map (PySem.W.kas_item (o.toArray.zip vs.toArray))/\failedOf n=none)
  (G:=fun p l=>GP rows.length p/\AscTo (fun i=>rkG lt rows (rows.getD i default)) p rows.length/\l=s) q y (by lia) (fun p n l _ a2 a3 Y=>⟨p,Y.1,Y.2.1,Y.2.2,a2,a3⟩) ?_) ?_ fun _ _ z=>z)
 rw[M];refine zn5 (fun i j d m e=>?_) (fun i j C d m hC=>?_) (by lia) fun p g a=>⟨g,a,rfl⟩;have:=zoF v.ord (mem_of_getElem? (getD_mem default d)) (mem_of_getElem? (getD_mem default m)) e;have O:=getD_mem (default:ρ) d;have U:=getD_mem (default:ρ) m;rw[this,<-U]at O;exact(List.getElem?_inj d nd).mp O
 . obtain⟨b,r,b1,b2,b3⟩:=N.at_ i _ (getD_mem Value.none (by lia));obtain⟨c,r',c1,c2,c3⟩:=N.at_ j _ (getD_mem Value.none (by lia));have T:rows.getD i default=r:=by rw[List.getD_eq_getElem?_getD,b1];rfl
   have er':rows.getD j default=r':=by rw[List.getD_eq_getElem?_getD,c1];rfl
   show wpAny (model X.prog X.w) A' (keyLt' κ (o.getD i Value.none) (o.getD j Value.none)) C (fun _ _=>False) s;rw[b2,c2];refine v.less I b3 c3 ?_;have:decide (lt r r')=decide (rkG lt rows r<rkG lt rows r'):=by apply Bool.eq_iff_iff.mpr;rw[decide_eq_true_eq,decide_eq_true_eq];exact zjx v.ord (mem_of_getElem? b1) (mem_of_getElem? c1)
   rw[this]
   rw[T,er']at hC;exact hC
 rintro⟨⟨⟩,n⟩ l ⟨p,g,a,rfl,ar,fl⟩;refine zqk (PySem.W.kat_snds q ar) ?_ t fl oD oK ne J fun l K=>h p.toList l ⟨fun i d=>mem_range.mp (g.list.mem_iff.mp d),?_,g.list⟩ K;rw[length_map,length_toList,g.size];exact t;rw[pairwise_map,List.pairwise_iff_getElem];intro i j d m A;rw[length_toList,g.size]at d m;have B:i<p.size:=by rw[g.size];exact d
 have L:j<p.size:=by rw[g.size];exact m
 have m1:=mem_of_getElem? (getD_mem default (by have:=g.lt d;rw[zbm p B]at this;exact this));have m2:=mem_of_getElem? (getD_mem default (by have:=g.lt m;rw[zbm p L]at this;exact this));have:=a i j A m;unfold kAt at this;rw[zbm p B,zbm p L]at this;exact(zjx v.ord m1 m2).mpr this
theorem zs1{as:List Addr}(m:SortK X pins σ A' H f RA KA κ lt)(n:as.length=rows.length)(g:rows.length<64)(u:rows.Nodup)(oD:Own X pins D)(o:Own X pins kS)(q:D≠kS)(w:∀(j:Nat)(a:Addr),as[j]?=some a->∃r:ρ,rows[j]?=some r/\RA H a r)(J:KJG KA X pins σ H D kS t rows 0 s)(h:∀p b,PlcG lt rows p->KEnd X pins σ H D (p.map fun i=>(as.map Value.ref).getD i Value.none) b->P (.done (.ret .none)) b):
  wpAny (model X.prog X.w) A' (ksk_rest D (.ref f) false (as.map Value.ref).toArray t (.ref kS)) P E s:=by
 refine wpAny_bind (wpAny_rule ?_);rw[List.forIn_toArray];refine wpAny_bind (ksk_fold (fun i b=>KJG KA X pins σ H D kS t rows i b) (as.map Value.ref) 0 s J (fun j v b c d=>?_) fun b d=>?_);rw[getElem?_map]at c;cases k:as[j]? with
 |none=>rw[k]at c;cases c
 |some a=>rw[k]at c;cases c;obtain⟨r,e,l⟩:=w j a k;have x:=(List.getElem?_eq_some_iff.mp e).1;rw[zero_add]at d⊢;exact wpAny_mono (zmv m oD o q l e (by lia) d) (fun _ _ z=>z) fun _ _ z=>z.elim
 rw[zero_add,length_map,n]at d;exact endG m (by simpa using n) g u oD o q d h
theorem zqi{as:List Addr}(I:Inv X pins σ H s)(w:SortK X pins σ A' H f RA KA κ lt)(l:as.length=rows.length)(d:rows.length<64)(x:rows.Nodup)(oD:Own X pins D)(m:H D=none)(lD:zfo s D (as.map Value.ref) G)(y:∀(j:Nat)(a:Addr),as[j]?=some a->∃r:ρ,rows[j]?=some r/\RA H a r)(h:∀p n,PlcG lt rows p->KEnd X pins σ H D (p.map fun i=>(as.map Value.ref).getD i Value.none) n->P (.done (.ret .none)) n):wpAny (model X.prog X.w) A' (ksk_tree D (.ref f) false) P E s:=by
 obtain⟨J,l1⟩:=zeU lD (fun _=>#[]) rfl;have hD:=Heap.lt_size lD;have z:=zaM (h':=s.heap.update D (Obj.mapSeq fun _=>#[])) (t':=s.toks) (d':=s.drawn) I (fun b c=>by rw[mem_singleton.mp c];exact oD) (fun b c=>by rw[mem_singleton.mp c];exact m) (fun b o c q=>zb6 (by simpa using c) q) I.bare;have t:∀(e u:Obj) b o,(s.heap.update D (Obj.mapSeq fun _=>#[])).get? b=some o->(((s.heap.update D (Obj.mapSeq fun _=>#[])).push e).push u).get? b=some o:=fun e u b o q=>Heap.get?_push_of_some _ (Heap.get?_push_of_some _ q);have g:∀e:Obj,((s.heap.update D (Obj.mapSeq fun _=>#[])).push e).objs.size=s.heap.objs.size+1:=fun e=>by rw[size_push',Heap.size_update]
 have v:(as.map Value.ref).length<64:=by rw[length_map,l];exact d
 refine wpAny_bind (listItems_at lD rfl (wpAny_bind (listUpdate_at lD rfl (wpAny_bind (seqEpoch_at l1 rfl (wpAny_bind (wpAny_newTuple (wpAny_bind (wpAny_newList (wpAny_holding ?_) (zero_le _))) (by rw[sizeLine_eq];lia))))) (by rw[size_toArray,sizeLine_eq];lia) (zero_le _))));have A:=zaM (h':=((s.heap.update D (Obj.mapSeq fun _=>#[])).push (seqObj "tuple" (as.map Value.ref).toArray 0)).push (seqObj "list" #[] 0)) (t':=s.toks) (d':=s.drawn) (ch:=[]) z (fun b c=>by cases c) (fun b c=>by cases c) (fun b o _ q=>t _ _ b o q) I.bare;have B:Own X pins ((s.heap.update D (Obj.mapSeq fun _=>#[])).push (seqObj "tuple" (as.map Value.ref).toArray 0)).objs.size:=by rw[g];exact Own.fresh I (le_succ _)
 refine zs1 w l d x oD B (by rw[g];exact ne_of_lt (Nat.lt_succ_of_lt hD)) y ?_ h;exact⟨H,[],0,A,Ext.refl _ _,m,I.hok.fresh (by rw[g];exact le_succ _),t _ _ _ _ l1,Heap.get?_push_size _ rfl,rfl,fun j k C=>by simp at C⟩
end
end R
namespace R
open PySem PySem.Spec PyProof.Rows L2
section
variable{prog:Program}{w:World}{A:Around}{E:Value->Shared->Prop}{s:Shared}
def IsPr(prog:Program)(w:World)(h:Heap)(k:K3)(a:Addr):Prop:=k.1=0/\∃o u b n,h.get? a=some o/\o.cls=.type "tuple"/\o.data=.seq #[.ref b,.int k.2.2 u] n/\IsTupleKey (zat prog w) h (k.2.1.map Sum.inl) b
theorem zs7(o:A.units<cLine)(t:IsPr prog w s.heap x a)(u:IsPr prog w s.heap y b)(q:Q (decide (Lt3 x y)) s):
  wpAny (model prog w) A (keyLt' (tuples' false) (.ref a) (.ref b)) Q E s:=by
 obtain⟨p,H,I,J,L,l,_,i,c⟩:=t;obtain⟨r,M,N,O,T,m,_,j,d⟩:=u;obtain⟨U,e,f⟩:=x;obtain⟨Y,g,h⟩:=y;subst p r;refine PySem.W.kat_lt l i m j (kat_cons (wpAny_eqBool_tuple o c d ?_));by_cases k:e=g;rw[show decide ((e.map Sum.inl:List Key)=g.map Sum.inl)=true from decide_eq_true (by rw[k])];refine PySem.W.kat_yes (kat_cons (wpAny_eqBool_int ?_));by_cases n:f=h;rw[show(f==h)=true by simp[n]];refine PySem.W.kat_yes (PySem.W.kat_nil ?_);rw[decide_eq_false (by subst k n;exact zca _)]at q;exact q;rw[show(f==h)=false by simp[n]];refine kat_no (kat_one _ _ (wpAny_lt_int ?_));have:decide (Lt3 (0,e,f) (0,g,h))=decide (f<h):=by apply Bool.eq_iff_iff.mpr;rw[decide_eq_true_eq];subst k;unfold Lt3;rw[zcY];simp
 rw[this]at q;exact q;rw[show decide ((e.map Sum.inl:List Key)=g.map Sum.inl)=false from decide_eq_false (fun z=>k (zpz z))];obtain⟨i1,v,B⟩:=zjg c;obtain⟨i2,C,G⟩:=zjg d;refine kat_no (kat_one _ _ (HT.lt_tupInts v C B G o ?_));have:decide (Lt3 (0,e,f) (0,g,h))=HT.lexLt e g:=by rw[<-zkd];apply Bool.eq_iff_iff.mpr;unfold Lt3;simp[k]
 rw[this]at q;exact q
theorem zjQ:∀{vs:List Value},(∀v∈vs,∃c k,v=Value.ref c/\IsPr prog w h k c)->∃a:List Value,KatTups h vs a/\a.length=vs.length/\∀v∈a,∃(b:Addr) (ks:List Key),v=Value.ref b/\IsTupleKey (zat prog w) h ks b
 | [],_=>⟨[],KatTups.nil,rfl,fun v h=>by cases h⟩| v::vs,d=>by obtain⟨c,k,rfl,z,o,u,b,n,e,f,g,i⟩:=d v (by simp);obtain⟨a,j,l,m⟩:=zjQ (vs:=vs) fun x p=>d x (by simp[p]);refine⟨.ref b::a,KatTups.cons e f g rfl j,by simp[l],fun v hv=>?_⟩;rcases mem_cons.mp hv with rfl|hv;exact⟨b,_,rfl,i⟩;exact m v hv
theorem zoY{vs:List Value}(d:∀v∈vs,∃c k,v=Value.ref c/\IsPr prog w s.heap k c)(i:1<=vs.length)(q:Q (tuples' false) s):wpAny (model prog w) A (keyKind' vs.toArray) Q E s:=by obtain⟨j,e,l,f⟩:=zjQ d;refine PySem.W.kat_kind (T:=.type "tuple") e (by lia) (fun v hv=>?_) rfl q;obtain⟨b,m,rfl,o,a,n,g,h,p,r⟩:=f v hv;have:PySem.W.Looks (model prog w) s.heap (typeOf (.ref b)) o.cls:=(PySem.W.Looks.ld g).andThen .now;rw[h]at this;exact this
end
def Key2(H:Hp)(c:Addr)(k:K3):Prop:=k.1=0/\∃b,H c=some (.tup [.ref b,.int k.2.2])/\H b=some (.tup (k.2.1.map V.int))
def Let2(H:Hp)(a:Addr)(k:K3):Prop:=k.1=0/\∃t b w,H a=some (.tup [t,.ref b,.int k.2.2,w])/\H b=some (.tup (k.2.1.map V.int))
theorem zgY(ok:HOk P w H h)(e:Key2 H c k):IsPr P w h k c:=by obtain⟨z,b,f,g⟩:=e;obtain⟨_,i,d,o,j,l,n,m⟩:=(show ObjOk P w H h c (.tup _) from ok c _ f);cases d with| @cons _ p _ s q d=>cases d with| @cons _ t _ v r d=>cases d;cases(show p=Value.ref b from q);obtain⟨u,rfl⟩:=r;refine⟨z,o,u,b,n,j,l,m,?_⟩;have:=zdN (ks:=k.2.1.map Sum.inl) ok (by rw[map_map];exact g);exact this
variable[Mks]
structure KeyBody(body:Expr):Prop where
 ex:∃p1 p2 p3 p4 p5 j1 j2,body=.Subscript (.Name "letter" p1) (.Slice (some (.Constant (.int 1) j1 p2)) (some (.Constant (.int 3) j2 p3)) none p4) p5
section
variable{X:Cx}{pins:List (Addr×Obj)}{σ:L2.St}{H:Hp}{s:Shared}{A':Around}{f:Addr}{name qual:Str}{params:Arguments}{body:Expr}{scope:Scope}
theorem zmq(I:Inv X pins σ H s)(C:Room 2 A')(G:Env0 X.prog X.w X.K X.mg X.base A' X.stack s H)(L:LamAt H f name qual params body scope)(hs:FnScope ["letter"] ["letter"] scope)(J:∀(g M ct u:Value),bindArgs (kla_fn name qual params body scope [] g M ct) ⟨[u],[]⟩=pure [(("letter":Str),u)])(N:KeyBody body)(O:Let2 H a k):
  wpAny (model X.prog X.w) A' (call (.ref f) [.ref a]) (fun y h=>∃b c,y=.ref b/\Inv X pins σ c h/\Key2 c b k/\Ext [] H [] c/\Un (frs X.stack) [] H c s.heap h.heap) (fun _ _=>False) s:=by
 obtain⟨g,ct,m,T,vs,t,U,Y,h3,h4⟩:=L.ex;have of:=(I.hok f _ U).1;have oo:=(I.hok m _ Y).1;obtain⟨p1,p2,p3,p4,p5,j1,j2,rfl⟩:=N.ex;obtain⟨z,tt,n,ww,e1,o⟩:=O;refine wpAny_call (codeAny_mono (zkk (CX:=CX0) (E:=fun _ _ _=>False) (Q:=fun w c=>∃b,w=V.ref b/\Key2 c b k/\Ext [] H [] c) hs C G of ⟨m,T,vs,t,rfl,oo,h3,h4⟩
  (.of_eq (J g _ ct _)) (.cons (show L2.RelV (.ref a) (.ref a) from rfl) .nil) rfl (fun hr'=>zl8 zqG (zcj (i:=0) rfl ((hs.par "letter" (by simp)).elim .inl fun q=>.inr (.inl q))) (zjS zfU) (zjS zfU)) ?_) fun r h q=>?_)
 refine⟨.ref a,rfl,1,rfl,3,rfl,a,[tt,.ref n,.int k.2.2,ww],rfl,.inl (Rd.of e1),(fun z=>absurd (show(1:Nat)=0 from z.1) (by decide)),fun p v=>⟨p,rfl,⟨z,n,zag,?_⟩,zfg v⟩⟩;rw[zae (zaj o v)];exact o;cases r with
 |error e=>exact q.elim| ok fl=>
  cases fl with
  |ret y=>
   obtain⟨w,c,os,d,A,j,B,b,rfl,l,x⟩:=q;cases y with
   |ref z=>
    have:z=b:=by simpa[L2.RelV]using B
    exact⟨b,c,by rw[this],I.call' os A j d (fun b z=>absurd z (by simp)),l,x,A⟩
   |_=>simp[L2.RelV]at B
  |_=>exact q.elim
theorem ord3:Ord Lt3:=⟨zca,fun h k=>zdJ h k,fun h=>zf0 h⟩
theorem zqE(d:Room 2 A')(g:∀H s,Inv X pins σ H s->Env0 X.prog X.w X.K X.mg X.base A' X.stack s H)(L:LamAt H f name qual params body scope)(hs:FnScope ["letter"] ["letter"] scope)
  (h:∀(i j ct u:Value),bindArgs (kla_fn name qual params body scope [] i j ct) ⟨[u],[]⟩=pure [(("letter":Str),u)]) (l:KeyBody body):SortK X pins σ A' H f Let2 Key2 (tuples' false) Lt3 where
 upR:=fun k p=>(by obtain⟨z,t,b,w,a,c⟩:=p;exact ⟨z,t,b,w,k.tups _ _ a,k.tups _ _ c⟩)
 upK:=fun k y=>(by obtain⟨z,b,a,c⟩:=y;exact ⟨z,b,k.tups _ _ a,k.tups _ _ c⟩)
 call:=fun I x m=>zmq I d (g _ _ I) (L.up x.kp) hs h l m
 kind:=fun I n a q=>zoY (fun v hv=>let ⟨b,r,e,k⟩:=n v hv;⟨b,r,e,zgY I.hok k⟩) a q
 less:=fun I a c q=>zs7 (by have:=d.un;lia) (zgY I.hok a) (zgY I.hok c) q
 ord:=ord3
end
section
variable{X:Cx}{pins:List (Addr×Obj)}{σ:L2.St}{H:Hp}{s:Shared}{f a:Addr}{as:List Addr}{ks:List K3}{name qual:Str}{params:Arguments}{body:Expr}{scope:Scope}
structure Srd(X:Cx)(pins:List (Addr×Obj))(σ:L2.St)(H:Hp)(as:List Addr)(ks:List K3)(D:Addr)(s':Shared):Prop where
 ex:∃(H':Hp) (p:List Nat),Inv X pins σ H' s'/\Ext [] H [] H'/\H D=none/\PlcG Lt3 ks p/\H' D=some (.lst ((p.map fun i=>as.getD i 0).map V.ref))
theorem zel:∀{l:List Addr}{m:List Value},Vals (l.map V.ref) m->m=l.map Value.ref
 | [],_,h=>by cases h;rfl| x::l,_,h=>by cases h with|cons b c=>rw[map_cons,<-zel c,show _=Value.ref x from b]
theorem zc6:∀l:List Addr,Vals (l.map V.ref) (l.map Value.ref)
 | []=>.nil|_::l=>.cons rfl (zc6 l)
theorem zim(I:Inv X pins σ H s)(hh:X.A.handled=none)(w:Room 2 X.A.in1.in1)(L:LamAt H f name qual params body scope)(hs:FnScope ["letter"] ["letter"] scope)(c:∀(x y ct u:Value),bindArgs (kla_fn name qual params body scope [] x y ct) ⟨[u],[]⟩=pure [(("letter":Str),u)])(z:KeyBody body)(A:SqL X.K H a (as.map V.ref))(B:as.length=ks.length)(r:ks.length<64)(C:ks.Nodup)(G:∀(j:Nat)(b:Addr),as[j]?=some b->∃k,ks[j]?=some k/\Let2 H b k)(q:∀D n,Srd X pins σ H as ks D n->Q (.ref D) n):
  wpAny (model X.prog X.w) X.A (call (.builtin "sorted") [.ref a] [(Str.ofString "key",.ref f)]) Q E s:=by
 obtain⟨M,N,g,hz⟩:=I.list A;have O:=zel N;subst O;refine call_function_entry_kw kind_sorted plain_sorted entry_sorted (ksk_s1 _ _) ?_;refine wpAny_bind (wpAny_pure (wpAny_bind ?_));refine collect_list g.isList ?_ (by rw[length_map,sizeLine_eq];lia);have T:∀b o,s.heap.get? b=some o->((s.heap.push (seqObj "list" #[] 0)).update s.heap.objs.size (Obj.mapSeq (·++(as.map Value.ref).toArray))).get? b=some o:=fun b o e=>(Heap.get?_update_other _ _ (ne_of_gt (Heap.lt_size e))).trans (Heap.get?_push_of_some _ e);have U:s.heap.objs.size<=((s.heap.push (seqObj "list" #[] 0)).update s.heap.objs.size (Obj.mapSeq (·++(as.map Value.ref).toArray))).objs.size:=by rw[Heap.size_update,Heap.size_push];exact le_succ _
 generalize(s.heap.push (seqObj "list" #[] 0)).update s.heap.objs.size (Obj.mapSeq (·++(as.map Value.ref).toArray))=d at *;refine wpAny_bind (wpAny_newList ?_ (by rw[length_map,sizeLine_eq];lia));have t:=zaM (g':=s.gens) (t':=s.toks) (d':=s.drawn) (ch:=[]) I (fun b c=>by cases c) (fun b c=>by cases c) (fun b o _ e=>T b o e) I.bare;have Y:Inv X pins σ H {s with heap:=d.push (seqObj "list" (as.map Value.ref).toArray 0)}:=zaM (s:={s with heap:=d}) (g':=s.gens) (t':=s.toks) (d':=s.drawn) (ch:=[]) t (fun b c=>by cases c) (fun b c=>by cases c) (fun b o _ e=>Heap.get?_push_of_some _ e) I.bare;have lD:zfo {s with heap:=d.push (seqObj "list" (as.map Value.ref).toArray 0)} d.objs.size (as.map Value.ref) 0:=Heap.get?_push_size _ rfl;have oD:Own X pins d.objs.size:=Own.fresh t (le_refl _);have v:H d.objs.size=none:=t.hok.fresh (le_refl _);refine wpAny_bind (wpAny_holding (wpAny_call_entry_kw slot_list_sort ⟨_,lD,rfl⟩ entry_list_sort ?_ (ksk_l1 _ _)));refine zqi (D:=d.objs.size) (as:=as) (rows:=ks) Y (zqE w (fun H s J=>J.env0.in1.in1) L hs c z) B r C oD v lD G fun p n g ke=>⟨_,rfl,?_⟩;refine wpAny_pure ⟨_,rfl,q _ n ?_⟩;obtain⟨H2,e,J,x2,h,l⟩:=ke.ex;have eo:(p.map fun i=>(as.map Value.ref).getD i Value.none)=(p.map fun i=>as.getD i 0).map Value.ref:=by
  rw[map_map];refine List.map_congr_left fun i hi=>?_;have:=g.lt' i hi;have gi:i<as.length:=by lia
  simp[gi]
 rw[eo]at l;have plen:p.length=ks.length:=by rw[g.perm.length_eq];simp
 exact⟨upd H2 d.objs.size (.lst ((p.map fun i=>as.getD i 0).map V.ref)),p,zbX J oD h ⟨by simp[plen,sizeLine_eq];lia,_,e,zc6 _,l⟩,x2.trans (zfg h),v,g,zag⟩
end
def SrtK(K:PySem.W.Frag)(Q:VK)(w:V)(c:Hp):Prop:=∃(a:Addr) (e:List Addr) (d:List K3),w=.ref a/\SqL K c a (e.map V.ref)/\e.length=d.length/\d.length<64/\d.Nodup/\(∀(j:Nat)(b:Addr),e[j]?=some b->∃k,d[j]?=some k/\Let2 c b k)/\TB c/\
 ∀(D:Addr)(f:Hp)(p:List Nat),Ext [] c [] f->c D=none->PlcG Lt3 d p->f D=some (.lst ((p.map fun i=>e.getD i 0).map V.ref))->Q (.ref D) f
section
variable{X:Cx}{o:Expr}{p kpos lpos pos:Pos}{td:TE}{c P:Addr}{params:Arguments}{body:Expr}{scope:Scope}
theorem Let2.up(a:Kp H d)(h:Let2 H b k):Let2 d b k:=let ⟨z,t,b,w,e,f⟩:=h;⟨z,t,b,w,a.tups _ _ e,a.tups _ _ f⟩
theorem SqL.up0{K}(x:Ext [] H [] b)(h:SqL K H a xs):SqL K b a xs:=by rcases h with (h|⟨o,h⟩)|h;rcases(x.rest a _ (by simp) h).1 with z|⟨⟨_,z⟩,_⟩;exact .inl (.inl z);cases z;rcases(x.rest a _ (by simp) h).1 with z|⟨⟨_,z⟩,_⟩;exact .inl (.inr ⟨o,z⟩);cases z;exact .inr h
theorem zo4(C:PE X o td)(g:zai o=true)(E:Gl X "sorted")(G:X.mg "sorted"=none)(x:Room 2 X.A.in1.in1)(mk:Maker X c P)(i:defaultsOf params X.env=([],[]))(n:closureFor scope X.env=pure [])(hs:FnScope ["letter"] ["letter"] scope)
  (J:∀(M N ct u:Value),bindArgs (kla_fn "<lambda>" (X.env.qual ++ "<lambda>") params body scope [] M N ct) ⟨[u],[]⟩=pure [(("letter":Str),u)]) (O:KeyBody body) :
  PE X (.Call (.Name "sorted" p) [o] [⟨some "key",.Lambda params body scope lpos,kpos⟩] pos) (fun l H Q=>td l H (SrtK X.K Q)):=by
 intro d s l H Q I h;refine wpAny_Call_Name_kw (zc9 I E G (by rfl:bootBuiltins "sorted"=some (.builtin "sorted")) ?_ (by decide) (by decide));have T:=zaI C zbM (zah g _ _);have U:PK X [⟨some "key",.Lambda params body scope lpos,kpos⟩] (zeL (tLam (X.env.qual ++ "<lambda>") params body scope) tNil):=zjT (zns mk i n) zno;refine PyProof.Rows.callWith_builtin_kwB (by rw[zah g];rfl) rfl (PyProof.Rows.evalArgs_kw2 rfl (thn (T pos d s l H (oneK (SrtK X.K Q)) I h) fun us Y y=>eY y fun vs q I1 r1 k1=>?_) (zah g _ _));obtain⟨w,rfl,a,as,ks,ew,hq,hl,r,nd,t,tb,q1⟩:=zdm k1;subst ew;obtain⟨u,rfl,ru⟩:=Vals.one r1;obtain rfl:u=Value.ref a:=ru;refine thn (U pos d Y l q (oneK fun A m=>∃f,A=.ref f/\LamAt m f "<lambda>" (X.env.qual ++ "<lambda>") params body scope/\Ext [] q [] m) I1 ⟨tb,fun f m L S=>⟨f,rfl,L,S⟩⟩) fun ws s2 y=>eY y fun zs m I2 r2 k2=>?_;obtain⟨A,rfl,f,ef,L,st⟩:=zdm k2;subst ef;obtain⟨u2,rfl,v⟩:=Vals.one r2;obtain rfl:u2=Value.ref f:=v;refine zim I2 x.hd x L hs J O (SqL.up0 st hq) hl r nd (fun j b e=>let ⟨k,e1,e2⟩:=t j b e;⟨k,e1,e2.up st.kp⟩) fun D s3 tl=>?_;obtain⟨B,p,I3,x3,dn,pl,dl⟩:=tl.ex;refine⟨.ref D,B,I3,rfl,q1 D B p (st.trans x3) ?_ pl dl⟩;cases e:q D with|none=>rfl| some o=>exfalso;have:=(st.rest D o (by simp) e).1;rw[dn]at this;rcases this with z|⟨_,_,z⟩<;>cases z
end
noncomputable def lamI(k:Int):Expr->Bool|.Constant (.int i) _ _=>decide (i=k)|_=>false
noncomputable def lamV:Expr->Bool|.Name x _=>decide (x="letter")|_=>false
noncomputable def lamS:Expr->Bool|.Slice (some a) (some b) none _=>lamI 1 a&&lamI 3 b|_=>false
noncomputable def lamA:List Arg->Bool|[⟨a,none,_⟩]=>decide (a="letter")|_=>false
noncomputable def lamB:Expr->Bool
 |.Lambda ⟨[],as,none,[],[],none,[]⟩ (.Subscript v s _) scope _=>lamA as&&(lamV v&&(lamS s&&(decide (scope.names=[(("letter":Str),NameKind.local)])&&(decide (scope.kind=.function)&&(!scope.isCoroutine&&!scope.isGenerator)))))
 |_=>false
structure LamE(params:Arguments)(body:Expr)(scope:Scope):Prop where
 df:∀env,defaultsOf params env=([],[])
 cl:∀env,closureFor scope env=pure []
 sc:FnScope ["letter"] ["letter"] scope
 bd:∀(q:Str)(pm cd ct u:Value),bindArgs (kla_fn "<lambda>" q params body scope [] pm cd ct) ⟨[u],[]⟩=pure [(("letter":Str),u)]
 kb:KeyBody body
theorem lamJ{k:Int}{e:Expr}(h:lamI k e=true):∃a p,e=.Constant (.int k) a p:=by
 cases e with
 |Constant c a p=>
  cases c with
  |int i=>cases of_decide_eq_true h;exact⟨_,_,rfl⟩
  |_=>cases h
 |_=>cases h
theorem lamC{as:List Arg}(h:lamA as=true):∃p,as=[⟨"letter",none,p⟩]:=by
 cases as with
 |nil=>cases h
 |cons a r=>
  obtain⟨a,n,p⟩:=a;cases r with
  |cons _ _=>cases n<;>cases h
  |nil=>
   cases n with
   |some _=>cases h
   |none=>cases of_decide_eq_true h;exact⟨_,rfl⟩
theorem lamW{e:Expr}(h:lamV e=true):∃p,e=.Name "letter" p:=by
 cases e with
 |Name x p=>cases of_decide_eq_true h;exact⟨_,rfl⟩
 |_=>cases h
theorem lamT{e:Expr}(h:lamS e=true):∃a b p,e=.Slice (some a) (some b) none p/\lamI 1 a=true/\lamI 3 b=true:=by
 cases e with
 |Slice a b c p=>
  cases a with
  |none=>cases h
  |some a=>
  cases b with
  |none=>cases h
  |some b=>
  cases c with
  |some _=>cases h
  |none=>exact⟨_,_,_,rfl,(and_eq_true _ _).mp h⟩
 |_=>cases h
theorem zmu(h:lamB e=true):∃params body scope lpos,e=.Lambda params body scope lpos/\LamE params body scope:=by
 cases e with
 |Lambda ps b scope p=>
  obtain⟨po,as,va,ko,kd,kw,de⟩:=ps
  cases po with
  |cons _ _=>cases h
  |nil=>
  cases va with
  |some _=>cases h
  |none=>
  cases ko with
  |cons _ _=>cases h
  |nil=>
  cases kd with
  |cons _ _=>cases h
  |nil=>
  cases kw with
  |some _=>cases h
  |none=>
  cases de with
  |cons _ _=>cases h
  |nil=>
  cases b with
  |Subscript v s p2=>
   obtain⟨ha,h⟩:=(and_eq_true _ _).mp h;obtain⟨hv,h⟩:=(and_eq_true _ _).mp h;obtain⟨hs,h⟩:=(and_eq_true _ _).mp h;simp only[and_eq_true,decide_eq_true_eq,not_eq_true']at h;obtain⟨hn,hk,hc,hg⟩:=h;obtain⟨_,rfl⟩:=lamW hv;obtain⟨_,_,_,rfl,h1,h2⟩:=lamT hs;obtain⟨_,_,rfl⟩:=lamJ h1;obtain⟨_,_,rfl⟩:=lamJ h2;obtain⟨_,rfl⟩:=lamC ha;refine⟨_,_,scope,_,rfl,⟨fun env=>rfl,fun env=>?_,⟨hk,hc,hg,by decide,rfl,fun x hx=>?_,fun y hy=>?_⟩,fun q pm cd ct u=>rfl,⟨_,_,_,_,_,_,_,rfl⟩⟩⟩;unfold closureFor;rw[hn];rfl;rw[mem_singleton.mp hx,hn];exact .inl (by decide);rw[hn]at hy;rw[mem_singleton.mp hy];decide
  |_=>cases h
 |_=>cases h
section
variable{K:PySem.W.Frag}{ι:List Addr}{H H2:Hp}{S:R.St}
theorem zf9:∀{ds:List D}{xs:List V}{p:List Int},RVs K ι H ds xs->za3 ds=some p->xs=p.map V.int
 | [],xs,p,r,e=>by cases(show xs=[] from r);simp[za3]at e;subst e;rfl| d::ds,xs,p,r,e=>by
  obtain⟨v,f,rfl,b,c⟩:=r;unfold za3 at e;rw[mapM_cons]at e;cases d with
  |int i=>
   cases a:ds.mapM zc0 with
   |none=>rw[a]at e;cases e
   |some q=>rw[a]at e;cases e;rw[zf9 c (show za3 ds=some q from a),show v=.int i from b];rfl
  |_=>cases e
theorem zrP(r:RV K ι H d v)(e:ze5 d=some k):∃a,v=.ref a/\Let2 H a k:=by
 unfold ze5 at e;split at e;rename_i t g b w;cases f:za3 g with
 |none=>rw[f]at e;cases e
 |some p=>rw[f]at e;cases e;obtain⟨a,s,rfl,h,u,x,rfl,y,z,A,rfl,i,j,B,rfl,l,C,m,rfl,E,n⟩:=r;cases(show m=[] from n);obtain⟨c,G,rfl,o,q⟩:=i;cases(show j=.int b from l);exact⟨a,rfl,rfl,_,c,_,h,by rw[o,zf9 q f]⟩
 cases e
theorem zke:∀{ds:List D}{xs:List V}{ks:List K3},RVs K ι H ds xs->ds.mapM ze5=some ks->∃as:List Addr,xs=as.map V.ref/\as.length=ks.length/\ds.length=ks.length/\∀(j:Nat)(b:Addr),as[j]?=some b->∃k,ks[j]?=some k/\Let2 H b k
 | [],xs,ks,r,e=>by cases(show xs=[] from r);simp at e;subst e;exact⟨[],rfl,rfl,rfl,fun j b h=>by simp at h⟩| d::ds,xs,ks,r,e=>by
  obtain⟨v,s,rfl,i,l⟩:=r;rw[mapM_cons]at e;cases c:ze5 d with
  |none=>rw[c]at e;cases e
  |some k=>
   cases f:ds.mapM ze5 with
   |none=>rw[c,f]at e;cases e
   |some q=>rw[c,f]at e;cases e;obtain⟨as,rfl,m,n,o⟩:=zke l f;obtain⟨a,rfl,p⟩:=zrP i c;refine⟨a::as,rfl,by simp[m],by simp[n],fun j b g=>?_⟩;cases j with|zero=>cases g;exact⟨k,rfl,p⟩|succ j=>exact o j b (by simpa using g)
theorem zhl:∀{ks:List K3}{ds:List D}{i:Nat}{k:K3}{d:D},ks.Nodup->ks[i]?=some k->ds[i]?=some d->(ks.zip ds).lookup k=some d
 | [],ds,i,k,d,e,c,f=>by simp at c|a::ks,[],i,k,d,e,c,f=>by simp at f| a::ks,b::ds,0,k,d,e,c,f=>by cases c;cases f;rw[List.zip_cons_cons,lookup_cons,beq_self_eq_true]| a::ks,b::ds,i+1,k,d,e,c,f=>by
  have g:=mem_of_getElem? (by simpa using c);rw[nodup_cons]at e;have:(k==a)=false:=by rw[beq_eq_false_iff_ne];intro z;exact e.1 (z▸g)
  rw[List.zip_cons_cons,lookup_cons,this];exact zhl e.2 (by simpa using c) (by simpa using f)
theorem zo0(a:ks.Nodup)(d:ds.length=ks.length)(P:PlcG Lt3 ks p):srtD ds ks=p.map fun i=>ds.getD i .non:=by
 have e:=zcm ((zjW default P.perm).trans (zb4 ks).symm) P.asc (zbS a);unfold srtD;rw[<-e,map_map];refine List.map_congr_left fun i b=>?_;have h:=P.lt' i b;have c:i<ds.length:=by lia
 show((ks.zip ds).lookup (ks.getD i default)).getD .non=_;rw[zhl a (getD_mem default h) (getD_mem D.non c)];rfl
theorem RVs.at_:∀{ds:List D}{vs:List V}{i:Nat}{d:D}{v:V},RVs K ι H ds vs->ds[i]?=some d->vs[i]?=some v->RV K ι H d v
 |d::ds,_,0,_,_,⟨v,vs,rfl,c,e⟩,a,b=>by cases a;cases b;exact c|d::ds,_,i+1,_,_,⟨v,vs,rfl,c,e⟩,a,b=>RVs.at_ e (by simpa using a) (by simpa using b)
end
theorem RVs.ofGet{K}:∀{ds:List D}{vs:List V},ds.length=vs.length->(∀(i:Nat) d v,ds[i]?=some d->vs[i]?=some v->RV K c H d v)->RVs K c H ds vs
 | [],[],_,_=>rfl| [],_::_,h,_=>by simp at h|_::_,[],h,_=>by simp at h|d::ds,v::vs,h,f=>⟨v,vs,rfl,f 0 d v rfl rfl,RVs.ofGet (by simpa using h) fun i a b e g=>f (i+1) a b (by simpa using e) (by simpa using g)⟩
theorem RH.add{K}(h:RH K c H S)(x:Ext c H (c++[p]) d)(e:∀a∈c,d a=H a)(i:p∉c)(j:RO K (c++[p]) d p o):RH K (c++[p]) d (S.push o):=by
 refine⟨by rw[length_append,h.len,zb7];rfl,?_,fun l t q=>?_,x.kp.tab h.tab⟩;rw[nodup_append];refine⟨h.nd,by simp,fun a k b g=>?_⟩;simp at g;subst g;exact fun z=>i (z▸k);by_cases m:l<S.len;rw[zco m]at q;obtain⟨a,n,r,s⟩:=h.mem q;exact⟨a,zbV (prefix_append _ _) n,r.stay x (e a s)⟩;have f:=get_lt q;rw[zb7]at f;have:l=S.len:=by lia
 subst this;rw[zfb]at q;cases q;exact⟨p,by rw[<-h.len];simp,j⟩
section
variable{T:Tab}{cf:CF}{k:Nat}{N:List Str}{sc:Scope}{X:Cx}{pos p kpos:Pos}
theorem zoc(G:Gd T cf k N sc X)(hN:N=T.lam)(hg:Gl X "sorted"/\X.mg "sorted"=none)(he:PE X e (tE X.K cf ca))(A:zai e=true)(r:lamB le=true):
  PE X (.Call (.Name "sorted" p) [e] [⟨some "key",le,kpos⟩] pos) (tE X.K cf (.srtK ca)):=by
 obtain⟨u,body,B,lpos,rfl,L⟩:=zmu r;obtain⟨hk,c,mk⟩:=G.lam hN;have room:=((G.room'.mono (Nat.succ_le_succ hk)).in1).in1;refine PE.imp (zo4 he A hg.1 hg.2 room mk (L.df _) (L.cl _) L.sc (L.bd _) L.kb) fun σ H Qv y=>eX y fun δ ι S Q hs hh w q=>?_;refine tE.run hs hh w.b fun d v m H1 C x1 hs1 f r1 w1=>?_;obtain⟨⟨ds,ks⟩,g,n⟩:=zay w1.b;cases d with
 |ref l=>
  simp only[zer]at g;cases E:C.get l with
  |none=>rw[E]at g;cases g
  |some o=>
   rw[E]at g;cases o with
   |lst I=>
    dsimp only at g;cases em:I.mapM ze5 with
    |none=>rw[em]at g;cases g
    |some ks'=>
     rw[em]at g;cases g;obtain⟨b,i1,rfl⟩:=r1;obtain⟨b',i2,xs,hx,rs⟩:=f.obj l _ E;rw[i1]at i2;cases i2;obtain⟨as,rfl,l1,l2,la⟩:=zke rs em;split at n;rename_i J;unfold lay at n;split at n;refine⟨b,as,ks,rfl,SqL.of hx,l1,J.1,J.2,la,f.tab,fun s H2 p x hD P h2=>?_⟩;have M:=f.fresh hD;have O:Ext m H1 (m++[s]) H2:=⟨prefix_append _ _,x.kp,fun a o h e=>⟨(x.rest a o (by simp) e).1,fun z=>by rcases mem_append.mp z with z|z;exact h z;simp at z;exact zaj e hD z⟩⟩;refine q _ _ ⟨.ref C.len,m++[s],C.push (.lst (srtD ds ks)),x1.trans O,⟨s,f.last s,rfl⟩,f.add O (fun a hm=>?_) M ⟨_,h2,?_⟩,n⟩;obtain⟨o,e,_,_,nt⟩:=f.live hm;rw[e];exact x.keep (by simp) e nt;rw[zo0 J.2 l2 P];refine RVs.ofGet (by simp) fun i d w t U=>?_;rw[getElem?_map]at t;rw[getElem?_map,getElem?_map]at U;cases Y:p[i]? with
     |none=>rw[Y]at t;cases t
     |some j=>rw[Y]at t U;cases t;cases U;have hj:=P.lt' j (mem_of_getElem? Y);have:=RVs.at_ rs (getD_mem D.non (show j<ds.length by lia)) (by rw[getElem?_map,getD_mem 0 (show j<as.length by lia)];rfl);exact(this.ext O)
     exact n.elim;exact n.elim
   |_=>cases g
 |_=>cases g
end
end R
namespace R
open PySem PySem.Spec PyProof.Rows L2
section
variable{X:Cx}{o e f:Expr}{apos cpos:Pos}{td ty tv:TE}
def zqq(td ty tv:TE):TE:=fun c H Q=>td c H fun x g=>∃a,x=.ref a/\IsD g a/\ty c g fun y h=>tv c h fun v d=>∃b k,d a=some (.dK b)/\y=.int k/\(∀u,valV b (.inl k)=some u->Q u d)/\(valV b (.inl k)=none->b.length<sizeLine/\Q v (upd d a (.dK (putK b (.inl k) v))))
theorem zmg(N:PE X o td)(n:PE X e ty)(O:PE X f tv)(m:M2 X o "setdefault" apos e f cpos):PE X (.Call (.Attribute o "setdefault" apos) [e,f] [] cpos) (zqq td ty tv):=by
 intro b s p H Q I h;refine wpAny_Call_method m.base m.few m.line PySem.F.plainAttrs_dict PySem.F.slot_dict_setdefault PySem.F.type_dict_setdefault (thn (N b s p H _ I h) fun u T j=>?_);obtain⟨x,U,B,Y,a,ex,d,q1⟩:=j;subst ex;obtain rfl:u=Value.ref a:=Y;obtain⟨t1,t2,_⟩:=zf7 B d;refine⟨t1,t2,?_⟩;rw[m.trees];refine Calls.callWith_builtin rfl (Calls.evalArgs_plain (Calls.spliced_cons (thn (n b T p U _ B q1) fun iv s2 z'=>eY z' fun y H2 I2 ry q2=>Calls.spliced_cons (thn (O b s2 p H2 _ I2 q2) fun fv s3 zz=>Calls.spliced_nil ?_))));obtain⟨v,C,t,E,g,k,G,ey,q3,q4⟩:=zz;subst ey;obtain⟨z,J,L,c,M⟩:=zpK t.hok G;have hz:L.length<=sizeLine:=by rw[<-c.length];exact z
 refine PySem.call_meetsIn PySem.F.slot_dict_setdefault M.typeIs PySem.F.entry_dict_setdefault (PySem.F.args_dict_setdefault_3 _ _ _) (PySem.kt_meets_setdefault (zat X.prog X.w) a (zg0 (k:=.inl k) ry) J fv) ⟨L,M,hz,fun w hw=>?_,fun hn h' i hs=>?_⟩;have r:=c.val (.inl k);rw[hw]at r;cases l:valV g (.inl k) with|none=>rw[l]at r;exact r.elim|some u=>rw[l]at r;exact⟨u,C,t.tok _,r,q3 u l⟩
 have r:=c.val (.inl k);rw[hn]at r;cases l:valV g (.inl k) with
 |some u=>rw[l]at r;exact r.elim| none=>
  obtain⟨hl,q5⟩:=q4 l;have A:(putK g (.inl k) v).length<=sizeLine:=by have:=zbl g (.inl k) v;omega
  have n:∃q,h'.get? a=some q:=let ⟨q,_,_,hq,_⟩:=i;⟨q,hq⟩;exact⟨v,upd C a (.dK (putK g (.inl k) v)),zdW t (by rw[G];exact True.intro) hs n (zkV A J (c.put (.inl k) E) i),E,q5⟩
end
variable[Mks]
theorem RIs.val{K}(k):∀{kvs:List (Int×D)}{a:List (Key×V)},RIs K b H kvs a->(valI kvs k=none/\valV a (.inl k)=none)\/∃d v,valI kvs k=some d/\valV a (.inl k)=some v/\RV K b H d v
 | [],a,r=>by cases(show a=[] from r);exact .inl ⟨rfl,rfl⟩| (j,d)::kvs,a,r=>by
  obtain⟨v,w,rfl,c,f⟩:=r;by_cases e:j=k;subst e;exact .inr ⟨d,v,by simp[valI],by simp[valV],c⟩;have g:valI ((j,d)::kvs) k=valI kvs k:=by simp[valI,e]
  have h:valV (((Sum.inl j:Key),v)::w) (.inl k)=valV w (.inl k):=by simp[valV,e]
  rw[g,h];exact RIs.val k f
section
variable{T:Tab}{cf:CF}{k:Nat}{N:List Str}{sc:Scope}{X:Cx}{pos p p2 pos':Pos}
theorem zkx(f:RH X.K g H S)(r:RV X.K g H d v)(h:isDi S d=true):∃a,v=.ref a/\IsD H a:=by
 cases d with
 |ref l=>
  obtain⟨p,i,rfl⟩:=r;simp only[isDi]at h;cases e:S.get l with
  |none=>rw[e]at h;cases h
  |some o=>rw[e]at h;obtain⟨b,c,j⟩:=f.obj _ _ e;rw[i]at c;cases c;cases o with|dic m=>obtain⟨_,n,q,_⟩:=j;exact⟨p,rfl,.inl ⟨n,.inl q⟩⟩|_=>cases h
 |_=>cases h
theorem zgl(m:RH X.K d H S)(n:RV X.K d H x q)(r:RV X.K d H y g)(h:zfj S x y=some o):
  ∃l a kvs f c,x=.ref l/\d[l]?=some a/\S.get l=some (.dic kvs)/\q=.ref a/\y=.int c/\(kvs.map (·.1)).Nodup/\H a=some (.dK f)/\RIs X.K d H kvs f/\g=.int c/\o=valI kvs c:=by
 unfold zfj at h;cases x with
 |ref l=>
  obtain⟨p,i,rfl⟩:=n;dsimp only at h;cases e:S.get l with
  |none=>rw[e]at h;cases h
  |some s=>
   rw[e]at h;obtain⟨b,j,t⟩:=m.obj _ _ e;rw[i]at j;cases j;cases s with
   |dic kvs=>obtain⟨u,f,v,w⟩:=t;cases y with| int c=>cases h;obtain rfl:g=.int c:=r;exact⟨l,p,kvs,f,c,rfl,i,e,rfl,rfl,u,v,w,rfl,rfl⟩|_=>cases h
   |_=>cases h
 |_=>cases h
theorem zlA(G:Gd T cf k N sc X)(O:PE X o (tE X.K cf U))(Y:PE X e (tE X.K cf ce))(hx:PE X x (tE X.K cf cx))(g:zai e=true)(b:zai x=true)(h:zaE o=true)(hl:(apos.endLine==cpos.line)=true):
  PE X (.Call (.Attribute o "get" apos) [e,x] [] cpos) (tE X.K cf (.dgetI U ce cx)):=by
 refine PE.imp (zeX (by have:=G.hu;lia) O Y hx ⟨zbg h "get" X.env _,by rw[zah g,zah b];rfl,hl,by rw[zah g,zah b];rfl⟩) fun σ H Qv u=>eX u fun δ ι S Q hs hh w q=>?_;refine tE.run hs hh w.b fun d v ι1 H1 S1 x1 n i C j=>?_;split at j;rename_i c;obtain⟨a,rfl,hD⟩:=zkx i C c;refine⟨a,rfl,hD,?_⟩;rw[zaf]at j;refine tE.run n i j fun y vy ι2 H2 S2 E r s r2 I=>?_;rw[zaf]at I;refine tE.run r s I fun z vz ι3 H3 S3 t hs3 f r3 J=>?_;rw[zaf]at J;obtain⟨o,eo,m⟩:=zay J;obtain⟨l,a',kvs,ws,L,_,_,_,ea,_,nd,ha,rk,rfl,rfl⟩:=zgl f (C.ext (E.trans t)) (r2.ext t) eo;cases ea;refine⟨_,DGet.k (k:=.inl L) ha,?_⟩;have M:=(x1.trans E).trans t;rcases rk.val L with⟨A,B⟩|⟨d',v',A,B,rv⟩;rw[A]at m;rw[B];exact q _ _ (Lf.up M (Lf.of f r3 m));rw[A]at m;rw[B];exact q _ _ (Lf.up M (Lf.of f rv m));exact j.elim
theorem zly(G:Gd T cf k N sc X)(ho:PE X o (tE X.K cf co))(he:PE X e (tE X.K cf ce))(hx:PE X x (tE X.K cf cx))(j:zai e=true)(g:zai x=true)(m:zaE o=true)(hl:(apos.endLine==cpos.line)=true):
  PE X (.Call (.Attribute o "setdefault" apos) [e,x] [] cpos) (tE X.K cf (.dsetI co ce cx)):=by
 refine PE.imp (zmg ho he hx ⟨zbg m "setdefault" X.env _,by rw[zah j,zah g];rfl,hl,by rw[zah j,zah g];rfl⟩) fun σ H Qv z'=>eX z' fun δ ι S Q hs hh w q=>?_;refine tE.run hs hh w.b fun d v ι1 H1 S1 x1 L n r1 A=>?_;split at A;rename_i c;obtain⟨a,rfl,hD⟩:=zkx n r1 c;refine⟨a,rfl,hD,?_⟩;rw[zaf]at A;refine tE.run L n A fun y vy ι2 H2 S2 x2 M O r2 w2=>?_;rw[zaf]at w2;refine tE.run M O w2 fun z vz U H3 B Y hs3 f r3 w3=>?_;rw[zaf]at w3;obtain⟨r,b,w4⟩:=zay w3;have up:=(x1.trans x2).trans Y;unfold zej at b;cases eg:zfj B d y with
 |none=>rw[eg]at b;cases b
 |some og=>
  obtain⟨l,a',s,C,h,rfl,hi,hg,ea,rfl,nd,ha,rk,rfl,rfl⟩:=zgl f (r1.ext (x2.trans Y)) (r2.ext Y) eg;cases ea;rw[eg]at b;have t:∀T,dPut B (.ref l) (.int h) z=some T->s.length<16777216/\B.put l (.dic (putI s h z))=some T:=fun T i=>by unfold dPut at i;dsimp only at i;rw[hg]at i;dsimp only[bind_some]at i;split at i;rename_i c;exact⟨c,i⟩;cases i
  rcases rk.val h with⟨e1,E⟩|⟨d',v',e1,E,rv⟩;rw[e1]at b;cases ep:dPut B (.ref l) (.int h) z with
  |none=>rw[ep]at b;cases b
  |some T'=>
   rw[ep]at b;cases b;obtain⟨c,es⟩:=t _ ep;have I:=Ext.wr f hg hi (.dK (putK C (.inl h) vz));have hz:C.length<sizeLine:=by rw[rk.length];exact c
   exact⟨C,h,ha,rfl,fun u J=>absurd (E.symm.trans J) (fun z=>by cases z),fun _=>⟨hz,(q _ _ ⟨z,U,T',up.trans I,r3.ext I,f.wr hg hi es ⟨ziB nd,_,zag,(rk.put h r3 nd).up I.pre I.kp⟩,w4⟩)⟩⟩
  rw[e1]at b;cases b;refine⟨C,h,ha,rfl,fun u J=>?_,fun hn=>absurd (E.symm.trans hn) (fun z=>by cases z)⟩;rw[E]at J;cases J;exact q _ _ (Lf.up up (Lf.of f rv w4))
 exact A.elim
end
section
variable{T:Tab}{cf:CF}{k:Nat}{N:List Str}{sc:Scope}{X:Cx}{pos p:Pos}
theorem zdQ(h:zbG S d=some (c,a)):∃l,d=.ref l/\S.get l=some (.ins c a):=by
 cases d with
 |ref l=>
  refine⟨l,rfl,?_⟩;unfold zbG at h;dsimp only at h;cases e:S.get l with
  |none=>rw[e]at h;cases h
  |some o=>rw[e]at h;cases o with|ins f b=>cases h;rfl|_=>cases h
 |_=>cases h
theorem ne_of{b:Type}[BEq b]{xs:List b}{a:b}(h:xs.contains a=true):xs≠[]:=fun e=>by rw[e]at h;simp at h
theorem Gd.clsAt(G:Gd T cf k N sc X)(d:T.flds≠[]\/T.inits≠[]\/T.isas≠[]){c:Nat}(h:Mks.cl[c]?=some C):∃x,T.cls[c]?=some x/\Cls X.K C/\X.mg x=some (.ref C)/\∀f,T.flds.contains f=true->NoAttr X.K C f:=by have a:=lt_of_lt_of_le (List.getElem?_eq_some_iff.mp h).1 (G.tab.cln d);obtain⟨j,b,e,g,i⟩:=G.tab.cls c T.cls[c] (getElem?_eq_getElem a);rw[h]at b;cases b;exact⟨_,getElem?_eq_getElem a,e,g,i⟩
theorem zqS(G:Gd T cf k N sc X)(o:PE X a (tE X.K cf r))(g:zaE a=true)(m:T.flds.contains f=true):PE X (.Attribute a f pos) (tE X.K cf (.fld r f)):=by
 refine PE.imp (zrw o (zbg g f X.env _)) fun σ H Qv z=>eX z fun δ ι S Q s t w q=>?_;refine tE.run s t w.b fun d v x H1 y A B h E I=>?_;obtain⟨u,e,J⟩:=zay I;cases j:zbG y d with
 |none=>rw[j]at e;cases e
 |some L=>obtain⟨c,M⟩:=L;rw[j]at e;have e:M.lookup f=some u:=e;obtain⟨l,rfl,O⟩:=zdQ j;obtain⟨b,U,rfl⟩:=E;obtain⟨b',n,C,Y,ws,hC,hb,rf⟩:=h.obj l _ O;rw[U]at n;cases n;obtain⟨_,_,cl,_,na⟩:=G.clsAt (.inl (ne_of m)) hC;rcases rf.look f with⟨i,_⟩|⟨d',v',i,e2,rv⟩;rw[e]at i;cases i;rw[e]at i;cases i;exact⟨b,C,Y,ws,v',rfl,hb,cl,na f m,e2,q _ _ (Lf.up A (Lf.of h rv J))⟩
theorem zcA(c:attributeBase o name env (eval o env)=eval o env)(i:((backTo pos (starEach args env)).all (fun x=>!x.1)&&(backToKw pos (keywordEach [] env)).all (fun x=>x.1.isSome)
   && decide (args.length+([]:List Keyword).length+(if([]:List Keyword).isEmpty then 0 else 1)<30))=true)(d:(apos.endLine==pos.line)=true)(h:wpAny (model prog w) A (eval o env) (fun q a=>∀r,wpAny (model prog w) A (getMethod q name r) (fun n b=>wpAny (model prog w) A (callWith pos n.1 n.2 (backTo pos (starEach args env)) (backToKw pos (keywordEach [] env))) Q E b) E a) E s):
  wpAny (model prog w) A (eval (.Call (.Attribute o name apos) args [] pos) env) Q E s:=by
 rw[arm_eval_Call,c];refine wpAny_bind (wpAny_mono h (fun q a j=>?_) fun _ _ e=>e);refine wpAny_bind (wpAny_standAt ?_);have g:methodCallForm (args.length+([]:List Keyword).length) (backTo pos (starEach args env)) (backToKw pos (keywordEach [] env))=true:=i;have l:methodCallPos true o env apos pos=pure pos:=by unfold methodCallPos;simp[d]
 unfold methodCall;rw[g];refine wpAny_bind (wpAny_holding (wpAny_mono (j _) (fun n b m=>?_) fun _ _ e=>e));exact wpAny_bind (wpAny_of_eq l m)
def zjl(X:Cx)(k:Nat)(m:Str)(i:TE)(t:TA):TE:=fun b H Q=>i b H fun x c=>∃(a C j:Addr) (d:List (Str×V)) (e:Addr) (f:FuncData) (g:List Str) (h:Sp),x=.ref a/\c a=some (.ins C j d)/\Cls X.K C/\Meth X.K C m e/\
 FnOk X.prog X.w X.K X.mg X.base CX0 k e f g h/\Binds X.K f g []/\d.lookup m=none/\t b c fun l n=>h (x::l) n Q E0
theorem zma(A:PE X o B)(E:Room k X.A)(G:PA X (e::es) t)(d:attributeBase o m X.env (eval o X.env)=eval o X.env)(g:((backTo pos (starEach (e::es) X.env)).all (fun x=>!x.1)&&(backToKw pos (keywordEach [] X.env)).all (fun x=>x.1.isSome)
   && decide ((e::es).length+([]:List Keyword).length+(if([]:List Keyword).isEmpty then 0 else 1)<30))=true)(f:(apos.endLine==pos.line)=true)(i:starEach (e::es) X.env=(false,eval e X.env)::starEach es X.env)(j:(backTo pos (starEach es X.env)).any (·.1)=false):
  PE X (.Call (.Attribute o m apos) (e::es) [] pos) (zjl X k m B t):=by
 intro b s n H Q I h;refine zcA d g f (thn (A b s n H _ I h) fun u J p pl=>?_);obtain⟨x,L,v,M,a,C,dx,fs,fa,fd,ps,sp,O,U,c,w,F,Y,l,q⟩:=p;subst O;obtain rfl:u=Value.ref a:=M;refine zc2 v U c w l ?_;refine callWith_K (first:=[.ref a]) (h₀:=X.base) I.ok.mod.kin w.kp (thn (G pos b J n L _ v q) fun us s2 z=>eY z fun vs H2 y r q2=>⟨y.kIn,?_⟩) i j;exact zfy (us:=.ref a::us) (vs:=.ref a::vs) F E Y .nil zgQ y (.cons rfl r) (by rw[append_nil];exact q2)
theorem zfT(i:PE X o j)(n:Room k X.A)(b:attributeBase o m X.env (eval o X.env)=eval o X.env)(d:(apos.endLine==pos.line)=true):
  PE X (.Call (.Attribute o m apos) [] [] pos) (zjl X k m j tNil):=by
 intro e s r H Q I h;refine zcA b rfl d (thn (i e s r H _ I h) fun u z p O=>?_);obtain⟨x,A,f,t,a,C,B,E,G,J,L,M,v,w,c,g,F,y,l,q⟩:=p;subst v;obtain rfl:u=Value.ref a:=t;refine zc2 f w c g l ?_;exact callWith_K0 (first:=[.ref a]) f.kIn g.kp (zfy (us:=[.ref a]) (vs:=[.ref a]) F n y .nil zgQ f (.cons rfl .nil) (by rw[append_nil];exact q))
noncomputable def mtB(T:Tab)(m:Str)(a:List (Nat×Nat)):Bool:=a.all fun p=>T.mts.contains (p.1,m,p.2)
theorem zcX{a:List (Nat×Nat)}(h:a.lookup c=some f):(c,f)∈a:=by
 induction a with
 |nil=>cases h
 |cons p r b=>simp only[List.lookup]at h;split at h;rename_i e;cases h;have:=eq_of_beq e;subst this;simp;exact mem_cons_of_mem _ (b h)
theorem zhO(G:Gd T cf k N sc X)(Y:mtB T m tb=true)(ht:∀{i:L2.St}{H:Hp}{I:List V->Hp->Prop},tAs X.K cf n i H I->t i H I)(h:tE X.K cf (.meth m tb co n) i H Qv):zjl X k m (tE X.K cf co) t i H Qv:=by
 obtain⟨δ,ι,S,Q,hs,hh,w,q⟩:=h;refine tE.run hs hh w.b fun d v ι1 H1 S1 x1 o a J w1=>?_;obtain⟨pr,ei,w2⟩:=zay w1.b;obtain⟨c,fs⟩:=pr;obtain⟨f,ef,j⟩:=zay w2.b;split at j;rename_i s;rw[zaf]at j;obtain⟨l,rfl,hl⟩:=zdQ ei;have u:=J;obtain⟨b,i1,rfl⟩:=J;obtain⟨b',L,C,dx,M,hC,hb,rf⟩:=a.obj l _ hl;rw[i1]at L;cases L;have y:=all_eq_true.mp Y (c,f) (zcX ef);obtain⟨C',fa,fd,ps,g,cl,me,F,bi⟩:=(G.tab.mth c m f y).ex;rw[hC]at g;cases g;have z:M.lookup m=none:=by rcases rf.look m with⟨_,e2⟩|⟨d',v',e1,_,_⟩;exact e2;rw[e1]at s;cases s
 refine⟨b,C,dx,M,fa,fd,ps,_,rfl,hb,cl,me,F,bi,z,ht ?_⟩;refine tAs.run o a j fun ds vs A H2 S2 O hs2 B r2 U=>?_;unfold appW at U;refine⟨A,S2,.ref l::ds,⟨.ref b,vs,rfl,u.ext O,r2⟩,B,?_⟩;obtain⟨d,T',e,w5⟩:=zfn U;rw[e];exact fun v H' E x r hT=>q v H' (Lf.up (x1.trans O) ⟨d,E,T',x,r,hT,w5⟩);exact j.elim
theorem zoe(G:Gd T cf k N sc X)(d:mtB T m f=true)(g:PE X o (tE X.K cf i))(j:PA X (e::es) (tAs X.K cf c))(a:(e::es).all zai=true)(b:zaE o=true)(l:(apos.endLine==pos.line)=true)(u:(e::es).length<29):
  PE X (.Call (.Attribute o m apos) (e::es) [] pos) (tE X.K cf (.meth m f i c)):=by
 have n:=a;rw[all_cons,and_eq_true]at a;refine PE.imp (zma g G.room j (zbg b m X.env _) ?_ l (zah a.1 es X.env) (zaz a.2)) fun v H w h=>zhO G d (fun z=>z) h;have q:=zaz (pos:=pos) (env:=X.env) n;have r:(backTo pos (starEach (e::es) X.env)).all (fun x=>!x.1)=true:=by rw[all_eq_true];intro x s;have:=List.any_eq_false.mp q x s;simpa using this
 have t:decide ((e::es).length+([]:List Keyword).length+(if([]:List Keyword).isEmpty then 0 else 1)<30)=true:=by rw[decide_eq_true_eq];show(e::es).length+0+0<30;lia
 rw[r,t];rfl
theorem zhM(b:a=.nil)(h:tAs X.K cf a c H d):tNil c H d:=by subst b;obtain⟨g,e,S,Q,i,f,w,q⟩:=h;exact q [] H ⟨[],e,S,Ext.refl _ _,rfl,f,by simpa[evEs]using w⟩
theorem zlw(G:Gd T cf k N sc X)(b:mtB T m c=true)(d:PE X o (tE X.K cf e))(a:zaE o=true)(f:(apos.endLine==pos.line)=true):
  PE X (.Call (.Attribute o m apos) [] [] pos) (tE X.K cf (.meth m c e .nil)):=
 PE.imp (zfT d G.room (zbg a m X.env _) f) fun g H i h=>zhO G b (fun z=>zhM rfl z) h
theorem Vals.nons:∀j:Nat,Vals (List.replicate j .non) (List.replicate j Value.none)
 |0=>.nil|j+1=>.cons rfl (Vals.nons j)
theorem zhR(G:Gd T cf k N sc X)(U:Mks.cl[c]?=some C)(Y:∀{n:L2.St}{H:Hp}{J:List V->Hp->Prop},tAs X.K cf s n H J->t n H J)(h:tE X.K cf (.mk c f x j s) n H Qv):znW C (spF X.K cf f) (List.replicate j V.non) E0 t n H Qv:=by
 obtain⟨δ,ι,S,Q,hs,hh,w,q⟩:=h;refine Y (tAs.run hs hh w.b fun ds vs a i u x1 hs1 z r1 o=>?_);intro y g hy l A;have b:=z.new l (.own y);have L:Ext a i a (upd i g (.own y)):=Ext.new l _;have m:(upd i g (.own y)) y=none:=by rw[zae (Ne.symm A)];exact hy
 have B:=b.obj' m (.ins C g []) (.ins c []) ⟨C,g,[],U,zag,rfl⟩;have M:Ext a (upd i g (.own y)) (a++[y]) (upd (upd i g (.own y)) y (.ins C g [])):=Ext.obj b m _;replace o:=o.b;unfold appW at o;obtain⟨d,T',e,E⟩:=zfn o;refine⟨a++[y],u.push (.ins c []),.ref u.len::(ds++List.replicate j .non),⟨.ref y,_,rfl,⟨y,b.last y,rfl⟩,RVs.append ((r1.ext L).ext M) (RVs.nons j)⟩,B,?_⟩;rw[e];intro v H' I O r hT;split at E;rename_i hn;cases d with| non=>refine⟨r,q _ _ ⟨.ref u.len,I,T',((x1.trans L).trans M).trans O,⟨y,zbV O.pre (b.last y),rfl⟩,hT,E⟩⟩|_=>cases hn
 exact E.elim
theorem zsT(G:Gd T cf k N sc X)(hi:T.inits.contains (c,f,j)=true)(i:T.cls[c]?=some x)(l:isGl sc x=true)(hd:(x==("__debug__":Str))=false)(m:PA X (e::es) (tAs X.K cf b))(a:(e::es).all zai=true):
  PE X (.Call (.Name x p) (e::es) [] pos) (tE X.K cf (.mk c f x j b)):=by
 obtain⟨C,q,r,s,d,M,F,n⟩:=(G.tab.ini c f j hi).ex;obtain⟨t,g,_,o,_⟩:=G.clsAt (.inr (.inl (ne_of hi))) d;rw[i]at g;cases g;rw[all_cons,and_eq_true]at a;exact PE.imp (zo5 M F G.room' (G.gl l) o n (Vals.nons j) zgQ m hd (zah a.1 es X.env) (zaz a.2)) fun u H v h=>zhR G d (fun z=>z) h
theorem zqO(G:Gd T cf k N sc X)(hi:T.inits.contains (c,f,j)=true)(d:T.cls[c]?=some x)(e:isGl sc x=true)(hd:(x==("__debug__":Str))=false):
  PE X (.Call (.Name x p) [] [] pos) (tE X.K cf (.mk c f x j .nil)):=by
 obtain⟨C,l,m,n,a,M,F,g⟩:=(G.tab.ini c f j hi).ex;obtain⟨o,b,_,i,_⟩:=G.clsAt (.inr (.inl (ne_of hi))) a;rw[d]at b;cases b;exact PE.imp (zmc M F G.room' (G.gl e) i g (Vals.nons j) zgQ hd) fun q H r h=>zhR G a (fun z=>zhM rfl z) h
theorem zkK(hs:(e::es).all zai=true)(f:(e::es).length<29):((backTo pos (starEach (e::es) env)).all (fun x=>!x.1)&&(backToKw pos (keywordEach [] env)).all (fun x=>x.1.isSome)
  && decide ((e::es).length+([]:List Keyword).length+(if([]:List Keyword).isEmpty then 0 else 1)<30))=true:=by
 have a:=zaz (pos:=pos) (env:=env) hs;have b:(backTo pos (starEach (e::es) env)).all (fun x=>!x.1)=true:=by rw[all_eq_true];intro x c;have:=List.any_eq_false.mp a x c;simpa using this
 have d:decide ((e::es).length+([]:List Keyword).length+(if([]:List Keyword).isEmpty then 0 else 1)<30)=true:=by rw[decide_eq_true_eq];show(e::es).length+0+0<30;lia
 rw[b,d];rfl
theorem zmk(Hs:HasC X.prog X.w X.K X.mg X.base k x m sp)(o:Room k X.A)(w:PA X (e::es) t)(y:Gl X x)(g:(x==("__debug__":Str))=false)(c:attributeBase (.Name x p) m X.env (eval (.Name x p) X.env)=eval (.Name x p) X.env)(f:(e::es).all zai=true)(A:(e::es).length<29)(d:(apos.endLine==pos.line)=true):
  PE X (.Call (.Attribute (.Name x p) m apos) (e::es) [] pos) (zeM sp [] E0 t):=by
 obtain⟨C,fa,fd,ps,mc,B,E,G,J,L,F,M⟩:=Hs.ex;have a:=f;rw[all_cons,and_eq_true]at a;intro b s i H Q I h;refine zcA c (zkK f A) d (thn (zdI (v:=.ref C) y B rfl g b s i H (fun v j=>v=.ref C/\zeM sp [] E0 t i j Q) I ⟨rfl,h⟩) fun u s1 z' pl=>?_);obtain⟨xv,j,l,O,U,q⟩:=z';subst U;obtain rfl:u=Value.ref C:=O;refine PySem.W.method_cls l.kIn E (PySem.W.cls_value l.kIn G J rfl ?_);refine callWith_K (first:=[]) (h₀:=X.base) I.ok.mod.kin L (thn (w pos b _ i j _ (l.tok _) q) fun us s2 z=>eY z fun vs H2 n r Y=>⟨n.kIn,?_⟩) (zah a.1 es X.env) (zaz a.2);exact zfy (us:=us) (vs:=vs) F o M .nil zgQ n r Y
theorem ziX(h:tE X.K cf (.callC f x m a) j H l):zeM (spF X.K cf f) [] E0 (tAs X.K cf a) j H l:=by obtain⟨G,I,S,Q,n,o,w,q⟩:=h;refine tAs.run n o w.b fun s J b L t u y c z i=>?_;unfold appW at i;rw[append_nil];refine⟨b,t,s,z,c,?_⟩;obtain⟨d,A,e,B⟩:=zfn i;rw[e];exact fun v C g x r E=>q v C (Lf.up u ⟨d,g,A,x,r,E,B⟩)
theorem zlE(G:Gd T cf k N sc X)(d:T.cms.contains (x,m,f)=true)(g:isGl sc x=true)(hd:(x==("__debug__":Str))=false)(a:zaE (.Name x p)=true)(i:PA X (e::es) (tAs X.K cf b))(c:(e::es).all zai=true)(j:(e::es).length<29)(l:(apos.endLine==pos.line)=true):
  PE X (.Call (.Attribute (.Name x p) m apos) (e::es) [] pos) (tE X.K cf (.callC f x m b)):=
 PE.imp (zmk (G.tab.cmd x m f d) G.room i (G.gl g) hd (zbg a m X.env _) c j l) fun n H o h=>ziX h
end
def LfS(X:Cx)(k:List Addr)(H:Hp)(Q:Fl->R.St->Prop)(E:Ends):Prop:=∀f b c j,Ext k H b c->RH X.K b c j->Q f j->(match f with|.nx h=>∀e,RS X.K b c h e->E.nx e c|.rt d=>∀v,RV X.K b c d v->E.rt v c|.ex d=>∀a e g i,RV X.K b c d (.ref a)->Inv X g e c i->Fly X.s₀.heap.objs.size c i.heap a->X.xe (.ref a) i)
def tS(X:Cx)(cf:CF)(c:CS):TS:=fun E d H=>∃b a S Q,RS X.K a H b d/\RH X.K a H S/\W (exS cf c b S) Q/\LfS X a H Q E
theorem LfS.up(h:LfS X c H Q E)(x:Ext c H a d):LfS X a d Q E:=fun f b e g i j q=>h f b e g (x.trans i) j q
theorem PS.imp{st}(h:PS X st t)(i:∀E a H,t' E a H->t E a H):PS X st t':=fun b s a H E I q=>h b s a H E I (i E a H q)
theorem PSs.imp{st}(h:PSs X st t)(i:∀E a H,t' E a H->t E a H):PSs X st t':=fun b s a H E I q=>h b s a H E I (i E a H q)
section
variable{T:Tab}{cf:CF}{k:Nat}{N:List Str}{sc:Scope}{X:Cx}{pos p:Pos}{rest:List Stmt}
theorem zqz:PSs X [] (tS X cf .nil):=PSs.imp zdG fun E a H z=>eX z fun e b S Q c d w l=>l _ b H S (Ext.refl _ _) d w a c
theorem zqC(G:Gd T cf k N sc X)(hi:N[i]?=some x)(f:zdh sc x=true)(g:PE X e (tE X.K cf h))(j:zbj e=true)(m:PSs X rest (tS X cf r)):
  PSs X (.Assign [.Name x p] e pos::rest) (tS X cf (.asg i h r)):=by
 refine PSs.imp (zaC (zfR (by rw[G.nm];exact G.nd) (by rw[G.nm];exact hi) (G.lc f).1 g (zbR j _ _ _) (G.lc f).2) m) fun E A H z=>eX z fun n B S Q o q w l=>?_;exact tE.run o q w.b fun d v a C s t b c u y=>⟨n.set i (some d),a,s,Q,b.set u i,c,y,l.up t⟩
theorem zn4(G:Gd T cf k N sc X)(hi:N[i]?=some x)(a:∃t,PS X (.Assign [.Name x p] e pos) (tAsg t (zfd i))/\∀b H h,tE X.K cf j b H h->t b H h)(m:PSs X rest (tS X cf r)):
  PSs X (.Assign [.Name x p] e pos::rest) (tS X cf (.asg i j r)):=by
 obtain⟨t,n,o⟩:=a;refine PSs.imp (zaC n m) fun E b H z=>eX z fun q I S Q s u w l=>?_;exact o _ _ _ (tE.run s u w.b fun d v c J y A f g B C=>⟨q.set i (some d),c,y,Q,f.set B i,g,C,l.up A⟩)
theorem zn2(f:PE X e (tE X.K cf g))(h:zbj e=true)(i:PSs X rest (tS X cf r)):PSs X (.Expr e pos::rest) (tS X cf (.expr g r)):=by refine PSs.imp (zaC (zdH f (zbR h _ _ _)) i) fun E t H z=>eX z fun j u S Q m n w l=>?_;exact tE.run m n w.b fun d v a x o q b c y s=>⟨j,a,o,Q,b,c,s,l.up q⟩
theorem zqy(b:PE X e (tE X.K cf c))(f:PSs X rest (tS X cf r)):PSs X (.Return (some e) pos::rest) (tS X cf (.ret c r)):=by refine PSs.imp (zaC (zjP b) f) fun E q H z=>eX z fun s t S Q g h w l=>?_;exact tE.run g h w.b fun d v i u x j m a n o=>(l _ _ _ _ j a o v n)
theorem zsR(B:PT X c (tT X.K cf C))(G:PSs X a (tS X cf I))(J:PSs X b (tS X cf L))(M:PSs X rest (tS X cf r)):PSs X (.If c a b pos::rest) (tS X cf (.ifS C I L r)):=by
 refine PSs.imp (zaC (zoU B G J) M) fun E σ H y=>eX y fun u ι S Q O U w l=>?_;change W (Out.bind _ _) _ at w;simp only[zaf] at w;refine tT.run O U w fun z e Y x n i j A=>?_;have fin:LfS X e Y (fun f m=>W (match f with|.nx g=>exS cf r g m|.rt d=>.ok (.rt d) m|.ex d=>.ok (.ex d) m) Q) {E with nx:=tS X cf r E}:=by intro f o H2 m s h q;cases f with|nx g=>exact fun σ' t=>⟨g,o,m,Q,t,h,q,(l.up n).up s⟩|rt d=>exact fun v rv=>(l.up n) _ _ _ _ s h q v rv|ex d=>exact(l.up n) _ _ _ _ s h q
 cases z with|true=>exact⟨u,e,x,_,i,j,A,fin⟩|false=>exact⟨u,e,x,_,i,j,A,fin⟩
def FInv(K:PySem.W.Frag)(cf:CF)(g:List Nat)(b:CS)(n:Fl->R.St->Prop)(ds:List D)(a:List Nat)(j:List Addr)(o:Hp)(e:R.St)(i:Nat)(l:L2.St)(m:Hp):Prop:=i<=ds.length/\∃c d h,RS K d m c l/\Ltr K j o e a d m h/\h.lk=a++e.lk/\e.len<=h.len/\W (zaP g (exS cf b) (ds.drop i) c h) fun f q=>n f {q with lk:=e.lk}
theorem zqA(G:Gd T cf k N sc X)(hi:PI X tg g (tI X.K cf it))(hg:PG X tg (tG X.K is))(hb:PSs X B (tS X cf Y))(C:za2 g=true)(hr:PSs X rest (tS X cf r)):
  PSs X (.For tg g B [] pos::rest) (tS X cf (.forS is it Y r)):=by
 have hp:=G.xe;refine PSs.imp (zaC (znm hp G.calm hi hg hb (zg4 C X.env)) hr) fun E σ H y=>eX y fun δ ι S Q hs hh w l=>?_;refine⟨δ,ι,S,_,hs,hh,w.b,fun J H1 y=>eX y fun ds b j n x1 hh1 o wk=>?_⟩;replace o:=o.b;unfold za8 at o;rw[zaf]at o;refine⟨fun i m I L=>m=ds.length-i/\FInv X.K cf is Y (fun f S2=>W (match f with|.nx c=>exS cf r c S2|.rt d=>.ok (.rt d) S2|.ex d=>.ok (.ex d) S2) Q) ds b j H1 n i I L,⟨_,rfl,zero_le _,δ,j,{n with lk:=b++n.lk},hs.ext x1,⟨Ext.refl _ _,hh1.lk _,fun l _=>rfl⟩,rfl,le_refl _,o⟩,?_⟩;rintro i m I L ⟨rfl,hle,c,a,A,M,q,O,U,e⟩;have l1:=l.up (x1.trans q.ext);rcases Nat.lt_or_eq_of_le hle with s|rfl;refine .inr ⟨wk.go i a L A q s,FInv X.K cf is Y _ ds b j H1 n (i+1),fun σ2 H2 h=>⟨_,by omega,rfl,h⟩,fun x H2 hy=>?_⟩;obtain⟨x2,hh2,d,hd,rd⟩:=wk.yld i a L A x H2 q s hy;rw[zgj hd]at e;simp only[zaP]at e;cases ea:asgG is d c with|none=>rw[ea]at e;exact e.elim| some t=>rw[ea]at e;rw[zaf]at e;refine⟨c,a,d,t,M.ext x2,rd,ea,fun σ2 hs3=>⟨t,a,A,_,hs3,hh2,zcI G.tab.frm Y t A _ e,?_⟩⟩;rintro f ι3 H3 S3 x3 u ⟨w3,f3⟩;have k1:=f3.lk.trans O;have k3:∀l∈b,S3.get l=n.get l:=fun l hl=>(f3.same l (by rw[O];exact mem_append_left _ hl) (lt_of_lt_of_le (wk.lks l hl) U)).trans (q.lck l hl);cases f with|nx δ3=>exact fun σ3 hs4=>⟨s,δ3,ι3,S3,hs4,⟨(q.ext.trans x2).trans x3,u,k3⟩,k1,le_trans U f3.lens,w3⟩|rt z=>exact fun v rv=>l1 _ _ _ _ (x2.trans x3) (u.lk _) w3 v rv|ex z=>exact l1 _ _ _ _ (x2.trans x3) (u.lk _) w3
 refine .inl ⟨wk.stop _ a L A q (le_refl _),?_⟩;rw[List.drop_length]at e;exact⟨c,a,{A with lk:=n.lk},Q,M,q.rh.lk _,e,l1⟩
theorem zn0(G:Gd T cf k N sc X)(A:T.flds.contains f=true)(U:PE X a (tE X.K cf Y))(he:PE X e (tE X.K cf ce))(hc:zbj e=true)(hr:PSs X rest (tS X cf r)):
  PSs X (.Assign [.Attribute a f p] e pos::rest) (tS X cf (.setF Y f ce r)):=by
 refine PSs.imp (zaC (znn U he (zbR hc _ _ _)) hr) fun E σ H z=>eX z fun δ ι S Q hs hh w l=>?_;refine tE.run hs hh w.b fun d v ι1 H1 S1 x1 o q r1 w1=>?_;refine tE.run o q w1.b fun x vx s H2 B I t h r2 m=>?_;cases g:za1 B x f d with
 |none=>rw[g]at m;exact m.elim| some S3=>
  rw[g]at m;unfold za1 at g;cases x with
  |ref i=>
   obtain⟨b,u,rfl⟩:=r2;dsimp only at g;cases j:B.get i with
   |none=>rw[j]at g;cases g
   |some ob=>
    rw[j]at g;cases ob with
    |ins c fs=>obtain⟨b',J,C,y,L,M,hb,O⟩:=h.obj _ _ j;rw[u]at J;cases J;dsimp only at g;split at g;rename_i c2;obtain⟨_,_,cl,_,na⟩:=G.clsAt (.inl (ne_of A)) M;have rv:=r1.ext I;have n:=Ext.wr h j u (.ins C y (putF f v L));refine⟨b,C,y,L,rfl,hb,cl,na f A,by rw[O.length];exact c2,δ,s,S3,Q,t.ext n,h.wr j u g ⟨C,y,_,M,zag,(O.put f rv).up n.pre n.kp⟩,m,l.up ((x1.trans I).trans n)⟩;cases g
    |_=>cases g
  |_=>cases g
end
theorem zhc{K:PySem.W.Frag}{id}(h:wpAny M A (spliced (backTo pos (starEach (e::rest) env))) (fun vs a=>K.In a.heap/\wpAny M A (call (.builtin id) ([]++vs)) Q E a) E s)(b:starEach (e::rest) env=(false,eval e env)::starEach rest env)(c:(backTo pos (starEach rest env)).any (·.1)=false):
  wpAny M A (callWith pos (.builtin id) [] (backTo pos (starEach (e::rest) env)) []) Q E s:=by
 rw[b]at h⊢;refine PySem.W.callWith_of (by show((false||(backTo pos (starEach rest env)).any (·.1))||false)=false;rw[c];rfl) (fun _ _=>⟨.machine,.inr (.inl rfl),.now⟩) (Calls.evalArgs_plain h)
section
variable{X:Cx}{xR y f:Str}{fI:Addr}
theorem zo6(u:XUp X.K X.mg xR)(n:Gl X xR)(g:(xR==("__debug__":Str))=false)(o:X.N[0]?=some ("self":Str))(hv:Vis X.env.scope "self")(p:(p2.endLine==p5.line)=true):
  PE X (.Call (.Attribute (.Name xR p1) "__init__" p2) [.Name "self" p3,.Constant (.str b) j p4] [] p5) (fun c H Q=>∃e C,c[0]?=some (some (.ref e))/\H e=some (XN e C)/\excJ X.K C fI=true/\Q .non H):=by
 obtain⟨CR,t,w,x,A⟩:=u.ex;intro a s c H Q I z;obtain⟨e,C,B,E,G,q⟩:=z;refine zcA (zbg rfl _ _ _) (zkK rfl (by show 2<29;decide)) p (thn (zdI (v:=.ref CR) n t rfl g a s c H (fun v d=>v=.ref CR/\d=H) I ⟨rfl,rfl⟩) fun u U y pl=>?_);obtain⟨Y,d,h,J,L,i⟩:=y;subst L i;obtain rfl:u=Value.ref CR:=J;refine PySem.W.method_cls h.kIn w (PySem.W.cls_value h.kIn x A rfl ?_);refine zhc (K:=X.K) (thn ((show PA X [.Name "self" p3,.Constant (.str b) j p4] _ from zaI (zcj o hv) (zaI zeq zbM)) p5 a _ c d (fun l k=>l=[V.ref e,V.str b]/\k=d) (h.tok _) ⟨_,B,rfl,rfl⟩) fun us s2 ⟨l,k,m,r,M,i⟩=>⟨m.kIn,?_⟩) rfl rfl;subst M i;obtain⟨N,u2,rfl,O,r2⟩:=zln r;obtain rfl:N=Value.ref e:=O;exact zpA m G E fun s' T=>⟨.non,k,T,rfl,q⟩
theorem zl3(l:X.N[0]?=some ("self":Str))(m:X.N[1]?=some y)(n:Vis X.env.scope "self")(v1:Vis X.env.scope y)(h:(y==("__debug__":Str))=false/\(y==("__classdict__":Str))=false):
  PS X (.Assign [.Attribute (.Name "self" p7) f p8] (.Name y p9) p10) (fun D b H=>∃e C v,b[0]?=some (some (.ref e))/\b[1]?=some (some v)/\H e=some (XN e C)/\Xc X.K C fI f/\∀c od,H c=none->c≠e->D.nx b (upd (upd H c (.frz od (.xd [(f,v)]))) e (XD e C c))):=by
 intro a s b H D I j;obtain⟨e,C,v,o,p,r,t,q⟩:=j;refine plainObj_wpAny_Assign_Attribute (thn ((show PE X (.Name y p9) _ from zcj m v1 h.1 h.2) a s b H (fun u d=>u=v/\d=H) I ⟨v,p,rfl,rfl⟩) fun u w ⟨z,d,A,B,E,G⟩=>thn ((show PE X (.Name "self" p7) _ from zcj l n) a w b d (fun u i=>u=.ref e/\i=d) A ⟨_,o,rfl,rfl⟩) fun J U k=>?_) rfl;obtain⟨x,i,L,M,N,g⟩:=k;subst E G N g;obtain rfl:J=Value.ref e:=M;exact zpV L t r B fun c od Y O Q T=>⟨b,_,T,q c od O Q⟩
end
theorem zpB{K}{st}(l:FunV K "__init__" b st .none fI m)(S:XSt st n y f)(u:XUp K d n):
  FnOk P w K d base CX0 (k+1) fI m ["self",y] (spI K fI f):=by
 obtain⟨o,j,L,M,N,O,T,U,Y,p8,p9,p,r,t⟩:=S.body;refine l.ok S.sc (fun x H Q E z=>by obtain⟨e,C,v,h,_⟩:=z;rw[h];rfl) fun c A a s H x Q E hr h=>?_;obtain⟨e,C,v,rfl,g,i,q⟩:=h;rw[r];exact⟨_,zaC (zdH (zo6 (X:=(cxOf CX0 P w K d base ["self",y] b (zaa st) fI c A a s H E).nox) (fI:=fI) u S.gl S.n1 rfl (.inl S.v1) t)) (zaC (zl3 (fI:=fI) rfl rfl (.inl S.v1) (.inl S.v2) S.n2) zdG),⟨e,C,rfl,g,i.ex,e,C,v,rfl,rfl,g,i,fun B G I J=>q B G I J⟩⟩
section
variable{X:Cx}{pins:List (Addr×Obj)}{σ:L2.St}{H:Hp}{s:Shared}{C fI:Addr}{f:Str}{k:Nat}{fd:FuncData}{ps:List Str}
theorem upd3(h:a≠e):upd (upd (upd H e i) a d) e g=upd (upd H a d) e g:=by funext b;unfold upd;by_cases c:b=e;simp[c];simp[c]
theorem zfx(F:FnOk X.prog X.w X.K X.mg X.base CX0 k fI fd ps (spI X.K fI f))(O:Room (k+1) X.A)(U:Binds X.K fd ps [])(c:Xc X.K C fI f)(I:Inv X pins σ H s)(Y:RelV v u)(h:∀e a od j,H e=none->H a=none->a≠e->s.heap.objs.size<=e->Inv X pins σ (upd (upd H a (.frz od (.xd [(f,v)]))) e (XD e C a)) j->Q (.ref e) j):wpAny (model X.prog X.w) X.A (call (.ref C) [u]) Q X.xe s:=by
 obtain⟨nm,q,N,bs,bm,B,sn,sub,ab,col,dd,k0,l,i,k3,k5,mN,hC,hn,hi,T⟩:=(znO I.kIn c.ex).ex;obtain⟨n,p,w⟩:∃n,s.heap.get? fI=some n/\n.cls=.type "function":=by have z:=beq_iff_eq.mp c.fn;unfold PySem.W.typeIn at z;cases e:X.K.lookup fI with|none=>simp[e]at z|some o=>exact⟨o,I.kIn _ _ e,by simpa[e]using z⟩
 obtain⟨hh,g,d,t,os⟩:=s;refine zmM PySem.F.excBase_ValueError T hC hn hi p w (fun h' e m z=>?_) (by show 1<=sizeLine;rw[sizeLine_eq];lia);obtain⟨t0,e1,_⟩:=m.there;have y:=I.laid (t':=t) m.keeps z (XN.ok e1);have E:Vals [V.ref e,v] [Value.ref e,u]:=.cons rfl (.cons Y .nil);have he:H e=none:=I.hok.fresh z;have G:spI X.K fI f [.ref e,v] (upd H e (XN e C)) (fun J L=>J=.non/\∃a od,(upd H e (XN e C)) a=none/\a≠e/\L=upd (upd (upd H e (XN e C)) a (.frz od (.xd [(f,v)]))) e (XD e C a)) E0:=⟨e,C,v,rfl,zag,c,fun a od l i=>⟨rfl,a,od,l,i,rfl⟩⟩;refine wpAny_call (codeAny_mono (F.run _ X.stack _ _ ⟨[Value.ref e,u],[]⟩ [Value.ref e,u] _ _ E0 (O.make C [u] []) (y.env0.make C [u] []) (U _ [Value.ref e,u] y.kIn (by have:=E.length;rw[F.len _ _ _ _ G]at this;exact this.symm)) E G) fun r j b=>?_);cases r with
 |error x=>exact False.elim b| ok fl=>
  cases fl with
  |ret u'=>
   obtain⟨J,L,M,A,ev,a,od,l,i,eH⟩:=y.after b;subst ev eH;refine⟨A,h e a od j he ?_ i z ?_⟩
   . rwa [zae i]at l
   rw[upd3 i]at M;exact M
  |next=>exact False.elim b|brk=>exact False.elim b|cont=>exact False.elim b
theorem znD{H0}(I:Inv X pins σ (upd H0 e (XD e C a)) s):Inv X pins σ (upd H0 e (XO e C a)) s:=by obtain⟨⟨t,b⟩,_⟩:=(show ObjOk X.prog X.w _ s.heap e (XD e C a) from I.hok e _ zag);have:=I.write (t':=s.toks) (by rw[zag];exact True.intro) (.inl rfl) (fun _ _ _ q=>q) ⟨_,b⟩ (XO.ok b (by show 1<6;decide));rw[zjb]at this;exact this
end
section
variable{M:Model}{A:Around}{E:Value->Shared->Prop}{s:Shared}{env:Env}
variable{nm q:Str}{C N:Addr}{bs bm:List Value}{hdct:Bool}{sn:List Str}{sub:List Value}{ab:Bool}{col:Option Bool}{dd:Option Addr}{k0 k1 k2 k3 k5:Option Value}{newId:String}
theorem zlW(i:A.handled=none)(h:wpAny M A x (fun v a=>∃e t c nm q N bs bm hdct sn sub ab col dd k0 k1 k2 k3 k5 newId,v=.ref e/\a.heap.get? C=some (excClassObj nm q C N bs bm hdct sn sub ab col dd k0 k1 k2 k3 k5 newId)/\bm.contains (.type "BaseException")=true/\
   a.heap.get? e=some (newX (.ref C) c t)/\E (.ref e) a) E s):wpAny M A (raiseStmt env (some x) none) Q E s:=by
 refine wpAny_bind (wpAny_mono h (fun v a j=>?_) fun _ _ z=>z);obtain⟨e,t,c,nm,q,N,bs,bm,hdct,sn,sub,ab,col,dd,k0,k1,k2,k3,k5,newId,rfl,f,k,l,m⟩:=j;have b:(Value.ref C::bm).contains (.type "BaseException")=true:=by rw[contains_cons,k,Bool.or_true]
 repeat (first|with_reducible refine wpAny_loadPart_at l ?_|with_reducible refine wpAny_loadPart_at f ?_|(with_reducible refine wpAny_isSubtype_exc f ?_;rw[b])|wp_step)
 exact wpAny_raiseNew_none i m
end
section
variable{X:Cx}{C fI:Addr}{f x:Str}{k:Nat}{fd:FuncData}{ps:List Str}{te:TE}{e:Expr}{np cpos pos:Pos}
theorem znS{lo}:Trc h a #[.ref t,.none,.none,.none,.bool false,.none] lo:=.inl rfl
theorem zl2(F:FnOk X.prog X.w X.K X.mg X.base CX0 k fI fd ps (spI X.K fI f))(G:Room (k+1) X.A)(J:Binds X.K fd ps [])(c:Xc X.K C fI f)(L:Gl X x)(M:X.mg x=some (.ref C))(O:keepIn X.K (.ref C)=true)(Q:PE X e te)(j:zai e=true)(n:(x==("__debug__":Str))=false)(U:X.calm=true) :
  PS X (.Raise (some (.Call (.Name x np) [e] [] cpos)) none pos) (fun D l H=>te l H fun v g=>∀a d od b i,g a=none->g d=none->d≠a->Inv X b l (upd (upd g d (.frz od (.xd [(f,v)]))) a (XO a C d)) i->Fly X.s₀.heap.objs.size (upd (upd g d (.frz od (.xd [(f,v)]))) a (XO a C d)) i.heap a->X.xe (.ref a) i):=by
 intro b s l H D I h;refine wpAny_bind (wpAny_standAt (zlW (C:=C) (I.ok.hd U) ?_));refine wpAny_bind (wpAny_Call_Name_kw (zbq I L M ?_ n));refine callWith_K I.ok.mod.kin O (thn ((show PA X [e] _ from zaI Q zbM (zah j _ _)) cpos b s l H (fun B g=>match B with | [v]=>∀a d od b i,g a=none->g d=none->d≠a->Inv X b l (upd (upd g d (.frz od (.xd [(f,v)]))) a (XO a C d)) i->Fly X.s₀.heap.objs.size (upd (upd g d (.frz od (.xd [(f,v)]))) a (XO a C d)) i.heap a->X.xe (.ref a) i|_=>False) I h) fun us s1 z=>eY z fun B g o r q=>⟨o.kIn,?_⟩) (zah j _ _) rfl;cases r with|nil=>exact q.elim| cons Y rn=>cases rn with|cons _ _=>exact q.elim| nil=>refine zfx F G J c o Y fun a d od i k1 k2 k3 kz p=>wpAny_bind (wpAny_standAt (wpAny_pure ?_));obtain⟨nm,q',N,bs,bm,m,sn,sub,ab,u,dd,k0,w,y,A,k5,mN,hC,hn,hi,T⟩:=(znO p.kIn c.ex).ex;obtain⟨⟨t,E⟩,_⟩:=(show ObjOk X.prog X.w _ i.heap a (XD a C d) from p.hok a _ zag);refine⟨a,t,some d,nm,q',N,bs,bm,m,sn,sub,ab,u,dd,k0,w,y,A,k5,_,rfl,hC,T.hasType rfl,E,?_⟩;refine q a d od b i k1 k2 k3 (znD p) ⟨⟨C,d,_,_,zag,E,znS,fun T hT=>?_⟩,le_trans o.sz kz⟩;cases hT
end
noncomputable abbrev mkC(X:Cx)(e:Value):Cx:={X with A:=X.A.mark (some e),calm:=false,xe:=fun _ _=>False}
section
variable{X:Cx}{pins:List (Addr×Obj)}{σ:L2.St}{H:Hp}{s:Shared}
theorem zh0(I:Inv X pins σ H s)(e):Inv (mkC X e) pins σ H s:=⟨⟨I.ok.mod,I.ok.kind,I.ok.glob,I.ok.blt,I.ok.above,I.ok.inj,I.ok.has,I.ok.cab,(fun z=>by cases z),I.ok.frames,I.ok.stk,I.ok.exf,I.ok.bs,I.ok.bsz,I.ok.noex,I.ok.exfs,I.ok.funs,I.ok.frf⟩,I.os,I.bare,I.base,I.loc,I.cell,I.free,I.freeC,I.pin,I.hok,I.len⟩
theorem ziM(ok:X.Ok)(I:Inv (mkC X e) pins σ H s):Inv X pins σ H s:=⟨ok,I.os,I.bare,I.base,I.loc,I.cell,I.free,I.freeC,I.pin,I.hok,I.len⟩
theorem zmz(I:Inv X pins σ H s)(L:X.N.Nodup)(hi:X.N[E]?=some n)(M:∀(i:Nat)(x:Str)(v:V),X.N[i]?=some x->σ[i]?=some (some v)->Vis X.env.scope x->∃u,RelV v u/\Look X.env s.heap m x u)(N:h'.Ns X.env.locals (fun x=>if x=n then v else m x))(O:Heap.SameBut X.env.locals s.heap h'):
  Inv X pins (σ.set E none) H {s with heap:=h',toks:=t'}:=by
 have k:∀b o,b≠X.env.locals->s.heap.get? b=some o->h'.get? b=some o:=fun b o h q=>(O.2 b h).trans q;have f:∀b o,X.s₀.heap.get? b=some o->b≠X.env.locals:=fun b o e=>ne_of_lt (lt_of_lt_of_le (Heap.lt_size e) I.ok.above);have a:∀x c,X.env.cells.lookup x=some c->∀v,s.heap.IsCell c v->h'.IsCell c v:=fun x c e v z'=>(by obtain⟨o,Q,T⟩:=z';exact ⟨o,k c o (I.cne x c e) Q,T⟩);refine⟨I.ok,I.os,I.bare,⟨fun b o e n h j=>k b o (f b o e) (I.base.keep b o e n h j),fun b o e n h j=>?_,I.base.free,fun b o e j=>?_,I.base.tups,I.base.frzs,I.base.tbls⟩,⟨_,N,fun i x u G g U=>?_⟩,fun x c e=>?_,I.free,I.freeC,fun p Y=>?_,fun b o e=>?_,by rw[List.length_set];exact I.len⟩;obtain⟨sl,q⟩:=I.base.slot b o e n h j;exact⟨sl,k b _ (f b o e) q⟩;obtain⟨o',q⟩:=I.base.there b o e j;exact⟨o',k b _ (f b o e) q⟩;have t:i≠E:=fun z=>by subst z;rw[List.getElem?_set]at g;simp only[if_true]at g;split at g<;>cases g
 rw[getElem?_set_ne (Ne.symm t)]at g;obtain⟨w,r,l⟩:=M i x u G g U;have C:x≠n:=fun z=>t (by
  obtain⟨B,e1⟩:=List.getElem?_eq_some_iff.mp G;obtain⟨A,e2⟩:=List.getElem?_eq_some_iff.mp hi;exact(List.getElem_inj L).mp (e1.trans (z.trans e2.symm)))
 refine⟨w,r,?_⟩;rcases l with⟨B,A⟩|⟨B,c,A,a3⟩;exact .inl ⟨B,by show(if x=n then v else m x)=_;rw[if_neg C];exact A⟩;exact .inr ⟨B,c,A,a x c A _ a3⟩;obtain⟨v,z⟩:=I.cell x c e;exact⟨v,a x c e v z⟩;obtain⟨e,n,J,nf,d⟩:=I.pin p Y;exact⟨k _ _ J e,n,J,nf,d⟩;refine(I.hok b o e).stay (fun c u hc q=>k c u (fun z=>?_) q) (fun _ q=>q) fun _ _ q=>q;have:H c≠none:=by rcases hc with y|y<;>(first|(rw[y,e];simp)|(rw[y];simp))
 exact this (by rw[z];exact I.free)
end
section
variable{X:Cx}{pins:List (Addr×Obj)}{σ:L2.St}{H:Hp}{s:Shared}{a C dx CR:Addr}{lo ie ix:Nat}{xR n y:Str}{np p1 p2 p3 hp:Pos}{D:Ends}
theorem zgd(I:Inv X pins σ H s)(stk:X.stack=X.env::X.outer)(e:X.env.frame=some X.env.locals)(f:Fly lo H s.heap a)(l:X.s₀.heap.objs.size<=lo)(b:∀p∈X.pn++pins,p.1<lo)(h:∀c,Inv X pins σ H c->Fly lo H c.heap a->Q () c):wpAny M A (setFlight (.ref a) g) Q E s:=by obtain⟨C,dx,o,q,r,d,i,u⟩:=id f.ex;rcases i with t|t;refine wpAny_bind (wpAny_field d rfl t ?_);exact wpAny_pure (h s I f);refine zkI (by rw[<-stk];exact I.stack) d rfl t fun v j=>?_;obtain⟨k,m⟩:=zdO I stk e f l b d rfl j;exact h _ k m
theorem zmY(I:Inv X pins σ H s)(stk:X.stack=X.env::X.outer)(j:X.env.frame=some X.env.locals)(e:Fly lo H s.heap a)(l:X.s₀.heap.objs.size<=lo)(L:lo<=s.heap.objs.size)(b:∀p∈X.pn++pins,p.1<lo)(cl:H a=some (XO a C dx))
  (M:PySem.W.exmOne X.K (.ref C) (.ref CR)=some true) (N:Gl X xR) (O:X.mg xR=some (.ref CR)) (k:(xR==("__debug__":Str))=false) (o:X.N.Nodup) (f:X.N[ie]?=some n) (Q:X.N[ix]?=some y) (g:X.env.scope.names.lookup n=some .local) (T:Loc X.env.scope y)
  (U:X.fn y=true\/X.env.scope.names.lookup y=some .local) (Y:(n==("__debug__":Str))=false) (n2:(n==("__classdict__":Str))=false) (r:ie≠ix) (q:D.nx ((σ.set ie none).set ix (some (.ref a))) H) :
  wpAny (model X.prog X.w) X.A (noteFrame (.ref a) X.env) (fun _ s2=>wpAny (model X.prog X.w) X.A (setFlight (.ref a) none) (fun _ A=>wpAny (model X.prog X.w) X.A (handleBy (.ref a) X.env [.ExceptHandler (some (.Name xR np)) (some n) [.Assign [.Name y p1] (.Name n p2) p3] hp]) (SP X pins D) X.xe A) X.xe s2) X.xe s:=by
 obtain⟨C0,dx0,vs,sl,h1,B,tr,h4⟩:=id e.ex;refine zhK (by rw[I.ok.frames,stk]) (by rw[<-stk];exact I.stack) j B rfl tr L fun E nt=>?_;obtain⟨h,f1⟩:=zdO I stk j e l b B rfl nt;refine wpAny_handleBy_cons (codeAny_handlers_test (zbq (zh0 h (.ref a)) N O ?_ k)) (by intro z;cases z);obtain⟨vs2,sl2,e2,_⟩:=(show ObjOk X.prog X.w H E a (XO a C dx) from h.hok a _ cl).1;have LT:PySem.W.Looks (model X.prog X.w) E (typeOf (.ref a)) (.ref C):=(PySem.W.Looks.ld e2).andThen .now;refine(PySem.W.exm_one h.kIn LT M).here ?_;refine codeAny_handlers_suite_as (zgd h stk j f1 l b fun A G f3=>zeN G o f (.inl g) (v:=.ref a) rfl (fun s4 I4=>?_) (.inr g));have pv:PE (mkC X (.ref a)) (.Name n p2) (tVar ie):=zcj f (.inl g) Y n2;have hb:=zaC (zfR (X:=mkC X (.ref a)) (pos:=p3) (pos':=p1) o Q T pv (by rfl) U) zdG pins s4 (σ.set ie (some (.ref a))) H {nx:=fun c J=>c=(σ.set ie (some (.ref a))).set ix (some (.ref a))/\J=H,rt:=fun _ _=>False} (zh0 I4 _)
  ⟨.ref a,by rw[getElem?_set_self (by rw[G.len];exact(List.getElem?_eq_some_iff.mp f).1)],rfl,rfl⟩
 refine wpAny_mono hb (fun e s5 z=>?_) fun _ _ z=>z.elim;cases e with
 |next=>
  obtain⟨c,J,i,rfl,rfl⟩:=z;have i:=ziM I.ok i;obtain⟨m,t,w⟩:=id i.loc;have d:(X.env.scope.kind==.class||(X.env.scope.kind==.module&&X.env.locals != X.env.globals))=false:=by rw[I.ok.kind];rfl
  refine wpAny_nameGoes_keeps (show X.env.kindOf n=some .local from g) t d fun h6 v x sb=>?_;have I6:=zmz (t':=s5.toks+1) i o f w x sb;refine⟨_,_,I6,?_⟩;rw[List.set_comm _ _ (Ne.symm r),List.set_set];exact q
 |ret u=>obtain⟨_,_,_,_,_,z⟩:=z;exact z.elim|brk=>obtain⟨_,_,_,z⟩:=z;exact z.elim|cont=>obtain⟨_,_,_,z⟩:=z;exact z.elim
end
section
variable{T:Tab}{cf:CF}{k:Nat}{N:List Str}{sc:Scope}{X:Cx}{pos p:Pos}{rest:List Stmt}
theorem zcH(h:zch S x=some (c,a)):∃l,x=.ref l/\S.get l=some (.exc c a):=by
 cases x with
 |ref l=>
  simp only[zch]at h;cases e:S.get l with
  |none=>rw[e]at h;cases h
  |some o=>rw[e]at h;cases o with|exc d b=>cases h;exact⟨l,rfl,e⟩|_=>cases h
 |_=>cases h
theorem zrd(n:RH X.K e H S)(r:RV X.K e H d v)(o:Mks.xc[c]?=some C)(q:H a=none)(h:H b=none)(i:b≠a):
  Ext e H (e++[a]) (upd (upd H b (.frz od (.xd [(f,v)]))) a (XO a C b))/\RH X.K (e++[a]) (upd (upd H b (.frz od (.xd [(f,v)]))) a (XO a C b)) (S.push (.exc c [(f,d)])):=by
 have g:=n.new h (.frz od (.xd [(f,v)]));have j:Ext e H e (upd H b (.frz od (.xd [(f,v)]))):=Ext.new h _;have l:(upd H b (.frz od (.xd [(f,v)]))) a=none:=by rw[zae (Ne.symm i)];exact q
 have m:=Ext.obj g l (XO a C b);refine⟨j.trans m,g.obj' l (XO a C b) (.exc c [(f,d)]) ⟨C,b,od,[(f,v)],o,zag,?_,v,[],rfl,(r.ext j).ext m,rfl⟩⟩;rw[zae i,zag]
theorem zkR(I:Inv X d q H s)(j:H a=some (XO a C b))(l:H b=some (.frz od (.xd g))):
  ∃ox,PySem.W.InstAt s.heap a ox C (some od)/\∃c:Str->Option Value,(∀f,lookIn f od=some (c f))/\∀f,RelO (g.lookup f) (c f):=by
 obtain⟨t,u,e,_⟩:=(show ObjOk X.prog X.w H s.heap a (XO a C b) from I.hok a _ j).1;obtain⟨h,c,n,r⟩:=(show ObjOk X.prog X.w H s.heap b (.frz od (.xd g)) from I.hok b _ l);obtain⟨m,i,o⟩:=zf1 n;rw[h]at i;cases i;exact⟨_,⟨e,rfl,rfl,h⟩,c,o,r⟩
theorem zoj(G:Gd T cf k N sc X)(ha:PE X a (tE X.K cf ca))(i:zaE a=true)(hf:T.xflds.contains f=true):PE X (.Attribute a f pos) (tE X.K cf (.fldX ca f)):=by
 intro j s σ H Qv I y;obtain⟨δ,ι,S,Q,hs,hh,w,q⟩:=y;refine zld (zbg i f X.env _) (thn (ha j s σ H (fun v h=>∃b C m B t u,v=.ref b/\XGet X.K C/\NoAttr X.K C f/\h b=some (XO b C m)/\h m=some (.frz B (.xd t))/\t.lookup f=some u/\Qv u h) I (tE.run hs hh w.b fun d v ι1 h S1 x1 hs1 A r1 w1=>?_)) fun u s1 zz=>?_);rotate_left;obtain⟨x,h,E,rx,b,C,m,B,t,v,ex,g,n,e1,e2,e3,q1⟩:=zz;rotate_right;obtain⟨u,e,w2⟩:=zay w1;cases L:zch S1 d with
 |none=>rw[L]at e;cases e
 |some pr=>obtain⟨c,fs⟩:=pr;rw[L]at e;have e:fs.lookup f=some u:=e;obtain⟨l,rfl,M⟩:=zcH L;obtain⟨b,i1,rfl⟩:=r1;obtain⟨b',O,C,m,B,t,hC,h1,h2,rf⟩:=A.obj l _ M;rw[i1]at O;cases O;obtain⟨g,n⟩:=G.tab.xtb.fl f hf c C hC;rcases rf.look f with⟨z,_⟩|⟨d',v',U,z2,z3⟩;rw[e]at z;cases z;rw[e]at U;cases U;exact⟨b,C,m,B,t,v',rfl,g,n,h1,h2,z2,q _ _ (Lf.up x1 (Lf.of A z3 w2))⟩
 subst ex;obtain rfl:u=Value.ref b:=rx;obtain⟨ox,J,mA,M,r⟩:=zkR E e1 e2;obtain⟨u',hu,Y⟩:=RelO.some_of (by rw[<-e3];exact r f);exact zmN E.kIn J g.ga g.gh g.sb (PySem.W.findObj_own g.hd n rfl (by rw[M,hu])) (zgc Y) ⟨v,h,E.tok _,Y,q1⟩
theorem zie(D)(e)(j:∀u,RelV e u->u=D):zcO X (.builtin "isinstance") (fun xs H Q=>∃a C d od f b,xs=[.ref a,e]/\H a=some (XO a C d)/\H d=some (.frz od (.xd f))/\XGet X.K C/\IsaOk X.K C/\kitOne X.K (.ref C) D=some b/\Q (.bl b) H):=by intro i s x H xs y Q I r h;obtain⟨a,C,d,od,f,b,rfl,l,m,g,c,n,q⟩:=h;obtain⟨u,o,rfl,t,v⟩:=zln r;cases j o v;cases(show u=Value.ref a from t);obtain⟨ox,J,_⟩:=zkR I l m;exact kia_one (zkP g.ga g.gh g.sb g.hd c.ha c.hn c.ht c.hm) I.kIn J n (fun z=>by cases z) fun w=>⟨.bl b,H,I.tok w,rfl,q⟩
theorem zku{D}(hD:∀(c:Nat) C,Mks.xc[c]?=some C->XGet X.K C/\IsaOk X.K C/\kitOne X.K (.ref C) D=some (n.contains c))(h:tE X.K cf (.iscX n x o) r H s):
  tCB (fun xs H Q=>∃a C f od i b,xs=[.ref a,t]/\H a=some (XO a C f)/\H f=some (.frz od (.xd i))/\XGet X.K C/\IsaOk X.K C/\kitOne X.K (.ref C) D=some b/\Q (.bl b) H) (zeL (tE X.K cf o) (zeL (tC t) tNil)) r H s:=by
 obtain⟨δ,ι,S,Q,u,y,w,q⟩:=h;refine tE.run u y w.b fun d v z H1 S1 A B e E G=>?_;obtain⟨I,J,L⟩:=zay G.b;obtain⟨c,fs⟩:=I;obtain⟨l,rfl,M⟩:=zcH J;obtain⟨b,O,rfl⟩:=E;obtain⟨b',m,C,f,od,i,U,Y,h2,rf⟩:=e.obj l _ M;rw[O]at m;cases m;obtain⟨g,ok,j⟩:=hD c C U;exact⟨b,C,f,od,i,_,rfl,Y,h2,g,ok,j,q _ _ (Lf.up A (Lf.of (d:=.bl _) e rfl L))⟩
theorem zog(G:Gd T cf k N sc X)(b:Gl X "isinstance"/\X.mg "isinstance"=none)(f:isGl sc x=true)(hd:(x==("__debug__":Str))=false)(hi:(T.xisas.contains (x,c)||T.xisbs.contains (x,c))=true)(g:PE X e (tE X.K cf i))(a:zai e=true):PE X (.Call (.Name "isinstance" p) [e,.Name x p2] [] pos) (tE X.K cf (.iscX c x i)):=by
 rw[or_eq_true]at hi;rcases hi with hi|hi;obtain⟨D,d,hD⟩:=G.tab.xtb.is x c hi;exact PE.imp (zcz (zie (.ref D) (.ref D) fun u z=>z) b.1 b.2 zbd (zaI g (zaI (zdI (v:=.ref D) (G.gl f) d rfl hd) zbM) (zah a _ X.env)) (by decide) (by decide) (zah a _ X.env)) fun j H l h=>zku hD h;obtain⟨d,m,t,hv,hD⟩:=G.tab.xtb.ib x c hi;exact PE.imp (zcz (zie (.type t) (.ty t) fun u z=>z) b.1 b.2 zbd (zaI g (zaI (zjX (v:=.ty t) (G.gl f) d hv rfl m hd) zbM) (zah a _ X.env)) (by decide) (by decide) (zah a _ X.env)) fun j H l h=>zku hD h
theorem zk6:zcO X (.builtin "isinstance") (fun xs H Q=>∃a C f od i b p,∃Ds:List Addr,xs=[.ref a,.ref p]/\H a=some (XO a C f)/\H f=some (.frz od (.xd i))/\H p=some (.tup (Ds.map V.ref))/\XGet X.K C/\IsaOk X.K C/\PySem.W.kitAny X.K (.ref C) (Ds.map Value.ref)=some b/\Q (.bl b) H):=by
 intro j s σ H xs us Q I r h;obtain⟨a,C,f,od,i,b,p,Ds,rfl,x,y,l,g,d,m,q⟩:=h;obtain⟨u,A,rfl,B,E⟩:=zln r;cases(show u=Value.ref a from B);cases(show A=Value.ref p from E);obtain⟨ox,J,_⟩:=zkR I x y;obtain⟨G,c,t,⟨o,v,L,n,w⟩⟩:=(show ObjOk X.prog X.w H s.heap p (.tup (Ds.map V.ref)) from I.hok p _ l);have e:c=Ds.map Value.ref:=by clear l m v w G;induction Ds generalizing c with|nil=>cases t;rfl|cons D Ds M=>cases t with|cons z O=>cases(show _=Value.ref D from z);rw[M _ O];rfl
 subst e;obtain⟨oc,U,Y,sl⟩:=o;cases L;cases w;exact PySem.W.kia_tup (zkP g.ga g.gh g.sb g.hd d.ha d.hn d.ht d.hm) I.kIn J v m (fun z=>by cases z) fun tk=>⟨.bl b,H,I.tok tk,rfl,q⟩
theorem znt:∀{es:List Expr}{Ds:List Addr},(∀(i:Nat) e,es[i]?=some e->∃D,Ds[i]?=some D/\PE X e (tC (.ref D))/\zai e=true)->es.length=Ds.length->PA X es (fun a H Q=>Q (Ds.map V.ref) H)
 | [],[],_,_=>PA.imp zbM fun a H Q z=>z| e::es,D::Ds,h,b=>by obtain⟨f,z,c,st⟩:=h 0 e rfl;cases z;exact PA.imp (zaI c (znt (fun i d q=>h (i+1) d (by simpa using q)) (by simpa using b)) (zah st _ X.env)) fun a H Q z=>z
theorem zkm{K}:∀{rs:List (Str×List Nat)}{Ds:List Addr},(∀(i:Nat) r,rs[i]?=some r->∃D,Ds[i]?=some D/\kitOne K (.ref C) (.ref D)=some (r.2.contains c))->rs.length=Ds.length->PySem.W.kitAny K (.ref C) (Ds.map Value.ref)=some (rs.any fun r=>r.2.contains c)
 | [],[],_,_=>rfl| r::rs,D::Ds,h,a=>by obtain⟨e,z,k⟩:=h 0 r rfl;cases z;have b:=zkm (fun i d q=>h (i+1) d (by simpa using q)) (by simpa using a);rw[map_cons,any_cons];unfold PySem.W.kitAny;rw[k];cases r.2.contains c with|true=>rfl|false=>simpa using b
theorem zoh(G:Gd T cf k N sc X)(O:Gl X "isinstance"/\X.mg "isinstance"=none)(x:es.length=rs.length)(U:0<rs.length)(h9:rs.length<=1000)(A:∀(i:Nat) s r,es[i]?=some s->rs[i]?=some r->∃p,s=.Name r.1 p/\isGl sc r.1=true/\(r.1==("__debug__":Str))=false/\T.xisas.contains r=true)(he:PE X e (tE X.K cf ce))(j:zai e=true):PE X (.Call (.Name "isinstance" p) [e,.Tuple es Y p2] [] pos) (tE X.K cf (.iscT rs ce)):=by
 have hD:∃f:List Addr,f.length=rs.length/\∀(i:Nat) r,rs[i]?=some r->∃D,f[i]?=some D/\X.mg r.1=some (.ref D)/\∀(c:Nat) C,Mks.xc[c]?=some C->XGet X.K C/\IsaOk X.K C/\kitOne X.K (.ref C) (.ref D)=some (r.2.contains c):=by
  have hx:∀r∈rs,T.xisas.contains r=true:=fun r m=>by
   obtain⟨i,hi⟩:=List.mem_iff_getElem?.mp m;have h:i<es.length:=by have:=(List.getElem?_eq_some_iff.mp hi).1;lia
   obtain⟨_,_,_,_,z⟩:=A i es[i] r (by simp[h]) hi;exact z
  clear A x U h9;induction rs with|nil=>exact⟨[],rfl,fun i r z=>by simp at z⟩| cons r rs ih=>obtain⟨f,l1,l2⟩:=ih fun B E=>hx B (mem_cons_of_mem _ E);obtain⟨D,m,hk⟩:=G.tab.xtb.is r.1 r.2 (hx r (by simp));refine⟨D::f,by simp[l1],fun i B z=>?_⟩;cases i with|zero=>cases z;exact⟨D,rfl,m,hk⟩|succ i=>obtain⟨D',a,b⟩:=l2 i B (by simpa using z);exact⟨D',by simpa using a,b⟩
 obtain⟨f,l1,l2⟩:=hD;have pa:PA X es (fun σ H Q=>Q (f.map V.ref) H):=znt (fun i s q=>by
  have h:i<rs.length:=by have:=(List.getElem?_eq_some_iff.mp q).1;lia
  obtain⟨D,a,m,_⟩:=l2 i rs[i] (by simp[h]);obtain⟨p',rfl,g1,g2,_⟩:=A i s rs[i] q (by simp[h]);exact⟨D,a,zdI (G.gl g1) m rfl g2,rfl⟩) (by lia)
 refine PE.imp (zcz zk6 O.1 O.2 zbd (zaI he (zaI (znp pa) zbM) (zah j _ X.env)) (by decide) (by decide) (zah j _ X.env)) fun σ H Qv y=>eX y fun δ ι S Q hs hh w q=>?_;refine tE.run hs hh w.b fun d v n H1 S1 Y hs1 o r1 w1=>?_;obtain⟨pr,ei,w2⟩:=zay w1.b;obtain⟨c,fs⟩:=pr;obtain⟨l,rfl,h⟩:=zcH ei;obtain⟨b,i1,rfl⟩:=r1;obtain⟨b',i2,C,dx,od,ws,hC,I,J,rf⟩:=o.obj l _ h;rw[i1]at i2;cases i2;refine⟨by rw[length_map,sizeLine_eq];lia,fun t u=>?_⟩;have n1:b≠t:=fun z=>by rw[z,u]at I;cases I
 have n2:dx≠t:=fun z=>by rw[z,u]at J;cases J
 have L:=zkm (fun i r z=>by obtain⟨D,a,_,b⟩:=l2 i r z;exact⟨D,a,(b c C hC).2.2⟩) l1.symm;have x2:Ext n H1 n (upd H1 t (.tup (f.map V.ref))):=Ext.new u _;have M:=o.new u (.tup (f.map V.ref));obtain⟨_,_,_,k0⟩:=l2 0 rs[0] (by simp[U]);obtain⟨g,ok,_⟩:=k0 c C hC;exact⟨b,C,dx,od,ws,_,t,f,rfl,by rw[zae n1];exact I,by rw[zae n2];exact J,zag,g,ok,L,q _ _ (Lf.up (Y.trans x2) (Lf.of (d:=.bl _) M rfl w2))⟩
theorem zlt(G:Gd T cf k N sc X)(m:T.xcs.contains (c,x,f)=true)(n:isGl sc x=true)(hd:(x==("__debug__":Str))=false)(o:PE X e (tE X.K cf q))(i:zai e=true):
  PSs X (.Raise (some (.Call (.Name x np) [e] [] cpos)) none pos::rest) (tS X cf (.rais c x f q)):=by
 obtain⟨C,fI,fd,ps,r,s,t,u,F,y⟩:=G.tab.xtb.cl c x f m;refine PSs.imp (zaC (zl2 F G.room' y u (G.gl n) s t o i hd G.calm) (show PSs X rest (fun _ _ _=>False) from fun _ _ _ _ _ _ h=>h.elim)) fun E A H z=>eX z fun δ ι S Q B I w l=>?_;refine tE.run B I w.b fun d v J H1 S1 L M b O U=>?_;intro a dx od g Y k1 k2 k3 I' f';obtain⟨x2,j⟩:=zrd b O r k1 k2 k3;exact l _ _ _ _ (L.trans x2) j U a A g Y ⟨a,b.last a,rfl⟩ I' f'
noncomputable def znc(X:Cx)(sp:Sp)(t:TA):TE:=fun c H Q=>t c H fun h f=>∃E,sp h f Q E/\∀b g a d e,Inv X b c f g->Inv X b c d e->Fly g.heap.objs.size d e.heap a->E (.ref a) none d->X.xe (.ref a) e
theorem zdl(F:FnOk X.prog X.w X.K X.mg X.base (CXe X.prog X.w) k w y ps sp)(A:Room k X.A)(B:Gl X x)(C:X.mg x=some (.ref w))(G:keepIn X.K (.ref w)=true)(J:Binds X.K y ps [])(L:PA X (e::es) t)(l:(x==("__debug__":Str))=false)(M:starEach (e::es) X.env=(false,eval e X.env)::starEach es X.env)(m:(backTo pos (starEach es X.env)).any (·.1)=false):PE X (.Call (.Name x p) (e::es) [] pos) (znc X sp t):=by
 intro c s O H Q I h;refine wpAny_Call_Name_kw (zbq I B C ?_ l);refine callWith_K I.ok.mod.kin G (thn (L pos c s O H _ I h) fun j n ⟨U,Y,d,r,E,q,qx⟩=>⟨d.kIn,?_⟩) M m;have hl:(j++[]).length=ps.length:=by rw[append_nil,<-r.length];exact F.len _ _ _ _ q
 have f:=J n j d.kIn hl;rw[append_nil]at f;refine wpAny_call (codeAny_mono (F.run X.A X.stack n Y ⟨j,[]⟩ j U Q E A d.env0 f r q) fun r s' g=>?_);cases r with| error x=>obtain⟨a,H',rfl,os,i,un,o,v,hE⟩:=g;exact qx c n a H' s' d (d.call' os un o i (fun b z=>absurd z (by simp))) v hE| ok v=>cases v with|ret u=>exact d.after g|next=>exact False.elim g|brk=>exact False.elim g|cont=>exact False.elim g
noncomputable def XErr(X:Cx)(g:L2.St)(h:List Addr)(H:Hp)(d:D)(i:R.St):Prop:=∀a c e f lo b,Ext h H c e->RV X.K c e d (.ref a)->RH X.K c e i->Inv X b g e f->Fly lo e f.heap a->X.s₀.heap.objs.size<=lo->lo<=f.heap.objs.size->(∀p∈X.pn++b,p.1<lo)->X.xe (.ref a) f
theorem zcK(s:CFok cf)(hs:RS X.K w H δ M)(hh:RH X.K w H S)(e:evEs cf y δ S=.ok ds O)(h:match appX cf f ds O with|.ok d q=>∀v b c,Ext w H b c->RV X.K b c d v->RH X.K b c q->Qv v c|.err d q=>XErr X M w H d q|.bad=>False):znc X (spX X.K cf f) (tAs X.K cf y) M H Qv:=by
 refine tAs.run hs hh (Q:=fun j A=>j=ds/\A=O) (by rw[e];exact⟨rfl,rfl⟩) fun j vs m H1 l U hs1 n Y k=>?_;obtain⟨B,C⟩:=k;subst B C;unfold appX at h;cases o:cf f j l.enter with
 |ok d E=>
  rw[o]at h;dsimp only at h;refine⟨fun _ _ _=>False,⟨m,l.enter,j,Y,n.enter,?_⟩,fun _ _ _ _ _ _ _ _ z=>z.elim⟩;rw[o];intro v c b x r t;cases i:zbb l d E with
  |ok d' q=>rw[i]at h;obtain⟨d2,G,S3,x2,r2,I,B,C⟩:=ze7 (Q:=fun a A=>a=d'/\A=q) n x r t (s _ _ _ _ _ (.inl o)).frz (by rw[i];exact⟨rfl,rfl⟩);subst B C;exact h v G c (U.trans x2) r2 I| err d' q=>
   exfalso;unfold zbb at i;split at i;cases i;dsimp only at i;split at i
   . split at i
     all_goals first|(split at i<;>cases i)|cases i
   cases i
  |bad=>rw[i]at h;exact h.elim
 |err d E=>rw[o]at h;dsimp only at h;refine⟨fun v _ c=>∃a b,v=.ref a/\Ext m H1 b c/\RV X.K b c d (.ref a)/\RH X.K b c E,⟨m,l.enter,j,Y,n.enter,?_⟩,?_⟩;rw[o];exact fun a c b x r t=>⟨a,b,rfl,x,r,t⟩;rintro u s1 a c s' I1 I' J ⟨a',b,z,x,r,t⟩;cases z;have L:=(s _ _ _ _ _ (.inr o)).frz;obtain⟨_,_,_,_,_,g,_⟩:=id J.ex;exact h a b c s' s1.heap.objs.size u (U.trans x) r (t.keep L) I' J I1.sz (le_of_lt (Nat.lt_of_le_of_lt J.lo (Heap.lt_size g))) fun p hp=>Heap.lt_size (I1.pin p hp).1|bad=>rw[o]at h;exact h.elim
noncomputable def tB(X:Cx)(cf:CF)(b:TrB):TS:=fun D i H=>∃j e S,RS X.K e H j i/\RH X.K e H S/\(match exT cf b j S with|.ok g h=>∀a f c,Ext e H a f->RS X.K a f g c->RH X.K a f h->D.nx c f|.err d h=>XErr X i e H d h|.bad=>False)
theorem zqW(G:Gd T cf k N sc X)(n:T.xfns.contains f=true)(o:T.fns[f]?=some (x,ps,q))(s:isGl sc x=true)(hd:(x==("__debug__":Str))=false)(t:PA X (e::es) (tAs X.K cf b))(a:(e::es).all zai=true):
  PS X (.Expr (.Call (.Name x p) (e::es) [] M) pos) (tB X cf (.run f b)):=by
 obtain⟨O,Q,F,u,w,y⟩:=G.tab.xtb.fn f x ps q n o;rw[all_cons,and_eq_true]at a;refine PS.imp (zdH (zdl F G.room (G.gl s) u w y t hd (zah a.1 es X.env) (zaz a.2)) (zbR rfl _ _ _)) fun D A H z=>?_;obtain⟨B,U,S,j,C,h⟩:=z;simp only[exT]at h;cases c:evEs cf b B S with
 |ok E l=>rw[c]at h;dsimp only at h;refine zcK G.tab.frm j C c ?_;cases g:appX cf f E l with|ok d I=>rw[g]at h;exact fun v i J m r L=>h i J A m (j.ext m) L|err d I=>rw[g]at h;exact h|bad=>rw[g]at h;exact h
 |err d l=>rw[c]at h;exact h.elim|bad=>rw[c]at h;exact h.elim
theorem zqY(G:Gd T cf k N sc X)(hi:N[i]?=some y)(l:zdh sc y=true)(q:T.xfns.contains f=true)(s:T.fns[f]?=some (x,ps,t))(u:isGl sc x=true)(hd:(x==("__debug__":Str))=false)(w:PA X (e::es) (tAs X.K cf b))(a:(e::es).all zai=true):
  PS X (.Assign [.Name y p1] (.Call (.Name x p) (e::es) [] O) pos) (tB X cf (.asg i f b)):=by
 obtain⟨Q,U,F,z,A,B⟩:=G.tab.xtb.fn f x ps t q s;rw[all_cons,and_eq_true]at a;refine PS.imp (zfR (i:=i) (by rw[G.nm];exact G.nd) (by rw[G.nm];exact hi) (G.lc l).1 (zdl F G.room (G.gl u) z A B w hd (zah a.1 es X.env) (zaz a.2)) (zbR rfl _ _ _) (G.lc l).2) fun D Y H z'=>?_;obtain⟨C,ι,S,m,E,h⟩:=z';simp only[exT]at h;cases c:evEs cf b C S with
 |ok I n=>rw[c]at h;dsimp only at h;refine zcK G.tab.frm m E c ?_;cases g:appX cf f I n with|ok d J=>rw[g]at h;exact fun v j L o r M=>h j L _ o ((m.ext o).set r i) M|err d J=>rw[g]at h;exact h|bad=>rw[g]at h;exact h
 |err d n=>rw[c]at h;exact h.elim|bad=>rw[c]at h;exact h.elim
theorem XErr.up(h:XErr X f g H d i)(x:Ext g H c j):XErr X f c j d i:=fun a e l m lo b n=>h a e l m lo b (x.trans n)
theorem zqX(y:PT X c (tT X.K cf w))(C:PSs X A (tB X cf a))(E:PSs X B (tB X cf b)):PS X (.If c A B pos) (tB X cf (.ite w a b)):=by
 refine PS.imp (zoU y C E) fun D O H k=>?_;obtain⟨j,U,S,G,I,h⟩:=k;simp only[exT]at h;cases o:evT cf w j S with
 |ok z x=>
  rw[o]at h;dsimp only at h;refine tT.run G I (Q:=fun r J=>r=z/\J=x) (by rw[o];exact⟨rfl,rfl⟩) fun r l Y e q m n p=>?_;obtain⟨L,M⟩:=p;subst L M;cases r with
  |true=>refine⟨j,l,e,m,n,?_⟩;simp only[if_true]at h;cases f:exT cf a j e with|ok s t=>rw[f]at h;exact fun g u i v=>h g u i (q.trans v)|err d t=>rw[f]at h;exact XErr.up h q|bad=>rw[f]at h;exact h
  |false=>refine⟨j,l,e,m,n,?_⟩;simp only[Bool.false_eq_true,if_false]at h;cases f:exT cf b j e with|ok s t=>rw[f]at h;exact fun g u i v=>h g u i (q.trans v)|err d t=>rw[f]at h;exact XErr.up h q|bad=>rw[f]at h;exact h
 |err d x=>rw[o]at h;exact h.elim|bad=>rw[o]at h;exact h.elim
theorem zjq{st}(h:PS X st (tB X cf b)):PSs X [st] (tB X cf b):=PSs.imp (zaC h zdG) fun D a H z=>z
theorem zop(G:Gd T cf k N sc X)(n:T.flds.contains f=true)(A:PE X a (tE X.K cf Y))(hf:T.xfns.contains g=true)(hn:T.fns[g]?=some (x,ps,nd))(hg:isGl sc x=true)(hd:(x==("__debug__":Str))=false)(ha:PA X (e::es) (tAs X.K cf o))(l:(e::es).all zai=true):
  PS X (.Assign [.Attribute a f p1] (.Call (.Name x p) (e::es) [] cp) pos) (tB X cf (.setF Y f g o)):=by
 obtain⟨fa,fd,F,hm,hk,B⟩:=G.tab.xtb.fn g x ps nd hf hn;rw[all_cons,and_eq_true]at l;refine PS.imp (znn A (zdl F G.room (G.gl hg) hm hk B ha hd (zah l.1 es X.env) (zaz l.2)) (zbR rfl _ _ _)) fun D σ H z=>?_;obtain⟨δ,ι,S,hs,hh,h⟩:=z;simp only[exT]at h;cases s:evEs cf o δ S with
 |ok ds S1=>
  rw[s]at h;dsimp only at h;refine zcK G.tab.frm hs hh s ?_;cases E:appX cf g ds S1 with
  |ok d S2=>
   rw[E]at h;dsimp only at h;intro v ι1 H1 x1 r1 I;have J:=hs.ext x1;cases t:evE cf Y δ S2 with
   |ok y S3=>
    rw[t]at h;dsimp only at h;refine tE.run J I (Q:=fun u S'=>u=y/\S'=S3) (by rw[t];exact⟨rfl,rfl⟩) fun u vx L H2 q x2 M m r2 z'=>?_;obtain⟨z1,z2⟩:=z';subst z1 z2;cases j:za1 q u f d with
    |none=>rw[j]at h;exact h.elim| some S4=>
     rw[j]at h;dsimp only at h;unfold za1 at j;cases u with
     |ref i=>
      obtain⟨b,O,rfl⟩:=r2;dsimp only at j;cases r:q.get i with
      |none=>rw[r]at j;cases j
      |some ob=>
       rw[r]at j;cases ob with
       |ins c fs=>obtain⟨b',h2,C,U,ws,hC,B,rf⟩:=m.obj _ _ r;rw[O]at h2;cases h2;dsimp only at j;split at j;rename_i c2;obtain⟨_,_,cl,_,na⟩:=G.clsAt (.inl (ne_of n)) hC;have rv:=r1.ext x2;have w:=Ext.wr m r O (.ins C U (putF f v ws));exact⟨b,C,U,ws,rfl,B,cl,na f n,by rw[rf.length];exact c2,h L _ σ ((x1.trans x2).trans w) (M.ext w) (m.wr r O j ⟨C,U,_,hC,zag,(rf.put f rv).up w.pre w.kp⟩)⟩;cases j
       |_=>cases j
     |_=>cases j
   |err y S3=>rw[t]at h;exact h.elim|bad=>rw[t]at h;exact h.elim
  |err d S2=>rw[E]at h;exact h|bad=>rw[E]at h;exact h
 |err d S1=>rw[s]at h;exact h.elim|bad=>rw[s]at h;exact h.elim
noncomputable def zqp(X:Cx)(C:Addr)(sp:Sp)(e:List V)(t:TA):TE:=fun f H Q=>t f H fun j d=>∀x c,d x=none->d c=none->c≠x->
 ∃E,sp (.ref x::(j++e)) (upd (upd d c (.own x)) x (.ins C c [])) (fun v l=>v=.non/\Q (.ref x) l) E/\∀b i a g h,Inv X b f (upd (upd d c (.own x)) x (.ins C c [])) i->Inv X b f g h->Fly i.heap.objs.size g h.heap a->E (.ref a) none g->X.xe (.ref a) h
theorem zmb(M:Mk X.K C f)(F:FnOk X.prog X.w X.K X.mg X.base (CXe X.prog X.w) k f O ps sp)(U:Room (k+1) X.A)(Y:Gl X x)(hm:X.mg x=some (.ref C))(hb:Binds X.K O ps ds)(hd:Vals j ds)(ha:PA X (e::es) t)(o:(x==("__debug__":Str))=false)(he:starEach (e::es) X.env=(false,eval e X.env)::starEach es X.env)(w:(backTo pos (starEach es X.env)).any (·.1)=false):
  PE X (.Call (.Name x p) (e::es) [] pos) (zqp X C sp j t):=by
 intro g s σ H Q I h;refine wpAny_Call_Name_kw (zbq I Y hm ?_ o);refine callWith_K I.ok.mod.kin M.kp (thn (ha pos g s σ H _ I h) fun i d y=>eY y fun vs H1 l r q=>⟨l.kIn,?_⟩) he w;obtain⟨E,J,hx⟩:=q (d.heap.objs.size+1) d.heap.objs.size (l.hok.fresh (le_succ _)) (l.hok.fresh (le_refl _)) (ne_of_lt (lt_succ_self _));have m:=Inv.made (C:=C) l;have L:Vals (V.ref (d.heap.objs.size+1)::(vs++j)) (Value.ref (d.heap.objs.size+1)::(i++ds)):=.cons rfl (r.append hd);have hl:(Value.ref (d.heap.objs.size+1)::i++ds).length=ps.length:=by have e:=L.length;rw[F.len _ _ _ _ J]at e;exact e.symm
 refine wpAny_call (zhQ l.kIn M.makes M.init (beq_iff_eq.mp M.fn) (codeAny_mono (F.run _ X.stack _ _ ⟨Value.ref (d.heap.objs.size+1)::i,[]⟩ (Value.ref (d.heap.objs.size+1)::(i++ds)) _ _ E (U.make C i [])
  (m.env0.make C i []) (hb _ (Value.ref (d.heap.objs.size+1)::i) m.kIn hl) L J) fun r s' c=>?_))
 cases r with| error e=>obtain⟨a,A,rfl,os,n,un,B,G,hE⟩:=c;exact hx g _ a A s' m (m.call' os un B n (fun b z=>absurd z (by simp))) G hE| ok G=>cases G with| ret u=>obtain⟨v,A,I3,rv,ev,q3⟩:=m.after c;subst ev;exact⟨rv,⟨V.ref (d.heap.objs.size+1),A,I3,rfl,q3⟩⟩|next=>exact False.elim c|brk=>exact False.elim c|cont=>exact False.elim c
theorem zsW(G:Gd T cf k N sc X)(hi:T.inits.contains (c,f,j)=true)(hx:T.cls[c]?=some x)(hg:isGl sc x=true)(hd:(x==("__debug__":Str))=false)(ha:PA X (e::es) (tAs X.K cf B))(q:(e::es).all zai=true):
  PS X (.Expr (.Call (.Name x p) (e::es) [] cp) pos) (tB X cf (.mk c f x j B)):=by
 obtain⟨C,fa,fd,ps,hC,M,F,hb⟩:=(G.tab.inx c f j hi).ex;obtain⟨s,t,_,hm,_⟩:=G.clsAt (.inr (.inl (ne_of hi))) hC;rw[hx]at t;cases t;rw[all_cons,and_eq_true]at q;refine PS.imp (zdH (zmb M F G.room' (G.gl hg) hm hb (Vals.nons j) ha hd (zah q.1 es X.env) (zaz q.2)) (zbR rfl _ _ _)) fun D σ H q'=>?_;obtain⟨δ,ι,S,hs,hh,h⟩:=q';simp only[exT]at h;cases t:evEs cf B δ S with
 |ok ds S1=>
  rw[t]at h;dsimp only at h;unfold appW at h;refine tAs.run hs hh (Q:=fun m S'=>m=ds/\S'=S1) (by rw[t];exact⟨rfl,rfl⟩) fun m vs i w l x1 hs1 U r1 z'=>?_;obtain⟨z1,z2⟩:=z';subst z1 z2;intro y n hy E Y;have u:=U.new E (.own y);have x2:Ext i w i (upd w n (.own y)):=Ext.new E _;have I:(upd w n (.own y)) y=none:=by rw[zae (Ne.symm Y)];exact hy
  have hh3:=u.obj' I (.ins C n []) (.ins c []) ⟨C,n,[],hC,zag,rfl⟩;have x3:Ext i (upd w n (.own y)) (i++[y]) (upd (upd w n (.own y)) y (.ins C n [])):=Ext.obj u I _;have x4:=(x1.trans x2).trans x3;refine⟨fun v _ o=>∃d A a b,cf f (.ref l.len::(m++List.replicate j .non)) (l.push (.ins c []))=.err d A/\v=.ref a/\Ext (i++[y]) (upd (upd w n (.own y)) y (.ins C n [])) b o/\RV X.K b o d (.ref a)/\RH X.K b o A,⟨i++[y],l.push (.ins c []),.ref l.len::(m++List.replicate j .non),⟨.ref y,_,rfl,⟨y,u.last y,rfl⟩,RVs.append ((r1.ext x2).ext x3) (RVs.nons j)⟩,hh3,?_⟩,?_⟩;cases O:cf f (.ref l.len::(m++List.replicate j .non)) (l.push (.ins c [])) with
  |ok d A=>rw[O]at h;dsimp only at h⊢;intro v o b s r J;cases d with|non=>exact⟨r,h b o σ (x4.trans s) (hs.ext (x4.trans s)) J⟩|_=>exact h.elim
  |err d A=>exact fun a o b s r J=>⟨d,A,a,b,rfl,rfl,s,r,J⟩|bad=>rw[O]at h;exact h.elim
  rintro L s1 a o s' I1 I' fl ⟨d,A,a',b,O,z,s,r,J⟩;cases z;rw[O]at h;obtain⟨_,_,_,_,_,g,_⟩:=id fl.ex;exact h a b o s' s1.heap.objs.size L (x4.trans s) r J I' fl I1.sz (le_of_lt (Nat.lt_of_le_of_lt fl.lo (Heap.lt_size g))) fun p hp=>Heap.lt_size (I1.pin p hp).1
 |err d S1=>rw[t]at h;exact h.elim|bad=>rw[t]at h;exact h.elim
theorem zqB{st}(q:PS X st (tB X cf b))(s:PSs X rest (tS X cf r)):PSs X (st::rest) (tS X cf (.blk b r)):=by refine PSs.imp (zaC q s) fun E t H z=>eX z fun n u S Q v x w l=>⟨n,u,S,v,x,?_⟩;(conv at w=>lhs;whnf);cases e:exT cf b n S with|ok g h=>rw[e]at w;exact fun c o y i j m=>⟨g,c,h,Q,j,m,w,l.up i⟩| err d h=>rw[e]at w;exact fun a c o A lo f i B m C G l1 l2 I=>l (.ex d) c o h i m w a t f A B C (G.mono l1)|bad=>rw[e]at w;exact w.elim
noncomputable abbrev pnC(X:Cx)(pn:List (Addr×Obj))(E:Value->Shared->Prop):Cx:={X with pn:=pn,xe:=E}
theorem zr5(I:Inv X b c H s)(h:∀p∈pn++a,p∈X.pn++b):Inv (pnC X pn E) a c H s:=⟨⟨I.ok.mod,I.ok.kind,I.ok.glob,I.ok.blt,I.ok.above,I.ok.inj,I.ok.has,I.ok.cab,I.ok.hd,I.ok.frames,I.ok.stk,I.ok.exf,I.ok.bs,I.ok.bsz,I.ok.noex,I.ok.exfs,I.ok.funs,I.ok.frf⟩,I.os,I.bare,I.base,I.loc,I.cell,I.free,I.freeC,fun p d=>I.pin p (h p d),I.hok,I.len⟩
theorem zhZ(ok:X.Ok)(I:Inv (pnC X pn E) a c H s)(h:∀p∈X.pn++b,p∈pn++a):Inv X b c H s:=⟨ok,I.os,I.bare,I.base,I.loc,I.cell,I.free,I.freeC,fun p d=>I.pin p (h p d),I.hok,I.len⟩
theorem RS.unset{K}(h:RS K c H δ d)(i):RS K c H (δ.set i none) (d.set i none):=by
 refine⟨by simp[h.1],fun j e a=>?_⟩;by_cases b:i=j
 . subst b;rw[List.getElem?_set]at a;simp only[if_true]at a;split at a<;>cases a
 rw[getElem?_set_ne b]at a⊢;exact h.2 j e a
theorem zqx(G:Gd T cf k N sc X)(hb:∀pn E,PassesOwn (model X.prog X.w) X.A X.env E->PSs (pnC X pn E) A (tB (pnC X pn E) cf b))(stk:X.stack=X.env::X.outer)(fr:X.env.frame=some X.env.locals)(ht:T.xtrs.contains M=true)(hg:isGl sc M=true)(hdb:(M==("__debug__":Str))=false)(hn:N[ie]?=some n)(hy:N[ix]?=some y)(nl:sc.names.lookup n=some .local)(yl:zdh sc y=true)(n1:(n==("__debug__":Str))=false)(n2:(n==("__classdict__":Str))=false)(hij:ie≠ix)(hr:PSs X rest (tS X cf r)):
  PSs X (.Try A [.ExceptHandler (some (.Name M np)) (some n) [.Assign [.Name y p1] (.Name n p2) p3] B] [] [] pos::rest) (tS X cf (.tryS b M ie ix r)):=by
 obtain⟨CR,hm,hx⟩:=G.tab.xtb.tr M ht;have ps:PS X (.Try A [.ExceptHandler (some (.Name M np)) (some n) [.Assign [.Name y p1] (.Name n p2) p3] B] [] [] pos) (fun D O H=>∃t L S,RS X.K L H t O/\RH X.K L H S/\(match exT cf b t S with|.ok x o=>∀g i j,Ext L H g i->RS X.K g i x j->RH X.K g i o->D.nx j i|.err d o=>∀a g i,Ext L H g i->RV X.K g i d (.ref a)->RH X.K g i o->(∃c fs,zch o d=some (c,fs))/\D.nx ((O.set ie none).set ix (some (.ref a))) i|.bad=>False)):=by
  intro m s O H D I v;obtain⟨t,L,S,hs,hh,h⟩:=v;refine wpAny_Try_except ?_;refine wpAny_mono (hb (X.pn++m) (fun e s1=>wpAny (model X.prog X.w) X.A (noteFrame e X.env) (fun _ s2=>wpAny (model X.prog X.w) X.A (setFlight e none) (fun _ s3=>wpAny (model X.prog X.w) X.A (handleBy e X.env [.ExceptHandler (some (.Name M np)) (some n) [.Assign [.Name y p1] (.Name n p2) p3] B]) (SP X m D) X.xe s3) X.xe s2) X.xe s1) PassesOwn.looking [] s O H {nx:=D.nx,rt:=fun _ _=>False} (zr5 I (by simp)) ⟨t,L,S,hs,hh,?_⟩) (fun f s1 z=>?_) fun _ _ z=>z;cases e:exT cf b t S with|ok x o=>rw[e]at h;exact h|bad=>rw[e]at h;exact h| err d o=>rw[e]at h;intro a g i s' lo pins' U rv Y I' fl l1 l2 l3;have J:=zhZ I.ok I' (fun p B=>mem_append_left _ B);obtain⟨⟨c,fs,ec⟩,q⟩:=h a g i U rv Y;obtain⟨l,rfl,hl⟩:=zcH ec;obtain⟨b',i1,z⟩:=rv;obtain⟨b2,i2,C,dx,od,ws,hC,h1,h2,rf⟩:=Y.obj l _ hl;rw[i1]at i2;cases i2;cases z;exact zmY J stk fr fl l1 l2 (fun p B=>l3 p (mem_append_left _ B)) h1 (hx c C hC) (G.gl hg) hm hdb (by rw[G.nm];exact G.nd) (by rw[G.nm];exact hn) (by rw[G.nm];exact hy) (G.loc n nl) (G.lc yl).1 (G.lc yl).2 n1 n2 hij q
  cases f with| next=>obtain⟨j,i,I',q⟩:=z;exact wpAny_execs_nil ⟨j,i,zhZ I.ok I' (fun p B=>mem_append_left _ B),q⟩|ret u=>obtain⟨_,_,_,_,_,z⟩:=z;exact z.elim|brk=>obtain⟨_,_,_,z⟩:=z;exact z.elim|cont=>obtain⟨_,_,_,z⟩:=z;exact z.elim
 refine PSs.imp (zaC ps hr) fun E O H z'=>eX z' fun t L S Q hs hh w l=>⟨t,L,S,hs,hh,?_⟩;(conv at w=>lhs;whnf);cases e:exT cf b t S with|ok x o=>rw[e]at w;exact fun g i j U hs' Y=>⟨x,g,o,Q,hs',Y,w,l.up U⟩|bad=>rw[e]at w;exact w.elim| err d o=>rw[e]at w;intro a g i U rv Y;dsimp only at w;split at w;rename_i c;obtain⟨⟨c,fs⟩,ec⟩:=Option.isSome_iff_exists.mp c;exact⟨⟨c,fs,ec⟩,(t.set ie none).set ix (some d),g,o,Q,((hs.ext U).unset ie).set rv ix,Y,w,l.up U⟩;exact w.elim
noncomputable def zqo(X:Cx)(k:Nat)(m:Str)(q:TE)(t:TA):TE:=fun c H Q=>q c H fun x f=>∃(a C r:Addr) (g:List (Str×V)) (h:Addr) (i:FuncData) (j:List Str) (l:Sp),x=.ref a/\f a=some (.ins C r g)/\Cls X.K C/\Meth X.K C m h/\
 FnOk X.prog X.w X.K X.mg X.base (CXe X.prog X.w) k h i j l/\Binds X.K i j []/\g.lookup m=none/\t c f fun s n=>∃E,l (x::s) n Q E/\∀b o a d e,Inv X b c n o->Inv X b c d e->Fly o.heap.objs.size d e.heap a->E (.ref a) none d->X.xe (.ref a) e
theorem zl9(he:PE X o ta)(hr:Room k X.A)(ha:PA X (e::es) t)(f:attributeBase o m X.env (eval o X.env)=eval o X.env)(j:((backTo pos (starEach (e::es) X.env)).all (fun x=>!x.1)&&(backToKw pos (keywordEach [] X.env)).all (fun x=>x.1.isSome)
   && decide ((e::es).length+([]:List Keyword).length+(if([]:List Keyword).isEmpty then 0 else 1)<30))=true)(g:(apos.endLine==pos.line)=true)(A:starEach (e::es) X.env=(false,eval e X.env)::starEach es X.env)(B:(backTo pos (starEach es X.env)).any (·.1)=false):
  PE X (.Call (.Attribute o m apos) (e::es) [] pos) (zqo X k m ta t):=by
 intro d s M H Q I h;refine zcA f j g (thn (he d s M H _ I h) fun u s1 p pl=>?_);obtain⟨x,H1,O,rx,a,C,dx,fs,fa,fd,ps,sp,ex,ea,c,U,F,hb,l,q⟩:=p;subst ex;obtain rfl:u=Value.ref a:=rx;refine zc2 O ea c U l ?_;refine callWith_K (first:=[.ref a]) (h₀:=X.base) I.ok.mod.kin U.kp (thn (ha pos d s1 M H1 _ O q) fun n G ⟨Y,H2,i,r,E,q2,qx⟩=>⟨i.kIn,?_⟩) A B;have r2:Vals (V.ref a::Y) (Value.ref a::n):=.cons rfl r;have hl:(Value.ref a::n++[]).length=ps.length:=by rw[append_nil,<-r2.length];exact F.len _ _ _ _ q2
 have v:=hb G (.ref a::n) i.kIn hl;rw[append_nil]at v;refine wpAny_call (codeAny_mono (F.run X.A X.stack G H2 ⟨.ref a::n,[]⟩ (.ref a::n) (.ref a::Y) Q E hr i.env0 v r2 q2) fun r s' w=>?_);cases r with| error x=>obtain⟨a',H',rfl,os,y,un,J,L,hE⟩:=w;exact qx d G a' H' s' i (i.call' (ch:=[]) os un J y (fun b z=>absurd z (by simp))) L hE| ok L=>cases L with|ret u=>exact i.after w|next=>exact False.elim w|brk=>exact False.elim w|cont=>exact False.elim w
noncomputable def tX(X:Cx)(cf:CF)(x:XE):TE:=fun f H h=>∃g b S,RS X.K b H g f/\RH X.K b H S/\(match exX cf x g S with|.ok d e=>∀v a c,Ext b H a c->RV X.K a c d v->RH X.K a c e->h v c|.err d e=>XErr X f b H d e|.bad=>False)
theorem zj2{o:Out a}{d}(e:o=.ok d S)(f:a->R.St->Out b):o.ne.bind f=f d S:=by rw[e];rfl
theorem zj3{o:Out a}(h:∀d S,o≠.ok d S)(f:a->R.St->Out b):o.ne.bind f=.bad:=by cases o with|ok d S=>exact absurd rfl (h d S)|err d S=>rfl|bad=>rfl
theorem ziF(o:Out a):(∃d S,o=.ok d S)\/∀d S,o≠.ok d S:=by
 cases o with
 |ok d S=>exact .inl ⟨d,S,rfl⟩|err d S=>exact .inr fun _ _ e=>by cases e
 |bad=>exact .inr fun _ _ e=>by cases e
theorem zrh(h:PE X e (tE X.K cf b)):PE X e (tX X cf (.val b)):=by refine PE.imp h fun A H B z=>?_;obtain⟨c,l,S,m,s,q⟩:=z;simp only[exX]at q;rcases ziF (evE cf b c S) with⟨d,a,g⟩|n;rw[g]at q;exact⟨c,l,S,fun i j=>i=d/\j=a,m,s,by rw[g];exact⟨rfl,rfl⟩,fun v t z=>by obtain⟨i,f,j,x,r,u,w,y⟩:=z;subst w y;exact q v f t x r u⟩;cases o:evE cf b c S with|ok d a=>exact absurd o (n d a)|err d a=>rw[o]at q;exact q.elim|bad=>rw[o]at q;exact q.elim
theorem zoO(G:Gd T cf k N sc X)(d:T.xfns.contains f=true)(g:T.fns[f]?=some (x,ps,i))(j:isGl sc x=true)(hd:(x==("__debug__":Str))=false)(l:PA X (e::es) (tAs X.K cf b))(a:(e::es).all zai=true):
  PE X (.Call (.Name x p) (e::es) [] pos) (tX X cf (.call f b)):=by
 obtain⟨u,v,F,m,o,q⟩:=G.tab.xtb.fn f x ps i d g;rw[all_cons,and_eq_true]at a;refine PE.imp (zdl F G.room (G.gl j) m o q l hd (zah a.1 es X.env) (zaz a.2)) fun w H y z=>?_;obtain⟨r,A,S,s,t,h⟩:=z;simp only[exX]at h;rcases ziF (evEs cf b r S) with⟨B,C,c⟩|n;rw[zj2 c]at h;exact zcK G.tab.frm s t c h;rw[zj3 n]at h;exact h.elim
theorem zhN{P:Out D->Prop}(b:¬P .bad)(h:P (mthX m d x S g)):∃l c a f,x=.ref l/\S.get l=some (.ins c a)/\d.lookup c=some f/\a.lookup m=none/\P (g f):=by unfold mthX at h;split at h;rename_i e i;obtain⟨c,a⟩:=e;obtain⟨l,rfl,j⟩:=zdQ i;split at h;rename_i f n;split at h;rename_i o;exact⟨l,c,a,f,rfl,j,n,by simpa using o,h⟩;exact absurd h b;exact absurd h b;exact absurd h b
theorem zoN(G:Gd T cf k N sc X)(hm:mtB T m tb=true)(ho:PE X o (tE X.K cf co))(ha:PA X (e::es) (tAs X.K cf w))(q:(e::es).all zai=true)(A:zaE o=true)(hl:(apos.endLine==pos.line)=true)(hn:(e::es).length<29):
  PE X (.Call (.Attribute o m apos) (e::es) [] pos) (tX X cf (.meth m tb co w)):=by
 have hs:=q;rw[all_cons,and_eq_true]at q;refine PE.imp (zl9 ho G.room ha (zbg A m X.env _) (zkK hs hn) hl (zah q.1 es X.env) (zaz q.2)) fun σ H Qv y=>?_;obtain⟨δ,ι,S,hs,hh,h⟩:=y;simp only[exX]at h;rcases ziF (evE cf co δ S) with⟨x,B,e1⟩|n;rw[zj2 e1]at h;refine tE.run hs hh (Q:=fun d S'=>d=x/\S'=B) (by rw[e1];exact⟨rfl,rfl⟩) fun d v ι1 H1 S1' x1 hs1 E r1 k'=>?_;obtain⟨z1,z2⟩:=k';subst z1 z2;obtain⟨l,c,fs,f,rfl,hl,ef,I,h⟩:=zhN (P:=fun o=>match o with|.ok d B=>∀v i j,Ext ι H i j->RV X.K i j d v->RH X.K i j B->Qv v j|.err d B=>XErr X σ ι H d B|.bad=>False) (fun z=>z) h;have J:=r1;obtain⟨b,i1,rfl⟩:=r1;obtain⟨b',i2,C,dx,ws,hC,hb,rf⟩:=E.obj l _ hl;rw[i1]at i2;cases i2;have hmt:=all_eq_true.mp hm (c,f) (zcX ef);obtain⟨C',fa,fd,ps,L,cl,me,F,bi⟩:=(G.tab.mtx c m f hmt).ex;rw[hC]at L;cases L;have hlk:ws.lookup m=none:=by rcases rf.look m with⟨_,e2⟩|⟨d',v',e1,_,_⟩;exact e2;rw[e1]at I;cases I
 refine⟨b,C,dx,ws,fa,fd,ps,_,rfl,hb,cl,me,F,bi,hlk,?_⟩;rcases ziF (evEs cf w δ S1') with⟨ds,S2,e2⟩|n;rw[zj2 e2]at h;refine tAs.run hs1 E (Q:=fun d S'=>d=ds/\S'=S2) (by rw[e2];exact⟨rfl,rfl⟩) fun s vs t H2 u x2 hs2 M r2 z'=>?_;obtain⟨z1,z2⟩:=z';subst z1 z2;unfold appW at h;cases O:cf f (.ref l::s) u with| ok d T'=>rw[O]at h;refine⟨fun _ _ _=>False,⟨t,u,.ref l::s,⟨.ref b,vs,rfl,J.ext x2,r2⟩,M,?_⟩,fun _ _ _ _ _ _ _ _ z=>z.elim⟩;rw[O];exact fun v j i x r U=>h v i j ((x1.trans x2).trans x) r U| err d T'=>rw[O]at h;refine⟨fun v _ j=>∃a i,v=.ref a/\Ext t H2 i j/\RV X.K i j d (.ref a)/\RH X.K i j T',⟨t,u,.ref l::s,⟨.ref b,vs,rfl,J.ext x2,r2⟩,M,?_⟩,?_⟩;rw[O];exact fun a j i x r U=>⟨a,i,rfl,x,r,U⟩;rintro Y s1 a j s' I1 I' fl ⟨a',i,z,x,r,U⟩;cases z;obtain⟨_,_,_,_,_,g,_⟩:=id fl.ex;exact h a i j s' s1.heap.objs.size Y ((x1.trans x2).trans x) r U I' fl I1.sz (le_of_lt (Nat.lt_of_le_of_lt fl.lo (Heap.lt_size g))) fun p hp=>Heap.lt_size (I1.pin p hp).1|bad=>rw[O]at h;exact h.elim
 rw[zj3 n]at h;exact h.elim;rw[zj3 n]at h;exact h.elim
theorem zs4(G:Gd T cf k N sc X)(O:mtB T m Q=true)(U:PE X o (tX X cf x))(i:zaE o=true)(t:(apos.endLine==pos.line)=true):
  PE X (.Call (.Attribute o m apos) [] [] pos) (tX X cf (.on x m Q)):=by
 refine PE.imp (zfT U G.room (zbg i m X.env _) t) fun Y H Qv ⟨I,u,S,hs,hh,h⟩=>⟨I,u,S,hs,hh,?_⟩;simp only[exX]at h;cases j:exX cf x I S with
 |bad=>rw[j]at h;exact h|err d e=>rw[j]at h;exact h| ok d e=>
  rw[j]at h;intro v w H1 x1 J n;obtain⟨l,c,fs,f,rfl,t,ef,q,h⟩:=zhN (P:=fun o=>match o with|.ok d e=>∀v a g,Ext u H a g->RV X.K a g d v->RH X.K a g e->Qv v g|.err d e=>XErr X Y u H d e|.bad=>False) (fun z=>z) h;have y:=J;obtain⟨b,i1,rfl⟩:=J;obtain⟨b',L,C,dx,M,hC,hb,rf⟩:=n.obj l _ t;rw[i1]at L;cases L;have A:=all_eq_true.mp O (c,f) (zcX ef);obtain⟨C',fa,fd,ps,s,cl,me,F,bi⟩:=(G.tab.mth c m f A).ex;rw[hC]at s;cases s;have B:M.lookup m=none:=by rcases rf.look m with⟨_,e2⟩|⟨d',v',j,_,_⟩;exact e2;rw[j]at q;cases q
  refine⟨b,C,dx,M,fa,fd,ps,_,rfl,hb,cl,me,F,bi,B,w,e,[.ref l],⟨.ref b,[],rfl,y,rfl⟩,n,?_⟩;unfold appW at h;cases E:cf f [.ref l] e with|ok d T'=>rw[E]at h;exact fun v g a x r hT=>h v a g (x1.trans x) r hT|err d T'=>rw[E]at h;exact h.elim|bad=>rw[E]at h;exact h.elim
theorem zs5(E:PE X a (tE X.K cf t))(G:PE X i (tX X cf b))(I:zb8 i=true):PE X (.Subscript a i pos) (tX X cf (.ix t b)):=by
 refine PE.imp (zrt znB E G (zpv I)) fun σ H Qv k=>?_;obtain⟨f,ι,S,J,L,h⟩:=k;simp only[exX]at h;rcases ziF (evE cf t f S) with⟨x,w,A⟩|n;rw[zj2 A]at h;refine tE.run J L (Q:=fun d M=>d=x/\M=w) (by rw[A];exact⟨rfl,rfl⟩) fun d v g H1 c B l m O p=>?_;obtain⟨U,Y⟩:=p;subst U Y;refine⟨f,g,c,l,m,?_⟩;cases o:exX cf b f c with
 |bad=>rw[o]at h;exact h|err d w=>rw[o]at h;exact XErr.up h B| ok y S2=>
  rw[o,zan]at h;intro u q H2 C r2 e;unfold ixX at h;cases r:zbC S2 d with
  |none=>rw[r]at h;exact h.elim| some ds=>
   rw[r]at h;cases y with
   |int j=>dsimp only at h;cases s:atI ds j with|none=>rw[s]at h;exact h.elim| some z=>rw[s]at h;obtain rfl:u=.int j:=r2;obtain⟨u,h1,h2⟩:=zr3 e (O.ext C) r s;exact zjK h1 (h u q H2 (B.trans C) h2 e)
   |_=>exact h.elim
 rw[zj3 n]at h;exact h.elim
theorem zri(G:PT X c (tT X.K cf s))(I:PE X a (tX X cf t))(J:PE X b (tX X cf u)):PE X (.IfExp c a b pos) (tX X cf (.ite s t u)):=by
 refine PE.imp (zhI G I J) fun w H x k=>?_;obtain⟨j,A,S,L,M,h⟩:=k;simp only[exX]at h;rcases ziF (evT cf s j S) with⟨z,i,B⟩|n;rw[zj2 B]at h;refine tT.run L M (Q:=fun l O=>l=z/\O=i) (by rw[B];exact⟨rfl,rfl⟩) fun l m U f C o q p=>?_;obtain⟨Y,w2⟩:=p;subst Y w2;have E:∀y:XE,(match exX cf y j f with|.ok d i=>∀v e g,Ext A H e g->RV X.K e g d v->RH X.K e g i->x v g|.err d i=>XErr X w A H d i|.bad=>False)->tX X cf y w U x:=fun y h=>by refine⟨j,m,f,o,q,?_⟩;cases r:exX cf y j f with|bad=>rw[r]at h;exact h|err d S2=>rw[r]at h;exact XErr.up h C|ok d S2=>rw[r]at h;exact fun v e g x'=>h v e g (C.trans x')
 cases l with|true=>exact E t h|false=>exact E u h
 rw[zj3 n]at h;exact h.elim
theorem zoq(i:PE X e (tX X cf x))(j:zbj e=true):PS X (.Expr e pos) (tB X cf (.runX x)):=by refine PS.imp (zdH i (zbR j _ _ _)) fun D l H ⟨c,m,S,f,n,h⟩=>⟨c,m,S,f,n,?_⟩;simp only[exT]at h;cases a:exX cf x c S with|bad=>rw[a]at h;exact h|err d o=>rw[a]at h;exact h|ok d o=>rw[a]at h;exact fun v b q g r s=>h b q l g (f.ext g) s
theorem zn1(n:PE X e (tX X cf x))(o:PSs X rest (tS X cf r)):PSs X (.Return (some e) pos::rest) (tS X cf (.retX x r)):=by refine PSs.imp (zaC (zjP n) o) fun E q H z=>eX z fun m s S Q t u w l=>⟨m,s,S,t,u,?_⟩;(conv at w=>lhs;whnf);cases f:exX cf x m S with|bad=>rw[f]at w;exact w.elim|err d g=>rw[f]at w;exact fun a b h y lo c i A j B C l1 l2 G=>l (.ex d) b h g i j w a q c y A B (C.mono l1)|ok d g=>rw[f]at w;exact fun v b h i r j=>l (.rt d) b h g i j w v r
end
noncomputable def zr4:CL->Bool|.comp ..=>true|_=>false
noncomputable def zpx:CL->Bool|.rng1 _=>true|.rng2 _ _=>true|.enum _=>true|_=>false
noncomputable def zkt:CL->Bool|.enum _=>true|_=>false
noncomputable def zkv:Expr->Bool|.Tuple _ _ _=>true|_=>false
noncomputable def zbP:Expr->List Str
 |.Name x _=>[x]|.Tuple a _ _=>a.filterMap fun|.Name x _=>some x|_=>none
 |_=>[]
noncomputable def zpP(a scope:Scope)(N:List Str)(b:List Nat):Bool:=
 decide (scope.kind=.function)&&scope.names.all (fun y=>decide (y.2≠.cell))&&scope.names.all (fun y=>decide (y.2≠.local)||decide (scope.names.lookup y.1=some .local))
  && scope.names.all (fun y=>decide (y.2≠.free)||decide (a.names.lookup y.1=some .cell)||decide (a.names.lookup y.1=some .free))&&b.all (fun j=>decide (scope.names.lookup (N.getD j "")=some .free)&&decide (j<N.length))
noncomputable def nmB(x:Str):Bool:=!(x==("__debug__":Str))&&!(x==("__classdict__":Str))&&!(x==("__name__":Str))
noncomputable def tyB(t:String)(y:Str):Bool:=(t=="bool"&&y==("bool":Str))||(t=="int"&&y==("int":Str))||(t=="str"&&y==("str":Str))||(t=="list"&&y==("list":Str))||(t=="tuple"&&y==("tuple":Str))||(t=="dict"&&y==("dict":Str))
noncomputable def biB:Bi->Str->Nat->Bool
 |.len,x,n=>x==("len":Str)&&n==1|.abs,x,n=>x==("abs":Str)&&n==1|.isin _,_,_=>false
noncomputable def zbL:Expr->Option Str|.Name x _=>some x|_=>none
noncomputable def zjH:Expr->Option Const|.Constant c _ _=>some c|_=>none
noncomputable def zrf:Expr->Option (Expr×Operator×Expr)|.BinOp l o r _=>some (l,o,r)|_=>none
noncomputable def rdUn:Expr->Option (UnaryOp×Expr)|.UnaryOp o x _=>some (o,x)|_=>none
noncomputable def zjI:Expr->Option (Expr×List CmpOp×List Expr)|.Compare l os a _=>some (l,os,a)|_=>none
noncomputable def zfD:Expr->Option (BoolOp×List Expr×Pos)|.BoolOp o a p=>some (o,a,p)|_=>none
noncomputable def rdIf:Expr->Option (Expr×Expr×Expr)|.IfExp t x y _=>some (t,x,y)|_=>none
noncomputable def zlQ:Expr->Option (List Expr)|.Tuple a _ _=>some a|_=>none
noncomputable def znl:Expr->Option (List Expr)|.List a _=>some a|_=>none
noncomputable def zgG:Expr->Bool|.Dict a b _=>a.isEmpty&&b.isEmpty|_=>false
noncomputable def zci:List (Option Expr)->Option (List Str) | []=>some []|some (.Constant (.str k) _ _)::r=>(zci r).map (k::·)|_=>none
noncomputable def zlS:Expr->Option (List Str×List Expr)|.Dict a b _=>(zci a).map fun l=>(l,b)|_=>none
theorem zir(h:zci ks=some []):ks=[]:=by
 cases ks with
 |nil=>rfl
 |cons a r=>
  cases a with
  |none=>cases h
  |some e=>
   cases e with
   |Constant c _ _=>
    cases c with
    |str k=>
     replace h:(zci r).map (k::·)=some []:=h;cases e:zci r with
     |none=>rw[e]at h;cases h
     |some l=>rw[e]at h;cases h
    |_=>cases h
   |_=>cases h
theorem zbF(h:zci ks=some (k::l)):∃j p r,ks=some (.Constant (.str k) j p)::r/\zci r=some l:=by
 cases ks with
 |nil=>cases h
 |cons a r=>
  cases a with
  |none=>cases h
  |some e=>
   cases e with
   |Constant c _ _=>
    cases c with
    |str a=>
     replace h:(zci r).map (a::·)=some (k::l):=h;cases e:zci r with
     |none=>rw[e]at h;cases h
     |some b=>rw[e]at h;cases h;exact⟨_,_,_,rfl,e⟩
    |_=>cases h
   |_=>cases h
theorem zjC(h:zlS e=some ([f,g,i,j],vs)):∃a p1 b p2 c p3 d p4 p,e=.Dict [some (.Constant (.str f) a p1),some (.Constant (.str g) b p2),some (.Constant (.str i) c p3),some (.Constant (.str j) d p4)] vs p:=by
 cases e with
 |Dict k m p=>
  cases e:zci k with
  |none=>rw[zlS,e]at h;cases h
  |some l=>rw[zlS,e]at h;cases h;obtain⟨a,p1,s,rfl,n⟩:=zbF e;obtain⟨b,p2,t,rfl,o⟩:=zbF n;obtain⟨c,p3,u,rfl,q⟩:=zbF o;obtain⟨d,p4,v,rfl,r⟩:=zbF q;cases zir r;exact⟨a,p1,b,p2,c,p3,d,p4,p,rfl⟩
 |_=>cases h
noncomputable def zlR:Expr->Option (Expr×Expr)|.Subscript x i _=>some (x,i)|_=>none
noncomputable def zdB:Expr->Option (Expr×List Expr×List Keyword×Pos)|.Call f a b p=>some (f,a,b,p)|_=>none
noncomputable def zcv:Expr->Option (Expr×Str×Pos)|.Attribute o x p=>some (o,x,p)|_=>none
noncomputable def rdLC:Expr->Option (Expr×List Comprehension×Scope×Pos)|.ListComp e a b p=>some (e,a,b,p)|_=>none
section
variable{e l r x y i f:Expr}{xs rs as:List Expr}{ks:List Keyword}{p:Pos}
theorem zaH(h:zbL e=some n):∃p,e=.Name n p:=by cases e<;>first|(cases h;exact⟨_,rfl⟩)|cases h
theorem zgH(h:zjH e=some c):∃j p,e=.Constant c j p:=by cases e<;>first|(cases h;exact⟨_,_,rfl⟩)|cases h
theorem zjJ(h:zrf e=some (l,o,r)):∃p,e=.BinOp l o r p:=by cases e<;>first|(cases h;exact⟨_,rfl⟩)|cases h
theorem zeP(h:rdUn e=some (o,x)):∃p,e=.UnaryOp o x p:=by cases e<;>first|(cases h;exact⟨_,rfl⟩)|cases h
theorem zcu{os}(h:zjI e=some (l,os,rs)):∃p,e=.Compare l os rs p:=by cases e<;>first|(cases h;exact⟨_,rfl⟩)|cases h
theorem zb5(h:zfD e=some (o,xs,p)):e=.BoolOp o xs p:=by cases e<;>first|(cases h;rfl)|cases h
theorem zhD(h:rdIf e=some (l,x,y)):∃p,e=.IfExp l x y p:=by cases e<;>first|(cases h;exact⟨_,rfl⟩)|cases h
theorem zdy(h:zlQ e=some xs):∃j p,e=.Tuple xs j p:=by cases e<;>first|(cases h;exact⟨_,_,rfl⟩)|cases h
theorem ziq(h:znl e=some xs):∃p,e=.List xs p:=by cases e<;>first|(cases h;exact⟨_,rfl⟩)|cases h
theorem zdA(h:zgG e=true):∃p,e=.Dict [] [] p:=by
 cases e with
 |Dict ks a p=>
  cases ks with
  |cons _ _=>cases h
  |nil=>
   cases a with
   |cons _ _=>cases h
   |nil=>exact⟨_,rfl⟩
 |_=>cases h
theorem zdz(h:zlR e=some (x,i)):∃p,e=.Subscript x i p:=by cases e<;>first|(cases h;exact⟨_,rfl⟩)|cases h
theorem zcV(h:zdB e=some (f,as,ks,p)):e=.Call f as ks p:=by cases e<;>first|(cases h;rfl)|cases h
theorem zbe(h:zcv e=some (x,n,p)):e=.Attribute x n p:=by cases e<;>first|(cases h;rfl)|cases h
theorem zhC(h:rdLC e=some (x,gs,a,p)):e=.ListComp x gs a p:=by cases e<;>first|(cases h;rfl)|cases h
end
theorem zab{a:Type}{o:Option a}{f:a->Bool}(h:o.any f=true):∃x,o=some x/\f x=true:=by
 cases o with
 |none=>cases h
 |some x=>exact⟨x,rfl,h⟩
noncomputable def one{a:Type}:List a->Option a | [x]=>some x|_=>none
theorem zaK(h:one xs=some x):xs=[x]:=by match xs,h with| [y],h=>cases h;rfl
noncomputable def two{a:Type}:List a->Option (a×a) | [x,y]=>some (x,y)|_=>none
theorem two_inv(h:two xs=some (x,y)):xs=[x,y]:=by match xs,h with| [a,b],h=>cases h;rfl
noncomputable def zaO(e:Expr):Option (Str×List Expr):=(zdB e).bind fun q=>if q.2.2.1.isEmpty then(zbL q.1).map fun x=>(x,q.2.1) else none
theorem zaw(h:zaO e=some (x,as)):∃p2 p,e=.Call (.Name x p2) as [] p:=by
 unfold zaO at h;cases q:zdB e with
 |none=>rw[q]at h;cases h
 |some z=>
  obtain⟨f,d,b,p⟩:=z;rw[q]at h;dsimp only[bind_some]at h;split at h;rename_i c;cases a:zbL f with
  |none=>rw[a]at h;cases h
  |some y=>
   obtain⟨p2,rfl⟩:=zaH a;cases b with
   |cons _ _=>cases c
   |nil=>cases h;exact⟨p2,p,zcV q⟩
  cases h
noncomputable def zoH:Expr->Option (Expr×Expr)|.Call f a b _=>if zbL f=some "sorted" then(one a).bind fun o=>(one b).bind fun k=>if k.arg=some "key" then some (o,k.value) else none else none|_=>none
theorem zjB(h:zoH e=some (o,l)):∃p1 p2 p3,e=.Call (.Name "sorted" p1) [o] [⟨some "key",l,p2⟩] p3:=by
 cases e with
 |Call f a b p=>
  by_cases c:zbL f=some "sorted"
  . replace h:=(if_pos c).symm.trans h;obtain⟨x,i,h⟩:=Option.bind_eq_some_iff.mp h;obtain⟨k,j,h⟩:=Option.bind_eq_some_iff.mp h
    by_cases d:k.arg=some "key"
    . rw[if_pos d]at h;cases h;obtain⟨_,rfl⟩:=zaH c;obtain⟨q,r,s⟩:=k;cases d;rw[zaK i,zaK j];exact⟨_,_,_,rfl⟩
    . rw[if_neg d]at h;cases h
  . cases(if_neg c).symm.trans h
 |_=>cases h
noncomputable def zcn(e:Expr):Option (Str×Expr):=(zaO e).bind fun q=>(one q.2).map fun a=>(q.1,a)
theorem zbi(h:zcn e=some (x,a)):∃p2 p,e=.Call (.Name x p2) [a] [] p:=by
 unfold zcn at h;cases q:zaO e with
 |none=>rw[q]at h;cases h
 |some z=>
  obtain⟨y,d⟩:=z;rw[q]at h;dsimp only[bind_some]at h;cases c:one d with
  |none=>rw[c]at h;cases h
  |some b=>rw[c]at h;cases h;rw[zaK c]at q;exact zaw q
noncomputable def zfB(e:Expr):Option (Expr×Str×Pos×Expr×Pos):=(zdB e).bind fun q=>if q.2.2.1.isEmpty then(zcv q.1).bind fun a=>(one q.2.1).map fun y=>(a.1,a.2.1,a.2.2,y,q.2.2.2) else none
theorem zcU(h:zfB e=some (o,x,i,a,j)):e=.Call (.Attribute o x i) [a] [] j:=by
 unfold zfB at h;cases q:zdB e with
 |none=>rw[q]at h;cases h
 |some z=>
  obtain⟨f,k,l,p⟩:=z;rw[q]at h;dsimp only[bind_some]at h;split at h;rename_i c;cases d:zcv f with
  |none=>rw[d]at h;cases h
  |some y=>
   rw[d]at h;cases g:one k with
   |none=>rw[g]at h;cases h
   |some b=>
    rw[g]at h;cases h;cases l with
    |cons _ _=>cases c
    |nil=>rw[zcV q,zbe d,zaK g]
  cases h
noncomputable def zbp(e:Expr):Option (Expr×Str×Pos×List Expr×Pos):=(zdB e).bind fun q=>if q.2.2.1.isEmpty then(zcv q.1).map fun a=>(a.1,a.2.1,a.2.2,q.2.1,q.2.2.2) else none
theorem zaJ(h:zbp e=some (o,x,b,as,d)):e=.Call (.Attribute o x b) as [] d:=by
 unfold zbp at h;cases q:zdB e with
 |none=>rw[q]at h;cases h
 |some z=>
  obtain⟨f,j,g,p⟩:=z;rw[q]at h;dsimp only[bind_some]at h;split at h;rename_i c;cases a:zcv f with
  |none=>rw[a]at h;cases h
  |some y=>
   rw[a]at h;cases h;cases g with
   |cons _ _=>cases c
   |nil=>rw[zcV q,zbe a]
  cases h
noncomputable def fnB(T:Tab)(f j:Nat)(x:Str):Bool:=match T.fns[f]? with|some (y,_,a)=>(y==x)&&decide (j<=a)|none=>false
noncomputable def conG(T:Tab)(d:D)(x:Str):Bool:=match T.cons.lookup x with|some a=>eqC a d|none=>false
noncomputable def zg2:CL->Bool|.comp ..=>true|_=>false
noncomputable def zkw:CE->Bool|.tst (.con (.bl true))=>true|_=>false
noncomputable def zpg:CEs->Bool|.cons _ .nil=>true|_=>false
noncomputable def zpj:CEs->Bool|.nil=>true|_=>false
noncomputable def mtN:Mt->Str->Bool
 |.append,x=>x==("append":Str)|.count,x=>x==("count":Str)
noncomputable def ztr:Bi->Option String|.isin t=>some t|_=>none
noncomputable def tgB(a:Scope)(N:List Str)(g:List Nat)(b:Expr):Bool:=match zbL b with|some x=>(match one g with|some i=>(N[i]?==some x)&&zdh a x|none=>false)|none=>(zlQ b).any fun c=>decide (2<=g.length)&&zc8 a N g c
noncomputable def xsB(T:Tab)(a:Scope):List (Str×List Nat)->List Expr->Bool
 | [],[]=>true|r::b,e::c=>((zbL e).any fun x=>decide (x=r.1)&&isGl a x&&nmB x&&T.xisas.contains r)&&xsB T a b c|_,_=>false
theorem zi1:∀{rs:List (Str×List Nat)}{es:List Expr},xsB T d rs es=true->es.length=rs.length/\∀(i:Nat) e r,es[i]?=some e->rs[i]?=some r->∃p,e=.Name r.1 p/\isGl d r.1=true/\nmB r.1=true/\T.xisas.contains r=true
 | [],[],_=>⟨rfl,fun i e r z=>by simp at z⟩| [],_::_,h=>by cases h|_::_,[],h=>by cases h| r::rs,e::es,h=>by obtain⟨a,f⟩:=qa1 h;obtain⟨x,q,a⟩:=zab a;replace a:=qL (qL qd1) a;obtain⟨⟨⟨rfl,g⟩,j⟩,k⟩:=a;obtain⟨l,m⟩:=zi1 f;obtain⟨p,rfl⟩:=zaH q;refine⟨by simp[l],fun i n o b c=>?_⟩;cases i with|zero=>cases b;cases c;exact⟨p,rfl,g,j,k⟩|succ i=>exact m i n o (by simpa using b) (by simpa using c)
mutual
noncomputable def chkE(T:Tab)(e₀:CE)(N:List Str)(sc:Scope)(e:Expr):Bool:=match e₀ with
 |.loc i=>(zbL e).any fun x=>(N[i]?==some x)&&zmy sc x&&nmB x|.con d=>(zjH e).any (fun c=>conB d c)||(zbL e).any fun x=>isGl sc x&&conG T d x&&nmB x
 |.tst _=>false|.any=>zbj e|.bin op a b=>(zrf e).any fun q=>decide (q.2.1=op)&&chkE T a N sc q.1&&chkE T b N sc q.2.2|.neg a=>(rdUn e).any fun q=>decide (q.1=.USub)&&chkE T a N sc q.2|.nt a=>(rdUn e).any fun q=>decide (q.1=.Not)&&chkE T a N sc q.2|.cmp op a b=>(zjI e).any fun q=>decide (q.2.1=[op])&&(one q.2.2).any fun r=>za2 r&&chkE T a N sc q.1&&chkE T b N sc r|.cmp2 op op' a b c=>(zjI e).any fun q=>decide (q.2.1=[op,op'])&&(two q.2.2).any fun r=>za2 r.1&&za2 r.2&&chkE T a N sc q.1&&chkE T b N sc r.1&&chkE T c N sc r.2
 |.and a b=>(zfD e).any fun q=>decide (q.1=.And)&&(match q.2.1 with
  |x::y::rest=>chkE T a N sc x&&(if rest.isEmpty then chkE T b N sc y else chkE T b N sc (.BoolOp .And (y::rest) q.2.2))|_=>false)
 |.or a b=>(zfD e).any fun q=>decide (q.1=.Or)&&(match q.2.1 with
  |x::y::rest=>chkE T a N sc x&&(if rest.isEmpty then chkE T b N sc y else chkE T b N sc (.BoolOp .Or (y::rest) q.2.2))|_=>false)
 |.ite c a b=>(rdIf e).any fun q=>chkT T c N sc q.1&&chkE T a N sc q.2.1&&chkE T b N sc q.2.2|.tup es=>(zlQ e).any fun xs=>zbH T es N sc xs|.lst es=>(znl e).any fun xs=>zbH T es N sc xs|.dnew=>zgG e|.dnewT=>zgG e|.srtK a=>(zoH e).any fun q=>(((bltB T sc "sorted"&&zai q.1)&&lamB q.2)&&decide (N=T.lam))&&chkE T a N sc q.1|.sel4 k1 k2 k3 k4 a b c d i=>(zlR e).any fun q=>(zlS q.1).any fun z=>decide (z.1=[k1,k2,k3,k4])&&(decide ([k1,k2,k3,k4].Nodup)&&(zb8 q.2&&chkE T i N sc q.2))&&(match z.2 with | [e1,e2,e3,e4]=>chkE T a N sc e1&&(chkE T b N sc e2&&(chkE T c N sc e3&&chkE T d N sc e4))|_=>false)|.dget1 a b=>(zfB e).any fun q=>(q.2.1==("get":Str))&&zai q.2.2.2.1&&zaE q.1&&(q.2.2.1.endLine==q.2.2.2.2.line)&&chkE T a N sc q.1&&chkE T b N sc q.2.2.2.1|.dget2 a b c=>(zbp e).any fun q=>(two q.2.2.2.1).any fun z=>(q.2.1==("get":Str))&&zai z.1&&zai z.2&&zaE q.1&&(q.2.2.1.endLine==q.2.2.2.2.line)&&chkE T a N sc q.1&&chkE T b N sc z.1&&chkE T c N sc z.2|.dgetI a b c=>(zbp e).any fun q=>(two q.2.2.2.1).any fun z=>(q.2.1==("get":Str))&&zai z.1&&zai z.2&&zaE q.1&&(q.2.2.1.endLine==q.2.2.2.2.line)&&chkE T a N sc q.1&&chkE T b N sc z.1&&chkE T c N sc z.2|.dsetd a b c=>(zbp e).any fun q=>(two q.2.2.2.1).any fun z=>(q.2.1==("setdefault":Str))&&zai z.1&&zai z.2&&zaE q.1&&(q.2.2.1.endLine==q.2.2.2.2.line)&&chkE T a N sc q.1&&chkE T b N sc z.1&&chkE T c N sc z.2|.dsetI a b c=>(zbp e).any fun q=>(two q.2.2.2.1).any fun z=>(q.2.1==("setdefault":Str))&&zai z.1&&zai z.2&&zaE q.1&&(q.2.2.1.endLine==q.2.2.2.2.line)&&chkE T a N sc q.1&&chkE T b N sc z.1&&chkE T c N sc z.2|.extv a b=>(zfB e).any fun q=>(q.2.1==("extend":Str))&&zai q.2.2.2.1&&zaE q.1&&(q.2.2.1.endLine==q.2.2.2.2.line)&&chkE T a N sc q.1&&chkE T b N sc q.2.2.2.1|.fld a f=>(zcv e).any fun q=>decide (q.2.1=f)&&zaE q.1&&T.flds.contains f&&chkE T a N sc q.1|.mk c f x j es=>(zaO e).any fun q=>decide (q.1=x)&&isGl sc x&&nmB x&&decide (T.cls[c]?=some x)&&T.inits.contains (c,f,j)&&(!q.2.isEmpty||zpj es)&&zbH T es N sc q.2|.meth m tb o es=>(zbp e).any fun q=>decide (q.2.1=m)&&mtB T m tb&&zaE q.1&&(q.2.2.1.endLine==q.2.2.2.2.line)&&decide (q.2.2.2.1.length<29)&&(!q.2.2.2.1.isEmpty||zpj es)&&chkE T o N sc q.1&&zbH T es N sc q.2.2.2.1|.callC f x m es=>(zbp e).any fun q=>(zbL q.1).any fun y=>decide (y=x)&&decide (q.2.1=m)&&isGl sc x&&nmB x&&T.cms.contains (x,m,f)&&(q.2.2.1.endLine==q.2.2.2.2.line)&&decide (q.2.2.2.1.length<29)&&!q.2.2.2.1.isEmpty&&zbH T es N sc q.2.2.2.1|.fldX a f=>(zcv e).any fun q=>decide (q.2.1=f)&&zaE q.1&&T.xflds.contains f&&chkE T a N sc q.1|.iscX cs x a=>(zaO e).any fun q=>(two q.2).any fun z=>(zbL z.2).any fun y=>(q.1==("isinstance":Str))&&bltB T sc q.1&&decide (y=x)&&isGl sc x&&nmB x&&(T.xisas.contains (x,cs)||T.xisbs.contains (x,cs))&&zai z.1&&chkE T a N sc z.1|.iscT rs a=>(zaO e).any fun q=>(two q.2).any fun z=>(zlQ z.2).any fun xs=>(q.1==("isinstance":Str))&&bltB T sc q.1&&decide (0<rs.length/\rs.length<=1000)&&xsB T sc rs xs&&zai z.1&&chkE T a N sc z.1|.ix a b=>(zlR e).any fun q=>zb8 q.2&&chkE T a N sc q.1&&chkE T b N sc q.2|.call f j es=>(zaO e).any fun q=>isGl sc q.1&&nmB q.1&&fnB T f j q.1&&(!q.2.isEmpty||zpj es)&&zbH T es N sc q.2|.callW f j es=>(zaO e).any fun q=>isGl sc q.1&&nmB q.1&&fnB T f j q.1&&!q.2.isEmpty&&zbH T es N sc q.2
 |.bi b es=>(zaO e).any fun q=>bltB T sc q.1&&nmB q.1&&(match ztr b with
  |some t=>(two q.2).any fun z=>(zbL z.2).any fun y=>(q.1==("isinstance":Str))&&tyB t y&&bltB T sc y&&nmB y&&zpg es&&zbH T es N sc [z.1]|none=>biB b q.1 q.2.length&&!q.2.isEmpty&&zbH T es N sc q.2)
 |.mt m o es=>(zfB e).any fun q=>mtN m q.2.1&&zaE q.1&&(q.2.2.1.endLine==q.2.2.2.2.line)&&zpg es&&chkE T o N sc q.1&&zbH T es N sc [q.2.2.2.1]
 |.mkL l=>if zg2 l then(if(rdLC e).isSome then chkL T l N sc e else(zcn e).any fun q=>(q.1==("list":Str))&&bltB T sc q.1&&zai q.2&&chkL T l N sc q.2)
  else false
 |.mkT l=>(zcn e).any fun q=>(q.1==("tuple":Str))&&bltB T sc q.1&&zai q.2&&!(zpx l)&&chkL T l N sc q.2
noncomputable def zbH(T:Tab)(e₀:CEs)(N:List Str)(sc:Scope)(es:List Expr):Bool:=match e₀ with|.nil=>es.isEmpty|.cons a r=>(match es with | []=>false|e::es=>zai e&&chkE T a N sc e&&zbH T r N sc es)
noncomputable def chkT(T:Tab)(e₀:CE)(N:List Str)(sc:Scope)(e:Expr):Bool:=match e₀ with
 |.cmp op a b=>(zjI e).any fun q=>decide (q.2.1=[op])&&(one q.2.2).any fun r=>za2 r&&chkE T a N sc q.1&&chkE T b N sc r|.cmp2 op op' a b c=>(zjI e).any fun q=>decide (q.2.1=[op,op'])&&(two q.2.2).any fun r=>za2 r.1&&za2 r.2&&chkE T a N sc q.1&&chkE T b N sc r.1&&chkE T c N sc r.2|.nt a=>(rdUn e).any fun q=>decide (q.1=.Not)&&chkT T a N sc q.2
 |.and a b=>(zfD e).any fun q=>decide (q.1=.And)&&(match q.2.1 with
  |x::y::rest=>chkT T a N sc x&&(if rest.isEmpty then chkT T b N sc y else chkT T b N sc (.BoolOp .And (y::rest) q.2.2))|_=>false)
 |.or a b=>(zfD e).any fun q=>decide (q.1=.Or)&&(match q.2.1 with
  |x::y::rest=>chkT T a N sc x&&(if rest.isEmpty then chkT T b N sc y else chkT T b N sc (.BoolOp .Or (y::rest) q.2.2))|_=>false)
 |.tst a=>zhH e&&chkE T a N sc e|_=>false
noncomputable def chkL(T:Tab):CL->List Str->Scope->Expr->Bool
 |.val a,N,sc,e=>za2 e&&chkE T a N sc e|.rng1 a,N,sc,e=>(zcn e).any fun q=>(q.1==("range":Str))&&bltB T sc q.1&&zai q.2&&chkE T a N sc q.2|.rng2 a b,N,sc,e=>(zaO e).any fun q=>(two q.2).any fun z=>(q.1==("range":Str))&&bltB T sc q.1&&zai z.1&&zai z.2&&chkE T a N sc z.1&&chkE T b N sc z.2|.enum a,N,sc,e=>(zcn e).any fun q=>(q.1==("enumerate":Str))&&bltB T sc q.1&&zai q.2&&chkE T a N sc q.2
 |.comp nt js g it c e,N,sc,ex=>(rdLC ex).any fun q=>(one q.2.1).any fun z=>decide (z.is_async=0)&&zpP sc q.2.2.1 N js&&(za2 z.iter&&(zkv z.target||!(zkt it)))&&chkL T it N sc z.iter&&decide ((zbP z.target).length=nt)&&decide ((capN N (zbP z.target) js).Nodup/\capN N (zbP z.target) js≠T.lam)
  && tgB q.2.2.1 (capN N (zbP z.target) js) g z.target
  && (if z.ifs.isEmpty then zkw c else(one z.ifs).any fun t=>chkT T c (capN N (zbP z.target) js) q.2.2.1 t)
  && chkE T e (capN N (zbP z.target) js) q.2.2.1 q.1
end
noncomputable def zis:Stmt->Option (Expr×Expr×Pos)|.Assign a v p=>(one a).map fun t=>(t,v,p)|_=>none
noncomputable def zoI:Stmt->Option (Expr×List Stmt×List Stmt)|.If e a b _=>some (e,a,b)|_=>none
noncomputable def zoJ:Stmt->Option (Expr×Expr×List Stmt)|.For c d b a _=>if a.isEmpty then some (c,d,b) else none|_=>none
noncomputable def zlT:Stmt->Option Expr|.Return v _=>v|_=>none
noncomputable def zjG:Stmt->Option Expr|.Expr v _=>some v|_=>none
section
variable{s:Stmt}{e v tg it:Expr}{a b:List Stmt}{p:Pos}
theorem zcw(h:zis s=some (tg,v,p)):s=.Assign [tg] v p:=by
 cases s with
 |Assign c v p=>
  replace h:Option.map _ (one c)=_:=h;cases q:one c with
  |none=>rw[q]at h;cases h
  |some t=>rw[q]at h;cases h;rw[zaK q]
 |_=>cases h
theorem zfC(h:zoI s=some (e,a,b)):∃p,s=.If e a b p:=by cases s<;>first|(cases h;exact⟨_,rfl⟩)|cases h
theorem zjF(h:zoJ s=some (tg,it,b)):∃p,s=.For tg it b [] p:=by
 cases s with
 |For tg it b c p=>cases c with|nil=>cases h;exact⟨_,rfl⟩|cons _ _=>cases h
 |_=>cases h
theorem zfA(h:zlT s=some e):∃p,s=.Return (some e) p:=by cases s with|Return v p=>subst h;exact⟨_,rfl⟩|_=>cases h
theorem zct(h:zjG s=some e):∃p,s=.Expr e p:=by cases s<;>first|(cases h;exact⟨_,rfl⟩)|cases h
end
noncomputable def zjD:Stmt->Option (Str×Expr)|.Raise (some e) none _=>zcn e|_=>none
theorem zgF(h:zjD s=some (x,a)):∃d f p,s=.Raise (some (.Call (.Name x d) [a] [] f)) none p:=by
 cases s with
 |Raise e c p=>
  cases e with
  |none=>cases h
  |some e=>cases c with|none=>obtain⟨g,i,rfl⟩:=zbi h;exact⟨_,_,_,rfl⟩|some c=>cases h
 |_=>cases h
noncomputable def qlr:Stmt->Option (Expr×Expr)|.Assign [y] m _=>some (y,m)|_=>none
theorem qls{e a b}(h:qlr e=some (a,b)):∃p,e=.Assign [a] b p:=by
 cases e with
 |Assign ts v p=>
  cases ts with
  |nil=>cases h
  |cons y r=>
   cases r with
   |nil=>cases h;exact⟨_,rfl⟩
   |cons _ _=>cases h
 |_=>cases h
noncomputable def zlU:ExceptHandler->Option (Str×Str×Str)|.ExceptHandler (some t) (some n) [s] _=>(qlr s).bind fun z=>(zbL t).bind fun c=>(zbL z.1).bind fun y=>if zbL z.2=some n then some (c,n,y) else none|_=>none
theorem zjE(e:zlU h=some (c,n,y)):∃d p1 p2 p3 f,h=.ExceptHandler (some (.Name c d)) (some n) [.Assign [.Name y p1] (.Name n p2) p3] f:=by
 cases h with
 |ExceptHandler t m b p=>
 cases t with
 |none=>cases e
 |some t=>
 cases m with
 |none=>cases e
 |some m=>
 cases b with
 |nil=>cases e
 |cons s r=>
 cases r with
 |cons _ _=>cases e
 |nil=>
 obtain⟨z,f,e⟩:=Option.bind_eq_some_iff.mp e;obtain⟨a,g,e⟩:=Option.bind_eq_some_iff.mp e;obtain⟨b,i,e⟩:=Option.bind_eq_some_iff.mp e
 by_cases j:zbL z.2=some m
 . rw[if_pos j]at e;cases e;obtain⟨_,rfl⟩:=zaH g;obtain⟨p2,k⟩:=zaH i;obtain⟨p3,l⟩:=zaH j;obtain⟨q,rfl⟩:=qls f;rw[k,l];exact⟨_,_,_,_,_,rfl⟩
 . rw[if_neg j]at e;cases e
noncomputable def zoG:Stmt->Option (List Stmt×Str×Str×Str)|.Try c f d fin _=>if d.isEmpty&&fin.isEmpty then(one f).bind fun h=>(zlU h).map fun q=>(c,q) else none|_=>none
theorem zjA(h:zoG s=some (b,j,n,y)):∃d p1 p2 p3 f p,s=.Try b [.ExceptHandler (some (.Name j d)) (some n) [.Assign [.Name y p1] (.Name n p2) p3] f] [] [] p:=by
 cases s with
 |Try i k l fin p=>
  replace h:ite _ _ _=_:=h;split at h;rename_i c;rw[and_eq_true,isEmpty_iff,isEmpty_iff]at c;obtain⟨m,o⟩:=c;subst m o;cases e:one k with
  |none=>rw[e]at h;cases h
  |some r=>rw[e]at h;cases zaK e;cases g:zlU r with|none=>simp[g]at h| some q=>simp[g]at h;obtain⟨rfl,rfl,rfl,rfl⟩:=h;obtain⟨d,p1,p2,p3,f,rfl⟩:=zjE g;exact⟨d,p1,p2,p3,f,p,rfl⟩
  cases h
 |_=>cases h
noncomputable def chkX(T:Tab)(g:XE)(N:List Str)(d:Scope)(e:Expr):Bool:=match g with|.val a=>chkE T a N d e|.call f h=>(zaO e).any fun q=>isGl d q.1&&nmB q.1&&T.xfns.contains f&&fnB T f 0 q.1&&!q.2.isEmpty&&zbH T h N d q.2|.meth m i o h=>(zbp e).any fun q=>decide (q.2.1=m)&&mtB T m i&&zaE q.1&&(q.2.2.1.endLine==q.2.2.2.2.line)&&decide (q.2.2.2.1.length<29)&&!q.2.2.2.1.isEmpty&&chkE T o N d q.1&&zbH T h N d q.2.2.2.1|.ix a b=>(zlR e).any fun q=>zb8 q.2&&chkE T a N d q.1&&chkX T b N d q.2|.on o m i=>(zbp e).any fun q=>decide (q.2.1=m)&&mtB T m i&&zaE q.1&&(q.2.2.1.endLine==q.2.2.2.2.line)&&q.2.2.2.1.isEmpty&&chkX T o N d q.1|.ite c a b=>(rdIf e).any fun q=>chkT T c N d q.1&&chkX T a N d q.2.1&&chkX T b N d q.2.2
noncomputable def chkB(T:Tab)(k:TrB)(N:List Str)(d:Scope)(st:List Stmt):Bool:=match k with|.runX x=>(one st).any fun s=>(zjG s).any fun e=>zbj e&&chkX T x N d e|.run f h=>(one st).any fun s=>(zjG s).any fun e=>(zaO e).any fun q=>isGl d q.1&&nmB q.1&&T.xfns.contains f&&fnB T f 0 q.1&&!q.2.isEmpty&&zbH T h N d q.2|.asg i f h=>(one st).any fun s=>(zis s).any fun z=>(zbL z.1).any fun y=>(zaO z.2.1).any fun q=>(N[i]?==some y)&&zdh d y&&isGl d q.1&&nmB q.1&&T.xfns.contains f&&fnB T f 0 q.1&&!q.2.isEmpty&&zbH T h N d q.2|.ite c a b=>(one st).any fun s=>(zoI s).any fun q=>chkT T c N d q.1&&chkB T a N d q.2.1&&chkB T b N d q.2.2|.setF a f g h=>(one st).any fun s=>(zis s).any fun z=>(zcv z.1).any fun t=>(zaO z.2.1).any fun q=>decide (t.2.1=f)&&T.flds.contains f&&chkE T a N d t.1&&isGl d q.1&&nmB q.1&&T.xfns.contains g&&fnB T g 0 q.1&&!q.2.isEmpty&&zbH T h N d q.2|.mk c f x j h=>(one st).any fun s=>(zjG s).any fun e=>(zaO e).any fun q=>decide (q.1=x)&&isGl d x&&nmB x&&decide (T.cls[c]?=some x)&&T.inits.contains (c,f,j)&&!q.2.isEmpty&&zbH T h N d q.2
noncomputable def chkS(T:Tab)(j:CS)(N:List Str)(h:Scope)(st:List Stmt):Bool:=match j with|.nil=>st.isEmpty|.stop=>true|.asg i e r=>(match st with | []=>false|s::d=>(zis s).any fun q=>(zbL q.1).any fun x=>(N[i]?==some x)&&zdh h x&&chkE T e N h q.2.1&&chkS T r N h d)|.setF a f e r=>(match st with | []=>false|s::d=>(zis s).any fun q=>(zcv q.1).any fun z=>decide (z.2.1=f)&&T.flds.contains f&&zbj q.2.1&&chkE T a N h z.1&&chkE T e N h q.2.1&&chkS T r N h d)|.ifS c t u r=>(match st with | []=>false|s::d=>(zoI s).any fun q=>chkT T c N h q.1&&chkS T t N h q.2.1&&chkS T u N h q.2.2&&chkS T r N h d)|.forS g l b r=>(match st with | []=>false|s::d=>(zoJ s).any fun q=>za2 q.2.1&&chkL T l N h q.2.1&&chkS T b N h q.2.2&&chkS T r N h d&&(tgB h N g q.1&&(zkv q.1||!(zkt l))))|.retX x r=>(match st with | []=>false|s::d=>(zlT s).any fun v=>chkX T x N h v&&chkS T r N h d)|.ret e r=>(match st with | []=>false|s::d=>(zlT s).any fun v=>chkE T e N h v&&chkS T r N h d)|.expr e r=>(match st with | []=>false|s::d=>(zjG s).any fun v=>zbj v&&chkE T e N h v&&chkS T r N h d)|.rais c x f a=>(match st with | []=>false|s::_=>(zjD s).any fun q=>decide (q.1=x)&&isGl h x&&nmB x&&T.xcs.contains (c,x,f)&&zai q.2&&chkE T a N h q.2)|.blk b r=>(match st with | []=>false|s::d=>chkB T b N h [s]&&chkS T r N h d)|.tryS b x k m r=>(match st with | []=>false|s::d=>(zoG s).any fun q=>decide (q.2.1=x)&&isGl h x&&nmB x&&T.xtrs.contains x&&(N[k]?==some q.2.2.1)&&(N[m]?==some q.2.2.2)&&decide (h.names.lookup q.2.2.1=some .local)&&zdh h q.2.2.2&&nmB q.2.2.1&&decide (k≠m)&&chkB T b N h q.1&&chkS T r N h d)
end R
section
set_option maxHeartbeats 8000000
namespace R
open PySem PySem.Spec PyProof.Rows L2
variable[Mks]
section
variable{T:Tab}{cf:CF}{k:Nat}{N:List Str}{sc:Scope}{X:Cx}
theorem zbW(env)(x):∀{names:List (Str×NameKind)}{a:NameKind},names.lookup x=some a->a≠.free->(names.map (zcf env)).lookup x=some a
 | [],_,h,_=>by simp at h| y::r,a,h,c=>by
  rw[map_cons];have d:=zdx env y;have b:=zdw env y;obtain⟨n,f⟩:=y;generalize l:zcf env (n,f)=z at *;obtain⟨i,j⟩:=z;simp only at d b;subst d;rw[lookup_cons]at h⊢;cases g:x==i with
  |true=>rw[g]at h;have e:=Option.some.inj h;subst e;rcases b with b|⟨q,_⟩;rw[b];exact absurd q c
  |false=>rw[g]at h;exact zbW env x h c
theorem zib(G:Gd T cf k N sc X)(h:zpP sc scope N b=true):CompOk X.env.scope scope X.N b:=by unfold zpP at h;simp only[and_eq_true,all_eq_true,decide_eq_true_eq,or_eq_true]at h;obtain⟨⟨⟨⟨c,d⟩,f⟩,g⟩,i⟩:=h;refine⟨c,d,fun y a e=>?_,fun y a e=>?_,fun j l=>?_⟩;rcases f y a with z|z;exact absurd e z;exact z;rcases g y a with (z|z)|z;exact absurd e z;exact .inl (G.cell _ z);exact(G.free _ z).symm;rw[G.nm];exact i j l
theorem zkG(G:Gd T cf k N sc X)(ok:CompOk X.env.scope scope X.N b)(d:(capN N tgs b).Nodup/\capN N tgs b≠T.lam)(cl)(C)(f)(s)(H)(pn):
  Gd T cf k (capN N tgs b) scope (zaS X (capN X.N tgs b) scope cl C f s H pn):=by
 have a:(zaS X (capN X.N tgs b) scope cl C f s H pn).env.scope.names=scope.names.map (zcf X.env):=zbD scope X.env;have c:∀x,scope.names.lookup x≠some .cell:=fun x e=>ok.nocell _ (PySem.mem_of_lookup e) rfl;refine⟨by rw[<-G.nm],d.1,fun x e=>?_,fun x e=>absurd e (c x),fun x e=>?_,fun x e=>?_,.inr c,G.calm,PassesOwn.never,G.room',G.tab,fun z=>absurd z d.2⟩;exact zbW _ _ e (by decide);exact zbE _ _ _ e;exact zbW _ _ e (by decide)
theorem zaU(h:nmB x=true):(x==("__debug__":Str))=false/\(x==("__classdict__":Str))=false/\x≠("__name__":Str):=by unfold nmB at h;simp only[and_eq_true,not_eq_true']at h;exact⟨h.1.1,h.1.2,fun e=>by rw[e]at h;simp at h⟩
theorem zqe(h:tyB t y=true):t∈["bool","int","str","list","tuple","dict"]/\bootBuiltins y=some (.type t):=by unfold tyB at h;simp only[or_eq_true,and_eq_true,beq_iff_eq]at h;rcases h with ((((⟨rfl,rfl⟩|⟨rfl,rfl⟩)|⟨rfl,rfl⟩)|⟨rfl,rfl⟩)|⟨rfl,rfl⟩)|⟨rfl,rfl⟩;exact⟨by simp,zpU⟩;exact⟨by simp,zss⟩;exact⟨by simp,zsq⟩;exact⟨by simp,zlb⟩;exact⟨by simp,zig⟩;exact⟨by simp,zpT⟩
theorem zey(h:fnB T f j x=true):∃ps a,T.fns[f]?=some (x,ps,a)/\j<=a:=by
 unfold fnB at h;cases e:T.fns[f]? with
 |none=>rw[e]at h;cases h
 |some q=>obtain⟨y,ps,a⟩:=q;rw[e]at h;simp only[and_eq_true,beq_iff_eq,decide_eq_true_eq]at h;obtain⟨rfl,b⟩:=h;exact⟨ps,a,rfl,b⟩
theorem zax:∀{b:CEs}{N:List Str}{sc:Scope}{es:List Expr},zbH T b N sc es=true->es.all zai=true
 |.nil,N,sc,es,h=>by obtain rfl:=isEmpty_iff.mp h;rfl| .cons a r,N,sc,es,h=>by
  cases es with
  |nil=>cases h
  |cons e es=>replace h:=(and_eq_true _ _).mp h;simp[((and_eq_true _ _).mp h.1).1,zax h.2]
theorem zic(h:zpg es=true):∃a,es=.cons a .nil:=by
 cases es with
 |nil=>cases h
 |cons a r=>cases r with|nil=>exact⟨a,rfl⟩|cons _ _=>cases h
theorem ziV(G:Gd T cf k N sc X)(h:biB b x n=true):∃id,zcO X (.builtin id) (rB X.K fun S ds=>R.bi S b ds)/\bootBuiltins x=some (.builtin id):=by cases b with|len=>simp only[biB,and_eq_true,beq_iff_eq]at h;rw[h.1];exact⟨_,zrQ,zsr⟩|abs=>simp only[biB,and_eq_true,beq_iff_eq]at h;rw[h.1];exact⟨_,zsx,zst⟩|isin t=>simp[biB]at h
def LOk(T:Tab)(cf:CF)(k:Nat)(cl:CL)(X:Cx)(e:Expr):Prop:=(zpx cl=false->PE X e (tL X.K cf cl))/\(zr4 cl=true->PE X e (tLt X.K cf cl))/\(∀c,(zkv c||!(zkt cl))=true->PI X c e (tI X.K cf cl))/\
 ∀a,cl=.rng1 a->∃b d p,e=.Call (.Name "range" d) [b] [] p/\(Gl X "range"/\X.mg "range"=none)/\PE X b (tE X.K cf a)/\zai b=true
def EsOk(cf:CF)(b:CEs)(X:Cx)(es:List Expr):Prop:=PA X es (tAs X.K cf b)/\∀a r e c,b=.cons a r->es=e::c->PE X e (tE X.K cf a)
theorem znT(G:Gd T cf k N sc X)(h:tgB sc N g a=true):PG X a (tG X.K g):=by unfold tgB at h;split at h;rename_i x q;obtain⟨p,rfl⟩:=zaH q;split at h;rename_i i b;rw[zaK b];replace h:=qb1 h;exact zn9 G h.1 h.2;cases h;replace h:=zab h;obtain⟨c,q,h⟩:=h;obtain⟨j,p,rfl⟩:=zdy q;replace h:=qd1 h;exact zqH G h.2 h.1
theorem zht(h:zkw c=true):PTs X [] (tT X.K cf c):=by
 have f:c=.tst (.con (.bl true)):=by
  cases c with
  |tst a=>
   cases a with
   |con d=>
    cases d with
    |bl b=>cases b with|true=>rfl|false=>cases h
    |_=>cases h
   |_=>cases h
  |_=>cases h
 subst f;intro e g i j l I q;refine zoS e g i j l I ?_;obtain⟨o,m,S,Q,p,n,w,q⟩:=q;exact q _ _ ⟨m,S,Ext.refl _ _,n,w⟩
theorem zbh{x y:Str}(h:(x==y)=true):x=y:=by simpa using h
mutual
theorem zad:∀(ce:CE){N:List Str}{sc:Scope}{e:Expr}{X:Cx},Gd T cf k N sc X->chkE T ce N sc e=true->PE X e (tE X.K cf ce)
 |.loc i,N,sc,e,X,G,h=>by replace h:=zab h;obtain⟨x,q,h⟩:=h;obtain⟨p,rfl⟩:=zaH q;replace h:=qL qb1 h;obtain⟨h1,h2,_⟩:=zaU h.2;exact zqQ G h.1.1 h.1.2 h1 h2| .con d,N,sc,e,X,G,h=>by replace h:=(or_eq_true _ _).mp h;rcases h with h|h;replace h:=zab h;obtain⟨c,q,h⟩:=h;obtain⟨j,p,rfl⟩:=zgH q;exact zqT h;replace h:=zab h;obtain⟨x,q,h⟩:=h;obtain⟨p,rfl⟩:=zaH q;replace h:=qL qa1 h;obtain⟨h1,h2,_⟩:=zaU h.2;have h3:=h.1.2;unfold conG at h3;split at h3;rename_i d' e';exact zoi G h.1.1 e' h3 h1;cases h3
 |.tst a,N,sc,e,X,G,h=>by cases h| .bin op a b,N,sc,e,X,G,h=>by replace h:=zab h;obtain⟨⟨l,o,r⟩,q,h⟩:=h;obtain⟨p,rfl⟩:=zjJ q;replace h:=qL qd1 h;obtain⟨⟨rfl,h1⟩,h2⟩:=h;exact zqV (zad a G h1) (zad b G h2)| .neg a,N,sc,e,X,G,h=>by replace h:=zab h;obtain⟨⟨o,x⟩,q,h⟩:=h;obtain⟨p,rfl⟩:=zeP q;replace h:=qd1 h;obtain⟨rfl,h1⟩:=h;exact zqK (zad a G h1)| .nt a,N,sc,e,X,G,h=>by replace h:=zab h;obtain⟨⟨o,x⟩,q,h⟩:=h;obtain⟨p,rfl⟩:=zeP q;replace h:=qd1 h;obtain⟨rfl,h1⟩:=h;exact zsS (zad a G h1)| .cmp op a b,N,sc,e,X,G,h=>by replace h:=zab h;obtain⟨⟨l,os,rs⟩,q,h⟩:=h;obtain⟨p,rfl⟩:=zcu q;replace h:=qd1 h;obtain⟨e1,h⟩:=h;replace h:=zab h;obtain⟨r,q2,h⟩:=h;cases zaK q2;cases e1;replace h:=qL qa1 h;exact zqU G (zad a G h.1.2) (zad b G h.2) h.1.1| .cmp2 op op' a b c,N,sc,e,X,G,h=>by replace h:=zab h;obtain⟨⟨l,os,rs⟩,q,h⟩:=h;obtain⟨p,rfl⟩:=zcu q;replace h:=qd1 h;obtain⟨e1,h⟩:=h;replace h:=zab h;obtain⟨⟨r,r'⟩,q2,h⟩:=h;cases two_inv q2;cases e1;replace h:=qL (qL (qL qa1)) h;obtain⟨⟨⟨⟨h1,h2⟩,h3⟩,h4⟩,h5⟩:=h;exact zom G (zad a G h3) (zad b G h4) (zad c G h5) h1 h2| .and a b,N,sc,e,X,G,h=>by replace h:=zab h;obtain⟨⟨o,vs,p⟩,q,h⟩:=h;cases zb5 q;replace h:=qd1 h;obtain⟨e1,h⟩:=h;cases e1;dsimp only at h;split at h;rename_i x y rest;replace h:=qa1 h;obtain⟨h1,h2⟩:=h;split at h2;rename_i c;cases isEmpty_iff.mp c;exact zng (zad a G h1) (znq (zad b G h2));exact zng (zad a G h1) (zad b G h2);cases h
 |.or a b,N,sc,e,X,G,h=>by replace h:=zab h;obtain⟨⟨o,vs,p⟩,q,h⟩:=h;cases zb5 q;replace h:=qd1 h;obtain⟨e1,h⟩:=h;cases e1;dsimp only at h;split at h;rename_i x y rest;replace h:=qa1 h;obtain⟨h1,h2⟩:=h;split at h2;rename_i c;cases isEmpty_iff.mp c;exact zqJ (zad a G h1) (znq (zad b G h2));exact zqJ (zad a G h1) (zad b G h2);cases h
 |.ite c a b,N,sc,e,X,G,h=>by replace h:=zab h;obtain⟨⟨t,x,y⟩,q,h⟩:=h;obtain⟨p,rfl⟩:=zhD q;replace h:=qL qa1 h;exact zqR (zaR c G h.1.1).1 (zad a G h.1.2) (zad b G h.2)| .tup es,N,sc,e,X,G,h=>by replace h:=zab h;obtain⟨xs,q,h⟩:=h;obtain⟨j,p,rfl⟩:=zdy q;exact zqI (zaD es G h).1| .lst es,N,sc,e,X,G,h=>by replace h:=zab h;obtain⟨xs,q,h⟩:=h;obtain⟨p,rfl⟩:=ziq q;exact zqP (zaD es G h).1| .dnew,N,sc,e,X,G,h=>by obtain⟨p,rfl⟩:=zdA h;exact zol| .dnewT,N,sc,e,X,G,h=>by obtain⟨p,rfl⟩:=zdA h;exact zlz| .dget1 a b,N,sc,e,X,G,h=>by replace h:=zab h;obtain⟨⟨oe,x,ap,e1,cp⟩,q,h⟩:=h;cases zcU q;replace h:=qL (qL (qL (qL qa1))) h;obtain⟨⟨⟨⟨⟨hx,h1⟩,h2⟩,h3⟩,h4⟩,h5⟩:=h;cases zbh hx;exact zlC G (zad a G h4) (zad b G h5) h1 h2 h3| .dget2 a b c,N,sc,e,X,G,h=>by replace h:=zab h;obtain⟨⟨oe,x,ap,as,cp⟩,q,h⟩:=h;cases zaJ q;replace h:=zab h;obtain⟨⟨e1,e2⟩,q2,h⟩:=h;cases two_inv q2;replace h:=qL (qL (qL (qL (qL (qL qa1))))) h;obtain⟨⟨⟨⟨⟨⟨⟨hx,h1⟩,h2⟩,h3⟩,h4⟩,h5⟩,h6⟩,h7⟩:=h;cases zbh hx;exact zlB G (zad a G h5) (zad b G h6) (zad c G h7) h1 h2 h3 h4| .dgetI a b c,N,sc,e,X,G,h=>by replace h:=zab h;obtain⟨⟨oe,x,ap,as,cp⟩,q,h⟩:=h;cases zaJ q;replace h:=zab h;obtain⟨⟨e1,e2⟩,q2,h⟩:=h;cases two_inv q2;replace h:=qL (qL (qL (qL (qL (qL qa1))))) h;obtain⟨⟨⟨⟨⟨⟨⟨hx,h1⟩,h2⟩,h3⟩,h4⟩,h5⟩,h6⟩,h7⟩:=h;cases zbh hx;exact zlA G (zad a G h5) (zad b G h6) (zad c G h7) h1 h2 h3 h4| .dsetd a b c,N,sc,e,X,G,h=>by replace h:=zab h;obtain⟨⟨oe,x,ap,as,cp⟩,q,h⟩:=h;cases zaJ q;replace h:=zab h;obtain⟨⟨e1,e2⟩,q2,h⟩:=h;cases two_inv q2;replace h:=qL (qL (qL (qL (qL (qL qa1))))) h;obtain⟨⟨⟨⟨⟨⟨⟨hx,h1⟩,h2⟩,h3⟩,h4⟩,h5⟩,h6⟩,h7⟩:=h;cases zbh hx;exact zlx G (zad a G h5) (zad b G h6) (zad c G h7) h1 h2 h3 h4| .dsetI a b c,N,sc,e,X,G,h=>by replace h:=zab h;obtain⟨⟨oe,x,ap,as,cp⟩,q,h⟩:=h;cases zaJ q;replace h:=zab h;obtain⟨⟨e1,e2⟩,q2,h⟩:=h;cases two_inv q2;replace h:=qL (qL (qL (qL (qL (qL qa1))))) h;obtain⟨⟨⟨⟨⟨⟨⟨hx,h1⟩,h2⟩,h3⟩,h4⟩,h5⟩,h6⟩,h7⟩:=h;cases zbh hx;exact zly G (zad a G h5) (zad b G h6) (zad c G h7) h1 h2 h3 h4| .extv a b,N,sc,e,X,G,h=>by replace h:=zab h;obtain⟨⟨oe,x,ap,e1,cp⟩,q,h⟩:=h;cases zcU q;replace h:=qL (qL (qL (qL qa1))) h;obtain⟨⟨⟨⟨⟨hx,h1⟩,h2⟩,h3⟩,h4⟩,h5⟩:=h;cases zbh hx;exact zok (zad a G h4) (zad b G h5) h1 h2 h3| .ix a b,N,sc,e,X,G,h=>by replace h:=zab h;obtain⟨⟨x,i⟩,q,h⟩:=h;obtain⟨p,rfl⟩:=zdz q;replace h:=qL qa1 h;exact zsU (zad a G h.1.2) (zad b G h.2) h.1.1| .fld a f,N,sc,e,X,G,h=>by replace h:=zab h;obtain⟨⟨o,f',p⟩,q,h⟩:=h;cases zbe q;replace h:=qL (qL qd1) h;obtain⟨⟨⟨rfl,h2⟩,h3⟩,h4⟩:=h;exact zqS G (zad a G h4) h2 h3| .mk c f x j es,N,sc,e,X,G,h=>by
  replace h:=zab h;obtain⟨⟨x',args⟩,q,h⟩:=h;obtain⟨p2,p,rfl⟩:=zaw q;simp only[and_eq_true,or_eq_true,decide_eq_true_eq]at h;obtain⟨⟨⟨⟨⟨⟨rfl,h1⟩,h2⟩,h3⟩,h4⟩,h5⟩,h6⟩:=h;obtain⟨n1,n2,n3⟩:=zaU h2;have ha:=(zaD es G h6).1;cases args with
  |nil=>
   have:es=.nil:=by cases es with|nil=>rfl|cons _ _=>rcases h5 with z|z<;>cases z
   rw[this];exact zqO G h4 h3 h1 n1
  |cons a as=>exact zsT G h4 h3 h1 n1 ha (zax h6)
 |.meth m tb o es,N,sc,e,X,G,h=>by
  replace h:=zab h;obtain⟨⟨oe,m',ap,args,cp⟩,q,h⟩:=h;cases zaJ q;simp only[and_eq_true,or_eq_true,decide_eq_true_eq]at h;obtain⟨⟨⟨⟨⟨⟨⟨rfl,h1⟩,h2⟩,h3⟩,h4⟩,h5⟩,h6⟩,h7⟩:=h;have ho:=zad o G h6;have ha:=(zaD es G h7).1;cases args with
  |nil=>
   have:es=.nil:=by cases es with|nil=>rfl|cons _ _=>rcases h5 with z|z<;>cases z
   rw[this];exact zlw G h1 ho h2 h3
  |cons a as=>exact zoe G h1 ho ha (zax h7) h2 h3 h4
 |.fldX a f,N,sc,e,X,G,h=>by replace h:=zab h;obtain⟨⟨o,f',p⟩,q,h⟩:=h;cases zbe q;replace h:=qL (qL qd1) h;obtain⟨⟨⟨rfl,h2⟩,h3⟩,h4⟩:=h;exact zoj G (zad a G h4) h2 h3| .iscX cs x a,N,sc,e,X,G,h=>by replace h:=zab h;obtain⟨⟨x',args⟩,q,h⟩:=h;obtain⟨p2,p,rfl⟩:=zaw q;replace h:=zab h;obtain⟨⟨e1,e2⟩,q2,h⟩:=h;cases two_inv q2;replace h:=zab h;obtain⟨y,q3,h⟩:=h;obtain⟨p3,rfl⟩:=zaH q3;rw[and_eq_true,and_eq_true,and_eq_true,and_eq_true,and_eq_true,and_eq_true,and_eq_true,decide_eq_true_eq]at h;obtain⟨⟨⟨⟨⟨⟨⟨h0,h1⟩,rfl⟩,h2⟩,h3⟩,h4⟩,h5⟩,h6⟩:=h;cases zbh h0;exact zog G (zbO G h1) h2 (zaU h3).1 h4 (zad a G h6) h5| .iscT rs a,N,sc,e,X,G,h=>by
  replace h:=zab h;obtain⟨⟨x',args⟩,q,h⟩:=h;obtain⟨p2,p,rfl⟩:=zaw q;replace h:=zab h;obtain⟨⟨e1,e2⟩,q2,h⟩:=h;cases two_inv q2;replace h:=zab h;obtain⟨xs,q3,h⟩:=h;obtain⟨j,p3,hx⟩:=zdy q3;dsimp only at hx;subst hx;simp only[and_eq_true,decide_eq_true_eq,beq_iff_eq]at h;obtain⟨⟨⟨⟨⟨h0,h1⟩,h2⟩,h3⟩,h4⟩,h5⟩:=h
  (try dsimp only at h0)
  subst h0;obtain⟨l,hr⟩:=zi1 h3;exact zoh G (zbO G h1) l h2.1 h2.2 (fun i e' r z1 z2=>by obtain⟨p,a1,a2,a3,a4⟩:=hr i e' r z1 z2;exact⟨p,a1,a2,(zaU a3).1,a4⟩) (zad a G h5) h4
 |.any,N,sc,e,X,G,h=>fun pins s σ H Q I q=>by obtain⟨δ,ι,S,Q',hs,hh,w,_⟩:=q;exact w.elim| .callC f x m es,N,sc,e,X,G,h=>by
  replace h:=zab h;obtain⟨⟨oe,m',ap,args,cp⟩,q,h⟩:=h;cases zaJ q;replace h:=zab h;obtain⟨y,q3,h⟩:=h;obtain⟨p3,rfl⟩:=zaH q3;simp only[and_eq_true,decide_eq_true_eq]at h;obtain⟨⟨⟨⟨⟨⟨⟨⟨rfl,rfl⟩,h1⟩,h2⟩,h3⟩,h4⟩,h5⟩,h6⟩,h7⟩:=h;cases args with
  |nil=>cases h6
  |cons a as=>exact zlE G h3 h1 (zaU h2).1 rfl (zaD es G h7).1 (zax h7) h5 h4
 |.call f j es,N,sc,e,X,G,h=>by
  replace h:=zab h;obtain⟨⟨x,args⟩,q,h⟩:=h;obtain⟨p2,p,rfl⟩:=zaw q;simp only[and_eq_true,or_eq_true]at h;obtain⟨⟨⟨⟨h1,h2⟩,h3⟩,h4⟩,h5⟩:=h;obtain⟨n1,n2,n3⟩:=zaU h2;obtain⟨ps,nd,hf,hj⟩:=zey h3;have ha:=(zaD es G h5).1;cases args with
  |nil=>
   have:es=.nil:=by cases es with|nil=>rfl|cons _ _=>rcases h4 with z|z<;>cases z
   rw[this];exact zlF G hf hj h1 n1
  |cons a as=>exact zon G hf hj h1 n1 ha (zax h5)
 |.callW f j es,N,sc,e,X,G,h=>by
  replace h:=zab h;obtain⟨⟨x,args⟩,q,h⟩:=h;obtain⟨p2,p,rfl⟩:=zaw q;replace h:=qL (qL (qL qa1)) h;obtain⟨⟨⟨⟨h1,h2⟩,h3⟩,h4⟩,h5⟩:=h;obtain⟨n1,n2,n3⟩:=zaU h2;obtain⟨ps,nd,hf,hj⟩:=zey h3;have ha:=(zaD es G h5).1;cases args with
  |nil=>cases h4
  |cons a as=>exact zlD G hf hj h1 n1 ha (zax h5)
 |.bi b es,N,sc,e,X,G,h=>by
  replace h:=zab h;obtain⟨⟨x,args⟩,q,h⟩:=h;obtain⟨p2,p,rfl⟩:=zaw q;replace h:=qL qa1 h;obtain⟨⟨h1,h2⟩,h3⟩:=h;obtain⟨n1,n2,n3⟩:=zaU h2;split at h3;rename_i t qt;replace h3:=zab h3;obtain⟨⟨e1,e2⟩,q2,h3⟩:=h3;cases two_inv q2;replace h3:=zab h3;obtain⟨y,q3,h3⟩:=h3;obtain⟨p3,rfl⟩:=zaH q3;replace h3:=qL (qL (qL (qL qa1))) h3;obtain⟨⟨⟨⟨⟨hx,h4⟩,h5⟩,h6⟩,h7⟩,h8⟩:=h3;cases zbh hx;obtain⟨m1,m2,m3⟩:=zaU h6;obtain⟨t1,t2⟩:=zqe h4;obtain⟨a,ea⟩:=zic h7;have he:=(zaD es G h8).2 a .nil e1 [] ea rfl;have hst:=zax h8;have eb:b=.isin t:=by cases b with|isin _=>cases qt;rfl|_=>cases qt
  rw[ea,eb];exact zof G (zbO G h1) (zbO G h5) t2 t1 m3 m1 he (by simpa using hst);replace h3:=qL qa1 h3;cases args with
  |nil=>cases h3.1.2
  |cons a as=>obtain⟨id,hc,hv⟩:=ziV G h3.1.1;exact zsV hc (zbO G h1) hv (zaD es G h3.2).1 (zax h3.2) n3 n1
 |.mt m o es,N,sc,e,X,G,h=>by
  replace h:=zab h;obtain⟨⟨oe,x,ap,e1,cp⟩,q,h⟩:=h;cases zcU q;replace h:=qL (qL (qL (qL qa1))) h;obtain⟨⟨⟨⟨⟨h1,h2⟩,h3⟩,h4⟩,h5⟩,h6⟩:=h;obtain⟨a,ea⟩:=zic h4;have he:=(zaD es G h6).2 a .nil e1 [] ea rfl;have hst:zai e1=true:=by simpa using zax h6
  rw[ea];cases m with| append=>cases zbh h1;exact zqL PySem.F.slot_list_append PySem.F.type_list_append zlg (zad o G h5) he hst h2 h3| count=>cases zbh h1;exact zqL PySem.F.slot_list_count PySem.F.type_list_count zmX (zad o G h5) he hst h2 h3
 |.mkL l,N,sc,e,X,G,h=>by
  replace h:ite (zg2 l=true) _ _=true:=h;split at h;rename_i c;split at h;have ht:zr4 l=true:=by cases l with|comp=>rfl|_=>cases c
  exact PE.imp ((zc4 l G h).2.1 ht) fun σ H Qv q=>zj6 q;replace h:=zab h;obtain⟨⟨x,e1⟩,q,h⟩:=h;obtain⟨p2,p,rfl⟩:=zbi q;replace h:=qL (qL qa1) h;obtain⟨⟨⟨hx,h1⟩,h2⟩,h4⟩:=h;cases zbh hx;have hr:zpx l=false:=by cases l with|comp=>rfl|_=>cases c
  exact zqN G (zbO G h1) ((zc4 l G h4).1 hr) h2;cases h
 |.mkT l,N,sc,e,X,G,h=>by replace h:=zab h;obtain⟨⟨x,e1⟩,q,h⟩:=h;obtain⟨p2,p,rfl⟩:=zbi q;simp only[and_eq_true,not_eq_true']at h;obtain⟨⟨⟨⟨hx,h1⟩,h2⟩,h3⟩,h4⟩:=h;cases zbh hx;exact zqM G (zbO G h1) ((zc4 l G h4).1 h3) h2| .sel4 k1 k2 k3 k4 a b c d i,N,sc,e,X,G,h=>by
  replace h:=zab h;obtain⟨⟨o,ie⟩,q,h⟩:=h;obtain⟨p1,rfl⟩:=zdz q;replace h:=zab h;obtain⟨⟨ks,vs⟩,q,h⟩:=h;simp only[and_eq_true,decide_eq_true_eq]at h;obtain⟨⟨h1,h2,h3,h4⟩,h5⟩:=h;cases h1;obtain⟨j1,p1,j2,p2,j3,p3,j4,p4,p,rfl⟩:=zjC q
  match vs,h5 with
  | [e1,e2,e3,e4],h5=>simp only[and_eq_true]at h5;exact zod G h2 (zad a G h5.1) (zad b G h5.2.1) (zad c G h5.2.2.1) (zad d G h5.2.2.2) (zad i G h4) (zpv h3)| [],h5=>cases h5
  | [_],h5=>cases h5
  | [_,_],h5=>cases h5
  | [_,_,_],h5=>cases h5
  |_::_::_::_::_::_,h5=>cases h5
 |.srtK a,N,sc,e,X,G,h=>by replace h:=zab h;obtain⟨⟨o,le⟩,q,h⟩:=h;obtain⟨p1,p2,p3,rfl⟩:=zjB q;simp only[and_eq_true,decide_eq_true_eq]at h;obtain⟨⟨⟨⟨h1,h2⟩,h3⟩,h4⟩,h5⟩:=h;exact zoc G h4 (zbO G h1) (zad a G h5) h2 h3
theorem zaD:∀(ces:CEs){N:List Str}{sc:Scope}{es:List Expr}{X:Cx},Gd T cf k N sc X->zbH T ces N sc es=true->EsOk cf ces X es
 |.nil,N,sc,es,X,G,h=>by obtain rfl:=isEmpty_iff.mp h;exact⟨zni,fun a r e es' z=>by cases z⟩| .cons a r,N,sc,es,X,G,h=>by
  cases es with
  |nil=>cases h
  |cons e es=>replace h:=(and_eq_true _ _).mp h;have he:=zad a G ((and_eq_true _ _).mp h.1).2;exact⟨zjs he (zaD r G h.2).1 ((and_eq_true _ _).mp h.1).1,fun a' r' e' es' z1 z2=>by cases z1;cases z2;exact he⟩
theorem zaR:∀(ce:CE){N:List Str}{sc:Scope}{e:Expr}{X:Cx},Gd T cf k N sc X->chkT T ce N sc e=true->PT X e (tT X.K cf ce)/\((∃op v r p,e=.BoolOp op (v::r) p)->PW X e (tT X.K cf ce))
 |.cmp op a b,N,sc,e,X,G,h=>by replace h:=zab h;obtain⟨⟨l,os,rs⟩,q,h⟩:=h;obtain⟨p,rfl⟩:=zcu q;replace h:=qd1 h;obtain⟨e1,h⟩:=h;replace h:=zab h;obtain⟨r,q2,h⟩:=h;cases zaK q2;cases e1;replace h:=qL qa1 h;exact⟨zqw G (zad a G h.1.2) (zad b G h.2) h.1.1,fun⟨_,_,_,_,z⟩=>by cases z⟩| .cmp2 op op' a b c,N,sc,e,X,G,h=>by replace h:=zab h;obtain⟨⟨l,os,rs⟩,q,h⟩:=h;obtain⟨p,rfl⟩:=zcu q;replace h:=qd1 h;obtain⟨e1,h⟩:=h;replace h:=zab h;obtain⟨⟨r,r'⟩,q2,h⟩:=h;cases two_inv q2;cases e1;replace h:=qL (qL (qL qa1)) h;obtain⟨⟨⟨⟨h1,h2⟩,h3⟩,h4⟩,h5⟩:=h;exact⟨znZ G (zad a G h3) (zad b G h4) (zad c G h5) h1 h2,fun⟨_,_,_,_,z⟩=>by cases z⟩| .nt a,N,sc,e,X,G,h=>by replace h:=zab h;obtain⟨⟨o,x⟩,q,h⟩:=h;obtain⟨p,rfl⟩:=zeP q;replace h:=qd1 h;obtain⟨rfl,h1⟩:=h;exact⟨zsQ (zaR a G h1).1,fun⟨_,_,_,_,z⟩=>by cases z⟩| .and a b,N,sc,e,X,G,h=>by replace h:=zab h;obtain⟨⟨o,vs,p⟩,q,h⟩:=h;cases zb5 q;replace h:=qd1 h;obtain⟨e1,h⟩:=h;cases e1;dsimp only at h;split at h;rename_i x y rest;replace h:=qa1 h;obtain⟨h1,h2⟩:=h;split at h2;rename_i c;cases isEmpty_iff.mp c;have w:=znd (pos:=p) (zaR a G h1).1 (zoP (zaR b G h2).1);exact⟨w.pt,fun _=>w⟩;have w:=znd (zaR a G h1).1 ((zaR b G h2).2 ⟨_,_,_,_,rfl⟩);exact⟨w.pt,fun _=>w⟩;cases h
 |.or a b,N,sc,e,X,G,h=>by replace h:=zab h;obtain⟨⟨o,vs,p⟩,q,h⟩:=h;cases zb5 q;replace h:=qd1 h;obtain⟨e1,h⟩:=h;cases e1;dsimp only at h;split at h;rename_i x y rest;replace h:=qa1 h;obtain⟨h1,h2⟩:=h;split at h2;rename_i c;cases isEmpty_iff.mp c;have w:=zqv (pos:=p) (zaR a G h1).1 (zrj (zaR b G h2).1);exact⟨w.pt,fun _=>w⟩;have w:=zqv (zaR a G h1).1 ((zaR b G h2).2 ⟨_,_,_,_,rfl⟩);exact⟨w.pt,fun _=>w⟩;cases h
 |.tst a,N,sc,e,X,G,h=>by replace h:=(and_eq_true _ _).mp h;exact⟨zqu (zad a G h.2) h.1,fun⟨_,_,_,_,z⟩=>by rw[z]at h;cases h.1⟩|.loc i,N,sc,e,X,G,h=>absurd h Bool.false_ne_true|.con d,N,sc,e,X,G,h=>absurd h Bool.false_ne_true|.bin op a b,N,sc,e,X,G,h=>absurd h Bool.false_ne_true|.neg a,N,sc,e,X,G,h=>absurd h Bool.false_ne_true|.ite c a b,N,sc,e,X,G,h=>absurd h Bool.false_ne_true|.tup es,N,sc,e,X,G,h=>absurd h Bool.false_ne_true|.lst es,N,sc,e,X,G,h=>absurd h Bool.false_ne_true|.dnew,N,sc,e,X,G,h=>absurd h Bool.false_ne_true|.dnewT,N,sc,e,X,G,h=>absurd h Bool.false_ne_true|.dget1 a b,N,sc,e,X,G,h=>absurd h Bool.false_ne_true|.dget2 a b c,N,sc,e,X,G,h=>absurd h Bool.false_ne_true|.dgetI a b c,N,sc,e,X,G,h=>absurd h Bool.false_ne_true|.dsetd a b c,N,sc,e,X,G,h=>absurd h Bool.false_ne_true|.dsetI a b c,N,sc,e,X,G,h=>absurd h Bool.false_ne_true|.extv a b,N,sc,e,X,G,h=>absurd h Bool.false_ne_true|.ix a b,N,sc,e,X,G,h=>absurd h Bool.false_ne_true|.fld a f,N,sc,e,X,G,h=>absurd h Bool.false_ne_true|.mk c f x j es,N,sc,e,X,G,h=>absurd h Bool.false_ne_true|.meth m tb o es,N,sc,e,X,G,h=>absurd h Bool.false_ne_true|.fldX a f,N,sc,e,X,G,h=>absurd h Bool.false_ne_true|.iscX cs x a,N,sc,e,X,G,h=>absurd h Bool.false_ne_true|.iscT rs a,N,sc,e,X,G,h=>absurd h Bool.false_ne_true|.any,N,sc,e,X,G,h=>absurd h Bool.false_ne_true|.callC f x m es,N,sc,e,X,G,h=>absurd h Bool.false_ne_true|.call f j es,N,sc,e,X,G,h=>absurd h Bool.false_ne_true|.callW f j es,N,sc,e,X,G,h=>absurd h Bool.false_ne_true|.bi b es,N,sc,e,X,G,h=>absurd h Bool.false_ne_true|.mt m o es,N,sc,e,X,G,h=>absurd h Bool.false_ne_true|.mkL l,N,sc,e,X,G,h=>absurd h Bool.false_ne_true|.mkT l,N,sc,e,X,G,h=>absurd h Bool.false_ne_true|.srtK a,N,sc,e,X,G,h=>absurd h Bool.false_ne_true|.sel4 k1 k2 k3 k4 a b c d i,N,sc,e,X,G,h=>absurd h Bool.false_ne_true
theorem zc4:∀(cl:CL){N:List Str}{sc:Scope}{e:Expr}{X:Cx},Gd T cf k N sc X->chkL T cl N sc e=true->LOk T cf k cl X e
 |.val a,N,sc,e,X,G,h=>by replace h:=(and_eq_true _ _).mp h;have hp:=zqF (zad a G h.2);exact⟨fun _=>hp,fun z=>(by cases z),fun tg _=>zne hp zrO,fun a z=>by cases z⟩| .rng1 a,N,sc,e,X,G,h=>by replace h:=zab h;obtain⟨⟨x,e1⟩,q,h⟩:=h;obtain⟨p2,p,rfl⟩:=zbi q;replace h:=qL (qL qa1) h;obtain⟨⟨⟨hx,h1⟩,h2⟩,h3⟩:=h;cases zbh hx;have he:=zad a G h3;exact⟨fun z=>(by cases z),fun z=>(by cases z),fun tg _=>zn7 (zbO G h1) he h2,fun a z=>by cases z;exact⟨e1,p2,p,rfl,zbO G h1,he,h2⟩⟩| .rng2 a b,N,sc,e,X,G,h=>by replace h:=zab h;obtain⟨⟨x,args⟩,q,h⟩:=h;obtain⟨p2,p,rfl⟩:=zaw q;replace h:=zab h;obtain⟨⟨e1,e2⟩,q2,h⟩:=h;cases two_inv q2;replace h:=qL (qL (qL (qL qa1))) h;obtain⟨⟨⟨⟨⟨hx,h1⟩,h2⟩,h3⟩,h4⟩,h5⟩:=h;cases zbh hx;exact⟨fun z=>(by cases z),fun z=>(by cases z),fun tg _=>zn6 (zbO G h1) (zad a G h4) (zad b G h5) h2 h3,fun a z=>by cases z⟩| .enum a,N,sc,e,X,G,h=>by replace h:=zab h;obtain⟨⟨x,e1⟩,q,h⟩:=h;obtain⟨p2,p,rfl⟩:=zbi q;replace h:=qL (qL qa1) h;obtain⟨⟨⟨hx,h1⟩,h2⟩,h3⟩:=h;cases zbh hx;refine⟨fun z=>(by cases z),fun z=>(by cases z),fun tg ht=>?_,fun a z=>by cases z⟩;cases tg with|Tuple es j pt=>exact zn8 (zbO G h1) (zad a G h3) h2|_=>cases ht
 |.comp nt js g it c e,N,sc,ex,X,G,h=>by
  replace h:=zab h;obtain⟨⟨elt,gs,scope,p⟩,q,h⟩:=h;cases zhC q;replace h:=zab h;obtain⟨⟨tg,iter,ifs,asy⟩,q2,h⟩:=h;cases zaK q2;rw[and_eq_true,and_eq_true,and_eq_true,and_eq_true,and_eq_true,and_eq_true,and_eq_true,and_eq_true,decide_eq_true_eq,decide_eq_true_eq,decide_eq_true_eq]at h;obtain⟨⟨⟨⟨⟨⟨⟨⟨h1,h2⟩,h3⟩,h4⟩,h5⟩,h6⟩,h7⟩,h8⟩,h9⟩:=h;dsimp only at h1 h2 h3 h4 h5 h6 h7 h8 h9;replace h3:=qa1 h3;subst h1 h5;have ok:=zib G h2;have G':=zkG G (tgs:=zbP tg) ok h6;have ht:∀cl C fp s H pn,PTs (zaS X (capN X.N (zbP tg) js) scope cl C fp s H pn) ifs (tT X.K cf c):=fun cl C fp s H pn=>by split at h8;rename_i ce;cases isEmpty_iff.mp ce;exact zht (X:=zaS X (capN X.N (zbP tg) js) scope cl C fp s H pn) h8;replace h8:=zab h8;obtain⟨t,q3,h8⟩:=h8;cases zaK q3;exact zjN (zaR c (G' cl C fp s H pn) h8).1
  have hp:PE X (.ListComp elt [⟨tg,iter,ifs,0⟩] scope p) (tLt X.K cf (.comp (zbP tg).length js g it c e)):=PE.imp (zmd X.env.scope (zbP tg) js G.calm rfl ok ((zc4 it G h4).2.2.1 tg h3.2) (fun cl C fp s H pn=>znT (G' cl C fp s H pn) h7) ht (fun cl C fp s H pn=>zad e (G' cl C fp s H pn) h9) (zg4 h3.1 X.env)) fun σ H Qv q=>zia G.tab.frm q;exact⟨fun _=>(PE.ofT hp),fun _=>hp,fun tg _=>zne (PE.ofT hp) zpr,fun a z=>by cases z⟩
end
end
end R
end
namespace R
open PySem PySem.Spec PyProof.Rows L2
variable[Mks]
section
variable{T:Tab}{cf:CF}{k:Nat}
theorem zn3(G:Gd T cf k N sc X)(hi:N[i]?=some x)(A:zdh sc x=true)(h:chkE T (.mkL l) N sc (.ListComp o gs scope p2)=true)(hr:PSs X rest (tS X cf r)):
  PSs X (.Assign [.Name x p] (.ListComp o gs scope p2) pos::rest) (tS X cf (.asg i (.mkL l) r)):=by
 have B:∃b,swapsWith (.ListComp o gs scope p2) (some (.Name x p)) pos.line X.env=pure b:=⟨_,rfl⟩;obtain⟨b,B⟩:=B;cases b with
 |false=>refine PSs.imp (zaC (zfR (i:=i) (by rw[G.nm];exact G.nd) (by rw[G.nm];exact hi) (G.lc A).1 (zad (.mkL l) G h) B (G.lc A).2) hr) fun E σ H z=>eX z fun δ ι S Q hs hh w lf=>?_;refine tE.run hs hh w.b fun d v L H1 S1 x1 M O r1 w1=>?_;exact⟨δ.set i (some d),L,S1,Q,M.set r1 i,O,w1,lf.up x1⟩| true=>
  replace h:ite (zg2 l=true) _ _=true:=h;split at h;rename_i c0;split at h;cases l with
  |comp nt u g it c e=>
   replace h:=zab h;obtain⟨⟨elt',gs',I,p'⟩,q,h⟩:=h;cases zhC q;replace h:=zab h;obtain⟨⟨m,iter,U,asy⟩,q2,h⟩:=h;cases zaK q2;rw[and_eq_true,and_eq_true,and_eq_true,and_eq_true,and_eq_true,and_eq_true,and_eq_true,and_eq_true,decide_eq_true_eq,decide_eq_true_eq,decide_eq_true_eq]at h;obtain⟨⟨⟨⟨⟨⟨⟨⟨h1,h2⟩,J⟩,h4⟩,h5⟩,h6⟩,h7⟩,n⟩,h9⟩:=h;dsimp only at h1 h2 J h4 h5 h6 h7 n h9;replace J:=qa1 J;subst h1 h5;have ok:=zib G h2;have Y:=zkG G (tgs:=zbP m) ok h6;have ht:∀a C f s H j,PTs (zaS X (capN X.N (zbP m) u) scope a C f s H j) U (tT X.K cf c):=fun a C f s H j=>by split at n;rename_i ce;cases isEmpty_iff.mp ce;exact zht (X:=zaS X (capN X.N (zbP m) u) scope a C f s H j) n;replace n:=zab n;obtain⟨t,q3,n⟩:=n;cases zaK q3;exact zjN (zaR c (Y a C f s H j) n).1
   have he:∀a C f s H j,PE (zaS X (capN X.N (zbP m) u) scope a C f s H j) o (tE X.K cf e):=fun a C f s H j=>zad e (Y a C f s H j) h9;have hg:∀a C f s H j,PG (zaS X (capN X.N (zbP m) u) scope a C f s H j) m (tG X.K g):=fun a C f s H j=>znT (Y a C f s H j) h7;have hps:=zoT (spos:=pos) (py:=p) (pos:=p2) X.env.scope (zbP m) u (i:=i) (y:=x) (by rw[G.nm];exact G.nd) (by rw[G.nm];exact hi) (G.lc A).1 G.calm rfl ok ((zc4 it G h4).2.2.1 m J.2) hg ht he B (zg4 J.1 X.env) (G.lc A).2;exact zn4 G hi ⟨_,hps,fun σ H Qv q=>zia G.tab.frm (zj6 q)⟩ hr
  |_=>cases c0
  cases h;cases h
theorem zpO(h:zbj v=false)(a:chkE T e N c v=true):∃l b gs scope p,v=.ListComp b gs scope p/\e=.mkL l:=by
 cases v with
 |ListComp b gs scope p=>cases e with|mkL l=>exact⟨l,b,gs,scope,p,rfl,rfl⟩|any=>exact absurd (h.symm.trans a) Bool.false_ne_true|_=>exact absurd a Bool.false_ne_true
 |SetComp=>cases e<;>(first|exact absurd a Bool.false_ne_true|exact absurd (h.symm.trans a) Bool.false_ne_true|(rename_i l;cases l<;>exact absurd a Bool.false_ne_true))|DictComp=>cases e<;>(first|exact absurd a Bool.false_ne_true|exact absurd (h.symm.trans a) Bool.false_ne_true|(rename_i l;cases l<;>exact absurd a Bool.false_ne_true))|_=>cases h
theorem zc3:∀(x:XE){N:List Str}{d:Scope}{e:Expr}{X:Cx},Gd T cf k N d X->chkX T x N d e=true->PE X e (tX X cf x)
 |.val a,N,d,e,X,G,h=>zrh (zad a G h)| .call f u,N,d,e,X,G,h=>by
  replace h:=zab h;obtain⟨⟨x,args⟩,q,h⟩:=h;obtain⟨I,p,rfl⟩:=zaw q;replace h:=qL (qL (qL (qL qa1))) h;obtain⟨⟨⟨⟨⟨g,j⟩,l⟩,n⟩,r⟩,s⟩:=h;obtain⟨J,L,z,M⟩:=zey n;cases args with
  |nil=>cases r
  |cons a v=>exact zoO G l z g (zaU j).1 (zaD u G s).1 (zax s)
 |.meth m A o u,N,d,e,X,G,h=>by
  replace h:=zab h;obtain⟨⟨B,C,E,args,H⟩,q,h⟩:=h;cases zaJ q;simp only[and_eq_true,decide_eq_true_eq]at h;obtain⟨⟨⟨⟨⟨⟨⟨rfl,g⟩,j⟩,l⟩,n⟩,r⟩,s⟩,w⟩:=h;cases args with
  |nil=>cases r
  |cons a v=>exact zoN G g (zad o G s) (zaD u G w).1 (zax w) j l n
 |.ix a b,N,d,e,X,G,h=>by replace h:=zab h;obtain⟨⟨x,i⟩,q,h⟩:=h;obtain⟨p,rfl⟩:=zdz q;replace h:=qL qa1 h;exact zs5 (zad a G h.1.2) (zc3 b G h.2) h.1.1| .on o m A,N,d,e,X,G,h=>by replace h:=zab h;obtain⟨⟨B,C,E,args,H⟩,q,h⟩:=h;cases zaJ q;replace h:=qL (qL (qL (qL qd1))) h;obtain⟨⟨⟨⟨⟨rfl,g⟩,j⟩,l⟩,n⟩,r⟩:=h;cases args with|nil=>exact zs4 G g (zc3 o G r) j l|cons a v=>cases n
 |.ite c a b,N,d,e,X,G,h=>by replace h:=zab h;obtain⟨⟨t,x,y⟩,q,h⟩:=h;obtain⟨p,rfl⟩:=zhD q;replace h:=qL qa1 h;exact zri (zaR c G h.1.1).1 (zc3 a G h.1.2) (zc3 b G h.2)
theorem zfl:∀(b:TrB){N:List Str}{n:Scope}{st:List Stmt}{X:Cx},Gd T cf k N n X->X.stack=X.env::X.outer/\X.env.frame=some X.env.locals->chkB T b N n st=true->∃s,st=[s]/\PS X s (tB X cf b)
 |.runX x,N,n,st,X,G,F,h=>by replace h:=zab h;obtain⟨s,d,h⟩:=h;cases zaK d;replace h:=zab h;obtain⟨v,m,h⟩:=h;obtain⟨p,rfl⟩:=zct m;replace h:=qa1 h;exact⟨_,rfl,zoq (zc3 x G h.2) h.1⟩| .run f r,N,n,st,X,G,F,h=>by
  replace h:=zab h;obtain⟨s,d,h⟩:=h;cases zaK d;replace h:=zab h;obtain⟨v,m,h⟩:=h;obtain⟨p,rfl⟩:=zct m;replace h:=zab h;obtain⟨⟨x,args⟩,q,h⟩:=h;obtain⟨H,p,rfl⟩:=zaw q;replace h:=qL (qL (qL (qL qa1))) h;obtain⟨⟨⟨⟨⟨t,u⟩,w⟩,z⟩,C⟩,l⟩:=h;obtain⟨O,Q,E,U⟩:=zey z;cases args with
  |nil=>cases C
  |cons a I=>exact⟨_,rfl,zqW G w E t (zaU u).1 (zaD r G l).1 (zax l)⟩
 |.asg i f r,N,n,st,X,G,F,h=>by
  replace h:=zab h;obtain⟨s,d,h⟩:=h;cases zaK d;replace h:=zab h;obtain⟨⟨tg,v,pos⟩,m,h⟩:=h;cases zcw m;replace h:=zab h;obtain⟨y,J,h⟩:=h;obtain⟨py,Y⟩:=zaH J;dsimp only at Y;subst Y;replace h:=zab h;obtain⟨⟨x,args⟩,q,h⟩:=h;obtain⟨H,p,hv⟩:=zaw q;dsimp only at hv;subst hv;replace h:=qL (qL (qL (qL (qL (qL qb1))))) h;obtain⟨⟨⟨⟨⟨⟨⟨L,M⟩,t⟩,u⟩,w⟩,z⟩,C⟩,l⟩:=h;obtain⟨O,Q,E,U⟩:=zey z;cases args with
  |nil=>cases C
  |cons a I=>exact⟨_,rfl,zqY G L M w E t (zaU u).1 (zaD r G l).1 (zax l)⟩
 |.ite c a b,N,n,st,X,G,F,h=>by replace h:=zab h;obtain⟨s,d,h⟩:=h;cases zaK d;replace h:=zab h;obtain⟨⟨e,A,B⟩,q,h⟩:=h;obtain⟨p,rfl⟩:=zfC q;replace h:=qL qa1 h;obtain⟨sa,ea,ha⟩:=zfl a G F h.1.2;obtain⟨sb,eb,hb⟩:=zfl b G F h.2;subst ea eb;exact⟨_,rfl,zqX (zaR c G h.1.1).1 (zjq ha) (zjq hb)⟩| .setF a f g r,N,n,st,X,G,F,h=>by
  replace h:=zab h;obtain⟨s,d,h⟩:=h;cases zaK d;replace h:=zab h;obtain⟨⟨tg,v,pos⟩,m,h⟩:=h;cases zcw m;replace h:=zab h;obtain⟨⟨o,f',p⟩,J,h⟩:=h;have hx:=zbe J;dsimp only at hx;subst hx;replace h:=zab h;obtain⟨⟨x,args⟩,q,h⟩:=h;obtain⟨H,p',hv⟩:=zaw q;dsimp only at hv;subst hv;replace h:=qL (qL (qL (qL (qL (qL (qL qd1)))))) h;obtain⟨⟨⟨⟨⟨⟨⟨⟨rfl,L⟩,M⟩,t⟩,u⟩,w⟩,z⟩,C⟩,l⟩:=h;obtain⟨O,Q,E,U⟩:=zey z;cases args with
  |nil=>cases C
  |cons e I=>exact⟨_,rfl,zop G L (zad a G M) w E t (zaU u).1 (zaD r G l).1 (zax l)⟩
 |.mk c f x j r,N,n,st,X,G,F,h=>by
  replace h:=zab h;obtain⟨s,d,h⟩:=h;cases zaK d;replace h:=zab h;obtain⟨v,m,h⟩:=h;obtain⟨p,rfl⟩:=zct m;replace h:=zab h;obtain⟨⟨x',args⟩,q,h⟩:=h;obtain⟨H,p,rfl⟩:=zaw q;simp only[and_eq_true,decide_eq_true_eq]at h;obtain⟨⟨⟨⟨⟨⟨rfl,t⟩,u⟩,w⟩,z⟩,C⟩,l⟩:=h;cases args with
  |nil=>cases C
  |cons e I=>exact⟨_,rfl,zsW G z w t (zaU u).1 (zaD r G l).1 (zax l)⟩
theorem zaY:∀(cs:CS){N:List Str}{j:Scope}{st:List Stmt}{X:Cx},Gd T cf k N j X->X.stack=X.env::X.outer/\X.env.frame=some X.env.locals->chkS T cs N j st=true->PSs X st (tS X cf cs)
 |.nil,N,j,st,X,G,F,h=>by obtain rfl:=isEmpty_iff.mp h;exact zqz|.stop,N,j,st,X,G,F,h=>fun pins s σ H E I z'=>eX z' fun δ ι S Q hs hh w l=>(by exact w.elim)| .asg i e r,N,j,st,X,G,F,h=>by
  cases st with
  |nil=>cases h
  |cons s d=>replace h:=zab h;obtain⟨⟨U,v,pos⟩,q,h⟩:=h;cases zcw q;replace h:=zab h;obtain⟨x,Y,h⟩:=h;obtain⟨p,L⟩:=zaH Y;dsimp only at L;subst L;replace h:=qL (qL qb1) h;obtain⟨⟨⟨A,B⟩,m⟩,C⟩:=h;have hr:=zaY r G F C;cases hn:zbj v with|true=>exact zqC G A B (zad e G m) hn hr| false=>obtain⟨l,elt,gs,scope,p2,rfl,rfl⟩:=zpO hn m;exact zn3 G A B m hr
 |.setF a f e r,N,j,st,X,G,F,h=>by
  cases st with
  |nil=>cases h
  |cons s d=>replace h:=zab h;obtain⟨⟨U,v,pos⟩,q,h⟩:=h;cases zcw q;replace h:=zab h;obtain⟨⟨o,f',p⟩,Y,h⟩:=h;have L:=zbe Y;dsimp only at L;subst L;replace h:=qL (qL (qL (qL qd1))) h;obtain⟨⟨⟨⟨⟨A,B⟩,m⟩,C⟩,J⟩,h6⟩:=h;subst A;exact zn0 G B (zad a G C) (zad e G J) m (zaY r G F h6)
 |.ifS c t u r,N,j,st,X,G,F,h=>by
  cases st with
  |nil=>cases h
  |cons s d=>replace h:=zab h;obtain⟨⟨e,a,b⟩,q,h⟩:=h;obtain⟨p,rfl⟩:=zfC q;replace h:=qL (qL qa1) h;exact zsR (zaR c G h.1.1.1).1 (zaY t G F h.1.1.2) (zaY u G F h.1.2) (zaY r G F h.2)
 |.forS g l b r,N,j,st,X,G,F,h=>by
  cases st with
  |nil=>cases h
  |cons s d=>replace h:=zab h;obtain⟨⟨U,it,O⟩,q,h⟩:=h;obtain⟨p,rfl⟩:=zjF q;simp only[and_eq_true]at h;obtain⟨⟨⟨⟨A,B⟩,m⟩,C⟩,J⟩:=h;exact zqA G ((zc4 l G B).2.2.1 U J.2) (znT G J.1) (zaY b G F m) A (zaY r G F C)
 |.ret e r,N,j,st,X,G,F,h=>by
  cases st with
  |nil=>cases h
  |cons s d=>replace h:=zab h;obtain⟨v,q,h⟩:=h;obtain⟨p,rfl⟩:=zfA q;simp only[and_eq_true]at h;exact zqy (zad e G h.1) (zaY r G F h.2)
 |.retX x r,N,j,st,X,G,F,h=>by
  cases st with
  |nil=>cases h
  |cons s d=>replace h:=zab h;obtain⟨v,q,h⟩:=h;obtain⟨p,rfl⟩:=zfA q;simp only[and_eq_true]at h;exact zn1 (zc3 x G h.1) (zaY r G F h.2)
 |.expr e r,N,j,st,X,G,F,h=>by
  cases st with
  |nil=>cases h
  |cons s d=>replace h:=zab h;obtain⟨v,q,h⟩:=h;obtain⟨p,rfl⟩:=zct q;replace h:=qL qa1 h;exact zn2 (zad e G h.1.2) h.1.1 (zaY r G F h.2)
 |.rais c x f a,N,j,st,X,G,F,h=>by
  cases st with
  |nil=>cases h
  |cons s d=>replace h:=zab h;obtain⟨⟨x',arg⟩,q,h⟩:=h;obtain⟨np,cp,p,rfl⟩:=zgF q;replace h:=qL (qL (qL (qL qd1))) h;obtain⟨⟨⟨⟨⟨rfl,A⟩,B⟩,m⟩,C⟩,J⟩:=h;exact zlt G m A (zaU B).1 (zad a G J) C
 |.blk b r,N,j,st,X,G,F,h=>by
  cases st with
  |nil=>cases h
  |cons s d=>replace h:=(and_eq_true _ _).mp h;obtain⟨s',e,hb⟩:=zfl b G F h.1;cases e;exact zqB hb (zaY r G F h.2)
 |.tryS b x ie ix r,N,j,st,X,G,F,h=>by
  cases st with
  |nil=>cases h
  |cons s d=>replace h:=zab h;obtain⟨⟨O,xR,n,y⟩,q,h⟩:=h;obtain⟨np,p1,p2,p3,hp,p,rfl⟩:=zjA q;simp only[and_eq_true,decide_eq_true_eq,beq_iff_eq]at h;obtain⟨⟨⟨⟨⟨⟨⟨⟨⟨⟨⟨rfl,A⟩,B⟩,m⟩,C⟩,J⟩,h6⟩,h7⟩,h8⟩,h9⟩,h10⟩,h11⟩:=h;exact zqx G (fun pn E hE=>by obtain⟨s,e,z⟩:=zfl b (X:=pnC X pn E) ⟨G.nm,G.nd,G.loc,G.cell,G.free,G.glob,G.fn,G.calm,hE,G.room',G.tab,fun z=>let ⟨a,c,M⟩:=G.lam z;⟨a,c,⟨M.1,M.2,M.3,M.4,M.5⟩⟩⟩ F h10;subst e;exact zjq z) F.1 F.2 m A (zaU B).1 C J h6 h7 (zaU h8).1 (zaU h8).2.1 h9 (zaY r G F h11)
theorem RS.start{K}(r:RVs K c H ds vs)(f:ds.length=F.np)(g:F.nn=N.length):RS K c H (zaq F ds) (L2.start N vs):=by
 have a:=r.length;refine⟨by simp[zaq,L2.start,a,f,g],fun i d e=>?_⟩;unfold zaq at e;unfold L2.start;by_cases b:i<ds.length;rw[getElem?_append_left (by simpa using b),getElem?_map]at e;rw[getElem?_append_left (by simpa[a]using b),getElem?_map];cases z:ds[i]? with
 |none=>rw[z]at e;cases e
 |some l=>rw[z]at e;simp only[Option.map_some,Option.some.injEq]at e;subst e;obtain⟨v,h,j⟩:=r.get z;exact⟨v,by rw[h];rfl,j⟩
 . rw[getElem?_append_right (by simpa using b),List.getElem?_replicate]at e;split at e<;>cases e
def ChkD(T:Tab)(b:CS)(N:List Str)(a:Scope)(st:List Stmt):Prop:=chkS T b N a st=true/\N≠T.lam
structure DefOk(K:PySem.W.Frag)(mg:Str->Option Value)(T:Tab)(Pg:List Fn)(fi:Nat)(x:Str)(ps:List Str)(nd:Nat):Prop where
 ex:∃(F:Fn) (qual:Str) (st:Stmt) (dV:Value) (f:Addr) (fd:FuncData) (N:List Str),Pg[fi]?=some F/\F.prim=none/\FunV K x qual st dV f fd/\FnScope N ps (zaa st)/\ChkD T F.body N (zaa st) (zal st)/\F.np=ps.length/\F.nn=N.length/\
  mg x=some (.ref f)/\∀j,j<=nd->Binds K fd ps (List.replicate j Value.none)
theorem zoW(h:prm S p ds=.ok d a):Frm S a:=by unfold prm at h;split at h;split at h;split at h;split at h;injection h with _ b;rw[<-b];exact Frm.push _ _;cases h;cases h;cases h;cases h
theorem zrn(h:prm S p ds=.err d a):False:=by
 unfold prm at h;split at h;split at h;split at h
 . split at h<;>cases h
 cases h;cases h;cases h
theorem zcD(a):∀n:Nat,CFok (callF a n)
 |0,f,c,S,d,m,h=>by rcases h with h|h<;>cases h
 |n+1,f,c,S,d,m,h=>by
  simp only[callF]at h;cases e:a[f]? with
  |none=>rw[e]at h;rcases h with h|h<;>cases h
  |some F=>
   rw[e]at h;dsimp only at h;split at h
   . cases i:F.prim with
     |some p=>
      cases p with
      |lam=>
       rw[i]at h;dsimp only at h;split at h;cases ex:exS (callF a n) F.body (zaq F c) S with
       |ok r g=>
        rw[ex]at h;have b:=zcI (zcD a n) F.body (zaq F c) S (fun j l=>j=r/\l=g) (by rw[ex];exact⟨rfl,rfl⟩);rw[ex]at b;cases r with
        |nx o=>rcases h with h|h<;>cases h;exact b.2
        |rt z=>rcases h with h|h<;>cases h;exact b.2
        |ex z=>rcases h with h|h<;>cases h
       |err z g=>rw[ex]at h;rcases h with h|h<;>cases h
       |bad=>rw[ex]at h;rcases h with h|h<;>cases h
       . rcases h with h|h<;>cases h
      |_=>
       rw[i]at h;dsimp only at h;split at h;rcases h with h|h;exact zoW h;exact(zrn h).elim
       . rcases h with h|h<;>cases h
     |none=>
     rw[i]at h;cases ex:exS (callF a n) F.body (zaq F c) S with
     |ok r g=>
      rw[ex]at h;have b:=zcI (zcD a n) F.body (zaq F c) S (fun j l=>j=r/\l=g) (by rw[ex];exact⟨rfl,rfl⟩);rw[ex]at b;cases r with
      |nx o=>rcases h with h|h<;>cases h;exact b.2
      |rt z=>rcases h with h|h<;>cases h;exact b.2
      |ex z=>rcases h with h|h<;>cases h;exact b.2
     |err z g=>rw[ex]at h;rcases h with h|h<;>cases h
     |bad=>rw[ex]at h;rcases h with h|h<;>cases h
   . rcases h with h|h<;>cases h
variable{P:Program}{w:World}{K:PySem.W.Frag}{mg:Str->Option Value}{base:Heap}{Pg:List Fn}
theorem zdu{ps:List Str}(a:Pg[b]?=some F)(d:F.np=ps.length)(h:spF K (callF Pg n) b vs H Q E):vs.length=ps.length:=by obtain⟨e,S,f,r,g,w⟩:=h;rw[r.length];cases n with|zero=>exact w.elim| succ n=>simp only[callF,a]at w;split at w;rename_i c;rw[c,d];exact w.elim
theorem zeO{ps:List Str}(a:Pg[b]?=some F)(d:F.np=ps.length)(h:spX K (callF Pg n) b vs H Q E):vs.length=ps.length:=by obtain⟨f,S,e,r,g,w⟩:=h;rw[r.length];cases n with|zero=>exact w.elim| succ n=>simp only[callF,a]at w;by_cases c:e.length=F.np;rw[c,d];rw[if_neg c]at w;exact w.elim
theorem zg7{st}(tab:TabOk T (callF Pg n) m P w K mg base)(FV:FunV K x l st dV f fd)(L:Pg[fi]?=some F)(S:FnScope N ps (zaa st))(M:ChkD T F.body N (zaa st) (zal st))(hp:F.np=ps.length)(hn:F.nn=N.length)(hq:F.prim=none:=by rfl):
  FnOk P w K mg base (CXe P w) (m+2) f fd ps (spX K (callF Pg (n+1)) fi):=by
 obtain⟨oc,od,kV,doc,pm,an,o,ct,osl,rfl,lk,p⟩:=FV.ex;refine zmK lk p S (fun vs H Q E h=>zeO L hp h) fun A g s H vs Q E hr h=>?_;obtain⟨ι,O,q,r,hh,b⟩:=h;have G:Gd T (callF Pg n) m N (zaa st) (cxOf (CXe P w) P w K mg base N l (zaa st) f o A g s H E):=⟨rfl,S.nd,fun x e=>e,fun x e=>e,fun x e=>.inl e,fun x e=>e,.inl fun _=>rfl,rfl,PassesOwn.leaving,hr,tab,fun z=>absurd z M.2⟩;refine⟨_,zaY F.body G ⟨rfl,rfl⟩ M.1,?_⟩;simp only[callF,L,hq]at b;by_cases c:q.length=F.np;rw[if_pos c]at b;cases ex:exS (callF Pg n) F.body (zaq F q) O with
 |ok t U=>rw[ex]at b;refine⟨zaq F q,ι,O,fun u T2=>u=t/\T2=U,RS.start r c hn,hh,by rw[ex];exact⟨rfl,rfl⟩,?_⟩;rintro u i y S' B j ⟨rfl,rfl⟩;cases u with|nx δ'=>exact fun C hs'=>b .non y i B rfl j|rt d=>exact fun v J=>b v y i B J j|ex d=>exact fun a C Y s' J I t=>zkg I t (b a y i B J j)
 |err d U=>rw[ex]at b;exact b.elim|bad=>rw[ex]at b;exact b.elim
 rw[if_neg c]at b;exact b.elim
theorem zkH(F:FnOk P w K mg base (CXe P w) k f j ps (spX K cf i)):FnOk P w K mg base CX0 k f j ps (spF K cf i):=by
 have conv:∀c H Q E,spF K cf i c H Q E->spX K cf i c H Q (fun _ _ _=>False):=fun c H Q E y=>by obtain⟨l,S,m,r,n,o⟩:=y;obtain⟨d,B,e,q⟩:=zfn o;exact⟨l,S,m,r,n,by rw[e];exact q⟩
 refine⟨fun c H Q E h=>F.len _ _ _ _ (conv c H Q E h),fun A g s H args p c Q E t u b v h=>codeAny_mono (F.run A g s H args p c Q _ t u b v (conv c H Q E h)) fun r C q=>?_⟩;cases r with|error e=>obtain⟨a,G,_,_,_,_,_,_,z⟩:=q;exact z.elim|ok x=>cases x<;>exact q
theorem zkX{st}(tab:TabOk T (callF Pg n) m P w K mg base)(b:FunV K x a st l f c)(d:Pg[e]?=some F)(S:FnScope N ps (zaa st))(g:ChkD T F.body N (zaa st) (zal st))(h:F.np=ps.length)(i:F.nn=N.length)(j:F.prim=none:=by rfl):
 FnOk P w K mg base CX0 (m+2) f c ps (spF K (callF Pg (n+1)) e):=zkH (zg7 tab b d S g h i j)
structure MOk(K:PySem.W.Frag)(T:Tab)(Pg:List Fn)(fi j:Nat)(Ex:Addr->Prop):Prop where
 ex:∃(F:Fn) (x qual:Str) (st:Stmt) (dV:Value) (f:Addr) (fd:FuncData) (N ps:List Str),Pg[fi]?=some F/\F.prim=none/\FunV K x qual st dV f fd/\FnScope N ps (zaa st)/\ChkD T F.body N (zaa st) (zal st)/\F.np=ps.length/\F.nn=N.length/\
  Binds K fd ps (List.replicate j Value.none)/\Ex f
theorem zeY(z:MOk K T Pg g j i):∃f a ps,i f/\keepIn K (.ref f)=true/\Binds K a ps (List.replicate j Value.none)/\FnOk P w K mg base CX0 1 f a ps (spF K (callF Pg 0) g):=by obtain⟨F,x,d,st,q,f,a,N,ps,l,t,m,S,u,n,y,o,e⟩:=z.ex;refine⟨f,a,ps,e,m.kp,o,⟨fun p H Q E h=>zdu l n h,fun A c s H args B p Q E C G b v h=>?_⟩⟩;obtain⟨I,S,J,r,L,w⟩:=h;exact w.elim
theorem zeZ(tab:TabOk T (callF Pg n) m P w K mg base)(z:MOk K T Pg d j g):∃f a ps,g f/\keepIn K (.ref f)=true/\Binds K a ps (List.replicate j Value.none)/\FnOk P w K mg base CX0 (m+2) f a ps (spF K (callF Pg (n+1)) d):=by obtain⟨F,x,b,st,r,f,a,N,ps,h,i,c,S,l,o,p,q,e⟩:=z.ex;exact⟨f,a,ps,e,c.kp,q,zkX tab c h S l o p i⟩
theorem zfY(z:MOk K T Pg g j i):∃f a ps,i f/\Binds K a ps (List.replicate j Value.none)/\FnOk P w K mg base (CXe P w) 1 f a ps (spX K (callF Pg 0) g):=by obtain⟨F,x,d,st,p,f,a,N,ps,l,q,t,S,u,m,y,n,e⟩:=z.ex;refine⟨f,a,ps,e,n,⟨fun o H Q E h=>zeO l m h,fun A c s H args B o Q E C G b v h=>?_⟩⟩;obtain⟨I,S,J,r,L,w⟩:=h;exact w.elim
theorem zfZ(tab:TabOk T (callF Pg n) m P w K mg base)(z:MOk K T Pg c j d):∃f a ps,d f/\Binds K a ps (List.replicate j Value.none)/\FnOk P w K mg base (CXe P w) (m+2) f a ps (spX K (callF Pg (n+1)) c):=by obtain⟨F,x,b,st,r,f,a,N,ps,g,h,i,S,l,o,p,q,e⟩:=z.ex;exact⟨f,a,ps,e,q,zg7 tab i g S l o p h⟩
def ExM(K:PySem.W.Frag)(c:Nat)(m:Str)(f:Addr):Prop:=∃C,Mks.cl[c]?=some C/\Cls K C/\Meth K C m f
def ExI(K:PySem.W.Frag)(c:Nat)(f:Addr):Prop:=∃C,Mks.cl[c]?=some C/\Mk K C f
def ExC(K:PySem.W.Frag)(mg:Str->Option Value)(x m:Str)(f:Addr):Prop:=∃(C:Addr) (a:Value),mg x=some (.ref C)/\specialIn K (.ref C) "__getattribute__"=some (some (.builtin "type.__getattribute__"))/\readsIn K C a=true/\findCls K (.ref C) a m=some (.val (.ref f))
structure ClsOk(T:Tab)(K:PySem.W.Frag)(mg:Str->Option Value)(Pg:List Fn):Prop where
 cls:∀(c:Nat)(x:Str),T.cls[c]?=some x->∃C,Mks.cl[c]?=some C/\Cls K C/\mg x=some (.ref C)/\∀f,T.flds.contains f=true->NoAttr K C f
 mth:∀(c:Nat)(m:Str)(fi:Nat),T.mts.contains (c,m,fi)=true->MOk K T Pg fi 0 (ExM K c m)
 ini:∀(c fi j:Nat),T.inits.contains (c,fi,j)=true->MOk K T Pg fi j (ExI K c)
 cmd:∀(x m:Str)(fi:Nat),T.cms.contains (x,m,fi)=true->MOk K T Pg fi 0 (ExC K mg x m)
 cln:Mks.cl.length<=T.cls.length
 isa:∀(x:Str)(cs:List Nat),T.isas.contains (x,cs)=true->∃D,mg x=some (.ref D)/\∀c C,Mks.cl[c]?=some C->IsaOk K C/\kitOne K (.ref C) (.ref D)=some (cs.contains c)
theorem zkC(h:∃f a ps,ExM K c m f/\keepIn K (.ref f)=true/\Binds K a ps []/\FnOk P w K mg base CX0 k f a ps (spF K cf b)):HasM P w K mg base k c m (spF K cf b):=by obtain⟨f,a,ps,⟨C,d,e,g⟩,_,i,j⟩:=h;exact⟨C,f,a,ps,d,e,g,j,i⟩
theorem zkD(h:∃f a ps,ExI K c f/\keepIn K (.ref f)=true/\Binds K a ps (List.replicate j Value.none)/\FnOk P w K mg base CX0 k f a ps (spF K cf b)):HasI P w K mg base k c j (spF K cf b):=by obtain⟨f,a,ps,⟨C,d,e⟩,_,g,i⟩:=h;exact⟨C,f,a,ps,d,e,i,g⟩
theorem zh3(h:∃f a ps,ExI K c f/\Binds K a ps (List.replicate j Value.none)/\FnOk P w K mg base (CXe P w) k f a ps (spX K cf b)):HasIX P w K mg base k c j (spX K cf b):=by obtain⟨f,a,ps,⟨C,d,e⟩,g,i⟩:=h;exact⟨C,f,a,ps,d,e,i,g⟩
theorem zh2(h:∃f a ps,ExM K c m f/\Binds K a ps (List.replicate 0 Value.none)/\FnOk P w K mg base (CXe P w) k f a ps (spX K cf b)):HasMX P w K mg base k c m (spX K cf b):=by obtain⟨f,a,ps,⟨C,d,e,g⟩,i,j⟩:=h;exact⟨C,f,a,ps,d,e,g,j,i⟩
theorem zkE(h:∃f a ps,ExC K mg x m f/\keepIn K (.ref f)=true/\Binds K a ps []/\FnOk P w K mg base CX0 k f a ps (spF K cf b)):HasC P w K mg base k x m (spF K cf b):=by obtain⟨f,a,ps,⟨C,c,d,e,g,i⟩,j,l,n⟩:=h;exact⟨C,f,a,ps,c,d,e,g,i,j,n,l⟩
structure PrimOk(P:Program)(w:World)(K:PySem.W.Frag)(mg:Str->Option Value)(base:Heap)(T:Tab)(Pg:List Fn)(fi:Nat)(x:Str)(ps:List Str)(nd:Nat):Prop where
 ex:∃(F:Fn) (p:Prim) (f:Addr) (fd:FuncData),Pg[fi]?=some F/\F.prim=some p/\F.np=ps.length/\mg x=some (.ref f)/\keepIn K (.ref f)=true/\(∀j,j<=nd->Binds K fd ps (List.replicate j Value.none))/\
  ∀n,3<=n->TabOk T (callF Pg n) (2*n+1) P w K mg base->FnOk P w K mg base CX0 (2*n+3) f fd ps (spF K (callF Pg (n+1)) fi)
structure XSOk(T:Tab)(K:PySem.W.Frag)(mg:Str->Option Value)(Pg:List Fn):Prop where
 cl:∀(c:Nat)(x f:Str),T.xcs.contains (c,x,f)=true->∃(C fI:Addr) (qual:Str) (st:Stmt) (fd:FuncData) (xR y:Str),Mks.xc[c]?=some C/\mg x=some (.ref C)/\keepIn K (.ref C)=true/\Xc K C fI f/\FunV K "__init__" qual st .none fI fd/\XSt st xR y f/\XUp K mg xR/\Binds K fd ["self",y] []
 fl:∀f,T.xflds.contains f=true->∀(c:Nat) C,Mks.xc[c]?=some C->XGet K C/\NoAttr K C f
 is:∀(x:Str)(cs:List Nat),T.xisas.contains (x,cs)=true->∃D,mg x=some (.ref D)/\∀(c:Nat) C,Mks.xc[c]?=some C->XGet K C/\IsaOk K C/\kitOne K (.ref C) (.ref D)=some (cs.contains c)
 ib:∀(x:Str)(cs:List Nat),T.xisbs.contains (x,cs)=true->mg x=none/\x≠"__name__"/\∃t,bootBuiltins x=some (.type t)/\∀(c:Nat) C,Mks.xc[c]?=some C->XGet K C/\IsaOk K C/\kitOne K (.ref C) (.type t)=some (cs.contains c)
 fn:∀(f:Nat)(x:Str)(ps:List Str)(nd:Nat),T.xfns.contains f=true->T.fns[f]?=some (x,ps,nd)->DefOk K mg T Pg f x ps nd
 tr:∀x,T.xtrs.contains x=true->∃CR,mg x=some (.ref CR)/\∀(c:Nat) C,Mks.xc[c]?=some C->PySem.W.exmOne K (.ref C) (.ref CR)=some true
theorem XSOk.tab(a:XSOk T K mg Pg)(fn:∀(f:Nat)(x:Str)(ps:List Str)(g:Nat),T.xfns.contains f=true->T.fns[f]?=some (x,ps,g)->∃d b,FnOk P w K mg base (CXe P w) (k+1) d b ps (spX K cf f)/\mg x=some (.ref d)/\keepIn K (.ref d)=true/\Binds K b ps []):
  XTabOk T cf (k+1) P w K mg base:=by
 refine⟨fun c x f h=>?_,a.fl,a.is,a.ib,fn,a.tr⟩;obtain⟨C,i,e,st,b,s,y,j,l,m,n,o,p,q,r⟩:=a.cl c x f h;exact⟨C,i,b,["self",y],j,l,m,n,zpB o p q,r⟩
theorem zql(hb:∀x,T.blt.contains x=true->mg x=none)(hc:∀x d,T.cons.lookup x=some d->zoo d=true/\∃u,mg x=some u/\RelV (sV d) u)(hd:∀a x ps o,T.fns[a]?=some (x,ps,o)->DefOk K mg T Pg a x ps o\/PrimOk P w K mg base T Pg a x ps o)(g:ClsOk T K mg Pg)(U:XSOk T K mg Pg) :
  ∀n,TabOk T (callF Pg n) (2*n+1) P w K mg base:=by
 intro n;induction n with
 |zero=>
  refine⟨hb,hc,fun a x ps o Y j L=>?_,zcD Pg 0,g.cls,fun c m a h=>zkC (zeY (g.mth c m a h)),fun c a j h=>zkD (zeY (g.ini c a j h)),fun x m a h=>zkE (zeY (g.cmd x m a h)),fun _=>g.cln,g.isa,U.tab (fun f x ps o h1 h2=>?_),fun c a j h=>zh3 (zfY (g.ini c a j h)),fun c m a h=>zh2 (zfY (g.mth c m a h))⟩
  rotate_left
  obtain⟨F,q,st,dV,fa,t,N,l,G,C,S,M,y,O,B,e⟩:=(U.fn f x ps o h1 h2).ex;refine⟨fa,t,⟨fun J H Q E h=>zeO l y h,fun A i s H args us J Q E hr e0 b v h=>?_⟩,B,C.kp,e 0 (zero_le _)⟩;obtain⟨ι,S,ds,r,hh,w⟩:=h;exact w.elim;rcases hd a x ps o Y with z|z;obtain⟨F,q,st,dV,f,t,N,l,G,C,S,M,y,O,B,e⟩:=z.ex;refine⟨f,t,_,⟨fun J H Q E h=>zdu l y h,fun A i s H args us J Q E hr e0 b v h=>?_⟩,B,C.kp,e j L,Vals.nons j⟩;obtain⟨ι,S,ds,r,hh,w⟩:=h;exact w.elim;obtain⟨F,p,f,t,l,G,y,B,kp,e,ok⟩:=z.ex;refine⟨f,t,_,⟨fun J H Q E h=>zdu l y h,fun A i s H args us J Q E hr e0 b v h=>?_⟩,B,kp,e j L,Vals.nons j⟩;obtain⟨ι,S,ds,r,hh,w⟩:=h;exact w.elim
 |succ n I=>
  refine⟨hb,hc,fun a x ps o Y j L=>?_,zcD Pg (n+1),g.cls,fun c m a h=>zkC (zeZ I (g.mth c m a h)),fun c a j h=>zkD (zeZ I (g.ini c a j h)),fun x m a h=>zkE (zeZ I (g.cmd x m a h)),fun _=>g.cln,g.isa,U.tab (fun f x ps o h1 h2=>?_),fun c a j h=>zh3 (zfZ I (g.ini c a j h)),fun c m a h=>zh2 (zfZ I (g.mth c m a h))⟩
  rotate_left
  obtain⟨F,q,st,dV,fa,t,N,l,G,C,S,M,y,O,B,e⟩:=(U.fn f x ps o h1 h2).ex;exact⟨fa,t,zg7 I C l S M y O G,B,C.kp,e 0 (zero_le _)⟩;rcases hd a x ps o Y with z|z;obtain⟨F,q,st,dV,f,t,N,l,G,C,S,M,y,O,B,e⟩:=z.ex;exact⟨f,t,_,(zkX I C l S M y O G),B,C.kp,e j L,Vals.nons j⟩;obtain⟨F,p,f,t,l,G,y,B,kp,e,ok⟩:=z.ex;refine⟨f,t,_,?_,B,kp,e j L,Vals.nons j⟩;by_cases c:3<=n;exact(ok n c I).mono (by lia)
  . refine⟨fun J H Q E h=>zdu l y h,fun A i s H args us J Q E hr e0 b v h=>?_⟩;obtain⟨ι,S,ds,r,hh,w⟩:=h;cases p<;>(simp only[callF,l,G]at w;split at w<;>exact w.elim)
def AllAtG{b:Type}(P:Nat->b->Prop):Nat->List b->Prop
 |_,[]=>True|k,a::r=>P k a/\AllAtG P (k+1) r
theorem znM{P}:∀{l:List c}{k:Nat},AllAtG P k l->∀(i:Nat)(a:c),l[i]?=some a->P (k+i) a
 | [],_,_,i,a,h=>by simp at h|b::r,k,q,0,a,h=>by cases h;exact q.1| b::r,k,q,i+1,a,h=>by
  have:=znM q.2 i a (by simpa using h)
  rwa [Nat.add_right_comm]at this
theorem AllAt.get{P:Nat->b->Prop}{l:List b}(q:AllAtG P 0 l)(i)(a)(h:l[i]?=some a):P i a:=zero_add i▸znM q i a h
def AllInG{b:Type}(P:b->Prop):List b->Prop
 | []=>True|a::r=>P a/\AllInG P r
theorem AllIn.get[BEq c][LawfulBEq c]{P}:∀{l:List c},AllInG P l->∀a,l.contains a=true->P a
 | [],_,a,h=>by simp at h| b::r,q,a,h=>by rw[contains_cons,or_eq_true]at h;rcases h with h|h;rw[eq_of_beq h];exact q.1;exact AllIn.get q.2 a h
theorem law_spT{b:List Int}(f:FixL K H a (b.map V.int))(g:TB H)(c:W (callF Pg k h [.fix (b.map .int)] ⟨[],[],[]⟩) fun d _=>d=.bl true):spF K (callF Pg k) h [.ref a] H (fun v _=>v=.bl true) fun _ _ _=>False:=by
 refine⟨[],⟨[],[],[]⟩,[.fix (b.map .int)],⟨.ref a,[],rfl,⟨a,_,rfl,f,RVs.ints b⟩,rfl⟩,⟨rfl,List.nodup_nil,fun l o e=>(by simp[St.get]at e),g⟩,?_⟩;obtain⟨d,j,e,q⟩:=zfn c;rw[e];intro v m i x r n;subst q;exact r
end
noncomputable def okD(T:Tab)(F:Fn)(N ps:List Str)(st:Stmt):Bool:=
 decide ((zaa st).kind=.function)&&(!(zaa st).isCoroutine&&(!(zaa st).isGenerator&&(decide N.Nodup&&(decide (N.take ps.length=ps)&&(ps.all (fun x=>decide ((zaa st).names.lookup x=some .local)||decide ((zaa st).names.lookup x=some .cell)) &&
  ((zaa st).names.all (fun y=>decide (y.2≠.free))&&(chkS T F.body N (zaa st) (zal st)&&(decide (F.np=ps.length)&&(decide (F.nn=N.length)&&(F.prim.isNone&&decide (N≠T.lam)))))))))))
structure OkD(T:Tab)(Pg:List Fn)(fi:Nat)(x q:Str)(ps:List Str)(st:Stmt):Prop where
 ex:∃(F:Fn) (N:List Str),Pg[fi]?=some F/\F.prim=none/\FnScope N ps (zaa st)/\ChkD T F.body N (zaa st) (zal st)/\F.np=ps.length/\F.nn=N.length
 bd:∀(kV doc pm:Value)(an:Option Addr)(cdv ct:Value)(us:List Value),us.length=ps.length->bindArgs (fnOf x q (zar st) (zal st) (zaa st) .none kV doc pm an cdv ct) ⟨us,[]⟩=pure (ps.zip us)
theorem zau{st}(N)(e:i[j]?=some F)(h:okD T F N ps st=true)(b:∀(kV a k:Value)(l:Option Addr)(c ct:Value)(us:List Value),us.length=ps.length->bindArgs (fnOf x q (zar st) (zal st) (zaa st) .none kV a k l c ct) ⟨us,[]⟩=pure (ps.zip us)):OkD T i j x q ps st:=by
 simp only[okD,and_eq_true,not_eq_true',decide_eq_true_eq,all_eq_true,or_eq_true,Option.isNone_iff_eq_none]at h;obtain⟨m,n,o,p,r,s,t,u,v,d,f,g⟩:=h;exact⟨⟨F,N,e,f,⟨m,n,o,p,r,s,t⟩,⟨u,g⟩,v,d⟩,b⟩
theorem AllInG.cons{b:Type}{P:b->Prop}{a:b}{r:List b}(h:P a)(t:AllInG P r):AllInG P (a::r):=⟨h,t⟩
theorem AllAtG.cons{b:Type}{P:Nat->b->Prop}{k:Nat}{a:b}{r:List b}(h:P k a)(t:AllAtG P (k+1) r):AllAtG P k (a::r):=⟨h,t⟩
theorem AllInG.mem:∀{l:List c},AllInG P l->∀a∈l,P a
 |b::r,q,a,h=>by rcases mem_cons.mp h with rfl|h;exact q.1;exact AllInG.mem q.2 a h
section
variable{P:Program}{w:World}{K:PySem.W.Frag}{h base:Heap}{mg:Str->Option Value}{T:Tab}{Pg:List Fn}{fi c:Nat}{x q m:Str}{ps:List Str}{st:Stmt}{f C:Addr}{oc kV dc pm cd ct:Value}{od an:Option Addr}{sl:Array (Option Value)}
theorem dOk(X:K.In h)(G:h.Ns mainGlobals mg)(o:OkD T Pg fi x x ps st)(a:nsIn K mainGlobals x=some (some (.ref f)))(l:K.lookup f=some ⟨oc,od,.func (fnOf x x (zar st) (zal st) (zaa st) .none kV dc pm an cd ct),sl⟩)(c:codeIn K cd x=true)
  (k:keepIn K (.ref f)=true):DefOk K mg T Pg fi x ps 0\/PrimOk P w K mg base T Pg fi x ps 0:=by
 obtain⟨F,N,d,e,g,i,n,p⟩:=o.ex;have b:=zbY l c k;exact .inl ⟨⟨F,x,st,_,f,_,N,d,e,b,g,i,n,p,mg_of X G a,fun j r=>(Nat.le_zero.mp r).symm▸b.binds o.bd⟩⟩
def ClAt(K:PySem.W.Frag)(mg:Str->Option Value)(T:Tab)(c:Nat)(x:Str):Prop:=∃C,Mks.cl[c]?=some C/\Cls K C/\mg x=some (.ref C)/\∀f,T.flds.contains f=true->NoAttr K C f
theorem clOk(X:K.In h)(G:h.Ns mainGlobals mg)(e:Mks.cl[c]?=some C)(a:nsIn K mainGlobals x=some (some (.ref C)))(b:plainGet K C Str.empty=true)(hd:PySem.W.hasDictIn K C=true)(d:plainOver K C=true)
  (g:PySem.W.findIn K (.ref C) "__setattr__"=some (some (.builtin "object.__setattr__"))) (n:AllInG (fun f=>PySem.W.findIn K (.ref C) f=some none) T.flds):ClAt K mg T c x:=
 ⟨C,e,⟨b,hd,d,g⟩,mg_of X G a,AllIn.get n⟩
theorem mOk0(o:OkD T Pg fi m q ps st)(l:K.lookup f=some ⟨oc,od,.func (fnOf m q (zar st) (zal st) (zaa st) .none kV dc pm an cd ct),sl⟩)(b:codeIn K cd q=true)(k:keepIn K (.ref f)=true)(e:d f):MOk K T Pg fi 0 d:=by obtain⟨F,N,g,i,j,n,p,r⟩:=o.ex;have a:=zbY l b k;exact⟨⟨F,m,q,st,_,f,_,N,ps,g,i,a,j,n,p,r,a.binds o.bd,e⟩⟩
theorem mOk(b:AllAtG (ClAt K mg T) 0 T.cls)(o:OkD T Pg fi m q ps st)(e:Mks.cl[c]?=some C)(ex:T.cls[c]?=some x)(t:PySem.W.findIn K (.ref C) m=some (some (.ref f)))(l:K.lookup f=some ⟨oc,od,.func (fnOf m q (zar st) (zal st) (zaa st) .none kV dc pm an cd ct),sl⟩)
  (d:codeIn K cd q=true) (k:keepIn K (.ref f)=true) (i:isFn K (.ref f)=true):MOk K T Pg fi 0 (ExM K c m):=by
 obtain⟨g,a,j,_⟩:=AllAt.get b c x ex;exact mOk0 o l d k ⟨g,a,j,by rw[e]at a;cases a;exact⟨t,i,k⟩⟩
theorem iOk(o:OkD T Pg fi "__init__" q ps st)(e:Mks.cl[c]?=some C)(mk:makesIn K C=true)(t:PySem.W.findIn K (.ref C) "__init__"=some (some (.ref f)))(a:keepIn K (.ref C)=true)(l:K.lookup f=some ⟨oc,od,.func (fnOf "__init__" q (zar st) (zal st) (zaa st) .none kV dc pm an cd ct),sl⟩)
 (b:codeIn K cd q=true) (k:keepIn K (.ref f)=true) (i:isFn K (.ref f)=true):MOk K T Pg fi 0 (ExI K c):=mOk0 o l b k ⟨C,e,mk,t,i,a⟩
theorem cOk(X:K.In h)(G:h.Ns mainGlobals mg)(o:OkD T Pg fi m q ps st)(a:nsIn K mainGlobals x=some (some (.ref C)))(g:specialIn K (.ref C) "__getattribute__"=some (some (.builtin "type.__getattribute__")))(r:readsIn K C (.type "type")=true)
  (t:findCls K (.ref C) (.type "type") m=some (.val (.ref f))) (l:K.lookup f=some ⟨oc,od,.func (fnOf m q (zar st) (zal st) (zaa st) .none kV dc pm an cd ct),sl⟩) (b:codeIn K cd q=true) (k:keepIn K (.ref f)=true):MOk K T Pg fi 0 (ExC K mg x m):=
 mOk0 o l b k ⟨C,_,mg_of X G a,g,r,t⟩
def IsAt(K:PySem.W.Frag)(mg:Str->Option Value)(z:Str×List Nat):Prop:=∃D,mg z.1=some (.ref D)/\∀c C,Mks.cl[c]?=some C->IsaOk K C/\kitOne K (.ref C) (.ref D)=some (z.2.contains c)
def CoAt(K:PySem.W.Frag)(z:Str×D):Prop:=∃i t,z.2=.int i/\nsIn K mainGlobals z.1=some (some (.int i t))
theorem coOk(a:nsIn K mainGlobals x=some (some (.int i t))):CoAt K (x,.int i):=⟨i,t,rfl,a⟩
end
noncomputable def okL(T:Tab)(F:Fn)(ps:List Str)(st:Stmt):Bool:=
 decide ((zaa st).kind=.function)&&(!(zaa st).isCoroutine&&(!(zaa st).isGenerator&&(decide T.lam.Nodup&&(decide (T.lam.take ps.length=ps)&&(ps.all (fun x=>decide ((zaa st).names.lookup x=some .local)||decide ((zaa st).names.lookup x=some .cell)) &&
  ((zaa st).names.all (fun y=>decide (y.2≠.free))&&(chkS T F.body T.lam (zaa st) (zal st)&&(decide (F.np=ps.length)&&decide (F.nn=T.lam.length)))))))))
structure OkL(T:Tab)(Pg:List Fn)(fi:Nat)(x:Str)(ps:List Str)(nd:Nat)(st:Stmt):Prop where
 ex:∃F:Fn,Pg[fi]?=some F/\F.prim=some .lam/\FnScope T.lam ps (zaa st)/\chkS T F.body T.lam (zaa st) (zal st)=true/\F.np=ps.length/\F.nn=T.lam.length
theorem zrI{st}(e:b[c]?=some F)(d:F.prim=some .lam)(h:okL T F ps st=true):OkL T b c x ps p st:=by simp only[okL,and_eq_true,not_eq_true',decide_eq_true_eq,all_eq_true,or_eq_true]at h;obtain⟨f,g,i,j,k,l,m,n,o,a⟩:=h;exact⟨F,e,d,⟨f,g,i,j,k,l,m⟩,n,o,a⟩
theorem zrR{K}{st}{z kV i B ct}(lk:K.lookup f=some ⟨oc,od,.func (fnOf x a (zar st) (zal st) (zaa st) z kV i B N (.ref c) ct),O⟩)(o:codeIn K (.ref c) a=true)(U:codeHdIn K c T.lamP=true)(Y:BM q base)(t:(T.lamP,a ++ ".<locals>." ++ "<lambda>")∈Mks.ts)(one:∀p∈Mks.ts,p.1=T.lamP->p.2=a ++ ".<locals>." ++ "<lambda>")(S:FnScope T.lam ps (zaa st))(ck:chkS T F.body T.lam (zaa st) (zal st)=true)(C:l[fi]?=some F)(hq:F.prim=some .lam)(hp:F.np=ps.length)(hn:F.nn=T.lam.length)(h3:3<=n)(hm:3<=m)(tab:TabOk T (callF l n) m P w K q base):
  FnOk P w K q base CX0 (m+2) f (fnOf x a (zar st) (zal st) (zaa st) z kV i B N (.ref c) ct) ps (spF K (callF l (n+1)) fi):=by
 refine zkH (zmK lk o S (fun vs H Q E h=>zeO C hp h) fun A g s H vs Q E hr h=>?_);obtain⟨ι,I,u,r,hh,b⟩:=h;have G:Gd T (callF l n) m T.lam (zaa st) (cxOf (CXe P w) P w K q base T.lam a (zaa st) f (.ref c) A g s H E):=⟨rfl,S.nd,fun x e=>e,fun x e=>e,fun x e=>.inl e,fun x e=>e,.inl fun _=>rfl,rfl,PassesOwn.leaving,hr,tab,fun _=>⟨hm,c,⟨Y,rfl,U,t,one⟩⟩⟩;refine⟨_,zaY F.body G ⟨rfl,rfl⟩ ck,?_⟩;simp only[callF,C,hq,h3]at b;by_cases c:u.length=F.np;rw[if_pos c]at b;cases ex:exS (callF l n) F.body (zaq F u) I with
 |ok fl J=>rw[ex]at b;refine⟨zaq F u,ι,I,fun y T2=>y=fl/\T2=J,RS.start r c hn,hh,by rw[ex];exact⟨rfl,rfl⟩,?_⟩;rintro y j L S' M k ⟨rfl,rfl⟩;cases y with|nx δ'=>exact fun σ' hs'=>b .non L j M rfl k|rt d=>exact fun v rv=>b v L j M rv k|ex d=>exact b.elim
 |err d J=>rw[ex]at b;exact b.elim|bad=>rw[ex]at b;exact b.elim
 rw[if_neg c]at b;exact b.elim
theorem lOk{K}{st}{y m kV b q ct}(X:K.In h)(G:h.Ns mainGlobals d)(z:BM d base)(o:OkL T r s x ps g st)(i:(T.lamP,x ++ ".<locals>." ++ "<lambda>")∈Mks.ts)(one:∀p∈Mks.ts,p.1=T.lamP->p.2=x ++ ".<locals>." ++ "<lambda>")(A:∀j,j<=g->Binds K (fnOf x x (zar st) (zal st) (zaa st) m kV b q B (.ref c) ct) ps (List.replicate j Value.none))(a:nsIn K mainGlobals x=some (some (.ref f)))(l:K.lookup f=some ⟨y,od,.func (fnOf x x (zar st) (zal st) (zaa st) m kV b q B (.ref c) ct),L⟩)(C:codeIn K (.ref c) x=true)(k:keepIn K (.ref f)=true)(e:codeHdIn K c T.lamP=true):DefOk K d T r s x ps g\/PrimOk P w K d base T r s x ps g:=by
 obtain⟨F,t,u,E,H,v,I⟩:=o.ex;exact .inr ⟨⟨F,.lam,f,_,t,u,v,mg_of X G a,k,A,fun n J tab=>zrR l C e z i one E H t u v I J (by lia) tab⟩⟩
structure OkE(T:Tab)(Pg:List Fn)(fi:Nat)(ps:List Str)(st:Stmt):Prop where
 ex:∃(F:Fn) (N:List Str),Pg[fi]?=some F/\F.prim=none/\FnScope N ps (zaa st)/\ChkD T F.body N (zaa st) (zal st)/\F.np=ps.length/\F.nn=N.length
theorem zj0{st}(N)(e:d[f]?=some F)(h:okD T F N ps st=true):OkE T d f ps st:=by simp only[okD,and_eq_true,not_eq_true',decide_eq_true_eq,all_eq_true,or_eq_true,Option.isNone_iff_eq_none]at h;obtain⟨g,i,j,k,l,m,n,o,p,a,b,c⟩:=h;exact⟨F,N,e,b,⟨g,i,j,k,l,m,n⟩,⟨o,c⟩,p,a⟩
theorem iOkD{K}{st}{s kV u a m ct xc}(o:OkE T v w ps st)(x:ps.length=n+j)(h:∀(d:Addr)(kV b a:Value)(p:Option Addr)(g ct:Value)(us:List Value),us.length=n->∃k,bindArgs (fnOf "__init__" q (zar st) (zal st) (zaa st) (.ref d) kV b a p g ct) ⟨us,[]⟩=seqItems? (.ref d)>>=k/\k (some items)=pure (ps.zip (us++List.replicate j Value.none)))(e:Mks.cl[c]?=some C)(mk:makesIn K C=true)(t:PySem.W.findIn K (.ref C) "__init__"=some (some (.ref f)))(y:keepIn K (.ref C)=true)(l:K.lookup f=some ⟨s,od,.func (fnOf "__init__" q (zar st) (zal st) (zaa st) (.ref d) kV u a p m ct),L⟩)(z:codeIn K m q=true)(k:keepIn K (.ref f)=true)(i:isFn K (.ref f)=true)(A:K.lookup d=some ⟨xc,M,.seq items O,xs⟩):MOk K T v w j (ExI K c):=by
 obtain⟨F,N,B,E,G,H,I,J⟩:=o.ex;have r:=zbY l z k;exact⟨⟨F,"__init__",q,st,_,f,_,N,ps,B,E,r,G,H,I,J,zla n (by rw[length_replicate];exact x) r A (h d),C,e,mk,t,i,y⟩⟩
theorem dOkD{K}{st}{u kV v b g ct xc}(X:K.In h)(G:h.Ns mainGlobals i)(o:OkE T m p ps st)(y:∀j,j<=r->∃n,ps.length=n+j/\∀(d:Addr)(kV c b:Value)(s:Option Addr)(e ct:Value)(us:List Value),us.length=n->∃k,bindArgs (fnOf x x (zar st) (zal st) (zaa st) (.ref d) kV c b s e ct) ⟨us,[]⟩=seqItems? (.ref d)>>=k/\k (some items)=pure (ps.zip (us++List.replicate j Value.none)))(a:nsIn K mainGlobals x=some (some (.ref f)))(l:K.lookup f=some ⟨u,od,.func (fnOf x x (zar st) (zal st) (zaa st) (.ref d) kV v b s g ct),O⟩)(z:codeIn K g x=true)(k:keepIn K (.ref f)=true)(A:K.lookup d=some ⟨xc,Q,.seq items U,xs⟩):DefOk K i T m p x ps r\/PrimOk P w K i base T m p x ps r:=by
 obtain⟨F,N,B,C,E,H,I,J⟩:=o.ex;have t:=zbY l z k;exact .inl ⟨⟨F,x,st,_,f,_,N,B,C,t,E,H,I,J,mg_of X G a,fun j L=>by obtain⟨n,M,q⟩:=y j L;exact zla n (by rw[length_replicate];exact M) t A (q d)⟩⟩
structure OkX(q:Str)(st:Stmt)(xR y f:Str):Prop where
 tx:XSt st xR y f
 bd:∀(kV doc pm:Value)(an:Option Addr)(cdv ct:Value)(us:List Value),us.length=2->bindArgs (fnOf "__init__" q (zar st) (zal st) (zaa st) .none kV doc pm an cdv ct) ⟨us,[]⟩=pure ([("self":Str),y].zip us)
section
variable{P:Program}{w:World}{K:PySem.W.Frag}{h base:Heap}{mg:Str->Option Value}{T:Tab}{Pg:List Fn}{fi c:Nat}{x q f y xR:Str}{ps:List Str}{st:Stmt}{fI C CR:Addr}{oc kV dc pm cd ct:Value}{od an:Option Addr}{sl:Array (Option Value)}
noncomputable def zpX(K:PySem.W.Frag)(mg:Str->Option Value)(z:Nat×Str×Str):Prop:=∃(C fI:Addr) (a:Str) (st:Stmt) (b:FuncData) (xR y:Str),Mks.xc[z.1]?=some C/\mg z.2.1=some (.ref C)/\keepIn K (.ref C)=true/\Xc K C fI z.2.2/\FunV K "__init__" a st .none fI b/\XSt st xR y z.2.2/\XUp K mg xR/\Binds K b ["self",y] []
theorem xcOk(X:K.In h)(G:h.Ns mainGlobals mg)(o:OkX q st xR y f)(e:Mks.xc[c]?=some C)(a:nsIn K mainGlobals x=some (some (.ref C)))(d:keepIn K (.ref C)=true)(t:PySem.W.findIn K (.ref C) "__init__"=some (some (.ref fI)))(g:excJ K C fI=true)(i:isFn K (.ref fI)=true)
  (j:PySem.W.findIn K (.ref C) "__setattr__"=some (some (.builtin "object.__setattr__"))) (m:zjY K C=true) (hd:PySem.W.hasDictIn K C=true) (n:PySem.W.findIn K (.ref C) f=some none)
  (l:K.lookup fI=some ⟨oc,od,.func (fnOf "__init__" q (zar st) (zal st) (zaa st) .none kV dc pm an cd ct),sl⟩) (p:codeIn K cd q=true) (k:keepIn K (.ref fI)=true)
  (r:nsIn K mainGlobals xR=some (some (.ref CR))) (s:specialIn K (.ref CR) "__getattribute__"=some (some (.builtin "type.__getattribute__"))) (u:readsIn K CR (.type "type")=true) (v:findCls K (.ref CR) (.type "type") "__init__"=some (.val (.builtin "ValueError.__init__"))):zpX K mg (c,x,f):=by
 have b:=zbY l p k;exact⟨C,fI,q,st,_,xR,y,e,mg_of X G a,d,⟨g,i,j,m,hd,n⟩,b,o.tx,⟨CR,mg_of X G r,s,u,v⟩,b.binds o.bd⟩
noncomputable def zpZ(K:PySem.W.Frag)(mg:Str->Option Value)(z:Str×List Nat):Prop:=∃D,mg z.1=some (.ref D)/\AllAtG (fun c C=>kitOne K (.ref C) (.ref D)=some (z.2.contains c)) 0 Mks.xc
theorem xisOk{D}(X:K.In h)(G:h.Ns mainGlobals mg)(a:nsIn K mainGlobals x=some (some (.ref D)))(b:AllAtG (fun c C=>kitOne K (.ref C) (.ref D)=some (d.contains c)) 0 Mks.xc):zpZ K mg (x,d):=⟨D,mg_of X G a,b⟩
noncomputable def zp0(K:PySem.W.Frag)(mg:Str->Option Value)(z:Str×List Nat):Prop:=mg z.1=none/\z.1≠"__name__"/\∃t,bootBuiltins z.1=some (.type t)/\AllAtG (fun c C=>kitOne K (.ref C) (.type t)=some (z.2.contains c)) 0 Mks.xc
theorem xibOk(X:K.In h)(G:h.Ns mainGlobals mg)(b:x≠"__name__")(d:bootBuiltins x=some (.type t))(a:nsIn K mainGlobals x=some none)(e:AllAtG (fun c C=>kitOne K (.ref C) (.type t)=some (g.contains c)) 0 Mks.xc):zp0 K mg (x,g):=⟨PySem.W.mg_none_of X G a,b,t,d,e⟩
noncomputable def zpY(K:PySem.W.Frag)(mg:Str->Option Value)(x:Str):Prop:=∃CR,mg x=some (.ref CR)/\AllInG (fun C=>PySem.W.exmOne K (.ref C) (.ref CR)=some true) Mks.xc
theorem xtrOk(X:K.In h)(G:h.Ns mainGlobals mg)(a:nsIn K mainGlobals x=some (some (.ref CR)))(b:AllInG (fun C=>PySem.W.exmOne K (.ref C) (.ref CR)=some true) Mks.xc):zpY K mg x:=⟨CR,mg_of X G a,b⟩
theorem zsG(j:T.xfns.all (fun i=>match Pg[i]? with|some F=>F.prim.isNone|none=>true)=true)(hd:AllAtG (fun fi q=>DefOk K mg T Pg fi q.1 q.2.1 q.2.2\/PrimOk P w K mg base T Pg fi q.1 q.2.1 q.2.2) 0 T.fns)(d:AllInG (XGet K) Mks.xc)(hi:AllInG (IsaOk K) Mks.xc)(k:AllInG (zpX K mg) T.xcs)(l:AllInG (fun f=>AllInG (fun C=>PySem.W.findIn K (.ref C) f=some none) Mks.xc) T.xflds)
  (o:AllInG (zpZ K mg) T.xisas) (r:AllInG (zp0 K mg) T.xisbs) (s:AllInG (zpY K mg) T.xtrs):XSOk T K mg Pg:=by
 refine⟨fun c x f h=>AllIn.get k (c,x,f) h,fun f h c C e=>⟨d.mem C (mem_of_getElem? e),(AllIn.get l f h).mem C (mem_of_getElem? e)⟩,fun x g h=>?_,fun x g h=>?_,fun f x ps A h e=>?_,fun x h=>?_⟩;obtain⟨D,m,a⟩:=AllIn.get o (x,g) h;exact⟨D,m,fun c C e=>⟨d.mem C (mem_of_getElem? e),hi.mem C (mem_of_getElem? e),AllAt.get a c C e⟩⟩;obtain⟨m,n,t,b,a⟩:=AllIn.get r (x,g) h;exact⟨m,n,t,b,fun c C e=>⟨d.mem C (mem_of_getElem? e),hi.mem C (mem_of_getElem? e),AllAt.get a c C e⟩⟩;rcases AllAt.get hd f _ e with z|z;exact z;obtain⟨F,p,_,_,u,v,_⟩:=z.ex;have:=all_eq_true.mp j f (by simpa using h);simp[u,v]at this;obtain⟨CR,m,a⟩:=AllIn.get s x h;exact⟨CR,m,fun c C e=>a.mem C (mem_of_getElem? e)⟩
end
theorem lOkD{K}{st}{z kV b g ct xc}(X:K.In h)(G:h.Ns mainGlobals i)(A:BM i base)(o:OkL T t u x ps m st)(r:(T.lamP,x ++ ".<locals>." ++ "<lambda>")∈Mks.ts)(one:∀p∈Mks.ts,p.1=T.lamP->p.2=x ++ ".<locals>." ++ "<lambda>")(B:∀j,j<=m->∃n,ps.length=n+j/\∀(d:Addr)(kV b g:Value)(v:Option Addr)(s ct:Value)(us:List Value),us.length=n->∃k,bindArgs (fnOf x x (zar st) (zal st) (zaa st) (.ref d) kV b g v s ct) ⟨us,[]⟩=seqItems? (.ref d)>>=k/\k (some items)=pure (ps.zip (us++List.replicate j Value.none)))(a:nsIn K mainGlobals x=some (some (.ref f)))(l:K.lookup f=some ⟨z,od,.func (fnOf x x (zar st) (zal st) (zaa st) (.ref d) kV b g v (.ref c) ct),I⟩)(y:codeIn K (.ref c) x=true)(k:keepIn K (.ref f)=true)(e:codeHdIn K c T.lamP=true)(C:K.lookup d=some ⟨xc,J,.seq items L,xs⟩):DefOk K i T t u x ps m\/PrimOk P w K i base T t u x ps m:=
 lOk X G A o r one (fun j E=>by obtain⟨n,H,q⟩:=B j E;exact zla n (by rw[length_replicate];exact H) (zbY l y k) C (q d)) a l y k e
theorem all_of{B:Heap->Prop}{l:PySem.W.OpenLaw}{K}{st}{oc kV O Q y ct}(X:K.In h)(G:h.Ns mainGlobals b)(z:b "law"=some (.ref fa))(o:OkD T r g "law" "law" [U] st)(ln:Mks.cl.length<=T.cls.length)(u:AllAtG (ClAt K b T) 0 T.cls)(hb:AllInG (fun x=>nsIn K mainGlobals x=some none) T.blt)(hc:AllInG (CoAt K) T.cons)(hd:∀base:Heap,B base->AllAtG (fun g q=>DefOk K b T r g q.1 q.2.1 q.2.2\/PrimOk l.prog w K b base T r g q.1 q.2.1 q.2.2) 0 T.fns)(hm:AllAtG (ClAt K b T) 0 T.cls->AllInG (fun q=>MOk K T r q.2.2 0 (ExM K q.1 q.2.1)) T.mts)(hi:AllInG (fun q=>MOk K T r q.2.1 q.2.2 (ExI K q.1)) T.inits)(p:AllInG (fun q=>MOk K T r q.2.2 0 (ExC K b q.1 q.2.1)) T.cms)(hs:AllInG (IsAt K b) T.isas)(hp:T.xfns.all (fun i=>match r[i]? with|some F=>F.prim.isNone|none=>true)=true)(A:AllInG (XGet K) Mks.xc)(E:AllInG (IsaOk K) Mks.xc)(H:AllInG (zpX K b) T.xcs)(I:AllInG (fun f=>AllInG (fun C=>PySem.W.findIn K (.ref C) f=some none) Mks.xc) T.xflds)(J:AllInG (zpZ K b) T.xisas)(L:AllInG (zp0 K b) T.xisbs)(M:AllInG (zpY K b) T.xtrs)(a:nsIn K mainGlobals "law"=some (some (.ref f)))(l0:K.lookup f=some ⟨oc,od,.func (fnOf "law" "law" (zar st) (zal st) (zaa st) .none kV O Q an y ct),sl⟩)(c:codeIn K y "law"=true)(k:keepIn K (.ref f)=true):
  ∃Y:FuncData,(∀(s:Shared)(v:Value),BindsTo s Y ⟨[v],[]⟩ [(U,v)])/\∀base:Heap,K.In base->base.Ns mainGlobals b->B base->FnOk l.prog w K b base CX0 (2*n+3) fa Y [U] (spF K (callF r (n+1)) g):=by
 have e:=z.symm.trans (mg_of X G a);cases e;obtain⟨F,N,h1,h2,h3,h4,h5,h6⟩:=o.ex;refine⟨fnOf "law" "law" (zar st) (zal st) (zaa st) .none kV O Q an y ct,fun s v=>.of_eq (o.bd _ _ _ _ _ _ [v] rfl),fun base _ _ bm=>?_⟩;refine zkX (zql (fun x p=>PySem.W.mg_none_of X G (AllIn.get hb x p)) (fun x d p=>?_) (fun g x ps nd hf=>AllAt.get (hd base bm) g _ hf)
  ⟨AllAt.get u,fun c m g p=>AllIn.get (hm u) (c,m,g) p,fun c g j p=>AllIn.get hi (c,g,j) p,fun x m g h=>AllIn.get p (x,m,g) h,ln,fun x cs p=>AllIn.get hs (x,cs) p⟩ (zsG hp (hd base bm) A E H I J L M) n) (zbY l0 c k) h1 h3 h4 h5 h6 h2
 obtain⟨i,t,e,q⟩:=hc.mem (x,d) (PySem.mem_of_lookup p);cases(show d=.int i from e);exact⟨rfl,_,mg_of X G q,⟨_,rfl⟩⟩
noncomputable def H0(K:PySem.W.Frag)(a:Addr)(o:Obj)(xs:List V):Hp:=fun b=>if b∈Mks.ts.map (·.1) then some (.tbl #[]) else if b=a then(match K.lookup a with|some _=>none|none=>some (.frz o (.lst xs))) else none
theorem zkj{K}(KX:K.In c.heap)(J:c.heap.Ns mainGlobals A)(hb:c.heap.Ns builtinsNs mb)(hbb:∀x:Str,x≠"__name__"->mb x=bootBuiltins x)(L:c.heap.NoLimit)(hg:c.gens = #[])(bm:BM A c.heap)(I:c.heap.get? a=some {cls:=.type "list",data:=.seq vs.toArray})(hi:IntsAre vs M)(hl:M.length<=sizeLine)(hr:Room k callerA)(g:∀p∈Mks.ts,c.heap.get? p.1=some (tabObj #[])/\K.lookup p.1=none/\isCodeTable c.heap p.1)(F:∀base:Heap,K.In base->base.Ns mainGlobals A->BM A base->FnOk P w K A base CX0 k fa fd [x] sp)(B:∀(s:Shared)(u:Value),BindsTo s fd ⟨[u],[]⟩ [(x,u)])(hsp:∀H:Hp,FixL K H a (M.map V.int)->TB H->sp [.ref a] H (fun v _=>v=.bl true) fun _ _ _=>False):
  codeAny (model P w) callerA (.call (.ref fa) ⟨[.ref a],[]⟩) (fun r C=>r=.ok (.ret (.bool true))/\OldK c.heap C.heap/\C.os=c.os/\AllBare C.gens) c:=by
 have rv:=zfr hi;have N:=hi.length;generalize hH:H0 K a {cls:=.type "list",data:=.seq vs.toArray} (M.map V.int)=H;have Y:∀b,H b=none\/((∃p∈Mks.ts,p.1=b)/\H b=some (.tbl #[]))\/(b=a/\K.lookup a=none/\H b=some (.frz {cls:=.type "list",data:=.seq vs.toArray} (.lst (M.map V.int)))):=fun b=>by
  rw[<-hH];unfold H0;by_cases E:b∈Mks.ts.map (·.1);obtain⟨p,i,e⟩:=mem_map.mp E;exact .inr (.inl ⟨⟨p,i,e⟩,if_pos E⟩);rw[if_neg E];by_cases G:b=a;rw[if_pos G];cases e:K.lookup a with|some o=>exact .inl rfl|none=>exact .inr (.inr ⟨G,rfl,rfl⟩)
  rw[if_neg G];exact .inl rfl
 have tb:TB H:=fun p i=>⟨#[],by rw[<-hH];exact if_pos (mem_map.mpr ⟨p,i,rfl⟩),trivial,fun pos v e=>by simp[codeAmong]at e⟩;have na:a∉Mks.ts.map (·.1):=fun z=>by obtain⟨p,i,e⟩:=mem_map.mp z;have:=(g p i).1;rw[e,I]at this;cases this
 have hx:FixL K H a (M.map V.int):=by cases e:K.lookup a with| some o=>have e':=KX a o e;rw[I]at e';cases e';exact .inr ⟨_,vs.toArray,_,e,rfl,rfl,rfl,by rw[size_toArray,N];exact hl,by simpa using rv⟩| none=>refine .inl ⟨{cls:=.type "list",data:=.seq vs.toArray},?_⟩;rw[<-hH];unfold H0;rw[if_neg na,if_pos rfl,e]
 have hok:HOk P w H c.heap:=fun b u e=>by rcases Y b with z|⟨⟨p,i,rfl⟩,z⟩|⟨rfl,_,z⟩;rw[z]at e;cases e;rw[z]at e;cases e;exact(g p i).1;rw[z]at e;cases e;exact⟨I,by rw[length_map];exact hl,vs,_,rv,I⟩
 have O:∀{b:Addr}{o:Obj},c.heap.get? b=some o->(∀xs n,o.data≠.seq xs n)->(∀fs,o.data≠.fields fs)->H b=none:=fun {b o} e n1 n2=>by rcases Y b with z|⟨⟨p,i,rfl⟩,_⟩|⟨rfl,_,_⟩;exact z;rw[(g p i).1]at e;cases e;exact absurd rfl (n2 _);rw[I]at e;cases e;exact absurd rfl (n1 _ _)
 have f:∀{b:Addr}{o:Obj},c.heap.get? b=some o->H b=none->(hidT c.heap H).get? b=some o:=fun e n=>zmE e n;have j:∀{b:Addr}{m:Str->Option Value},c.heap.Ns b m->(hidT c.heap H).Ns b m:=fun {b m} ⟨o,es,ep,e,d,r⟩=>⟨o,es,ep,f e (O e (fun _ _ z=>by rw[d]at z;cases z) fun _ z=>by rw[d]at z;cases z),d,r⟩;have Q:K.In (hidT c.heap H):=fun b o e=>f (KX b o e) (by
  rcases Y b with z|⟨⟨p,i,rfl⟩,_⟩|⟨rfl,z,_⟩;exact z;rw[(g p i).2.1]at e;cases e;rw[z]at e;cases e)
 have hbm:BM A (hidT c.heap H):=by obtain⟨m,o,E,G,h3,h4,h5,h6,h7⟩:=bm;exact⟨m,o,E,G,h3,f h4 (O h4 (fun _ _ z=>by rw[h7]at z;cases z) fun _ z=>by rw[h7]at z;cases z),h5,h6,h7⟩
 have hM:Mod K A (hidT c.heap H):=⟨Q,j J,⟨mb,j hb,hbb⟩,let ⟨mc,E,G⟩:=L;⟨mc,j E,G⟩⟩;have e0:Env0 P w K A (hidT c.heap H) callerA [] c H:=⟨rfl,hM,fun b o e=>zph e,le_of_eq (zkB _ _),trivial,fun b hb=>absurd (show b∈([]:List Addr) from hb) (by simp),hok,.of_eq hg⟩;refine codeAny_mono ((F _ Q (j J) hbm).run callerA [] c H ⟨[.ref a],[]⟩ [.ref a] [.ref a] _ _ hr e0 (B c (.ref a)) (.cons rfl .nil) (hsp H hx tb)) fun r C h=>?_;cases r with
 |error e=>exact False.elim h| ok fl=>
  cases fl with
  |ret u=>
   obtain⟨v,H',os,T,un,l,r',q⟩:=h;have q':=q;subst q';obtain rfl:u=Value.bool true:=r';have U:∀b o,c.heap.get? b=some o->asItWas c.heap C.heap b o/\∃o',C.heap.get? b=some o':=fun b o e=>by rcases Y b with z|⟨⟨p,i,rfl⟩,z⟩|⟨rfl,_,z⟩;have k:=un.keep b o e z (by intro y;exact absurd (show b∈([]:List Addr) from y) (by simp)) (by simp);exact⟨.inl k,_,k⟩;obtain⟨t,z2⟩:=un.tbls _ _ z;have k:=l _ _ z2;have e':=(g p i).1;rw[e']at e;cases e;exact⟨.inr (.inl ⟨(g p i).2.2,rfl,#[],t,rfl,k⟩),_,k⟩;have z2:=un.frzs _ _ _ z;have k:=(l _ _ z2).1;rw[I]at e;cases e;exact⟨.inl k,_,k⟩
   exact⟨rfl,⟨fun b o e=>(U b o e).1,fun b o e=>(U b o e).2⟩,os,T⟩
  |_=>exact False.elim h
theorem walk_ofT{l:PySem.W.OpenLaw}{K:Params->PySem.W.Frag}{sp:World->Sp}(hn:l.most=some n)(t:n<=sizeLine)(y:d.params.defaults=[])(hr:Room k callerA)(hY:∀(w:World)(h:Heap),N w h->(K w.params).In h)(hT:∀(w:World)(h:Heap),N w h->∀p∈Mks.ts,h.get? p.1=some (tabObj #[]))(hK:∀(w:World),∀p∈Mks.ts,(K w.params).lookup p.1=none/\∃c,codeHdIn (K w.params) c p.1=true)(F:∀(w:World)(g:Str->Option Value)(m:Addr)(h:Heap),(K w.params).In h->h.Ns mainGlobals g->g d.name=some (.ref m)->
   ∃A:FuncData,(∀(s:Shared)(u:Value),BindsTo s A ⟨[u],[]⟩ [(x,u)])/\
    ∀base:Heap,(K w.params).In base->base.Ns mainGlobals g->BM g base->FnOk l.prog w (K w.params) g base CX0 k m A [x] (sp w))(B:∀(w:World)(H:Hp)(a:Addr)(r:List Int),r.length<=n->FixL (K w.params) H a (r.map V.int)->TB H->sp w [.ref a] H (fun v _=>v=.bl true) fun _ _ _=>False):
  PySem.W.WalkO q C XP N l.row.toRowW d [] (fun f vs=>PySem.call f vs):=by
 refine Att.attach_call hn y fun w O Q g mb m o pm cd doc a vs r G Y ho T hcd E j i b hg=>?_;have I:=hY w _ Y;obtain⟨A,hb,hF⟩:=F w g m _ I G.T.g E;obtain⟨U,ob,b1,b2,J,b4,b5,L⟩:=G.T.bmain;have M:U≠mainGlobals:=fun z=>by obtain⟨o,es,ep,e,T,_⟩:=G.T.g;rw[z,e]at J;cases J;rw[T]at L;cases L
 refine zkj I G.T.g G.T.b G.T.builtins G.T.nolimit hg ⟨U,ob,b1,b2,M,J,b4,b5,L⟩ j i (le_trans b t) hr (fun p hp=>?_) hF hb fun H hx tb=>B w H a r b hx tb;obtain⟨k1,c,k2⟩:=hK w p hp;have e:=hT w _ Y p hp;exact⟨e,k1,((PySem.W.codeHd_of_K I k2).tab e).isCodeTable⟩
noncomputable def zei:CE:=.tup (.cons (.neg (.ix (.loc 0) (.con (.int 1)))) (.cons (.ix (.loc 0) (.con (.int 0))) .nil))
theorem zmx(I:Inv X l U H s)(Y:Room 2 M)(e0:Env0 X.prog X.w X.K X.mg X.base M X.stack s H)(L:LamAt H f name m g h scope)(hs:FnScope ["row"] ["row"] scope)(hb:∀(A cd ct:Value),bindArgs (kla_fn name m g h scope [] A cd ct) ⟨[u],[]⟩=pure [(("row":Str),u)])(ck:chkE noTab zei ["row"] scope h=true)(tb:TB H)(ha:H a=some (.tup [.int k,.int v]))(hu:L2.RelV (.ref a) u):
  wpAny (model X.prog X.w) M (call (.ref f) [u]) (fun y B=>∃b c,y=.ref b/\Inv X l U c B/\c b=some (.tup [.int (-v),.int k])/\Ext [] H [] c/\Un (frs X.stack) [] H c s.heap B.heap) (fun _ _=>False) s:=by
 obtain⟨A,ct,N,oc,vs,t,h1,h2,h3,h4⟩:=L.ex;have of:=(I.hok f _ h1).1;have oo:=(I.hok N _ h2).1;refine wpAny_call (codeAny_mono (zkk (CX:=CX0) (E:=fun _ _ _=>False) (Q:=fun w c=>∃b,w=V.ref b/\c b=some (.tup [.int (-v),.int k])/\Ext [] H [] c) hs Y e0 of ⟨N,oc,vs,t,rfl,oo,h3,h4⟩
  (.of_eq (hb A _ ct)) (.cons hu .nil) rfl (fun C=>PE.nox (zad zei ⟨rfl,hs.nd,fun x e=>e,fun x e=>e,fun x e=>.inl e,fun x e=>e,.inl fun _=>rfl,rfl,PassesOwn.never,C,zmo,fun z=>absurd (show(["row"]:List Str)=noTab.lam from z) (by decide)⟩ ck)) ?_) fun r B q=>?_)
 refine⟨[some (.tup [.int k,.int v])],[],⟨[],[],[]⟩,fun d S=>d=.tup [.int (-v),.int k],⟨rfl,fun i d n=>?_⟩,zrc tb,by exact rfl,?_⟩
 . match i,n with|0,n=>cases n;exact⟨.ref a,rfl,a,_,rfl,ha,_,_,rfl,rfl,_,_,rfl,rfl,rfl⟩|j+1,n=>simp at n
 rintro w c ⟨d,ι',S',x,p,hh,rfl⟩;obtain⟨b,xs,rfl,hx,p1,p2,rfl,q1,p3,p4,rfl,q3,q4⟩:=p;cases q1;cases q3;cases q4;exact⟨b,rfl,hx,x.cut⟩;cases r with
 |error e=>exact q.elim| ok fl=>
  cases fl with
  |ret y=>
   obtain⟨w,c,os,o,O,G,p,b,rfl,J,x⟩:=q;cases y with
   |ref z=>
    have:z=b:=by simpa[L2.RelV]using p
    exact⟨b,c,by rw[this],I.call' os O G o (fun b z=>absurd z (by simp)),J,x,O⟩
   |_=>simp[L2.RelV]at p
  |_=>exact q.elim
theorem zls(g:d.Perm rows)(h:d.Pairwise fun a b=>zfz a b=true):d=zbQ rows:=by
 refine List.Perm.eq_of_pairwise (fun a b _ _ e f=>?_) h (List.pairwise_mergeSort (fun a b c e f=>?_) (fun a b=>?_) rows) (g.trans (List.mergeSort_perm rows zfz).symm);obtain⟨i,j⟩:=a;obtain⟨k,l⟩:=b;simp only[zfz]at e f;have m:i=k:=by lia
 have n:j=l:=by lia
 rw[m,n];simp only[zfz]at e f⊢;lia;simp only[zfz];lia
theorem zl6{a:Type}{xs:List a}{p:List Nat}(d)(b:p.Perm (List.range xs.length)):(p.map fun i=>xs.getD i d).Perm xs:=by have h:=b.map fun i=>xs.getD i d;refine h.trans (List.Perm.of_eq ?_);apply List.ext_getElem;simp;intro i e c;simp[c]
section
variable{X:Cx}{pins:List (Addr×Obj)}{σ:L2.St}{H:Hp}{s:Shared}{A':Around}{D kS:Addr}{rows:List (Int×Int)}
theorem zgX(ok:HOk P w H h)(e:H b=some (.tup [.int x,.int y])):∃(o:Obj) (t u:Tok) (n:Nat),h.get? b=some o/\o.cls=.type "tuple"/\o.data=.seq #[.int x t,.int y u] n:=by obtain⟨_,a,r,o,c,d,n,f⟩:=ok b _ e;cases r with| cons g r=>cases r with| cons i r=>cases r with| nil=>obtain⟨t,rfl⟩:=g;obtain⟨u,rfl⟩:=i;exact⟨o,t,u,n,c,d,f⟩
theorem zrV(ok:HOk X.prog X.w H s.heap)(e:H b=some (.tup [.int x,.int y]))(l:H c=some (.tup [.int a,.int f]))(q:Q (decide (x<a\/(x=a/\y<f))) s):wpAny (model X.prog X.w) A' (keyLt' (tuples' true) (.ref b) (.ref c)) Q E s:=by
 obtain⟨o,t,u,n,m,_,p⟩:=zgX ok e;obtain⟨w,r,v,A,h,_,i⟩:=zgX ok l;refine PySem.W.kat_lt m p h i (kat_cons (wpAny_eqBool_int ?_));by_cases d:x=a;have j:(x==a)=true:=by simpa using d
 rw[j];refine PySem.W.kat_yes (kat_cons (wpAny_eqBool_int ?_));by_cases k:y=f;have g:(y==f)=true:=by simpa using k
 rw[g];refine PySem.W.kat_yes (PySem.W.kat_nil ?_);have:decide (x<a\/(x=a/\y<f))=decide ((#[Value.int x t,Value.int y u]:Array Value).size<(#[Value.int a r,Value.int f v]:Array Value).size):=by rw[decide_eq_false (by lia)];rfl
 rw[this]at q;exact q;have g:(y==f)=false:=by simpa using k
 rw[g];refine kat_no (kat_one _ _ (wpAny_lt_int ?_));have:decide (x<a\/(x=a/\y<f))=decide (y<f):=by by_cases z:y<f;rw[decide_eq_true z,decide_eq_true (.inr ⟨d,z⟩)];rw[decide_eq_false z,decide_eq_false (by lia)]
 rw[this]at q;exact q;have j:(x==a)=false:=by simpa using d
 rw[j];refine kat_no (oneLt_int ?_);have:decide (x<a\/(x=a/\y<f))=decide (x<a):=by by_cases z:x<a;rw[decide_eq_true z,decide_eq_true (.inl z)];rw[decide_eq_false z,decide_eq_false (by lia)]
 rw[this]at q;exact q
theorem zhV(ok:HOk P w H h):∀(ks:List Value),(∀k∈ks,∃b x y,k=Value.ref b/\H b=some (.tup [.int x,.int y]))->∃a:List Value,KatTups h ks a/\a.length=ks.length/\∀v∈a,∃n t,v=Value.int n t
 | [],_=>⟨[],KatTups.nil,rfl,fun v h=>by cases h⟩| k::ks,c=>by obtain⟨a,d,f,g⟩:=zhV ok ks fun k h=>c k (mem_cons_of_mem _ h);obtain⟨b,x,y,rfl,e⟩:=c k mem_cons_self;obtain⟨o,t,u,n,i,j,l⟩:=zgX ok e;refine⟨.int x t::a,KatTups.cons i j l rfl d,by simp[f],fun v hv=>?_⟩;rcases mem_cons.mp hv with rfl|hv;exact⟨x,t,rfl⟩;exact g v hv
theorem zmw{ks:List Value}(ok:HOk X.prog X.w H s.heap)(a:∀k∈ks,∃b x y,k=Value.ref b/\H b=some (.tup [.int x,.int y]))(e:1<=ks.length)(q:Q (tuples' true) s):
  wpAny (model X.prog X.w) A' (keyKind' ks.toArray) Q E s:=by
 obtain⟨f,c,g,d⟩:=zhV ok ks a;refine PySem.W.kat_kind (T:=.type "int") c (by lia) (fun v hv=>?_) rfl q;obtain⟨n,t,rfl⟩:=d v hv;exact .now
end
noncomputable def LtR(a b:Int×Int):Prop:=-a.2 < -b.2\/(-a.2 = -b.2/\a.1<b.1)
noncomputable instance:DecidableRel LtR:=fun a b=>inferInstanceAs (Decidable (-a.2 < -b.2\/(-a.2 = -b.2/\a.1<b.1)))
noncomputable def RowA(H:Hp)(a:Addr)(r:Int×Int):Prop:=H a=some (.tup [.int r.1,.int r.2])
noncomputable def KeyA(H:Hp)(b:Addr)(r:Int×Int):Prop:=H b=some (.tup [.int (-r.2),.int r.1])
theorem ordR:Ord LtR:=by refine⟨fun r=>by unfold LtR;lia,fun {a b c} h k=>by unfold LtR at *;lia,fun {a b} h=>?_⟩;obtain⟨x,y⟩:=a;obtain⟨u,v⟩:=b;unfold LtR;by_cases e:y=v;subst e;have:x≠u:=fun z=>h (by rw[z]);lia;lia
theorem zqD{X:Cx}{d:List (Addr×Obj)}{j:L2.St}{H:Hp}{g:Around}{f:Addr}{name e:Str}{a:Arguments}{c:Expr}{scope:Scope}(l:Room 2 g)(m:∀H s,Inv X d j H s->Env0 X.prog X.w X.K X.mg X.base g X.stack s H)(L:LamAt H f name e a c scope)(hs:FnScope ["row"] ["row"] scope)
  (n:∀(o p ct u:Value),bindArgs (kla_fn name e a c scope [] o p ct) ⟨[u],[]⟩=pure [(("row":Str),u)]) (t:chkE noTab zei ["row"] scope c=true) (v:TB H):SortK X d j g H f RowA KeyA (tuples' true) LtR where
 upR:=fun k h=>k.tups _ _ h
 upK:=fun k h=>k.tups _ _ h
 call:=fun I x w=>zmx I l (m _ _ I) (L.up x.kp) hs (fun _ _ _=>n _ _ _ _) t (x.kp.tab v) w rfl
 kind:=fun I y i q=>zmw I.hok (fun k A=>(y k A).elim fun b z=>z.elim fun r z=>⟨b,_,_,z.1,z.2⟩) i q
 less:=fun I i B q=>zrV I.hok i B q
 ord:=ordR
theorem PlcG.tally(h:PlcG LtR rows p):(p.map fun i=>rows.getD i (0,0))=zbQ rows:=zls (zl6 _ h.perm) (h.asc.imp fun {a b} z=>by simp only[zfz];unfold LtR at z;lia)
section
variable{X:Cx}{pins:List (Addr×Obj)}{σ:L2.St}{H H':Hp}{s:Shared}{b:Addr}{o:HO}
theorem zen:∀(as:List Addr)(rows:List (Int×Int)){H:Hp},Inv X pins σ H s->as.length=rows.length->as.Pairwise (· < ·)->(∀a∈as,Own X pins a/\H a=none)->
  (∀(j:Nat)(a:Addr),as[j]?=some a->∃(r:Int×Int) (t u:Tok),rows[j]?=some r/\s.heap.get? a=some {cls:=.type "tuple",data:=.seq #[.int r.1 t,.int r.2 u]})->
  ∃H',Inv X pins σ H' s/\Ext [] H [] H'/\(∀c,c∉as->H' c=H c)/\∀(j:Nat)(a:Addr),as[j]?=some a->∃r:Int×Int,rows[j]?=some r/\H' a=some (.tup [.int r.1,.int r.2])
 | [],rows,H,I,g,_,_,_=>⟨H,I,Ext.refl _ _,fun c _=>rfl,fun j a e=>by simp at e⟩|a::as,[],H,I,g,_,_,_=>by simp at g| a::as,r::rows,H,I,g,m,h,i=>by
  obtain⟨n,l⟩:=h a mem_cons_self;obtain⟨y,t,u,p,v⟩:=i 0 a rfl;cases p;have f:=pairwise_cons.mp m;have w:Inv X pins σ (upd H a (.tup [.int r.1,.int r.2])) s:=zbX I n l ⟨by simp[sizeLine_eq],[.int r.1 t,.int r.2 u],.cons ⟨t,rfl⟩ (.cons ⟨u,rfl⟩ .nil),_,v,rfl,_,rfl⟩;obtain⟨H',J,x,k,q⟩:=zen as rows w (by simpa using g) f.2 (fun c d=>⟨(h c (mem_cons_of_mem _ d)).1,by
   rw[zae (ne_of_gt (f.1 c d))];exact(h c (mem_cons_of_mem _ d)).2⟩) fun j c e=>i (j+1) c (by simpa using e)
  refine⟨H',J,(zfg l).trans x,fun c d=>?_,fun j c e=>?_⟩;rw[k c (fun z=>d (mem_cons_of_mem _ z)),zae (fun z=>d (by rw[z];exact mem_cons_self))];cases j with|zero=>cases e;exact⟨r,rfl,x.kp.tups _ _ zag⟩|succ j=>exact q j c (by simpa using e)
end
noncomputable def zbr(rows:List (Int×Int)):List (Key×V):=rows.map fun r=>(.inl r.1,.int r.2)
theorem zkl:∀{rows:List (Int×Int)}{vs:List (Key×Value)},KV (zbr rows) vs->vs.length=rows.length/\∀(j:Nat) k v,vs[j]?=some (k,v)->∃(r:Int×Int) (t:Tok),rows[j]?=some r/\k=.inl r.1/\v=.int r.2 t
 | [],vs,h=>by cases h;exact⟨rfl,fun j k v e=>by simp at e⟩| r::rows,vs,h=>by cases h with| cons b d=>obtain⟨a,c⟩:=zkl d;refine⟨by simp[a],fun j k v e=>?_⟩;cases j with| zero=>cases e;obtain⟨f,t,g⟩:=b;exact⟨r,t,rfl,f.symm,g⟩|succ j=>exact c j k v (by simpa using e)
section
variable{X:Cx}{pins:List (Addr×Obj)}{σ:L2.St}{H:Hp}{s:Shared}{d r f:Addr}{rows:List (Int×Int)}{name qual:Str}{params:Arguments}{body:Expr}{scope:Scope}
structure Tld(X:Cx)(pins:List (Addr×Obj))(σ:L2.St)(H:Hp)(rows:List (Int×Int))(D:Addr)(s':Shared):Prop where
 ex:∃(H':Hp) (ts:List Addr),Inv X pins σ H' s'/\Ext [] H [] H'/\H D=none/\H' D=some (.lst (ts.map V.ref))/\ts.length=rows.length/\∀(j:Nat)(t:Addr),ts[j]?=some t->∃q:Int×Int,(zbQ rows)[j]?=some q/\H' t=some (.tup [.int q.1,.int q.2])
theorem zjo(I:Inv X pins σ H s)(hh:X.A.handled=none)(hr:Room 2 X.A.in1.in1)(L:LamAt H f name qual params body scope)(hs:FnScope ["row"] ["row"] scope)(v:∀(pm cd ct u:Value),bindArgs (kla_fn name qual params body scope [] pm cd ct) ⟨[u],[]⟩=pure [(("row":Str),u)])(ck:chkE noTab zei ["row"] scope body=true)(tb:TB H)(hd:H d=some (.dK (zbr rows)))(hv:s.heap.IsItemsView r d)(h64:rows.length<64)(q:∀D s',Tld X pins σ H rows D s'->Q (.ref D) s'):
  wpAny (model X.prog X.w) X.A (call (.builtin "sorted") [.ref r] [(Str.ofString "key",.ref f)]) Q E s:=by
 obtain⟨_,hsys,B,kv,od,es,ep,ho,hex,hda,hko,hpr,O⟩:=I.hok d _ hd;obtain⟨c,T⟩:=zkl kv;have hm:s.heap.DictAt (zat X.prog X.w) d B ep:=⟨od,es,ho,hex,hda,hko,hpr,O⟩;refine call_function_entry_kw kind_sorted plain_sorted entry_sorted (ksk_s1 _ _) ?_;unfold Builtin.«sorted»;refine wpAny_bind (m:=checkCount "sorted" 1 1 _) (wpAny_pure (wpAny_bind ?_));refine PySem.W.kdx_collect (A:=X.A.in1) (knd:=zat X.prog X.w) (kvs:=B) (ep:=ep) hh hv hm (by rw[c,sizeLine_eq];lia) fun l C as U y kg=>?_;have I1:Inv X pins σ H {s with heap:=l,toks:=C}:=zaM (g':=s.gens) (t':=C) (d':=s.drawn) (ch:=[]) I (fun b v=>by cases v) (fun b v=>by cases v) (fun b o _ e=>U b o e) I.bare;have G:∀(j:Nat)(a:Addr),as[j]?=some a->∃(p:Int×Int) (t u:Tok),rows[j]?=some p/\l.get? a=some {cls:=.type "tuple",data:=.seq #[.int p.1 t,.int p.2 u]}:=fun j a ha=>by obtain⟨key,k,x,e1,e2,e3⟩:=kg.pairs j a ha;obtain⟨p,t,p1,p2,p3⟩:=T j k x e1;subst p2 p3;rw[ziG]at e2;rcases zaA e2 with⟨i,u,z1,z2⟩|⟨x',u,z1,z2⟩;cases z1;subst z2;exact⟨p,u,t,p1,e3⟩;cases z1
 obtain⟨H1,I2,x1,out1,g⟩:=zen (s:={s with heap:=l,toks:=C}) as rows I1 (by rw[y,c]) kg.rise (fun a ha=>⟨Own.fresh I (le_of_lt (kg.above a ha)),I.hok.fresh (le_of_lt (kg.above a ha))⟩) G;have n:as.length=rows.length:=by rw[y,c]
 refine wpAny_bind (wpAny_newList ?_ (by rw[length_map,n,sizeLine_eq];lia));have I3:Inv X pins σ H1 {s with heap:=l.push (seqObj "list" (as.map Value.ref).toArray 0),toks:=C}:=zaM (s:={s with heap:=l,toks:=C}) (g':=s.gens) (t':=C) (d':=s.drawn) (ch:=[]) I2 (fun b v=>by cases v) (fun b v=>by cases v) (fun b o _ e=>Heap.get?_push_of_some _ e) I.bare;have lD:zfo {s with heap:=l.push (seqObj "list" (as.map Value.ref).toArray 0),toks:=C} l.objs.size (as.map Value.ref) 0:=Heap.get?_push_size _ rfl;have oD:Own X pins l.objs.size:=Own.fresh I2 (le_refl _);have dN:H1 l.objs.size=none:=I2.hok.fresh (le_refl _);have dN0:H l.objs.size=none:=I1.hok.fresh (le_refl _);refine wpAny_bind (wpAny_holding (wpAny_call_entry_kw slot_list_sort ⟨_,lD,rfl⟩ entry_list_sort ?_ (ksk_l1 _ _)));refine zqi (D:=l.objs.size) (as:=as) (rows:=rows) I3 (zqD hr (fun H s J=>J.env0.in1.in1) (L.up x1.kp) hs v ck (x1.kp.tab tb)) n h64 ?_ oD dN lD g fun p s' pl ke=>⟨_,rfl,?_⟩;have hn:(B.map (·.1)).Nodup:=O;have e:(B.map (·.1))=(rows.map (·.1)).map Sum.inl:=by
  apply List.ext_getElem;simp[c];intro i g1 g2;have gi:i<B.length:=by simpa using g1
  obtain⟨p,t,p1,p2,p3⟩:=T i B[i].1 B[i].2 (by rw[getElem?_eq_getElem gi]);have gr:i<rows.length:=by lia
  rw[getElem?_eq_getElem gr]at p1;cases p1;simpa using p2
 rw[e]at hn;rw[List.nodup_iff_pairwise_ne,pairwise_map,pairwise_map]at hn;rw[List.nodup_iff_pairwise_ne];exact hn.imp fun h z=>h (by rw[z]);refine wpAny_pure ⟨_,rfl,q _ s' ?_⟩;obtain⟨H2,e,J,x2,M,Y⟩:=ke.ex;have eo:(p.map fun i=>(as.map Value.ref).getD i Value.none)=(p.map fun i=>as.getD i 0).map Value.ref:=by
  rw[map_map];refine List.map_congr_left fun i hi=>?_;have:=pl.lt' i hi;have gi:i<as.length:=by lia
  simp[gi]
 rw[eo]at Y;have plen:p.length=rows.length:=by rw[pl.perm.length_eq];simp
 have tup2:∀(j:Nat)(t:Addr),(p.map fun i=>as.getD i 0)[j]?=some t->∃q:Int×Int,(zbQ rows)[j]?=some q/\H2 t=some (.tup [.int q.1,.int q.2]):=fun j t N=>by
  rw[getElem?_map]at N;cases ej:p[j]? with
  |none=>rw[ej]at N;cases N
  |some i=>rw[ej]at N;cases N;have hi:=pl.lt' i (mem_of_getElem? ej);obtain⟨w,w1,w2⟩:=g i (as.getD i 0) (getD_mem 0 (by lia));refine⟨w,?_,x2.kp.tups _ _ w2⟩;rw[<-pl.tally,getElem?_map,ej];show some (rows.getD i (0,0))=some w;rw[List.getD_eq_getElem?_getD,w1];rfl
 have dne:∀t o,H2 t=some o->t≠l.objs.size:=fun t o h=>zaj h M;refine⟨upd H2 l.objs.size (.lst ((p.map fun i=>as.getD i 0).map V.ref)),p.map fun i=>as.getD i 0,zbX J oD M ⟨by simp[plen,sizeLine_eq];lia,_,e,?_,Y⟩,(x1.trans x2).trans (zfg M),dN0,zag,by simp[plen],fun j t N=>?_⟩;generalize(p.map fun i=>as.getD i 0)=ts;induction ts with|nil=>exact .nil|cons t ts ih=>exact .cons rfl ih
 obtain⟨w,w1,w2⟩:=tup2 j t N;exact⟨w,w1,by rw[zae (dne t _ w2)];exact w2⟩
end
structure M0(X:Cx)(o:Expr)(m:Str)(apos cpos:Pos):Prop where
 base:attributeBase o m X.env (eval o X.env)=eval o X.env
 few:((backTo cpos (starEach [] X.env)).all (fun x=>!x.1)&&(backToKw cpos (keywordEach [] X.env)).all (fun x=>x.1.isSome)&&decide (([]:List Expr).length+([]:List Keyword).length+(if([]:List Keyword).isEmpty then 0 else 1)<30))=true
 line:(apos.endLine==cpos.line)=true
noncomputable abbrev zds(d:Addr):Obj:={cls:=.type "dict_items",data:=.fields #[.ref d]}
noncomputable def zjm(c:TE):TE:=fun e H Q=>c e H fun x b=>∃d a,x=.ref d/\b d=some (.dK (zbr a))/\∀v,b v=none->Q (.ref v) (upd b v (.frz (zds d) (.own 0)))
theorem zme(p:PE X o q)(m:M0 X o "items" apos cpos):PE X (.Call (.Attribute o "items" apos) [] [] cpos) (zjm q):=by intro a s i H Q I h;refine wpAny_Call_method m.base m.few m.line PySem.F.plainAttrs_dict PySem.F.slot_dict_items PySem.F.type_dict_items (thn (p a s i H _ I h) fun u c z=>?_);obtain⟨x,j,f,r,d,k,t,l,v⟩:=z;subst t;obtain rfl:u=Value.ref d:=r;obtain⟨w,y,A⟩:=zf7 f (.inl ⟨_,.inl l⟩);obtain⟨_,_,B,_,hD⟩:=f.hok d _ l;refine⟨w,y,?_⟩;refine Calls.callWith_builtin rfl (PyProof.Rows.evalArgs_none ?_);refine PySem.call_meetsIn PySem.F.slot_dict_items hD.typeIs PySem.F.entry_dict_items (PySem.F.args_dict_items_1 _) (meets_dict_items (zat X.prog X.w) d A) ⟨⟨B,hD⟩,?_⟩;have n:=f.hok.fresh (le_refl _);have C:Inv X a i j {c with heap:=c.heap.push (zds d)}:=zaM (ch:=[]) f (fun b g=>by cases g) (fun b g=>by cases g) (fun b o _ e=>Heap.get?_push_of_some _ e) f.bare;have E:=zbX (o:=.frz (zds d) (.own 0)) C (Own.fresh f (le_refl _)) n ⟨Heap.get?_push_size _ rfl,_,Heap.get?_push_size _ rfl⟩;exact⟨.ref c.heap.objs.size,_,E,rfl,v _ n⟩
noncomputable def znN(Q:VK)(w:V)(b:Hp):Prop:=∃v d a,w=.ref v/\b v=some (.frz (zds d) (.own 0))/\b d=some (.dK (zbr a))/\a.length<64/\TB b/\
 ∀(D:Addr)(c:Hp)(e:List Addr),Ext [] b [] c->b D=none->c D=some (.lst (e.map V.ref))->e.length=a.length->
  (∀(j:Nat)(t:Addr),e[j]?=some t->∃r:Int×Int,(zbQ a)[j]?=some r/\c t=some (.tup [.int r.1,.int r.2]))->Q (.ref D) c
noncomputable def zqm(a:TE):TE:=fun b H Q=>zjm a b H (znN Q)
theorem zji(p:Inv X h y c s)(w:Room 2 X.A.in1.in1)(hs:FnScope ["row"] ["row"] scope)(A:∀(B C ct u:Value),bindArgs (kla_fn "<lambda>" q a b scope [] B C ct) ⟨[u],[]⟩=pure [(("row":Str),u)])(E:chkE noTab zei ["row"] scope b=true)(L:LamAt c f "<lambda>" q a b scope)(G:TB g)(i:Ext [] g [] c)(hv:g v=some (.frz (zds d) (.own 0)))(hd:g d=some (.dK (zbr rows)))(k:rows.length<64)(H:∀(D:Addr)(c:Hp)(ts:List Addr),Ext [] g [] c->g D=none->c D=some (.lst (ts.map V.ref))->ts.length=rows.length->(∀(j:Nat)(t:Addr),ts[j]?=some t->∃r:Int×Int,(zbQ rows)[j]?=some r/\c t=some (.tup [.int r.1,.int r.2]))->Q (.ref D) c):
  wpAny (model X.prog X.w) X.A (call (.builtin "sorted") [.ref v] [(Str.ofString "key",.ref f)]) (EP X h y Q) X.xe s:=by
 have l:=i.keep (by simp) hv (by simp);have m:=i.keep (by simp) hd (by simp);have I:s.heap.IsItemsView v d:=⟨_,(p.hok v _ l).1,rfl,rfl⟩;refine zjo p w.hd w L hs A E (i.kp.tab G) m I k fun D T n=>?_;obtain⟨x,ts,J,M,N,dl,n,O⟩:=n.ex;refine⟨.ref D,x,J,rfl,H D x ts (i.trans M) ?_ dl n O⟩;cases e:g D with|none=>rfl| some o=>exfalso;have:=(i.rest D o (by simp) e).1;rw[N]at this;rcases this with z|⟨_,_,z⟩<;>cases z
section
variable{X:Cx}{o:Expr}{p apos cpos kpos lpos pos:Pos}{td:TE}{c P:Addr}{params:Arguments}{body:Expr}{scope:Scope}
theorem zl7(t:PE X o td)(m:M0 X o "items" apos cpos)(x:Gl X "sorted")(y:X.mg "sorted"=none)(A:Room 2 X.A.in1.in1)(mk:Maker X c P)(b:defaultsOf params X.env=([],[]))(g:closureFor scope X.env=pure [])(hs:FnScope ["row"] ["row"] scope)
  (B:∀(C E ct u:Value),bindArgs (kla_fn "<lambda>" (X.env.qual ++ "<lambda>") params body scope [] C E ct) ⟨[u],[]⟩=pure [(("row":Str),u)]) (G:chkE noTab zei ["row"] scope body=true) :
  PE X (.Call (.Name "sorted" p) [.Call (.Attribute o "items" apos) [] [] cpos] [⟨some "key",.Lambda params body scope lpos,kpos⟩] pos) (zqm td):=by
 intro a s k H Q I h;refine wpAny_Call_Name_kw (zc9 I x y (by rfl:bootBuiltins "sorted"=some (.builtin "sorted")) ?_ (by decide) (by decide));have J:=zaI (zme t m) zbM;have M:PK X [⟨some "key",.Lambda params body scope lpos,kpos⟩] (zeL (tLam (X.env.qual ++ "<lambda>") params body scope) tNil):=zjT (zns mk b g) zno;refine PyProof.Rows.callWith_builtin_kwB rfl rfl (PyProof.Rows.evalArgs_kw2 rfl (thn (J pos a s k H (oneK (znN Q)) I h) fun us N z=>eY z fun vs l O T U=>?_));obtain⟨w,rfl,v,d,n,Y,hv,hd,i,q,q1⟩:=zdm U;subst Y;obtain⟨u,rfl,ru⟩:=Vals.one T;obtain rfl:u=Value.ref v:=ru;refine thn (M pos a N k l (oneK fun r e=>∃f,r=.ref f/\LamAt e f "<lambda>" (X.env.qual ++ "<lambda>") params body scope/\Ext [] l [] e) O ⟨q,fun f e L S=>⟨f,rfl,L,S⟩⟩) fun ws s2 z=>eY z fun zs e I2 r2 k2=>?_;obtain⟨r,rfl,f,ef,L,st⟩:=zdm k2;subst ef;obtain⟨u2,rfl,j⟩:=Vals.one r2;obtain rfl:u2=Value.ref f:=j;exact zji I2 A hs B G L q st hv hd i q1
end
theorem zoR[DecidableEq a]{x:a×V}{r:List (a×V)}{k:a}(h:x.1≠k):putK (x::r) k v=x::putK r k v:=by unfold putK;have:decide (x.1=k)=false:=decide_eq_false h;simp only[any_cons,this,Bool.false_or];split;rw[map_cons,if_neg h];rfl
theorem zhG:∀(rows:List (Int×Int))(w:Int),(rows.map (·.1)).Nodup->∃c:Int,(valV (zbr rows) (.inl w)).getD (.int 0)=.int c/\putK (zbr rows) (.inl w) (.int (c+1))=zbr (bump rows w)
 | [],w,_=>⟨0,rfl,rfl⟩| (k,c)::r,w,h=>by
  simp only[map_cons,nodup_cons]at h;by_cases e:k=w;subst e;refine⟨c,by simp[zbr,valV],?_⟩;have j:(zbr r).map (fun a=>if a.1=(Sum.inl k:Key) then(a.1,V.int (c+1)) else a)=zbr r:=by rw[List.map_congr_left,List.map_id];intro a b;obtain⟨q,l,rfl⟩:=mem_map.mp b;have:q.1≠k:=fun z=>h.1 (z▸mem_map.mpr ⟨q,l,rfl⟩);simp[this]
  have f:zbr ((k,c)::r)=(.inl k,.int c)::zbr r:=rfl;unfold bump;rw[if_pos rfl,f];unfold putK;have:(((Sum.inl k:Key),V.int c)::zbr r).any (fun a=>decide (a.1=Sum.inl k))=true:=by simp
  rw[if_pos this,map_cons,j,if_pos rfl];rfl;obtain⟨d,m,n⟩:=zhG r w h.2;have i:(Sum.inl k:Key)≠Sum.inl w:=fun z=>e (Sum.inl.inj z);have f:zbr ((k,c)::r)=(.inl k,.int c)::zbr r:=rfl;refine⟨d,?_,?_⟩;rw[f,<-m];unfold valV;rw[List.find?_cons_of_neg (by simpa using e)];rw[f,zoR i,n];have o:bump ((k,c)::r) w=(k,c)::bump r w:=by rw[bump,if_neg e]
  rw[o];rfl
section
variable{X:Cx}{p1 p2 p3 p4 p5 p6 p7 p8 p9 p10 p11 p12 p13 p14 p15 p16 p17 p18 p19 p20 p21 p22 p23 p24 p25 p26 p27 p28 p29:Pos}{k7 k15 k17:Nat}{params:Arguments}{body:Expr}{scope:Scope}
noncomputable def zm9(p1 p2 p3 p4 p5 p6 p7 p8 p9 p10 p11 p12 p13 p14 p15 p16 p17 p18 p19 p20 p21 p22 p23 p24 p25 p26 p27 p28 p29:Pos)(params:Arguments)(body:Expr)(scope:Scope):List Stmt:=
 [.Assign [.Name "counts" p1] (.Dict [] [] p2) p3,
  .For (.Name "word" p4) (.Name "words" p5) [.If (.Compare (.Name "word" p6) [.IsNot] [.Constant .none 0 p7] p8)
   [.Assign [.Subscript (.Name "counts" p9) (.Name "word" p10) p11] (.BinOp (.Call (.Attribute (.Name "counts" p12) "get" p13) [.Name "word" p14,.Constant (.int 0) 0 p15] [] p16) .Add (.Constant (.int 1) 0 p17) p18) p19] [] p20] [] p21,
  .Return (some (.Call (.Name "sorted" p22) [.Call (.Attribute (.Name "counts" p23) "items" p24) [] [] p25] [⟨some "key",.Lambda params body scope p26,p27⟩] p28)) p29]
noncomputable def znV(K:PySem.W.Frag):TS:=tIfS (znU (tOp (fun x y H Q=>y=.non/\Q (.bl (!decide (x=.non))) H) (tVar 2) (tC .non))) (zra (tVar 1) (tVar 2) (tOp (rI0 fun i j=>.int (i+j)) (zna (tVar 1) (tVar 2) (tC (.int 0))) (tC (.int 1)))) zqn
theorem zl1(a:X.N=[("words":Str),"counts","word"])(j:X.env.scope.names.lookup ("words":Str)=some .local)(b:X.env.scope.names.lookup ("counts":Str)=some .local)(c:X.env.scope.names.lookup ("word":Str)=some .local)(k:X.calm=true)(l:X.xe=fun _ _=>False)(e:X.A.units+1<cLine)(m:M2 X (.Name "counts" p12) "get" p13 (.Name "word" p14) (.Constant (.int 0) 0 p15) p16)(hs:swapsWith (.BinOp (.Call (.Attribute (.Name "counts" p12) "get" p13) [.Name "word" p14,.Constant (.int 0) 0 p15] [] p16) .Add (.Constant (.int 1) 0 p17) p18) (some (.Subscript (.Name "counts" p9) (.Name "word" p10) p11)) p19.line X.env=pure false)(n:swapsWith (.Dict [] [] p2) (some (.Name "counts" p1)) p3.line X.env=pure false)(o:PE X (.Call (.Name "sorted" p22) [.Call (.Attribute (.Name "counts" p23) "items" p24) [] [] p25] [⟨some "key",.Lambda params body scope p26,p27⟩] p28) q):
  PSs X (zm9 p1 p2 p3 p4 p5 p6 p7 p8 p9 p10 p11 p12 p13 p14 p15 p16 p17 p18 p19 p20 p21 p22 p23 p24 p25 p26 p27 p28 p29 params body scope)
   (tSeq (tAsg zjn (zfd 1)) (tSeq (tFor (zpC X.K (tVar 0)) (zfd 2) (znV X.K)) (tRet q))):=by
 have r:X.N[0]?=some ("words":Str):=by rw[a];rfl
 have f:X.N[1]?=some ("counts":Str):=by rw[a];rfl
 have g:X.N[2]?=some ("word":Str):=by rw[a];rfl
 have h:X.N.Nodup:=by rw[a];decide
 have s:∀{p:Pos},PE X (.Name "words" p) (tVar 0):=zcj r (.inl j);have i:∀{p:Pos},PE X (.Name "counts" p) (tVar 1):=zcj f (.inl b);have d:∀{p:Pos},PE X (.Name "word" p) (tVar 2):=zcj g (.inl c);have t:PassesOwn (model X.prog X.w) X.A X.env X.xe:=by rw[l];exact PassesOwn.never
 refine zaC (zfR h f (.inl b) zhJ n (.inr b)) (zaC (znm t k (zo1 s) (zgP h g (.inl c) (.inr c)) (zgO (zoU (zjO zpd d znr (znw _)) (zgO (zoV e i d (zrq znv (zeX e i d zfU m) zfU) hs)) zdG))) (zgO (zjP o)))
theorem zeK{os:List (Option Int)}(h:os[i]?=some o):os.take (i+1)=os.take i++[o]:=by rw[List.take_add_one,h];rfl
theorem zha(kvs)(os)(o):zam kvs (os++[o])=match o with|some x=>bump (zam kvs os) x|none=>zam kvs os:=by unfold zam;rw[List.foldl_append];cases o<;>rfl
theorem zjw{K}{os}(hD:m.rt=Q)(l:H a=some (.lst (os.map wV)))(t:os.length<=sizeLine)(fin:∀(p:Addr)(b:L2.St),H p=none->b[1]?=some (some (.ref p))->n b (upd H p (.dK (zbr (zam [] os)))) Q):
  (tSeq (tAsg zjn (zfd 1)) (tSeq (tFor (zpC K (tVar 0)) (zfd 2) (znV K)) (tRet n))) m (start ["words","counts","word"] [.ref a]) H:=by
 intro p q;have d:=zaj l q;refine⟨.ref a,rfl,a,rfl,⟨_,SqL.of ((zae d).trans l)⟩,?_⟩;refine zmJ (xs:=os.map wV) (fun i b j=>(∃z,b=[some (.ref a),some (.ref p),z])/\j=upd H p (.dK (zbr (zam [] (os.take i))))) ⟨⟨none,rfl⟩,rfl⟩ (fun i b j _ h=>?_) (fun i x b j f h=>?_) fun b j h=>?_;rw[h.2];exact SqL.of ((zae d).trans l);obtain⟨⟨z,rfl⟩,rfl⟩:=h;rw[getElem?_map]at f;cases e:os[i]? with
 |none=>rw[e]at f;cases f
 |some o=>
  rw[e]at f;cases f;have u:=(List.getElem?_eq_some_iff.mp e).1;refine⟨wV o,rfl,rfl,_,rfl,?_⟩;rw[zeK e,zha];cases o with
  |none=>exact⟨⟨_,rfl⟩,rfl⟩| some w=>
   obtain⟨c,r,s⟩:=zhG (zam [] (os.take i)) w (za7 _ List.nodup_nil);have g:(zbr (zam [] (os.take i))).length<sizeLine:=by have:=zeA (os.take i);rw[length_take]at this;unfold zbr;rw[length_map];lia
   refine⟨.ref p,rfl,p,rfl,.inl ⟨_,.inl zag⟩,.int w,rfl,_,DGet.k (k:=.inl w) zag,c,1,r,rfl,.ref p,rfl,.int w,rfl,p,_,rfl,DPut.k (k:=.inl w) zag g,⟨⟨_,rfl⟩,?_⟩⟩;rw[zjb,s]
 obtain⟨⟨z,rfl⟩,rfl⟩:=h;rw[length_map,List.take_length];show n _ _ m.rt;rw[hD];exact fin p _ q rfl
theorem zil{K}{os}{ts:List Addr}(q:RH K f H S)(y:H p=none)(hv:upd H p g v=none)(x:Ext [] (upd (upd H p g) v n) [] k)(hD:upd (upd H p g) v n b=none)(B:k b=some (.lst (ts.map V.ref)))(C:ts.length=(zam [] os).length)(E:∀(j:Nat)(t:Addr),ts[j]?=some t->∃r:Int×Int,(zbQ (zam [] os))[j]?=some r/\k t=some (.tup [.int r.1,.int r.2])):
  Ext f H (f++[b]) k/\RH K (f++[b]) k (S.push (.lst (talD os))):=by
 have G:=(Kp.new y g).trans (Kp.new hv n);have s:∀a o,H a=some o->upd (upd H p g) v n a=some o:=fun a o e=>by have c:upd H p g a=some o:=(zae (zaj e y)).trans e;exact(zae (zaj c hv)).trans c
 have l:H b=none:=by cases e:H b with|none=>rfl|some o=>rw[s _ _ e]at hD;cases hD
 have u:=q.fresh l;have A:Ext f H (f++[b]) k:=⟨prefix_append _ _,G.trans x.kp,fun a o h e=>⟨(x.rest a o (by simp) (s a o e)).1,fun z=>by rcases mem_append.mp z with z|z;exact h z;simp at z;exact zaj e l z⟩⟩;refine⟨A,q.add A (fun a I=>?_) u ⟨_,B,RVs.ofGet ?_ fun i d w c m=>?_⟩⟩;obtain⟨o,e,_,_,J⟩:=q.live I;rw[e];exact x.keep (by simp) (s a o e) J;unfold talD;rw[length_map,length_map,C];unfold zbQ;rw[List.length_mergeSort];rw[getElem?_map]at m;unfold talD at c;rw[getElem?_map]at c;cases z:ts[i]? with
 |none=>rw[z]at m;cases m
 |some t=>rw[z]at m;cases m;obtain⟨r,L,M⟩:=E i t z;rw[L]at c;cases c;exact⟨t,_,rfl,M,_,_,rfl,rfl,_,_,rfl,rfl,rfl⟩
end
theorem zeV(h:W (prm S .tally ds) Q):∃l a os,ds=[.ref l]/\S.get l=some (.lst a)/\zcP a=some os/\(zam [] os).length<64/\os.length<=16777216/\Q (.ref S.len) (S.push (.lst (talD os))):=by unfold prm at h;split at h;rename_i l _;split at h;rename_i a e;split at h;rename_i os b;split at h;rename_i c;exact⟨l,a,os,rfl,e,b,c.1,c.2,h⟩;exact h.elim;exact h.elim;exact h.elim;exact h.elim
structure TallySt(st:Stmt):Prop where
 ex:∃(p1 p2 p3 p4 p5 p6 p7 p8 p9 p10 p11 p12 p13 p14 p15 p16 p17 p18 p19 p20 p21 p22 p23 p24 p25 p26 p27 p28 p29:Pos) (params:Arguments) (body:Expr) (scope:Scope),zal st=zm9 p1 p2 p3 p4 p5 p6 p7 p8 p9 p10 p11 p12 p13 p14 p15 p16 p17 p18 p19 p20 p21 p22 p23 p24 p25 p26 p27 p28 p29 params body scope/\
  (p13.endLine==p16.line)=true/\(p24.endLine==p25.line)=true/\(∀env,defaultsOf params env=([],[]))/\(∀env,closureFor scope env=pure [])/\FnScope ["row"] ["row"] scope/\chkE noTab zei ["row"] scope body=true/\
  ∀(q:Str)(pm cd ct u:Value),bindArgs (kla_fn "<lambda>" q params body scope [] pm cd ct) ⟨[u],[]⟩=pure [(("row":Str),u)]
 sc:FnScope ["words","counts","word"] ["words"] (zaa st)
 h0:(zaa st).names.lookup ("words":Str)=some .local
 h1:(zaa st).names.lookup ("counts":Str)=some .local
 h2:(zaa st).names.lookup ("word":Str)=some .local
 hg:(zaa st).names.lookup ("sorted":Str)=some .globalImplicit
theorem zlr{K}{st}{dV kV j pm ct}(lk:K.lookup f=some ⟨oc,od,.func (fnOf x d (zar st) (zal st) (zaa st) dV kV j pm an (.ref c) ct),osl⟩)(y:codeIn K (.ref c) d=true)(hC:codeHdIn K c z=true)(T:TallySt st)(bm:BM g base)(B:(z,d ++ ".<locals>." ++ "<lambda>")∈Mks.ts)(one:∀p∈Mks.ts,p.1=z->p.2=d ++ ".<locals>." ++ "<lambda>")(hm:g "sorted"=none)(hP:Pg[fi]?=some F)(hq:F.prim=some .tally)(hp:F.np=1)(hn:3<=n):
  FnOk P w K g base CX0 (n+2) f (fnOf x d (zar st) (zal st) (zaa st) dV kV j pm an (.ref c) ct) ["words"] (spF K (callF Pg (n+1)) fi):=by
 obtain⟨p1,p2,p3,p4,p5,p6,p7,p8,p9,p10,p11,p12,p13,p14,p15,p16,p17,p18,p19,p20,p21,C,G,I,J,L,M,N,p29,o,body,O,eb,l1,l2,k,U,hs,ck,hb⟩:=T.ex;refine zmK lk y T.sc (fun vs H Q E h=>zdu hP hp h) fun A e s H vs Q E hr h=>?_;obtain⟨ι,S0,ds,r,t,u⟩:=h;simp only[callF,hP,hq]at u;split at u;obtain⟨l,ws,os,rfl,hg,ho,Y,cl,q⟩:=zeV u;have room:=((hr.mono (Nat.succ_le_succ hn)).in1).in1;have hu:((cxOf CX0 P w K g base ["words","counts","word"] d (zaa st) f (.ref c) A e s H E).nox).A.units+1<cLine:=by have:=hr.un;show(A.deeper _).units+1<_;lia
 have mk:Maker ((cxOf CX0 P w K g base ["words","counts","word"] d (zaa st) f (.ref c) A e s H E).nox) c z:=⟨bm,rfl,hC,B,one⟩;have hpe:=zl7 (X:=(cxOf CX0 P w K g base ["words","counts","word"] d (zaa st) f (.ref c) A e s H E).nox) (p:=C) (lpos:=L) (kpos:=M) (pos:=N) (zcj (pos:=G) (i:=1) rfl (.inl T.h1)) ⟨rfl,rfl,l2⟩ T.hg hm room mk (k _) (U _) hs (hb _) ck;have ht:=zl1 (p1:=p1) (p2:=p2) (p3:=p3) (p4:=p4) (p5:=p5) (p6:=p6) (p7:=p7) (p8:=p8) (p9:=p9) (p10:=p10) (p11:=p11) (p12:=p12) (p14:=p14) (p15:=p15) (p17:=p17) (p18:=p18) (p19:=p19) (p20:=p20) (p21:=p21) (p29:=p29)
  rfl T.h0 T.h1 T.h2 rfl rfl hu ⟨rfl,rfl,l1,rfl⟩ rfl rfl hpe
 refine⟨_,by rw[eb];exact ht.nox,?_⟩;obtain⟨v,r0,rfl,rv,rn⟩:=r;cases(show r0=[] from rn);obtain⟨a,ia,rfl⟩:=rv;obtain⟨b,ib,xs,hb2,rr⟩:=t.obj l _ hg;rw[ia]at ib;cases ib;rw[zi3 ho]at rr;cases zhm rr;refine zjw rfl hb2 (by exact cl) fun p σ m hσ=>?_;refine⟨.ref p,hσ,p,_,rfl,zag,fun v hv=>⟨v,p,_,rfl,zag,?_,Y,?_,fun D0 H2 ts x hD h2 hl ht=>?_⟩⟩;rw[zae (zaj zag hv)];exact zag;exact(Kp.new hv _).tab ((Kp.new m _).tab t.tab);obtain⟨ex,rh⟩:=zil t m hv x hD h2 hl ht;exact q _ _ (ι++[D0]) ex ⟨D0,t.last D0,rfl⟩ rh;exact u.elim
end R
namespace R
noncomputable def oD:Option Int->D|some i=>.int i|none=>.non
theorem zhn:∀os:List (Option Int),zcP (os.map oD)=some os
 | []=>rfl| o::os=>by unfold zcP;rw[map_cons,mapM_cons,show(os.map oD).mapM zi4=some os from zhn os];cases o<;>rfl
theorem zkJ(n)(os):flats n (talD os)=true:=by rw[zaX];intro d a;obtain⟨r,_,rfl⟩:=mem_map.mp a;simp[rowD]
theorem zlh(a:P[f]?=some F)(b:F.prim=some .tally)(c:F.np=1)(h:S.get l=some (.lst (os.map oD)))(d:(zam [] os).length<64)(g:os.length<=16777216):app (callF P (n+4)) f [.ref l] S=.ok (.ref S.len) (S.push (.lst (talD os))):=by
 have e:callF P (n+4) f [.ref l] S.enter=.ok (.ref S.len) (S.enter.push (.lst (talD os))):=by
  have i:3<=n+3:=by lia
  simp only[callF,a,b,c,length_cons,length_nil,if_true,i];unfold prm;dsimp only;rw[zaB,h];dsimp only;rw[zhn];dsimp only;rw[if_pos ⟨d,g⟩,enter_len]
 unfold app;rw[e,zan];unfold zbb;have j:(S.enter.push (.lst (talD os))).get S.len=some (.lst (talD os)):=by have:=zmH (S.frz++S.new) [.lst (talD os)] [];rw[ze6]at this;exact this
 rw[if_neg (by simp[flat])];dsimp only;rw[j];dsimp only;rw[if_pos (zkJ _ _)]
open PySem (PyData)
theorem ze3{c d:Type}{f}:∀{xs:List c}{ys:List d},xs.mapM f=some ys->∀y∈ys,∃x∈xs,f x=some y
 | [],ys,h,y,a=>by simp at h;subst h;cases a
 |x::xs,ys,h,y,a=>by
  rw[mapM_cons]at h;cases e:f x with
  |none=>rw[e]at h;cases h
  |some z=>
   rw[e]at h;cases b:xs.mapM f with
   |none=>rw[b]at h;cases h
   |some j=>rw[b]at h;injection h with h;subst h;rcases mem_cons.mp a with rfl|a;exact⟨x,by simp,e⟩;obtain⟨u,g,i⟩:=ze3 b y a;exact⟨u,by simp[g],i⟩
theorem zcp:∀{xs:List PyData},(∀x∈xs,PyData.eqv x x=true)->PyData.eqvAll xs xs=true
 | [],_=>by simp[PyData.eqvAll]|x::xs,h=>by simp[PyData.eqvAll,h x (by simp),zcp (xs:=xs) fun y a=>h y (by simp[a])]
theorem zpb:∀{n:Nat}{d:D}{a:PyData},pd S n d=some a->PyData.eqv a a=true:=by
 intro n;induction n with
 |zero=>
  intro d a h;cases d<;>simp only[pd]at h
  cases h;simp[PyData.eqv];cases h;simp[PyData.eqv];cases h;simp[PyData.eqv];split at h;cases h;simp[PyData.eqv];cases h;cases h;cases h;cases h
 |succ n g=>
  intro d a h;cases d<;>simp only[pd]at h
  cases h;simp[PyData.eqv];cases h;simp[PyData.eqv];cases h;simp[PyData.eqv];split at h;cases h;simp[PyData.eqv];cases h;rename_i b;cases e:b.mapM (pd S n) with
  |none=>rw[e]at h;cases h
  |some i=>rw[e]at h;cases h;exact zcp fun x c=>let ⟨d,_,f⟩:=ze3 e x c;g f
  split at h;rename_i b _;cases e:b.mapM (pd S n) with
  |none=>rw[e]at h;cases h
  |some i=>rw[e]at h;cases h;exact zcp fun x c=>let ⟨d,_,f⟩:=ze3 e x c;g f
  cases h;cases h
theorem zao(S:St)(o):(S.push o).get S.len=some o:=by
 have h:¬S.len<S.frz.length:=by unfold St.len;lia
 unfold St.get St.push;unfold St.len;simp
theorem zak{S:St}(e:S.get l=some u):(S.push o).get l=some u:=by have h:=get_lt e;unfold St.len at h;unfold St.get at e⊢;unfold St.push;simp only;split;rename_i c;rw[if_pos c]at e;exact e;rename_i c;rw[if_neg c]at e;rw[getElem?_append_left (by omega)];exact e
theorem zeT{S:St}(o)(d:S.frz.length<=l)(b:S.lk.contains l=false):∃a,S.put l o=some a/\a.frz=S.frz/\a.lk=S.lk/\a.len=S.len/\(∀m,m≠l->a.get m=S.get m)/\(l<S.len->a.get l=some o):=by refine⟨{S with new:=S.new.set (l-S.frz.length) o},?_,rfl,rfl,by simp[St.len],fun m e=>?_,fun c=>?_⟩;unfold St.put;rw[if_neg (by lia),b];rfl;unfold St.get;simp only;split;rfl;rw[getElem?_set_ne (by lia)];unfold St.len at c;unfold St.get;simp only[show ¬l<S.frz.length by lia,if_false];rw[getElem?_set_self (by lia)]
theorem zet(p):ze8 (.tup (p.map .int))=some p:=by show za3 (p.map .int)=some p;unfold za3;induction p with|nil=>rfl|cons k b a=>rw[map_cons,mapM_cons,a];rfl
theorem zg8(h:S.get l=some (.dtp kvs))(p):dGet S (.ref l) (.tup (p.map .int))=some (valP kvs p):=by unfold dGet;dsimp only;rw[h];rw[zet];rfl
theorem zmB(S)(x):∀ks:List Int,inD S (.int x) (ks.map .int)=some (decide (x∈ks)):=by
 intro ks;have e:(ks.map D.int).mapM (fun z=>eqD S z (.int x))=some (ks.map fun k=>k==x):=by induction ks with|nil=>rfl|cons k ks a=>rw[map_cons,mapM_cons,a];rfl
 have f:∀ks:List Int,((ks.map fun k=>k==x).any id)=decide (x∈ks):=by intro ks;induction ks with|nil=>rfl| cons k ks a=>rw[map_cons,any_cons,a];by_cases c:k=x;subst c;simp;have d:¬x=k:=fun z=>c z.symm;have b:=beq_eq_false_iff_ne.mpr c;simp only[b,id,Bool.false_or,mem_cons,d,false_or]
 unfold inD;rw[e];exact congrArg some (f ks)
theorem zfW(S)(x)(ks:List Int):cmpO S .NotIn (.int x) (.tup (ks.map .int))=some (!decide (x∈ks)):=by show((some (ks.map D.int)).bind fun a=>inD S (.int x) a).map (!·)=_;rw[bind_some,zmB];rfl
theorem zjj{a:Type}{os:List a}{o}(h:os[i]?=some o):os.take (i+1)=os.take i++[o]:=by rw[List.take_add_one,h];rfl
theorem zle{xs:List a}{k:Nat}{x:a}(h:xs[k]?=some x):R.atI xs (k:Int)=some x:=by
 have b:=(List.getElem?_eq_some_iff.mp h).1;have e:R.ixN xs.length (k:Int)=some k:=by simp[R.ixN,b]
 unfold R.atI;rw[e];exact h
theorem zsv:R.atI (x::xs) 0=some x:=by
 have:R.ixN (x::xs).length 0=some 0:=by simp[R.ixN]
 unfold R.atI;rw[this];rfl
noncomputable def zcJ(a:List Int)(k:Nat):Int:=match a[k]? with|some v=>v%10^64|none=>0
end R
namespace R
noncomputable def topR(os:List (Option Int)):Int×Int:=match zbQ (zam [] os) with|r::_=>r | []=>(0,0)
noncomputable def zjh(a:List Int):Int:=(topR (a.map some)).1
noncomputable def hnds(n:Nat):List Int:=(List.range n).map fun(k:Nat)=>(k:Int)
noncomputable def oth(n:Nat)(h:Int)(p:List Int):List Int:=(hnds n).filter fun o=>!decide (o=h)&&!decide (o∈p)
noncomputable def tkn(L:List Int->Option Int)(n:Nat)(h:Int):Nat->List Int->Int
 |0,p=>zjh [(L p).getD 0]|k+1,p=>zjh ((L p).getD 0::(oth n h p).map fun o=>tkn L n h k (p++[o]))
end R
section
namespace Kz
local macro_rules|`(#[$x])=>`(.cons $x .nil)|`(#[$x,$y,*])=>`(.cons $x #[$y,*])
local macro_rules|`($x:ident)=>let s:=x.getId.toString;let n:=Lean.Syntax.mkNumLit (s.drop 1).toString;if s.length<2||!(s.drop 1).all Char.isDigit then Lean.Macro.throwUnsupported else if s.front=='J' then `(.loc $n) else if s.front=='Y' then `(.con (.int $n)) else Lean.Macro.throwUnsupported
local macro_rules | `(tactic| exists $e)=>`(tactic| refine R.wOpt_of $e ?_)
local macro_rules | `(tactic| change $e)=>`(tactic| refine R.wNeed_of $e ?_)
local macro_rules | `(tactic| specialize $e)=>`(tactic| refine R.wOut_of $e ?_)
local macro_rules | `(tactic| left)=>`(tactic| conv=>whnf)
section
open PySem R L2
noncomputable def zbf:Fn:=⟨1,1,(.ret (.and (.bi (.isin "int") #[J0]) (.nt (.bi (.isin "bool") #[J0]))) .nil),none⟩
noncomputable def zd1:Fn:=⟨2,2,(.ret (.and (.call 0 0 #[J0]) (.cmp2 .LtE .Lt Y0 J0 J1)) .nil),none⟩
noncomputable def zgs:Fn:=⟨1,1,(.ret (.and (.call 0 0 #[J0]) (.cmp .Lt (.bi .abs #[J0]) (.bin .Pow Y10 Y60))) .nil),none⟩
noncomputable def zbx:Fn:=⟨3,3,(.ifS (.or (.nt (.tst (.call 0 0 #[J0]))) (.nt (.cmp2 .LtE .LtE J1 J0 J2))) (.rais 0 "NoCount" "told" J0) .nil (.ret J0 .nil)),none⟩
noncomputable def zd2:Fn:=⟨2,2,(.ifS (.nt (.tst (.call 1 0 #[J0,J1]))) (.rais 1 "NoHand" "hand" J0) .nil (.ret J0 .nil)),none⟩
noncomputable def zdZ:Fn:=⟨1,1,(.ifS (.nt (.tst (.call 2 0 #[J0]))) (.rais 2 "NoWord" "word" J0) .nil (.ret J0 .nil)),none⟩
noncomputable def zhd:Fn:=⟨1,3,.nil,some .tally⟩
noncomputable def znJ:Fn:=⟨1,2,(.asg 1 (.call 6 0 #[J0]) (.ret (.ite (.tst J1) (.ix (.ix J1 Y0) Y0) Y0) .nil)),none⟩
noncomputable def zda:Fn:=⟨2,2,(.ret (.mkL (.comp 1 [1] [0] (.val J0) (.tst (.con (D.bl true))) (.ite (.cmp .In (.fld J0 "number") (.fld J1 "liars")) .any J0))) .nil),none⟩
noncomputable def zhe:Fn:=⟨4,6,(.ifS (.or (.nt (.cmp2 .LtE .LtE Y1 J2 Y7)) (.or (.nt (.tst (.call 1 0 #[J1,J0]))) (.cmp .Eq J1 J3))) (.ret (.lst .nil) .nil) .nil (.asg 4 (.lst #[.tup #[J1]]) (.forS [5] (.rng2 Y1 J2) (.asg 4 .any .nil) (.ret J4 .nil)))),none⟩
noncomputable def c_run:Fn:=⟨3,6,(.asg 3 (.lst .nil) (.forS [4] (.rng2 Y1 (.bin .Add J1 Y1)) (.asg 5 (.srtK (.call 11 0 #[J4,J0,J2])) (.expr (.callW 12 0 #[J4,J0,J5]) (.expr (.extv J3 J5) .nil))) (.ret J3 .nil))),some .lam⟩
noncomputable def c_said_in:Fn:=⟨3,9,(.asg 3 (.lst .nil) (.forS [4,5] (.enum J1) (.forS [6,7,8] (.val (.meth "say" [(0,35)] J5 #[J0])) (.expr (.mt .append J3 #[.tup #[J0,J6,.ite (.cmp .Is J2 (.con D.non)) J7 (.ix (.ix J2 J4) J7),J8]]) .nil) .nil) (.ret J3 .nil))),none⟩
noncomputable def c_deliver:Fn:=⟨3,7,(.asg 3 .dnew (.forS [4] (.val J2) (.expr (.mt .append (.dsetI J3 (.ix J4 Y2) (.lst .nil)) #[.tup #[.ix J4 Y1,.ix J4 Y3]]) .nil) (.forS [5,6] (.enum J1) (.expr (.meth "hear" [(0,33)] J6 #[J0,.dgetI J3 J5 (.lst .nil)]) .nil) .nil))),none⟩
noncomputable def zcL:Fn:=⟨2,3,(.ifS (.cmp .Is J1 (.con D.non)) (.ret (.tup .nil) .nil) .nil
 .stop),none⟩
noncomputable def zdc:Fn:=⟨2,4,(.ifS (.cmp .Is J1 (.con D.non)) (.ret (.tup .nil) .nil) .nil
 .stop),none⟩
noncomputable def zcq:Fn:=⟨2,2,(.retX (.ite (.cmp .Is J0 (.con D.non)) (.val (.bin .Add J1 Y1)) (.call 3 #[J0,Y1,Y8])) .nil),none⟩
noncomputable def zk8:Fn:=⟨5,8,(.asg 5 (.call 17 0 #[J3,J4]) (.asg 6 (.call 18 0 #[J0,J1,J2,J3,J4]) (.asg 7 (.call 7 0 #[.bin .Add (.lst #[J5]) (.mkL (.comp 1 [] [0] (.val J6) (.tst (.con (D.bl true))) (.ix J0 Y2)))]) (.ret (.tup #[J3,J5,J7,J6]) .nil)))),none⟩
noncomputable def zeF:Fn:=⟨2,3,(.asg 2 (.dget1 J1 J0) (.ret (.ite (.cmp .Is J2 (.con D.non)) Y0 J2) .nil)),none⟩
noncomputable def zbI:Fn:=⟨5,6,(.ifS (.cmp .GtE (.bi .len #[J3]) J1) (.ret (.tup .nil) .nil) .nil (.asg 5 (.mkL (.comp 1 [2,3] [0] (.rng1 J0) (.and (.cmp .NotEq J0 J1) (.cmp .NotIn J0 J2)) J0)) (.ret (.mkT (.comp 1 [0,1,2,4,3] [0] (.val J5) (.tst (.con (D.bl true))) (.call 16 0 #[J1,J2,J3,.bin .Add J5 (.tup #[J0]),J4]))) .nil))),none⟩
noncomputable def zdb:Fn:=⟨4,4,(.ret (.mkL (.comp 1 [0,1,2,3] [0] (.rng1 J0) (.tst (.con (D.bl true))) (.mk 0 31 "OralHand" 0 #[J0,J1,J2,J3,.ite (.cmp .Eq J0 J3) J4 (.con D.non)]))) .nil),none⟩
noncomputable def zcM:Fn:=⟨2,2,(.ifS (.cmp .Lt J1 (.bi .len #[J0])) (.ret (.bin .Mod (.ix J0 J1) (.bin .Pow Y10 Y64)) .nil) .nil (.ret Y0 .nil)),none⟩
noncomputable def zeE:Fn:=⟨2,3,(.ifS (.cmp .NotEq (.bin .Mod J0 Y3) Y1) (.ret (.bin .Mod (.bin .FloorDiv J0 Y3) J1) .nil) .nil (.asg 2 (.lst #[.neg Y1,J1,.bin .Add J1 (.bin .Mod (.bin .FloorDiv J0 Y21) (.bin .Pow Y10 Y30)),.con (D.bl true),.con D.non,.con (D.str "0"),.lst #[Y0]]) (.ret (.ix J2 (.bin .Mod (.bin .FloorDiv J0 Y3) Y7)) .nil))),none⟩
noncomputable def zeD:Fn:=⟨1,2,(.ifS (.cmp .NotEq (.bin .Mod J0 Y3) Y1) (.ret (.bin .Sub (.bin .Mod (.bin .FloorDiv J0 Y3) (.bin .Sub (.bin .Mult Y2 (.bin .Pow Y10 Y60)) Y1)) (.bin .Sub (.bin .Pow Y10 Y60) Y1)) .nil) .nil (.asg 1 (.lst #[.bin .Pow Y10 Y60,.bin .Sub Y0 (.bin .Pow Y10 Y60),.con (D.bl true),.con (D.bl false),.con D.non,.con (D.str "0"),.lst #[Y0]]) (.ret (.ix J1 (.bin .Mod (.bin .FloorDiv J0 Y3) Y7)) .nil))),none⟩
noncomputable def zd0:Fn:=⟨1,2,(.ifS (.cmp .NotEq (.bin .Mod J0 Y3) Y1) (.ret (.ix (.lst #[.con D.non,Y1,Y2]) (.bin .Mod (.bin .FloorDiv J0 Y3) Y3)) .nil) .nil (.asg 1 (.lst #[Y0,Y9,.neg Y1,.con (D.bl true),.con (D.str "1"),.lst #[Y1],.bin .Add (.bin .Pow Y10 Y30) (.bin .Mod (.bin .FloorDiv J0 Y21) (.bin .Pow Y10 Y9))]) (.ret (.ix J1 (.bin .Mod (.bin .FloorDiv J0 Y3) Y7)) .nil))),none⟩
noncomputable def za4:Fn:=⟨2,2,(.ret (.and (.cmp .Eq (.bi (.isin "bool") #[J0]) (.bi (.isin "bool") #[J1])) (.cmp .Eq J0 J1)) .nil),none⟩
noncomputable def zhf:Fn:=⟨1,1,(.ret (.and (.bi (.isin "int") #[J0]) (.nt (.bi (.isin "bool") #[J0]))) .nil),none⟩
noncomputable def zgr:Fn:=⟨4,4,(.ifS (.or (.nt (.tst (.call 25 0 #[J0]))) (.or (.cmp .Lt J0 Y0) (.cmp .GtE J0 J3))) (.ret (.con (D.str "hand")) .nil) .nil (.ifS (.or (.nt (.tst (.call 25 0 #[J1]))) (.cmp .GtE (.bi .abs #[J1]) (.bin .Pow Y10 Y60))) (.ret (.con (D.str "word")) .nil) .nil (.ifS (.and (.cmp .IsNot J2 (.con D.non)) (.or (.nt (.tst (.call 25 0 #[J2]))) (.or (.cmp .Lt J2 Y1) (.cmp .Gt J2 Y8)))) (.ret (.con (D.str "count")) .nil) .nil (.ret (.con (D.str "")) .nil)))),none⟩
noncomputable def zdo:Fn:=⟨3,3,(.ifS (.or (.tst (.iscT [("NoLetter",[3]),("NoRow",[5]),("NoWay",[4])] J0)) (.nt (.tst (.iscX [0,1,2,3,4,5] "ValueError" J0)))) (.ret (.con (D.bl false)) .nil) .nil (.ifS (.cmp .NotEq (.mt .count (.lst #[.iscX [1] "NoHand" J0,.iscX [2] "NoWord" J0,.iscX [0] "NoCount" J0]) #[.con (D.bl true)]) Y1) (.ret (.con (D.bl false)) .nil) .nil (.ifS (.tst (.iscX [1] "NoHand" J0)) (.ret (.and (.cmp .Eq J1 (.con (D.str "hand"))) (.call 24 0 #[.fldX J0 "hand",J2])) .nil) .nil (.ifS (.tst (.iscX [2] "NoWord" J0)) (.ret (.and (.cmp .Eq J1 (.con (D.str "word"))) (.call 24 0 #[.fldX J0 "word",J2])) .nil) .nil (.ret (.and (.cmp .Eq J1 (.con (D.str "count"))) (.call 24 0 #[.fldX J0 "told",J2])) .nil))))),none⟩
noncomputable def zc5:Fn:=⟨4,6,(.asg 4 (.con D.non) (.tryS (.mk 1 37 "Oral" 0 #[.mk 2 41 "Setting" 2 #[J0,Y1],J1,J2,J3])
 "RoundError" 5 4 (.ret J4 .nil))),none⟩
noncomputable def zcr:Fn:=⟨3,5,(.asg 3 (.con D.non) (.tryS (.ite (.tst J2) (.runX (.meth "tree" [(0,36),(1,40)] J0 #[J1])) (.runX (.meth "ending" [(0,32),(1,38)] J0 #[J1])))
 "RoundError" 4 3 (.ret J3 .nil))),none⟩
noncomputable def c_law:Fn:=⟨1,11,(.asg 1 (.bin .Add Y1 (.bin .Mod (.call 20 0 #[J0,Y0]) Y7)) (.asg 2 (.call 21 0 #[.call 20 0 #[J0,Y1],J1]) (.asg 3 (.call 22 0 #[.call 20 0 #[J0,Y2]]) (.asg 4 (.call 23 0 #[.call 20 0 #[J0,Y3]]) (.asg 5 (.call 26 0 #[J2,J3,J4,J1]) (.asg 6 (.call 28 0 #[J1,J2,J3,J4]) (.ifS (.or (.and (.cmp .Eq J5 (.con (D.str ""))) (.cmp .IsNot J6 (.con D.non))) (.and (.cmp .NotEq J5 (.con (D.str ""))) (.cmp .Is J6 (.con D.non)))) (.ret (.con (D.bl false)) .nil) .nil (.asg 7 (.sel4 "" "hand" "word" "count" (.con D.non) J2 J3 J4 J5) (.ifS (.and (.cmp .NotEq J5 (.con (D.str ""))) (.nt (.tst (.call 27 0 #[J6,J5,J7])))) (.ret (.con (D.bl false)) .nil) .nil (.asg 8 (.mk 1 37 "Oral" 1 #[.mk 2 41 "Setting" 2 #[J1,.bin .Mod (.call 20 0 #[J0,Y4]) Y2],.bin .Mod (.bin .FloorDiv (.call 20 0 #[J0,Y4]) Y2) J1,Y5]) (.asg 9 (.call 21 0 #[.call 20 0 #[J0,Y5],J1]) (.asg 5 (.call 26 0 #[J9,Y0,.con D.non,J1]) (.forS [10] (.val (.lst #[.con (D.bl true),.con (D.bl false)])) (.asg 6 (.call 29 0 #[J8,J9,J10]) (.ifS (.or (.and (.cmp .Eq J5 (.con (D.str ""))) (.cmp .IsNot J6 (.con D.non))) (.and (.cmp .NotEq J5 (.con (D.str ""))) (.cmp .Is J6 (.con D.non)))) (.ret (.con (D.bl false)) .nil) .nil (.ifS (.and (.cmp .NotEq J5 (.con (D.str ""))) (.nt (.tst (.call 27 0 #[J6,J5,J9])))) (.ret (.con (D.bl false)) .nil) .nil .nil))) (.ret (.con (D.bl true)) .nil)))))))))))))),none⟩
noncomputable def zb1:Fn:=⟨6,6,(.expr (.callC 42 "Hand" "__init__" #[J0,J1,J2,J3]) (.setF J0 "sender" J4 (.setF J0 "word" J5 (.setF J0 "notes" .dnewT .nil)))),none⟩
noncomputable def zby:Fn:=⟨1,1,(.ret (.ix (.meth "tree" [(0,36),(1,40)] J0 .nil) Y2) .nil),none⟩
noncomputable def zb2:Fn:=⟨3,5,(.forS [3,4] (.val J2) (.expr (.dsetd (.fld J0 "notes") J3 (.ite (.cmp .Is J4 (.con D.non)) Y0 J4)) .nil) .nil),none⟩
noncomputable def zaZ:Fn:=⟨3,4,(.asg 3 (.bin .Add J1 (.tup #[.fld J0 "number"])) (.ret (.mkL (.comp 1 [3,2] [0] (.rng1 (.fld J0 "many")) (.cmp .NotIn J0 J1) (.tup #[J1,J0,J2]))) .nil)),none⟩
noncomputable def zbu:Fn:=⟨2,4,(.ifS (.cmp .Eq J1 Y1) (.ret (.ite (.cmp .Eq (.fld J0 "number") (.fld J0 "sender")) (.meth "letters_with" [(0,34)] J0 #[.tup .nil,.fld J0 "word"]) (.lst .nil)) .nil) .nil (.asg 2 (.lst .nil) (.forS [3] (.val (.call 9 0 #[.fld J0 "many",.fld J0 "sender",.bin .Sub J1 Y1,.fld J0 "number"])) (.expr (.extv J2 (.meth "letters_with" [(0,34)] J0 #[J3,.dget2 (.fld J0 "notes") J3 Y0])) .nil) (.ret J2 .nil)))),none⟩
noncomputable def zb0:Fn:=⟨1,1,(.ifS (.cmp .Eq (.fld J0 "number") (.fld J0 "sender")) (.ret (.tup #[.tup #[.fld J0 "sender"],.fld J0 "word",.fld J0 "word",.tup .nil]) .nil) .nil (.ret (.call 16 0 #[.fld J0 "many",.fld J0 "rounds",.fld J0 "number",.tup #[.fld J0 "sender"],.fld J0 "notes"]) .nil)),none⟩
noncomputable def c_Oral_init:Fn:=⟨5,7,(.blk (.run 4 #[J2,.fld J1 "many"]) (.blk (.run 5 #[J3]) (.blk (.asg 5 15 #[J4,.fld J1 "bound"]) (.asg 6 (.call 19 0 #[.fld J1 "many",J5,J2,J3]) (.expr (.callC 43 "Play" "__init__" #[J0,J6,.call 8 0 #[J6,J1],J5]) .nil))))),none⟩
noncomputable def zbJ:Fn:=⟨2,2,(.retX (.on (.meth "hand_at" [(1,39)] J0 #[J1]) "ending" [(0,32),(1,38)]) .nil),none⟩
noncomputable def zbt:Fn:=⟨2,2,(.retX (.ix (.fld J0 "hands") (.call 4 #[J1,.bi .len #[.fld J0 "hands"]])) .nil),none⟩
noncomputable def zcs:Fn:=⟨2,2,(.retX (.on (.meth "hand_at" [(1,39)] J0 #[J1]) "tree" [(0,36),(1,40)]) .nil),none⟩
noncomputable def zbs:Fn:=⟨5,5,(.blk (.setF J0 "many" 3 #[J1,Y1,Y7]) (.blk (.setF J0 "bound" 3 #[J2,Y0,Y5]) (.setF J0 "liars" (.call 13 0 #[J1,J3]) (.setF J0 "lies" (.call 14 0 #[J1,J4]) .nil)))),none⟩
noncomputable def zd4:Fn:=⟨4,4,(.setF J0 "number" J1 (.setF J0 "many" J2 (.setF J0 "rounds" J3 .nil))),none⟩
noncomputable def zd3:Fn:=⟨4,4,(.setF J0 "hands" J1 (.setF J0 "sent" (.callW 10 1 #[J2,J3]) .nil)),none⟩
noncomputable def prog:List Fn:=[zbf,zd1,zgs,zbx,zd2,zdZ,zhd,znJ,zda,zhe,c_run,c_said_in,c_deliver,zcL,zdc,zcq,zk8,zeF,zbI,zdb,zcM,zeE,zeD,zd0,za4,zhf,zgr,zdo,zc5,zcr,c_law,zb1,zby,zb2,zaZ,zbu,zb0,c_Oral_init,zbJ,zbt,zcs,zbs,zd4,zd3]
noncomputable def top(i:Nat):Stmt:=PySem.Challenge.pw_traitorround_k37_oral_refused.main.body.getD i (.Pass ⟨0,0,0,0⟩)
noncomputable abbrev zgL:Stmt:=top 13
noncomputable abbrev zix:Stmt:=top 14
noncomputable abbrev ziw:Stmt:=top 15
noncomputable abbrev zgN:Stmt:=top 16
noncomputable abbrev ziy:Stmt:=top 17
noncomputable abbrev zit:Stmt:=top 18
noncomputable abbrev zcx:Stmt:=top 19
noncomputable abbrev zoM:Stmt:=top 20
noncomputable abbrev zeQ:Stmt:=top 24
noncomputable abbrev zdj:Stmt:=top 28
noncomputable abbrev zhF:Stmt:=top 31
noncomputable abbrev ziu:Stmt:=top 32
noncomputable abbrev ziz:Stmt:=top 33
noncomputable abbrev zea:Stmt:=top 42
noncomputable abbrev zeS:Stmt:=top 43
noncomputable abbrev zfE:Stmt:=top 46
noncomputable abbrev zlX:Stmt:=top 48
noncomputable abbrev zgM:Stmt:=top 49
noncomputable abbrev zec:Stmt:=top 50
noncomputable abbrev zeR:Stmt:=top 54
noncomputable abbrev zeb:Stmt:=top 56
noncomputable abbrev zgK:Stmt:=top 57
noncomputable abbrev zgI:Stmt:=top 58
noncomputable abbrev zfG:Stmt:=top 59
noncomputable abbrev zfI:Stmt:=top 60
noncomputable abbrev zfF:Stmt:=top 61
noncomputable abbrev ziv:Stmt:=top 62
noncomputable abbrev zjL:Stmt:=top 63
noncomputable abbrev zgJ:Stmt:=top 64
noncomputable abbrev zfH:Stmt:=top 65
noncomputable abbrev zrg:Stmt:=top 66
noncomputable def zcg(s:Stmt)(j:Nat):Stmt:=match s with|.ClassDef _ _ _ b _ _ _ _ _ _ _=>b.getD j (.Pass ⟨0,0,0,0⟩)|s=>s
noncomputable abbrev zdf:Stmt:=zcg (top 52) 0
noncomputable abbrev zcy:Stmt:=zcg (top 52) 5
noncomputable abbrev zdg:Stmt:=zcg (top 52) 3
noncomputable abbrev zbv:Stmt:=zcg (top 52) 2
noncomputable abbrev zdE:Stmt:=zcg (top 52) 1
noncomputable abbrev zde:Stmt:=zcg (top 52) 4
noncomputable abbrev zfL:Stmt:=zcg (top 53) 0
noncomputable abbrev zed:Stmt:=zcg (top 35) 3
noncomputable abbrev zdD:Stmt:=zcg (top 35) 1
noncomputable abbrev zfK:Stmt:=zcg (top 53) 1
noncomputable abbrev zdC:Stmt:=zcg (top 41) 0
noncomputable abbrev zfM:Stmt:=zcg (top 22) 0
noncomputable abbrev zfJ:Stmt:=zcg (top 35) 0
noncomputable abbrev zdF:Stmt:=zcg (top 5) 0
theorem ox_NoCount:OkX "NoCount.__init__" zdF "RoundError" "told" "told":=⟨⟨⟨_,_,_,_,_,_,_,_,_,_,_,_,rfl,rfl⟩,⟨rfl,rfl,rfl,by decide +kernel,rfl,by decide +kernel,by decide +kernel⟩,rfl,rfl,rfl,rfl,⟨rfl,rfl⟩⟩,fun _ _ _ _ _ _ a b=>match a,b with | [_,_],_=>rfl⟩
noncomputable abbrev zef:Stmt:=zcg (top 6) 0
theorem ox_NoHand:OkX "NoHand.__init__" zef "RoundError" "hand" "hand":=⟨⟨⟨_,_,_,_,_,_,_,_,_,_,_,_,rfl,rfl⟩,⟨rfl,rfl,rfl,by decide +kernel,rfl,by decide +kernel,by decide +kernel⟩,rfl,rfl,rfl,rfl,⟨rfl,rfl⟩⟩,fun _ _ _ _ _ _ a b=>match a,b with | [_,_],_=>rfl⟩
noncomputable abbrev zee:Stmt:=zcg (top 7) 0
theorem ox_NoWord:OkX "NoWord.__init__" zee "RoundError" "word" "word":=⟨⟨⟨_,_,_,_,_,_,_,_,_,_,_,_,rfl,rfl⟩,⟨rfl,rfl,rfl,by decide +kernel,rfl,by decide +kernel,by decide +kernel⟩,rfl,rfl,rfl,rfl,⟨rfl,rfl⟩⟩,fun _ _ _ _ _ _ a b=>match a,b with | [_,_],_=>rfl⟩
noncomputable instance mks:R.Mks:={ts:=[(199,"tally.<locals>.<lambda>"),(317,"run.<locals>.<lambda>")],cl:=[514,541,410],xc:=[58,77,96,115,134,153]}
noncomputable def tab:Tab:=⟨["abs","bool","enumerate","int","isinstance","len","range","sorted","tuple"],[("STILL",(D.int 0)),("LONGEST",(D.int 7)),("MOST_HANDS",(D.int 7)),("GREATEST_BOUND",(D.int 5)),("LAST_TURN",(D.int 30)),("MOST_ROUNDS",(D.int 8))],("is_whole",["thing"],0)::("is_hand",["thing","many"],0)::("is_word",["thing"],0)::("count_of",["thing","least","greatest"],0)::("hand_of",["thing","many"],0)::("word_of",["thing"],0)::("tally",["words"],0)::("most",["words"],0)::("with_liars",["hands","setting"],0)::("paths",["many","sender","length","without"],1)::("run",["hands","rounds","wires"],1)::("said_in",["turn","hands","wires"],0)::("deliver",["turn","hands","said"],0)::("lying_among",["many","liars"],0)::("lies_among",["many","lies"],0)::("rounds_of",["told","bound"],0)::("grown",["many","rounds","hand","path","notes"],0)::("held_for",["path","notes"],0)::("grown_below",["many","rounds","hand","path","notes"],0)::("oral_hands",["many","rounds","sender","word"],0)::("_law_cell_at",["_law_script","_law_k"],0)::("_law_hand",["_law_cell","_law_many"],0)::("_law_word",["_law_cell"],0)::("_law_turns",["_law_cell"],0)::("_law_alike",["_law_thing","_law_other"],0)::("_law_whole",["_law_thing"],0)::("_law_due",["_law_sender","_law_word_here","_law_turns_here","_law_many"],0)::("_law_is",["_law_e","_law_due_here","_law_thing"],0)::("_law_made",["_law_many","_law_sender","_law_word_here","_law_turns_here"],0)::("_law_asked",["_law_play","_law_hand_here","_law_which"],0)::("law",["_law_script"],0)::[],["OralHand","Oral","Setting"],["number","many","rounds","hands","sent","bound","liars","lies","sender","word","notes"],[(0,"ending",32),(1,"ending",38),(1,"hand_at",39),(0,"hear",33),(0,"letters_with",34),(0,"say",35),(0,"tree",36),(1,"tree",40)],[(0,31,0),(1,37,0),(2,41,2),(1,37,1)],[("Hand","__init__",42),("Play","__init__",43)],[],["hands","rounds","wires","letters","turn","said"],317,[(0,"NoCount","told"),(1,"NoHand","hand"),(2,"NoWord","word")],["told","word","hand"],[("NoWord",[2]),("NoHand",[1]),("NoCount",[0]),("NoLetter",[3]),("NoRow",[5]),("NoWay",[4])],[("ValueError",[0,1,2,3,4,5])],[3,15,5,4],["RoundError"]⟩
theorem zlq:TallySt zcx:=⟨⟨_,_,_,_,_,_,_,_,_,_,_,_,_,_,_,_,_,_,_,_,_,_,_,_,_,_,_,_,_,_,_,_,rfl,rfl,rfl,fun _=>rfl,fun _=>rfl,⟨rfl,rfl,rfl,by decide +kernel,rfl,by decide +kernel,by decide +kernel⟩,by decide +kernel,fun _ _ _ _ _=>rfl⟩,⟨rfl,rfl,rfl,by decide +kernel,rfl,by decide +kernel,by decide +kernel⟩,rfl,rfl,rfl,rfl⟩
theorem us1{b:Type}{P:List b->Prop}(h:∀a,P [a]):∀us:List b,us.length=1->P us | [a],_=>h a
theorem us2{c:Type}{P:List c->Prop}(h:∀a b,P [a,b]):∀us:List c,us.length=2->P us | [a,b],_=>h a b
theorem us3{d:Type}{P:List d->Prop}(h:∀a b c,P [a,b,c]):∀us:List d,us.length=3->P us | [a,b,c],_=>h a b c
theorem us4{e:Type}{P:List e->Prop}(h:∀a b c d,P [a,b,c,d]):∀us:List e,us.length=4->P us | [a,b,c,d],_=>h a b c d
theorem us5{f:Type}{P:List f->Prop}(h:∀a b c d e,P [a,b,c,d,e]):∀us:List f,us.length=5->P us | [a,b,c,d,e],_=>h a b c d e
theorem us6{g:Type}{P:List g->Prop}(h:∀a b c d e f,P [a,b,c,d,e,f]):∀us:List g,us.length=6->P us | [a,b,c,d,e,f],_=>h a b c d e f
theorem O27:OkD tab prog 0 "is_whole" "is_whole" ["thing"] zgL:=zau ["thing"] rfl (by decide +kernel) fun _ _ _ _ _ _=>us1 fun _=>rfl
theorem O32:OkD tab prog 1 "is_hand" "is_hand" ["thing","many"] zix:=zau ["thing","many"] rfl (by decide +kernel) fun _ _ _ _ _ _=>us2 fun _ _=>rfl
theorem O36:OkD tab prog 2 "is_word" "is_word" ["thing"] ziw:=zau ["thing"] rfl (by decide +kernel) fun _ _ _ _ _ _=>us1 fun _=>rfl
theorem O26:OkD tab prog 3 "count_of" "count_of" ["thing","least","greatest"] zgN:=zau ["thing","least","greatest"] rfl (by decide +kernel) fun _ _ _ _ _ _=>us3 fun _ _ _=>rfl
theorem O33:OkD tab prog 4 "hand_of" "hand_of" ["thing","many"] ziy:=zau ["thing","many"] rfl (by decide +kernel) fun _ _ _ _ _ _=>us2 fun _ _=>rfl
theorem O34:OkD tab prog 5 "word_of" "word_of" ["thing"] zit:=zau ["thing"] rfl (by decide +kernel) fun _ _ _ _ _ _=>us1 fun _=>rfl
theorem O40:OkD tab prog 7 "most" "most" ["words"] zoM:=zau ["words","rows"] rfl (by decide +kernel) fun _ _ _ _ _ _=>us1 fun _=>rfl
theorem O12:OkD tab prog 8 "with_liars" "with_liars" ["hands","setting"] zeQ:=zau ["hands","setting"] rfl (by decide +kernel) fun _ _ _ _ _ _=>us2 fun _ _=>rfl
theorem O38:OkE tab prog 9 ["many","sender","length","without"] zdj:=zj0 (F:=zhe) ["many","sender","length","without","found","step"] rfl (by decide +kernel)
theorem O41:OkL tab prog 10 "run" ["hands","rounds","wires"] 1 zhF:=zrI rfl rfl (by decide +kernel)
theorem O35:OkD tab prog 11 "said_in" "said_in" ["turn","hands","wires"] ziu:=zau ["turn","hands","wires","said","place","hand","path","to","word"] rfl (by decide +kernel) fun _ _ _ _ _ _=>us3 fun _ _ _=>rfl
theorem O30:OkD tab prog 12 "deliver" "deliver" ["turn","hands","said"] ziz:=zau ["turn","hands","said","boxes","letter","place","hand"] rfl (by decide +kernel) fun _ _ _ _ _ _=>us3 fun _ _ _=>rfl
theorem O11:OkD tab prog 13 "lying_among" "lying_among" ["many","liars"] zea:=zau ["many","liars","told"] rfl (by decide +kernel) fun _ _ _ _ _ _=>us2 fun _ _=>rfl
theorem O14:OkD tab prog 14 "lies_among" "lies_among" ["many","lies"] zeS:=zau ["many","lies","place","thing"] rfl (by decide +kernel) fun _ _ _ _ _ _=>us2 fun _ _=>rfl
theorem O22:OkD tab prog 15 "rounds_of" "rounds_of" ["told","bound"] zfE:=zau ["told","bound"] rfl (by decide +kernel) fun _ _ _ _ _ _=>us2 fun _ _=>rfl
theorem O39:OkD tab prog 16 "grown" "grown" ["many","rounds","hand","path","notes"] zlX:=zau ["many","rounds","hand","path","notes","held","below","taken"] rfl (by decide +kernel) fun _ _ _ _ _ _=>us5 fun _ _ _ _ _=>rfl
theorem O29:OkD tab prog 17 "held_for" "held_for" ["path","notes"] zgM:=zau ["path","notes","word"] rfl (by decide +kernel) fun _ _ _ _ _ _=>us2 fun _ _=>rfl
theorem O10:OkD tab prog 18 "grown_below" "grown_below" ["many","rounds","hand","path","notes"] zec:=zau ["many","rounds","hand","path","notes","others"] rfl (by decide +kernel) fun _ _ _ _ _ _=>us5 fun _ _ _ _ _=>rfl
theorem O13:OkD tab prog 19 "oral_hands" "oral_hands" ["many","rounds","sender","word"] zeR:=zau ["many","rounds","sender","word"] rfl (by decide +kernel) fun _ _ _ _ _ _=>us4 fun _ _ _ _=>rfl
theorem O9:OkD tab prog 20 "_law_cell_at" "_law_cell_at" ["_law_script","_law_k"] zeb:=zau ["_law_script","_law_k"] rfl (by decide +kernel) fun _ _ _ _ _ _=>us2 fun _ _=>rfl
theorem O24:OkD tab prog 21 "_law_hand" "_law_hand" ["_law_cell","_law_many"] zgK:=zau ["_law_cell","_law_many","_law_some"] rfl (by decide +kernel) fun _ _ _ _ _ _=>us2 fun _ _=>rfl
theorem O25:OkD tab prog 22 "_law_word" "_law_word" ["_law_cell"] zgI:=zau ["_law_cell","_law_some"] rfl (by decide +kernel) fun _ _ _ _ _ _=>us1 fun _=>rfl
theorem O20:OkD tab prog 23 "_law_turns" "_law_turns" ["_law_cell"] zfG:=zau ["_law_cell","_law_some"] rfl (by decide +kernel) fun _ _ _ _ _ _=>us1 fun _=>rfl
theorem O15:OkD tab prog 24 "_law_alike" "_law_alike" ["_law_thing","_law_other"] zfI:=zau ["_law_thing","_law_other"] rfl (by decide +kernel) fun _ _ _ _ _ _=>us2 fun _ _=>rfl
theorem O21:OkD tab prog 25 "_law_whole" "_law_whole" ["_law_thing"] zfF:=zau ["_law_thing"] rfl (by decide +kernel) fun _ _ _ _ _ _=>us1 fun _=>rfl
theorem O31:OkD tab prog 26 "_law_due" "_law_due" ["_law_sender","_law_word_here","_law_turns_here","_law_many"] ziv:=zau ["_law_sender","_law_word_here","_law_turns_here","_law_many"] rfl (by decide +kernel) fun _ _ _ _ _ _=>us4 fun _ _ _ _=>rfl
theorem O37:OkD tab prog 27 "_law_is" "_law_is" ["_law_e","_law_due_here","_law_thing"] zjL:=zau ["_law_e","_law_due_here","_law_thing"] rfl (by decide +kernel) fun _ _ _ _ _ _=>us3 fun _ _ _=>rfl
theorem O28:OkD tab prog 28 "_law_made" "_law_made" ["_law_many","_law_sender","_law_word_here","_law_turns_here"] zgJ:=zau ["_law_many","_law_sender","_law_word_here","_law_turns_here","_law_caught","_law_e"] rfl (by decide +kernel) fun _ _ _ _ _ _=>us4 fun _ _ _ _=>rfl
theorem O18:OkD tab prog 29 "_law_asked" "_law_asked" ["_law_play","_law_hand_here","_law_which"] zfH:=zau ["_law_play","_law_hand_here","_law_which","_law_caught","_law_e"] rfl (by decide +kernel) fun _ _ _ _ _ _=>us3 fun _ _ _=>rfl
theorem O42:OkD tab prog 30 "law" "law" ["_law_script"] zrg:=zau ["_law_script","_law_many","_law_sender","_law_word_here","_law_turns_here","_law_due_here","_law_caught","_law_thing","_law_play","_law_hand_here","_law_which"] rfl (by decide +kernel) fun _ _ _ _ _ _=>us1 fun _=>rfl
theorem O4:OkD tab prog 31 "__init__" "OralHand.__init__" ["self","number","many","rounds","sender","word"] zdf:=zau ["self","number","many","rounds","sender","word"] rfl (by decide +kernel) fun _ _ _ _ _ _=>us6 fun _ _ _ _ _ _=>rfl
theorem O1:OkD tab prog 32 "ending" "OralHand.ending" ["self"] zcy:=zau ["self"] rfl (by decide +kernel) fun _ _ _ _ _ _=>us1 fun _=>rfl
theorem O2:OkD tab prog 33 "hear" "OralHand.hear" ["self","turn","letters"] zdg:=zau ["self","turn","letters","path","word"] rfl (by decide +kernel) fun _ _ _ _ _ _=>us3 fun _ _ _=>rfl
theorem O0:OkD tab prog 34 "letters_with" "OralHand.letters_with" ["self","path","word"] zbv:=zau ["self","path","word","longer"] rfl (by decide +kernel) fun _ _ _ _ _ _=>us3 fun _ _ _=>rfl
theorem O7:OkD tab prog 35 "say" "OralHand.say" ["self","turn"] zdE:=zau ["self","turn","letters","path"] rfl (by decide +kernel) fun _ _ _ _ _ _=>us2 fun _ _=>rfl
theorem O3:OkD tab prog 36 "tree" "OralHand.tree" ["self"] zde:=zau ["self"] rfl (by decide +kernel) fun _ _ _ _ _ _=>us1 fun _=>rfl
theorem O17:OkE tab prog 37 ["self","setting","sender","word","rounds"] zfL:=zj0 (F:=c_Oral_init) ["self","setting","sender","word","rounds","turns","hands"] rfl (by decide +kernel)
theorem O8:OkD tab prog 38 "ending" "Play.ending" ["self","hand"] zed:=zau ["self","hand"] rfl (by decide +kernel) fun _ _ _ _ _ _=>us2 fun _ _=>rfl
theorem O5:OkD tab prog 39 "hand_at" "Play.hand_at" ["self","thing"] zdD:=zau ["self","thing"] rfl (by decide +kernel) fun _ _ _ _ _ _=>us2 fun _ _=>rfl
theorem O16:OkD tab prog 40 "tree" "Oral.tree" ["self","hand"] zfK:=zau ["self","hand"] rfl (by decide +kernel) fun _ _ _ _ _ _=>us2 fun _ _=>rfl
theorem O6:OkE tab prog 41 ["self","many","bound","liars","lies"] zdC:=zj0 ["self","many","bound","liars","lies"] rfl (by decide +kernel)
theorem O19:OkD tab prog 42 "__init__" "Hand.__init__" ["self","number","many","rounds"] zfM:=zau ["self","number","many","rounds"] rfl (by decide +kernel) fun _ _ _ _ _ _=>us4 fun _ _ _ _=>rfl
theorem O23:OkD tab prog 43 "__init__" "Play.__init__" ["self","hands","town","rounds"] zfJ:=zau ["self","hands","town","rounds"] rfl (by decide +kernel) fun _ _ _ _ _ _=>us4 fun _ _ _ _=>rfl
end
section
open R
noncomputable abbrev pD(p:List Int):D:=.tup (p.map .int)
noncomputable def Wd(d:D):Prop:=∃o,d=oD o
theorem zq3{n l:Nat}{S:R.St}{b:List Int}(h:S.get l=some (.lst (b.map .int)))(g:b.length<=60):app (callF prog (n+5)) 7 [.ref l] S=.ok (.int (zjh b)) S:=by
 have d:b.map D.int=(b.map some).map oD:=by rw[map_map];rfl
 rw[d]at h;have e:(zam [] (b.map some)).length<64:=by have:=zeA (b.map some);rw[length_map]at this;lia
 refine zaT (F:=znJ) rfl rfl ?_;left;specialize zlh (n:=n) (f:=6) (F:=zhd) (S:=S.enter) rfl rfl rfl (by rw[zaB];exact h) e (by rw[length_map];lia);left;unfold talD zjh topR;generalize zbQ (zam [] (b.map some))=c;cases c with
 |nil=>
  left
  repeat (first|(refine wNeed_of (by first|decide|lia|(simp;done)|(simp;lia)) ?_;conv=>whnf)|(refine zaG rfl ?_;conv=>whnf)|(refine a rfl ?_;conv=>whnf)|(refine zaN (by assumption) ?_;conv=>whnf))
  exact zac rfl ⟨rfl,rfl⟩
 |cons r c=>
  left
  repeat (first|(refine wNeed_of (by first|decide|lia|(simp;done)|(simp;lia)) ?_;conv=>whnf)|(refine zaG rfl ?_;conv=>whnf)|(refine a rfl ?_;conv=>whnf)|(refine zaN (by assumption) ?_;conv=>whnf))
  exists(zsv (x:=rowD r));left;exists zsv;left;exact zac rfl ⟨rfl,rfl⟩
noncomputable def look(kvs:List (List Int×D))(p:List Int):Option Int:=match valP kvs p with|some (.int i)=>some i|_=>none
noncomputable def Wds(kvs:List (List Int×D)):Prop:=∀p d,valP kvs p=some d->Wd d
theorem zq7{n l:Nat}{S:R.St}{kvs:List (List Int×D)}{p:List Int}(h:S.get l=some (.dtp kvs))(hv:Wds kvs):app (callF prog (n+1)) 17 [.tup (p.map .int),.ref l] S=.ok (.int ((look kvs p).getD 0)) S:=by
 have a:S.enter.get l=some (.dtp kvs):=by rw[zaB];exact h
 refine zaT rfl rfl ?_;left;change by simp only[isDt,a]
 left;exists zg8 a p;left;unfold look;cases e:valP kvs p with| none=>left;exact zac rfl ⟨rfl,rfl⟩| some d=>obtain⟨o,rfl⟩:=hv p d e;cases o with| none=>left;exact zac rfl ⟨rfl,rfl⟩| some i=>left;exact zac rfl ⟨rfl,rfl⟩
noncomputable def zdt(kvs:List (List Int×D))(n:Nat)(h:Int):Nat->List Int->D
 |0,p=>.tup [.tup (p.map .int),.int ((look kvs p).getD 0),.int (tkn (look kvs) n h 0 p),.tup []]|k+1,p=>.tup [.tup (p.map .int),.int ((look kvs p).getD 0),.int (tkn (look kvs) n h (k+1) p),.tup ((oth n h p).map fun o=>zdt kvs n h k (p++[o]))]
theorem zcS(kvs:List (List Int×D))(n:Nat)(h:Int)(b:Nat):∀(k:Nat)(p:List Int),flat b (zdt kvs n h k p)=true
 |0,p=>by simp[zdt]| k+1,p=>by simp only[zdt,zcd,zcc,zge,zh4,zez,Bool.and_true,Bool.true_and];rw[zaX];intro d a;obtain⟨o,_,rfl⟩:=mem_map.mp a;exact zcS kvs n h b k (p++[o])
theorem zm8(kvs:List (List Int×D))(n:Nat)(h:Int)(k:Nat)(p:List Int):∃x y z,zdt kvs n h k p=.tup [x,y,.int (tkn (look kvs) n h k p),z]:=by cases k<;>exact⟨_,_,_,rfl⟩
theorem zpS{m k l:Nat}{S:R.St}{n:Nat}{h:Int}{kvs:List (List Int×D)}{p:List Int}(f:S.get l=some (.dtp kvs))(j:n<=7)(q:p.length<=100)(r:k<=100)
  (g:∀(b:R.St)(o:Int),b.get l=some (.dtp kvs)->app (callF prog (2*k+m+6)) 16 [.int n,.int ((p.length+(k+1):Nat):Int),.int h,.tup ((p++[o]).map .int),.ref l] b=.ok (zdt kvs n h k (p++[o])) b) :
  app (callF prog (2*(k+1)+m+5)) 18 [.int n,.int ((p.length+(k+1):Nat):Int),.int h,.tup (p.map .int),.ref l] S=.ok (.tup ((oth n h p).map fun o=>zdt kvs n h k (p++[o]))) S:=by
 rw[show 2*(k+1)+m+5=(2*k+m+6)+1 by lia];refine zaT rfl rfl ?_;left;refine zfp (by simp;lia) ?_;left;change by lia
 left;refine zba ?_;refine W.of (zbB (fun d=>match d with|.int o=>!decide (o=h)&&!decide (o∈p)|_=>false) (fun d=>d) _ none (fun z a=>?_) (fun z a _=>rfl)) ?_;obtain⟨o,_,rfl⟩:=mem_map.mp a;refine W.eq (wT_W _ ?_);left;refine zi8 (fun c=>?_) (fun c=>?_);left;exists zfW _ _ _;left;exact⟨by simp[c],rfl⟩;exact⟨by simp[c],rfl⟩;have e:(List.map (fun d=>d) (List.filter (fun d=>match d with|D.int o=>!decide (o=h)&&!decide (o∈p)|x=>false) (List.map (fun(k:Nat)=>D.int k) (List.range (n:Int).toNat))))=(oth n h p).map D.int:=by rw[List.map_id',Int.toNat_natCast];rw[show(List.range n).map (fun(k:Nat)=>D.int k)=((List.range n).map fun(k:Nat)=>(k:Int)).map D.int by rw[map_map];rfl];rw[List.filter_map];rfl
 rw[e];have s:(oth n h p).length<=7:=by
  have:=length_filter_le (fun o=>!decide (o=h)&&!decide (o∈p)) (hnds n);unfold oth;have l:(hnds n).length=n:=by simp[hnds]
  lia
 change by simp;lia
 left;change by simp;lia
 left;refine zaG rfl ?_;left;refine zba ?_;refine W.of (zcQ (fun d=>match d with|.int o=>zdt kvs n h k (p++[o])|d=>d) ((oth n h p).map D.int) none (fun z a=>rfl) (fun z a=>?_)) ?_;obtain⟨o,_,rfl⟩:=mem_map.mp a;refine W.eq (wE_W _ ?_);left;change by first|decide|lia|(simp;done)|(lia)
 left;change by simp;lia
 left;rw[show p.map D.int++[D.int o]=(p++[o]).map D.int by simp];specialize g _ o (zg3 f _ _);left;exact⟨rfl,rfl⟩;rw[map_map];left;change by simp;lia
 left;change by simp;lia
 left;refine zac ?_ ⟨rfl,rfl⟩;rw[zcd,zaX];intro d i;obtain⟨o,_,rfl⟩:=mem_map.mp i;exact zcS kvs n h _ k (p++[o])
theorem zkF{f l:Nat}{S:R.St}{n r h:Int}{kvs:List (List Int×D)}{p A:List Int}{g:Int->D}{v:Int->Int}(k:S.get l=some (.dtp kvs))(hv:Wds kvs)
  (m:∀a:R.St,a.get l=some (.dtp kvs)->app (callF prog (f+5)) 18 [.int n,.int r,.int h,.tup (p.map .int),.ref l] a=.ok (.tup (A.map g)) a) (u:A.length<=20) (c:∀o,∃x y z,g o=.tup [x,y,.int (v o),z]) (q:∀b o,flat b (g o)=true) :
  app (callF prog (f+6)) 16 [.int n,.int r,.int h,.tup (p.map .int),.ref l] S=.ok (.tup [.tup (p.map .int),.int ((look kvs p).getD 0),.int (zjh ((look kvs p).getD 0::A.map v)),.tup (A.map g)]) S:=by
 have i:S.enter.get l=some (.dtp kvs):=by rw[zaB];exact k
 refine zaT rfl rfl ?_;left;specialize zq7 i hv;left;specialize m _ i;left;change by first|decide|omega|(simp;done)|(omega)
 left;refine zba ?_;refine W.of (zcQ (fun d=>match d with|.tup [_,_,t,_]=>t|d=>d) (A.map g) none (fun z j=>rfl) (fun z j=>?_)) ?_;obtain⟨o,_,rfl⟩:=mem_map.mp j;obtain⟨x,y,z,e⟩:=c o;rw[e];refine W.eq (wE_W _ ?_);left;exists(show atI [x,y,D.int (v o),z] 2=some (D.int (v o)) from rfl);left;exact⟨rfl,rfl⟩;have e:(A.map g).map (fun d=>match d with|.tup [_,_,t,_]=>t|d=>d)=(A.map v).map D.int:=by rw[map_map,map_map];refine List.map_congr_left fun o _=>?_;obtain⟨x,y,z,e⟩:=c o;simp only[Function.comp,e]
 rw[e];left;change by simp;omega
 left;change by simp;omega
 left;refine zaG rfl ?_;left;refine zaG rfl ?_;left;change by simp;omega
 left;rw[show [D.int ((look kvs p).getD 0)]++(A.map v).map D.int=((look kvs p).getD 0::A.map v).map D.int from rfl];specialize zq3 (zfc _ _ _ 2) (by simp;omega);left;change by first|decide|omega|(simp;done)|(omega)
 left;refine zac ?_ ⟨rfl,rfl⟩;simp only[zcd,zcc,zge,zh4,zez,Bool.and_true,Bool.true_and];rw[zaX];intro d s;obtain⟨o,_,rfl⟩:=mem_map.mp s;exact q _ o
theorem zju{l n:Nat}{h:Int}{kvs:List (List Int×D)}(e:n<=7)(hv:Wds kvs):∀(k m:Nat)(S:R.St)(p:List Int),S.get l=some (.dtp kvs)->p.length+k<=50->
  app (callF prog (2*k+m+6)) 16 [.int n,.int ((p.length+k:Nat):Int),.int h,.tup (p.map .int),.ref l] S=.ok (zdt kvs n h k p) S
 |0,m,S,p,c,f=>by
  refine zkF (A:=[]) (g:=fun _=>.tup [.non,.non,.int 0,.non]) c hv (fun i a=>?_) (by simp) (fun o=>⟨_,_,_,rfl⟩) (fun b o=>rfl);refine zaT rfl rfl ?_;left;refine zdp (by simp) ?_;left;change by first|decide|lia|(done)|(lia)
  left;exact zac rfl ⟨rfl,rfl⟩
 |k+1,m,S,p,c,f=>by
  rw[show 2*(k+1)+m+6=(2*k+m+2)+6 by lia];have q:(oth n h p).length<=7:=by
   have:=length_filter_le (fun o=>!decide (o=h)&&!decide (o∈p)) (hnds n);unfold oth;have l:(hnds n).length=n:=by simp[hnds]
   lia
  refine zkF c hv (fun i a=>?_) (by lia) (fun o=>zm8 kvs n h k (p++[o])) (fun b o=>zcS kvs n h b k (p++[o]));rw[show 2*k+m+2+5=2*(k+1)+m+5 by lia];refine zpS a e (by lia) (by lia) fun j o d=>?_;have:=zju (h:=h) e hv k m j (p++[o]) d (by simp;lia);rw[show(p++[o]).length+k=p.length+(k+1) by simp;lia]at this;exact this
theorem zlP(n:Nat):((List.range (n:Int).toNat).map fun(k:Nat)=>D.int k)=(hnds n).map D.int:=by rw[Int.toNat_natCast];unfold hnds;rw[map_map];rfl
theorem zmC(n:Nat):(hnds n).length=n:=by simp[hnds]
theorem zlJ{n:Nat}{S:R.St}{i:Int}:app (callF prog (n+1)) 0 [.int i] S=.ok (.bl true) S:=by refine zaT rfl rfl ?_;left;exists(show tyOf S.enter (.int i)=some "int" from rfl);left;exists(show tyOf S.enter (.int i)=some "int" from rfl);left;exact zac rfl ⟨rfl,rfl⟩
theorem zoB{n:Nat}{S:R.St}{i m:Int}(a:0<=i)(b:i<m):app (callF prog (n+2)) 1 [.int i,.int m] S=.ok (.bl true) S:=by refine zaT rfl rfl ?_;left;specialize zlJ;left;refine zdp (by simpa using a) ?_;left;exact zac rfl ⟨by simpa using b,rfl⟩
theorem plen(S:R.St)(o:MO):(S.push o).len=S.len+1:=by simp[St.push,St.len];lia
noncomputable def pz(s b:Int):List (List Int):=if s=b then [] else [[s]]
theorem zot{f n:Nat}{S:R.St}{s b:Int}(hs:0<=s/\s<n):app (callF prog (f+3)) 9 [.int n,.int s,.int 1,.int b] S=.ok (.ref S.len) (S.push (.lst ((pz s b).map pD))):=by
 refine zaT rfl rfl ?_;left;specialize zoB hs.1 hs.2;left;unfold pz;refine zdq (fun c=>?_) (fun c=>?_);rw[if_pos c];left;change by first|decide|lia|(done)|(lia)
 left;exact zb3 rfl rfl ⟨rfl,rfl⟩;rw[if_neg c];left;change by first|decide|lia|(simp;done)|(lia)
 left;change by first|decide|lia|(simp;done)|(lia)
 left;change by first|decide|lia|(done)|(lia)
 left;refine zba ?_;left;exact zb3 rfl rfl ⟨rfl,rfl⟩
noncomputable def hD(i:Int)(n t:Nat)(s:Int)(w:Option Int)(l:Nat):MO:=.ins 0 [("number",.int i),("many",.int n),("rounds",.int t),("sender",.int s),("word",oD w),("notes",.ref l)]
section
variable{S:R.St}{a l n t:Nat}{i s:Int}{w:Option Int}
theorem zaW{c:Nat}{b:List (PySem.Str×D)}(e:S.get a=some (.ins c b)):zbG S (.ref a)=some (c,b):=by unfold zbG;dsimp only;rw[e]
theorem zbw{c:Nat}{b:List (PySem.Str×D)}{f:PySem.Str}{v:D}(e:S.get a=some (.ins c b))(g:b.lookup f=some v):((zbG S (.ref a)).bind fun p=>p.2.lookup f)=some v:=by rw[zaW e];exact g
theorem zcG(e:S.get a=some (hD i n t s w l)):((zbG S (.ref a)).bind fun p=>p.2.lookup ("number":PySem.Str))=some (.int i):=zbw e rfl
theorem zkM(e:S.get a=some (hD i n t s w l)):((zbG S (.ref a)).bind fun p=>p.2.lookup ("many":PySem.Str))=some (.int n):=zbw e rfl
theorem zmL(e:S.get a=some (hD i n t s w l)):((zbG S (.ref a)).bind fun p=>p.2.lookup ("rounds":PySem.Str))=some (.int t):=zbw e rfl
theorem zcF(e:S.get a=some (hD i n t s w l)):((zbG S (.ref a)).bind fun p=>p.2.lookup ("sender":PySem.Str))=some (.int s):=zbw e rfl
theorem zkL(e:S.get a=some (hD i n t s w l)):((zbG S (.ref a)).bind fun p=>p.2.lookup ("word":PySem.Str))=some (oD w):=zbw e rfl
theorem zff(e:S.get a=some (hD i n t s w l)):((zbG S (.ref a)).bind fun p=>p.2.lookup ("notes":PySem.Str))=some (.ref l):=zbw e rfl
end
theorem zcl{P:List Fn}{F:Fn}{f n:Nat}{ds:List D}{S:R.St}{Q:D->R.St->Prop}(h:P[f]?=some F)(a:ds.length=F.np)(w:W (exS (callF P n) F.body (zaq F ds) S) fun r T=>match r with|.nx _=>Q .non T|.rt d=>Q d T|.ex _=>False)(b:F.prim=none:=by rfl):W (appW (callF P (n+1)) f ds S) Q:=by unfold appW;simp only[callF,h,a,b,if_true,zaf,W_ne];refine w.mono fun r T q=>?_;cases r<;>exact q
theorem zhi{P:List Fn}{F:Fn}{f n:Nat}{ds:List D}{S a:R.St}{d:D}(h:P[f]?=some F)(b:ds.length=F.np)(w:wS (callF P n) F.body (zaq F ds) S fun r T=>match r with|.nx _=>D.non=d/\T=a|.rt z=>z=d/\T=a|.ex _=>False)(c:F.prim=none:=by rfl):appW (callF P (n+1)) f ds S=.ok d a:=by refine W.eq (zcl h b ((wS_W _ w).mono fun r T q=>?_) c);cases r<;>exact q
structure Mv(A:List Nat)(S T:R.St):Prop where
 frz:T.frz=S.frz
 lk:T.lk=S.lk
 len:S.len<=T.len
 old:∀m o,m∉A->S.get m=some o->T.get m=some o
theorem Mv.refl(A:List Nat)(S:R.St):Mv A S S:=⟨rfl,rfl,le_refl _,fun _ _ _ h=>h⟩
theorem Mv.trans{A:List Nat}{S T U:R.St}(a:Mv A S T)(b:Mv A T U):Mv A S U:=⟨b.frz.trans a.frz,b.lk.trans a.lk,le_trans a.len b.len,fun m o h e=>b.old m o h (a.old m o h e)⟩
theorem Mv.push(A:List Nat)(S:R.St)(o:MO):Mv A S (S.push o):=⟨rfl,rfl,by rw[plen];lia,fun _ _ _ e=>zak e⟩
theorem Mv.up{A B:List Nat}{S T:R.St}(h:Mv A S T)(s:∀m,m∈A->m∈B):Mv B S T:=⟨h.frz,h.lk,h.len,fun m o a e=>h.old m o (fun z=>a (s m z)) e⟩
theorem get_lt{S:R.St}(h:S.get l=some o):l<S.len:=by unfold St.get at h;unfold St.len;split at h;lia;have:=(List.getElem?_eq_some_iff.mp h).1;lia
theorem zcb{T:R.St}{N:Nat}(a:∀l∈T.lk,l<N)(b:N<=T.len):T.lk.contains T.len=false:=by rw[Bool.eq_false_iff];intro z;have:=a _ (List.contains_iff_mem.mp z);lia
structure Fr(S:R.St)(a:Nat):Prop where
 f:S.frz.length<=a
 k:S.lk.contains a=false
theorem Fr.mv{A:List Nat}{S T:R.St}{a:Nat}(h:Fr S a)(v:Mv A S T):Fr T a:=⟨by rw[v.frz];exact h.f,by rw[v.lk];exact h.k⟩
theorem zbK{S:R.St}{a c:Nat}{b gs:List (PySem.Str×D)}{f:PySem.Str}{v:D}(e:S.get a=some (.ins c b))(d:Fr S a)(g:b.length<1000)(h:zjM f v b=gs):∃T,za1 S (.ref a) f v=some T/\Mv [a] S T/\T.get a=some (.ins c gs):=by obtain⟨T,i,j,k,r,n,p⟩:=zeT (.ins c gs) d.f d.k;refine⟨T,?_,⟨j,k,by lia,fun m o q e=>by rw[n m (by simpa using q)];exact e⟩,p (get_lt e)⟩;unfold za1;dsimp only;rw[e];dsimp only;rw[if_pos g,h,i]
theorem Mv.put{S:R.St}{l:Nat}{o u:MO}(e:S.get l=some o)(a:S.frz.length<=l)(b:S.lk.contains l=false):∃T,S.put l u=some T/\Mv [l] S T/\T.get l=some u:=by obtain⟨T,c,d,f,j,g,h⟩:=zeT u a b;exact⟨T,c,⟨d,f,by lia,fun m o i e=>by rw[g m (by simpa using i)];exact e⟩,h (get_lt e)⟩
noncomputable def ltw(n:Nat)(i:Int)(p:List Int)(d:D):List D:=((hnds n).filter fun o=>!decide (o∈p++[i])).map fun o=>.tup [pD (p++[i]),.int o,d]
theorem zgV{n:Nat}(a:n<=7)(i:Int)(p:List Int)(d:D):(ltw n i p d).length<=7:=by unfold ltw;rw[length_map];refine le_trans (length_filter_le _ _) ?_;rw[zmC];exact a
theorem ztz{cf:CF}{T:R.St}{n:Nat}{i:Int}{p:List Int}{d:D}(v:Option D):za5 [0] (evT cf (.cmp .NotIn J0 J1)) (evE cf (.tup #[J1,J0,J2])) ((List.range (n:Int).toNat).map fun(k:Nat)=>D.int k) [v,some (pD (p++[i])),some d] T=.ok (ltw n i p d) T:=by
 rw[zbB (fun x=>match x with|.int o=>!decide (o∈p++[i])|_=>false) (fun x=>match x with|.int o=>.tup [pD (p++[i]),.int o,d]|x=>x) _ v (fun z a=>?_) (fun z a _=>?_)];congr 1;rw[zlP,List.filter_map,map_map];rfl;obtain⟨o,_,rfl⟩:=mem_map.mp a;refine W.eq (wT_W _ ?_);left;exists zfW _ _ _;left;exact⟨rfl,rfl⟩;obtain⟨o,_,rfl⟩:=mem_map.mp a;refine W.eq (wE_W _ ?_);left;change by first|decide|lia|(simp;done)|(lia)
 left;exact⟨rfl,rfl⟩
section
variable{S:R.St}{a l n t:Nat}{i s:Int}{w:Option Int}
theorem m_lw{f:Nat}{p:List Int}{d:D}(e:S.get a=some (hD i n t s w l))(c:n<=7)(g:p.length<=100):appW (callF prog (f+1)) 34 [.ref a,pD p,d] S=.ok (.ref S.len) (S.push (.lst (ltw n i p d))):=by
 have b:=zgV c i p d;refine zhi rfl rfl ?_;left;exists zcG e;left;change by first|decide|lia|(simp;done)|(lia)
 left;change by simp only[length_map,length_cons,length_nil];lia
 left;rw[show p.map D.int++[D.int i]=(p++[i]).map D.int by simp];exists zkM e;left;change by lia
 left;refine zba ?_;refine W.of (ztz none) ?_;change le_trans b (by decide);left;change le_trans b (by decide);left;exact⟨rfl,rfl⟩
noncomputable def wd(kvs:List (List Int×D))(p:List Int):D:=(valP kvs p).getD (.int 0)
noncomputable def sayL(n:Nat)(i s:Int)(w:Option Int)(kvs:List (List Int×D)):Nat->List D
 |0=>[]|1=>if i=s then ltw n i [] (oD w) else []|_=>if s=i then [] else ltw n i [s] (wd kvs [s])
theorem zpp{x y:Nat}{xs ys:List D}(b:S.get x=some (.lst xs))(c:S.get y=some (.lst ys)):lsts S (.ref x) (.ref y)=some (x,xs,ys):=by unfold lsts;dsimp only;rw[b,c]
theorem zrM{f:Nat}(e:S.get a=some (hD i n t s w l))(b:n<=7) :
  W (appW (callF prog (f+4)) 35 [.ref a,.int 1] S) fun d T=>∃m,d=.ref m/\Mv [] S T/\S.len<=m/\T.get m=some (.lst (sayL n i s w kvs 1)):=by
 refine zcl rfl rfl (wS_W _ ?_);left;exists zcG e;left;exists zcF e;left;refine zdq (fun c=>?_) (fun c=>?_);left;exists zaW e;left;exists rfl;left;change rfl;left;change by first|decide|lia|(done)|(lia)
 left;exists zkL e;left;specialize(m_lw (p:=[]) e b (by simp));left;exact⟨_,rfl,Mv.push _ _ _,le_refl _,by rw[zao];simp[sayL,c]⟩;left;change by first|decide|lia|(done)|(lia)
 left;exact⟨_,rfl,Mv.push _ _ _,le_refl _,by rw[zao];simp[sayL,c]⟩
theorem zrL{f:Nat}{kvs:List (List Int×D)}(e:S.get a=some (hD i n t s w l))(g:S.get l=some (.dtp kvs))(C:n<=7)(hs:0<=s/\s<n)(r:∀l∈S.lk,l<S.len) :
  W (appW (callF prog (f+4)) 35 [.ref a,.int 2] S) fun d T=>∃m,d=.ref m/\Mv [] S T/\S.len<=m/\T.get m=some (.lst (sayL n i s w kvs 2)):=by
 refine zcl rfl rfl (wS_W _ ?_);have v:S.frz.length<=S.len:=by simp[St.len]
 left;change by first|decide|lia|(done)|(lia)
 left;have x:(S.push (.lst [])).get a=some (hD i n t s w l):=zak e;exists zkM x;left;exists zcF x;left;exists zcG x;left;specialize zot hs;left;exists zao _ _;left;refine zba ?_;have j:=(Mv.push [] S (.lst [])).trans (Mv.push [] _ (.lst ((pz s i).map pD)));generalize G:(S.push (.lst [])).push (.lst ((pz s i).map pD))=T at j⊢;have y:T.get S.len=some (.lst []):=by rw[<-G];exact zak (zao _ _)
 rw[show((S.push (.lst [])).len)=S.len+1 by rw[plen]];rw[show lkOf T (.ref (S.len+1))=[S.len+1] from rfl];unfold pz;by_cases c:s=i;rw[if_pos c];show W (Out.ok (Fl.nx _) _) _;left;exact⟨_,rfl,⟨j.frz,j.lk,j.len,fun m o _ q=>j.old m o (by simp) q⟩,le_refl _,by
  rw[y];simp[sayL,c]⟩
 rw[if_neg c];generalize b:({T with lk:=[S.len+1]++T.lk}:R.St)=k;show W (Out.bind (exS (callF prog (f+3)) _ [some (.ref a),some (.int 2),some (.ref S.len),some (pD [s])] k) _) _;rw[zaf];refine wS_W _ ?_;have z:k.get a=some (hD i n t s w l):=by rw[<-b];exact j.old _ _ (by simp) e
 have E:k.get l=some (.dtp kvs):=by rw[<-b];exact j.old _ _ (by simp) g
 have A:k.get S.len=some (.lst []):=by rw[<-b];exact y
 have H:=zgV C i [s] (wd kvs [s]);obtain⟨U,I,J,L⟩:=Mv.put (zak A) (by rw[<-b];rw[j.frz];exact v) (by
  rw[<-b];show((S.len+1)::T.lk).contains S.len=false;rw[j.lk,contains_cons,zcb r (le_refl _)];simp)
 left;exists A;left;exists zaW z;left;exists rfl;left;change rfl;left;exists zff z;left;change by simp only[isDt,E]
 left;exists zg8 E [s];left;specialize(m_lw (d:=wd kvs [s]) z C (by simp));left;exists zpp (zak A) (zao _ _);left;change by simp only[List.nil_append];lia
 left;exists I;left;have B:=(Mv.push _ _ _).trans J;refine⟨_,rfl,⟨?_,j.lk,?_,fun m o _ q=>?_⟩,le_refl _,?_⟩;rw[B.frz,<-b];exact j.frz;have h:=B.len;rw[<-b]at h;exact le_trans j.len h;refine B.old m o (by have:=get_lt q;simp;lia) ?_;rw[<-b];exact j.old m o (by simp) q;show U.get S.len=_;rw[L];simp[sayL,c]
end
abbrev Kk:=List (List Int×Option Int)
noncomputable def gK(g:Option Int->D)(K:Kk):List (List Int×D):=K.map fun x=>(x.1,g x.2)
noncomputable def hv(o:Option Int):D:=.int (o.getD 0)
noncomputable def setK(K:Kk)(p:List Int)(o:Option Int):Kk:=if p∈K.map (·.1) then K else K++[(p,o)]
noncomputable def zbT(K Ls:Kk):Kk:=Ls.foldl (fun K x=>setK K x.1 x.2) K
theorem zlv(K:Kk)(p:List Int)(o:Option Int):(setK K p o).length<=K.length+1:=by unfold setK;split<;>simp
theorem zcT:∀(Ls K:Kk),(zbT K Ls).length<=K.length+Ls.length
 | [],K=>by simp[zbT]| x::Ls,K=>by have:=zcT Ls (setK K x.1 x.2);have h:=zlv K x.1 x.2;simp only[zbT,List.foldl_cons,length_cons]at *;lia
theorem zgC(K Ls:Kk)(x:List Int×Option Int):zbT K (Ls++[x])=setK (zbT K Ls) x.1 x.2:=by simp[zbT]
theorem zja(g:Option Int->D)(p:List Int):∀K:Kk,valP (gK g K) p=(K.find? fun x=>decide (x.1=p)).map fun x=>g x.2
 | []=>rfl| x::K=>by have a:=zja g p K;unfold valP gK at *;rw[map_cons,List.find?_cons,List.find?_cons];by_cases c:x.1=p;simp[c];simp only[c];exact a
theorem zlp(g:Option Int->D)(p:List Int)(K:Kk):(valP (gK g K) p).isSome=decide (p∈K.map (·.1)):=by rw[zja];induction K with|nil=>rfl| cons x K a=>rw[List.find?_cons];by_cases c:x.1=p;simp[c];simp only[c,decide_false,map_cons,mem_cons];rw[a];have:p≠x.1:=fun z=>c z.symm;simp[this]
theorem zep(g:Option Int->D)(p:List Int)(o:Option Int):∀K:Kk,p∉K.map (·.1)->putP (gK g K) p (g o)=gK g (K++[(p,o)])
 | [],_=>rfl| x::K,h=>by rw[map_cons,mem_cons,not_or]at h;have a:=zep g p o K h.2;have c:¬x.1=p:=fun z=>h.1 z.symm;show putP ((x.1,g x.2)::gK g K) p (g o)=_;rw[putP,if_neg c,a];rfl
theorem zsc(g:Option Int->D)(K:Kk):(gK g K).length=K.length:=by simp[gK]
theorem zmU{S:R.St}{l:Nat}{K:Kk}(g:Option Int->D)(e:S.get l=some (.dtp (gK g K)))(b:S.frz.length<=l)(f:S.lk.contains l=false)(h:K.length<16777216)(p:List Int)(o:Option Int) :
  ∃d T,zfh S (.ref l) (pD p) (g o)=some (d,T)/\Mv [l] S T/\T.get l=some (.dtp (gK g (setK K p o))):=by
 have hv:=zlp g p K;have a:=zg8 e p;unfold setK;cases c:valP (gK g K) p with
 |some u=>
  rw[c]at hv a;have:p∈K.map (·.1):=by simpa using hv.symm
  rw[if_pos this];exact⟨u,S,by unfold zfh;rw[a],Mv.refl _ _,e⟩
 |none=>
  rw[c]at hv a;have:p∉K.map (·.1):=by simpa using hv.symm
  rw[if_neg this];obtain⟨T,i,j,k⟩:=Mv.put (u:=.dtp (putP (gK g K) p (g o))) e b f;refine⟨g o,T,?_,j,by rw[k,zep g p o K this]⟩;unfold zfh;rw[a];unfold dPut;dsimp only;rw[e];rw[zet];dsimp only[bind_some];rw[if_pos (by rw[zsc];exact h),i];rfl
noncomputable def lD(x:List Int×Option Int):D:=.tup [pD x.1,oD x.2]
section
variable{S:R.St}{a l n t:Nat}{i s:Int}{w:Option Int}{K:Kk}
theorem zrN{f q:Nat}{j:Int}{Ls:Kk}(e:S.get a=some (hD i n t s w l))(g:S.get l=some (.dtp (gK hv K)))(A:S.get q=some (.lst (Ls.map lD)))(I:Fr S l)(hl:K.length+Ls.length<16777216) :
  W (appW (callF prog (f+1)) 33 [.ref a,.int j,.ref q] S) fun d T=>d=.non/\Mv [l] S T/\T.get l=some (.dtp (gK hv (zbT K Ls))):=by
 have B:q≠l:=fun z=>by rw[z,g]at A;cases A
 have C:a≠l:=fun z=>by rw[z,g]at e;cases e
 refine zcl rfl rfl (wS_W _ ?_);left;exists A;left;refine zba ?_;refine W.mono (zem (fun m E T=>(∃k u,E=[some (.ref a),some (.int j),some (.ref q),k,u])/\Mv [l] {S with lk:=q::S.lk} T/\T.get l=some (.dtp (gK hv (zbT K (Ls.take m))))) (fun _ _=>False) _ 0 _ _ ⟨⟨none,none,rfl⟩,Mv.refl _ _,g⟩ ?_) ?_;rintro m z E T y ⟨⟨k,u,rfl⟩,c,h⟩;rw[zero_add]at h;rw[zero_add];rw[getElem?_map]at y;cases ex:Ls[m]? with
 |none=>rw[ex]at y;cases y
 |some x=>
  rw[ex]at y;cases y;obtain⟨p,o⟩:=x;have J:=c.old a _ (by simpa using C) (show St.get {S with lk:=q::S.lk} a=_ from e);have L:=zcT (Ls.take m) K;have N:(Ls.take m).length<=Ls.length:=by rw[length_take];lia
  obtain⟨d,U,M,O,Q⟩:=zmU hv h (by rw[c.frz];exact I.f) (by rw[c.lk];rw[contains_cons,I.k];simpa using fun z=>B z.symm) (by lia) p o;refine⟨_,rfl,?_⟩;generalize G:zd6 _ _ _=Y;refine wS_W _ ?_;subst G;have fin:∀b:Ev,b=[some (.ref a),some (.int j),some (.ref q),some (pD p),some (oD o)]->(∃k u,b=[some (.ref a),some (.int j),some (.ref q),k,u])/\Mv [l] {S with lk:=q::S.lk} U/\U.get l=some (.dtp (gK hv (zbT K (Ls.take (m+1))))):=fun b hb=>⟨⟨_,_,hb⟩,c.trans O,by rw[Q,zjj ex,zgC]⟩;cases o with
  |none=>
   left;exists zff J;left;change by simp only[isDt,h]
   left;exists M;left;exact fin _ rfl
  |some v=>
   left;exists zff J;left;change by simp only[isDt,h]
   left;exists M;left;exact fin _ rfl
 intro r T H;cases r with|rt d=>exact H.elim|ex d=>exact H.elim| nx E=>obtain⟨⟨k,u,rfl⟩,c,h⟩:=H;rw[zero_add,length_map,List.take_length]at h;left;exact⟨rfl,⟨c.frz,rfl,c.len,fun m o hm eo=>c.old m o hm eo⟩,h⟩
theorem zp6:Wds (gK hv K):=fun p d h=>by
 rw[zja]at h;cases c:K.find? fun x=>decide (x.1=p) with
 |none=>rw[c]at h;cases h
 |some x=>rw[c]at h;cases h;exact⟨some _,rfl⟩
noncomputable def trD(K:Kk)(n:Nat)(i s:Int)(w:Option Int)(k:Nat):D:=if i=s then .tup [pD [s],oD w,oD w,.tup []] else zdt (gK hv K) n i k [s]
noncomputable def trT(K:Kk)(n:Nat)(i s:Int)(w:Option Int)(k:Nat):D:=if i=s then oD w else .int (tkn (look (gK hv K)) n i k [s])
theorem znz{k m:Nat}(e:S.get a=some (hD i n (k+1) s w l))(g:S.get l=some (.dtp (gK hv K)))(b:n<=7)(d:k<=40):appW (callF prog (2*k+m+6+1)) 36 [.ref a] S=.ok (trD K n i s w k) S:=by
 refine zhi rfl rfl ?_;unfold trD;left;exists zcG e;left;exists zcF e;left;refine zdq (fun c=>?_) (fun c=>?_);rw[if_pos c];left;exists zcF e;left;change by first|decide|lia|(simp;done)|(lia)
 left;exists zkL e;left;exists zkL e;left;change by first|decide|lia|(done)|(lia)
 left;change by first|decide|lia|(simp;done)|(lia)
 left;exact⟨rfl,rfl⟩;rw[if_neg c];left;exists zkM e;left;exists zmL e;left;exists zcG e;left;exists zcF e;left;change by first|decide|lia|(simp;done)|(lia)
 left;exists zff e;left;have:=zju (h:=i) b (zp6) k m S [s] g (by simp;lia);rw[show([s]:List Int).length+k=k+1 by simp;lia]at this;specialize this;left;exact⟨rfl,rfl⟩
theorem tr_2(K:Kk)(n:Nat)(i s:Int)(w:Option Int)(k:Nat):∃x y z,trD K n i s w k=.tup [x,y,trT K n i s w k,z]:=by unfold trD trT;split;exact⟨_,_,_,rfl⟩;exact zm8 _ _ _ _ _
theorem zmp{k m:Nat}(e:S.get a=some (hD i n (k+1) s w l))(g:S.get l=some (.dtp (gK hv K)))(b:n<=7)(c:k<=40):appW (callF prog (2*k+m+6+1+1)) 32 [.ref a] S=.ok (trT K n i s w k) S:=by refine zhi rfl rfl ?_;obtain⟨x,y,z,d⟩:=tr_2 K n i s w k;left;exists zaW e;left;exists rfl;left;change rfl;left;specialize(znz e g b c).trans (by rw[d]);left;exists(show atI [x,y,trT K n i s w k,z] 2=some (trT K n i s w k) from rfl);left;exact⟨rfl,rfl⟩
end
noncomputable def za6:List D:=[.non,.bl true,.bl false,.str "0",.str "1"]
noncomputable def Th(S:R.St)(d:D):Prop:=(∃z,d=.int z)\/d∈za6\/∃(l:Nat) (z:Int),d=.ref l/\S.get l=some (.lst [D.int z])
theorem Th.mono{S T:R.St}{d:D}(h:Th S d)(g:∀l o,S.get l=some o->T.get l=some o):Th T d:=by rcases h with h|h|⟨l,z,h,e⟩;exact .inl h;exact .inr (.inl h);exact .inr (.inr ⟨l,z,h,g _ _ e⟩)
theorem Th.push{S:R.St}{d:D}{o:MO}(h:Th S d):Th (S.push o) d:=h.mono fun _ _ e=>zak e
theorem Th.enter{S:R.St}{d:D}(h:Th S d):Th S.enter d:=h.mono fun l o e=>by rw[zaB];exact e
theorem Th.mv{S T:R.St}{d:D}(h:Th S d)(v:Mv [] S T):Th T d:=h.mono fun l o e=>v.old l o (by simp) e
theorem Th.int{S:R.St}{z:Int}:Th S (.int z):=.inl ⟨z,rfl⟩
theorem Th.flat{S:R.St}{d:D}(h:Th S d):flat S.len d=true:=by
 rcases h with⟨z,rfl⟩|h|⟨l,z,rfl,e⟩;rfl
 . simp only[za6,mem_cons,not_mem_nil,or_false]at h;rcases h with rfl|rfl|rfl|rfl|rfl<;>rfl
 have:=get_lt e;simp[R.flat,this]
theorem Th.pd{S:R.St}{d:D}(h:Th S d):∃a,pd S 60 d=some a:=by
 rcases h with⟨z,rfl⟩|h|⟨l,z,rfl,e⟩;exact⟨_,rfl⟩
 . simp only[za6,mem_cons,not_mem_nil,or_false]at h;rcases h with rfl|rfl|rfl|rfl|rfl<;>first|exact⟨_,rfl⟩|exact⟨_,(if_pos (by decide +kernel))⟩
 refine⟨.list [.int z],?_⟩;rw[R.pd];simp only[e];rfl
theorem Th.same{S:R.St}{d:D}(h:Th S d):eqD S d d=some true:=by obtain⟨a,b⟩:=h.pd;simp only[eqD,b,bind_some,Option.map_some,zpb b]
noncomputable def kI:D->Bool|.int _=>true|.bl _=>true|_=>false
noncomputable def kB:D->Bool|.bl _=>true|_=>false
noncomputable def kZ:D->Bool|.int _=>true|_=>false
theorem ztp(d:D):(kI d&&!kB d)=kZ d:=by cases d<;>rfl
noncomputable def kT:D->String|.non=>"NoneType"|.bl _=>"bool"|.int _=>"int"|.str _=>"str"|.tup _=>"tuple"|_=>"list"
theorem Th.ty{S:R.St}{d:D}(h:Th S d):tyOf S d=some (kT d):=by
 rcases h with⟨z,rfl⟩|h|⟨l,z,rfl,e⟩;rfl
 . simp only[za6,mem_cons,not_mem_nil,or_false]at h;rcases h with rfl|rfl|rfl|rfl|rfl<;>rfl
 simp only[tyOf,e,kT]
theorem zr1(d:D):(kT d=="int" || (kT d=="bool" && "int" == "int"))=kI d:=by cases d<;>rfl
theorem zpu(d:D):(kT d=="bool" || (kT d=="bool" && "bool" == "int"))=kB d:=by cases d<;>rfl
theorem ztB{S:R.St}{d:D}(h:Th S d):bi S (.isin "int") [d]=.ok (.bl (kI d)) S:=by unfold bi;simp only[h.ty];rw[zr1]
theorem zsu{S:R.St}{d:D}(h:Th S d):bi S (.isin "bool") [d]=.ok (.bl (kB d)) S:=by unfold bi;simp only[h.ty];rw[zpu]
theorem zse{cf:CF}{S:R.St}{δ:Ev}{i:Nat}{d:D}(e:δ[i]?=some (some d))(h:Th S d):evE cf (.bi (.isin "int") #[.loc i]) δ S=.ok (.bl (kI d)) S:=by show Out.bind (Out.bind (lift S (δ[i]?).join) _) _=_;rw[e];exact ztB h
theorem zg5{cf:CF}{S:R.St}{δ:Ev}{i:Nat}{d:D}(e:δ[i]?=some (some d))(h:Th S d):evE cf (.bi (.isin "bool") #[.loc i]) δ S=.ok (.bl (kB d)) S:=by show Out.bind (Out.bind (lift S (δ[i]?).join) _) _=_;rw[e];exact zsu h
theorem zpW{P:List Fn}{F:Fn}{f n:Nat}{ds:List D}{S b:R.St}{d:D}(h:P[f]?=some F)(c:ds.length=F.np)(w:W (exS (callF P n) F.body (zaq F ds) S.enter) fun r T=>wFin S r T fun a e=>a=d/\e=b)(g:F.prim=none:=by rfl) :
  app (callF P (n+1)) f ds S=.ok d b:=by
 refine W.eq ?_;rw[znL h c g,zaf,W_ne];refine w.mono fun r T q=>?_;unfold wFin at q;exact q
theorem zbo{n:Nat}{S:R.St}{d:D}(h:Th S d){f:Nat}(b:prog[f]?=some zbf):app (callF prog (n+1)) f [d] S=.ok (.bl (kZ d)) S:=by
 refine zpW b rfl ?_;have a:=h.enter;have c:evE (callF prog n) (.bi (.isin "int") #[J0]) (zaq zbf [d]) S.enter=_:=zse rfl a;have g:evE (callF prog n) (.bi (.isin "bool") #[J0]) (zaq zbf [d]) S.enter=_:=zg5 rfl a;have e:evE (callF prog n) (.and (.bi (.isin "int") #[J0]) (.nt (.bi (.isin "bool") #[J0]))) (zaq zbf [d]) S.enter=.ok (.bl (kZ d)) S.enter:=by show Out.bind _ _=_;rw[c,zan,<-ztp];dsimp only;cases kI d with|true=>show Out.bind _ _=_;rw[g];rfl|false=>rfl
 show W (Out.bind _ _) _;rw[e];exact zac rfl ⟨rfl,rfl⟩
theorem ziK(d:D):(∃z,d=.int z)\/kZ d=false:=by cases d<;>first|exact .inl ⟨_,rfl⟩|exact .inr rfl
noncomputable def gh(m:Int):D->Bool|.int z=>decide (0<=z)&&decide (z<m)|_=>false
noncomputable def gw:D->Bool|.int z=>decide ((if z<0 then -z else z)<10^60)|_=>false
noncomputable def gc(lo hi:Int):D->Bool|.int z=>decide (lo<=z)&&decide (z<=hi)|_=>false
theorem zr9{m:Int}{d:D}(h:kZ d=false):gh m d=false:=by cases d<;>first|rfl|cases h
theorem zr7{d:D}(h:kZ d=false):gw d=false:=by cases d<;>first|rfl|cases h
theorem zsb{lo hi:Int}{d:D}(h:kZ d=false):gc lo hi d=false:=by cases d<;>first|rfl|cases h
theorem znk{n:Nat}{S:R.St}{d:D}{m:Int}(h:Th S d):app (callF prog (n+2)) 1 [d,.int m] S=.ok (.bl (gh m d)) S:=by refine zaT rfl rfl ?_;left;specialize zbo h.enter rfl;left;rcases ziK d with⟨z,rfl⟩|a;left;refine zdq (fun c=>?_) (fun c=>?_);left;refine zac rfl ⟨?_,rfl⟩;simp[gh,c];left;refine zac rfl ⟨?_,rfl⟩;simp[gh,c];rw[zr9 a];refine zfp a ?_;left;exact zac rfl ⟨rfl,rfl⟩
theorem znj{n:Nat}{S:R.St}{d:D}(h:Th S d):app (callF prog (n+2)) 2 [d] S=.ok (.bl (gw d)) S:=by
 refine zaT rfl rfl ?_;left;specialize zbo h.enter rfl;left;rcases ziK d with⟨z,rfl⟩|a;left;change by decide
 left;exact zac rfl ⟨rfl,rfl⟩;rw[zr7 a];refine zfp a ?_;left;exact zac rfl ⟨rfl,rfl⟩
theorem zhj{P:List Fn}{F:Fn}{f n:Nat}{ds:List D}{S T:R.St}{d:D}(h:P[f]?=some F)(a:ds.length=F.np)(w:wS (callF P n) F.body (zaq F ds) S.enter fun r b=>r=.rt d/\b=T)(hd:flat S.len d=true)(c:F.prim=none:=by rfl):appX (callF P (n+1)) f ds S=.ok d S:=by have e:=(wS_W _ w).eq;unfold appX;simp only[callF,h,a,c,e];exact zcZ S d T hd
theorem zd8{P:List Fn}{F:Fn}{f n:Nat}{ds:List D}{S:R.St}{o:MO}(h:P[f]?=some F)(a:ds.length=F.np)(w:wS (callF P n) F.body (zaq F ds) S.enter fun r b=>r=.ex (.ref S.enter.len)/\b=S.enter.push o)(c:F.prim=none:=by rfl):appX (callF P (n+1)) f ds S=.err (.ref S.len) (S.push o):=by have e:=(wS_W _ w).eq;unfold appX;simp only[callF,h,a,c,e,R.enter_len];rfl
theorem zgz{n:Nat}{S:R.St}{d:D}{lo hi:Int}(h:Th S d):appX (callF prog (n+2)) 3 [d,.int lo,.int hi] S=if gc lo hi d then .ok d S else .err (.ref S.len) (S.push (.exc 0 [("told",d)])):=by rcases ziK d with⟨z,rfl⟩|c;by_cases a:lo<=z;by_cases b:z<=hi;rw[if_pos (by simp[gc,a,b])];refine zhj (F:=zbx) (T:=S.enter) rfl rfl ?_ rfl;left;specialize zbo h.enter rfl;left;refine zdp (decide_eq_true a) ?_;left;refine zfp (by rw[decide_eq_true b];rfl) ?_;left;exact⟨rfl,rfl⟩;rw[if_neg (by simp[gc,b])];refine zd8 (F:=zbx) rfl rfl ?_;left;specialize zbo h.enter rfl;left;refine zdp (decide_eq_true a) ?_;left;refine zdp (by rw[decide_eq_false b];rfl) ?_;left;exact⟨rfl,rfl⟩;rw[if_neg (by simp[gc,a])];refine zd8 (F:=zbx) rfl rfl ?_;left;specialize zbo h.enter rfl;left;refine zfp (decide_eq_false a) ?_;left;exact⟨rfl,rfl⟩;rw[zsb c,if_neg (by decide)];refine zd8 (F:=zbx) rfl rfl ?_;left;specialize zbo h.enter rfl;left;rw[c];left;exact⟨rfl,rfl⟩
theorem zm4{n:Nat}{S:R.St}{d:D}{m:Int}(h:Th S d):appX (callF prog (n+3)) 4 [d,.int m] S=if gh m d then .ok d S else .err (.ref S.len) (S.push (.exc 1 [("hand",d)])):=by by_cases c:gh m d=true;rw[if_pos c];refine zhj (T:=S.enter) rfl rfl ?_ h.flat;left;specialize znk h.enter;left;refine zfp (by rw[c];rfl) ?_;left;exact⟨rfl,rfl⟩;rw[if_neg c];refine zd8 rfl rfl ?_;left;specialize znk h.enter;left;refine zdp (by rw[Bool.eq_false_iff.mpr c];rfl) ?_;left;exact⟨rfl,rfl⟩
theorem zp2{n:Nat}{S:R.St}{d:D}(h:Th S d):appX (callF prog (n+3)) 5 [d] S=if gw d then .ok d S else .err (.ref S.len) (S.push (.exc 2 [("word",d)])):=by by_cases c:gw d=true;rw[if_pos c];refine zhj (T:=S.enter) rfl rfl ?_ h.flat;left;specialize znj h.enter;left;refine zfp (by rw[c];rfl) ?_;left;exact⟨rfl,rfl⟩;rw[if_neg c];refine zd8 rfl rfl ?_;left;specialize znj h.enter;left;refine zdp (by rw[Bool.eq_false_iff.mpr c];rfl) ?_;left;exact⟨rfl,rfl⟩
theorem zm6{cf:CF}{b:TrB}{x:PySem.Str}{d e:Nat}{r:CS}{δ a:Ev}{S c:R.St}{Q:Fl->R.St->Prop}(h:exT cf b δ S=.ok a c)(w:W (exS cf r a c) Q):wOut (exS cf (.tryS b x d e r) δ S) Q:=by refine za0 ?_;(conv=>lhs;whnf);rw[h];exact w
theorem zdv{n:Nat}{S:R.St}{a:List Int}{k:Nat}:app (callF prog (n+1)) 20 [.fix (a.map .int),.int k] S=.ok (.int (zcJ a k)) S:=by
 refine zaT rfl rfl ?_;left;refine zdq (fun c=>?_) (fun c=>?_);have c:k<a.length:=by simpa using c
 left;exists zle (x:=D.int a[k]) (by simp[c]);left;change by decide
 left;change by decide
 left;refine zac rfl ⟨?_,rfl⟩;unfold zcJ;rw[getElem?_eq_getElem c];rfl;have c:¬k<a.length:=by simpa using c
 left;refine zac rfl ⟨?_,rfl⟩;unfold zcJ;rw[List.getElem?_eq_none (by lia)]
theorem zoa{P:Int->Prop}{k:Int}(h:0<=k)(i:k<7)(a:P 0)(b:P 1)(c:P 2)(d:P 3)(e:P 4)(f:P 5)(g:P 6):P k:=by
 have:k=0\/k=1\/k=2\/k=3\/k=4\/k=5\/k=6:=by lia
 rcases this with rfl|rfl|rfl|rfl|rfl|rfl|rfl
 all_goals assumption
theorem Th.atom{S:R.St}{d:D}(h:d∈za6):Th S d:=.inr (.inl h)
theorem zjt{n:Nat}{S:R.St}{c m:Int}(e:0<m):W (app (callF prog (n+1)) 21 [.int c,.int m] S) fun d T=>Th T d/\Mv [] S T:=by
 refine zhh (F:=zeE) rfl rfl ?_;left
 repeat (first|(refine wNeed_of (by first|decide|lia|(simp;done)|(simp;lia)) ?_;conv=>whnf)|(refine zaG rfl ?_;conv=>whnf)|(refine a rfl ?_;conv=>whnf)|(refine zaN (by assumption) ?_;conv=>whnf))
 refine zi8 (fun b=>?_) (fun b=>?_)
 . left
   repeat (first|(refine wNeed_of (by first|decide|lia|(simp;done)|(simp;lia)) ?_;conv=>whnf)|(refine zaG rfl ?_;conv=>whnf)|(refine a rfl ?_;conv=>whnf)|(refine zaN (by assumption) ?_;conv=>whnf))
   exact zac rfl ⟨.int,.refl _ _⟩
 . left
   repeat (first|(refine wNeed_of (by first|decide|lia|(simp;done)|(simp;lia)) ?_;conv=>whnf)|(refine zaG rfl ?_;conv=>whnf)|(refine a rfl ?_;conv=>whnf)|(refine zaN (by assumption) ?_;conv=>whnf))
   refine zoa (P:=fun k=>wOpt (R.atI _ k) _) (k:=c/3%7) (by lia) (by lia) ?_ ?_ ?_ ?_ ?_ ?_ ?_;exact wOpt_of rfl (zac rfl ⟨.int,.refl _ _⟩);exact wOpt_of rfl (zac rfl ⟨.int,.refl _ _⟩);exact wOpt_of rfl (zac rfl ⟨.int,.refl _ _⟩);exact wOpt_of rfl (zac rfl ⟨.atom (by simp[za6]),.refl _ _⟩);exact wOpt_of rfl (zac rfl ⟨.atom (by simp[za6]),.refl _ _⟩);exact wOpt_of rfl (zac rfl ⟨.atom (by simp[za6]),.refl _ _⟩);exact wOpt_of rfl (zb3 (i:=0) rfl rfl ⟨.inr (.inr ⟨_,_,rfl,zao _ _⟩),.push _ _ _⟩)
theorem zoz{n:Nat}{S:R.St}{c:Int}:W (app (callF prog (n+1)) 22 [.int c] S) fun d T=>Th T d/\Mv [] S T:=by
 refine zhh rfl rfl ?_;left
 repeat (first|(refine wNeed_of (by first|decide|lia|(done)|(lia)) ?_;conv=>whnf)|(refine zaG rfl ?_;conv=>whnf)|(refine a rfl ?_;conv=>whnf)|(refine zaN (by assumption) ?_;conv=>whnf))
 refine zi8 (fun b=>?_) (fun b=>?_)
 . left
   repeat (first|(refine wNeed_of (by first|decide|lia|(done)|(lia)) ?_;conv=>whnf)|(refine zaG rfl ?_;conv=>whnf)|(refine a rfl ?_;conv=>whnf)|(refine zaN (by assumption) ?_;conv=>whnf))
   exact zac rfl ⟨.int,.refl _ _⟩
 . left
   repeat (first|(refine wNeed_of (by first|decide|lia|(simp;done)|(lia)) ?_;conv=>whnf)|(refine zaG rfl ?_;conv=>whnf)|(refine a rfl ?_;conv=>whnf)|(refine zaN (by assumption) ?_;conv=>whnf))
   refine zoa (P:=fun k=>wOpt (R.atI _ k) _) (by lia) (by lia) ?_ ?_ ?_ ?_ ?_ ?_ ?_;exact wOpt_of rfl (zac rfl ⟨.int,.refl _ _⟩);exact wOpt_of rfl (zac rfl ⟨.int,.refl _ _⟩);exact wOpt_of rfl (zac rfl ⟨.atom (by simp[za6]),.refl _ _⟩);exact wOpt_of rfl (zac rfl ⟨.atom (by simp[za6]),.refl _ _⟩);exact wOpt_of rfl (zac rfl ⟨.atom (by simp[za6]),.refl _ _⟩);exact wOpt_of rfl (zac rfl ⟨.atom (by simp[za6]),.refl _ _⟩);exact wOpt_of rfl (zb3 rfl rfl ⟨.inr (.inr ⟨_,_,rfl,zao _ _⟩),.push _ _ _⟩)
theorem zqj{P:Int->Prop}{k:Int}(d:0<=k)(e:k<3)(a:P 0)(b:P 1)(c:P 2):P k:=by
 have:k=0\/k=1\/k=2:=by lia
 rcases this with rfl|rfl|rfl
 all_goals assumption
theorem Th.cmp{S:R.St}{d:D}(h:Th S d):cmpD S .Eq d d=some true:=by by_cases z:∃i,d=.int i;obtain⟨i,rfl⟩:=z;simp[cmpD,cmpI];rw[zk4 fun i j e _=>z ⟨i,e⟩];exact h.same
theorem zgE{n:Nat}{S:R.St}{d:D}(h:Th S d):app (callF prog (n+1)) 24 [d,d] S=.ok (.bl true) S:=by
 refine zpW rfl rfl ?_;have a:=h.enter;have b:evE (callF prog n) (.bi (.isin "bool") #[J0]) (zaq za4 [d,d]) S.enter=_:=zg5 rfl a;have c:evE (callF prog n) (.bi (.isin "bool") #[J1]) (zaq za4 [d,d]) S.enter=_:=zg5 rfl a;have e:cmpD S.enter .Eq (.bl (kB d)) (.bl (kB d))=some true:=by cases kB d<;>rfl
 have q:evE (callF prog n) (.cmp .Eq J0 J1) (zaq za4 [d,d]) S.enter=.ok (.bl true) S.enter:=by show Out.bind (lift S.enter (some d)) _=_;rw[zaV,zan];show Out.bind (lift S.enter (some d)) _=_;rw[zaV,zan,a.cmp];rfl
 show W (Out.bind (Out.bind (Out.bind _ _) _) _) _;rw[b,zan,c,zan,e];show W (Out.bind (evE (callF prog n) (.cmp .Eq J0 J1) (zaq za4 [d,d]) S.enter) _) _;rw[q];exact zac rfl ⟨rfl,rfl⟩
noncomputable def gt:D->Bool|.non=>true|d=>gc 1 8 d
noncomputable def dueS(m:Int)(d w t:D):PySem.Str:=if gh m d then(if gw w then(if gt t then "" else "count") else "word") else "hand"
noncomputable def dC:CS:=(.ifS (.and (.cmp .IsNot J2 (.con D.non)) (.or (.nt (.tst (.call 25 0 #[J2]))) (.or (.cmp .Lt J2 Y1) (.cmp .Gt J2 Y8)))) (.ret (.con (D.str "count")) .nil) .nil (.ret (.con (D.str "")) .nil))
noncomputable def dW:CS:=(.ifS (.or (.nt (.tst (.call 25 0 #[J1]))) (.cmp .GtE (.bi .abs #[J1]) (.bin .Pow Y10 Y60))) (.ret (.con (D.str "word")) .nil) .nil dC)
theorem zq8{n:Nat}{S:R.St}{d w t:D}{m:Int}(h:Th S d)(s:Th S w)(p:Th S t):app (callF prog (n+2)) 26 [d,w,t,.int m] S=.ok (.str (dueS m d w t)) S:=by
 refine zaT rfl rfl ?_;left;specialize zbo h.enter rfl;left;have b:gh m d=true->gw w=true->wS (callF prog (n+1)) dC [some d,some w,some t,some (.int m)] S.enter fun r T=>wFin S r T fun a k=>a=.str (dueS m d w t)/\k=S:=by
  intro g u;unfold dueS;rw[if_pos g,if_pos u];by_cases l:t=.non;subst l;left;exact zac rfl ⟨rfl,rfl⟩;have e:gt t=gc 1 8 t:=by cases t<;>first|rfl|exact absurd rfl l
  rw[e];have v:∀q,cmpO q .IsNot t .non=some true:=fun q=>by cases t<;>first|rfl|exact absurd rfl l
  rcases ziK t with⟨z,rfl⟩|f;left;specialize zbo p.enter rfl;left;refine zdq (fun c=>?_) (fun c=>?_);left;refine zac rfl ⟨?_,rfl⟩;rw[if_neg (by simp only[gc];lia)];left;refine zdq (fun o=>?_) (fun o=>?_);left;refine zac rfl ⟨?_,rfl⟩;rw[if_neg (by simp only[gc];lia)];left;refine zac rfl ⟨?_,rfl⟩;rw[if_pos (by simp only[gc];lia)];have fin:wS (callF prog (n+1)) (.ifS (.or (.nt (.tst (.call 25 0 #[J2]))) (.or (.cmp .Lt J2 Y1) (.cmp .Gt J2 Y8))) (.ret (.con (D.str "count")) .nil) .nil (.ret (.con (D.str "")) .nil)) [some d,some w,some t,some (.int m)] S.enter (fun r T=>wFin S r T fun a k=>a=.str (if false=true then "" else "count")/\k=S):=by left;specialize zbo p.enter rfl;left;refine zdp (by rw[f];rfl) ?_;left;exact zac rfl ⟨rfl,rfl⟩
  cases t with
  |non=>exact absurd rfl l|int z=>cases f
  |_=>exact fin
 have i:gh m d=true->wS (callF prog (n+1)) dW [some d,some w,some t,some (.int m)] S.enter fun r T=>wFin S r T fun a k=>a=.str (dueS m d w t)/\k=S:=by
  intro g;have b:=b g;left;specialize zbo s.enter rfl;left;rcases ziK w with⟨z,rfl⟩|f
  . left
    repeat (first|(refine wNeed_of (by first|decide|lia|(done)|(lia)) ?_;conv=>whnf)|(refine zaG rfl ?_;conv=>whnf)|(refine j rfl ?_;conv=>whnf)|(refine zaN (by assumption) ?_;conv=>whnf))
    refine zdq (fun c=>?_) (fun c=>?_);left;refine zac rfl ⟨?_,rfl⟩;unfold dueS;rw[if_pos g,if_neg];simp only[gw,decide_eq_true_eq];exact fun z=>absurd c (Int.not_le.mpr z);refine b ?_;simp only[gw,decide_eq_true_eq];exact Int.not_le.mp c
  refine zdp (by rw[f];rfl) ?_;left;refine zac rfl ⟨?_,rfl⟩;unfold dueS;rw[if_pos g,zr7 f];rfl
 rcases ziK d with⟨z,rfl⟩|f;left;refine zdq (fun c=>?_) (fun c=>?_);left;refine zac rfl ⟨?_,rfl⟩;unfold dueS;rw[if_neg (by simp only[gh];lia)];left;refine zdq (fun o=>?_) (fun o=>?_);left;refine zac rfl ⟨?_,rfl⟩;unfold dueS;rw[if_neg (by simp only[gh];lia)];exact i (by simp only[gh];lia);refine zdp (by rw[f];rfl) ?_;left;refine zac rfl ⟨?_,rfl⟩;unfold dueS;rw[zr9 f];rfl
theorem zgm(S:R.St){a b:PySem.Str}(c:PySem.PyData.strOk a=true)(d:PySem.PyData.strOk b=true):cmpO S .Eq (.str a) (.str b)=some (PySem.PyData.eqv (.str a) (.str b)):=by show(pd S 60 (.str a)).bind _=_;rw[show pd S 60 (.str a)=some (.str a) from if_pos c,show pd S 60 (.str b)=some (.str b) from if_pos d];rfl
theorem zas{S:R.St}{x c:Nat}{a:List (PySem.Str×D)}(e:S.get x=some (.exc c a)):zch S (.ref x)=some (c,a):=by unfold zch;dsimp only;rw[e]
theorem zq5{n:Nat}{S:R.St}{d:D}{x:Nat}(e:S.get x=some (.exc 1 [("hand",d)]))(h:Th S d):app (callF prog (n+2)) 27 [.ref x,.str "hand",d] S=.ok (.bl true) S:=by
 have c:S.enter.get x=some (.exc 1 [("hand",d)]):=by rw[zaB];exact e
 refine zaT rfl rfl ?_;left;exists zas c;left;exists zas c;left;exists zas c;left;exists zas c;left;exists zas c;left;change by simp
 left;exists zao _ _;left;exists zao _ _;left;exists(show zcN _=some [true,false,false] from rfl);left;exists zas (zak c);left;exists(zgm _ (by decide +kernel) (by decide +kernel)).trans (by rw[show PySem.PyData.eqv (.str "hand") (.str "hand")=true by decide +kernel]);left;exists zas (zak c);left;exists rfl;left;specialize zgE h.enter.push;left;exact zac rfl ⟨rfl,rfl⟩
theorem zsY{n:Nat}{S:R.St}{d:D}{x:Nat}(e:S.get x=some (.exc 2 [("word",d)]))(h:Th S d):app (callF prog (n+2)) 27 [.ref x,.str "word",d] S=.ok (.bl true) S:=by
 have c:S.enter.get x=some (.exc 2 [("word",d)]):=by rw[zaB];exact e
 refine zaT rfl rfl ?_;left;exists zas c;left;exists zas c;left;exists zas c;left;exists zas c;left;exists zas c;left;change by simp
 left;exists zao _ _;left;exists zao _ _;left;exists(show zcN _=some [false,true,false] from rfl);left;exists zas (zak c);left;exists zas (zak c);left;exists(zgm _ (by decide +kernel) (by decide +kernel)).trans (by rw[show PySem.PyData.eqv (.str "word") (.str "word")=true by decide +kernel]);left;exists zas (zak c);left;exists rfl;left;specialize zgE h.enter.push;left;exact zac rfl ⟨rfl,rfl⟩
theorem zsZ{n:Nat}{S:R.St}{d:D}{x:Nat}(e:S.get x=some (.exc 0 [("told",d)]))(h:Th S d):app (callF prog (n+2)) 27 [.ref x,.str "count",d] S=.ok (.bl true) S:=by
 have c:S.enter.get x=some (.exc 0 [("told",d)]):=by rw[zaB];exact e
 refine zaT rfl rfl ?_;left;exists zas c;left;exists zas c;left;exists zas c;left;exists zas c;left;exists zas c;left;change by simp
 left;exists zao _ _;left;exists zao _ _;left;exists(show zcN _=some [false,false,true] from rfl);left;exists zas (zak c);left;exists zas (zak c);left;exists(zgm _ (by decide +kernel) (by decide +kernel)).trans (by rw[show PySem.PyData.eqv (.str "count") (.str "count")=true by decide +kernel]);left;exists zas (zak c);left;exists rfl;left;specialize zgE h.enter.push;left;exact zac rfl ⟨rfl,rfl⟩
theorem zlK{n:Nat}{S:R.St}{c:Int}:W (app (callF prog (n+1)) 23 [.int c] S) fun d T=>(Th T d/\(gt d=true->d=.non\/d=.int 1\/d=.int 2))/\Mv [] S T:=by
 refine zhh rfl rfl ?_;left
 repeat (first|(refine wNeed_of (by first|decide|lia|(done)|(lia)) ?_;conv=>whnf)|(refine zaG rfl ?_;conv=>whnf)|(refine a rfl ?_;conv=>whnf)|(refine zaN (by assumption) ?_;conv=>whnf))
 refine zi8 (fun b=>?_) (fun b=>?_)
 . left
   repeat (first|(refine wNeed_of (by first|decide|lia|(done)|(lia)) ?_;conv=>whnf)|(refine zaG rfl ?_;conv=>whnf)|(refine a rfl ?_;conv=>whnf)|(refine zaN (by assumption) ?_;conv=>whnf))
   refine zqj (P:=fun k=>wOpt (R.atI _ k) _) (by lia) (by lia) ?_ ?_ ?_;exact wOpt_of rfl (zac rfl ⟨⟨.atom (by simp[za6]),fun _=>.inl rfl⟩,.refl _ _⟩);exact wOpt_of rfl (zac rfl ⟨⟨.int,fun _=>.inr (.inl rfl)⟩,.refl _ _⟩);exact wOpt_of rfl (zac rfl ⟨⟨.int,fun _=>.inr (.inr rfl)⟩,.refl _ _⟩)
 . left
   repeat (first|(refine wNeed_of (by first|decide|lia|(simp;done)|(lia)) ?_;conv=>whnf)|(refine zaG rfl ?_;conv=>whnf)|(refine a rfl ?_;conv=>whnf)|(refine zaN (by assumption) ?_;conv=>whnf))
   refine zoa (P:=fun k=>wOpt (R.atI _ k) _) (by lia) (by lia) ?_ ?_ ?_ ?_ ?_ ?_ ?_;exact wOpt_of rfl (zac rfl ⟨⟨.int,fun h=>by cases h⟩,.refl _ _⟩);exact wOpt_of rfl (zac rfl ⟨⟨.int,fun h=>by cases h⟩,.refl _ _⟩);exact wOpt_of rfl (zac rfl ⟨⟨.int,fun h=>by cases h⟩,.refl _ _⟩);exact wOpt_of rfl (zac rfl ⟨⟨.atom (by simp[za6]),fun h=>by cases h⟩,.refl _ _⟩);exact wOpt_of rfl (zac rfl ⟨⟨.atom (by simp[za6]),fun h=>by cases h⟩,.refl _ _⟩);exact wOpt_of rfl (zb3 rfl rfl ⟨⟨.inr (.inr ⟨_,_,rfl,zao _ _⟩),fun h=>by cases h⟩,.push _ _ _⟩);refine wOpt_of rfl (zac rfl ⟨⟨.int,fun h=>?_⟩,.refl _ _⟩);exfalso;simp only[gt,gc]at h;have e:(10:Int)^Int.toNat 30=1000000000000000000000000000000:=by decide +kernel
   have f:(10:Int)^Int.toNat 9=1000000000:=by decide +kernel
   lia
structure Row where
 p:List Int
 to:Int
 w:D
noncomputable def rD(r:Row):D:=.tup [pD r.p,.int r.to,r.w]
noncomputable def leD(t:Int)(r:Row):D:=.tup [.int t,pD r.p,.int r.to,r.w]
noncomputable abbrev Bxl:=List Int×D
noncomputable def bxD(x:Bxl):D:=.tup [pD x.1,x.2]
noncomputable def key(r:Row):K3:=(0,r.p,r.to)
structure Town where
 H:Type
 m:Nat
 who:Nat->Nat
 adr:Nat->List Nat
 ok:R.St->Nat->Nat->H->Prop
 say:Nat->Int->H->List Row
 hear:Nat->Int->H->List Bxl->H
 lt:Bxl->Prop
 tt:Int->Prop
noncomputable def saT:List (Nat×Nat):=[(0,35)]
noncomputable def heT:List (Nat×Nat):=[(0,33)]
noncomputable def Town.said(V:Town)(t:Int):Nat->List V.H->List Row
 |_,[]=>[]|k,h::a=>V.say k t h++V.said t (k+1) a
structure TownOk(V:Town)(q:Nat):Prop where
 dep:∀{S T:R.St}{d j:Nat}{h:V.H},V.ok S d j h->(∀z∈V.adr j,∀o,S.get z=some o->T.get z=some o)->V.ok T d j h
 has:∀{S:R.St}{d j:Nat}{h:V.H},V.ok S d j h->∀z∈V.adr j,∃o,S.get z=some o
 say:∀{S:R.St}{d j:Nat}{h:V.H}(t:Int)(n:Nat),V.tt t->(∀l∈S.lk,l<S.len)->j<V.m->V.ok S d j h->∃c fs f,S.get (V.who j)=some (.ins c fs)/\saT.lookup c=some f/\fs.lookup ("say":PySem.Str)=none/\
  W (appW (callF prog (n+q)) f [.ref (V.who j),.int t] S) fun x T=>∃l,x=.ref l/\S.len<=l/\Mv [] S T/\T.get l=some (.lst ((V.say j t h).map rD))
 slt:∀(j:Nat)(t:Int)(h:V.H),∀r∈V.say j t h,V.lt (r.p,r.w)
 wa:∀j,V.who j∈V.adr j
 flt:∀x,V.lt x->∀N,flat N x.2=true
 hear:∀{S:R.St}{d j b:Nat}{h:V.H}{B:List Bxl}(t:Int)(n:Nat),j<V.m->d<=40->V.ok S d j h->(∀z∈V.adr j,Fr S z)->S.get b=some (.lst (B.map bxD))->b∉V.adr j->B.length<=60->(∀x∈B,V.lt x)->
  ∃c fs f,S.get (V.who j)=some (.ins c fs)/\heT.lookup c=some f/\fs.lookup ("hear":PySem.Str)=none/\
  W (appW (callF prog (n+q)) f [.ref (V.who j),.int t,.ref b] S) fun x T=>x=.non/\Mv (V.adr j) S T/\V.ok T (d+1) j (V.hear j t h B)
 ord:∀(t:Int)(hs:List V.H),hs.length=V.m->((V.said t 0 hs).map key).Pairwise Lt3
 few:∀(t:Int)(hs:List V.H),hs.length=V.m->(V.said t 0 hs).length<=60
theorem Mv.lock{A:List Nat}{S T:R.St}{l:List Nat}(h:Mv A {S with lk:=l} T):Mv A S {T with lk:=S.lk}:=⟨h.frz,rfl,h.len,fun m o a e=>h.old m o a e⟩
theorem zpq{T:R.St}{l:List Nat}(h:T.lk=l):({T with lk:=l}:R.St)=T:=by subst h;rfl
theorem zfN{T:R.St}{l:Nat}{o u:MO}(a:Fr T l)(e:T.get l=some o):∃U,T.put l u=some U/\Mv [l] T U/\U.get l=some u:=by obtain⟨U,b,c,d,i,f,g⟩:=zeT (S:=T) (l:=l) u a.f a.k;exact⟨U,b,⟨c,d,by lia,fun m x h e=>by rw[f m (by simpa using h)];exact e⟩,g (get_lt e)⟩
theorem zcE{cf:CF}{g:List Nat}{l:CL}{b r:CS}{δ:Ev}{S a:R.St}{xs:List D}{i:List Nat}{Q:Fl->R.St->Prop}(h:evL cf l δ S=.ok (xs,i) a)
  (w:W (zaP g (exS cf b) xs δ {a with lk:=i++a.lk}) fun f T=>match f with|.nx c=>W (exS cf r c {T with lk:=a.lk}) Q|.rt d=>Q (.rt d) {T with lk:=a.lk}|.ex d=>Q (.ex d) {T with lk:=a.lk}):W (exS cf (.forS g l b r) δ S) Q:=by
 show W (Out.bind _ _) _;rw[h,zan];unfold za8;rw[zaf,zaf];refine w.mono fun f T e=>?_;cases f with|nx c=>exact e|rt d=>exact e|ex d=>exact e
noncomputable abbrev Es(t:Int)(x:D)(l:Nat)(c d e f g:Option D):Ev:=[some (.int t),some x,some .non,some (.ref l),c,d,e,f,g]
noncomputable def sIn:CS:=.expr (.mt .append J3 #[.tup #[J0,J6,.ite (.cmp .Is J2 (.con D.non)) J7 (.ix (.ix J2 J4) J7),J8]]) .nil
theorem znE{cf:CF}{t:Int}{x:D}{l:Nat}{c d:Option D}:∀(rs:List Row)(a:List D)(T:R.St)(e f g:Option D),T.get l=some (.lst a)->Fr T l->a.length+rs.length<=1000->
  W (zaP [6,7,8] (exS cf sIn) (rs.map rD) (Es t x l c d e f g) T) fun i U=>(∃e f g,i=.nx (Es t x l c d e f g))/\U.get l=some (.lst (a++rs.map (leD t)))/\Mv [l] T U
 | [],a,T,e,f,g,h,b,j=>by show W (Out.ok (Fl.nx _) T) _;exact⟨⟨e,f,g,rfl⟩,by simpa using h,Mv.refl _ _⟩| r::rs,a,T,e,f,g,h,b,j=>by
  simp only[length_cons]at j;show W (Out.bind (exS cf sIn (Es t x l c d (some (pD r.p)) (some (.int r.to)) (some r.w)) T) _) _;rw[zaf];refine wS_W _ ?_;left;exists h;left;change show 4<=16777216 by decide
  left;exists h;left;change by simp;lia
  left;obtain⟨U,m,k,n⟩:=zfN b h;exists m;left;refine(znE rs (a++[leD t r]) U _ _ _ n (b.mv k) (by simp;lia)).mono fun i V o=>?_;obtain⟨p,q,s⟩:=o;exact⟨p,by rw[q,append_assoc];rfl,k.trans s⟩
noncomputable def sayC:CL:=.val (.meth "say" saT J5 #[J0])
theorem zor{V:Town}{q:Nat}(X:TownOk V q){S:R.St}{n d j:Nat}{t:Int}{h:V.H}{x:D}{l:Nat}{c e f g:Option D}(tt:V.tt t)(b:∀l∈S.lk,l<S.len)(i:j<V.m)(o:V.ok S d j h) :
  W (evL (callF prog (n+q)) sayC (Es t x l c (some (.ref (V.who j))) e f g) S) fun r T=>∃a,r=((V.say j t h).map rD,[a])/\S.len<=a/\Mv [] S T:=by
 obtain⟨B,C,k,m,p,s,w⟩:=X.say t n tt b i o;refine wL_W _ ?_;left;exists zaW m;left;exists p;left;change by rw[s];rfl
 left;refine za0 (w.mono fun y T u=>?_);obtain⟨a,rfl,z,v,A⟩:=u;left;exists A;left;exact⟨_,rfl,z,v⟩
noncomputable def sOut:CS:=.forS [6,7,8] sayC sIn .nil
noncomputable def enW(V:Town):Nat->Nat->List D
 |_,0=>[]|k,c+1=>ziE (.int (k:Nat)) (.ref (V.who k))::enW V (k+1) c
noncomputable def whoL(V:Town):Nat->Nat->List D
 |_,0=>[]|k,c+1=>.ref (V.who k)::whoL V (k+1) c
theorem zlI{V:Town}{q:Nat}(X:TownOk V q){S:R.St}{n d j:Nat}{t:Int}{h:V.H}{x:D}{l:Nat}{e f g:Option D}{a:List D}(tt:V.tt t)(p:∀l∈S.lk,l<S.len)(s:j<V.m)(o:V.ok S d j h)(i:S.get l=some (.lst a))(k:Fr S l)(u:a.length+(V.say j t h).length<=1000) :
  W (exS (callF prog (n+q)) sOut (Es t x l (some (.int j)) (some (.ref (V.who j))) e f g) S) fun m U=>(∃e f g,m=.nx (Es t x l (some (.int j)) (some (.ref (V.who j))) e f g))/\U.get l=some (.lst (a++(V.say j t h).map (leD t)))/\Mv [l] S U:=by
 show W (Out.bind _ _) _;rw[zaf];refine(zor X tt p s o).mono fun r T w=>?_;obtain⟨b,rfl,J,v⟩:=w;have y:l≠b:=by have:=get_lt i;lia
 rw[zaf];unfold za8;rw[zaf];have z:({T with lk:=[b]++T.lk}:R.St).get l=some (.lst a):=v.old _ _ (by simp) i;have A:Fr ({T with lk:=[b]++T.lk}:R.St) l:=⟨by rw[v.frz];exact k.f,by
  show(b::T.lk).contains l=false;rw[contains_cons,v.lk,k.k];simpa using y⟩
 refine(znE (V.say j t h) a _ e f g z A u).mono fun m U B=>?_;obtain⟨⟨C,E,G,rfl⟩,H,I⟩:=B;(conv=>lhs;whnf);refine⟨⟨C,E,G,rfl⟩,H,?_⟩;have c:=I.lock;exact(v.up (by simp)).trans c
theorem zfw{V:Town}{q:Nat}(X:TownOk V q){n d:Nat}{t:Int}{x:D}{l:Nat}(tt:V.tt t):∀(hs:List V.H)(k:Nat)(a:List D)(T:R.St)(c e f g z:Option D),(∀l∈T.lk,l<T.len)->k+hs.length<=V.m->
  (∀i h,hs[i]?=some h->V.ok T d (k+i) h/\l∉V.adr (k+i))->T.get l=some (.lst a)->Fr T l->a.length+(V.said t k hs).length<=1000->
  W (zaP [4,5] (exS (callF prog (n+q)) sOut) (enW V k hs.length) (Es t x l c e f g z) T) fun b U=>(∃c d e f g,b=.nx (Es t x l c d e f g))/\U.get l=some (.lst (a++(V.said t k hs).map (leD t)))/\Mv [l] T U
 | [],k,a,T,c,e,f,g,z,_,_,_,m,p,r=>by show W (Out.ok (Fl.nx _) T) _;exact⟨⟨c,e,f,g,z,rfl⟩,by simpa[Town.said]using m,Mv.refl _ _⟩| h::hs,k,a,T,c,e,f,g,z,s,y,u,m,p,r=>by simp only[length_cons]at y;simp only[Town.said,length_append]at r;obtain⟨A,Y⟩:=u 0 h rfl;show W (Out.bind (exS (callF prog (n+q)) sOut (Es t x l (some (.int k)) (some (.ref (V.who k))) f g z) T) _) _;rw[zaf];refine(zlI X tt s (by lia) A m p (by lia)).mono fun b U B=>?_;obtain⟨⟨e',f',g',rfl⟩,C,v⟩:=B;refine(zfw X (d:=d) tt hs (k+1) (a++(V.say k t h).map (leD t)) U _ _ _ _ _ (by rw[v.lk];exact fun x E=>lt_of_lt_of_le (s x E) v.len) (by lia) (fun i G H=>?_) C (p.mv v) (by rw[length_append,length_map];lia)).mono fun b W' I=>?_;obtain⟨J,w⟩:=u (i+1) G (by simpa using H);rw[show k+1+i=k+(i+1) by lia];refine⟨X.dep J fun z L o e=>v.old _ _ ?_ e,w⟩;simp only[mem_singleton];intro M;exact w (M▸L);obtain⟨N,O,Q⟩:=I;exact⟨N,by rw[O,append_assoc,Town.said,map_append],v.trans Q⟩
theorem zkU(V:Town):∀(c k:Nat),(whoL V k c).mapIdx (fun i d=>ziE (.int ((i+k:Nat):Int)) d)=enW V k c
 |0,_=>rfl| c+1,k=>by rw[whoL,List.mapIdx_cons,enW,<-zkU V c (k+1),zero_add];congr 2;funext i d;rw[show i+1+k=i+(k+1) by lia]
theorem zpG(N:Nat)(p:List Int):flat N (pD p)=true:=by rw[zcd,zaX];intro d a;obtain⟨i,_,rfl⟩:=mem_map.mp a;rfl
theorem zgD{V:Town}{q:Nat}(X:TownOk V q)(t:Int):∀(hs:List V.H)(k:Nat),∀r∈V.said t k hs,V.lt (r.p,r.w)
 | [],_,r,a=>by cases a
 |h::hs,k,r,a=>by rcases mem_append.mp a with a|a;exact X.slt k t h r a;exact zgD X t hs (k+1) r a
theorem ziO{V:Town}{q:Nat}(X:TownOk V q)(N:Nat)(t:Int)(hs:List V.H)(k:Nat):flats N ((V.said t k hs).map (leD t))=true:=by rw[zaX];intro d b;obtain⟨r,c,rfl⟩:=mem_map.mp b;have:=X.flt _ (zgD X t hs k r c) N;unfold leD;have a:=zpG N r.p;rw[zcd]at a;simp only[flats,flat,a,Bool.and_true];exact this
theorem zkS{V:Town}{T:R.St}{th:Nat}(a:T.get th=some (.lst (whoL V 0 V.m))):zdV T (.ref th)=some (enW V 0 V.m,[th]):=by unfold zdV;dsimp only;rw[a];rw[<-zkU V V.m 0];rfl
theorem zq2{V:Town}{q:Nat}(X:TownOk V q){S:R.St}{n d:Nat}{t:Int}{th:Nat}{hs:List V.H}(tt:V.tt t)(b:hs.length=V.m)(j:S.get th=some (.lst (whoL V 0 V.m)))(m:∀(i:Nat) h,hs[i]?=some h->V.ok S d i h) :
  app (callF prog (n+q+1)) 11 [.int t,.ref th,.non] S=.ok (.ref S.len) (S.push (.lst ((V.said t 0 hs).map (leD t)))):=by
 refine zpW rfl rfl ?_;show W (Out.bind _ _) _;rw[zaf];have p:evE (callF prog (n+q)) (.lst .nil) (zaq c_said_in [.int t,.ref th,.non]) S.enter=.ok (.ref S.enter.len) (S.enter.push (.lst [])):=by rfl
 have k:∀l o,S.get l=some o->(S.enter.push (.lst [])).get l=some o:=fun l o e=>zak (by rw[zaB];exact e);have s:evL (callF prog (n+q)) (.enum J1) (Es t (.ref th) S.enter.len none none none none none) (S.enter.push (.lst []))=.ok (enW V 0 V.m,[th]) (S.enter.push (.lst [])):=by show Out.bind (lift (S.enter.push (.lst [])) (some (D.ref th))) _=_;rw[zaV,zan,zkS (k _ _ j)];rfl
 refine zcE s ?_;have H:=get_lt j;have u:Fr ({S.enter.push (.lst []) with lk:=[th]++(S.enter.push (.lst [])).lk}:R.St) S.enter.len:=⟨by show(S.frz++S.new).length<=_;exact le_refl _,by
  show([th]:List Nat).contains _=false;simp;lia⟩
 have w:=X.few t hs b;rw[<-b];refine(zfw X (d:=d) tt hs 0 [] {S.enter.push (.lst []) with lk:=[th]++(S.enter.push (.lst [])).lk} none none none none none (fun l x=>by
  have:l=th:=by simpa[St.enter,St.push]using x
  show _<(S.enter.push (.lst [])).len;rw[plen,R.enter_len];lia) (by lia) (fun i h y=>?_) (zao _ _) u (by simp;lia)).mono fun I U A=>?_
 have o:=m i h y;rw[zero_add];refine⟨X.dep o fun z _ B e=>k _ _ e,fun C=>?_⟩;obtain⟨B,e⟩:=X.has o _ C;have:=get_lt e;rw[R.enter_len]at this;lia;obtain⟨⟨c,d,e,f,g,rfl⟩,E,v⟩:=A;refine W.mono (wS_W (.ret J3 .nil) ?_) fun r T z=>z;left;refine zfq (by rw[R.enter_len];exact le_refl _) (show({U with lk:=_}:R.St).get _=_ from E) (by exact ziO X _ _ _ _) ⟨rfl,by rw[List.nil_append]⟩
theorem zew:∀p:List Int,za3 (p.map .int)=some p
 | []=>rfl| i::p=>by have:=zew p;unfold za3 at this⊢;rw[map_cons,mapM_cons,this];rfl
theorem zps(t:Int)(r:Row):ze5 (leD t r)=some (key r):=by show(za3 (r.p.map .int)).map _=_;rw[zew];rfl
theorem zkn(t:Int):∀rs:List Row,(rs.map (leD t)).mapM ze5=some (rs.map key)
 | []=>rfl|r::rs=>by rw[map_cons,mapM_cons,zps,zkn t rs];rfl
theorem zgy{ks:List K3}(h:ks.Pairwise Lt3):ks.Nodup:=h.imp fun {a b} q e=>by subst e;exact zca _ q
theorem zhk:∀{ks:List K3}{ds:List D},ks.Nodup->ks.length=ds.length->(ks.map fun k=>((ks.zip ds).lookup k).getD .non)=ds
 | [],[],_,_=>rfl| k::ks,d::ds,a,b=>by
  rw[nodup_cons]at a;have c:=zhk a.2 (by simpa using b);rw[map_cons,List.zip_cons_cons,lookup_cons,beq_self_eq_true];refine congrArg (d::·) (Eq.trans (List.map_congr_left fun x e=>?_) c);have:(x==k)=false:=by rw[beq_eq_false_iff_ne];intro z;exact a.1 (z▸e)
  rw[lookup_cons,this]
theorem zlu{t:Int}{rs:List Row}(as:(rs.map key).Pairwise Lt3):srtD (rs.map (leD t)) (rs.map key)=rs.map (leD t):=by have a:=zgy as;have e:=zcm (zb4 _) (zbS a) as;unfold srtD;rw[e];exact zhk a (by rw[length_map,length_map])
theorem zkf{T:R.St}{l:Nat}{t:Int}{rs:List Row}(h:T.get l=some (.lst (rs.map (leD t)))):zer T (.ref l)=some (rs.map (leD t),rs.map key):=by unfold zer;dsimp only;rw[h];dsimp only;rw[zkn];rfl
structure Kn(N:Nat)(S T:R.St):Prop where
 frz:T.frz=S.frz
 lk:T.lk=S.lk
 len:S.len<=T.len
 old:∀l o,l<N->S.get l=some o->T.get l=some o
theorem Kn.refl(N:Nat)(S:R.St):Kn N S S:=⟨rfl,rfl,le_refl _,fun _ _ _ h=>h⟩
theorem Kn.trans{N:Nat}{S T U:R.St}(a:Kn N S T)(b:Kn N T U):Kn N S U:=⟨b.frz.trans a.frz,b.lk.trans a.lk,le_trans a.len b.len,fun l o h e=>b.old l o h (a.old l o h e)⟩
theorem Kn.of{N:Nat}{A:List Nat}{S T:R.St}(v:Mv A S T)(h:∀a∈A,N<=a):Kn N S T:=⟨v.frz,v.lk,v.len,fun l o b e=>v.old l o (fun z=>by have:=h l z;lia) e⟩
noncomputable def box(Ls:List Row)(o:Int):List Bxl:=(Ls.filter fun x=>decide (x.to=o)).map fun x=>(x.p,x.w)
theorem zce(Ls:List Row)(x:Row)(o:Int):box (Ls++[x]) o=if x.to=o then box Ls o++[(x.p,x.w)] else box Ls o:=by unfold box;by_cases h:x.to=o<;>simp[h]
theorem zpR(Ls:List Row)(o:Int):(box Ls o).length<=Ls.length:=by unfold box;rw[length_map];exact length_filter_le _ _
theorem zpQ{Ls:List Row}{o:Int}{x:Bxl}(h:x∈box Ls o):∃r∈Ls,x=(r.p,r.w):=by obtain⟨r,a,rfl⟩:=mem_map.mp h;exact⟨r,(List.mem_filter.mp a).1,rfl⟩
structure Bx(N:Nat)(T:R.St)(bx:Nat)(Ls:List Row)(kvs:List (Int×D)):Prop where
 at_:T.get bx=some (.dic kvs)
 fr:Fr T bx
 nw:N<=bx
 no_:∀o,valI kvs o=none->box Ls o=[]
 so_:∀o d,valI kvs o=some d->∃b,d=.ref b/\N<=b/\Fr T b/\T.get b=some (.lst ((box Ls o).map bxD))
 inj:∀o o' b,valI kvs o=some (.ref b)->valI kvs o'=some (.ref b)->o=o'
 len:kvs.length<=Ls.length
theorem zeH(kvs:List (Int×D))(k j:Int)(v:D):valI (putI kvs k v) j=if j=k then some v else valI kvs j:=by
 induction kvs with
 |nil=>by_cases c:j=k;subst c;simp[putI,valI];have b:¬k=j:=fun z=>c z.symm;simp[putI,valI,c,b]| cons a r f=>
  obtain⟨i,d⟩:=a;unfold putI;by_cases e:i=k;subst e;by_cases c:j=i;subst c;simp[valI];have b:¬i=j:=fun z=>c z.symm;simp[valI,c,b];rw[if_neg e];by_cases c:i=j;subst c;simp[valI,e];have g:valI ((i,d)::putI r k v) j=valI (putI r k v) j:=by simp[valI,c]
  have h:valI ((i,d)::r) j=valI r j:=by simp[valI,c]
  rw[g,h,f]
theorem zlY(kvs:List (Int×D))(k:Int)(v:D):(putI kvs k v).length<=kvs.length+1:=by induction kvs with|nil=>simp[putI]| cons a r b=>unfold putI;split;simp;simp;omega
noncomputable abbrev Ed(t:Int)(x y:D)(d:Nat)(a b c:Option D):Ev:=[some (.int t),some x,some y,some (.ref d),a,b,c]
noncomputable def dIn:CS:=.expr (.mt .append (.dsetI J3 (.ix J4 Y2) (.lst .nil)) #[.tup #[.ix J4 Y1,.ix J4 Y3]]) .nil
theorem zky{T:R.St}{l:Nat}{kvs:List (Int×D)}(h:T.get l=some (.dic kvs)):isDi T (.ref l)=true:=by unfold isDi;dsimp only;rw[h]
theorem zfi{T:R.St}{l:Nat}{kvs:List (Int×D)}{o:Int}(h:T.get l=some (.dic kvs)):zfj T (.ref l) (.int o)=some (valI kvs o):=by unfold zfj;dsimp only;rw[h];rfl
theorem zm1{cf:CF}{N:Nat}{T:R.St}{k:Nat}{Ls:List Row}{kvs:List (Int×D)}{x:Row}{t tt:Int}{u y:D}{b c:Option D}(B:Bx N T k Ls kvs)(hN:N<=T.len)(hl:Ls.length<=500)(O:T.lk.contains T.len=false) :
  W (exS cf dIn (Ed t u y k (some (leD tt x)) b c) T) fun f U=>f=.nx (Ed t u y k (some (leD tt x)) b c)/\(∃E,Bx N U k (Ls++[x]) E)/\Kn N T U:=by
 obtain⟨p,o,w⟩:=x;refine wS_W _ ?_;left;change zky B.at_;left;exists show R.atI [D.int tt,pD p,.int o,w] 2=some (.int o) from rfl;left;change show 0<=16777216 by decide
 left;have lb:=get_lt B.at_;have hbl:(box Ls o).length<=Ls.length:=by unfold box;rw[length_map];exact length_filter_le _ _
 have G:=zak (o:=.lst []) B.at_;have hlen:=B.len;cases hv:valI kvs o with
 |none=>
  have fT:Fr (T.push (.lst [])) k:=⟨B.fr.f,B.fr.k⟩;obtain⟨U,hU,C,gU⟩:=zfN fT G;have Q:zej (T.push (.lst [])) (.ref k) (.int o) (.ref T.len)=some (.ref T.len,U):=by unfold zej;rw[zfi G,hv];unfold dPut;dsimp only;rw[G];dsimp only[zc0,bind_some];rw[if_pos (by lia),hU];rfl
  exists Q;left;have nb:T.len≠k:=by lia
  have v:=C.old _ _ (by simpa using nb) (zao T (.lst []));have fL:Fr U T.len:=⟨by rw[C.frz];show T.frz.length<=T.len;unfold St.len;lia,by rw[C.lk];exact O⟩;exists v;left;exists show R.atI [D.int tt,pD p,.int o,w] 1=some (pD p) from rfl;left;exists show R.atI [D.int tt,pD p,.int o,w] 3=some w from rfl;left;change show 2<=16777216 by decide
  left;exists v;left;change show 1<=16777216 by decide
  left;obtain⟨V,Y,m,gV⟩:=zfN fL v;exists Y;left;have s:=Mv.push [] T (.lst []);refine⟨rfl,⟨putI kvs o (.ref T.len),?_⟩,?_⟩;have H:∀l q,l≠k->l≠T.len->T.get l=some q->V.get l=some q:=fun l q A j e=>m.old _ _ (by simpa using j) (C.old _ _ (by simpa using A) (s.old _ _ (by simp) e));have i:∀l,Fr T l->Fr V l:=fun l h=>((h.mv s).mv C).mv m;refine⟨m.old _ _ (by simpa using nb.symm) gU,i _ B.fr,B.nw,fun r g=>?_,fun r d g=>?_,fun o1 o2 b A j=>?_,?_⟩;rw[zeH]at g;split at g;cases g;rename_i ne;rw[zce,if_neg (fun z=>ne z.symm)];exact B.no_ r g;rw[zeH]at g;split at g;rename_i I;cases g;subst I;refine⟨T.len,rfl,hN,fL.mv m,?_⟩;rw[zce,if_pos rfl,B.no_ _ hv];exact gV;rename_i ne;obtain⟨b,rfl,j,h3,n⟩:=B.so_ r d g;refine⟨b,rfl,j,i _ h3,?_⟩;rw[zce,if_neg (fun z=>ne z.symm)];refine H _ _ (fun z=>?_) (by have:=get_lt n;lia) n;rw[z,B.at_]at n;cases n
  . rw[zeH]at A j;split at A<;>split at j
    rename_i a1 a2;rw[a1,a2];cases A;obtain⟨b,e1,_,_,n⟩:=B.so_ o2 _ j;cases e1;have:=get_lt n;lia;cases j;obtain⟨b,e1,_,_,n⟩:=B.so_ o1 _ A;cases e1;have:=get_lt n;lia;exact B.inj o1 o2 b A j
  have:=zlY kvs o (.ref T.len);rw[length_append];simp only[length_cons];lia;refine(Kn.of s (by simp)).trans ((Kn.of C ?_).trans (Kn.of m ?_));intro a J;rw[mem_singleton.mp J];exact B.nw;intro a J;rw[mem_singleton.mp J];exact hN
 |some d=>
  obtain⟨L,rfl,M,fb,gb⟩:=B.so_ o d hv;have s:=Mv.push [] T (.lst []);have Q:zej (T.push (.lst [])) (.ref k) (.int o) (.ref T.len)=some (.ref L,T.push (.lst [])):=by unfold zej;rw[zfi G,hv]
  exists Q;left;have v:(T.push (.lst [])).get L=some (.lst ((box Ls o).map bxD)):=zak gb;exists v;left;exists show R.atI [D.int tt,pD p,.int o,w] 1=some (pD p) from rfl;left;exists show R.atI [D.int tt,pD p,.int o,w] 3=some w from rfl;left;change show 2<=16777216 by decide
  left;exists v;left;change by rw[length_append,length_map];simp only[length_cons,length_nil];lia
  obtain⟨V,Y,m,gV⟩:=zfN (fb.mv s) v;exists Y;left;have i:∀l,Fr T l->Fr V l:=fun l h=>(h.mv s).mv m;have nbx:k≠L:=fun z=>by rw[<-z,B.at_]at gb;cases gb
  refine⟨rfl,⟨kvs,?_⟩,(Kn.of s (by simp)).trans (Kn.of m (by intro a J;rw[mem_singleton.mp J];exact M))⟩;refine⟨m.old _ _ (by simpa using nbx) G,i _ B.fr,B.nw,fun r g=>?_,fun r d g=>?_,B.inj,by rw[length_append];lia⟩;rw[zce,if_neg (fun z=>by rw[<-z]at g;rw[hv]at g;cases g)];exact B.no_ r g;by_cases I:o=r;subst I;rw[hv]at g;cases g;refine⟨L,rfl,M,i _ fb,?_⟩;rw[zce,if_pos rfl,map_append];exact gV;obtain⟨b,rfl,j,h3,n⟩:=B.so_ r d g;refine⟨b,rfl,j,i _ h3,?_⟩;rw[zce,if_neg (fun z=>I z)];refine m.old _ _ (fun z=>?_) (s.old _ _ (by simp) n);have z:b=L:=by simpa using z
  subst z;exact I (B.inj o r b hv g)
theorem zif{cf:CF}{N:Nat}{e:Nat}{t tt:Int}{u y:D}{b c:Option D}:∀(rest Ls:List Row)(kvs:List (Int×D))(T:R.St)(a:Option D),Bx N T e Ls kvs->N<=T.len->(∀l∈T.lk,l<N)->Ls.length+rest.length<=500->
  W (zaP [4] (exS cf dIn) (rest.map (leD tt)) (Ed t u y e a b c) T) fun f U=>(∃a,f=.nx (Ed t u y e a b c))/\(∃d,Bx N U e (Ls++rest) d)/\Kn N T U
 | [],Ls,kvs,T,a,B,_,_,_=>by show W (Out.ok (Fl.nx _) T) _;exact⟨⟨a,rfl⟩,⟨kvs,by rw[append_nil];exact B⟩,Kn.refl _ _⟩| x::rest,Ls,kvs,T,a,B,h,i,k=>by simp only[length_cons]at k;show W (Out.bind (exS cf dIn (Ed t u y e (some (leD tt x)) b c) T) _) _;rw[zaf];refine(zm1 B h (by lia) (zcb i h)).mono fun f U m=>?_;obtain⟨rfl,⟨d,n⟩,v⟩:=m;refine(zif rest (Ls++[x]) d U _ n (le_trans h v.len) (by rw[v.lk];exact i) (by simp;lia)).mono fun f V o=>?_;obtain⟨p,⟨g,j⟩,q⟩:=o;exact⟨p,⟨g,by rw[append_assoc]at j;exact j⟩,v.trans q⟩
noncomputable def zk3:CS:=.expr (.meth "hear" heT J6 #[J0,.dgetI J3 J5 (.lst .nil)]) .nil
structure Pk(V:Town)(S:R.St)(d j:Nat)(h:V.H):Prop where
 ok:V.ok S d j h
 fr:∀z∈V.adr j,Fr S z
theorem zmF{V:Town}{q:Nat}(X:TownOk V q){S:R.St}{N n i d j:Nat}{t:Int}{h:V.H}{Ls:List Row}{kvs:List (Int×D)}{x y:D}{a:Option D}(s:j<V.m)(hd:d<=40)(o:Pk V S d j h)(ad:∀z∈V.adr j,z<N)(B:Bx N S i Ls kvs)(A:N<=S.len)(hl:Ls.length<=60)(C:∀r∈Ls,V.lt (r.p,r.w)) :
  W (exS (callF prog (n+q)) zk3 (Ed t x y i a (some (.int j)) (some (.ref (V.who j)))) S) fun f U=>f=.nx (Ed t x y i a (some (.int j)) (some (.ref (V.who j))))/\Mv (V.adr j) S U/\Pk V U (d+1) j (V.hear j t h (box Ls j)):=by
 have l:=Mv.push [] S (.lst []);have E:∃g,(valI kvs j).getD (.ref S.len)=.ref g/\(S.push (.lst [])).get g=some (.lst ((box Ls j).map bxD))/\N<=g:=by cases hv:valI kvs j with|none=>exact⟨S.len,rfl,by rw[B.no_ _ hv];exact zao _ _,A⟩| some d=>obtain⟨b,rfl,G,_,H⟩:=B.so_ _ _ hv;exact⟨b,rfl,zak H,G⟩
 obtain⟨g,I,J,nq⟩:=E;have L:=zak (o:=.lst []) B.at_;have M:V.ok (S.push (.lst [])) d j h:=X.dep o.ok fun z _ o e=>zak e;have bl:=zpR Ls j;obtain⟨c,fs,k,O,Q,Y,w⟩:=X.hear t n s hd M (fun z hz=>(o.fr z hz).mv l) J (fun hm=>by have:=ad _ hm;lia) (by lia) (fun x hx=>by obtain⟨r,hr,rfl⟩:=zpQ hx;exact C r hr);obtain⟨o0,m⟩:=X.has o.ok _ (X.wa j);have p:=zak (o:=.lst []) m;rw[O]at p;cases p;refine wS_W _ ?_;left;exists zaW m;left;exists Q;left;change by rw[Y];rfl
 left;change zky B.at_;left;change show 0<=16777216 by decide
 left;exists zfi L;rw[I];left;refine za0 (w.mono fun u T hT=>?_);obtain⟨_,v,z⟩:=hT;left;exact⟨rfl,(l.up (by simp)).trans v,z,fun y hy=>((o.fr y hy).mv l).mv v⟩
theorem Bx.mv{N:Nat}{T U:R.St}{a:Nat}{Ls:List Row}{kvs:List (Int×D)}{A:List Nat}(B:Bx N T a Ls kvs)(v:Mv A T U)(h:∀x∈A,x<N):Bx N U a Ls kvs:=⟨v.old _ _ (fun z=>by have:=h _ z;have:=B.nw;lia) B.at_,B.fr.mv v,B.nw,B.no_,fun o d e=>let ⟨b,c,f,g,i⟩:=B.so_ o d e;⟨b,c,f,g.mv v,v.old _ _ (fun z=>by have:=h _ z;lia) i⟩,B.inj,B.len⟩
noncomputable def adrF(V:Town):Nat->Nat->List Nat
 |_,0=>[]|k,c+1=>V.adr k++adrF V (k+1) c
theorem ze1(V:Town){z:Nat}:∀(c k:Nat),z∈adrF V k c->∃i,k<=i/\i<k+c/\z∈V.adr i
 |0,_,h=>by cases h
 |c+1,k,h=>by rcases mem_append.mp h with h|h;exact⟨k,le_refl _,by lia,h⟩;obtain⟨i,b,d,a⟩:=ze1 V c (k+1) h;exact⟨i,by lia,by lia,a⟩
noncomputable def Dj(V:Town):Prop:=∀i j,i<V.m->j<V.m->i≠j->∀z∈V.adr i,z∉V.adr j
noncomputable def zck(V:Town)(t:Int)(Ls:List Row):Nat->List V.H->List V.H
 |_,[]=>[]|k,h::a=>V.hear k t h (box Ls (k:Nat))::zck V t Ls (k+1) a
theorem Pk.away{V:Town}{q:Nat}(X:TownOk V q){S T:R.St}{d j:Nat}{h:V.H}{A:List Nat}(o:Pk V S d j h)(v:Mv A S T)(n:∀z∈V.adr j,z∉A):Pk V T d j h:=⟨X.dep o.ok fun z a o e=>v.old _ _ (n z a) e,fun z a=>(o.fr z a).mv v⟩
theorem zgb{V:Town}{q:Nat}(X:TownOk V q){N n m d:Nat}{t:Int}{Ls:List Row}{kvs:List (Int×D)}{x y:D}{a:Option D}(hd:d<=40)(o:Dj V)(s:Ls.length<=60)(u:∀r∈Ls,V.lt (r.p,r.w))(ad:∀i,i<V.m->∀z∈V.adr i,z<N):∀(hs:List V.H)(k:Nat)(T:R.St)(b c:Option D),k+hs.length<=V.m->Bx N T m Ls kvs->N<=T.len->
  (∀i h,hs[i]?=some h->Pk V T d (k+i) h)->
  W (zaP [5,6] (exS (callF prog (n+q)) zk3) (enW V k hs.length) (Ed t x y m a b c) T) fun f U=>(∃b c,f=.nx (Ed t x y m a b c))/\Mv (adrF V k hs.length) T U/\∀i h,(zck V t Ls k hs)[i]?=some h->Pk V U (d+1) (k+i) h
 | [],k,T,b,c,_,_,_,_=>by show W (Out.ok (Fl.nx _) T) _;exact⟨⟨b,c,rfl⟩,Mv.refl _ _,fun i h e=>by simp[zck]at e⟩| h::hs,k,T,b,c,H,B,A,C=>by
  simp only[length_cons]at H;have I:=C 0 h rfl;have l:k<V.m:=by lia
  show W (Out.bind (exS (callF prog (n+q)) zk3 (Ed t x y m a (some (.int k)) (some (.ref (V.who k)))) T) _) _;rw[zaf];refine(zmF X l hd I (ad k l) B A s u).mono fun f U J=>?_;obtain⟨rfl,v,L⟩:=J;refine(zgb X hd o s u ad hs (k+1) U _ _ (by lia) (B.mv v (ad k l)) (le_trans A v.len) (fun i g E=>?_)).mono fun f W' M=>?_;have O:=C (i+1) g (by simpa using E);have il:=(List.getElem?_eq_some_iff.mp E).1;rw[show k+1+i=k+(i+1) by lia];exact O.away X v fun z j p=>o (k+(i+1)) k (by lia) l (by lia) z j p;obtain⟨Q,w,Y⟩:=M;refine⟨Q,(v.up (fun z j=>mem_append_left _ j)).trans (w.up (fun z j=>mem_append_right _ j)),fun i g G=>?_⟩;cases i with| zero=>cases G;refine L.away X w fun z j p=>?_;obtain⟨i,a1,a2,a3⟩:=ze1 V _ _ p;exact o k i l (by lia) (by lia) z j a3| succ i=>have:=Y i g (by simpa[zck]using G);rw[show k+1+i=k+(i+1) by lia]at this;exact this
theorem zrJ{L:List Nat}{N b:Nat}(h:∀l∈L,l<N)(a:N<=b):L.contains b=false:=by rw[Bool.eq_false_iff];intro z;have:=h _ (List.contains_iff_mem.mp z);lia
theorem Bx.relk{N:Nat}{T:R.St}{a:Nat}{Ls:List Row}{kvs:List (Int×D)}{L:List Nat}(B:Bx N T a Ls kvs)(h:∀l∈L,l<N):Bx N ({T with lk:=L}:R.St) a Ls kvs:=⟨B.at_,⟨B.fr.f,zrJ h B.nw⟩,B.nw,B.no_,fun o d e=>let ⟨b,f,c,g,i⟩:=B.so_ o d e;⟨b,f,c,⟨g.f,zrJ h c⟩,i⟩,B.inj,B.len⟩
theorem zjv{V:Town}{q:Nat}(X:TownOk V q){S:R.St}{n d:Nat}{t tt:Int}{th sd:Nat}{hs:List V.H}{Ls:List Row}(hh:hs.length=V.m)(hd:d<=40)(dj:Dj V)(hl:Ls.length<=60)(lt:∀r∈Ls,V.lt (r.p,r.w))(hg:S.get th=some (.lst (whoL V 0 V.m)))(hsd:S.get sd=some (.lst (Ls.map (leD tt))))(hk:∀l∈S.lk,l<S.len)
  (h1:∀(i:Nat) h,hs[i]?=some h->Pk V S d i h) (nt:∀i,i<V.m->th∉V.adr i) :
  W (appW (callF prog (n+q+1)) 12 [.int t,.ref th,.ref sd] S) fun x U=>x=.non/\U.frz=S.frz/\U.lk=S.lk/\S.len<=U.len/\(∀l o,l∉adrF V 0 V.m->S.get l=some o->U.get l=some o)/\∀(i:Nat) h,(zck V t Ls 0 hs)[i]?=some h->Pk V U (d+1) i h:=by
 refine zcl rfl rfl ?_;show W (Out.bind _ _) _;rw[zaf];have e0:evE (callF prog (n+q)) .dnew (zaq c_deliver [.int t,.ref th,.ref sd]) S=.ok (.ref S.len) (S.push (.dic [])):=rfl;have up:∀l o,S.get l=some o->(S.push (.dic [])).get l=some o:=fun l o e=>zak e;have e1:evL (callF prog (n+q)) (.val J2) (Ed t (.ref th) (.ref sd) S.len none none none) (S.push (.dic []))=.ok (Ls.map (leD tt),[sd]) (S.push (.dic [])):=by show Out.bind (lift (S.push (.dic [])) (some (D.ref sd))) _=_;rw[zaV,zan];unfold zbC;dsimp only;rw[up _ _ hsd];rfl
 refine zcE e1 ?_;have lsd:=get_lt hsd;have lth:=get_lt hg;have fr0:S.frz.length<=S.len:=by unfold St.len;lia
 have ad:∀i,i<V.m->∀z∈V.adr i,z<S.len:=fun i hi z hz=>by obtain⟨o,e⟩:=X.has (h1 i hs[i] (by simp[hi])).ok z hz;exact get_lt e
 have B0:Bx S.len ({S.push (.dic []) with lk:=[sd]++(S.push (.dic [])).lk}:R.St) S.len [] []:=by refine⟨zao _ _,⟨fr0,?_⟩,le_refl _,fun o _=>rfl,(fun o d e=>by cases e),(fun o o' b e=>by cases e),le_refl _⟩;show(sd::S.lk).contains S.len=false;rw[contains_cons,zcb hk (le_refl _)];lia
 refine(zif Ls [] [] _ none B0 (by show S.len<=(S.push (.dic [])).len;rw[plen];lia) (by
  intro l hl;rcases mem_cons.mp (show l∈sd::S.lk from hl) with rfl|hl;exact lsd;exact hk l hl) (by simp;lia)).mono fun f T hT=>?_
 obtain⟨⟨a,rfl⟩,⟨kvs,B⟩,kn⟩:=hT;have old:∀l o,S.get l=some o->({T with lk:=S.lk}:R.St).get l=some o:=fun l o e=>kn.old l o (get_lt e) (up l o e);have el:evL (callF prog (n+q)) (.enum J1) (Ed t (.ref th) (.ref sd) S.len a none none) {T with lk:=S.lk}=.ok (enW V 0 V.m,[th]) {T with lk:=S.lk}:=by show Out.bind (lift ({T with lk:=S.lk}:R.St) (some (D.ref th))) _=_;rw[zaV,zan,zkS (old _ _ hg)];rfl
 refine zcE el ?_;have hk2:∀l∈th::S.lk,l<S.len:=fun l hl=>by rcases mem_cons.mp hl with rfl|hl;exact lth;exact hk l hl
 have lenT:S.len<=T.len:=by have:=kn.len;have e:S.len+1<=T.len:=(by rw[<-plen S (.dic [])];exact this);lia
 rw[<-hh];refine(zgb X hd dj hl lt ad hs 0 ({T with lk:=th::S.lk}:R.St) none none (by lia) (B.relk hk2) lenT (fun i h e2=>?_)).mono fun f U hU=>?_;have o:=h1 i h e2;have il:=(List.getElem?_eq_some_iff.mp e2).1;rw[zero_add];refine⟨X.dep o.ok fun z _ o' e=>old _ _ e,fun z hz=>⟨by rw[show T.frz=S.frz from kn.frz];exact(o.fr z hz).f,?_⟩⟩;rw[contains_cons,(o.fr z hz).k];have:z≠th:=fun e=>nt i (by lia) (e▸hz);simpa using this;obtain⟨⟨b,c,rfl⟩,v,hP⟩:=hU;dsimp only;(conv=>lhs;whnf);rw[W_ok];refine⟨rfl,v.frz.trans kn.frz,rfl,le_trans lenT v.len,fun l o hl e=>v.old l o (by first|exact hl|(exact hl)) (old l o e),fun i h e=>?_⟩;have z:=hP i h e;rw[zero_add]at z;have il:=(List.getElem?_eq_some_iff.mp e).1;have il2:i<hs.length:=by
  have:∀(hs:List V.H)(k:Nat),(zck V t Ls k hs).length=hs.length:=fun hs=>by induction hs with|nil=>intro k;rfl|cons a r ih=>intro k;simp[zck,ih]
  rw[this]at il;exact il
 exact⟨X.dep z.ok fun _ _ _ e=>e,fun y hy=>⟨(z.fr y hy).f,by
  have:=(h1 i hs[i] (by simp[il2])).fr y hy;exact this.k⟩⟩
noncomputable def rB:CS:=.asg 5 (.srtK (.call 11 0 #[J4,J0,J2])) (.expr (.callW 12 0 #[J4,J0,J5]) (.expr (.extv J3 J5) .nil))
theorem zsw{P:List Fn}{F:Fn}{f n:Nat}{ds:List D}{S:R.St}{Q:D->R.St->Prop}(h:P[f]?=some F)(a:ds.length=F.np)(b:3<=n)(w:W (exS (callF P n) F.body (zaq F ds) S) fun r T=>match r with|.nx _=>Q .non T|.rt d=>Q d T|.ex _=>False)(c:F.prim=some .lam:=by rfl):W (appW (callF P (n+1)) f ds S) Q:=by unfold appW;simp only[callF,h,a,c,b,if_true,zaf,W_ne];refine w.mono fun r T q=>?_;cases r<;>exact q
noncomputable def rnd(V:Town)(t:Int)(hs:List V.H):List V.H:=zck V t (V.said t 0 hs) 0 hs
theorem zc1(V:Town)(t:Int)(Ls:List Row):∀(hs:List V.H)(k:Nat),(zck V t Ls k hs).length=hs.length
 | [],_=>rfl|_::hs,k=>by rw[zck,length_cons,length_cons,zc1 V t Ls hs (k+1)]
structure Tn(V:Town)(T:R.St)(d th lt:Nat)(hs:List V.H)(acc:List D):Prop where
 lh:hs.length=V.m
 hg:T.get th=some (.lst (whoL V 0 V.m))
 p1:∀(i:Nat) h,hs[i]?=some h->Pk V T d i h
 nt:∀i,i<V.m->th∉V.adr i
 nl:∀i,i<V.m->lt∉V.adr i
 ne:th≠lt
 hk:∀l∈T.lk,l<T.len
 gl:T.get lt=some (.lst acc)
 fl:Fr T lt
noncomputable abbrev Er(th:Nat)(rr:Int)(c:Nat)(a b:Option D):Ev:=[some (.ref th),some (.int rr),some .non,some (.ref c),a,b]
theorem zlN{V:Town}{q:Nat}(X:TownOk V q){T:R.St}{n d:Nat}{t rr:Int}{th k:Nat}{hs:List V.H}{a:List D}{b:Option D}(tt:V.tt t)(Y:Tn V T d th k hs a)(dj:Dj V)(hd:d<=40)(ha:a.length<=10000) :
  W (exS (callF prog (n+q+2)) rB (Er th rr k (some (.int t)) b) T) fun f U=>(∃b,f=.nx (Er th rr k (some (.int t)) b))/\Tn V U (d+1) th k (rnd V t hs) (a++(V.said t 0 hs).map (leD t))/\U.lk=T.lk/\U.frz=T.frz/\T.len<=U.len/\∀l o,l≠k->(∀i,i<V.m->l∉V.adr i)->T.get l=some o->U.get l=some o:=by
 have J:=X.few t hs Y.lh;have as:=X.ord t hs Y.lh;have v:=zq2 X (n:=n+1) tt Y.lh Y.hg (fun i h e=>(Y.p1 i h e).ok);rw[show n+1+q+1=n+q+2 by lia]at v;have nd:=zgy as;generalize w:V.said t 0 hs=c at *;refine wS_W _ ?_;left;specialize v;left;exists zkf (zao _ _);left;change⟨by rw[length_map];lia,nd⟩;rw[show srtD (c.map (leD t),c.map key).1 (c.map (leD t),c.map key).2=c.map (leD t) from zlu as];left;change by rw[length_map];lia
 left;generalize y:(T.push (.lst (c.map (leD t)))).push (.lst (c.map (leD t)))=L;have j:Mv [] T L:=by rw[<-y];exact(Mv.push [] _ _).trans (Mv.push [] _ _)
 have A:L.get (T.push (.lst (c.map (leD t)))).len=some (.lst (c.map (leD t))):=by rw[<-y];exact zao _ _
 generalize B:(T.push (.lst (c.map (leD t)))).len=C at *;have lsd:T.len<=C:=by rw[<-B,plen];lia
 have dl:=zjv X (n:=n+1) (t:=t) Y.lh hd dj J (by rw[<-w];exact zgD X t hs 0) (j.old _ _ (by simp) Y.hg) A (by rw[j.lk];exact fun l E=>lt_of_lt_of_le (Y.hk l E) j.len) (fun i h e=>(Y.p1 i h e).away X j (by simp)) Y.nt;rw[show n+1+q+1=n+q+2 by lia]at dl;refine za0 (dl.mono fun x U hU=>?_);obtain⟨_,uf,M,ul,I,up⟩:=hU;have m:∀l,(∀i,i<V.m->l∉V.adr i)->l∉adrF V 0 V.m:=fun l E G=>by obtain⟨i,_,h2,h3⟩:=ze1 V _ _ G;exact E i (by lia) h3
 have p:∀i,i<V.m->∀z∈V.adr i,z<T.len:=fun i N z O=>by
  have Q:i<hs.length:=by rw[Y.lh];exact N
  obtain⟨o,e⟩:=X.has (Y.p1 i hs[i] (by simp[Q])).ok z O;exact get_lt e
 have s:=I _ _ (m k Y.nl) (j.old _ _ (by simp) Y.gl);have gs3:=I _ _ (m C fun i N G=>by have:=p i N C G;lia) A;have H:Fr U k:=⟨by rw[uf,j.frz];exact Y.fl.f,by rw[M,j.lk];exact Y.fl.k⟩;left;exists s;left;exists show lsts U (.ref k) (.ref C)=some (k,a,c.map (leD t)) by unfold lsts;dsimp only;rw[s,gs3]
 left;change show(a++c.map (leD t)).length<=16777216 by rw[length_append,length_map];lia
 obtain⟨U2,hV,r,gV⟩:=zfN H s;exists hV;left;refine⟨⟨_,rfl⟩,⟨by unfold rnd;rw[zc1];exact Y.lh,r.old _ _ (by simpa using Y.ne) (I _ _ (m th Y.nt) (j.old _ _ (by simp) Y.hg)),fun i g e=>?_,Y.nt,Y.nl,Y.ne,?_,gV,H.mv r⟩,by rw[r.lk,M,j.lk],by rw[r.frz,uf,j.frz],le_trans j.len (le_trans ul r.len),fun l o h1 h2 e=>r.old _ _ (by simpa using h1) (I _ _ (m l h2) (j.old _ _ (by simp) e))⟩;have il:=(List.getElem?_eq_some_iff.mp e).1;unfold rnd at e il;rw[zc1,Y.lh]at il;rw[w]at e;exact(up i g e).away X r fun z O G=>Y.nl i il (by rw[<-mem_singleton.mp G];exact O);rw[r.lk,M,j.lk];exact fun l E=>lt_of_lt_of_le (Y.hk l E) (le_trans j.len (le_trans ul r.len))
noncomputable def rnds(V:Town):Nat->Nat->List V.H->List V.H
 |_,0,a=>a|t,c+1,a=>rnds V (t+1) c (rnd V t a)
noncomputable def lets(V:Town):Nat->Nat->List V.H->List D
 |_,0,_=>[]|t,c+1,a=>(V.said t 0 a).map (leD t)++lets V (t+1) c (rnd V t a)
noncomputable def zjf:Nat->Nat->List D
 |_,0=>[]|t,c+1=>.int (t:Nat)::zjf (t+1) c
theorem zhw{V:Town}{q:Nat}(X:TownOk V q){n:Nat}{rr:Int}{th h:Nat}(j:Dj V):∀(c t:Nat)(hs:List V.H)(g:List D)(T:R.St)(a b:Option D)(d:Nat),(∀i:Nat,t<=i->i<t+c->V.tt (i:Nat))->Tn V T d th h hs g->d+c<=40->g.length+60*c<=10000->
  W (zaP [4] (exS (callF prog (n+q+2)) rB) (zjf t c) (Er th rr h a b) T) fun f U=>(∃a b,f=.nx (Er th rr h a b))/\Tn V U (d+c) th h (rnds V t c hs) (g++lets V t c hs)/\U.lk=T.lk/\U.frz=T.frz/\T.len<=U.len/\∀l o,l≠h->(∀i,i<V.m->l∉V.adr i)->T.get l=some o->U.get l=some o
 |0,t,hs,g,T,a,b,d,_,Y,_,_=>by show W (Out.ok (Fl.nx _) T) _;exact⟨⟨a,b,rfl⟩,by rw[lets,append_nil];exact Y,rfl,rfl,le_refl _,fun l o _ _ e=>e⟩| c+1,t,hs,g,T,a,b,d,tt,Y,E,G=>by show W (Out.bind (exS (callF prog (n+q+2)) rB (Er th rr h (some (.int (t:Nat))) b) T) _) _;rw[zaf];have H:=X.few (t:Int) hs Y.lh;refine(zlN X (tt t (le_refl _) (by lia)) Y j (by lia) (by lia)).mono fun f U s=>?_;obtain⟨⟨I,rfl⟩,Z,k,m,u,v⟩:=s;refine(zhw X j c (t+1) (rnd V t hs) (g++(V.said t 0 hs).map (leD t)) U _ _ (d+1) (fun i k m=>tt i (by lia) (by lia)) Z (by lia) (by rw[length_append,length_map];lia)).mono fun f J w=>?_;obtain⟨x,y,z,A,B,C⟩:=w;refine⟨x,?_,z.trans k,A.trans m,le_trans u B,fun l o p r e=>C l o p r (v l o p r e)⟩;rw[lets,<-append_assoc,show d+(c+1)=d+1+c by lia];exact y
theorem zft:∀(c t:Nat),(List.range c).map (fun(k:Nat)=>D.int ((t:Int)+k))=zjf t c
 |0,_=>rfl| c+1,t=>by rw[List.range_succ_eq_map,map_cons,zjf,<-zft c (t+1)];congr 1;simp;intro a _;lia
theorem zsX{V:Town}{q:Nat}(X:TownOk V q){S:R.St}{n c:Nat}{z:Int}{th:Nat}{hs:List V.H}(tt:∀i:Nat,1<=i->i<1+c->V.tt (i:Nat))(dj:Dj V)(lh:hs.length=V.m)(hg:S.get th=some (.lst (whoL V 0 V.m)))(p1:∀(i:Nat) h,hs[i]?=some h->Pk V S 0 i h)(nt:∀i,i<V.m->th∉V.adr i)(hk:∀l∈S.lk,l<S.len)(hc:c<=40)(hz:z=(c:Nat))(h1q:1<=q) :
  W (appW (callF prog (n+q+3)) 10 [.ref th,.int z,.non] S) fun x U=>x=.ref S.len/\Tn V U c th S.len (rnds V 1 c hs) (lets V 1 c hs)/\U.lk=S.lk/\U.frz=S.frz/\S.len<U.len/\∀l o,(∀i,i<V.m->l∉V.adr i)->S.get l=some o->U.get l=some o:=by
 refine zsw rfl rfl (by lia) ?_;show W (Out.bind _ _) _;rw[zaf];have e0:evE (callF prog (n+q+2)) (.lst .nil) (zaq c_run [.ref th,.int z,.non]) S=.ok (.ref S.len) (S.push (.lst [])):=rfl;show W (exS (callF prog (n+q+2)) (.forS [4] (.rng2 Y1 (.bin .Add J1 Y1)) rB (.ret J3 .nil)) (Er th z S.len none none) (S.push (.lst []))) _;have mP:=Mv.push [] S (.lst []);have el:evL (callF prog (n+q+2)) (.rng2 Y1 (.bin .Add J1 Y1)) (Er th z S.len none none) (S.push (.lst []))=.ok (zjf 1 c,[]) (S.push (.lst [])):=by generalize hδ:Er th z S.len none none=δ;refine W.eq (wL_W _ ?_);subst hδ;left;change⟨by decide,by decide,Int.le_trans (by decide) (show(0:Int)<=z+1 by lia),Int.lt_of_le_of_lt (show z+1<=41 by lia) (by decide)⟩;refine⟨?_,rfl⟩;rw[<-zft c 1,show(z+1-1).toNat=c by lia];rfl
 generalize hδ:Er th z S.len none none=δ at el⊢;refine zcE el ?_;subst hδ;have Y:Tn V (S.push (.lst [])) 0 th S.len hs []:=by
  have lt_adr:∀i,i<V.m->∀z∈V.adr i,z<S.len:=fun i hi z hz=>by
   have hil:i<hs.length:=by rw[lh];exact hi
   obtain⟨o,e⟩:=X.has (p1 i hs[i] (by simp[hil])).ok z hz;exact get_lt e
  have lth:=get_lt hg;exact⟨lh,zak hg,fun i h e=>(p1 i h e).away X mP (by simp),nt,fun i hi hm=>by have:=lt_adr i hi _ hm;lia,by lia,fun l hl=>by have:=hk l hl;rw[plen];lia,zao _ _,⟨by show S.frz.length<=S.len;unfold St.len;lia,zcb hk (le_refl _)⟩⟩
 refine(zhw X dj c 1 hs [] _ none none 0 tt Y (by lia) (by simp;lia)).mono fun f U hU=>?_;obtain⟨⟨a,b,rfl⟩,Z,h1,h2,h4,h3⟩:=hU;rw[zero_add]at Z;have eU:=zpq (h1.trans rfl);rw[eU];refine wS_W _ ?_;left;exact⟨rfl,Z,h1,h2,by rw[plen]at h4;lia,fun l o a1 e=>h3 l o (by have:=get_lt e;lia) a1 (zak e)⟩
theorem zbn{S T:R.St}{x:D}{f:PySem.Str}{v:D}(h:za1 S x f v=some T):T.len=S.len:=by unfold za1 at h;split at h;split at h;split at h;unfold St.put at h;split at h;cases h;split at h;cases h;cases h;simp[St.len];cases h;cases h;cases h
theorem zpn{S:R.St}{n a:Nat}{i m r:Int}(e:S.get a=some (.ins 0 []))(b:Fr S a):W (appW (callF prog (n+1)) 42 [.ref a,.int i,.int m,.int r] S) fun d T=>d=.non/\Mv [a] S T/\T.len=S.len/\T.get a=some (.ins 0 [("number",.int i),("many",.int m),("rounds",.int r)]):=by refine zcl (F:=zd4) rfl rfl (wS_W _ ?_);obtain⟨s,g,c,l⟩:=zbK (f:="number") (v:=.int i) (gs:=[("number",.int i)]) e b (by simp) rfl;obtain⟨t,h,j,o⟩:=zbK (f:="many") (v:=.int m) (gs:=[("number",.int i),("many",.int m)]) l (b.mv c) (by simp) rfl;obtain⟨u,k,p,q⟩:=zbK (f:="rounds") (v:=.int r) (gs:=[("number",.int i),("many",.int m),("rounds",.int r)]) o ((b.mv c).mv j) (by simp) rfl;left;exists g;left;exists h;left;exists k;left;exact⟨rfl,(c.trans j).trans p,by rw[zbn k,zbn h,zbn g],q⟩
theorem zq6{S:R.St}{n a m t:Nat}{i s:Int}{w:Option Int}(e:S.get a=some (.ins 0 []))(h:Fr S a) :
  W (appW (callF prog (n+2)) 31 [.ref a,.int i,.int (m:Nat),.int (t:Nat),.int s,oD w] S) fun d T=>d=.non/\Mv [a] S T/\T.len=S.len+1/\T.get a=some (hD i m t s w S.len)/\T.get S.len=some (.dtp []):=by
 refine zcl rfl rfl (wS_W _ ?_);left;refine za0 ((zpn e h).mono fun d T x=>?_);obtain⟨_,v,y,g⟩:=x;have f:=h.mv v;obtain⟨B,j,c,z⟩:=zbK (f:="sender") (gs:=[("number",.int i),("many",.int (m:Nat)),("rounds",.int (t:Nat)),("sender",.int s)]) g f (by simp) rfl;obtain⟨b,k,l,A⟩:=zbK (f:="word") (gs:=[("number",.int i),("many",.int (m:Nat)),("rounds",.int (t:Nat)),("sender",.int s),("word",oD w)]) z (f.mv c) (by simp) rfl;have l2:b.len=S.len:=by rw[zbn k,zbn j,y]
 have o:=Mv.push [a] b (.dtp []);obtain⟨C,p,q,u⟩:=zbK (f:="notes") (zak A) (((f.mv c).mv l).mv o) (by simp) rfl;left;exists j;left;exists k;left;exists p;left;have E:=get_lt e;refine⟨rfl,(((v.trans c).trans l).trans o).trans q,by rw[zbn p,plen,l2],by rw[l2]at u;exact u,?_⟩;rw[<-l2];exact q.old _ _ (by simp;lia) (zao _ _)
noncomputable def mkE:CE:=.mk 0 31 "OralHand" 0 #[J0,J1,J2,J3,.ite (.cmp .Eq J0 J3) J4 (.con D.non)]
noncomputable def wdO(s w i:Int):Option Int:=if i=s then some w else none
noncomputable abbrev Eh(o:Option D)(m t:Nat)(s w:Int):Ev:=[o,some (.int (m:Nat)),some (.int (t:Nat)),some (.int s),some (.int w)]
theorem zrK{T:R.St}{n:Nat}{m t:Nat}{s w i:Int}(g:∀l∈T.lk,l<T.len) :
  W (evE (callF prog (n+2)) mkE (Eh (some (.int i)) m t s w) T) fun d U=>d=.ref T.len/\Mv [] T U/\U.len=T.len+2/\U.get T.len=some (hD i m t s (wdO s w i) (T.len+1))/\U.get (T.len+1)=some (.dtp []):=by
 have fin:∀o:Option Int,o=wdO s w i->wOut (appW (callF prog (n+2)) 31 [.ref T.len,.int i,.int (m:Nat),.int (t:Nat),.int s,oD o] (T.push (.ins 0 []))) fun d a=>zaF (zhY d=true) (D.ref T.len=.ref T.len/\Mv [] T a/\a.len=T.len+2/\a.get T.len=some (hD i m t s (wdO s w i) (T.len+1))/\a.get (T.len+1)=some (.dtp [])):=by rintro o rfl;refine za0 ((zq6 (zao T (.ins 0 [])) ⟨by show T.frz.length<=T.len;unfold St.len;lia,zcb g (le_refl _)⟩).mono fun d U h=>?_);obtain⟨rfl,v,l,b,f⟩:=h;rw[plen]at b f l;refine wNeed_of rfl ⟨rfl,⟨v.frz,v.lk,by lia,fun m o _ e=>v.old m o (by have:=get_lt e;simp;lia) (zak e)⟩,by lia,b,f⟩
 refine wE_W _ ?_;left;refine zdq (fun c=>?_) (fun c=>?_);left;exact fin (some w) (by unfold wdO;rw[if_pos c]);left;exact fin none (by unfold wdO;rw[if_neg c])
structure Hs(U:R.St)(N k c m t:Nat)(s w:Int):Prop where
 a:∀i,i<c->U.get (N+2*i)=some (hD ((k+i:Nat):Int) m t s (wdO s w ((k+i:Nat):Int)) (N+2*i+1))/\U.get (N+2*i+1)=some (.dtp [])
noncomputable def refs(N:Nat):Nat->List D
 |0=>[]|c+1=>.ref N::refs (N+2) c
noncomputable def intD(k:Nat):Nat->List D
 |0=>[]|c+1=>.int (k:Nat)::intD (k+1) c
theorem zj5{n:Nat}{m t:Nat}{s w:Int}:∀(c k:Nat)(T:R.St)(o:Option D),(∀l∈T.lk,l<T.len)->
  W (za5 [0] (evT (callF prog (n+2)) (.tst (.con (D.bl true)))) (evE (callF prog (n+2)) mkE) (intD k c) (Eh o m t s w) T) fun ds U=>ds=refs T.len c/\Mv [] T U/\U.len=T.len+2*c/\Hs U T.len k c m t s w
 |0,k,T,o,a=>by show W (Out.ok [] T) _;exact⟨rfl,Mv.refl _ _,rfl,⟨fun i e=>by lia⟩⟩| c+1,k,T,o,a=>by rw[intD,za5];show W (Out.bind (Out.ok true T) _) _;show W (Out.bind (evE (callF prog (n+2)) mkE (Eh (some (.int (k:Nat))) m t s w) T) _) _;rw[zaf];refine(zrK a).mono fun d U f=>?_;obtain⟨rfl,v,l,g,h⟩:=f;rw[zaf];refine(zj5 c (k+1) U _ (by rw[v.lk];exact fun x j=>by have:=a x j;lia)).mono fun ds q p=>?_;obtain⟨rfl,b,l2,H⟩:=p;rw[l]at H l2⊢;refine⟨rfl,v.trans b,by lia,⟨fun i e=>?_⟩⟩;cases i with|zero=>exact⟨b.old _ _ (by simp) g,b.old _ _ (by simp) h⟩| succ i=>have:=H.a i (by lia);rw[show T.len+2+2*i=T.len+2*(i+1) by lia,show k+1+i=k+(i+1) by lia]at this;exact this
theorem zh1:∀(c k:Nat),(List.range c).map (fun(i:Nat)=>D.int ((i+k:Nat):Int))=intD k c
 |0,_=>rfl| c+1,k=>by rw[List.range_succ_eq_map,map_cons,map_map,intD,<-zh1 c (k+1),zero_add];congr 1;refine List.map_congr_left fun i _=>?_;simp only[Function.comp];rw[show Nat.succ i+k=i+(k+1) by lia]
theorem ziP{N:Nat}:∀{c k:Nat},N<=k->0<c->flats N (refs k c)=false
 |c+1,k,h,_=>by simp only[refs,flats,flat];lia
theorem zdn{S T:R.St}{l:Nat}(c:T.frz=S.frz++S.new):(R.St.mk S.frz (S.new++T.new) S.lk).get l=T.get l:=by unfold St.get;rw[c];by_cases a:l<S.frz.length;rw[if_pos a,if_pos (by rw[length_append];lia),getElem?_append_left a];rw[if_neg a];by_cases b:l<S.frz.length+S.new.length;rw[if_pos (by rw[length_append];exact b),getElem?_append_left (by lia),getElem?_append_right (by lia)];rw[getElem?_append_right (by lia),length_append];congr 1;lia
theorem zhW{S T:R.St}(a:T.frz=S.frz++S.new):(R.St.mk S.frz (S.new++T.new) S.lk).len=T.len:=by unfold St.len;dsimp only;rw[a,length_append,length_append];lia
theorem zgZ{S T:R.St}(v:Mv [] S.enter T):Mv [] S ⟨S.frz,S.new++T.new,S.lk⟩:=⟨rfl,rfl,by rw[zhW v.frz];have:=v.len;rw[R.enter_len]at this;exact this,fun l o _ e=>by rw[zdn v.frz];exact v.old l o (by simp) (by rw[zaB];exact e)⟩
theorem zoA{S:R.St}{n m t:Nat}{s w:Int}(g:1<=m)(y:m<=7) :
  W (app (callF prog (n+3)) 19 [.int (m:Nat),.int (t:Nat),.int s,.int w] S) fun d U=>d=.ref (S.len+2*m)/\Mv [] S U/\U.get (S.len+2*m)=some (.lst (refs S.len m))/\Hs U S.len 0 m m t s w/\U.len=S.len+2*m+1:=by
 refine zhh rfl rfl ?_;left;change⟨by lia,by lia⟩;left;refine zba ?_;have e:(List.range ((m:Nat):Int).toNat).map (fun(k:Nat)=>D.int (k:Nat))=intD 0 m:=by rw[<-zh1 m 0];rfl
 rw[e];refine(zj5 m 0 S.enter none (fun l h=>by cases h)).mono fun z U j=>?_;obtain⟨rfl,v,l,H⟩:=j;have f:∀(c N:Nat),(refs N c).length=c:=fun c=>by induction c with|zero=>intro N;rfl|succ c o=>intro N;rw[refs,length_cons,o]
 change by rw[f];lia
 left;change by rw[f];lia
 rw[R.enter_len]at H l⊢;have p:Mv [] S.enter ({U with lk:=S.enter.lk}:R.St):=⟨v.frz,rfl,v.len,v.old⟩;have a:=p.trans (Mv.push [] _ (.lst (refs S.len m)));refine zi9 (l:=U.len) (by lia) (zao ({U with lk:=S.enter.lk}:R.St) (.lst (refs S.len m))) (ziP (le_refl _) g) ?_;have b:∀x,(R.St.mk S.frz (S.new++(({U with lk:=S.enter.lk}:R.St).push (.lst (refs S.len m))).new) S.lk).get x=(({U with lk:=S.enter.lk}:R.St).push (.lst (refs S.len m))).get x:=fun x=>zdn a.frz;refine⟨by rw[l],zgZ a,?_,⟨fun i q=>?_⟩,?_⟩;rw[b,<-l];exact zao ({U with lk:=S.enter.lk}:R.St) _;obtain⟨r,u⟩:=H.a i q;rw[b,b];exact⟨zak r,zak u⟩;rw[zhW a.frz,plen];show U.len+1=_;rw[l]
noncomputable def stD(m b:Int):MO:=.ins 2 [("many",.int m),("bound",.int b),("liars",.tup []),("lies",.tup [])]
theorem zoy{S:R.St}{n:Nat}{m:Int}:app (callF prog (n+1)) 13 [.int m,.non] S=.ok (.tup []) S:=by
 refine zaT rfl rfl ?_;left;change show 0<=16777216 by decide
 left;exact zac rfl ⟨rfl,rfl⟩
theorem zq4{S:R.St}{n:Nat}{m:Int}:app (callF prog (n+1)) 14 [.int m,.non] S=.ok (.tup []) S:=by
 refine zaT rfl rfl ?_;left;change show 0<=16777216 by decide
 left;exact zac rfl ⟨rfl,rfl⟩
theorem zgt{cf:CF}{b:TrB}{r:CS}{δ a:Ev}{S c:R.St}{Q:Fl->R.St->Prop}(h:exT cf b δ S=.ok a c)(w:W (exS cf r a c) Q):W (exS cf (.blk b r) δ S) Q:=by (conv=>lhs;whnf);rw[h];exact w
theorem zpl{S:R.St}{n a:Nat}{m b:Int}(e:S.get a=some (.ins 2 []))(hf:Fr S a)(m1:1<=m)(m7:m<=7)(b0:0<=b)(b5:b<=5) :
  W (appW (callF prog (n+3)) 41 [.ref a,.int m,.int b,.non,.non] S) fun d T=>d=.non/\Mv [a] S T/\T.len=S.len/\T.get a=some (stD m b):=by
 refine zcl rfl rfl ?_;obtain⟨T1,a1,v1,g1⟩:=zbK (gs:=[("many",.int m)]) e hf (by simp) rfl;obtain⟨T2,a2,v2,g2⟩:=zbK (f:="bound") (gs:=[("many",.int m),("bound",.int b)]) g1 (hf.mv v1) (by simp) rfl;obtain⟨T3,a3,v3,g3⟩:=zbK (f:="liars") (gs:=[("many",.int m),("bound",.int b),("liars",.tup [])]) g2 ((hf.mv v1).mv v2) (by simp) rfl;obtain⟨T4,a4,v4,g4⟩:=zbK (f:="lies") g3 (((hf.mv v1).mv v2).mv v3) (by simp) rfl;have x1:exT (callF prog (n+2)) (.setF J0 "many" 3 #[J1,Y1,Y7]) [some (.ref a),some (.int m),some (.int b),some .non,some .non] S=.ok [some (.ref a),some (.int m),some (.int b),some .non,some .non] T1:=by have c:=zgz (n:=n) (S:=S) (lo:=1) (hi:=7) (Th.int (z:=m));rw[if_pos (by simp[gc,m1,m7])]at c;show(match appX (callF prog (n+2)) 3 [.int m,.int 1,.int 7] S with|.ok v S2=>_|.err d S2=>_|.bad=>_)=_;rw[c];show(match za1 S (.ref a) "many" (.int m) with|some S4=>_|none=>_)=_;rw[a1]
 have x2:exT (callF prog (n+2)) (.setF J0 "bound" 3 #[J2,Y0,Y5]) [some (.ref a),some (.int m),some (.int b),some .non,some .non] T1=.ok [some (.ref a),some (.int m),some (.int b),some .non,some .non] T2:=by have c:=zgz (n:=n) (S:=T1) (lo:=0) (hi:=5) (Th.int (z:=b));rw[if_pos (by simp[gc,b0,b5])]at c;show(match appX (callF prog (n+2)) 3 [.int b,.int 0,.int 5] T1 with|.ok v S2=>_|.err d S2=>_|.bad=>_)=_;rw[c];show(match za1 T1 (.ref a) "bound" (.int b) with|some S4=>_|none=>_)=_;rw[a2]
 refine zgt x1 (zgt x2 (wS_W _ ?_));left;specialize zoy;left;exists a3;left;specialize zq4;left;exists a4;left;exact⟨rfl,((v1.trans v2).trans v3).trans v4,by rw[zbn a4,zbn a3,zbn a2,zbn a1],g4⟩
theorem zjd{c:Ev->R.St->Out Bool}{e:Ev->R.St->Out D}{S:R.St}{rest:Ev}(xs:List D)(o:Option D)(a:∀x∈xs,c (some x::rest) S=.ok true S)(b:∀x∈xs,e (some x::rest) S=.ok x S):za5 [0] c e xs (o::rest) S=.ok xs S:=by
 have:=zcQ (c:=c) (e:=e) (S:=S) (rest:=rest) (fun x=>x) xs o a b
 rwa [List.map_id']at this
theorem ze0{x:D}:∀{c N:Nat},x∈refs N c->∃i,i<c/\x=.ref (N+2*i)
 |0,_,h=>by cases h
 |c+1,N,h=>by rcases mem_cons.mp h with rfl|h;exact⟨0,by lia,rfl⟩;obtain⟨i,a,rfl⟩:=ze0 h;exact⟨i+1,by lia,by rw[show N+2+2*i=N+2*(i+1) by lia]⟩
theorem zdi:∀(c N:Nat),(refs N c).length=c
 |0,_=>rfl|c+1,N=>by rw[refs,length_cons,zdi c (N+2)]
theorem zq1{S:R.St}{n m b st N t:Nat}{s w f g:Int}(p:m<=7)(gh:S.get b=some (.lst (refs N m)))(gs:S.get st=some (stD f g))(H:Hs S N 0 m m t s w):app (callF prog (n+1)) 8 [.ref b,.ref st] S=.ok (.ref S.len) (S.push (.lst (refs N m))):=by
 refine zaT rfl rfl ?_;left;refine zaN gh ?_;left;refine zba ?_;have c:∀(l:List Nat) x o,S.get x=some o->({S.enter with lk:=l}:R.St).get x=some o:=fun l x o e=>by show S.enter.get x=some o;rw[zaB];exact e
 refine W.of (zjd (refs N m) none (fun x _=>rfl) (fun x h=>?_)) ?_;obtain⟨i,a,rfl⟩:=ze0 h;obtain⟨j,_⟩:=H.a i a;refine W.eq (wE_W _ ?_);left;exists zbw (c _ _ _ j) rfl;left;exists zbw (c _ _ _ gs) rfl;left;exists show cmpO _ .In (.int _) (.tup [])=some false from rfl;left;exact⟨rfl,rfl⟩;change by rw[zdi];omega
 left;change by rw[zdi];omega
 left;refine zb3 rfl ?_ ⟨rfl,rfl⟩;rw[zaX];intro d k;obtain⟨i,a,rfl⟩:=ze0 k;have:=get_lt (H.a i a).1;simp[flat];omega
noncomputable def unD:D->Option Int|.int i=>some i|_=>none
theorem zsJ(o:Option Int):unD (oD o)=o:=by cases o<;>rfl
noncomputable def rws(n:Nat)(i:Int)(p:List Int)(d:D):List Row:=((hnds n).filter fun o=>!decide (o∈p++[i])).map fun o=>⟨p++[i],o,d⟩
theorem zoE(n:Nat)(i:Int)(p:List Int)(d:D):ltw n i p d=(rws n i p d).map rD:=by unfold ltw rws;rw[map_map];rfl
theorem zoC{n:Nat}(a:n<=7)(i:Int)(p:List Int)(d:D):(rws n i p d).length<=7:=by
 have:=zgV a i p d
 rwa [zoE,length_map]at this
noncomputable def sayR(n:Nat)(s w:Int)(j:Nat)(t:Int)(K:Kk):List Row:=if t=1 then(if((j:Nat):Int)=s then rws n (j:Nat) [] (oD (wdO s w (j:Nat))) else []) else(if s=((j:Nat):Int) then [] else rws n (j:Nat) [s] (wd (gK hv K) [s]))
theorem zlG{n:Nat}(a:n<=7)(s w:Int)(j:Nat)(t:Int)(K:Kk):(sayR n s w j t K).length<=7:=by unfold sayR;split<;>split<;>first|exact zoC a _ _ _|simp
theorem zq0(n:Nat)(s w:Int)(j:Nat)(K:Kk):sayL n (j:Nat) s (wdO s w (j:Nat)) (gK hv K) 1=(sayR n s w j 1 K).map rD:=by unfold sayR;show(if((j:Nat):Int)=s then _ else _)=_;split;exact zoE _ _ _ _;rfl
theorem zqZ(n:Nat)(s w:Int)(j:Nat)(K:Kk):sayL n (j:Nat) s (wdO s w (j:Nat)) (gK hv K) 2=(sayR n s w j 2 K).map rD:=by unfold sayR;show(if s=((j:Nat):Int) then _ else _)=_;split;rfl;exact zoE _ _ _ _
theorem wd_o(K:Kk)(p:List Int):∃o:Option Int,wd (gK hv K) p=oD o:=by unfold wd;cases c:valP (gK hv K) p with|none=>exact⟨some 0,rfl⟩| some d=>obtain⟨o,rfl⟩:=zp6 p d c;exact⟨o,rfl⟩
noncomputable def cvL(B:List Bxl):Kk:=B.map fun x=>(x.1,unD x.2)
noncomputable def oLt(x:Bxl):Prop:=∃o:Option Int,x.2=oD o
theorem cv_D:∀{B:List Bxl},(∀x∈B,oLt x)->B.map bxD=(cvL B).map lD
 | [],_=>rfl| x::B,h=>by obtain⟨o,e⟩:=h x (by simp);have a:=cv_D (B:=B) fun y b=>h y (by simp[b]);unfold cvL at a⊢;rw[map_cons,map_cons,a];congr 1;unfold bxD lD;rw[e,zsJ]
theorem zos{n:Nat}{s w:Int}{j:Nat}{t:Int}{K:Kk}:∀r∈sayR n s w j t K,oLt (r.p,r.w):=by
 intro r a;unfold sayR at a;split at a<;>split at a
 obtain⟨o,_,rfl⟩:=mem_map.mp a;exact⟨_,rfl⟩;cases a;cases a;obtain⟨o,_,rfl⟩:=mem_map.mp a;exact wd_o _ _
noncomputable def pth(s:Int)(t:Int)(j:Nat):List Int:=if t=1 then [((j:Nat):Int)] else [s,((j:Nat):Int)]
theorem zrl{s t:Int}{i j:Nat}(h:i<j):lexZ (pth s t i) (pth s t j)=true:=by unfold pth;split;rw[zbk,if_neg (by lia)];exact decide_eq_true (by lia);rw[zbk,if_pos rfl,zbk,if_neg (by lia)];exact decide_eq_true (by lia)
theorem zmD(n:Nat):(hnds n).Pairwise (· < ·):=by unfold hnds;rw[pairwise_map];exact Pairwise.imp (fun {a b} h=>by exact_mod_cast h) List.pairwise_lt_range
theorem zoD(n:Nat)(i:Int)(p:List Int)(d:D):((rws n i p d).map key).Pairwise Lt3:=by unfold rws;rw[map_map,pairwise_map];exact((zmD n).filter _).imp fun {a b} z=>.inr ⟨rfl,.inr ⟨rfl,z⟩⟩
theorem zlH(n:Nat)(s w:Int)(j:Nat)(t:Int)(K:Kk):((sayR n s w j t K).map key).Pairwise Lt3:=by unfold sayR;split<;>split<;>first|exact zoD _ _ _ _|exact .nil
theorem znh{n:Nat}{s w:Int}{j:Nat}{t:Int}{K:Kk}:∀r∈sayR n s w j t K,r.p=pth s t j:=by
 intro r a;unfold pth;unfold sayR at a;split at a<;>split at a
 obtain⟨o,_,rfl⟩:=mem_map.mp a;rename_i h _ _;rw[if_pos h];rfl;cases a;cases a;obtain⟨o,_,rfl⟩:=mem_map.mp a;rename_i h _ _;rw[if_neg h];rfl
noncomputable def ot(m r:Nat)(s w:Int)(N:Nat):Town where
 H:=Kk
 m:=m
 who j:=N+2*j
 adr j:=[N+2*j,N+2*j+1]
 ok S d j h:=S.get (N+2*j)=some (hD (j:Nat) m r s (wdO s w (j:Nat)) (N+2*j+1))/\S.get (N+2*j+1)=some (.dtp (gK hv h))/\h.length<=60*d
 say j t h:=sayR m s w j t h
 hear _ _ h B:=zbT h (cvL B)
 lt:=oLt
 tt t:=t=1\/t=2
theorem zjZ{m r:Nat}{s w:Int}{N:Nat}(t:Int):∀(hs:List Kk)(k:Nat),(∀x∈(ot m r s w N).said t k hs,∃j:Nat,k<=j/\x.p=pth s t j)/\(((ot m r s w N).said t k hs).map key).Pairwise Lt3
 | [],k=>⟨fun r c=>(by cases c),.nil⟩| h::hs,k=>by obtain⟨d,f⟩:=zjZ t hs (k+1);refine⟨fun x c=>?_,?_⟩;rcases mem_append.mp c with c|c;exact⟨k,le_refl _,znh x c⟩;obtain⟨j,a,e⟩:=d x c;exact⟨j,by lia,e⟩;show((_++_:List Row).map key).Pairwise Lt3;rw[map_append,List.pairwise_append];refine⟨zlH _ _ _ _ _ _,f,fun x g y i=>?_⟩;obtain⟨a,l,rfl⟩:=mem_map.mp g;obtain⟨b,n,rfl⟩:=mem_map.mp i;obtain⟨j,o,e⟩:=d b n;refine .inr ⟨rfl,.inl ?_⟩;show lexZ a.p b.p=true;rw[znh a l,e];exact zrl (by lia)
theorem znu{m r:Nat}{s w:Int}{N:Nat}(a:m<=7)(t:Int):∀(hs:List Kk)(k:Nat),((ot m r s w N).said t k hs).length<=7*hs.length
 | [],k=>le_refl _| h::hs,k=>by have b:=znu (r:=r) (s:=s) (w:=w) (N:=N) a t hs (k+1);show(_++_:List Row).length<=_;rw[length_append,length_cons];have:((ot m r s w N).say k t h).length<=7:=zlG a s w k t h;lia
theorem ztc{m r:Nat}{s w:Int}{N:Nat}(c:m<=7)(hs:0<=s/\s<(m:Nat)):TownOk (ot m r s w N) 4:=by
 refine⟨fun {S T d j h} o g=>?_,fun {S d j h} o z e=>?_,fun {S d j h} t n q u y o=>?_,fun j t h r A=>zos r A,fun j=>by simp[ot],fun x C M=>?_,fun {S d j E h B} t n y O o G H Q a I=>?_,fun t hs k=>(zjZ t hs 0).2,fun t hs k=>?_⟩;exact⟨g _ (by simp[ot]) _ o.1,g _ (by simp[ot]) _ o.2.1,o.2.2⟩;rcases mem_cons.mp e with rfl|e;exact⟨_,o.1⟩;cases mem_singleton.mp e;exact⟨_,o.2.1⟩;refine⟨_,_,35,o.1,rfl,rfl,?_⟩;rcases q with rfl|rfl;refine(zrM (kvs:=gK hv h) o.1 c).mono fun x T b=>?_;obtain⟨l,rfl,v,a,g⟩:=b;exact⟨l,rfl,a,v,g.trans (congrArg (fun l=>some (MO.lst l)) (zq0 m s w j h))⟩;refine(zrL o.1 o.2.1 c hs u).mono fun x T b=>?_;obtain⟨l,rfl,v,a,g⟩:=b;exact⟨l,rfl,a,v,g.trans (congrArg (fun l=>some (MO.lst l)) (zqZ m s w j h))⟩
 . obtain⟨p,d⟩:=x;obtain⟨o,rfl⟩:=C;cases o<;>rfl
 refine⟨_,_,33,o.1,rfl,rfl,?_⟩;have J:S.get E=some (.lst ((cvL B).map lD)):=by rw[H,cv_D I]
 have U:(cvL B).length<=60:=by unfold cvL;rw[length_map];exact a
 have i:=o.2.2;refine(zrN o.1 o.2.1 J (G _ (by simp[ot])) (by lia)).mono fun x T b=>?_;obtain⟨rfl,v,g⟩:=b;refine⟨rfl,v.up (by simp[ot]),v.old _ _ (by simp) o.1,g,?_⟩;have:=zcT (cvL B) h;show(zbT h (cvL B)).length<=60*(d+1);lia;have L:List.length hs=m:=k;refine le_trans (znu c t hs 0) ?_;have i:7*m<=60:=by lia
 rw[<-L]at i;exact i
theorem ztd{m r:Nat}{s w:Int}{N:Nat}:Dj (ot m r s w N):=by intro i j _ _ h z a b;simp only[ot,mem_cons,not_mem_nil,or_false]at a b;lia
theorem zhA{m r:Nat}{s w:Int}{N:Nat}:∀(c k:Nat),whoL (ot m r s w N) k c=refs (N+2*k) c
 |0,_=>rfl| c+1,k=>by rw[whoL,zhA c (k+1)];rfl
noncomputable def hs0:Nat->List Kk
 |0=>[]|c+1=>[]::hs0 c
theorem zkz:∀c:Nat,(hs0 c).length=c
 |0=>rfl|c+1=>by rw[hs0,length_cons,zkz c]
theorem zkA:∀(c i:Nat)(h:Kk),(hs0 c)[i]?=some h->i<c/\h=[]
 |0,i,h,e=>by simp[hs0]at e|c+1,0,h,e=>by cases e;exact⟨by lia,rfl⟩| c+1,i+1,h,e=>by obtain⟨b,a⟩:=zkA c i h (by simpa[hs0]using e);exact⟨by lia,a⟩
theorem ztb{m r:Nat}{s w:Int}{N:Nat}{U:R.St}(H:Hs U N 0 m m r s w)(b:∀z,N<=z->z<N+2*m->Fr U z):∀(i:Nat) h,(hs0 m)[i]?=some h->Pk (ot m r s w N) U 0 i h:=by intro i h e;obtain⟨c,rfl⟩:=zkA m i h e;obtain⟨a,d⟩:=H.a i c;rw[zero_add]at a;refine⟨⟨a,d,zero_le _⟩,fun z f=>?_⟩;simp only[ot,mem_cons,not_mem_nil]at f;exact b z (by lia) (by lia)
structure Pl(U:R.St)(a hl N m:Nat):Prop where
 p:∃sl:Nat,U.get a=some (.ins 1 [("hands",.ref hl),("sent",.ref sl)])
 h:U.get hl=some (.lst (refs N m))
 k:∀j,j<m->∃(r:Nat) (s:Int) (w:Option Int) (K:Kk),r<=1/\U.get (N+2*j)=some (hD (j:Nat) m (r+1) s w (N+2*j+1))/\U.get (N+2*j+1)=some (.dtp (gK hv K))
theorem zpm{S:R.St}{n m r a k th N:Nat}{s w:Int}(L:m<=7)(hs:0<=s/\s<(m:Nat))(e:S.get a=some (.ins 1 []))(C:Fr S a)(gh:S.get k=some (.lst (refs N m)))(gt:S.get th=some (.lst (refs N m)))(H:Hs S N 0 m m (r+1) s w)(M:∀z,N<=z->z<N+2*m->Fr S z)(O:a<N)(Q:N+2*m<=k)(nt:N+2*m<=th)(T:∀l∈S.lk,l<S.len)(Y:r<=1) :
  W (appW (callF prog (n+8)) 43 [.ref a,.ref k,.ref th,.int ((r+1:Nat):Int)] S) fun d U=>d=.non/\Pl U a k N m/\U.frz=S.frz/\U.lk=S.lk/\S.len<=U.len/\∀l o,l≠a->l<N->S.get l=some o->U.get l=some o:=by
 refine zcl (F:=zd3) rfl rfl (wS_W _ ?_);obtain⟨B,a1,b,g1⟩:=zbK (f:="hands") (v:=.ref k) (gs:=[("hands",.ref k)]) e C (by simp) rfl;have H1:Hs B N 0 m m (r+1) s w:=⟨fun i A=>by obtain⟨x,y⟩:=H.a i A;exact⟨b.old _ _ (by simp;lia) x,b.old _ _ (by simp;lia) y⟩⟩;have X:=ztc (r:=r+1) (s:=s) (w:=w) (N:=N) L hs;have rn:=zsX X (S:=B) (n:=n) (c:=r+1) (z:=((r+1:Nat):Int)) (th:=th) (hs:=hs0 m) (fun i q u=>by
  have:i=1\/i=2:=by lia
  rcases this with rfl|rfl;exact .inl rfl;exact .inr rfl) ztd (zkz m) (by rw[zhA];exact b.old _ _ (by simp;lia) gt) (ztb H1 fun z q u=>(M z q u).mv b) (fun i A E=>by
  simp only[ot,mem_cons,not_mem_nil,or_false]at E A;lia) (by rw[b.lk];exact fun l k=>lt_of_lt_of_le (T l k) b.len) (by lia) rfl (by lia)
 left;exists a1;left;refine za0 (rn.mono fun x U hU=>?_);obtain⟨rfl,Z,I,J,ul,G⟩:=hU;have p:∀l,l<N\/N+2*m<=l->∀i,i<(ot m (r+1) s w N).m->l∉(ot m (r+1) s w N).adr i:=fun l h i A E=>by simp only[ot,mem_cons,not_mem_nil,or_false]at E A;lia
 have ga:U.get a=some (.ins 1 [("hands",.ref k)]):=G a _ (p a (.inl O)) g1;have fa:Fr U a:=⟨by rw[J];exact(C.mv b).f,by rw[I];exact(C.mv b).k⟩;obtain⟨T2,a2,t,g2⟩:=zbK (f:="sent") (v:=.ref B.len) ga fa (by simp) rfl;left;exists a2;left;refine⟨rfl,⟨⟨_,g2⟩,t.old _ _ (by simp;lia) (G _ _ (p k (.inr Q)) (b.old _ _ (by simp;lia) gh)),fun j hj=>?_⟩,by rw[t.frz,J,b.frz],by rw[t.lk,I,b.lk],le_trans b.len (le_trans (le_of_lt ul) t.len),fun l o q u e=>t.old _ _ (by simpa using q) (G _ _ (p l (.inl u)) (b.old _ _ (by simpa using q) e))⟩;have lh:=Z.lh;have jl:j<(rnds (ot m (r+1) s w N) 1 (r+1) (hs0 m)).length:=by rw[lh];exact hj
 have o:=(Z.p1 j (rnds (ot m (r+1) s w N) 1 (r+1) (hs0 m))[j] (by simp[jl])).ok;generalize(rnds (ot m (r+1) s w N) 1 (r+1) (hs0 m))[j]=g at o;obtain⟨q,u,h3⟩:=o;exact⟨r,s,_,g,Y,t.old _ _ (by simp;lia) q,t.old _ _ (by simp;lia) u⟩
theorem zeG{P:List Fn}{F:Fn}{f n:Nat}{ds:List D}{S T:R.St}{d:D}(h:P[f]?=some F)(a:ds.length=F.np)(w:exS (callF P n) F.body (zaq F ds) S=.ok (.ex d) T)(b:F.prim=none:=by rfl):appW (callF P (n+1)) f ds S=.err d T:=by unfold appW;simp only[callF,h,a,b,if_true,w,Out.ne,zan]
theorem zhy{cf:CF}{x:XE}{r:CS}{δ:Ev}{S T:R.St}{v:D}(h:exX cf x δ S=.ok v T):exS cf (.retX x r) δ S=.ok (.rt v) T:=by (conv=>lhs;whnf);rw[h]
theorem zhz{cf:CF}{x:XE}{r:CS}{δ:Ev}{S T:R.St}{v:D}(h:exX cf x δ S=.err v T):exS cf (.retX x r) δ S=.ok (.ex v) T:=by (conv=>lhs;whnf);rw[h]
theorem ztD{P:List Fn}{F:Fn}{f n:Nat}{ds:List D}{S T:R.St}{d:D}(h:P[f]?=some F)(a:ds.length=F.np)(w:exS (callF P n) F.body (zaq F ds) S.enter=.ok (.rt d) T)(hd:flat S.len d=true)(b:F.prim=none:=by rfl):appX (callF P (n+1)) f ds S=.ok d S:=by unfold appX;simp only[callF,h,a,b,w];exact zcZ S d T hd
theorem ztE{P:List Fn}{F:Fn}{f n:Nat}{ds:List D}{S:R.St}{o:MO}(h:P[f]?=some F)(a:ds.length=F.np)(w:exS (callF P n) F.body (zaq F ds) S.enter=.ok (.ex (.ref S.enter.len)) (S.enter.push o))(b:F.prim=none:=by rfl):appX (callF P (n+1)) f ds S=.err (.ref S.len) (S.push o):=by unfold appX;simp only[callF,h,a,b,w,R.enter_len];rfl
noncomputable def rnB(b:Int):D->Int|.int z=>z|_=>b+1
noncomputable def rnE:CEs:=.cons J0 #[Y1,Y8]
noncomputable def rnX:XE:=.ite (.cmp .Is J0 (.con D.non)) (.val (.bin .Add J1 Y1)) (.call 3 rnE)
theorem x_rn{n:Nat}{S:R.St}{t:D}{b:Int}(h:Th S t):exX (callF prog (n+2)) rnX [some t,some (.int b)] S=if gt t then .ok (.int (rnB b t)) S else .err (.ref S.len) (S.push (.exc 0 [("told",t)])):=by
 by_cases a:t=.non;subst a;rfl;have e:gt t=gc 1 8 t:=by cases t<;>first|rfl|exact absurd rfl a
 have c:evT (callF prog (n+2)) (.cmp .Is J0 (.con D.non)) [some t,some (.int b)] S=.ok false S:=by cases t<;>first|rfl|exact absurd rfl a
 (conv=>lhs;whnf);rw[c];show exX (callF prog (n+2)) (.call 3 rnE) [some t,some (.int b)] S=_;show Out.bind _ _=_;show appX (callF prog (n+2)) 3 [t,.int 1,.int 8] S=_;rw[zgz h,e];cases g:gc 1 8 t with|false=>rfl|true=>cases t<;>first|rfl|cases g
theorem zlm{n:Nat}{S:R.St}{t:D}{b:Int}(h:Th S t):appX (callF prog (n+3)) 15 [t,.int b] S=if gt t then .ok (.int (rnB b t)) S else .err (.ref S.len) (S.push (.exc 0 [("told",t)])):=by have x:=x_rn (n:=n) (b:=b) h.enter;cases g:gt t with| true=>rw[g]at x;exact ztD rfl rfl (zhy x) rfl| false=>rw[g]at x;exact ztE rfl rfl (zhz x)
noncomputable abbrev Ek(a st:Nat)(d w t:D)(r h:Option D):Ev:=[some (.ref a),some (.ref st),some d,some w,some t,r,h]
noncomputable def kA:TrB:=.run 4 #[J2,.fld J1 "many"]
noncomputable def kB2:TrB:=.run 5 #[J3]
noncomputable def kC:TrB:=.asg 5 15 #[J4,.fld J1 "bound"]
noncomputable def kR:CS:=.asg 6 (.call 19 0 #[.fld J1 "many",J5,J2,J3]) (.expr (.callC 43 "Play" "__init__" #[J0,J6,.call 8 0 #[J6,J1],J5]) .nil)
theorem zhX:c_Oral_init.body=.blk kA (.blk kB2 (.blk kC kR)):=rfl
section
variable{S:R.St}{n a st:Nat}{m b:Int}{d w t:D}
theorem zpH{cf:CF}{r h:Option D}(e:S.get st=some (stD m b)):evE cf (.fld J1 "many") (Ek a st d w t r h) S=.ok (.int m) S:=by refine W.eq (wE_W _ ?_);left;exists zbw e rfl;left;exact⟨rfl,rfl⟩
theorem zmQ{cf:CF}{r h:Option D}(e:S.get st=some (stD m b)):evE cf (.fld J1 "bound") (Ek a st d w t r h) S=.ok (.int b) S:=by refine W.eq (wE_W _ ?_);left;exists zbw e rfl;left;exact⟨rfl,rfl⟩
theorem x_kA(e:S.get st=some (stD m b))(h:Th S d):exT (callF prog (n+3)) kA (Ek a st d w t none none) S=if gh m d then .ok (Ek a st d w t none none) S else .err (.ref S.len) (S.push (.exc 1 [("hand",d)])):=by
 have c:evEs (callF prog (n+3)) #[J2,.fld J1 "many"] (Ek a st d w t none none) S=.ok [d,.int m] S:=by rw[evEs,show evE (callF prog (n+3)) J2 (Ek a st d w t none none) S=.ok d S from rfl,zan,evEs,zpH e];rfl
 (conv=>lhs;whnf);rw[c];dsimp only;rw[zm4 h];split<;>rfl
theorem x_kB(h:Th S w):exT (callF prog (n+3)) kB2 (Ek a st d w t none none) S=if gw w then .ok (Ek a st d w t none none) S else .err (.ref S.len) (S.push (.exc 2 [("word",w)])):=by have c:evEs (callF prog (n+3)) #[J3] (Ek a st d w t none none) S=.ok [w] S:=rfl;unfold kB2;rw[exT,c];dsimp only;rw[zp2 h];split<;>rfl
theorem x_kC(e:S.get st=some (stD m b))(h:Th S t):exT (callF prog (n+3)) kC (Ek a st d w t none none) S=if gt t then .ok (Ek a st d w t (some (.int (rnB b t))) none) S else .err (.ref S.len) (S.push (.exc 0 [("told",t)])):=by
 have c:evEs (callF prog (n+3)) #[J4,.fld J1 "bound"] (Ek a st d w t none none) S=.ok [t,.int b] S:=by rw[evEs,show evE (callF prog (n+3)) J4 (Ek a st d w t none none) S=.ok t S from rfl,zan,evEs,zmQ e];rfl
 (conv=>lhs;whnf);rw[c];dsimp only;rw[zlm h];split<;>rfl
theorem zr0(e:S.get st=some (stD m b))(h:Th S d)(g:gh m d=false):appW (callF prog (n+4)) 37 [.ref a,.ref st,d,w,t] S=.err (.ref S.len) (S.push (.exc 1 [("hand",d)])):=by refine zeG rfl rfl ?_;rw[zhX];(conv=>lhs;whnf);rw[show zaq c_Oral_init [.ref a,.ref st,d,w,t]=Ek a st d w t none none from rfl,x_kA e h,g];rfl
theorem zrZ(e:S.get st=some (stD m b))(h:Th S d)(g:gh m d=true)(c:Th S w)(f:gw w=false):appW (callF prog (n+4)) 37 [.ref a,.ref st,d,w,t] S=.err (.ref S.len) (S.push (.exc 2 [("word",w)])):=by refine zeG rfl rfl ?_;rw[zhX];(conv=>lhs;whnf);rw[show zaq c_Oral_init [.ref a,.ref st,d,w,t]=Ek a st d w t none none from rfl,x_kA e h,g];rw[if_pos rfl];(conv=>lhs;whnf);rw[x_kB c,f];rfl
theorem zrY(e:S.get st=some (stD m b))(h:Th S d)(g:gh m d=true)(c:Th S w)(f:gw w=true)(i:Th S t)(j:gt t=false):appW (callF prog (n+4)) 37 [.ref a,.ref st,d,w,t] S=.err (.ref S.len) (S.push (.exc 0 [("told",t)])):=by refine zeG (F:=c_Oral_init) rfl rfl ?_;rw[zhX];(conv=>lhs;whnf);rw[show zaq c_Oral_init [.ref a,.ref st,d,w,t]=Ek a st d w t none none from rfl,x_kA e h,g];rw[if_pos rfl];dsimp only;(conv=>lhs;whnf);rw[x_kB c,f,if_pos rfl];dsimp only;(conv=>lhs;whnf);rw[x_kC e i,j];rfl
end
theorem zfe{S U:R.St}(a:∀l∈S.lk,l<S.len)(v:Mv [] S U){z:Nat}(h:S.len<=z):Fr U z:=by
 refine⟨?_,?_⟩;rw[v.frz];have:S.frz.length<=S.len:=by unfold St.len;lia
 lia;rw[v.lk,Bool.eq_false_iff];intro c;have:=a _ (List.contains_iff_mem.mp c);lia
theorem zkb{S:R.St}{n a st m r:Nat}{b s w:Int}{t:D}(e:S.get st=some (stD (m:Nat) b))(j:S.get a=some (.ins 1 []))(A:Fr S a)(k:∀l∈S.lk,l<S.len)(B:1<=m)(d:m<=7)(hs:gh (m:Nat) (.int s)=true)(C:gw (.int w)=true)(E:Th S t)(G:gt t=true)(I:rnB b t=((r+1:Nat):Int))(J:r<=1) :
  W (appW (callF prog (n+9)) 37 [.ref a,.ref st,.int s,.int w,t] S) fun x U=>x=.non/\(∃f N,Pl U a f N m)/\U.frz=S.frz/\U.lk=S.lk/\S.len<=U.len/\∀l o,l≠a->S.get l=some o->U.get l=some o:=by
 refine zcl rfl rfl ?_;have g:0<=s/\s<(m:Nat):=by simpa[gh]using hs
 rw[zhX,show zaq c_Oral_init [.ref a,.ref st,.int s,.int w,t]=Ek a st (.int s) (.int w) t none none from rfl];refine zgt (by rw[x_kA e Th.int,hs];rfl) (zgt (by rw[x_kB Th.int,C];rfl) (zgt (by rw[x_kC e E,G,I];rfl) (wS_W _ ?_)));left;exists zbw e rfl;left;refine za0 ((zoA B d).mono fun x U L=>?_);obtain⟨rfl,v,p,H,ul⟩:=L;have M:=v.old _ _ (by simp) e;have O:=get_lt j;left;specialize zq1 d p M H;left;have c:=v.trans (Mv.push [] U (.lst (refs S.len m)));have Hp:Hs (U.push (.lst (refs S.len m))) S.len 0 m m (r+1) s w:=⟨fun i q=>⟨zak (H.a i q).1,zak (H.a i q).2⟩⟩;refine za0 ((zpm d g (c.old _ _ (by simp) j) (A.mv c) (zak p) (zao _ _) Hp (fun z h _=>zfe k c h) O (le_refl _) (by lia) (by rw[c.lk];exact fun l f=>lt_of_lt_of_le (k l f) c.len) J).mono fun y T Q=>?_);obtain⟨_,P,Y,tk,tl,to⟩:=Q;left;exact⟨rfl,⟨_,_,P⟩,by rw[Y,c.frz],by rw[tk,c.lk],le_trans c.len tl,fun l o h u=>to l o h (get_lt u) (c.old _ _ (by simp) u)⟩
theorem W_ex{b:Type}{o:Out b}{Q:b->R.St->Prop}(h:W o Q):∃a T,o=.ok a T/\Q a T:=by cases o with|ok a T=>exact⟨a,T,rfl,h⟩|err d T=>exact h.elim|bad=>exact h.elim
theorem zny{T:R.St}{n:Nat}{m b:Int}{es:CEs}{δ:Ev}(a:evEs (callF prog (n+3)) es δ T=.ok [.int m,.int b] T)(c:∀l∈T.lk,l<T.len)(d:1<=m)(f:m<=7)(h:0<=b)(i:b<=5) :
  W (evE (callF prog (n+3)) (.mk 2 41 "Setting" 2 es) δ T) fun x U=>x=.ref T.len/\Mv [] T U/\U.len=T.len+1/\U.get T.len=some (stD m b):=by
 show W (Out.bind _ _) _;rw[a,zan,zaf];refine(zpl (zao T (.ins 2 [])) ⟨by show T.frz.length<=T.len;unfold St.len;lia,zcb c (le_refl _)⟩ d f h i).mono fun x U j=>?_;obtain⟨rfl,v,l,g⟩:=j;rw[plen]at l;exact⟨rfl,⟨v.frz,v.lk,by lia,fun m o _ e=>v.old m o (by have:=get_lt e;simp;lia) (zak e)⟩,l,g⟩
theorem zek{S T:R.St}{l c:Nat}{a:List (PySem.Str×D)}{Q:D->R.St->Prop}(e:S.len<=l)(b:T.get l=some (.exc c a))(q:Q (.ref l) ⟨S.frz,S.new++T.new,S.lk⟩):wFin S (.rt (.ref l)) T Q:=by
 have d:flat S.len (.ref l)=false:=by simp[flat];omega
 unfold wFin;rw[zh5];unfold zbb;simp only[d,b];exact q
theorem zm7{cf:CF}{b:TrB}{x:PySem.Str}{a d l c:Nat}{r:CS}{δ:Ev}{S T:R.St}{e:List (PySem.Str×D)}{Q:Fl->R.St->Prop}(h:exT cf b δ S=.err (.ref l) T)(f:T.get l=some (.exc c e))(w:W (exS cf r ((δ.set a none).set d (some (.ref l))) T) Q):wOut (exS cf (.tryS b x a d r) δ S) Q:=by refine za0 ?_;(conv=>lhs;whnf);rw[h];dsimp only;rw[zas f];exact w
noncomputable abbrev mdS:CE:=.mk 2 41 "Setting" 2 #[J0,Y1]
noncomputable def mdE:CEs:=.cons mdS #[J1,J2,J3]
noncomputable abbrev Em(m:Int)(d w t:D)(c e:Option D):Ev:=[some (.int m),some d,some w,some t,c,e]
theorem zj8{T:R.St}{n:Nat}{m:Int}{d w t:D}(a:∀l∈T.lk,l<T.len)(c:1<=m)(f:m<=7) :
  ∃U,evEs (callF prog (n+3)) mdE (Em m d w t (some .non) none) T=.ok [.ref T.len,d,w,t] U/\Mv [] T U/\U.len=T.len+1/\U.get T.len=some (stD m 1):=by
 obtain⟨x,U,e,rfl,v,l,g⟩:=W_ex (zny (n:=n) (T:=T) (es:=.cons J0 #[Y1]) (δ:=Em m d w t (some .non) none) (m:=m) (b:=1) rfl a c f (by decide) (by decide));exact⟨U,by unfold mdE;rw[evEs,e,zan];rfl,v,l,g⟩
theorem ztm{cf:CF}{T U V:R.St}{x a b c f:D}{δ:Ev}{es:CEs}(e:evEs cf es δ T=.ok [a,b,c,f] U)(k:appW cf 37 [.ref U.len,a,b,c,f] (U.push (.ins 1 []))=.err x V):exT cf (.mk 1 37 "Oral" 0 es) δ T=.err x V:=by (conv=>lhs;whnf);rw[e];show(match appW cf 37 [.ref U.len,a,b,c,f] (U.push (.ins 1 [])) with|.ok d g=>_|.err d g=>_|.bad=>_)=_;rw[k]
theorem ztl{cf:CF}{T U V:R.St}{a b c f:D}{δ:Ev}{es:CEs}(e:evEs cf es δ T=.ok [a,b,c,f] U)(k:appW cf 37 [.ref U.len,a,b,c,f] (U.push (.ins 1 []))=.ok .non V):exT cf (.mk 1 37 "Oral" 0 es) δ T=.ok δ V:=by (conv=>lhs;whnf);rw[e];show(match appW cf 37 [.ref U.len,a,b,c,f] (U.push (.ins 1 [])) with|.ok d g=>_|.err d g=>_|.bad=>_)=_;rw[k];rfl
section
variable{S:R.St}{n m:Nat}{d w t:D}
theorem zj7{c:Nat}{f:PySem.Str}{v:D}(r:1<=m)(s:m<=7)
  (h:∀(T:R.St)(a st:Nat),Mv [] S.enter T->T.get st=some (stD (m:Nat) 1)->appW (callF prog (n+4)) 37 [.ref a,.ref st,d,w,t] T=.err (.ref T.len) (T.push (.exc c [(f,v)]))) :
  W (app (callF prog (n+5)) 28 [.int (m:Nat),d,w,t] S) fun x U=>Mv [] S U/\∃e,x=.ref e/\U.get e=some (.exc c [(f,v)]):=by
 refine zhh rfl rfl ?_;left;obtain⟨U,e,j,o,p⟩:=zj8 (T:=S.enter) (m:=(m:Nat)) (fun l q=>by cases q) (by lia) (by lia);have b:=j.trans (Mv.push [] U (.ins 1 []));have k:=h (U.push (.ins 1 [])) U.len S.enter.len b (zak p);have g:((U.push (.ins 1 [])).push (.exc c [(f,v)])).get (U.push (.ins 1 [])).len=some (.exc c [(f,v)]):=zao _ _;refine zm7 (ztm e k) g (wS_W _ ?_);have i:=b.trans (Mv.push [] _ (.exc c [(f,v)]));left;refine zek (by rw[plen,o,R.enter_len];lia) g ⟨zgZ i,_,rfl,by rw[zdn i.frz];exact g⟩
theorem zox(b:1<=m)(c:m<=7)(h:Th S d)(g:gh (m:Nat) d=false):W (app (callF prog (n+5)) 28 [.int (m:Nat),d,w,t] S) fun x U=>Mv [] S U/\∃e,x=.ref e/\U.get e=some (.exc 1 [("hand",d)]):=zj7 b c fun T a st v e=>zr0 e (h.enter.mv v) g
theorem zow(b:1<=m)(c:m<=7)(h:Th S d)(g:gh (m:Nat) d=true)(f:Th S w)(i:gw w=false):W (app (callF prog (n+5)) 28 [.int (m:Nat),d,w,t] S) fun x U=>Mv [] S U/\∃e,x=.ref e/\U.get e=some (.exc 2 [("word",w)]):=zj7 b c fun T a st v e=>zrZ e (h.enter.mv v) g (f.enter.mv v) i
theorem zov(b:1<=m)(c:m<=7)(h:Th S d)(g:gh (m:Nat) d=true)(f:Th S w)(i:gw w=true)(j:Th S t)(k:gt t=false):W (app (callF prog (n+5)) 28 [.int (m:Nat),d,w,t] S) fun x U=>Mv [] S U/\∃e,x=.ref e/\U.get e=some (.exc 0 [("told",t)]):=zj7 b c fun T a st v e=>zrY e (h.enter.mv v) g (f.enter.mv v) i (j.enter.mv v) k
theorem znF{m:Int}{d:D}(h:gh m d=true):∃z,d=.int z:=by cases d<;>first|exact⟨_,rfl⟩|cases h
theorem zr8{d:D}(h:gw d=true):∃z,d=.int z:=by cases d<;>first|exact⟨_,rfl⟩|cases h
theorem zrb{b:Int}(a:b=0\/b=1)(h:t=.non\/t=.int 1\/t=.int 2):∃r:Nat,r<=1/\rnB b t=((r+1:Nat):Int):=by rcases h with rfl|rfl|rfl;rcases a with rfl|rfl;exact⟨0,by lia,rfl⟩;exact⟨1,by lia,rfl⟩;exact⟨0,by lia,rfl⟩;exact⟨1,by lia,rfl⟩
theorem zou(h:1<=m)(i:m<=7)(g:gh (m:Nat) d=true)(f:gw w=true)(j:Th S t)(k:gt t=true)(o:t=.non\/t=.int 1\/t=.int 2):app (callF prog (n+10)) 28 [.int (m:Nat),d,w,t] S=.ok .non S:=by
 obtain⟨s,rfl⟩:=znF g;obtain⟨z,rfl⟩:=zr8 f;obtain⟨r,p,q⟩:=zrb (.inr rfl) o;refine zaT rfl rfl ?_;left;obtain⟨U,e,u,v,y⟩:=zj8 (T:=S.enter) (m:=(m:Nat)) (fun l a=>by cases a) (by lia) (by lia);have c:=u.trans (Mv.push [] U (.ins 1 []));have A:∀l∈(U.push (.ins 1 [])).lk,l<(U.push (.ins 1 [])).len:=by rw[c.lk];exact fun l a=>by cases a
 obtain⟨x,T,B,rfl,_⟩:=W_ex (zkb (zak y) (zao U (.ins 1 [])) (zfe (fun l a=>by cases a) c (by lia)) A h i g f (j.enter.mv c) k q p);refine zm6 (ztl e B) (wS_W _ ?_);left;exact zac rfl ⟨rfl,rfl⟩
end
theorem Pl.mono{S T:R.St}{a b N m:Nat}(P:Pl S a b N m)(g:∀l o,S.get l=some o->T.get l=some o):Pl T a b N m:=by obtain⟨⟨c,p⟩,h,k⟩:=P;refine⟨⟨c,g _ _ p⟩,g _ _ h,fun j d=>?_⟩;obtain⟨r,s,w,K,e,f,i⟩:=k j d;exact⟨r,s,w,K,e,g _ _ f,g _ _ i⟩
theorem zjy:∀(c N i:Nat),i<c->(refs N c)[i]?=some (.ref (N+2*i))
 |c+1,N,0,_=>rfl| c+1,N,i+1,h=>by rw[refs,List.getElem?_cons_succ,zjy c (N+2) i (by lia),show N+2+2*i=N+2*(i+1) by lia]
section
variable{S:R.St}{n a hl N m:Nat}{d:D}
theorem zli{P:List Fn}{F:Fn}{f n:Nat}{ds:List D}{S T:R.St}{d:D}(h:P[f]?=some F)(hl:ds.length=F.np)(w:exS (callF P n) F.body (zaq F ds) S=.ok (.rt d) T)(b:F.prim=none:=by rfl):appW (callF P (n+1)) f ds S=.ok d T:=by unfold appW;simp only[callF,h,hl,b,if_true,w,Out.ne,zan]
theorem x_at(P:Pl S a hl N m)(h:Th S d):exX (callF prog (n+3)) (.ix (.fld J0 "hands") (.call 4 #[J1,.bi .len #[.fld J0 "hands"]])) [some (.ref a),some d] S=if gh (m:Nat) d then ixX (.ref hl) d S else .err (.ref S.len) (S.push (.exc 1 [("hand",d)])):=by
 obtain⟨f,p⟩:=P.p;have b:evE (callF prog (n+3)) (.fld J0 "hands") [some (.ref a),some d] S=.ok (.ref hl) S:=by refine W.eq (wE_W _ ?_);left;exists zbw p rfl;left;exact⟨rfl,rfl⟩
 have c:evE (callF prog (n+3)) (.bi .len #[.fld J0 "hands"]) [some (.ref a),some d] S=.ok (.int (m:Nat)) S:=by refine W.eq (wE_W _ ?_);left;exists zbw p rfl;left;exists P.h;left;rw[zdi];exact⟨rfl,rfl⟩
 have e:evEs (callF prog (n+3)) #[J1,.bi .len #[.fld J0 "hands"]] [some (.ref a),some d] S=.ok [d,.int (m:Nat)] S:=by rw[evEs,show evE (callF prog (n+3)) J1 [some (.ref a),some d] S=.ok d S from rfl,zan,evEs,c];rfl
 (conv=>lhs;whnf);rw[b];show Out.bind (exX (callF prog (n+3)) _ _ S) _=_;rw[exX,e];show Out.bind (appX (callF prog (n+3)) 4 [d,.int (m:Nat)] S) _=_;rw[zm4 h];split<;>rfl
theorem zpo(P:Pl S a hl N m)(h:Th S d)(g:gh (m:Nat) d=false):appW (callF prog (n+4)) 39 [.ref a,d] S=.err (.ref S.len) (S.push (.exc 1 [("hand",d)])):=by refine zeG rfl rfl (zhz (δ:=[some (.ref a),some d]) ?_);rw[x_at P h,g];rfl
theorem zkc(P:Pl S a hl N m)(g:gh (m:Nat) d=true):∃j,j<m/\appW (callF prog (n+4)) 39 [.ref a,d] S=.ok (.ref (N+2*j)) S:=by
 obtain⟨z,rfl⟩:=znF g;have b:0<=z/\z<(m:Nat):=by simpa[gh]using g
 refine⟨z.toNat,by lia,zli rfl rfl (zhy (δ:=[some (.ref a),some (.int z)]) ?_)⟩;rw[x_at P Th.int,g];unfold ixX;unfold zbC;dsimp only;rw[P.h];dsimp only;have:atI (refs N m) z=some (.ref (N+2*z.toNat)):=by
  have:=zle (zjy m N z.toNat (by lia))
  rwa [show((z.toNat:Nat):Int)=z by lia]at this
 rw[this];rfl
noncomputable abbrev onX(x:PySem.Str)(b:List (Nat×Nat)):XE:=.on (.meth "hand_at" [(1,39)] J0 #[J1]) x b
theorem znP{cf:CF}(P:Pl S a hl N m):exX cf (.meth "hand_at" [(1,39)] J0 #[J1]) [some (.ref a),some d] S=appW cf 39 [.ref a,d] S:=by obtain⟨b,p⟩:=P.p;show mthX "hand_at" [(1,39)] (.ref a) S _=_;unfold mthX;rw[zaW p];rfl
theorem zi2{x:PySem.Str}{b:List (Nat×Nat)}(P:Pl S a hl N m)(h:Th S d)(g:gh (m:Nat) d=false):exX (callF prog (n+4)) (onX x b) [some (.ref a),some d] S=.err (.ref S.len) (S.push (.exc 1 [("hand",d)])):=by show Out.bind _ _=_;rw[znP P,zpo P h g];rfl
theorem zka(P:Pl S a hl N m)(h:Th S d)(g:gh (m:Nat) d=false):appW (callF prog (n+5)) 40 [.ref a,d] S=.err (.ref S.len) (S.push (.exc 1 [("hand",d)])):=zeG rfl rfl (zhz (zi2 P h g))
theorem zgU(P:Pl S a hl N m)(h:Th S d)(g:gh (m:Nat) d=false):appW (callF prog (n+5)) 38 [.ref a,d] S=.err (.ref S.len) (S.push (.exc 1 [("hand",d)])):=zeG rfl rfl (zhz (zi2 P h g))
theorem zj9(c:m<=7)(P:Pl S a hl N m)(g:gh (m:Nat) d=true):∃v T,appW (callF prog (n+11)) 40 [.ref a,d] S=.ok v T:=by
 obtain⟨j,f,e⟩:=zkc (n:=n+6) P g;obtain⟨r,s,w,K,i,b,h⟩:=P.k j f;have k:exX (callF prog (n+10)) (onX "tree" [(0,36),(1,40)]) [some (.ref a),some d] S=(appW (callF prog (n+10)) 36 [.ref (N+2*j)] S).ne:=by show Out.bind _ _=_;rw[znP P,e,zan];unfold mthX;rw[zaW b];rfl
 have t:=znz (k:=r) (m:=n+3-2*r) b h c (by lia);rw[show 2*r+(n+3-2*r)+6+1=n+10 by lia]at t;rw[t]at k;exact⟨_,_,zli (F:=zcs) rfl rfl (zhy (δ:=[some (.ref a),some d]) k)⟩
theorem zgT(c:m<=7)(P:Pl S a hl N m)(g:gh (m:Nat) d=true):∃v T,appW (callF prog (n+11)) 38 [.ref a,d] S=.ok v T:=by
 obtain⟨j,f,e⟩:=zkc P g;obtain⟨r,s,w,K,i,b,h⟩:=P.k j f;have k:exX (callF prog (n+10)) (onX "ending" [(0,32),(1,38)]) [some (.ref a),some d] S=(appW (callF prog (n+10)) 32 [.ref (N+2*j)] S).ne:=by show Out.bind _ _=_;rw[znP P,e,zan];unfold mthX;rw[zaW b];rfl
 have t:=zmp (m:=n+2-2*r) b h c (by lia);rw[show 2*r+(n+2-2*r)+6+1+1=n+10 by lia]at t;rw[t]at k;exact⟨_,_,zli rfl rfl (zhy k)⟩
noncomputable def askB:TrB:=.ite (.tst J2) (.runX (.meth "tree" [(0,36),(1,40)] J0 #[J1])) (.runX (.meth "ending" [(0,32),(1,38)] J0 #[J1]))
noncomputable abbrev Ea(a:Nat)(d:D)(b:Bool)(c e:Option D):Ev:=[some (.ref a),some d,some (.bl b),c,e]
theorem zp3{cf:CF}{b:Bool}(P:Pl S a hl N m):exT cf askB (Ea a d b (some .non) none) S=(appW cf (if b then 40 else 38) [.ref a,d] S).bind fun _ c=>.ok (Ea a d b (some .non) none) c:=by obtain⟨e,p⟩:=P.p;unfold askB;rw[exT,show evT cf (.tst J2) (Ea a d b (some .non) none) S=.ok b S from rfl];cases b with| true=>show Out.bind (mthX "tree" _ (.ref a) S _) _=_;unfold mthX;rw[zaW p];rfl| false=>show Out.bind (mthX "ending" _ (.ref a) S _) _=_;unfold mthX;rw[zaW p];rfl
theorem zlL{c:Bool}(h:m<=7)(P:Pl S a hl N m)(g:gh (m:Nat) d=true):app (callF prog (n+12)) 29 [.ref a,d,.bl c] S=.ok .non S:=by
 have f:=P.mono fun l o e=>by rw[zaB];exact e
 have i:∃v T,appW (callF prog (n+11)) (if c then 40 else 38) [.ref a,d] S.enter=.ok v T:=by cases c with|true=>exact zj9 h f g|false=>exact zgT h f g
 obtain⟨v,T,e⟩:=i;refine zaT rfl rfl ?_;left;refine zm6 (δ:=Ea a d c (some .non) none) (b:=askB) (by rw[zp3 f,e];rfl) (wS_W _ ?_);left;exact zac rfl ⟨rfl,rfl⟩
theorem zlM{c:Bool}(P:Pl S a hl N m)(h:Th S d)(g:gh (m:Nat) d=false):W (app (callF prog (n+6)) 29 [.ref a,d,.bl c] S) fun x U=>Mv [] S U/\∃e,x=.ref e/\U.get e=some (.exc 1 [("hand",d)]):=by
 have f:=P.mono fun l o e=>by rw[zaB];exact e
 have k:appW (callF prog (n+5)) (if c then 40 else 38) [.ref a,d] S.enter=.err (.ref S.enter.len) (S.enter.push (.exc 1 [("hand",d)])):=by cases c with|true=>exact zka f h.enter g|false=>exact zgU f h.enter g
 refine zhh rfl rfl ?_;left;have i:=zao S.enter (.exc 1 [("hand",d)]);refine zm7 (δ:=Ea a d c (some .non) none) (b:=askB) (by rw[zp3 f,k];rfl) i (wS_W _ ?_);have j:=Mv.push [] S.enter (.exc 1 [("hand",d)]);left;exact zek (by rw[R.enter_len];exact le_refl _) i ⟨zgZ j,_,rfl,by rw[zdn j.frz];exact i⟩
end
theorem zmV(S:R.St){a b:PySem.Str}(c:PySem.PyData.strOk a=true)(d:PySem.PyData.strOk b=true):cmpO S .NotEq (.str a) (.str b)=some (!PySem.PyData.eqv (.str a) (.str b)):=by show(eqD S (.str a) (.str b)).map (!·)=_;rw[show eqD S (.str a) (.str b)=cmpO S .Eq (.str a) (.str b) from rfl,zgm S c d];rfl
theorem q_ee(S:R.St):cmpO S .Eq (.str "") (.str "")=some true:=(zgm S (by decide +kernel) (by decide +kernel)).trans (congrArg some (by decide +kernel))
theorem q_he(S:R.St):cmpO S .Eq (.str "hand") (.str "")=some false:=(zgm S (by decide +kernel) (by decide +kernel)).trans (congrArg some (by decide +kernel))
theorem q_we(S:R.St):cmpO S .Eq (.str "word") (.str "")=some false:=(zgm S (by decide +kernel) (by decide +kernel)).trans (congrArg some (by decide +kernel))
theorem q_ce(S:R.St):cmpO S .Eq (.str "count") (.str "")=some false:=(zgm S (by decide +kernel) (by decide +kernel)).trans (congrArg some (by decide +kernel))
theorem n_ee(S:R.St):cmpO S .NotEq (.str "") (.str "")=some false:=(zmV S (by decide +kernel) (by decide +kernel)).trans (congrArg some (by decide +kernel))
theorem n_he(S:R.St):cmpO S .NotEq (.str "hand") (.str "")=some true:=(zmV S (by decide +kernel) (by decide +kernel)).trans (congrArg some (by decide +kernel))
theorem n_we(S:R.St):cmpO S .NotEq (.str "word") (.str "")=some true:=(zmV S (by decide +kernel) (by decide +kernel)).trans (congrArg some (by decide +kernel))
theorem n_ce(S:R.St):cmpO S .NotEq (.str "count") (.str "")=some true:=(zmV S (by decide +kernel) (by decide +kernel)).trans (congrArg some (by decide +kernel))
noncomputable def cA:CE:=.or (.and (.cmp .Eq J5 (.con (D.str ""))) (.cmp .IsNot J6 (.con D.non))) (.and (.cmp .NotEq J5 (.con (D.str ""))) (.cmp .Is J6 (.con D.non)))
noncomputable def cB(i:Nat):CE:=.and (.cmp .NotEq J5 (.con (D.str ""))) (.nt (.tst (.call 27 0 #[J6,J5,.loc i])))
noncomputable def rF:CS:=.ret (.con (D.bl false)) .nil
noncomputable def eK(k:Int):CE:=.call 20 0 #[J0,.con (D.int k)]
noncomputable def lB:CS:=.asg 6 (.call 29 0 #[J8,J9,J10]) (.ifS cA rF .nil (.ifS (cB 9) rF .nil .nil))
noncomputable def eS:CE:=.mk 2 41 "Setting" 2 #[J1,.bin .Mod (eK 4) Y2]
noncomputable def eO:CEs:=.cons eS #[.bin .Mod (.bin .FloorDiv (eK 4) Y2) J1,Y5]
noncomputable def l2:CS:=.asg 8 (.mk 1 37 "Oral" 1 eO) (.asg 9 (.call 21 0 #[eK 5,J1]) (.asg 5 (.call 26 0 #[J9,Y0,.con D.non,J1]) (.forS [10] (.val (.lst #[.con (D.bl true),.con (D.bl false)])) lB (.ret (.con (D.bl true)) .nil))))
noncomputable def l1:CS:=.ifS cA rF .nil (.asg 7 (.sel4 "" "hand" "word" "count" (.con D.non) J2 J3 J4 J5) (.ifS (cB 7) rF .nil l2))
theorem zms:c_law.body=.asg 1 (.bin .Add Y1 (.bin .Mod (eK 0) Y7)) (.asg 2 (.call 21 0 #[eK 1,J1]) (.asg 3 (.call 22 0 #[eK 2]) (.asg 4 (.call 23 0 #[eK 3]) (.asg 5 (.call 26 0 #[J2,J3,J4,J1]) (.asg 6 (.call 28 0 #[J1,J2,J3,J4]) l1))))):=rfl
@[irreducible]noncomputable def El(ns:List Int)(a b c d e f g h i j:Option D):Ev:=[some (.fix (ns.map .int)),a,b,c,d,e,f,g,h,i,j]
theorem if_f{cf:CF}{c:CE}{u r:CS}{δ:Ev}{S:R.St}{Q:Fl->R.St->Prop}(w:W (evT cf c δ S) fun k a=>k=false/\a=S)(q:W (exS cf r δ S) Q):W (exS cf (.ifS c u .nil r) δ S) Q:=by show W (Out.bind _ _) _;rw[zaf];refine w.mono fun k a b=>?_;obtain⟨rfl,rfl⟩:=b;exact q
noncomputable def Cz(T:R.St)(d w t:D)(a:PySem.Str)(c:D):Prop:=(a=""/\c=.non)\/(a="hand"/\∃x,c=.ref x/\T.get x=some (.exc 1 [("hand",d)]))\/(a="word"/\∃x,c=.ref x/\T.get x=some (.exc 2 [("word",w)]))\/(a="count"/\∃x,c=.ref x/\T.get x=some (.exc 0 [("told",t)]))
noncomputable def dth(d w t:D)(a:PySem.Str):D:=if a="" then .non else if a="hand" then d else if a="word" then w else t
section
variable{ns:List Int}{T:R.St}{m b:Int}{d w t:D}{n:Nat}{p1 p2 x3 x4 x7 x8 x9 y:Option D}{du:PySem.Str}{c:D}{Q:Fl->R.St->Prop}
theorem zsm(h:Cz T d w t du c):W (evT (callF prog n) cA (El ns p1 p2 x3 x4 (some (.str du)) (some c) x7 x8 x9 y) T) fun k a=>k=false/\a=T:=by unfold El cA;refine wT_W _ ?_;rcases h with⟨rfl,rfl⟩|⟨rfl,x,rfl,_⟩|⟨rfl,x,rfl,_⟩|⟨rfl,x,rfl,_⟩;left;exists q_ee _;left;exists n_ee _;left;exact⟨rfl,rfl⟩;left;exists q_he _;left;exists n_he _;left;exact⟨rfl,rfl⟩;left;exists q_we _;left;exists n_we _;left;exact⟨rfl,rfl⟩;left;exists q_ce _;left;exists n_ce _;left;exact⟨rfl,rfl⟩
theorem ztA(hd:Th T d)(a:Th T w)(e:Th T t)(h:Cz T d w t du c):W (evT (callF prog (n+2)) (cB 7) (El ns p1 p2 x3 x4 (some (.str du)) (some c) (some (dth d w t du)) x8 x9 y) T) fun k f=>k=false/\f=T:=by unfold El cB;refine wT_W _ ?_;rcases h with⟨rfl,rfl⟩|⟨rfl,x,rfl,g⟩|⟨rfl,x,rfl,g⟩|⟨rfl,x,rfl,g⟩;left;exists n_ee _;left;exact⟨rfl,rfl⟩;left;exists n_he _;left;specialize(zq5 g hd);left;exact⟨rfl,rfl⟩;left;exists n_we _;left;specialize(zsY g a);left;exact⟨rfl,rfl⟩;left;exists n_ce _;left;specialize(zsZ g e);left;exact⟨rfl,rfl⟩
theorem zsl(hd:Th T d)(h:(du=""/\c=.non)\/(du="hand"/\∃x,c=.ref x/\T.get x=some (.exc 1 [("hand",d)]))):W (evT (callF prog (n+2)) (cB 9) (El ns p1 p2 x3 x4 (some (.str du)) (some c) x7 x8 (some d) y) T) fun k a=>k=false/\a=T:=by unfold El cB;refine wT_W _ ?_;rcases h with⟨rfl,rfl⟩|⟨rfl,x,rfl,g⟩;left;exists n_ee _;left;exact⟨rfl,rfl⟩;left;exists n_he _;left;specialize(zq5 g hd);left;exact⟨rfl,rfl⟩
theorem zto(hd:Th T d)(a:Th T w)(e:Th T t)(h:Cz T d w t du c)
  (q:W (exS (callF prog (n+2)) l2 (El ns p1 (some d) (some w) (some t) (some (.str du)) (some c) (some (dth d w t du)) x8 x9 y) T) Q):W (exS (callF prog (n+2)) l1 (El ns p1 (some d) (some w) (some t) (some (.str du)) (some c) x7 x8 x9 y) T) Q:=by
 refine if_f (zsm h) ?_;have f:evE (callF prog (n+2)) (.sel4 "" "hand" "word" "count" (.con D.non) J2 J3 J4 J5) (El ns p1 (some d) (some w) (some t) (some (.str du)) (some c) x7 x8 x9 y) T=.ok (dth d w t du) T:=by unfold El;refine W.eq (wE_W _ ?_);rcases h with⟨rfl,rfl⟩|⟨rfl,x,rfl,g⟩|⟨rfl,x,rfl,g⟩|⟨rfl,x,rfl,g⟩;left;exact wOpt_of rfl ⟨rfl,rfl⟩;left;exact wOpt_of rfl ⟨rfl,rfl⟩;left;exact wOpt_of rfl ⟨rfl,rfl⟩;left;exact wOpt_of rfl ⟨rfl,rfl⟩
 show W (Out.bind _ _) _;rw[f,zan,show(El ns p1 (some d) (some w) (some t) (some (.str du)) (some c) x7 x8 x9 y).set 7 (some (dth d w t du))=El ns p1 (some d) (some w) (some t) (some (.str du)) (some c) (some (dth d w t du)) x8 x9 y by unfold El;rfl];exact if_f (ztA hd a e h) q
end
theorem zsh(m:Int)(d:D):dueS m d (.int 0) .non=if gh m d then("":PySem.Str) else("hand":PySem.Str):=by unfold dueS;rfl
theorem zrS{b:List Int}{T:R.St}{n a s N m:Nat}{d:D}{k:Bool}{p1 p2 i j l o:Option D}(u:m<=7)(P:Pl T a s N m)(hd:Th T d) :
  W (exS (callF prog (n+12)) lB (El b p1 p2 i j (some (.str (dueS (m:Nat) d (.int 0) .non))) l o (some (.ref a)) (some d) (some (.bl k))) T) fun f U=>(∃l,f=.nx (El b p1 p2 i j (some (.str (dueS (m:Nat) d (.int 0) .non))) l o (some (.ref a)) (some d) (some (.bl k))))/\Mv [] T U:=by
 rw[zsh];unfold lB;show W (Out.bind _ _) _;rw[zaf];have e:W (evE (callF prog (n+12)) (.call 29 0 #[J8,J9,J10]) (El b p1 p2 i j (some (.str (if gh (m:Nat) d then("":PySem.Str) else("hand":PySem.Str)))) l o (some (.ref a)) (some d) (some (.bl k))) T) fun c U=>Mv [] T U/\(((if gh (m:Nat) d then("":PySem.Str) else("hand":PySem.Str))=""/\c=.non)\/((if gh (m:Nat) d then("":PySem.Str) else("hand":PySem.Str))="hand"/\∃x,c=.ref x/\U.get x=some (.exc 1 [("hand",d)]))):=by generalize q:(if gh (m:Nat) d then("":PySem.Str) else("hand":PySem.Str))=z;unfold El;refine wE_W _ ?_;left;cases g:gh (m:Nat) d with| true=>refine wOut_of (zlL (n:=n) u P g) ⟨.refl _ _,.inl ⟨?_,rfl⟩⟩;rw[<-q,g];rfl| false=>refine za0 ((zlM (n:=n+6) P hd g).mono fun c U p=>⟨p.1,.inr ⟨?_,p.2⟩⟩);rw[<-q,g];rfl
 refine e.mono fun c U p=>?_;obtain⟨v,h⟩:=p;generalize(if gh (m:Nat) d then("":PySem.Str) else("hand":PySem.Str))=r at h⊢;rw[show(El b p1 p2 i j (some (.str r)) l o (some (.ref a)) (some d) (some (.bl k))).set 6 (some c)=El b p1 p2 i j (some (.str r)) (some c) o (some (.ref a)) (some d) (some (.bl k)) by unfold El;rfl];refine if_f (zsm (d:=d) (w:=.non) (t:=.non) ?_) (if_f (zsl (hd.mv v) h) ?_);rcases h with h|h;exact .inl h;exact .inr (.inl h);(conv=>lhs;whnf);rw[W_ok];exact⟨⟨_,rfl⟩,v⟩
theorem zsa{m:Nat}{c:Int}(d:1<=m):gh (m:Nat) (.int (c%(m:Nat)))=true:=by have a:=Int.emod_nonneg c (show((m:Nat):Int)≠0 by lia);have b:=Int.emod_lt_of_pos c (show(0:Int)<(m:Nat) by lia);simp[gh,a,b]
theorem ztn{ns:List Int}{T:R.St}{m:Nat}{x2 x3 x4 x5 x6 x7:Option D}(lk:T.lk=[])(m1:1<=m)(m7:m<=7) :
  W (exS (callF prog 12) l2 (El ns (some (.int (m:Nat))) x2 x3 x4 x5 x6 x7 none none none) T) fun f _=>f=.rt (.bl true):=by
 have hk:∀l∈T.lk,l<T.len:=by rw[lk];exact fun l h=>by cases h
 show W (Out.bind _ _) _;rw[zaf];have e7:W (evE (callF prog 12) (.mk 1 37 "Oral" 1 eO) (El ns (some (.int (m:Nat))) x2 x3 x4 x5 x6 x7 none none none) T) fun x U=>∃a hl N,x=.ref a/\Pl U a hl N m/\Mv [] T U:=by
  have hb:zcJ ns 4%2=0\/zcJ ns 4%2=1:=by lia
  have es:evEs (callF prog 12) #[J1,.bin .Mod (eK 4) Y2] (El ns (some (.int (m:Nat))) x2 x3 x4 x5 x6 x7 none none none) T=.ok [.int (m:Nat),.int (zcJ ns 4%2)] T:=by
   unfold El eK;refine W.eq (zdr _ ?_);left;specialize zdv;left;change by first|decide|lia|(done)|(lia)
   left;exact⟨rfl,rfl⟩
  obtain⟨x,U,e,rfl,v,l,g⟩:=W_ex (zny es hk (by lia) (by lia) (by lia) (by lia));have e2:evE (callF prog 12) (.bin .Mod (.bin .FloorDiv (eK 4) Y2) J1) (El ns (some (.int (m:Nat))) x2 x3 x4 x5 x6 x7 none none none) U=.ok (.int (zcJ ns 4/2%(m:Nat))) U:=by
   unfold El eK;refine W.eq (wE_W _ ?_);left;specialize zdv;left;change by first|decide|lia|(done)|(lia)
   left;change by lia
   left;exact⟨rfl,rfl⟩
  have ea:evEs (callF prog 12) eO (El ns (some (.int (m:Nat))) x2 x3 x4 x5 x6 x7 none none none) T=.ok [.ref T.len,.int (zcJ ns 4/2%(m:Nat)),.int 5] U:=by unfold eO eS;rw[evEs,e,zan,evEs,e2];rfl
  show W (Out.bind _ _) _;rw[ea,zan,zaf];have up:=v.trans (Mv.push [] U (.ins 1 []));obtain⟨r,hr,er⟩:=zrb hb (.inl rfl);refine(zkb (zak g) (zao U (.ins 1 [])) (zfe hk up (by lia)) (by rw[up.lk,lk];exact fun l h=>by cases h) m1 m7 (zsa m1) (by decide) (.atom (by simp[za6])) rfl er hr).mono fun x V hV=>?_;obtain⟨rfl,⟨hl,N,P⟩,vf,vk,vl,vo⟩:=hV;exact⟨U.len,hl,N,rfl,P,⟨by rw[vf,up.frz],by rw[vk,up.lk],le_trans up.len vl,fun l o _ e=>vo l o (by have:=get_lt e;lia) (up.old _ _ (by simp) e)⟩⟩
 refine e7.mono fun x U hU=>?_;obtain⟨a,hl,N,rfl,P,v⟩:=hU;rw[show(El ns (some (.int (m:Nat))) x2 x3 x4 x5 x6 x7 none none none).set 8 (some (.ref a))=El ns (some (.int (m:Nat))) x2 x3 x4 x5 x6 x7 (some (.ref a)) none none by unfold El;rfl];show W (Out.bind _ _) _;rw[zaf];have e8:W (evE (callF prog 12) (.call 21 0 #[eK 5,J1]) (El ns (some (.int (m:Nat))) x2 x3 x4 x5 x6 x7 (some (.ref a)) none none) U) fun d V=>Th V d/\Mv [] U V:=by unfold El eK;refine wE_W _ ?_;left;specialize zdv;left;exact za0 (zjt (by lia))
 refine e8.mono fun d V hV=>?_;obtain⟨hd,v2⟩:=hV;have P2:=P.mono fun l o e=>v2.old l o (by simp) e;rw[show(El ns (some (.int (m:Nat))) x2 x3 x4 x5 x6 x7 (some (.ref a)) none none).set 9 (some d)=El ns (some (.int (m:Nat))) x2 x3 x4 x5 x6 x7 (some (.ref a)) (some d) none by unfold El;rfl];show W (Out.bind _ _) _;rw[zaf];have e5:evE (callF prog 12) (.call 26 0 #[J9,Y0,.con D.non,J1]) (El ns (some (.int (m:Nat))) x2 x3 x4 x5 x6 x7 (some (.ref a)) (some d) none) V=.ok (.str (dueS (m:Nat) d (.int 0) .non)) V:=by unfold El;refine W.eq (wE_W _ ?_);left;specialize(zq8 hd Th.int (.atom (by simp[za6])));left;exact⟨rfl,rfl⟩
 rw[e5,W_ok,show(El ns (some (.int (m:Nat))) x2 x3 x4 x5 x6 x7 (some (.ref a)) (some d) none).set 5 (some (.str (dueS (m:Nat) d (.int 0) .non)))=El ns (some (.int (m:Nat))) x2 x3 x4 (some (.str (dueS (m:Nat) d (.int 0) .non))) x6 x7 (some (.ref a)) (some d) none by unfold El;rfl];generalize hδ:El ns (some (.int (m:Nat))) x2 x3 x4 (some (.str (dueS (m:Nat) d (.int 0) .non))) x6 x7 (some (.ref a)) (some d) none=δ;have el:evL (callF prog 12) (.val (.lst #[.con (D.bl true),.con (D.bl false)])) δ V=.ok ([.bl true,.bl false],[V.len]) (V.push (.lst [.bl true,.bl false])):=by
  refine W.eq (wL_W _ ?_);left;change by decide
  left;exists zao _ _;left;exact⟨rfl,rfl⟩
 refine zcE el ?_;subst hδ;have q0:∀(k:Bool)(x6 x9:Option D),asgG [10] (.bl k) (El ns (some (.int (m:Nat))) x2 x3 x4 (some (.str (dueS (m:Nat) d (.int 0) .non))) x6 x7 (some (.ref a)) (some d) x9)=some (El ns (some (.int (m:Nat))) x2 x3 x4 (some (.str (dueS (m:Nat) d (.int 0) .non))) x6 x7 (some (.ref a)) (some d) (some (.bl k))):=fun k x6 x9=>by unfold El;rfl
 rw[zaP,q0];rw[zaf];have w0:∀l o,V.get l=some o->({V.push (.lst [.bl true,.bl false]) with lk:=[V.len]++(V.push (.lst [.bl true,.bl false])).lk}:R.St).get l=some o:=fun l o e=>zak e;refine(zrS m7 (P2.mono w0) (hd.mono w0)).mono fun f V1 h1=>?_;obtain⟨⟨y6,rfl⟩,w1⟩:=h1;dsimp only;rw[zaP,q0];rw[zaf];have w2:∀l o,V.get l=some o->V1.get l=some o:=fun l o e=>w1.old l o (by simp) (w0 l o e);refine(zrS m7 (P2.mono w2) (hd.mono w2)).mono fun f V2 h2=>?_;obtain⟨⟨z6,rfl⟩,_⟩:=h2;dsimp only;rw[zaP,W_ok];refine wS_W _ ?_;left
theorem law_true(ns:List Int)(_:ns.length<=63):W (callF prog 13 30 [.fix (ns.map .int)] ⟨[],[],[]⟩) fun d _=>d=.bl true:=by
 have key:W (exS (callF prog 12) c_law.body (zaq c_law [.fix (ns.map .int)]) ⟨[],[],[]⟩) fun f _=>f=.rt (.bl true):=by
  rw[zms,show zaq c_law [.fix (ns.map .int)]=El ns none none none none none none none none none none by unfold El;rfl];obtain⟨m,hm⟩:∃m:Nat,1+zcJ ns 0%7=(m:Nat):=⟨(1+zcJ ns 0%7).toNat,by lia⟩;have m1:1<=m:=by lia
  have m7:m<=7:=by lia
  have e1:evE (callF prog 12) (.bin .Add Y1 (.bin .Mod (eK 0) Y7)) (El ns none none none none none none none none none none) ⟨[],[],[]⟩=.ok (.int (m:Nat)) ⟨[],[],[]⟩:=by
   unfold El eK;refine W.eq (wE_W _ ?_);left;specialize zdv;left;change by first|decide|lia|(done)|(lia)
   left;exact⟨by rw[<-hm],rfl⟩
  show W (Out.bind _ _) _;rw[e1,zan,show(El ns none none none none none none none none none none).set 1 (some (.int (m:Nat)))=El ns (some (.int (m:Nat))) none none none none none none none none none by unfold El;rfl];show W (Out.bind _ _) _;rw[zaf];have e2:W (evE (callF prog 12) (.call 21 0 #[eK 1,J1]) (El ns (some (.int (m:Nat))) none none none none none none none none none) ⟨[],[],[]⟩) fun d V=>Th V d/\Mv [] ⟨[],[],[]⟩ V:=by unfold El eK;refine wE_W _ ?_;left;specialize zdv;left;exact za0 (zjt (by lia))
  refine e2.mono fun d T hT=>?_;obtain⟨hd,v1⟩:=hT;rw[show(El ns (some (.int (m:Nat))) none none none none none none none none none).set 2 (some d)=El ns (some (.int (m:Nat))) (some d) none none none none none none none none by unfold El;rfl];show W (Out.bind _ _) _;rw[zaf];have e3:W (evE (callF prog 12) (.call 22 0 #[eK 2]) (El ns (some (.int (m:Nat))) (some d) none none none none none none none none) T) fun w V=>Th V w/\Mv [] T V:=by unfold El eK;refine wE_W _ ?_;left;specialize zdv;left;exact za0 (zoz)
  refine e3.mono fun w U hU=>?_;obtain⟨hw,v2⟩:=hU;rw[show(El ns (some (.int (m:Nat))) (some d) none none none none none none none none).set 3 (some w)=El ns (some (.int (m:Nat))) (some d) (some w) none none none none none none none by unfold El;rfl];show W (Out.bind _ _) _;rw[zaf];have e4:W (evE (callF prog 12) (.call 23 0 #[eK 3]) (El ns (some (.int (m:Nat))) (some d) (some w) none none none none none none none) U) fun t V=>(Th V t/\(gt t=true->t=.non\/t=.int 1\/t=.int 2))/\Mv [] U V:=by unfold El eK;refine wE_W _ ?_;left;specialize zdv;left;exact za0 (zlK)
  refine e4.mono fun t U2 hU2=>?_;obtain⟨⟨ht,hg⟩,v4⟩:=hU2;have hd2:=(hd.mv v2).mv v4;have hw2:=hw.mv v4;rw[show(El ns (some (.int (m:Nat))) (some d) (some w) none none none none none none none).set 4 (some t)=El ns (some (.int (m:Nat))) (some d) (some w) (some t) none none none none none none by unfold El;rfl];show W (Out.bind _ _) _;rw[zaf];have e5:evE (callF prog 12) (.call 26 0 #[J2,J3,J4,J1]) (El ns (some (.int (m:Nat))) (some d) (some w) (some t) none none none none none none) U2=.ok (.str (dueS (m:Nat) d w t)) U2:=by unfold El;refine W.eq (wE_W _ ?_);left;specialize(zq8 hd2 hw2 ht);left;exact⟨rfl,rfl⟩
  rw[e5,W_ok,show(El ns (some (.int (m:Nat))) (some d) (some w) (some t) none none none none none none).set 5 (some (.str (dueS (m:Nat) d w t)))=El ns (some (.int (m:Nat))) (some d) (some w) (some t) (some (.str (dueS (m:Nat) d w t))) none none none none none by unfold El;rfl];show W (Out.bind _ _) _;rw[zaf];have e6:W (evE (callF prog 12) (.call 28 0 #[J1,J2,J3,J4]) (El ns (some (.int (m:Nat))) (some d) (some w) (some t) (some (.str (dueS (m:Nat) d w t))) none none none none none) U2) fun c V=>Mv [] U2 V/\Cz V d w t (dueS (m:Nat) d w t) c:=by generalize hz:dueS (m:Nat) d w t=z;unfold El;refine wE_W _ ?_;left;unfold dueS at hz;cases g:gh (m:Nat) d with| false=>rw[g]at hz;exact za0 ((zox m1 m7 hd2 g).mono fun c V hV=>⟨hV.1,.inr (.inl ⟨hz.symm,hV.2⟩)⟩)| true=>rw[g]at hz;cases g2:gw w with| false=>rw[g2]at hz;exact za0 ((zow m1 m7 hd2 g hw2 g2).mono fun c V hV=>⟨hV.1,.inr (.inr (.inl ⟨hz.symm,hV.2⟩))⟩)| true=>rw[g2]at hz;cases g3:gt t with| false=>rw[g3]at hz;exact za0 ((zov m1 m7 hd2 g hw2 g2 ht g3).mono fun c V hV=>⟨hV.1,.inr (.inr (.inr ⟨hz.symm,hV.2⟩))⟩)| true=>rw[g3]at hz;exact wOut_of (zou m1 m7 g g2 ht g3 (hg g3)) ⟨.refl _ _,.inl ⟨hz.symm,rfl⟩⟩
  refine e6.mono fun c V hV=>?_;obtain⟨v3,hc⟩:=hV;rw[show(El ns (some (.int (m:Nat))) (some d) (some w) (some t) (some (.str (dueS (m:Nat) d w t))) none none none none none).set 6 (some c)=El ns (some (.int (m:Nat))) (some d) (some w) (some t) (some (.str (dueS (m:Nat) d w t))) (some c) none none none none by unfold El;rfl];exact zto (hd2.mv v3) (hw2.mv v3) (ht.mv v3) hc (ztn (by rw[v3.lk,v4.lk,v2.lk,v1.lk]) m1 m7)
 have hP:prog[30]?=some c_law:=rfl;show W (Out.bind (exS (callF prog 12) c_law.body (zaq c_law [.fix (ns.map .int)]) ⟨[],[],[]⟩).ne _) _;rw[zaf,W_ne];refine key.mono fun f T h=>?_;subst h;rfl
end
section
open PySem R L2
theorem p_tally{P:Program}{w:World}{K:PySem.W.Frag}{h base:Heap}{b:Str->Option Value}{f d:Addr}{i kV m o ct:Value}{od q:Option Addr}{r:Array (Option Value)}(X:K.In h)(G:h.Ns mainGlobals b)(s:BM b base)(a:nsIn K mainGlobals "tally"=some (some (.ref f)))(l:K.lookup f=some ⟨i,od,.func (fnOf "tally" "tally" (zar zcx) (zal zcx) (zaa zcx) .none kV m o q (.ref d) ct),r⟩)(c:codeIn K (.ref d) "tally"=true)(k:keepIn K (.ref f)=true)(e:codeHdIn K d 199=true)(z:nsIn K mainGlobals "sorted"=some none):DefOk K b tab prog 6 "tally" ["words"] 0\/PrimOk P w K b base tab prog 6 "tally" ["words"] 0:=.inr ⟨⟨zhd,.tally,_,_,rfl,rfl,rfl,mg_of X G a,k,(fun j t=>(Nat.le_zero.mp t).symm▸(zbY l c k).binds fun _ _ _ _ _ _ u v=>match u,v with | [_],_=>rfl),fun n x _=>(zlr l c e zlq s (by decide +kernel) (fun p g z=>by simp only[Mks.ts,mem_cons,not_mem_nil,or_false]at g;rcases g with rfl|rfl<;>first|decide +kernel|exact absurd z (by decide)) (PySem.W.mg_none_of X G z) rfl rfl rfl x).mono (by lia)⟩⟩
theorem lam_mem:(tab.lamP,("run":Str) ++ ".<locals>." ++ "<lambda>")∈Mks.ts:=by decide +kernel
theorem lam_one:∀p∈Mks.ts,p.1=tab.lamP->p.2=("run":Str) ++ ".<locals>." ++ "<lambda>":=by intro p a z;simp only[Mks.ts,mem_cons,not_mem_nil,or_false]at a;rcases a with rfl|rfl<;>first|decide +kernel|exact absurd z (by decide +kernel)
theorem lam_b:∀j,j<=1->∃n,(["hands","rounds","wires"]:List Str).length=n+j/\∀(d:Addr)(kV a e:Value)(f:Option Addr)(b ct:Value)(us:List Value),us.length=n->∃k,bindArgs (fnOf "run" "run" (zar zhF) (zal zhF) (zaa zhF) (.ref d) kV a e f b ct) ⟨us,[]⟩=seqItems? (.ref d)>>=k/\k (some [Value.none].toArray)=pure ((["hands","rounds","wires"]:List Str).zip (us++List.replicate j Value.none))
 |0,_=>⟨3,rfl,fun _ _ _ _ _ _ _ us c=>match us,c with | [_,_,_],_=>⟨_,rfl,rfl⟩⟩|1,_=>⟨2,rfl,fun _ _ _ _ _ _ _ us c=>match us,c with | [_,_],_=>⟨_,rfl,rfl⟩⟩
theorem db_paths:∀j,j<=1->∃n,(["many","sender","length","without"]:List Str).length=n+j/\∀(d:Addr)(kV a e:Value)(f:Option Addr)(b ct:Value)(us:List Value),us.length=n->∃k,bindArgs (fnOf "paths" "paths" (zar zdj) (zal zdj) (zaa zdj) (.ref d) kV a e f b ct) ⟨us,[]⟩=seqItems? (.ref d)>>=k/\k (some [Value.none].toArray)=pure ((["many","sender","length","without"]:List Str).zip (us++List.replicate j Value.none))
 |0,_=>⟨4,rfl,fun _ _ _ _ _ _ _ us c=>match us,c with | [_,_,_,_],_=>⟨_,rfl,rfl⟩⟩|1,_=>⟨3,rfl,fun _ _ _ _ _ _ _ us c=>match us,c with | [_,_,_],_=>⟨_,rfl,rfl⟩⟩
end
end Kz
open PySem PySem.W PyProof.Rows
set_option maxRecDepth 100000 in
set_option maxHeartbeats 0 in
theorem PySem.Challenge.cw_traitorround_k37_oral_refused_holds : PySem.Challenge.rw_traitorround_k37_oral_refused.Holds := by
 w_on;o_law;k_head;(case hw=>w_witness2)
 k_fill
 refine R.walk_ofT (l:=PySem.Challenge.rw_traitorround_k37_oral_refused) (n:=63) (k:=27) (x:="_law_script") (sp:=fun w=>R.spF _ (R.callF Kz.prog 13) 30) rfl (by decide) rfl ⟨rfl,by decide,by decide⟩ (fun w h Y=>PySem.W.km_in_of Y) ?hT ?hK ?F (fun _ _ a ns hl hx tb=>R.law_spT hx tb (Kz.law_true ns hl))
 case hT=>intro w h Y p hp;simp only[R.Mks.ts,Kz.mks,mem_cons,not_mem_nil,or_false]at hp;rcases hp with rfl|rfl;exact PySem.W.km_tabs_of Y 199 (by simp);exact PySem.W.km_tabs_of Y 317 (by simp)
 case hK=>intro w p hp;simp only[R.Mks.ts,Kz.mks,mem_cons,not_mem_nil,or_false]at hp;rcases hp with rfl|rfl;exact⟨by with_unfolding_all rfl,203,by with_unfolding_all rfl⟩;exact⟨by with_unfolding_all rfl,321,by with_unfolding_all rfl⟩
 case F=>
  intro w mg fa h KX G hmg;apply R.all_of (n:=12) KX G hmg Kz.O42 (le_refl _)
  . (repeat' (first|exact trivial|apply R.AllAtG.cons|apply R.AllInG.cons))
    . apply R.clOk (c:=0) KX G rfl<;>first|k_is|((repeat' (first|exact trivial|apply R.AllAtG.cons|apply R.AllInG.cons))<;>k_is)
    . apply R.clOk (c:=1) KX G rfl<;>first|k_is|((repeat' (first|exact trivial|apply R.AllAtG.cons|apply R.AllInG.cons))<;>k_is)
    . apply R.clOk (c:=2) KX G rfl<;>first|k_is|((repeat' (first|exact trivial|apply R.AllAtG.cons|apply R.AllInG.cons))<;>k_is)
  . (repeat' (first|exact trivial|apply R.AllAtG.cons|apply R.AllInG.cons))<;>k_is
  . (repeat' (first|exact trivial|apply R.AllAtG.cons|apply R.AllInG.cons))<;>(first|apply R.coOk|apply R.coOkS)<;>k_is
  . intro base bm
    (repeat' (first|exact trivial|apply R.AllAtG.cons|apply R.AllInG.cons))
    . apply R.dOk KX G Kz.O27<;>k_is
    . apply R.dOk KX G Kz.O32<;>k_is
    . apply R.dOk KX G Kz.O36<;>k_is
    . apply R.dOk KX G Kz.O26<;>k_is
    . apply R.dOk KX G Kz.O33<;>k_is
    . apply R.dOk KX G Kz.O34<;>k_is
    . apply Kz.p_tally KX G bm<;>first|k_is|with_unfolding_all rfl
    . apply R.dOk KX G Kz.O40<;>k_is
    . apply R.dOk KX G Kz.O12<;>k_is
    . apply R.dOkD KX G Kz.O38 Kz.db_paths<;>k_is
    . apply R.lOkD KX G bm Kz.O41 Kz.lam_mem Kz.lam_one Kz.lam_b<;>first|k_is|with_unfolding_all rfl
    . apply R.dOk KX G Kz.O35<;>k_is
    . apply R.dOk KX G Kz.O30<;>k_is
    . apply R.dOk KX G Kz.O11<;>k_is
    . apply R.dOk KX G Kz.O14<;>k_is
    . apply R.dOk KX G Kz.O22<;>k_is
    . apply R.dOk KX G Kz.O39<;>k_is
    . apply R.dOk KX G Kz.O29<;>k_is
    . apply R.dOk KX G Kz.O10<;>k_is
    . apply R.dOk KX G Kz.O13<;>k_is
    . apply R.dOk KX G Kz.O9<;>k_is
    . apply R.dOk KX G Kz.O24<;>k_is
    . apply R.dOk KX G Kz.O25<;>k_is
    . apply R.dOk KX G Kz.O20<;>k_is
    . apply R.dOk KX G Kz.O15<;>k_is
    . apply R.dOk KX G Kz.O21<;>k_is
    . apply R.dOk KX G Kz.O31<;>k_is
    . apply R.dOk KX G Kz.O37<;>k_is
    . apply R.dOk KX G Kz.O28<;>k_is
    . apply R.dOk KX G Kz.O18<;>k_is
    . apply R.dOk KX G Kz.O42<;>k_is
  . intro hc
    (repeat' (first|exact trivial|apply R.AllAtG.cons|apply R.AllInG.cons))
    . apply R.mOk (c:=0) hc Kz.O1 rfl rfl<;>k_is
    . apply R.mOk (c:=1) hc Kz.O8 rfl rfl<;>k_is
    . apply R.mOk (c:=1) hc Kz.O5 rfl rfl<;>k_is
    . apply R.mOk (c:=0) hc Kz.O2 rfl rfl<;>k_is
    . apply R.mOk (c:=0) hc Kz.O0 rfl rfl<;>k_is
    . apply R.mOk (c:=0) hc Kz.O7 rfl rfl<;>k_is
    . apply R.mOk (c:=0) hc Kz.O3 rfl rfl<;>k_is
    . apply R.mOk (c:=1) hc Kz.O16 rfl rfl<;>k_is
  . (repeat' (first|exact trivial|apply R.AllAtG.cons|apply R.AllInG.cons))
    . apply R.iOk (c:=0) Kz.O4 rfl<;>k_is
    . apply R.iOkD (c:=1) (n:=5) (items:=#[Value.none]) Kz.O17 rfl (fun _ _ _ _ _ _ _=>Kz.us5 fun _ _ _ _ _=>⟨_,rfl,rfl⟩) rfl<;>k_is
    . apply R.iOkD (c:=2) (n:=3) (items:=#[Value.none,Value.none]) Kz.O6 rfl (fun _ _ _ _ _ _ _=>Kz.us3 fun _ _ _=>⟨_,rfl,rfl⟩) rfl<;>k_is
    . apply R.iOkD (c:=1) (n:=4) (items:=#[Value.none]) Kz.O17 rfl (fun _ _ _ _ _ _ _=>Kz.us4 fun _ _ _ _=>⟨_,rfl,rfl⟩) rfl<;>k_is
  . (repeat' (first|exact trivial|apply R.AllAtG.cons|apply R.AllInG.cons))
    . apply R.cOk KX G Kz.O19<;>k_is
    . apply R.cOk KX G Kz.O23<;>k_is
  . (repeat' (first|exact trivial|apply R.AllAtG.cons|apply R.AllInG.cons))
  decide +kernel
  . (repeat' (first|exact trivial|apply R.AllAtG.cons|apply R.AllInG.cons))<;>apply R.XGet.mk<;>k_is
  . (repeat' (first|exact trivial|apply R.AllAtG.cons|apply R.AllInG.cons))<;>apply R.IsaOk.mk<;>k_is
  . (repeat' (first|exact trivial|apply R.AllAtG.cons|apply R.AllInG.cons))
    . apply R.xcOk (c:=0) KX G Kz.ox_NoCount rfl<;>first|k_is|with_unfolding_all rfl
    . apply R.xcOk (c:=1) KX G Kz.ox_NoHand rfl<;>first|k_is|with_unfolding_all rfl
    . apply R.xcOk (c:=2) KX G Kz.ox_NoWord rfl<;>first|k_is|with_unfolding_all rfl
  . (repeat' (first|exact trivial|apply R.AllAtG.cons|apply R.AllInG.cons))<;>(repeat' (first|exact trivial|apply R.AllAtG.cons|apply R.AllInG.cons))<;>k_is
  . (repeat' (first|exact trivial|apply R.AllAtG.cons|apply R.AllInG.cons))
    . apply R.xisOk KX G<;>first|k_is|((repeat' (first|exact trivial|apply R.AllAtG.cons|apply R.AllInG.cons))<;>first|k_is|with_unfolding_all rfl)
    . apply R.xisOk KX G<;>first|k_is|((repeat' (first|exact trivial|apply R.AllAtG.cons|apply R.AllInG.cons))<;>first|k_is|with_unfolding_all rfl)
    . apply R.xisOk KX G<;>first|k_is|((repeat' (first|exact trivial|apply R.AllAtG.cons|apply R.AllInG.cons))<;>first|k_is|with_unfolding_all rfl)
    . apply R.xisOk KX G<;>first|k_is|((repeat' (first|exact trivial|apply R.AllAtG.cons|apply R.AllInG.cons))<;>first|k_is|with_unfolding_all rfl)
    . apply R.xisOk KX G<;>first|k_is|((repeat' (first|exact trivial|apply R.AllAtG.cons|apply R.AllInG.cons))<;>first|k_is|with_unfolding_all rfl)
    . apply R.xisOk KX G<;>first|k_is|((repeat' (first|exact trivial|apply R.AllAtG.cons|apply R.AllInG.cons))<;>first|k_is|with_unfolding_all rfl)
  . (repeat' (first|exact trivial|apply R.AllAtG.cons|apply R.AllInG.cons))
    . apply R.xibOk KX G (by decide) rfl<;>first|k_is|((repeat' (first|exact trivial|apply R.AllAtG.cons|apply R.AllInG.cons))<;>first|k_is|with_unfolding_all rfl)
  . (repeat' (first|exact trivial|apply R.AllAtG.cons|apply R.AllInG.cons))
    . apply R.xtrOk KX G<;>first|k_is|((repeat' (first|exact trivial|apply R.AllAtG.cons|apply R.AllInG.cons))<;>first|k_is|with_unfolding_all rfl)
  all_goals k_is
end

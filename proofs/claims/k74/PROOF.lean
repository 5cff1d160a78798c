import PyProof.Rows.All
import Wide.All
import OpenK.AllK
import Wide.FinOn
import Lean
import PyProof.EqAt
import PyProof.EqKinds
import PyProof.TupleCall
import PyProof.P3Statements
import PySem.Syntax
import PyProof.Dict
import PyProof.Rows.SortRuns
import PySem.Challenge.RW_traitorround_k74_kings_rings
set_option Elab.async false
set_option linter.all false
set_option maxHeartbeats 4000000
set_option maxRecDepth 100000
set_option bootstrap.genMatcherCode false
set_option genInjectivity false
set_option genSizeOf false
set_option genSizeOfSpec false
local macro_rules|`(command|def $n:declId $b:bracketedBinder* : $t $v:declVal)=>`(command|theorem $n:declId $b:bracketedBinder* : $t $v:declVal)
local macro_rules|`(command|abbrev $n:declId $s:optDeclSig $v:declVal)=>`(command|noncomputable def $n:declId $s:optDeclSig $v:declVal)
open Option renaming some→Φ,none→Ψ,bind_some→Ϟ
open Bool renaming true→Γ,false→Δ,and_eq_true→Ξ,false_ne_true→Ζ,eq_iff_iff→ϙ,or_eq_true→Ϝ
open PySem renaming Value→Θ,wpAny_bind→Α,Shared→Β,wpAny_pure→Ν,sizeLine_eq→Τ,Program→ϊ,World→ύ,wpAny_mono→ϑ,wpAny_truthy_bool→ϒ,Around→ϔ,wpAny_Call_Name_kw→ϕ
open PySem.Heap renaming get?_push_of_some→Λ,lt_size→Η,get?_push_size→Κ
open List renaming getElem?_eq_some_iff→Ω,map_cons→Μ,mem_cons_of_mem→Ο,map_congr_left→Ρ,getD_eq_getElem?_getD→Υ,length_cons→Χ,mem_cons_self→ϋ,zip_cons_cons→ϐ,lookup_cons→ϓ,prefix_append→ϖ,pairwise_map→Ϙ,mapM_cons→ϛ,prefix_refl→ϟ,length_range→ϡ,append_nil→Ϣ,pairwise_cons→ϣ,length_nil→Ϥ
open PyProof.Rows renaming wpS_bind→Ε,wpS_pure→Ι,wpS_forRange→ϗ,wpS_mono→Ϛ,wpS_modify→Ϡ
open Array renaming toList_append→ό,getElem_toList→ώ
open Nat renaming mod_eq_of_lt→ϝ
open PySem.W (Frag KatTups callWith_K callWith_K0 cellsFrom_some codeHdIn codeIn emptyDict findCls findIn fnOf handedIn hasDictIn instObj isFn kat_cons kat_no kat_one keepIn kia_one kitOne kitx_dict kitx_list kla_fn kla_obj lookIn makesIn methodObj mg_of mroIn nsIn plainGet plainGet_of plainOver readsIn specialIn tabObj takerIn takesIn)
open Bool (and_eq_true not_eq_true' or_eq_true)
open Nat (le_of_lt le_refl le_succ le_trans lt_irrefl lt_of_lt_of_le lt_trans ne_of_gt ne_of_lt zero_add zero_le)
open List (Pairwise all_cons all_eq_true any_cons append_assoc append_nil contains_cons getElem?_append_left getElem?_append_right getElem?_eq_getElem getElem?_map getElem?_set_ne getElem?_set_self isEmpty_iff length_append length_cons length_filter_le length_map length_nil length_range length_replicate length_take lookup_cons mapM_cons map_append map_cons map_map map_nil mem_append mem_append_left mem_append_right mem_cons mem_cons_of_mem mem_cons_self mem_filter mem_map mem_of_getElem? mem_range mem_singleton nodup_append nodup_cons not_mem_nil of_mem_zip pairwise_cons pairwise_map prefix_append prefix_refl size_toArray)
open Option (bind_some)
open Array (length_toList)
structure PySem.W.Fast:Prop where(tw10061883314942984631 tw10156864423485188479 tw1018723179149922950 tw10302260109514825268 tw10325945755977128207 tw10594596619611778354 tw10807491422123783208 tw10835867557746790837 tw10899791077968338967 tw10931876242014743474 tw1093387898957153735 tw11136271666375528748 tw1117419011348730003 tw11219302519288358966 tw11224305140563810589 tw11272685160980197100 tw11273301292782056478 tw11292620315696149887 tw11430536468834992651 tw11463802971015927007 tw11551262250558863419 tw11612218578801115570 tw11704445020992267047 tw11836524685006013603 tw11842581984952405058 tw11864438490389535836 tw11937869637078975349 tw11938660830837496235 tw11995160292596962048 tw12005073541673533393 tw12011947985915239620 tw12019613889585552073 tw12246661475618190668 tw12370518223940983909 tw12377445058431000530 tw12474562579598441080 tw12537399933287563197 tw125470150767074515 tw12627257143268598886 tw12767174997949125422 tw12805645268589160918 tw12807909051041661778 tw12959934971137883302 tw13017170991939736366 tw13056141217110131179 tw131477489197189598 tw13316344905731389465 tw13373060852354197684 tw1340127039534921608 tw13416079774712018540 tw1353433920579526787 tw13667344838457855005 tw13686118280443488921 tw13726173650963008624 tw1373058132478831101 tw13843464366874900600 tw13945094474679752934 tw14016911413114639170 tw14087504491603364148 tw14115985632303619321 tw141350564387862460 tw14185905140775579642 tw14351732252759587454 tw14566089357938539543 tw146107114988439918 tw14847410977932170701 tw14910190379521285230 tw14970165411623725766 tw1500125042660486875 tw15035849001750778417 tw15225380219691617052 tw15399331662255722372 tw15632932083032308203 tw15706301080728280099 tw15732271212584502372 tw1587128381696156963 tw15881128664206179341 tw15986848949931770057 tw16142606770513671959 tw16171221528775351790 tw16339968829843841476 tw16367462696751001162 tw16488804416823359623 tw16492199806706254871 tw1649270971735228263 tw16529013328365142470 tw16740921354056207024 tw16771223360373880016 tw16781366862563383916 tw16842898826316893781 tw16868500006241581359 tw16950324641987925376 tw17015956437608713312 tw17060335622593503275 tw17068068681299681399 tw17124361032964700252 tw17209719452650073641 tw17433449094050125585 tw17451715405360519088 tw17624647453042572032 tw17700737320100581767 tw17836524437432838522 tw17843264548336099435 tw18051640021344241768 tw18092764580766150846 tw18107928871280967400 tw18133325253989948257 tw18147985268297800191 tw18151897811267454101 tw18334451321182491463 tw1834634320263023725 tw18403547672733530868 tw18426541468695183270 tw1955374958314501274 tw1957438661976001809 tw1976496310143257554 tw2156756367493700565 tw2159915251626356759 tw219043445208075538 tw2447294199953911058 tw245580299451889586 tw2518969092541464760 tw2529167958857606800 tw261965835007892456 tw2620216603864597113 tw2716576036437247364 tw2868139193201365255 tw2906481277395182759 tw3026429514151565828 tw3113597278865558467 tw3127979958729438374 tw3133383270435635822 tw3148155330789733314 tw3155733120147818179 tw3327053212867333092 tw3424778793312700468 tw3449100115208305106 tw3583194911277286193 tw375078871485509580 tw3884462964408131368 tw3923883047974748514 tw3933603191534116854 tw393603802875912358 tw3998952429436154887 tw4088748738885630049 tw412175114393211362 tw4255980100724363116 tw4433909380146776339 tw4554405835546974207 tw4557988217024115740 tw4608678590514841383 tw4657259917700644961 tw4889847562130944212 tw4975319188010974049 tw5116406743012825342 tw5173058736095024940 tw5198414294884900241 tw5225448884612031065 tw5438920883726918095 tw551279061487374729 tw567149100547892782 tw5675346435657310733 tw574664141465281533 tw5778448601774561987 tw5779007127388268520 tw5783925145504069909 tw5965913663649123086 tw5972120414680846815 tw5989526019998261525 tw6210589760842432883 tw6239121133944678493 tw6246188370268640269 tw6355621872861801856 tw6412186777086615630 tw6431609132720049281 tw6473630244103980706 tw6515346573648372304 tw6516074620050627634 tw6568121469688420707 tw6584721027157055479 tw6737224819697124940 tw6758375871485198076 tw6773665910102700070 tw6855625066816206166 tw7087190986880094726 tw7097596700691486943 tw7174519808611661326 tw7311331406665289805 tw7433184276132851635 tw7530353571478488294 tw7574409326915233536 tw7693906914403981540 tw7742099574639764025 tw783692531632110675 tw7853571478050641041 tw7908008437186191675 tw7921190255396761397 tw8058673869139143887 tw8083141979350146232 tw8117303210214940111 tw8389549042571381714 tw8457769901856464824 tw8475245600278752750 tw8639176054440554548 tw8780739993469056752 tw8830086026128627917 tw8924099682696892634 tw895478362623985277 tw9000228950045117816 tw9120966664841567257 tw9220598010724225793 tw9250154538582339164 tw9278286554367009325 tw934910648753954435 tw936200408942828406 tw9397363771926378880 tw9426390922247069714 tw9473819636106965799 tw9690414120495213100 tw9719454912995025131 tw9739789436672579549 tw980347066114906848 tw14292498497650217690 tw3388801409482561523 tw4211755219284914903 tw9024795987180964479 tw10432436940338999282 tw10960278412946385450 tw11188109023175359104 tw14046848978371206903 tw14127309188286210099 tw15334390242133094712 tw15486703643769859745 tw15638419515432103526 tw256255098990926908 tw3348421781025266587 tw510783638870460121 tw6448108728113622274 tw8755997828612251742 tw955702539498476530 tw9938528710583623176 tw10171433065260118068 tw10522554623257943466 tw108528644591447099 tw11315161469495712863 tw12873358823682752828 tw15060466648080929330 tw16892137488496252173 tw4704533577690755131 tw5379687326870850426 tw734589230696544734 tw10939302447742736071 tw11738382587245624911 tw12285275844214723147 tw12332175578642762594 tw1323320750154444659 tw13474928360421520996 tw1419518489796933090 tw14857821781608150093 tw15550811803862467794 tw161464849446262081 tw17509344378947322897 tw17935073581344108302 tw18154924909615920090 tw5072011051111054931 tw7427941881248502817 tw8048210129533281731 tw8286505950805930341 tw9987928477423442810 tw6384656974986098993 tw2190040925926924680 tw10659960376991671386 tw10951449008945091042 tw11075655800574192332 tw12802889955977172324 tw15256055376944617802 tw17323572006665363160 tw17764235432774158828 tw2637851736037558616 tw5331509939120521983 tw5638442141957031937 tw62423102913070546 tw7036449493061467639 tw7122367446969743130 tw7772183580798338040 tw818141597587386073 tw9905184330287967082 tw594342764682646057 tw10094760719443700507 tw17620220854628583190 tw11860733031132286672 tw15615378743570206602 tw15964667297311264183 tw1680912275330139626 tw17475055968940819532 tw17911383015988555779 tw4025508753259542662 tw4587255591753953675 tw4975512282199186874 tw55769249253972847 tw5749263175831417645 tw6524231576185330726 tw8482376719741984663 tw8577170466856403026 tw9187631933445536370 tw9335948290656154213 tw9890356985794655865 tw9964355370557545790 tw9990490660139671410 tw13009557498531675784 tw16008093731967571048 tw185662753089483232 tw2257824500749931137 tw2742310846627568949 tw3368615363786287128 tw7083780784375754443 tw7723481413998585835 tw2731300256428309685 tw6943854604108748477 tw17767925052598359367 tw4801302001940054249 tw2831725577615151964 tw7184231333706369851 tw12742151868115874068 tw14900401278243193904 tw16921648272457746472 tw222924054499100229 tw3054770769746464097 tw4078328886251248881 tw8124968384431487432 tw8891674497203259951 tw1875200770246015493 tw3194252577347776096 tw4773607637693251657 tw8751003656169665490 tw9130291010355323812 tw10338881299869779175 tw10830626343455160363 tw12678475138703212938 tw14838642227750663267 tw15113781101245858075 tw18378662550730445707 tw2775526346893784092 tw2889546016001721127 tw373274708168422226 tw4558915883995455835 tw5879963272757077932 tw67603367865682122 tw12829085024180604783 tw17755158713049450224 tw8752305280835584237 tw17113917029021803106 tw17355333553764740080 tw10839394510846947059 tw12716676643526255812 tw14684116625405689566 tw7652280324949575002 tw12147362003492260972 tw3990263492069807845 tw452000622959387767 tw12300942619740343653 tw1017292760771377775 tw14383877212841626989 tw3748892920030384330 tw9394543610197465490 tw1821909514950918143 tw5460711143498733742 tw11820562454680590444 tw3565676766533696858 tw5156292171661059283 tw6334713590404275507 tw14666455570328908786 tw17824411911783211252 tw2190624561145066861 tw5523957611396193633 tw16687194727837173938 tw12400848380585036827 tw12657720148793178802 tw15841293460880937896 tw4786477020707327655 tw5620228538017643641 tw7976200884226029091 tw3529985688574290595 tw10713664937575554223 tw1362809106643426880 tw9742442860052278945 tw7770644776201844918 tw12147543937278717223 tw13942857074231206916 tw708281706392229269 tw5010478437331697867 tw9935906537805243147 tw1720338606958956295 tw11636037873900769646 tw14819247301134238175 tw4889910385127226977 tw2358314534234197958 tw4006285766366265761 tw6621268409338150604 tw10756824611781033989 tw16602114015375679341 tw5454096856062506074 tw3794907983648833613 tw13503707048103846721 tw10956904217916821689 tw15996793021591266977 tw1864741241301767646 tw5107522270968925864 tw11603252835213219837 tw15213077723106365023 tw17612703772308250157 tw17712939843179243547 tw12192229627571228453 tw7087589886753403393 tw10622509073076299569 tw5644251877474030426 tw6144028897221964704 tw931409224215057908 tw9385484409208988219 tw14273460338072092396 tw15064360590808666928 tw10943995963773483657 tw5716067378967063548 tw10772324044057457593 tw14283487992709918071 tw5417597845807859472 tw6399160293451966583 tw12455335207171411843 tw2096726546036381869 tw17082403867266006512 tw16063769773540271468 tw15846728835912116603 tw5455370503464114960 tw6035282636015055166 tw15071050838989235792 tw12626652815828771670 tw15048946568697940909 tw17295096381138116230 tw12787982240117340765 tw11137515201720215446 tw434020970146067346 tw485466675851002100 tw6113531763367314617 tw8211055303805734858 tw13161686394411634152 tw3753242384222827171 tw9834105554419730269 tw16631066911329502010 tw9367264218813737994 tw5985215443554865690 tw7991563151837084383 tw11263259822577485543 tw3425959880210392999 tw15456933795152833484 tw15832407646603562267 tw18382410228072184355 tw4418117307346548479 tw13350620268299009958 tw14840468588272891839 tw5636513873852724068 tw13231182365221920042 tw15806245809553270127 tw11803158585796113233 tw11733155603053187949 tw15676717625081701493 tw17671775307623599918 tw2178032750705552503 tw11287262975854449203 tw324178471581078919 tw3271835685919300987 tw4611143794444851335 tw320073331950253300 tw9430334611836776476 tw9685337979044873691 tw12406415676052063894 tw14803699111775033992 tw553271545288582277 tw12563476072544584119 tw16714813531736435716 tw10372471718503057197 tw9449448176389322412 tw1305979655158947112 tw16225296865058154782 tw4013488662426038128 tw11689090412808076380 tw3734881129079737877 tw16317209199277140548 tw16906632744846805783 tw11367258368803567321 tw11670988293597085000 tw1973755451785393967 tw8486951617374162994 tw1444531465118269510 tw10309770805518209562 tw10579124018467143067 tw1139685093402069840 tw11457927882496953021 tw11987146442110960981 tw12788324145400125893 tw7297075688937193618 tw8567046102441079200 tw9268871808762598855 tw17174384394581023196 tw46737469143689908 tw5087810833266599905 tw16934100103479962608 tw11287650467127137396 tw11832593984220501915 tw16664260353003805126 tw4272156619334492673 tw6505541595907971458 tw8627264595152926232 tw12722615691447663794 tw12964853347868837874 tw1708268181680541057 tw6949113604126165317 tw2662429773097636179 tw2362185723098077383 tw14598775071089157918 tw9387789029822059927 tw3251887130718847195 tw6771365767055033252 tw8521104623312511134 tw11213844304311167348 tw6287249564188853417 tw14245125626747732937 tw13077937570528556198 tw14961153550496683922 tw16518463900942353404 tw17460623052164197148 tw617244217895118167 tw10470593320661918564 tw10875921145373060430 tw11555308977790617739 tw9803093866505825240 tw5518784330136833976 tw12166875022895820171 tw13633504712871062666 tw15507514317602613045 tw15649271533202058820 tw2385651475711924533 tw4524575979645388882 tw15408171874423120943 tw7797701759479825681 tw11772404758677524795 tw2896352365917243469 tw3256074871600568436 tw5295297534558244082 tw8706967241206777356 tw9029836931073337347 tw16527003492884799859 tw4627541119562701754 tw17958548745332847122 tw17127027750120815749 tw366853715670410138 tw72722425700165985 tw17780081525811893607 tw8414549439819430709 tw5768103677532487551 tw16380806380932018551 tw8465426224842737196 tw2748034331574858730 tw10583896731041913193 tw6278982325534744467 tw10987433056373128085 tw15065821867638472999 tw13436207123622155059 tw7392282479066380550 tw7735505764933966935 tw14665057574434950938 tw10401470212464066693 tw16888257444184017988 tw9395392764818506562 tw10256030847998934966 tw14518288654355024933 tw6025305494627698196 tw1194895149696693568 tw13064355388335622303 tw8243757560642510585 tw4933523191079946545 tw14522918518287068903 tw1507940362210078716 tw6051912920178018824 tw1368780164541863539 tw2633644019192369222 tw7493210759983556377 tw3551933459826103409 tw1015415607085806381 tw16167666106188752327 tw10078873254977708672 tw15812171644679359547 tw2188611085730117136 tw11832569630975051525 tw18026087261088280049 tw16532151969425520077 tw17737064617233772430 tw1260751717226609745 tw16193052975002296521 tw2601922035806229111 tw3706234592467313836 tw14224692451100030158 tw2167009826759805450 tw294274657592460182 tw7027552554970166940 tw2212155031156192002 tw15706995969636183507 tw16975044958807463364 tw17064219790268798688 tw14066665267226714599 tw498124706025476714 tw10046875640099477584 tw7778795085740834501 tw3956176963997298801 tw5353884922719302893 tw15419991719931358254 tw5194122667918336938 tw13114921497227658599 tw12174745286364292936 tw16612893943355287091 tw16779500602689573051 tw11207521767564390662 tw2180070905635108950 tw9403320736351709854 tw7729700467387994527 tw3293702394423820638 tw16356913688074979671 tw16999386931058046789 tw7314175986469837291 tw2944235800496966715 tw1318942961465329087 tw15673252882297286706 tw5338272096218594825 tw10053801270216027206 tw7668522965720086421 tw8069423408499963092 tw9843516862186251140 tw7579812433329933171 tw17795350745842802841 tw15372555266529624852 tw4391739154911970349 tw9708527686609993098 tw7403511268557252481 tw16960408341620722366 tw3566324251494018192 tw11071364263824001829 tw3209038456005898737 tw17559668313835072013 tw11086980392072379083 tw13125802403694427569 tw16119983221378410731 tw10458989145312069796 tw7237896219676614277 tw5677352259202439850 tw11506794999790918257 tw5135076540335518303 tw14057857665182622609 tw7088405096826867489 tw10330355532543956889 tw3966470788775022413 tw10317382225843573338 tw9017689499602674723 tw1842444844652975196 tw6052820463921098196 tw13629595272865087881 tw1405710679423980465 tw3143898593767445892 tw4045378476944870242 tw16345860477837129783 tw5911628255647091542 tw17933082719399270502 tw13357643399853684005 tw3152611906779219304 tw5626146050238435078 tw14444750957443050873 tw11063927329621331675 tw15836483428733147450 tw16519433159631504295 tw4772393448320865653 tw17407370132643801100 tw11699327511014194350 tw7522440912566414341 tw13599838270774999035 tw11104568750362757691 tw5456273642358415920 tw14778378159215820802 tw14333278535364714712 tw12023038627780955107 tw18056612631458834830 tw1198228348199013166 tw14873391794973050350 tw9351423722932405504 tw8766565365743490499 tw15287507092528564476 tw14056857298298291560 tw15061433078633941964 tw12230758461987670346 tw2516931507574954477 tw14563017015312191802 tw1697982629711425175 tw5967893073065916997 tw4142690175625386777 tw533588639880449352 tw10391210048207679406 tw15146114281783399700 tw5639564896900070200 tw6595543878663459141 tw12745221260694774197 tw6315354884884882612 tw8351114175738372235 tw17986900498252699716 tw17553304401277918274 tw9587983938408995051 tw15943999521715673289 tw10002792358760347243 tw6132089836271588143 tw13606999347022343732 tw2628177400888959688 tw7336203764100531415 tw3028757904984471708 tw11622049167326451841 tw17963909980153893006 tw18252243356546904754 tw8809233555970895148 tw9690154722032732006 tw10510581506468794776 tw16703600768692716781 tw7970794363338119036 tw3903076651312950212 tw182451258215705836 tw11923847707844964866 tw11243325731166351291 tw18122627270410460352 tw4382863935431700591 tw6056154049584557858 tw16182913946190809545 tw403748812295930372 tw12282533654316663801 tw14116932595105577845 tw16130929991232579936 tw3001933213376955923 tw16625262508843753168 tw2698932143313574007 tw15926116641582212121 tw4645061106020117709 tw6230244760259999538 tw15706919292321684118 tw17878616353058798967 tw5171520236359288426 tw12704756795305147697 tw7216576101359482005 tw8535264965609340075 tw16595226199932378282 tw4622906617382394763 tw345843719473924743 tw4414446751976525689 tw9932833012244598054 tw9319722610167466608 tw11730202338766552912 tw14578965115843650992 tw16697081948631417251 tw767010343135073283 tw15752701942344612513 tw13481176640991891617 tw17183539937344021214 tw12085869036276841447 tw15920284591283916680 tw17832351712281540441 tw4108922829309382167 tw12173021043840162134 tw5310748495443769788 tw14126268667049489290 tw8852088804816337724 tw10347431882049314091 tw14998401903108433276 tw9979232817655107014 tw5436647382093372727 tw16182262252539605326 tw3145507093364756130 tw2851360292679345853 tw15928165304698854450 tw16666031743987554816 tw2814185836877182432 tw17532735117012273508 tw8360007730107067157 tw7609896053182290260 tw7343128816957713845 tw8824729026873493055 tw4499378260366737074 tw4663450534559713308 tw16390970666907257199 tw13277954101102032013 tw10094371468159345717 tw8589479518565635560 tw12223770688241637555 tw16598855262668418769 tw11696145753344695957 tw7283280793322867412 tw8132620070598546759 tw9874417400339005660 tw13716087714027490851 tw18089084683657418603 tw10605112514972963658 tw12160376117635925519 tw17305791318507109588 tw4948779744882403545 tw12707400335268936186 tw2779404915371952872 tw5405705668401979817 tw15293435773755534098 tw9204679431434030589 tw916784110747591709 tw10203339057534537979 tw13372437959431477981 tw6495615188189563944 tw16193936039805925624 tw8046227291033826626 tw2987796451614045146 tw15288412900951942453 tw15139835709955219494 tw11988788023323183934 tw7067140740714370118 tw14507587081492898667 tw12542297333650471821 tw10550369312806766001 tw16370064773392854159 tw2986495338668565608 tw3268401794797676575 tw2420752028791703530 tw14377958811090595173 tw15329873332294605724 tw6402999315536982128 tw13046838055833207882 tw9107002801518275488 tw9411678886224482118 tw14457647316228732413 tw17213936490301326835 tw4691688092441329025 tw1155897398335778370 tw12998452083547321191 tw16938534618802503090 tw5210135968866321138 tw11961071810393506119 tw16426971079312194035 tw6529722174850185381 tw14128331699073379890 tw1094138778417125010 tw16650834362557912702 tw15204151805201301830 tw1173495784218611645 tw12479225172826597613 tw2363292620698702450 tw15165869158825559497 tw3580937816389897030 tw10092573635034961996 tw14146508034207601614 tw8922457641859399443 tw16205739372988227399 tw5267687694241156473 tw5544793393245652727 tw17830396590616841749 tw4367041378355830860 tw12986335644207466764 tw10978160893900464013 tw864251136831226717 tw7443732520994060743 tw7413149225425324072 tw2266796961460318671 tw8642928084628275880 tw1774934105644262046 tw9952386013586984623 tw7481276927632767860 tw15335235952667478835 tw9855769393469083490 tw11878284352401630898 tw6366568257521957888 tw5733458087109485794 tw15041741919149433936 tw6254993541882098013 tw14066203484614934167 tw5564789562658396780 tw191090249335456189 tw13867138851095428676 tw10954397949743723335 tw915971895894767742 tw8934304380941836881 tw3990605484102593150:True)
def nS{α:Type _}{a:α}{P:Prop}(h:Ψ=Φ a):P:=by cases h
def nB{P:Prop}(h:Δ=Γ):P:=by cases h
def usS{b:Type}{P:List b->Prop}(h:∀a,∀us:List b,us.length=n->P (a::us)):∀us:List b,us.length=n+1->P us:=λus e=>by cases us with|nil=>cases e|cons a us=>exact h a us (Nat.succ.inj e)
def usZ{a:Type}{P:List a->Prop}(h:P []):∀us:List a,us.length=0->P us:=λus e=>by cases us with|nil=>exact h|cons=>cases e
def eY{α β:Type _}{p q r:α->β->Prop}{P:Prop}(h:∃a b,p a b/\q a b/\r a b)(k:∀a b,p a b->q a b->r a b->P):P:=h.elim λa h=>h.elim λb h=>k a b h.1 h.2.1 h.2.2
namespace L2
open PySem PySem.Spec PyProof.Rows
@[reducible]def Key:=Sum Int Str
abbrev zfR:Key->Θ->Bool
 |.inl k,v=>Θ.isInt k v|.inr x,v=>Θ.isStrOf x v
abbrev keyH(w:ύ):Key->Int
 |.inl k=>hashInt k|.inr x=>hashStr w x
def zau:∀{k:Key}{v:Θ},zfR k v=Γ->(∃i t,k=Sum.inl i/\v=Θ.int i t)\/(∃x t,k=Sum.inr x/\v=Θ.str x t)
 |.inl i,v,h=>by obtain⟨t,e⟩:=Θ.isInt_shape (k:=i) (v:=v) h;exact .inl ⟨i,t,rfl,e⟩| .inr x,v,h=>by obtain⟨t,e⟩:=Θ.isStrOf_shape (x:=x) (v:=v) h;exact .inr ⟨x,t,rfl,e⟩
def zkf(i)(t):zfR (.inl i) (.int i t)=Γ:=by simp[zfR,Θ.isInt]
def zke(x)(t):zfR (.inr x) (.str x t)=Γ:=by simp[zfR,Θ.isStrOf]
def zro(a b):decide ((Sum.inl a:Key)=Sum.inl b)=(a==b):=by by_cases e:a=b;subst e;simp;have h:¬(Sum.inl a:Key)=Sum.inl b:=λq=>e (Sum.inl.inj q);rw[decide_eq_false h];exact(beq_eq_false_iff_ne.mpr e).symm
def zrk(a b):decide ((Sum.inr a:Key)=Sum.inr b)=decide (a=b):=by by_cases e:a=b;subst e;simp;have h:¬(Sum.inr a:Key)=Sum.inr b:=λq=>e (Sum.inr.inj q);rw[decide_eq_false h,decide_eq_false e]
def zrn(a)(b):decide ((Sum.inl a:Key)=Sum.inr b)=Δ:=decide_eq_false (λq=>by cases q)
def zrl(a)(b):decide ((Sum.inr a:Key)=Sum.inl b)=Δ:=decide_eq_false (λq=>by cases q)
abbrev zar(prog:ϊ)(w:ύ):PySem.KeyKind prog w Key where
 is:=zfR
 hash:=keyH w
 inj:=λv a b ha hb=>by rcases zau ha with⟨i,t,rfl,rfl⟩|⟨x,t,rfl,rfl⟩;rcases zau hb with⟨j,u,rfl,e⟩|⟨y,u,rfl,e⟩;injection e with e1 _;rw[e1];exact nomatch e;rcases zau hb with⟨j,u,rfl,e⟩|⟨y,u,rfl,e⟩;exact nomatch e;injection e with e1 _;rw[e1]
 byValue:=λk v h=>by rcases zau h with⟨i,t,rfl,rfl⟩|⟨x,t,rfl,rfl⟩<;>rfl
 pyHash:=λhv h=>by rcases zau hv with⟨i,t,rfl,rfl⟩|⟨x,t,rfl,rfl⟩;exact wpAny_pyHash_int h;exact wpAny_pyHash_str h
 eqBool:=λhu hv h=>by rcases zau hu with⟨i,t,rfl,rfl⟩|⟨x,t,rfl,rfl⟩;rcases zau hv with⟨j,u,rfl,rfl⟩|⟨y,u,rfl,rfl⟩;rw[zro]at h;exact wpAny_eqBool_int h;rw[zrn]at h;exact SeqAt.EqAt.int_str i t y u _ _ _ _ h;rcases zau hv with⟨j,u,rfl,rfl⟩|⟨y,u,rfl,rfl⟩;rw[zrl]at h;exact SeqAt.EqAt.str_int x t j u _ _ _ _ h;rw[zrk]at h;exact wpAny_eqBool_str h
 «strs»:=λk x t v h=>by
  rcases zau h with⟨i,u,rfl,e⟩|⟨y,u,rfl,e⟩;exact nomatch e
  . injection e with e1 _;subst e1;cases v<;>rfl
def zit(prog)(w)(k)(v):(zar prog w).is k v=zfR k v:=rfl
def zgF(prog)(w)(i)(t):(zar prog w).is (.inl i) (.int i t)=Γ:=zkf i t
def zgE(prog)(w)(x)(t):(zar prog w).is (.inr x) (.str x t)=Γ:=zke x t
set_option genInjectivity true in
inductive V where
 |non|bl (b:Bool)|int (i:Int)|str (x:Str)|byt (b:Array UInt8)|flt (b:UInt64)|ref (a:Addr)|ty (n:String)
 deriving DecidableEq
abbrev RelV:V->Θ->Prop
 |.non,u=>u=Θ.none|.bl b,u=>u=Θ.bool b|.int i,u=>∃t,u=Θ.int i t|.str x,u=>∃t,u=Θ.str x t|.byt b,u=>∃t,u=Θ.bytes b t|.flt b,u=>∃t,u=Θ.float b t|.ref a,u=>u=Θ.ref a|.ty n,u=>u=Θ.type n
@[reducible]def Vals:List V->List Θ->Prop:=Paired RelV
def Vals.length(r:Vals xs us):xs.length=us.length:=Paired.length r
def Vals.get:∀{xs:List V}{us:List Θ}{i:Nat}{x:V},Vals xs us->xs[i]?=Φ x->∃u,us[i]?=Φ u/\RelV x u
 |_,_,_,_,.nil,e=>by simp at e|_,_,0,_,.cons r _,e=>by simp at e;subst e;exact⟨_,rfl,r⟩| _,_,i+1,x,.cons _ t,e=>by obtain⟨u,a,b⟩:=Vals.get (i:=i) (x:=x) t (by simpa using e);exact⟨u,by simpa using a,b⟩
def Vals.set(r:RelV x u):∀{xs:List V}{us:List Θ}(i:Nat),Vals xs us->Vals (xs.set i x) (us.set i u)
 |_,_,_,.nil=>.nil|_,_,0,.cons _ t=>.cons r t|_,_,i+1,.cons q t=>.cons q (Vals.set r i t)
def Vals.append:∀{xs ys:List V}{us a:List Θ},Vals xs us->Vals ys a->Vals (xs++ys) (us++a)
 |_,_,_,_,.nil,s=>s|_,_,_,_,.cons r t,s=>.cons r (Vals.append t s)
def Vals.take:∀{xs:List V}{us:List Θ}(n:Nat),Vals xs us->Vals (xs.take n) (us.take n)
 |_,_,0,_=>.nil|_,_,_+1,.nil=>.nil|_,_,n+1,.cons r t=>.cons r (Vals.take n t)
def Vals.drop:∀{xs:List V}{us:List Θ}(n:Nat),Vals xs us->Vals (xs.drop n) (us.drop n)
 |_,_,0,r=>r|_,_,_+1,.nil=>.nil|_,_,n+1,.cons _ t=>Vals.drop n t
abbrev RelO:Option V->Option Θ->Prop
 |some v,Φ u=>RelV v u|none,Ψ=>True|_,_=>False
abbrev KV{κ:Type}:List (κ×V)->List (κ×Θ)->Prop:=Paired λ(p:κ×V) (q:κ×Θ)=>p.1=q.1/\RelV p.2 q.2
abbrev kV:Key->V
 |.inl i=>.int i|.inr x=>.str x
inductive HO where
 |lst (xs:List V)
 |tup (xs:List V)
 |dK (kvs:List (Key×V))|dT (kvs:List (List Key×V))
 |set (S:Int->Bool) (n:Nat)
 |ins (C dx:Addr) (fs:List (Str×V))
 |own (x:Addr)
 |xd (fs:List (Str×V))
 |met (f x:Addr)
 |rng (lo hi:Int)
 |frz (o:Obj) (u:HO)
 |tbl (ps:Array Θ)
 |ext (φ:Heap->Prop)
@[reducible]def Hp:=Addr->Option HO
abbrev upd(H:Hp)(a:Addr)(o:HO):Hp:=λb=>if b=a then Φ o else H b
def zak:upd H a o a=Φ o:=by unfold upd;rw[if_pos rfl]
def zah(h:b≠a):upd H a o b=H b:=by unfold upd;rw[if_neg h]
def zno:upd (upd H a o) a u=upd H a u:=by funext b;unfold upd;split<;>rfl
def ne_of{H:Hp}(h:H a=Φ o)(h':H b=Φ u)(d:o≠u):a≠b:=by intro e;subst e;rw[h]at h';exact d (Option.some.inj h')
def zai{H:Hp}(h:H a=Φ o)(h':H b=Ψ):a≠b:=by intro e;subst e;rw[h]at h';cases h'
section
variable(P:ϊ)(w:ύ)
abbrev ObjOk(H:Hp)(h:Heap)(a:Addr):HO->Prop
 |.lst xs=>xs.length<=sizeLine/\∃(its:List Θ) (n:Nat),Vals xs its/\h.get? a=Φ {cls:=.type "list",data:=.seq its.toArray n}|.tup xs=>xs.length<=sizeLine/\∃its:List Θ,Vals xs its/\IsTup h a its.toArray|.dK kvs=>kvs.length<=sizeLine/\(a==sysModules)=Δ/\∃vs,KV kvs vs/\h.DictOf (zar P w) a vs
 |.dT kvs=>kvs.length<=sizeLine/\(a==sysModules)=Δ/\∃xs:List (List Key×Addr×Θ),
  Paired (λ(p:List Key×V) (q:List Key×Addr×Θ)=>p.1=q.1/\H q.2.1=Φ (.tup (p.1.map kV))/\RelV p.2 q.2.2) kvs xs/\
  ∃o es ep,h.get? a=Φ o/\o.ExactDict/\o.data=.dict es ep/\es.toList=xs.map (entryOfKey (tupleKind (zar P w)))/\(xs.map (·.1)).Nodup
 |.set S n=>h.SetOf (intKind P w) a S n
 |.ins C dx fs=>H dx=Φ (.own a)/\fs.length<=1000/\dx≠a/\h.get? a=Φ (instObj C dx)/\
  ∃mA,h.Ns1 dx mA/\(∀f,RelO (fs.lookup f) (mA f))/\PySem.Within mA (fs.map (·.1))
 |.own _=>∃o,h.get? a=Φ o|.xd fs=>∃mA,h.Ns1 a mA/\∀f,RelO (fs.lookup f) (mA f)|.rng lo hi=>∃t u v,h.get? a=Φ {cls:=.type "range",data:=.fields #[.int lo t,.int hi u,.int 1 v]}|.frz o u=>h.get? a=Φ o/\ObjOk H h a u|.tbl ps=>h.get? a=Φ {cls:=.none,data:=.fields ps}|.met f x=>h.get? a=Φ (methodObj (.ref f) (.ref x))|.ext φ=>φ h/\(∃o,h.get? a=Φ o)/\∀h1 h2:Heap,φ h1->(∀o,h1.get? a=Φ o->h2.get? a=Φ o)->φ h2
abbrev HOk(H:Hp)(h:Heap):Prop:=∀a o,H a=Φ o->ObjOk P w H h a o
end
section
variable{P:ϊ}{w:ύ}{H H':Hp}{h h':Heap}{a:Addr}{o:HO}
def ObjOk.lt(x:ObjOk P w H h a o):a<h.objs.size:=by cases o with|lst c=>obtain⟨_,_,_,_,e⟩:=x;exact Η e|tup c=>obtain⟨_,_,_,p⟩:=x;exact p.lt|dK b=>obtain⟨_,_,_,_,o,_,_,e,_⟩:=x;exact Η e|dT b=>obtain⟨_,_,_,_,o,_,_,e,_⟩:=x;exact Η e|set S n=>obtain⟨o,_,_,_,e,_⟩:=x;exact Η e|ins C g d=>obtain⟨_,_,_,e,_⟩:=x;exact Η e|own y=>obtain⟨_,e⟩:=x;exact Η e|xd d=>obtain⟨_,⟨_,_,_,e,_⟩,_⟩:=x;exact Η e|rng lo i=>obtain⟨_,_,_,e⟩:=x;exact Η e|frz j u=>obtain⟨e,_⟩:=x;exact Η e|tbl k=>exact Η (show h.get? a=Φ _ from x)|met f y=>exact Η (show h.get? a=Φ _ from x)|ext l=>obtain⟨_,⟨_,e⟩,_⟩:=x;exact Η e
def Paired.mapP{c:List e}{d:List g}(h:Paired F c d)(f:∀a b,F a b->G a b):Paired G c d:=by induction h with|nil=>exact .nil|cons r _ i=>exact .cons (f _ _ r) i
def ObjOk.stay(x:ObjOk P w H h a o)(k:∀b u,(b=a\/H b=Φ (.own a))->h.get? b=Φ u->h'.get? b=Φ u)
  (E:∀b,H b=Φ (.own a)->H' b=Φ (.own a)) (G:∀b xs,H b=Φ (.tup xs)->H' b=Φ (.tup xs)):ObjOk P w H' h' a o:=by
 induction o with|lst xs=>obtain⟨z,l,n,r,e⟩:=x;exact⟨z,l,n,r,k _ _ (.inl rfl) e⟩|tup xs=>obtain⟨z,l,r,g,e,c⟩:=x;exact⟨z,l,r,g,k _ _ (.inl rfl) e,c⟩|dK m=>obtain⟨z,y,I,r,g,i,j,e,c⟩:=x;exact⟨z,y,I,r,g,i,j,k _ _ (.inl rfl) e,c⟩| dT m=>obtain⟨z,y,xs,r,g,i,j,e,c⟩:=x;exact⟨z,y,xs,Paired.mapP r λp q z=>⟨z.1,G _ _ z.2.1,z.2.2⟩,g,i,j,k _ _ (.inl rfl) e,c⟩|set S n=>obtain⟨g,i,j,t,e,c⟩:=x;exact⟨g,i,j,t,k _ _ (.inl rfl) e,c⟩| ins C O J=>obtain⟨d,z,L,e,s,⟨A,i,j,M,c⟩,r⟩:=x;exact⟨E _ d,z,L,k _ _ (.inl rfl) e,s,⟨A,i,j,k _ _ (.inr d) M,c⟩,r⟩|own y=>obtain⟨g,e⟩:=x;exact⟨g,k _ _ (.inl rfl) e⟩|xd J=>obtain⟨s,⟨A,i,j,e,c⟩,r⟩:=x;exact⟨s,⟨A,i,j,k _ _ (.inl rfl) e,c⟩,r⟩|rng lo Q=>obtain⟨t,u,v,e⟩:=x;exact⟨t,u,v,k _ _ (.inl rfl) e⟩|frz g u N=>obtain⟨e,q⟩:=x;exact⟨k _ _ (.inl rfl) e,N q⟩| tbl B=>have e:h.get? a=Φ {cls:=.none,data:=.fields B}:=x;show h'.get? a=Φ {cls:=.none,data:=.fields B};exact k a _ (.inl rfl) e| met f y=>have e:h.get? a=Φ (methodObj (.ref f) (.ref y)):=x;show h'.get? a=Φ (methodObj (.ref f) (.ref y));exact k a _ (.inl rfl) e|ext T=>obtain⟨p,⟨o,e⟩,st⟩:=x;exact⟨st _ _ p λo q=>k _ _ (.inl rfl) q,⟨o,k _ _ (.inl rfl) e⟩,st⟩
def HOk.lt(x:HOk P w H h)(e:H a=Φ o):a<h.objs.size:=(x a o e).lt
def HOk.fresh(x:HOk P w H h)(e:h.objs.size<=a):H a=Ψ:=by cases q:H a with|none=>rfl|some u=>exact absurd (lt_of_lt_of_le (x.lt q) e) (lt_irrefl _)
def HOk.kept(x:HOk P w H h)(k:∀b u,h.get? b=Φ u->h'.get? b=Φ u):HOk P w H h':=λa o e=>(x a o e).stay (λb u _ q=>k b u q) (λ_ q=>q) λ_ _ q=>q
def HOk.laid(x:HOk P w H h)(k:∀b u,h.get? b=Φ u->h'.get? b=Φ u)(g:h.objs.size<=a)(new:ObjOk P w (upd H a o) h' a o):HOk P w (upd H a o) h':=λb u e=>by have d:=x.fresh g;by_cases f:b=a;subst f;rw[zak]at e;cases e;exact new;rw[zah f]at e;exact(x b u e).stay (λc v _ q=>k c v q) (λc q=>by rw[zah (zai q d)];exact q) λc i q=>by rw[zah (zai q d)];exact q
end
abbrev Rd(H:Hp)(a:Addr)(u:HO):Prop:=H a=Φ u\/∃o,H a=Φ (.frz o u)
def Rd.of(h:H a=Φ u):Rd H a u:=.inl h
def Rd.ok(r:Rd H a u)(x:HOk P w H h):ObjOk P w H h a u:=by rcases r with r|⟨o,r⟩;exact x a u r;obtain⟨_,q⟩:=x a _ r;exact q
abbrev Mut:Option HO->Prop
 |some (.lst _)=>True|some (.dK _)=>True|some (.dT _)=>True|some (.set _ _)=>True|some (.ins _ _ _)=>True|some (.ext _)=>True|_=>False
section
variable{P:ϊ}{w:ύ}{H:Hp}{h h':Heap}{x e:Addr}{o':HO}
def HOk.write(ok:HOk P w H h)(g:Mut (H x))(n:e=x\/H e=Φ (.own x))(k:∀b u,b≠e->h.get? b=Φ u->h'.get? b=Φ u)(m:∃u,h'.get? e=Φ u)
  (new:ObjOk P w (upd H x o') h' x o'):HOk P w (upd H x o') h':=λb u q=>by
 have d:∀c y,H c=Φ (.own y)->c≠x:=λc y r z=>by subst z;rw[r]at g;exact g
 have f:∀c i,H c=Φ (.tup i)->c≠x:=λc i r z=>by subst z;rw[r]at g;exact g
 by_cases j:b=x;subst j;rw[zak]at q;cases q;exact new;rw[zah j]at q;by_cases a:b=e;have o:H b=Φ (.own x):=by rcases n with z|z;exact absurd (a.trans z) j;rw[a];exact z
 rw[q]at o;cases o;obtain⟨v,p⟩:=m;exact⟨v,by rw[a];exact p⟩;refine(ok b u q).stay (λc v l r=>k c v ?_ r) (λc r=>by rw[zah (d c b r)];exact r) λc i r=>by rw[zah (f c i r)];exact r
 rcases l with rfl|l;exact a;rintro rfl;rcases n with z|z;exact d c b l z;rw[l]at z;cases z;exact j rfl
end
structure Un(fs ex:List Addr)(H H':Hp)(h h':Heap):Prop where
 keep:∀b o,h.get? b=Φ o->H b=Ψ->b∉fs->b∉ex->h'.get? b=Φ o
 slot:∀b o,h.get? b=Φ o->H b=Ψ->b∈fs->b∉ex->∃sl,h'.get? b=Φ {o with slots:=sl}
 free:∀b o,h.get? b=Φ o->H b=Ψ->b∉ex->H' b=Ψ
 there:∀b o,h.get? b=Φ o->b∉ex->∃o',h'.get? b=Φ o'
 tups:∀b xs,H b=Φ (.tup xs)->H' b=Φ (.tup xs)
 frzs:∀b o u,H b=Φ (.frz o u)->H' b=Φ (.frz o u)
 tbls:∀b ps,H b=Φ (.tbl ps)->∃more,H' b=Φ (.tbl (ps++more))
section
variable{fs fs' ex ex':List Addr}{H H1 H2:Hp}{h h1 h2 h':Heap}{a x e:Addr}{o:HO}
def Un.any(u:Un fs ex H H1 h h1)(q:h.get? b=Φ c)(n:H b=Ψ)(d:b∉ex):∃g,h1.get? b=Φ {c with slots:=g}:=by by_cases f:b∈fs;exact u.slot b c q n f d;exact⟨c.slots,u.keep b c q n f d⟩
def Un.kept(k:∀b u,h.get? b=Φ u->h'.get? b=Φ u):Un fs ex H H h h':=⟨λb c q _ _ _=>k b c q,λb c q _ _ _=>⟨c.slots,k b c q⟩,λ_ _ _ n _=>n,λb c q _=>⟨c,k b c q⟩,λ_ _ q=>q,λ_ _ _ q=>q,λ_ d q=>⟨#[],by rw[q];simp⟩⟩
def Un.refl:Un fs ex H H h h:=Un.kept λ_ _ q=>q
def Un.laid(k:∀b u,h.get? b=Φ u->h'.get? b=Φ u)(d:h.objs.size<=a)(c:H a=Ψ):Un fs ex H (upd H a o) h h' where
 keep:=λb u q _ _ _=>k b u q
 slot:=λb u q _ _ _=>⟨u.slots,k b u q⟩
 free:=λb u q n _=>by rw[zah (ne_of_lt (lt_of_lt_of_le (Η q) d))];exact n
 there:=λb u q _=>⟨u,k b u q⟩
 tups:=λb f q=>by rw[zah (zai q c)];exact q
 frzs:=λb u f q=>by rw[zah (zai q c)];exact q
 tbls:=λb g q=>⟨#[],by rw[zah (zai q c),q];simp⟩
def Un.write(d:Mut (H x))(l:e=x\/H e=Φ (.own x))(k:∀b u,b≠e->h.get? b=Φ u->h'.get? b=Φ u)(f:∃u,h'.get? e=Φ u):Un fs ex H (upd H x o) h h':=by
 have i:∀b,H b=Ψ->b≠x:=λb n z=>by subst z;rw[n]at d;exact d
 have j:∀b,H b=Ψ->b≠e:=λb n z=>by subst z;rcases l with r|r;exact i b n r;rw[n]at r;exact nS r
 have g:∀b u,H b=Φ u->¬Mut (Φ u)->b≠x:=λb u q m z=>by subst z;rw[q]at d;exact m d
 refine⟨λb u q n _ _=>k b u (j b n) q,λb u q n _ _=>⟨u.slots,k b u (j b n) q⟩,λb u q n _=>by rw[zah (i b n)];exact n,λb u q _=>?_,
  λb p q=>by rw[zah (g b _ q λz=>z)];exact q,λb u p q=>by rw[zah (g b _ q λz=>z)];exact q,λb s q=>⟨#[],by rw[zah (g b _ q λz=>z),q];simp⟩⟩
 by_cases c:b=e;subst c;exact f;exact⟨u,k b u c q⟩
end
abbrev trk(h:Heap)(H:Hp):List Addr:=(List.range h.objs.size).filter λa=>(H a).isSome
abbrev hidT(h:Heap)(H:Hp):Heap:=PySem.W.hideAll h (trk h H)
def zkr(h)(H):(hidT h H).objs.size=h.objs.size:=PySem.W.hideAll_size _ _
def zmd(e:h.get? b=Φ o)(n:H b=Ψ):(hidT h H).get? b=Φ o:=PySem.W.hideAll_get _ e λhm=>by have q:(H b).isSome=Γ:=(mem_filter.mp hm).2;rw[n]at q;simp at q
def zoF(e:(hidT h H).get? b=Φ o):h.get? b=Φ o/\H b=Ψ:=by have e':h.get? b=Φ o:=PySem.W.of_hideAll (trk h H) e;refine⟨e',?_⟩;cases q:H b with|none=>rfl| some x=>have hm:b∈trk h H:=mem_filter.mpr ⟨mem_range.mpr (Η e'),by simp[q]⟩;have z:(hidT h H).get? b=Ψ:=PySem.W.hideAll_none (trk h H) hm;rw[z]at e;exact nS e
abbrev zpq(g h:Heap)(L:Addr):List (Addr×Obj):=(List.range h.objs.size).filterMap λa=>if a=L\/(g.get? a).isSome=Γ then Ψ else(h.get? a).map λo=>(a,o)
abbrev rest(g h:Heap)(L d:Addr):List (Addr×Obj):=(zpq g h L).filter λp=>decide (p.1≠d)
structure Mod(K:Frag)(mg:Str->Option Θ)(base:Heap):Prop where
 kin:K.In base
 glob:base.Ns mainGlobals mg
 blt:∃mb,base.Ns builtinsNs mb/\∀x:Str,x≠"__name__"->mb x=bootBuiltins x
 nolimit:base.NoLimit
structure Cx where
 prog:ϊ
 w:ύ
 K:Frag
 mg:Str->Option Θ
 base:Heap
 A:ϔ
 N:List Str
 s₀:Β
 H₀:Hp
 env:Env
 outer:List Env
 stack:List Env
 ex:List Addr
 fn:Str->Bool
 calm:Bool
 pn:List (Addr×Obj)
 xe:Θ->Β->Prop
abbrev frs(l:List Env):List Addr:=l.filterMap (·.frame)
noncomputable abbrev Cx.fs(X:Cx):List Addr:=frs X.outer
abbrev Vis(sc:Scope)(x:Str):Prop:=sc.names.lookup x=Φ .local\/sc.names.lookup x=Φ .cell\/sc.names.lookup x=Φ .free
abbrev Loc(sc:Scope)(x:Str):Prop:=sc.names.lookup x=Φ .local\/sc.names.lookup x=Φ .cell
abbrev Look(env:Env)(h:Heap)(m:Str->Option Θ)(x:Str)(u:Θ):Prop:=(env.kindOf x=Φ .local/\m x=Φ u)\/((env.kindOf x=Φ .cell\/env.kindOf x=Φ .free)/\∃c,env.cells.lookup x=Φ c/\h.IsCell c (Φ u))
structure Cx.Ok(X:Cx):Prop where
 mod:Mod X.K X.mg X.base
 kind:X.env.scope.kind=.function
 glob:X.env.globals=mainGlobals
 blt:X.env.builtins=builtinsNs
 above:X.s₀.heap.objs.size<=X.env.locals
 inj:∀x y c,X.env.cells.lookup x=Φ c->X.env.cells.lookup y=Φ c->x=y
 has:∀x,(X.env.kindOf x=Φ .cell\/X.env.kindOf x=Φ .free)->∃c,X.env.cells.lookup x=Φ c
 cab:∀x c,X.fn x=Γ->X.env.cells.lookup x=Φ c->X.s₀.heap.objs.size<=c
 hd:X.calm=Γ->X.A.handled=Ψ
 frames:X.A.frames=Φ X.stack
 stk:X.stack=X.outer\/(X.stack=X.env::X.outer/\X.env.frame=Φ X.env.locals)
 exf:∀b∈X.ex,b≠X.env.locals/\∀x c,X.env.cells.lookup x=Φ c->c≠b
 bs:∀b o,X.base.get? b=Φ o->X.s₀.heap.get? b=Φ o/\X.H₀ b=Ψ
 bsz:X.base.objs.size<=X.s₀.heap.objs.size
 noex:∀b o,X.base.get? b=Φ o->b∉X.ex
 exfs:∀b∈X.ex,b∉X.fs
 funs:X.s₀.heap.FunFrames X.base X.outer
 frf:∀b∈X.fs,X.H₀ b=Ψ
structure Inv(X:Cx)(pins:List (Addr×Obj))(σ:List (Option V))(H:Hp)(s:Β):Prop where
 ok:X.Ok
 os:s.os=X.s₀.os
 bare:AllBare s.gens
 base:Un X.fs X.ex X.H₀ H X.s₀.heap s.heap
 loc:∃m,s.heap.Ns X.env.locals m/\∀(i:Nat)(x:Str)(v:V),X.N[i]?=Φ x->σ[i]?=Φ (Φ v)->Vis X.env.scope x->∃u,RelV v u/\Look X.env s.heap m x u
 cell:∀x c,X.env.cells.lookup x=Φ c->∃v,s.heap.IsCell c v
 free:H X.env.locals=Ψ
 freeC:∀x c,X.env.cells.lookup x=Φ c->H c=Ψ
 pin:∀p∈X.pn++pins,s.heap.get? p.1=Φ p.2/\H p.1=Ψ/\p.1≠X.env.locals/\p.1∉X.fs/\∀v,p.2.data≠.cell v
 hok:HOk X.prog X.w H s.heap
 len:σ.length=X.N.length
section
variable{X:Cx}{pins:List (Addr×Obj)}{σ:List (Option V)}{H H':Hp}{s:Β}{h':Heap}
def Cx.Ok.nofr(ok:X.Ok)(e:X.base.get? b=Φ o):b∉X.fs:=λa=>by have:=(ok.funs.mem a).1;rw[e]at this;cases this
def Inv.bs(I:Inv X pins σ H s):∀b o,X.base.get? b=Φ o->s.heap.get? b=Φ o/\H b=Ψ:=λb o e=>⟨I.base.keep b o (I.ok.bs b o e).1 (I.ok.bs b o e).2 (I.ok.nofr e) (I.ok.noex b o e),I.base.free b o (I.ok.bs b o e).1 (I.ok.bs b o e).2 (I.ok.noex b o e)⟩
def Inv.bk(I:Inv X pins σ H s):∀b o,X.base.get? b=Φ o->s.heap.get? b=Φ o:=λb o e=>(I.bs b o e).1
def Inv.mod(I:Inv X pins σ H s):Mod X.K X.mg X.base:=I.ok.mod
def Inv.kIn(I:Inv X pins σ H s):X.K.In s.heap:=I.ok.mod.kin.keeps I.bk
def Inv.lt(I:Inv X pins σ H s):X.env.locals<s.heap.objs.size:=let ⟨_,a,_⟩:=I.loc;a.lt
def Inv.sz(I:Inv X pins σ H s):X.s₀.heap.objs.size<=s.heap.objs.size:=le_trans I.ok.above (le_of_lt I.lt)
def Inv.nofs(I:Inv X pins σ H s)(h:s.heap.objs.size<=a):a∉X.fs:=λb=>by obtain⟨_,o,c,_⟩:=I.ok.funs.mem b;exact absurd (lt_of_lt_of_le (Η c) (le_trans I.sz h)) (lt_irrefl _)
def Inv.cne(I:Inv X pins σ H s):∀x c,X.env.cells.lookup x=Φ c->c≠X.env.locals:=λx c e z=>by obtain⟨v,o,d,f⟩:=I.cell x c e;obtain⟨m,⟨g,h,i,a,b,_⟩,_⟩:=I.loc;rw[z,a]at d;cases d;rw[b]at f;cases f
def Inv.funs(I:Inv X pins σ H s):s.heap.FunFrames X.base X.outer:=by
 have a:∀(l:List Env),(∀b∈frs l,b∈X.fs)->X.s₀.heap.FunFrames X.base l->s.heap.FunFrames X.base l:=by intro l;induction l with|nil=>intro _ _;trivial| cons h r i=>intro g j;obtain⟨k,⟨L,o,c,m,n,p⟩,q⟩:=j;have d:L∈X.fs:=g L (by unfold frs;rw[List.filterMap_cons,c];exact ϋ);obtain⟨t,e⟩:=I.base.slot L o n (I.ok.frf L d) d λz=>I.ok.exfs L z d;exact⟨k,⟨L,_,c,m,e,p⟩,i (λb f=>g b (by unfold frs;rw[List.filterMap_cons,c];exact Ο _ f)) q⟩
 exact a X.outer (λ_ f=>f) I.ok.funs
def Inv.stack(I:Inv X pins σ H s):s.heap.FunFrames X.base X.stack:=by rcases I.ok.stk with e|⟨e,a⟩;rw[e];exact I.funs;rw[e];obtain⟨m,b,_⟩:=I.loc;refine .cons (by rw[I.ok.kind];decide) a b ?_ I.funs;exact Heap.get?_none_of_le (le_trans I.ok.bsz I.ok.above)
def Inv.stkSub(I:Inv X pins σ H s):∀b∈frs X.stack,b∈X.env.locals::X.fs:=λb a=>by rcases I.ok.stk with e|⟨e,c⟩;rw[e]at a;exact Ο _ a;rw[e]at a;unfold frs at a;rw[List.filterMap_cons,c]at a;exact a
def Inv.stkFree(I:Inv X pins σ H s):∀b∈frs X.stack,H b=Ψ:=λb a=>by rcases mem_cons.mp (I.stkSub b a) with e|a;rw[e];exact I.free;obtain⟨_,o,c,_⟩:=I.ok.funs.mem a;exact I.base.free b o c (I.ok.frf b a) λz=>I.ok.exfs b z a
def Inv.step{ch:List Addr}(I:Inv X pins σ H s)(f:∀b∈ch,(b∈X.ex\/X.s₀.heap.objs.size<=b)/\b≠X.env.locals/\(∀x c,X.env.cells.lookup x=Φ c->c≠b)/\∀p∈X.pn++pins,p.1≠b)(g:∀b o,b≠X.env.locals->b∉X.fs->b∉ch->s.heap.get? b=Φ o->H b=Ψ->h'.get? b=Φ o)(A:∀b o,b≠X.env.locals->b∈X.fs->b∉ch->s.heap.get? b=Φ o->H b=Ψ->∃T,h'.get? b=Φ {o with slots:=T})(free:∀b o,b∉ch->s.heap.get? b=Φ o->H b=Ψ->H' b=Ψ)(B:∀b o,b∉ch->s.heap.get? b=Φ o->∃G,h'.get? b=Φ G)(J:∀b xs,H b=Φ (.tup xs)->H' b=Φ (.tup xs))(L:∀b o u,H b=Φ (.frz o u)->H' b=Φ (.frz o u))(M:∀b ps,H b=Φ (.tbl ps)->∃N,H' b=Φ (.tbl (ps++N)))(ns:∀m,s.heap.Ns X.env.locals m->h'.Ns X.env.locals m)(hok:HOk X.prog X.w H' h')(hg:AllBare g'):
  Inv X pins σ H' {s with heap:=h',gens:=g',drawn:=d',toks:=t'}:=by
 have O:∀b o,X.s₀.heap.get? b=Φ o->b≠X.env.locals:=λb o e=>ne_of_lt (lt_of_lt_of_le (Η e) I.ok.above);have t:∀b o,X.s₀.heap.get? b=Φ o->b∉X.ex->b∉ch:=λb o e a C=>by rcases(f b C).1 with z|z;exact a z;exact absurd (lt_of_lt_of_le (Η e) z) (lt_irrefl _)
 have h:∀x c,X.env.cells.lookup x=Φ c->∀v,s.heap.IsCell c v->h'.IsCell c v:=λx c e v y=>by obtain⟨o,E,U⟩:=y;have j:c∉ch:=λz=>(f c z).2.2.1 x c e rfl;by_cases hc:c∈X.fs;obtain⟨T,q⟩:=A c o (I.cne x c e) hc j E (I.freeC x c e);exact⟨_,q,U⟩;exact⟨o,g c o (I.cne x c e) hc j E (I.freeC x c e),U⟩
 refine⟨I.ok,I.os,hg,⟨λb o e n C a=>?_,λb o e n C a=>?_,λb o e n a=>?_,λb o e a=>?_,λb xs e=>J b xs (I.base.tups b xs e),λb o xs e=>L b o xs (I.base.frzs b o xs e),λb ps e=>?_⟩,?_,λx c e=>?_,?_,λx c e=>?_,λp hp=>?_,hok,I.len⟩;exact g b o (O b o e) C (t b o e a) (I.base.keep b o e n C a) (I.base.free b o e n a);obtain⟨T,w⟩:=I.base.slot b o e n C a;obtain⟨Y,Q⟩:=A b _ (O b o e) C (t b o e a) w (I.base.free b o e n a);exact⟨Y,Q⟩;obtain⟨G,w⟩:=I.base.there b o e a;exact free b G (t b o e a) w (I.base.free b o e n a);obtain⟨G,w⟩:=I.base.there b o e a;exact B b G (t b o e a) w;obtain⟨m1,w⟩:=I.base.tbls b ps e;obtain⟨m2,Q⟩:=M b _ w;exact⟨m1++m2,by rw[Q,Array.append_assoc]⟩;obtain⟨m,hn,hl⟩:=I.loc;refine⟨m,ns m hn,λi x v w Q e3=>?_⟩;obtain⟨u,r,l⟩:=hl i x v w Q e3;refine⟨u,r,?_⟩;rcases l with l|⟨k,c,e,z⟩;exact .inl l;exact .inr ⟨k,c,e,h x c e _ z⟩;obtain⟨v,z⟩:=I.cell x c e;exact⟨v,h x c e v z⟩;obtain⟨m,⟨o,_,_,E,_⟩,_⟩:=I.loc;exact free _ o (λz=>(f _ z).2.1 rfl) E I.free;obtain⟨v,o,E,U⟩:=I.cell x c e;exact free c o (λz=>(f c z).2.2.1 x c e rfl) E (I.freeC x c e);obtain⟨e,n,ne,nf,d⟩:=I.pin p hp;have j:p.1∉ch:=λz=>(f p.1 z).2.2.2 p hp rfl;exact⟨g p.1 p.2 ne nf j e n,free p.1 p.2 j e n,ne,nf,d⟩
def Inv.un(I:Inv X pins σ H s)(u:Un X.fs [] H H' s.heap h')(hok:HOk X.prog X.w H' h'):Inv X pins σ H' {s with heap:=h',toks:=t'}:=by obtain⟨m,⟨o,k,l,g,r⟩,_⟩:=id I.loc;obtain⟨p,h⟩:=u.any g I.free (by simp);exact I.step (g':=s.gens) (d':=s.drawn) (ch:=[]) (λ_ z=>by cases z) (λb o _ c _ e n=>u.keep b o e n c (by simp)) (λb o _ c _ e n=>u.slot b o e n c (by simp)) (λb o _ e n=>u.free b o e n (by simp)) (λb o _ e=>u.there b o e (by simp)) u.tups u.frzs u.tbls (λq i=>by obtain⟨t,d,f,a,j⟩:=i;rw[g]at a;cases a;exact⟨_,d,f,h,j⟩) hok I.bare
def Inv.call(I:Inv X pins σ H s)(u:Un (frs X.stack) ch H H' s.heap h')(hok:HOk X.prog X.w H' h')(k:AllBare g')(d:∀b∈ch,(b∈X.ex\/X.s₀.heap.objs.size<=b)/\b≠X.env.locals/\(∀x c,X.env.cells.lookup x=Φ c->c≠b)/\∀p∈X.pn++pins,p.1≠b):
  Inv X pins σ H' {s with heap:=h',gens:=g',drawn:=d',toks:=t'}:=by
 obtain⟨m,⟨o,v,w,j,r⟩,_⟩:=id I.loc;obtain⟨y,g⟩:=u.any j I.free λz=>(d _ z).2.1 rfl;exact I.step (ch:=ch) d (λb o g l a e n=>u.keep b o e n (λz=>(mem_cons.mp (I.stkSub b z)).elim g l) a) (λb o _ _ a e n=>u.any e n a) (λb o a e n=>u.free b o e n a) (λb o a e=>u.there b o e a) u.tups u.frzs u.tbls (λA q=>by obtain⟨B,h,i,f,t⟩:=q;rw[j]at f;cases f;exact⟨_,h,i,g,t⟩) hok k
def Inv.turned(I:Inv X pins σ H s)(k:∀b o,b≠it->s.heap.get? b=Φ o->h'.get? b=Φ o)(g:H it=Ψ)(f:it≠X.env.locals)(h:it∈X.ex\/X.s₀.heap.objs.size<=it)(i:∀x c,X.env.cells.lookup x=Φ c->c≠it)(j:∀p∈X.pn++pins,p.1≠it):Inv X pins σ H {s with heap:=h',toks:=t'}:=by
 have d:∀b u,H b=Φ u->b≠it:=λb u e z=>by rw[z,g]at e;exact nS e
 refine I.step (g':=s.gens) (d':=s.drawn) (ch:=[it]) (λb l=>?_) (λb o _ _ a e _=>k b o (λz=>a (by simp[z])) e) (λb o _ _ a e _=>⟨o.slots,k b o (λz=>a (by simp[z])) e⟩) (λ_ _ _ _ n=>n)
  (λb o a e=>⟨o,k b o (λz=>a (by simp[z])) e⟩) (λ_ _ e=>e) (λ_ _ _ e=>e) (λb B e=>⟨#[],by rw[e];simp⟩) (λm t=>?_) (λb u e=>?_) I.bare
 have e:b=it:=by simpa using l
 subst e;exact⟨h,f,i,j⟩;obtain⟨o,w,y,A,r⟩:=t;exact⟨o,w,y,k _ o (Ne.symm f) A,r⟩;refine(I.hok b u e).stay (λc v a q=>k c v ?_ q) (λ_ q=>q) λ_ _ q=>q;rcases a with z|z;rw[z];exact d b u e;exact d c _ z
def Inv.tok(I:Inv X pins σ H s)(t):Inv X pins σ H {s with toks:=t}:=I.un (h':=s.heap) (t':=t) Un.refl I.hok
def Inv.kept(I:Inv X pins σ H s)(k:∀b u,s.heap.get? b=Φ u->h'.get? b=Φ u):Inv X pins σ H {s with heap:=h',toks:=t'}:=I.un (Un.kept k) (I.hok.kept k)
def Inv.laid(I:Inv X pins σ H s)(k:∀b u,s.heap.get? b=Φ u->h'.get? b=Φ u)(c:s.heap.objs.size<=a)(new:ObjOk X.prog X.w (upd H a o) h' a o):
 Inv X pins σ (upd H a o) {s with heap:=h',toks:=t'}:=I.un (Un.laid k c (I.hok.fresh c)) (I.hok.laid k c new)
def Inv.write(I:Inv X pins σ H s)(c:Mut (H x))(d:e=x\/H e=Φ (.own x))(k:∀b u,b≠e->s.heap.get? b=Φ u->h'.get? b=Φ u)(a:∃u,h'.get? e=Φ u)(new:ObjOk X.prog X.w (upd H x o) h' x o):Inv X pins σ (upd H x o) {s with heap:=h',toks:=t'}:=I.un (Un.write c d k a) (I.hok.write c d k a new)
def Inv.pins_of(I:Inv X pins σ H s)(h:∀p∈a,s.heap.get? p.1=Φ p.2/\H p.1=Ψ/\p.1≠X.env.locals/\p.1∉X.fs/\∀v,p.2.data≠.cell v):Inv X a σ H s:=⟨I.ok,I.os,I.bare,I.base,I.loc,I.cell,I.free,I.freeC,λp b=>(mem_append.mp b).elim (λz=>I.pin p (mem_append_left _ z)) (h p),I.hok,I.len⟩
def zhx{N:List Str}(hN:N.Nodup){i j:Nat}(a:N[i]?=Φ x)(b:N[j]?=Φ x):i=j:=by obtain⟨h1,e1⟩:=Ω.mp a;obtain⟨h2,e2⟩:=Ω.mp b;exact(List.getElem_inj hN).mp (e1.trans e2.symm)
def zfr(I:Inv X pins σ H s)(hN:X.N.Nodup)(hi:X.N[i]?=Φ x)(hx:Loc X.env.scope x)(r:RelV v u)(h:∀s',Inv X pins (σ.set i (Φ v)) H s'->(∃a,Heap.SameBut a s.heap s'.heap/\(a=X.env.locals\/X.env.cells.lookup x=Φ a))->Q () s')(hf:X.fn x=Γ\/X.env.scope.names.lookup x=Φ .local:=by first|exact .inl rfl|exact .inr rfl|assumption):wpAny M A (storeName X.env x u) Q E s:=by
 obtain⟨m,hn,hl⟩:=id I.loc;have hcls:(X.env.scope.kind==.class||(X.env.scope.kind==.module&&X.env.locals != X.env.globals))=Δ:=by rw[I.ok.kind];rfl
 have hiσ:i<σ.length:=by rw[I.len];exact(Ω.mp hi).1
 have cne:=I.cne;have tracked:∀{a:Addr}{h':Heap},(∃o,s.heap.get? a=Φ o/\H a=Ψ)->Heap.SameBut a s.heap h'->HOk X.prog X.w H h':=λ{a h'} ha hs b ob e=>by obtain⟨_,_,hfree⟩:=ha;refine(I.hok b ob e).stay (λc w' hc q=>(hs.2 c ?_).trans q) (λ_ q=>q) λ_ _ q=>q;rintro rfl;rcases hc with rfl|hc;rw[hfree]at e;exact nS e;rw[hfree]at hc;exact nS hc
 rcases hx with hk|hk;refine wpAny_storeName_local hk hn (λh' hn' hs=>?_) hcls;obtain⟨oL,_,_,hoL,_⟩:=id hn;refine h _ ⟨I.ok,I.os,I.bare,⟨λb o e n hb hx=>?_,λb o e n hb hx=>?_,I.base.free,λb o e hx=>?_,I.base.tups,I.base.frzs,I.base.tbls⟩,⟨_,hn',λj y v' e1 e2 e3=>?_⟩,λy c e=>?_,I.free,I.freeC,λp hp=>?_,tracked ⟨oL,hoL,I.free⟩ hs,by simpa using I.len⟩ ⟨_,hs,.inl rfl⟩;exact(hs.2 b (ne_of_lt (lt_of_lt_of_le (Η e) I.ok.above))).trans (I.base.keep b o e n hb hx);obtain⟨sl,e1⟩:=I.base.slot b o e n hb hx;exact⟨sl,(hs.2 b (ne_of_lt (lt_of_lt_of_le (Η e) I.ok.above))).trans e1⟩;obtain⟨o',e1⟩:=I.base.there b o e hx;exact⟨o',(hs.2 b (ne_of_lt (lt_of_lt_of_le (Η e) I.ok.above))).trans e1⟩;by_cases hj:j=i;subst hj;rw[hi]at e1;cases e1;rw[getElem?_set_self hiσ]at e2;cases e2;exact⟨u,r,.inl ⟨hk,by simp⟩⟩;rw[getElem?_set_ne (Ne.symm hj)]at e2;obtain⟨u',r',q⟩:=hl j y v' e1 e2 e3;refine⟨u',r',?_⟩;rcases q with⟨k,e⟩|⟨k,c,e,z⟩;refine .inl ⟨k,?_⟩;have:y≠x:=λe=>hj (zhx hN e1 (e▸hi));simp[this,e];exact .inr ⟨k,c,e,z.sameBut hs (cne y c e)⟩;obtain⟨w',z⟩:=I.cell y c e;exact⟨w',z.sameBut hs (cne y c e)⟩;obtain⟨e,n,ne,nf,d⟩:=I.pin p hp;exact⟨(hs.2 p.1 ne).trans e,n,ne,nf,d⟩;have hfn:X.fn x=Γ:=by rcases hf with z|z;exact z;rw[z]at hk;cases hk
 obtain⟨c,hc⟩:=I.ok.has x (.inl hk);obtain⟨w',z⟩:=I.cell x c hc;refine wpAny_storeName_cell I.ok.kind hk hc z (λh' hc' hs=>?_);obtain⟨oc,hoc,hocd⟩:=id z;refine h {s with heap:=h'} ⟨I.ok,I.os,I.bare,⟨λb o e n hb hx=>?_,λb o e n hb hx=>?_,I.base.free,λb o e hx=>?_,I.base.tups,I.base.frzs,I.base.tbls⟩,⟨m,hn.sameBut hs (Ne.symm (cne x c hc)),λj y v' e1 e2 e3=>?_⟩,λy c' e=>?_,I.free,I.freeC,λp hp=>?_,tracked ⟨oc,hoc,I.freeC x c hc⟩ hs,by simpa using I.len⟩ ⟨c,hs,.inr hc⟩;exact(hs.2 b (ne_of_lt (lt_of_lt_of_le (Η e) (I.ok.cab x c hfn hc)))).trans (I.base.keep b o e n hb hx);obtain⟨sl,e1⟩:=I.base.slot b o e n hb hx;exact⟨sl,(hs.2 b (ne_of_lt (lt_of_lt_of_le (Η e) (I.ok.cab x c hfn hc)))).trans e1⟩;obtain⟨o',e1⟩:=I.base.there b o e hx;exact⟨o',(hs.2 b (ne_of_lt (lt_of_lt_of_le (Η e) (I.ok.cab x c hfn hc)))).trans e1⟩;by_cases hj:j=i;subst hj;rw[hi]at e1;cases e1;rw[getElem?_set_self hiσ]at e2;cases e2;exact⟨u,r,.inr ⟨.inl hk,c,hc,hc'⟩⟩;rw[getElem?_set_ne (Ne.symm hj)]at e2;obtain⟨u',r',q⟩:=hl j y v' e1 e2 e3;refine⟨u',r',?_⟩;rcases q with q|⟨k,c',e,z'⟩;exact .inl q;refine .inr ⟨k,c',e,z'.sameBut hs ?_⟩;rintro rfl;exact hj (zhx hN e1 (I.ok.inj _ _ _ e hc▸hi));by_cases hcc:c'=c;subst hcc;exact⟨_,hc'⟩;obtain⟨w2,z2⟩:=I.cell y c' e;exact⟨w2,z2.sameBut hs hcc⟩;obtain⟨e,n,ne,nf,d⟩:=I.pin p hp;refine⟨(hs.2 p.1 ?_).trans e,n,ne,nf,d⟩;intro q;rw[q,hoc]at e;have q':oc=p.2:=Option.some.inj e;exact d w' (by rw[<-q'];exact hocd)
def zhd(I:Inv X pins σ H s)(hN:X.N.Nodup)(hi:X.N[i]?=Φ x)(hx:Loc X.env.scope x)(r:RelV v u)(h:∀s',Inv X pins (σ.set i (Φ v)) H s'->Q () s')(hf:X.fn x=Γ\/X.env.scope.names.lookup x=Φ .local:=by first|exact .inl rfl|exact .inr rfl|assumption):wpAny M A (storeName X.env x u) Q E s:=
 zfr I hN hi hx r (λs' I' _=>h s' I') hf
def Inv.call'(I:Inv X pins σ H s)(d:s'.os=s.os)(u:Un (frs X.stack) ch H H' s.heap s'.heap)(hok:HOk X.prog X.w H' s'.heap)(f:AllBare s'.gens)(a:∀b∈ch,(b∈X.ex\/X.s₀.heap.objs.size<=b)/\b≠X.env.locals/\(∀x c,X.env.cells.lookup x=Φ c->c≠b)/\∀p∈X.pn++pins,p.1≠b):Inv X pins σ H' s':=by
 obtain⟨h',g',d',t',g⟩:=s';have e:g=s.os:=d;subst e;exact I.call (g':=g') (t':=t') (d':=d') u hok f a
end
@[reducible]def XK:=Θ->Option Addr->Hp->Prop
@[reducible]def St:=List (Option V)
@[reducible]def VK:=V->Hp->Prop
@[reducible]def TE:=St->Hp->VK->Prop
@[reducible]def TT:=St->Hp->(Bool->Hp->Prop)->Prop
@[reducible]def TA:=St->Hp->(List V->Hp->Prop)->Prop
structure Ends where
 nx:St->Hp->Prop
 rt:VK
 bk:St->Hp->Prop:=λ_ _=>False
 ct:St->Hp->Prop:=λ_ _=>False
@[reducible]def TS:=Ends->St->Hp->Prop
abbrev EP(X:Cx)(pins:List (Addr×Obj))(σ:St)(Q:VK)(u:Θ)(s':Β):Prop:=∃v H',Inv X pins σ H' s'/\RelV v u/\Q v H'
abbrev TP(X:Cx)(pins:List (Addr×Obj))(σ:St)(Q:Bool->Hp->Prop)(b:Bool)(s':Β):Prop:=∃H',Inv X pins σ H' s'/\Q b H'
abbrev AP(X:Cx)(pins:List (Addr×Obj))(σ:St)(Q:List V->Hp->Prop)(us:List Θ)(s':Β):Prop:=∃vs H',Inv X pins σ H' s'/\Vals vs us/\Q vs H'
abbrev SP(X:Cx)(pins:List (Addr×Obj))(D:Ends)(f:Flow)(s':Β):Prop:=match f with|.next=>∃σ' H',Inv X pins σ' H' s'/\D.nx σ' H'|.brk=>∃σ' H',Inv X pins σ' H' s'/\D.bk σ' H'|.cont=>∃σ' H',Inv X pins σ' H' s'/\D.ct σ' H'|.ret u=>∃v σ' H',Inv X pins σ' H' s'/\RelV v u/\D.rt v H'
abbrev PE(X:Cx)(e:Expr)(t:TE):Prop:=∀(pins:List (Addr×Obj))(s:Β)(σ:St)(H:Hp)(Q:VK),Inv X pins σ H s->t σ H Q->wpAny (model X.prog X.w) X.A (eval e X.env) (EP X pins σ Q) X.xe s
abbrev PT(X:Cx)(e:Expr)(t:TT):Prop:=∀(pins:List (Addr×Obj))(s:Β)(σ:St)(H:Hp)(Q:Bool->Hp->Prop),Inv X pins σ H s->t σ H Q->wpAny (model X.prog X.w) X.A (isTrue e X.env (eval e X.env)) (TP X pins σ Q) X.xe s
abbrev PW(X:Cx)(e:Expr)(t:TT):Prop:=∀(whole:Sem Θ)(pins:List (Addr×Obj))(s:Β)(σ:St)(H:Hp)(Q:Bool->Hp->Prop),Inv X pins σ H s->t σ H Q->wpAny (model X.prog X.w) X.A (isTrue e X.env whole) (TP X pins σ Q) X.xe s
def PW.pt(h:PW X e t):PT X e t:=h _
abbrev PA(X:Cx)(es:List Expr)(t:TA):Prop:=∀(pos:Pos)(pins:List (Addr×Obj))(s:Β)(σ:St)(H:Hp)(Q:List V->Hp->Prop),Inv X pins σ H s->t σ H Q->wpAny (model X.prog X.w) X.A (spliced (backTo pos (starEach es X.env))) (AP X pins σ Q) X.xe s
abbrev PS(X:Cx)(st:Stmt)(t:TS):Prop:=∀(pins:List (Addr×Obj))(s:Β)(σ:St)(H:Hp)(D:Ends),Inv X pins σ H s->t D σ H->wpAny (model X.prog X.w) X.A (exec st X.env) (SP X pins D) X.xe s
abbrev PSs(X:Cx)(st:List Stmt)(t:TS):Prop:=∀(pins:List (Addr×Obj))(s:Β)(σ:St)(H:Hp)(D:Ends),Inv X pins σ H s->t D σ H->wpAny (model X.prog X.w) X.A (execs st X.env) (SP X pins D) X.xe s
def thn(h:wpAny M A t Q E s)(b:∀a s,Q a s->c a s):wpAny M A t c E s:=ϑ h b λ_ _ x=>x
section
variable{X:Cx}
def bin(l:PE X a m)(n:PE X b o){R:V->V->Hp->Prop}(I:Inv X c e H s)(h:m e H λx k=>o e k λy d=>R x y d){Q}{f:Θ->Θ->Sem E}(p:∀v u j x y d,Inv X c e d j->RelV x v->RelV y u->R x y d->wpAny (model X.prog X.w) X.A (f v u) Q X.xe j):
  wpAny (model X.prog X.w) X.A (eval a X.env) (λv g=>wpAny (model X.prog X.w) X.A (eval b X.env) (λu i=>wpAny (model X.prog X.w) X.A (f v u) Q X.xe i) X.xe g) X.xe s:=by
 refine thn (l c s e H _ I h) λv q z=>?_;obtain⟨x,k,r,t,w⟩:=z;refine thn (n c q e k _ r w) λu j z=>?_;obtain⟨y,d,A,B,C⟩:=z;exact p v u j x y d A t B C
abbrev tVar(i:Nat):TE:=λσ H Q=>∃v,σ[i]?=Φ (Φ v)/\Q v H
abbrev tC(v:V):TE:=λ_ H Q=>Q v H
def zdN(hN:X.N[i]?=Φ x)(hv:Vis X.env.scope x)(hd:(x==("__debug__":Str))=Δ:=by decide)(hcd:(x==("__classdict__":Str))=Δ:=by decide):PE X (.Name x pos) (tVar i):=by intro pins s σ H Q I h;obtain⟨v,e,h⟩:=h;obtain⟨m,hn,hl⟩:=I.loc;obtain⟨u,r,l⟩:=hl i x v hN e hv;have fin:EP X pins σ Q u s:=⟨v,H,I,r,h⟩;rcases l with⟨hk,hm⟩|⟨hk,c,hc,hcell⟩;exact wpAny_Name (wpAny_loadName_local I.ok.kind hk hn hm fin) hd;rcases hk with hk|hk;exact wpAny_Name (wpAny_loadName_cell I.ok.kind hk hc hcell fin) hd;exact wpAny_Name (wpAny_loadName_free I.ok.kind hk hc hcell fin hcd) hd
def zfF:PE X (.Constant (.int i) j pos) (tC (.int i)):=λ_ _ _ H _ I h=>wpAny_Constant_int ⟨.int i,H,I.tok _,⟨_,rfl⟩,h⟩
def zsy:PE X (.Constant (.bool b) j pos) (tC (.bl b)):=λ_ _ _ H _ I h=>Constant_bool ⟨.bl b,H,I,rfl,h⟩
def zmX:PE X (.Constant .none j pos) (tC .non):=λ_ _ _ H _ I h=>Constant_none ⟨.non,H,I,rfl,h⟩
def zqN:PE X (.Constant (.str x) j pos) (tC (.str x)):=λ_ _ _ H _ I h=>Calls.Constant_str ⟨.str x,H,I.tok _,⟨_,rfl⟩,h⟩
abbrev Gl(X:Cx)(x:Str):Prop:=X.env.kindOf x=Φ .globalImplicit
def zdS(I:Inv X pins σ H s)(hg:Gl X x)(hm:X.mg x=Φ u)(h:Q u s)(hd:(x==("__debug__":Str))=Δ:=by decide):wpAny (model X.prog X.w) X.A (eval (.Name x pos) X.env) Q E s:=
 Calls.Name_function_global I.ok.kind hg (Calls.loadGlobal_global (by rw[I.ok.glob];exact I.mod.glob.keeps I.bk) hm h) hd
def zcL(I:Inv X pins σ H s)(hg:Gl X x)(hm:X.mg x=Ψ)(hv:bootBuiltins x=Φ u)(h:Q u s)(hn:x≠"__name__":=by decide)(hd:(x==("__debug__":Str))=Δ:=by decide):wpAny (model X.prog X.w) X.A (eval (.Name x pos) X.env) Q E s:=by
 obtain⟨mb,h1,h2⟩:=I.mod.blt;exact Calls.Name_function_global I.ok.kind hg (Calls.loadGlobal_builtin (by rw[I.ok.glob];exact I.mod.glob.keeps I.bk) hm (by rw[I.ok.blt];exact h1.keeps I.bk) ((h2 x hn).trans hv) h) hd
def zeY(hg:Gl X x)(hm:X.mg x=Φ u)(r:RelV v u)(hd:(x==("__debug__":Str))=Δ:=by decide):PE X (.Name x pos) (tC v):=λ_ _ _ H _ I h=>zdS I hg hm ⟨v,H,I,r,h⟩ hd
def zjP(hg:Gl X x)(hm:X.mg x=Ψ)(hv:bootBuiltins x=Φ u)(r:RelV v u)(hn:x≠"__name__":=by decide)(hd:(x==("__debug__":Str))=Δ:=by decide):PE X (.Name x pos) (tC v):=λ_ _ _ H _ I h=>zcL I hg hm hv ⟨v,H,I,r,h⟩ hn hd
variable{a b:Expr}{ta tb:TE}{pos:Pos}
def RelV.none_iff(r:RelV x v):(v==Θ.none)=decide (x=.non):=by cases x with|non=>cases r;rfl|bl _=>cases r;rfl|int _=>obtain⟨t,rfl⟩:=r;rfl|str _=>obtain⟨t,rfl⟩:=r;rfl|byt _=>obtain⟨t,rfl⟩:=r;rfl|flt _=>obtain⟨t,rfl⟩:=r;rfl|ref _=>cases r;rfl|ty _=>cases r;rfl
abbrev tB(t:TE):TT:=λσ H Q=>t σ H λx H1=>∃c,x=.bl c/\Q c H1
def zqF(h:PE X e t)(he:∀whole,isTrue e X.env whole=(do let v <-whole;standAt e.pos;holding [v] (truthy v)):=by intro _;rfl):PT X e (tB t):=by intro pins s σ H Q I hw;refine isTrue_plain (thn (h pins s σ H _ I hw) λv s1 z=>?_) (he _);obtain⟨x,H1,I1,r1,q1⟩:=z;obtain⟨d,rfl,q⟩:=q1;cases r1;exact ϒ ⟨H1,I1,q⟩
variable{tA tB':TT}{rest:List Expr}
abbrev tAnd(t u:TT):TT:=λσ H Q=>t σ H λc H1=>if c=Γ then u σ H1 Q else Q Δ H1
abbrev tOr(t u:TT):TT:=λσ H Q=>t σ H λc H1=>if c=Γ then Q Γ H1 else u σ H1 Q
abbrev tNot(t:TT):TT:=λσ H Q=>t σ H λc H1=>Q (!c) H1
def zob(ha:PT X a tA):PW X (.BoolOp .And [a] pos) tA:=by intro wh pins s σ H Q I h;refine isTrue_and (thn (ha pins s σ H Q I h) λc s1 e=>?_);cases c with|true=>exact isTrue_and_nil e|false=>exact e
def zmT(ha:PT X a tA):PW X (.BoolOp .Or [a] pos) tA:=by intro wh pins s σ H Q I h;refine isTrue_or (thn (ha pins s σ H Q I h) λc s1 e=>?_);cases c with|false=>exact isTrue_or_nil e|true=>exact e
def zqE(ha:PT X a tA)(hb:PW X (.BoolOp .And (b::rest) pos) tB'):PW X (.BoolOp .And (a::b::rest) pos) (tAnd tA tB'):=by intro wh pins s σ H Q I h;refine isTrue_and (thn (ha pins s σ H _ I h) λc s1 z=>?_);obtain⟨H1,I1,q1⟩:=z;cases c with|true=>exact hb wh pins s1 σ H1 Q I1 q1|false=>exact⟨H1,I1,q1⟩
def zqD(ha:PT X a tA)(hb:PW X (.BoolOp .Or (b::rest) pos) tB'):PW X (.BoolOp .Or (a::b::rest) pos) (tOr tA tB'):=by intro wh pins s σ H Q I h;refine isTrue_or (thn (ha pins s σ H _ I h) λc s1 z=>?_);obtain⟨H1,I1,q1⟩:=z;cases c with|true=>exact⟨H1,I1,q1⟩|false=>exact hb wh pins s1 σ H1 Q I1 q1
def zmU(ha:PT X a tA):PT X (.UnaryOp .Not a pos) (tNot tA):=by intro pins s σ H Q I h;exact isTrue_not (ha pins s σ H (λc H1=>Q (!c) H1) I h)
abbrev zse(ta tb:TE):TE:=λσ H Q=>ta σ H λx H1=>∃c,x=.bl c/\if c=Γ then tb σ H1 Q else Q (.bl Δ) H1
abbrev tOrV(ta tb:TE):TE:=λσ H Q=>ta σ H λx H1=>∃c,x=.bl c/\if c=Γ then Q (.bl Γ) H1 else tb σ H1 Q
abbrev zsc(ta:TE):TE:=λσ H Q=>ta σ H λx H1=>∃c,x=.bl c/\Q (.bl (!c)) H1
def zmW(h:PE X a t):PE X (.BoolOp op [a] pos) t:=λpins s σ H Q I hw=>BoolOp_one (h pins s σ H Q I hw)
def zqW(ha:PE X a ta)(hb:PE X (.BoolOp .And (b::rest) pos) tb):PE X (.BoolOp .And (a::b::rest) pos) (zse ta tb):=by intro pins s σ H Q I h;refine BoolOp_and (thn (ha pins s σ H _ I h) λv s1 z=>?_);obtain⟨x,H1,I1,r1,q1⟩:=z;obtain⟨c,rfl,q1⟩:=q1;cases r1;refine ϒ ?_;cases c with|true=>exact hb pins s1 σ H1 Q I1 q1|false=>exact⟨.bl Δ,H1,I1,rfl,q1⟩
def zsw(ha:PE X a ta)(hb:PE X (.BoolOp .Or (b::rest) pos) tb):PE X (.BoolOp .Or (a::b::rest) pos) (tOrV ta tb):=by intro pins s σ H Q I h;refine BoolOp_or (thn (ha pins s σ H _ I h) λv s1 z=>?_);obtain⟨x,H1,I1,r1,q1⟩:=z;obtain⟨c,rfl,q1⟩:=q1;cases r1;refine ϒ ?_;cases c with|false=>exact hb pins s1 σ H1 Q I1 q1|true=>exact⟨.bl Γ,H1,I1,rfl,q1⟩
def zqP(ha:PE X a ta):PE X (.UnaryOp .Not a pos) (zsc ta):=by intro pins s σ H Q I h;refine UnaryOp_ (thn (ha pins s σ H _ I h) λv s1 z=>?_);obtain⟨x,H1,I1,r1,q1⟩:=z;obtain⟨c,rfl,q1⟩:=q1;cases r1;exact not_of (ϒ ⟨.bl (!c),H1,I1,rfl,q1⟩)
abbrev tIf(t:TT)(ta tb:TE):TE:=λσ H Q=>t σ H λc H1=>if c=Γ then ta σ H1 Q else tb σ H1 Q
def zlM(hc:PT X c tA)(ha:PE X a ta)(hb:PE X b tb):PE X (.IfExp c a b pos) (tIf tA ta tb):=by intro pins s σ H Q I h;refine wpAny_IfExp (thn (hc pins s σ H _ I h) λd s1 z=>?_);obtain⟨H1,I1,q1⟩:=z;cases d with|true=>exact ha pins s1 σ H1 Q I1 q1|false=>exact hb pins s1 σ H1 Q I1 q1
end
abbrev SqL(K:Frag)(H:Hp)(a:Addr)(xs:List V):Prop:=
 Rd H a (.lst xs)\/
  ∃(o:Obj) (its:Array Θ) (n:Nat),K.lookup a=Φ o/\o.cls=.type "list"/\o.dict=Ψ/\o.data=.seq its n/\its.size<=sizeLine/\Vals xs its.toList
abbrev SqT(K:Frag)(H:Hp)(a:Addr)(xs:List V):Prop:=
 Rd H a (.tup xs)\/
  ∃(o:Obj) (its:Array Θ) (n:Nat),K.lookup a=Φ o/\o.cls=.type "tuple"/\o.data=.seq its n/\its.size<=sizeLine/\Vals xs its.toList
abbrev absV:Θ->Option V
 |.none=>Φ .non|.bool b=>Φ (.bl b)|.int i _=>Φ (.int i)|.str x _=>Φ (.str x)|.bytes b _=>Φ (.byt b)|.float b _=>Φ (.flt b)|.ref a=>Φ (.ref a)|.type n=>Φ (.ty n)|_=>Ψ
def RelV.abs(r:RelV x u):absV u=Φ x:=by cases x with|non=>cases r;rfl|bl _=>cases r;rfl|int _=>obtain⟨t,rfl⟩:=r;rfl|str _=>obtain⟨t,rfl⟩:=r;rfl|byt _=>obtain⟨t,rfl⟩:=r;rfl|flt _=>obtain⟨t,rfl⟩:=r;rfl|ref _=>cases r;rfl|ty _=>cases r;rfl
def RelV.inj(r:RelV x u)(q:RelV y u):x=y:=Option.some.inj (r.abs.symm.trans q.abs)
def Vals.inj{xs ys:List V}{us:List Θ}(h:Vals xs us)(k:Vals ys us):xs=ys:=by induction h generalizing ys with|nil=>cases k;rfl|cons r t i=>cases k with|cons a b=>rw[r.inj a,i b]
section
variable{X:Cx}{pins:List (Addr×Obj)}{σ:St}{H:Hp}{s:Β}{a:Addr}{xs ys:List V}
def SqL.of{K}(h:H a=Φ (.lst xs)):SqL K H a xs:=.inl (.inl h)
def SqT.of{K}(h:H a=Φ (.tup xs)):SqT K H a xs:=.inl (.inl h)
def Inv.list(I:Inv X pins σ H s)(h:SqL X.K H a xs):∃its:List Θ,Vals xs its/\PlainL s.heap a its.toArray/\xs.length<=sizeLine:=by rcases h with h|⟨o,its,n,b,c,d,f,g,r⟩;obtain⟨z,its,n,r,e⟩:=h.ok I.hok;exact⟨its,r,⟨_,n,e,rfl,rfl,rfl⟩,z⟩;refine⟨its.toList,r,⟨o,n,I.kIn a o b,c,d,by simpa using f⟩,?_⟩;have e:=r.length;simp only[length_toList]at e;lia
def Inv.tuple(I:Inv X pins σ H s)(h:SqT X.K H a xs):∃its:List Θ,Vals xs its/\IsTup s.heap a its.toArray/\xs.length<=sizeLine:=by rcases h with h|⟨o,its,n,b,c,d,f,r⟩;obtain⟨z,its,r,p⟩:=h.ok I.hok;exact⟨its,r,p,z⟩;refine⟨its.toList,r,⟨o,I.kIn a o b,c,n,by simpa using d⟩,?_⟩;have e:=r.length;simp only[length_toList]at e;lia
def Inv.list_inj(I:Inv X pins σ H s)(h:SqL X.K H a xs)(h':SqL X.K H a ys):xs=ys:=by
 obtain⟨c,r,⟨o,n,e,_,_,d⟩,_⟩:=I.list h;obtain⟨b,i,⟨k,l,f,_,_,g⟩,_⟩:=I.list h';rw[e]at f;cases f;rw[d]at g;injection g with j _;have:c=b:=by simpa using congrArg Array.toList j
 subst this;exact r.inj i
def Inv.tuple_inj(I:Inv X pins σ H s)(h:SqT X.K H a xs)(h':SqT X.K H a ys):xs=ys:=by
 obtain⟨c,r,⟨o,e,_,n,d⟩,_⟩:=I.tuple h;obtain⟨b,i,⟨k,f,_,l,g⟩,_⟩:=I.tuple h';rw[e]at f;cases f;rw[d]at g;injection g with j _;have:c=b:=by simpa using congrArg Array.toList j
 subst this;exact r.inj i
end
noncomputable abbrev Cx.wish(X:Cx)(E:Θ->Β->Prop):Cx:={X with xe:=E}
noncomputable abbrev Cx.nox(X:Cx):Cx:=X.wish λ_ _=>False
def Cx.Ok.wish{X:Cx}(ok:X.Ok)(E):(X.wish E).Ok:=⟨ok.mod,ok.kind,ok.glob,ok.blt,ok.above,ok.inj,ok.has,ok.cab,ok.hd,ok.frames,ok.stk,ok.exf,ok.bs,ok.bsz,ok.noex,ok.exfs,ok.funs,ok.frf⟩
def Cx.Ok.unwish{X:Cx}(ok:(X.wish E).Ok):X.Ok:=⟨ok.mod,ok.kind,ok.glob,ok.blt,ok.above,ok.inj,ok.has,ok.cab,ok.hd,ok.frames,ok.stk,ok.exf,ok.bs,ok.bsz,ok.noex,ok.exfs,ok.funs,ok.frf⟩
section
variable{X:Cx}{pins:List (Addr×Obj)}{σ:St}{H:Hp}{s:Β}{E:Θ->Β->Prop}
def Inv.wish(I:Inv X pins σ H s)(E):Inv (X.wish E) pins σ H s:=⟨I.ok.wish E,I.os,I.bare,I.base,I.loc,I.cell,I.free,I.freeC,I.pin,I.hok,I.len⟩
def Inv.unwish(I:Inv (X.wish E) pins σ H s):Inv X pins σ H s:=⟨I.ok.unwish,I.os,I.bare,I.base,I.loc,I.cell,I.free,I.freeC,I.pin,I.hok,I.len⟩
def SP.unwish(h:SP (X.wish E) pins D f s'):SP X pins D f s':=by cases f with|next=>obtain⟨a,b,I,q⟩:=h;exact⟨a,b,I.unwish,q⟩|brk=>obtain⟨a,b,I,q⟩:=h;exact⟨a,b,I.unwish,q⟩|cont=>obtain⟨a,b,I,q⟩:=h;exact⟨a,b,I.unwish,q⟩|ret u=>obtain⟨v,a,b,I,r,q⟩:=h;exact⟨v,a,b,I.unwish,r,q⟩
def PE.nox(h:PE X.nox e t):PE X e t:=λpins s σ H Q I a=>ϑ (h pins s σ H Q (I.wish _) a) (λ_ _ k=>(by obtain⟨v,b,c,r,q⟩:=k;exact ⟨v,b,c.unwish,r,q⟩)) λ_ _ z=>False.elim z
def PSs.nox{st}(h:PSs X.nox st t):PSs X st t:=λpins s σ H D I a=>ϑ (h pins s σ H D (I.wish _) a) (λ_ _ q=>q.unwish) λ_ _ z=>False.elim z
end
section
variable{X:Cx}{st:Stmt}{rest:List Stmt}{t u:TS}{e:Expr}{te:TE}{pos:Pos}
abbrev zpS:TS:=λD σ H=>D.nx σ H
abbrev tSeq(t u:TS):TS:=λD σ H=>t {D with nx:=u D} σ H
def zgy:PSs X [] zpS:=λ_ _ σ H _ I h=>wpAny_execs_nil ⟨σ,H,I,h⟩
def zaB(h1:PS X st t)(h2:PSs X rest u):PSs X (st::rest) (tSeq t u):=by intro pins s σ H D I h;refine wpAny_execs_cons (thn (h1 pins s σ H {D with nx:=u D} I h) λf s1 q=>?_);cases f with| next=>obtain⟨σ',H',I',q⟩:=q;exact h2 pins s1 σ' H' D I' q|ret v=>exact q|brk=>exact q|cont=>exact q
def zeW(h1:PS X st t):PSs X [st] t:=by intro pins s σ H D I h;refine wpAny_execs_cons (thn (h1 pins s σ H D I h) λf s1 q=>?_);cases f with|next=>exact wpAny_execs_nil q|ret v=>exact q|brk=>exact q|cont=>exact q
def Inv.quiet(I:Inv X a b H s):interactive X.env=Δ:=by simp[interactive,I.ok.kind]
abbrev zsd(te:TE):TS:=λD σ H=>te σ H λ_ H1=>D.nx σ H1
def zoj(he:PE X e te)(hs:swapsWith e Ψ pos.line X.env=pure Δ:=by rfl):PS X (.Expr e pos) (zsd te):=by intro pins s σ H D I h;exact wpAny_Expr_any (thn (he pins s σ H _ I h) λv s1 z=>(by obtain⟨x,H1,I1,r1,q1⟩:=z;exact ⟨σ,H1,I1,q1⟩)) I.quiet hs
abbrev tRet(te:TE):TS:=λD σ H=>te σ H D.rt
def zjF(he:PE X e te):PS X (.Return (Φ e) pos) (tRet te):=by intro pins s σ H D I h;exact wpAny_Return_some (thn (he pins s σ H _ I h) λv s1 z=>(by obtain⟨x,H1,I1,r1,q1⟩:=z;exact ⟨x,σ,H1,I1,r1,q1⟩))
abbrev zsa:TS:=λD _ H=>D.rt .non H
def zog:PS X (.Return Ψ pos) zsa:=λ_ _ σ H _ I h=>wpAny_Return_none ⟨.non,σ,H,I,rfl,h⟩
abbrev tIfS(c:TT)(t u:TS):TS:=λD σ H=>c σ H λb H1=>if b=Γ then t D σ H1 else u D σ H1
def zoi(hc:PT X c tc)(ha:PSs X a t)(hb:PSs X b u):PS X (.If c a b pos) (tIfS tc t u):=by intro pins s σ H D I h;refine wpAny_If (thn (hc pins s σ H _ I h) λd s1 z=>?_);obtain⟨H1,I1,q1⟩:=z;cases d with|true=>exact ha pins s1 σ H1 D I1 q1|false=>exact hb pins s1 σ H1 D I1 q1
end
@[reducible]def TG:=V->St->Hp->(St->Hp->Prop)->Prop
@[reducible]def TGs:=List V->St->Hp->(St->Hp->Prop)->Prop
abbrev PG(X:Cx)(target:Expr)(t:TG):Prop:=
 ∀(pins:List (Addr×Obj))(s:Β)(σ:St)(H:Hp)(v:V)(u:Θ)(Q:St->Hp->Prop),Inv X pins σ H s->RelV v u->t v σ H Q->
  wpAny (model X.prog X.w) X.A (assign target X.env u) (λ_ s'=>∃σ' H',Inv X pins σ' H' s'/\Q σ' H') X.xe s
abbrev PGs(X:Cx)(ts:List Expr)(t:TGs):Prop:=
 ∀(pins:List (Addr×Obj))(s:Β)(σ:St)(H:Hp)(vs:List V)(us:List Θ)(Q:St->Hp->Prop),Inv X pins σ H s->Vals vs us->t vs σ H Q->
  wpAny (model X.prog X.w) X.A (assignInOrder ((assignEach ts X.env).map (·.2)) us) (λ_ s'=>∃σ' H',Inv X pins σ' H' s'/\Q σ' H') X.xe s
@[reducible]def TSet:=V->V->V->Hp->(Hp->Prop)->Prop
abbrev PSet(X:Cx)(t:TSet):Prop:=
 ∀(pins:List (Addr×Obj))(s:Β)(σ:St)(H:Hp)(o i v:V)(ov iv u:Θ)(Q:Hp->Prop),Inv X pins σ H s->RelV o ov->RelV i iv->RelV v u->t o i v H Q->
  wpAny (model X.prog X.w) X.A (setItem ov iv u) (λ_ s'=>∃H',Inv X pins σ H' s'/\Q H') X.xe s
section
variable{X:Cx}{pos:Pos}
abbrev zff(i:Nat):TG:=λv σ H Q=>Q (σ.set i (Φ v)) H
def zgC(hN:X.N.Nodup)(hi:X.N[i]?=Φ x)(hx:Loc X.env.scope x)(hf:X.fn x=Γ\/X.env.scope.names.lookup x=Φ .local:=by first|exact .inl rfl|exact .inr rfl|assumption):PG X (.Name x pos) (zff i):=by intro pins s σ H v u Q I r h;exact wpAny_assign_Name (zhd I hN hi hx r (λs' I'=>⟨_,H,I',h⟩) hf)
abbrev gNil:TGs:=λvs σ H Q=>vs=[]/\Q σ H
abbrev zsT(t:TG)(u:TGs):TGs:=λvs σ H Q=>∃v r,vs=v::r/\t v σ H λσ' H'=>u r σ' H' Q
def zou:PGs X [] gNil:=by intro pins s σ H vs us Q I r h;obtain⟨e,h⟩:=h;subst e;cases r;exact assignInOrder_nil ⟨σ,H,I,h⟩
def zlF(h1:PG X e t)(h2:PGs X es u)(hs:(assignEach (e::es) X.env).map (·.2)=assign e X.env::(assignEach es X.env).map (·.2):=by rfl):PGs X (e::es) (zsT t u):=by
 intro pins s σ H vs us Q I r h;obtain⟨v,vr,e1,h⟩:=h;subst e1;cases r with| cons r rr=>rw[hs];refine assignInOrder_cons (thn (h1 pins s σ H _ _ _ I r h) λ_ s1 z=>?_);obtain⟨σ1,H1,I1,q1⟩:=z;exact h2 pins s1 σ1 H1 _ _ Q I1 rr q1
abbrev gTup(K:Frag)(n:Nat)(t:TGs):TG:=λv σ H Q=>∃a xs,v=.ref a/\SqT K H a xs/\xs.length=n/\t xs σ H Q
def zqL(hc:X.calm=Γ)(h:PGs X es t)(hn:(assignEach es X.env).length=n:=by rfl)(hst:(assignEach es X.env).findIdx? (·.1)=Ψ:=by rfl):PG X (.Tuple es k pos) (gTup X.K n t):=by
 intro pins s σ H v u Q I r hw;obtain⟨a,xs,e1,hq,hl,hw⟩:=hw;subst e1;cases r;obtain⟨its,rv,ht,hz⟩:=I.tuple hq;refine assign_Tuple_tuple (I.ok.hd hc) ht (by simp[hn,<-hl,rv.length]) hst λh' hx=>?_;have I1:Inv X pins σ H {s with heap:=h'}:=I.kept (t':=s.toks) λb o e=>hx b o (ne_of_lt (Η e)) e;exact h pins _ σ H xs _ Q I1 (by simpa using rv) hw
abbrev tAsg(te:TE)(g:TG):TS:=λD σ H=>te σ H λx H1=>g x σ H1 D.nx
def zqH(he:PE X e te)(hg:PG X tg g)(hs:swapsWithSole [tg] e pos.line X.env=pure Δ:=by rfl)(hw:swappedStores [tg] e X.env=pure Ψ:=by rfl)(h1:(assignEach [tg] X.env).map (·.2)=[assign tg X.env]:=by rfl):PS X (.Assign [tg] e pos) (tAsg te g):=by
 intro pins s σ H D I h;refine wpAny_Assign_stores (thn (he pins s σ H _ I h) λv s1 z=>?_) hs hw;obtain⟨x,H1,I1,r1,q1⟩:=z;rw[h1];exact thn (hg pins s1 σ H1 x v _ I1 r1 q1) λ_ s2 q=>q
def zjE(hN:X.N.Nodup)(hi:X.N[i]?=Φ x)(hx:Loc X.env.scope x)(he:PE X e te)(hs:swapsWith e (Φ (.Name x pos')) pos.line X.env=pure Δ:=by rfl)(hf:X.fn x=Γ\/X.env.scope.names.lookup x=Φ .local:=by first|exact .inl rfl|exact .inr rfl|assumption):
  PS X (.Assign [.Name x pos'] e pos) (tAsg te (zff i)):=by
 intro pins s σ H D I h;refine wpAny_Assign_Name (thn (he pins s σ H _ I h) λv s1 z=>?_) hs;obtain⟨y,H1,I1,r1,q1⟩:=z;exact zhd I1 hN hi hx r1 (λs2 I2=>⟨_,H1,I2,q1⟩) hf
end
structure It where
 go:Nat->Hp->Prop
 yld:Nat->Hp->V->Hp->Prop
 stop:Nat->Hp->Prop
abbrev FpOk(X:Cx)(pins:List (Addr×Obj))(H:Hp)(b:Addr):Prop:=H b=Ψ/\b≠X.env.locals/\b∉X.fs/\(b∈X.ex\/X.s₀.heap.objs.size<=b)/\(∀x c,X.env.cells.lookup x=Φ c->c≠b)/\∀p∈X.pn++pins,p.1≠b
def Inv.fpOk(I:Inv X a h H s)(d:s.heap.objs.size<=b)(f:H' b=Ψ):FpOk X a H' b:=by refine⟨f,ne_of_gt (lt_of_lt_of_le I.lt d),I.nofs d,.inr (le_trans I.sz d),λx c e z=>?_,λp g z=>?_⟩;obtain⟨v,q⟩:=I.cell x c e;exact absurd (lt_of_lt_of_le q.lt (by rw[z];exact d)) (lt_irrefl _);exact absurd (lt_of_lt_of_le (Η (I.pin p g).1) (by rw[z];exact d)) (lt_irrefl _)
structure Turn(P:ϊ)(w:ύ)(K:Frag)(tg:Expr)(J:It)(fp:List Addr)(it:Addr)(tn:Nat->Heap->Prop):Prop where
 mem:it∈fp
 obj:∀i h,tn i h->∀b∈fp,∃o,h.get? b=Φ o/\∀v,o.data≠.cell v
 keep:∀i h h',tn i h->(∀b∈fp,∀o,h.get? b=Φ o->h'.get? b=Φ o)->tn i h'
 item:∀(X:Cx),X.prog=P->X.w=w->X.K=K->X.calm=Γ->∀(i:Nat)(pins:List (Addr×Obj))(s:Β)(σ:St)(H:Hp)(E:Θ->Β->Prop),Inv X pins σ H s->(∀b∈fp,FpOk X pins H b)->tn i s.heap->J.go i H->
  wpAny (model P w) X.A (pyNext (.ref it)) (λr s1=>∃u,r=Φ u/\
   wpAny (model P w) X.A (letOwnedTupleGo tg (.ref it) u) (λ_ s2=>∃x H',Inv X pins σ H' s2/\RelV x u/\J.yld i H x H'/\tn (i+1) s2.heap/\∀b∈fp,H' b=Ψ) E s1) E s
 done:∀(X:Cx),X.prog=P->X.w=w->X.K=K->X.calm=Γ->∀(i:Nat)(pins:List (Addr×Obj))(s:Β)(σ:St)(H:Hp)(E:Θ->Β->Prop),Inv X pins σ H s->(∀b∈fp,FpOk X pins H b)->tn i s.heap->J.stop i H->
  wpAny (model P w) X.A (pyNext (.ref it)) (λr s1=>r=Ψ/\Inv X pins σ H s1) E s
 self:∀(A:ϔ)(i:Nat)(s:Β)(Q:Θ->Β->Prop)(E:Θ->Β->Prop),tn i s.heap->Q (.ref it) s->wpAny (model P w) A (pyIter (.ref it)) Q E s
@[reducible]def TI:=St->Hp->(It->Hp->Prop)->Prop
abbrev PIE(X:Cx)(pins:List (Addr×Obj))(σ:St)(tg:Expr)(R:It->Hp->Prop)(itv:Θ)(s2:Β):Prop:=∃(it:Addr) (fp:List Addr) (tn:Nat->Heap->Prop) (J:It) (H':Hp),itv=.ref it/\Inv X pins σ H' s2/\Turn X.prog X.w X.K tg J fp it tn/\tn 0 s2.heap/\(∀b∈fp,FpOk X pins H' b)/\R J H'
abbrev PI(X:Cx)(tg iter:Expr)(wi:TI):Prop:=
 ∀(pins:List (Addr×Obj))(s:Β)(σ:St)(H:Hp)(R:It->Hp->Prop),Inv X pins σ H s->wi σ H R->
  wpAny (model X.prog X.w) X.A (eval iter X.env) (λv s1=>wpAny (model X.prog X.w) X.A (pyIter v) (PIE X pins σ tg R) X.xe s1) X.xe s
def zo1(b:s.heap.get? it=Φ o)(c:o.cls=.type n)(hd:o.data=.fields vs)(d:["enumerate","zip","dict_itemiterator","dict_reverseitemiterator","odict_iterator","itertools.zip_longest","itertools.pairwise"].contains n=Δ)(a:Q () s):wpAny M A (letOwnedTupleGo e (.ref it) u) Q E s:=by
 unfold letOwnedTupleGo;cases e<;>first
  |exact Ν a
  |(cases u<;>first
   |exact Ν a
   | (refine Α (wpAny_load b ?_)
      rw[c,hd];show wpAny M A (if(["enumerate","zip","dict_itemiterator","dict_reverseitemiterator","odict_iterator","itertools.zip_longest","itertools.pairwise"].contains n&&vs[0]?==Φ (rawInt _))=Γ then _ else _) Q E s;rw[if_neg (by intro h;rw[d,Bool.false_and]at h;exact nB h)];exact Ν a))
abbrev Itl(K:Frag)(a:Addr):It:=⟨λi H=>∃xs x,SqL K H a xs/\xs[i]?=Φ x,λi H x H'=>H'=H/\∀xs,SqL K H a xs->xs[i]?=Φ x,λi H=>∃xs,SqL K H a xs/\xs.length<=i⟩
abbrev Itt(K:Frag)(a:Addr):It:=⟨λi H=>∃xs x,SqT K H a xs/\xs[i]?=Φ x,λi H x H'=>H'=H/\∀xs,SqT K H a xs->xs[i]?=Φ x,λi H=>∃xs,SqT K H a xs/\xs.length<=i⟩
abbrev Itr(lo:Int)(n:Nat):It:=⟨λi _=>i<n,λi H x H'=>H'=H/\x=.int (lo+i),λi _=>n<=i⟩
def zfp{P:ϊ}{w:ύ}{K:Frag}{tg:Expr}(a it:Addr):Turn P w K tg (Itl K a) [it] it (λi h=>h.IsListIter it a i) where
 mem:=by simp
 obj:=λi h st b hb=>by
  have e:b=it:=by simpa using hb
  subst e;obtain⟨o,e,c,d⟩:=st;exact⟨o,e,λv z=>by rw[d]at z;cases z⟩
 keep:=λi h h' st k=>st.at λo e=>k it (by simp) o e
 item:=by intro X hP hw hK hc i pins s σ H E I hf st hg;subst hP hw hK;obtain⟨xs,x,hq,hx⟩:=hg;obtain⟨its,rv,p,hz⟩:=I.list hq;obtain⟨u,hu,ru⟩:=rv.get hx;obtain⟨f0,f1,f2,f3,f4,f5⟩:=hf it (by simp);refine wpAny_pyNext_list_item st p.isList (x:=u) (by simpa using hu) λh' st' sb=>?_;have I1:Inv X pins σ H {s with heap:=h'}:=I.turned (t':=s.toks) (λb o hb e=>(sb.2 b hb).trans e) f0 f1 f3 f4 f5;obtain⟨o,e,c,d⟩:=id st';exact⟨u,rfl,zo1 (s:={s with heap:=h'}) e c d (by decide) ⟨x,H,I1,ru,⟨rfl,λys hy=>by rw[I.list_inj hy hq];exact hx⟩,st',λb hb=>(hf b hb).1⟩⟩
 done:=by intro X hP hw hK hc i pins s σ H E I hf st hg;subst hP hw hK;obtain⟨xs,hq,hx⟩:=hg;obtain⟨its,rv,p,hz⟩:=I.list hq;obtain⟨f0,f1,f2,f3,f4,f5⟩:=hf it (by simp);have hl:=rv.length;exact wpAny_pyNext_list_end (I.ok.hd hc) st p.isList (by simp;lia) λh' eb=>⟨rfl,I.turned (t':=s.toks) (λb o hb e=>eb b o hb e) f0 f1 f3 f4 f5⟩
 self:=λ_ _ _ _ _ st h=>wpAny_pyIter_listiter st h
def zh3{P:ϊ}{w:ύ}{K:Frag}{tg:Expr}(a it:Addr):Turn P w K tg (Itt K a) [it] it (λi h=>h.IsTupleIter it a i) where
 mem:=by simp
 obj:=λi h st b hb=>by
  have e:b=it:=by simpa using hb
  subst e;obtain⟨o,e,c,d⟩:=st;exact⟨o,e,λv z=>by rw[d]at z;cases z⟩
 keep:=λi h h' st k=>st.at λo e=>k it (by simp) o e
 item:=by intro X hP hw hK hc i pins s σ H E I hf st hg;subst hP hw hK;obtain⟨xs,x,hq,hx⟩:=hg;obtain⟨its,rv,p,hz⟩:=I.tuple hq;obtain⟨u,hu,ru⟩:=rv.get hx;obtain⟨f0,f1,f2,f3,f4,f5⟩:=hf it (by simp);refine wpAny_pyNext_tuple_item st (show s.heap.IsTuple a its.toArray from p) (x:=u) (by simpa using hu) λh' st' sb=>?_;have I1:Inv X pins σ H {s with heap:=h'}:=I.turned (t':=s.toks) (λb o hb e=>(sb.2 b hb).trans e) f0 f1 f3 f4 f5;obtain⟨o,e,c,d⟩:=id st';exact⟨u,rfl,zo1 (s:={s with heap:=h'}) e c d (by decide) ⟨x,H,I1,ru,⟨rfl,λys hy=>by rw[I.tuple_inj hy hq];exact hx⟩,st',λb hb=>(hf b hb).1⟩⟩
 done:=by intro X hP hw hK hc i pins s σ H E I hf st hg;subst hP hw hK;obtain⟨xs,hq,hx⟩:=hg;obtain⟨its,rv,p,hz⟩:=I.tuple hq;obtain⟨f0,f1,f2,f3,f4,f5⟩:=hf it (by simp);have hl:=rv.length;exact wpAny_pyNext_tuple_end (I.ok.hd hc) st (show s.heap.IsTuple a its.toArray from p) (by simp;lia) λh' eb=>⟨rfl,I.turned (t':=s.toks) (λb o hb e=>eb b o hb e) f0 f1 f3 f4 f5⟩
 self:=λ_ _ _ _ _ st h=>wpAny_pyIter_tupleiter st h
def zh4{P:ϊ}{w:ύ}{K:Frag}{tg:Expr}(it:Addr)(lo:Int)(n:Nat):Turn P w K tg (Itr lo n) [it] it (λi h=>IsRangeIter h it (lo+(i:Nat)*1) ((n:Int)-(i:Nat)) 1) where
 mem:=by simp
 obj:=λi h st b hb=>by
  have e:b=it:=by simpa using hb
  subst e;exact⟨_,st,λv z=>by have z':Data.fields _=Data.cell v:=z;cases z'⟩
 keep:=λi h h' st k=>k it (by simp) _ st
 item:=by intro X hP hw hK hc i pins s σ H E I hf st hg;subst hP hw hK;obtain⟨f0,f1,f2,f3,f4,f5⟩:=hf it (by simp);have W:=Walks.range (prog:=X.prog) (w:=X.w) (I.ok.hd hc) it lo 1 n;refine W.item i s _ _ hg st λv h' tk hv st' kk=>?_;obtain⟨t,rfl⟩:=hv;have I1:Inv X pins σ H {s with heap:=h',toks:=tk}:=I.turned (λb o hb e=>kk b o (by simpa using hb) e) f0 f1 f3 f4 f5;refine⟨_,rfl,zo1 (s:={s with heap:=h',toks:=tk}) (n:="range_iterator") st' rfl rfl (by decide) ⟨.int (lo+i),H,I1,⟨t,?_⟩,⟨rfl,rfl⟩,st',λb hb=>(hf b hb).1⟩⟩;rw[Int.mul_one]
 done:=by intro X hP hw hK hc i pins s σ H E I hf st hg;subst hP hw hK;obtain⟨f0,f1,f2,f3,f4,f5⟩:=hf it (by simp);exact wpAny_pyNext_range_end (I.ok.hd hc) st (by have:n<=i:=hg;lia) λh' eb=>⟨rfl,I.turned (t':=s.toks) (λb o hb e=>eb b o hb e) f0 f1 f3 f4 f5⟩
 self:=λ_ _ _ _ _ st h=>wpAny_pyIter_rangeiter st h
section
variable{X:Cx}{tg:Expr}
abbrev zo0(K:Frag)(tl:TE):TI:=λσ H R=>tl σ H λx H1=>∃a,x=.ref a/\(∃xs,SqL K H1 a xs)/\R (Itl K a) H1
def zos(hl:PE X l tl):PI X tg l (zo0 X.K tl):=by
 intro pins s σ H R I h;refine thn (hl pins s σ H _ I h) λv s1 z=>?_;obtain⟨x,H1,I1,r1,q1⟩:=z;obtain⟨a,e,⟨xs,hq⟩,q⟩:=q1;subst e;cases r1;obtain⟨its,rv,p,hz⟩:=I1.list hq;refine wpAny_pyIter_list p.isList ?_;refine⟨s1.heap.objs.size,[s1.heap.objs.size],_,_,H1,rfl,I1.kept (t':=s1.toks) λb o e=>Λ _ e,zfp a _,⟨_,Κ _ rfl,rfl,rfl⟩,λb hb=>?_,q⟩;have e:b=s1.heap.objs.size:=by simpa using hb
 subst e;exact I1.fpOk (le_refl _) (I1.hok.fresh (le_refl _))
def zhq{lo hi}(I:Inv X pins σ H s)(h1:-(2^62)<=lo)(h2:lo<2^62)(h3:-(2^62)<=hi)(h4:hi<2^62)(q:R (Itr lo (hi-lo).toNat) H):wpAny (model X.prog X.w) X.A (pyIter (.ref s.heap.objs.size)) (PIE X pins σ tg R) E {s with heap:=s.heap.push {cls:=.type "range",data:=.fields #[.int lo t,.int hi u,.int 1 v]},toks:=tk}:=by
 refine wpAny_pyIter_range (IsRange.new ..) (small_one h1 h2 h3 h4) ?_;have I1:Inv X pins σ H {s with heap:=s.heap.push {cls:=.type "range",data:=.fields #[.int lo t,.int hi u,.int 1 v]},toks:=tk}:=I.kept λb o e=>Λ _ e;refine⟨(s.heap.push {cls:=.type "range",data:=.fields #[.int lo t,.int hi u,.int 1 v]}).objs.size,[(s.heap.push {cls:=.type "range",data:=.fields #[.int lo t,.int hi u,.int 1 v]}).objs.size],_,_,H,rfl,
  I1.kept (t':=tk) λb o e=>Λ _ e,zh4 _ lo (hi-lo).toNat,?_,λb hb=>?_,q⟩
 have e1:lo+((0:Nat):Int)*1=lo:=by simp
 have e2:(((hi-lo).toNat:Nat):Int)-((0:Nat):Int)=Builtin.Range.rangeSize lo hi 1:=by rw[rangeSize_one];split<;>lia
 show IsRangeIter _ _ (lo+((0:Nat):Int)*1) ((((hi-lo).toNat:Nat):Int)-((0:Nat):Int)) 1;rw[e1,e2];exact Κ _ rfl;have e:b=(s.heap.push {cls:=.type "range",data:=.fields #[.int lo t,.int hi u,.int 1 v]}).objs.size:=by simpa using hb
 subst e;exact I1.fpOk (le_refl _) (I1.hok.fresh (le_refl _))
abbrev zsO(ta:TA):TI:=λσ H R=>ta σ H λvs H1=>∃j:Int,vs=[.int j]/\-(2^62)<=j/\j<2^62/\R (Itr 0 j.toNat) H1
abbrev zsN(ta:TA):TI:=λσ H R=>ta σ H λvs H1=>∃i j:Int,vs=[.int i,.int j]/\(-(2^62)<=i/\i<2^62/\-(2^62)<=j/\j<2^62)/\R (Itr i (j-i).toNat) H1
def zjL(hg:Gl X "range")(hm:X.mg "range"=Ψ)(ha:PA X [a] ta)(hs:starEach [a] X.env=[(Δ,eval a X.env)]:=by rfl):PI X tg (.Call (.Name "range" p) [a] [] pos) (zsO ta):=by intro pins s σ H R I h;refine Call_ (zcL I hg hm boot_range (PyProof.Rows.callWith_type1 (thn (ha pos pins s σ H _ I h) λus s1 z=>?_) hs rfl));obtain⟨vs,H1,I1,r1,q1⟩:=z;obtain⟨j,e,q1,q2,q⟩:=q1;subst e;cases r1 with| cons r rr=>cases rr;obtain⟨t,rfl⟩:=r;exact call_range_1 (zhq I1 (by lia) (by lia) q1 q2 (by simpa using q))
def zjK(hg:Gl X "range")(hm:X.mg "range"=Ψ)(ha:PA X [a,b] ta)(hs:starEach [a,b] X.env=[(Δ,eval a X.env),(Δ,eval b X.env)]:=by rfl)(hs2:starEach [b] X.env=[(Δ,eval b X.env)]:=by rfl):
  PI X tg (.Call (.Name "range" p) [a,b] [] pos) (zsN ta):=by
 intro pins s σ H R I h;refine Call_ (zcL I hg hm boot_range (PyProof.Rows.callWith_type1 (thn (ha pos pins s σ H _ I h) λus s1 z=>eY z λvs H1 I1 r1 q1=>?_) (by rw[hs,hs2]) (by rw[hs2];rfl)));obtain⟨i,j,e,⟨q1,q2,q3,q4⟩,q⟩:=q1;subst e;cases r1 with| cons r rr=>cases rr with| cons r' rr=>cases rr;obtain⟨t,rfl⟩:=r;obtain⟨t',rfl⟩:=r';exact call_range_2 (zhq I1 q1 q2 q3 q4 q)
abbrev tFor(wi:TI)(g:TG)(tb:TS):TS:=λD σ H=>wi σ H λJ H1=>∃W:Nat->Nat->St->Hp->Prop,(∃m,W 0 m σ H1)/\∀i m σ H,W i m σ H->
 (J.stop i H/\D.nx σ H)\/(J.go i H/\∃N:St->Hp->Prop,(∀σ' H',N σ' H'->∃m',m'<m/\W (i+1) m' σ' H')/\∀x H',J.yld i H x H'->g x σ H' λσ2 H2=>tb {D with nx:=N,ct:=N,bk:=D.nx} σ2 H2)
abbrev zfE(fp:List Addr)(h:Heap):List (Addr×Obj):=fp.filterMap λb=>(h.get? b).map λo=>(b,o)
def zcb(hb:b∈fp)(e:h.get? b=Φ o):(b,o)∈zfE fp h:=List.mem_filterMap.mpr ⟨b,hb,by rw[e];rfl⟩
def zjQ(hp:p∈zfE fp h):p.1∈fp/\h.get? p.1=Φ p.2:=by
 obtain⟨b,hb,e⟩:=List.mem_filterMap.mp hp;cases q:h.get? b with
 |none=>rw[q]at e;exact nS e
 |some o=>rw[q]at e;have e':(b,o)=p:=Option.some.inj e;subst e';exact⟨hb,q⟩
def Inv.pinned(I:Inv X pins σ H s)(hf:∀b∈fp,FpOk X pins H b)(ho:∀b∈fp,∃o,s.heap.get? b=Φ o/\∀v,o.data≠.cell v):Inv X (pins++zfE fp s.heap) σ H s:=I.pins_of λp hp=>(mem_append.mp hp).elim (λz=>I.pin p (mem_append_right _ z)) λz=>by obtain⟨hb,e⟩:=zjQ z;obtain⟨f0,f1,f2,_⟩:=hf p.1 hb;obtain⟨o,e',d⟩:=ho p.1 hb;rw[e]at e';cases e';exact⟨e,f0,f1,f2,d⟩
def Inv.unpinned(I:Inv X (a++d) b H s):Inv X a b H s:=I.pins_of λp c=>I.pin p (mem_append_right _ (mem_append_left _ c))
def zmV(hp:PassesOwn (model X.prog X.w) X.A X.env X.xe)(hc:X.calm=Γ)(hi:PI X tg iter wi)(hg:PG X tg g)(hb:PSs X body tb)(hs:∀x,foldedSetIterable iter X.env x=pure x:=by intro _;rfl):PS X (.For tg iter body [] pos) (tFor wi g tb):=by
 intro pins s σ H D I h;refine wpAny_For (thn (hi pins s σ H _ I h) λv s1 h1=>thn h1 λitv s2 h2=>?_) hs;obtain⟨it,fp,tn,J,H2,e,I2,T,st2,f2,W,⟨m0,w0⟩,turn⟩:=h2;subst e
 -- what stays Γ of the iterator's objects through the loop
 have stat:∀{H':Hp},(∀b∈fp,H' b=Ψ)->∀b∈fp,FpOk X pins H' b:=λhn b hb=>⟨hn b hb,(f2 b hb).2⟩;refine codeAny_forLoop_any (λn s'=>∃i σ' H',Inv X pins σ' H' s'/\tn i s'.heap/\(∀b∈fp,H' b=Ψ)/\W i n σ' H') ?_ m0 ⟨0,σ,H2,I2,st2,λb hb=>(f2 b hb).1,w0⟩;rintro n s3 ⟨i,σ3,H3,I3,st3,fr3,w3⟩;rcases turn i n σ3 H3 w3 with⟨stop,qn⟩|⟨go,N,hN,step⟩;refine wpAny_passesOwn hp (thn (T.done X rfl rfl rfl hc i pins s3 σ3 H3 X.xe I3 (stat fr3) st3 stop) λr s4 k=>?_);obtain⟨hr,I4⟩:=k;subst hr;exact wpAny_execs_nil ⟨σ3,H3,I4,qn⟩;refine wpAny_passesOwn hp (thn (T.item X rfl rfl rfl hc i pins s3 σ3 H3 X.xe I3 (stat fr3) st3 go) λr s4 z=>?_);obtain⟨u,hr,h4⟩:=z;subst hr;refine wpAny_passesOwn hp (thn h4 λ_ s5 z=>?_);obtain⟨x,H5,I5,r5,y5,st5,fr5⟩:=z;have I5':=I5.pinned (stat fr5) (T.obj _ _ st5);refine wpAny_passesOwn hp (thn (hg _ s5 σ3 H5 x u _ I5' r5 (step x H5 y5)) λ_ s6 z=>?_);obtain⟨σ6,H6,I6,q6⟩:=z;refine wpAny_passesOwn hp (thn (hb _ s6 σ6 H6 _ I6 q6) λf s7 q7=>?_);have again:∀{σ7:St}{H7:Hp},Inv X (pins++zfE fp s5.heap) σ7 H7 s7->N σ7 H7->∃m,m<n/\∃i σ' H',Inv X pins σ' H' s7/\tn i s7.heap/\(∀b∈fp,H' b=Ψ)/\W i m σ' H':=λ{σ7 H7} I7 n7=>by obtain⟨m',hm,w7⟩:=hN σ7 H7 n7;refine⟨m',hm,i+1,σ7,H7,I7.unpinned,T.keep _ _ _ st5 λb hb o e=>(I7.pin (b,o) (mem_append_right _ (mem_append_right _ (zcb hb e)))).1,λb hb=>?_,w7⟩;obtain⟨o,e,d⟩:=T.obj _ _ st5 b hb;exact(I7.pin (b,o) (mem_append_right _ (mem_append_right _ (zcb hb e)))).2.1
 cases f with|next=>obtain⟨σ7,H7,I7,n7⟩:=q7;exact again I7 n7|cont=>obtain⟨σ7,H7,I7,n7⟩:=q7;exact again I7 n7|brk=>obtain⟨σ7,H7,I7,q7⟩:=q7;exact⟨σ7,H7,I7.unpinned,q7⟩|ret v=>obtain⟨x7,σ7,H7,I7,r7,q7⟩:=q7;exact⟨x7,σ7,H7,I7.unpinned,r7,q7⟩
end
def zmi{K}{g:TG}{tb:TS}{D:Ends}(Pv:Nat->St->Hp->Prop)(h0:Pv 0 σ H)(hl:∀i σ H,i<=xs.length->Pv i σ H->SqL K H a xs)(hs:∀i x σ H,xs[i]?=Φ x->Pv i σ H->g x σ H λσ2 H2=>tb {D with nx:=Pv (i+1),ct:=Pv (i+1),bk:=D.nx} σ2 H2)(hd:∀σ H,Pv xs.length σ H->D.nx σ H):
  ∃W:Nat->Nat->St->Hp->Prop,(∃m,W 0 m σ H)/\∀i m σ H,W i m σ H->
   ((Itl K a).stop i H/\D.nx σ H)\/((Itl K a).go i H/\∃N:St->Hp->Prop,(∀σ' H',N σ' H'->∃m',m'<m/\W (i+1) m' σ' H')/\∀x H',(Itl K a).yld i H x H'->g x σ H' λσ2 H2=>tb {D with nx:=N,ct:=N,bk:=D.nx} σ2 H2):=by
 refine⟨λi m σ H=>m=xs.length-i/\i<=xs.length/\Pv i σ H,⟨xs.length,by simp,zero_le _,h0⟩,?_⟩;rintro i m σ H ⟨rfl,hi,p⟩;have q:=hl i σ H hi p;by_cases hlt:i<xs.length;refine .inr ⟨⟨xs,xs[i],q,by simp[hlt]⟩,Pv (i+1),λσ' H' p'=>⟨xs.length-(i+1),by lia,rfl,hlt,p'⟩,λx H' y=>?_⟩;obtain⟨e,y⟩:=y;subst e;exact hs i x σ _ (y xs q) p;have e:i=xs.length:=by lia
 subst e;exact .inl ⟨⟨xs,q,le_refl _⟩,hd σ H p⟩
@[reducible]def R2:=V->V->Hp->VK->Prop
abbrev OpR(X:Cx)(f:Θ->Θ->Sem Θ)(r:R2):Prop:=
 ∀(pins:List (Addr×Obj))(s:Β)(σ:St)(H:Hp)(x y:V)(v u:Θ)(Q:VK),Inv X pins σ H s->RelV x v->RelV y u->r x y H Q->
  wpAny (model X.prog X.w) X.A (f v u) (EP X pins σ Q) X.xe s
abbrev UnR(X:Cx)(f:Θ->Sem Θ)(r:V->Hp->VK->Prop):Prop:=
 ∀(pins:List (Addr×Obj))(s:Β)(σ:St)(H:Hp)(x:V)(v:Θ)(Q:VK),Inv X pins σ H s->RelV x v->r x H Q->
  wpAny (model X.prog X.w) X.A (f v) (EP X pins σ Q) X.xe s
abbrev zbC(X:Cx)(f:Θ)(r:List V->Hp->VK->Prop):Prop:=
 ∀(pins:List (Addr×Obj))(s:Β)(σ:St)(H:Hp)(xs:List V)(us:List Θ)(Q:VK),Inv X pins σ H s->Vals xs us->r xs H Q->
  wpAny (model X.prog X.w) X.A (call f us) (EP X pins σ Q) X.xe s
abbrev TruR(X:Cx)(r:V->Hp->(Bool->Hp->Prop)->Prop):Prop:=
 ∀(pins:List (Addr×Obj))(s:Β)(σ:St)(H:Hp)(x:V)(v:Θ)(Q:Bool->Hp->Prop),Inv X pins σ H s->RelV x v->r x H Q->
  wpAny (model X.prog X.w) X.A (truthy v) (TP X pins σ Q) X.xe s
abbrev tOp(r:R2)(ta tb:TE):TE:=λσ H Q=>ta σ H λx H1=>tb σ H1 λy H2=>r x y H2 Q
abbrev tUn(r:V->Hp->VK->Prop)(ta:TE):TE:=λσ H Q=>ta σ H λx H1=>r x H1 Q
abbrev rI(C:Int->Int->Prop)(g:Int->Int->V):R2:=λx y H Q=>∃i j,x=.int i/\y=.int j/\C i j/\Q (g i j) H
abbrev rI0(g:Int->Int->V):R2:=λx y H Q=>∃i j,x=.int i/\y=.int j/\Q (g i j) H
abbrev rU(g:Int->V):V->Hp->VK->Prop:=λx H Q=>∃i,x=.int i/\Q (g i) H
section
variable{X:Cx}{a b c:Expr}{ta tb tc:TE}{pos:Pos}
def binT(m:PE X a ta)(n:PE X b tb){R:V->V->Hp->Prop}(I:Inv X d g H s)(h:ta g H λx l=>tb g l λy e=>R x y e){f:Θ->Θ->Sem Θ}(o:∀v u k x y e,Inv X d g e k->RelV x v->RelV y u->R x y e->wpAny (model X.prog X.w) X.A (f v u) Q X.xe k):
  wpAny (model X.prog X.w) X.A (eval a X.env) (λv i=>wpAny (model X.prog X.w) X.A (eval b X.env) (λu j=>wpAny (model X.prog X.w) X.A (f v u) Q X.xe j) X.xe i) X.xe s:=by
 refine thn (m d s g H _ I h) λv p z=>?_;obtain⟨x,l,q,r,t⟩:=z;refine thn (n d p g l _ q t) λu k z=>?_;obtain⟨y,e,w,A,B⟩:=z;exact o v u k x y e w r A B
def zqO(ho:OpR X (binaryOp op) r)(ha:PE X a ta)(hb:PE X b tb):PE X (.BinOp a op b pos) (tOp r ta tb):=by intro pins s σ H Q I h;exact wpAny_BinOp (binT ha hb I h λv u s2 x y H2 I2 rx ry q=>ho pins s2 σ H2 x y v u Q I2 rx ry q)
def zsv(ho:UnR X (unaryOp op) r)(ha:PE X a ta):PE X (.UnaryOp op a pos) (tUn r ta):=by intro pins s σ H Q I h;exact UnaryOp_ (thn (ha pins s σ H _ I h) λv s1 z=>(by obtain⟨x,H1,I1,r1,q1⟩:=z;exact ho pins s1 σ H1 x v Q I1 r1 q1))
def opI{g:Int->Int->Int}(rule:∀(i j:Int)(t u:Tok)(s:Β)(Q:Θ->Β->Prop)(E:Θ->Β->Prop),C i j->Q (.int (g i j) s.toks) {s with toks:=s.toks+1}->wpAny (model X.prog X.w) X.A (f (.int i t) (.int j u)) Q E s):
  OpR X f (rI C λi j=>.int (g i j)):=by
 intro d s n H x y v u Q I e k h;obtain⟨i,j,rfl,rfl,l,q⟩:=h;obtain⟨t,rfl⟩:=e;obtain⟨m,rfl⟩:=k;exact rule i j t m s _ _ l ⟨.int (g i j),H,I.tok _,⟨_,rfl⟩,q⟩
def opI0{g:Int->Int->Int}(rule:∀(i j:Int)(t u:Tok)(s:Β)(Q:Θ->Β->Prop)(E:Θ->Β->Prop),Q (.int (g i j) s.toks) {s with toks:=s.toks+1}->wpAny (model X.prog X.w) X.A (f (.int i t) (.int j u)) Q E s):
  OpR X f (rI0 λi j=>.int (g i j)):=by
 intro d s m H x y v u Q I e k h;obtain⟨i,j,rfl,rfl,q⟩:=h;obtain⟨t,rfl⟩:=e;obtain⟨l,rfl⟩:=k;exact rule i j t l s _ _ ⟨.int (g i j),H,I.tok _,⟨_,rfl⟩,q⟩
def opB0{g:Int->Int->Bool}(rule:∀(i j:Int)(t u:Tok)(s:Β)(Q:Θ->Β->Prop)(E:Θ->Β->Prop),Q (.bool (g i j)) s->wpAny (model X.prog X.w) X.A (f (.int i t) (.int j u)) Q E s):
  OpR X f (rI0 λi j=>.bl (g i j)):=by
 intro d s m H x y v u Q I e k h;obtain⟨i,j,rfl,rfl,q⟩:=h;obtain⟨t,rfl⟩:=e;obtain⟨l,rfl⟩:=k;exact rule i j t l s _ _ ⟨.bl (g i j),H,I,rfl,q⟩
abbrev CDiv(i j:Int):Prop:=0<j/\j<1073741824
abbrev CPow(i j:Int):Prop:=0<=j/\j<=1000000/\i.natAbs<2^64
abbrev CMul(i j:Int):Prop:=(-(2^64)<i/\i<2^64)\/(-(2^64)<j/\j<2^64)
def CMul.ok(h:CMul i j):IntMulOk i j:=by rcases h with⟨d,e⟩|⟨d,e⟩;exact .of_left (intBits_le_64 d e);exact .of_right (intBits_le_64 d e)
def zm0:OpR X (binaryOp .Add) (rI0 λi j=>.int (i+j)):=opI0 λ_ _ _ _ _ _ _ q=>add_int q
def zqX:OpR X (binaryOp .Sub) (rI0 λi j=>.int (i-j)):=opI0 λ_ _ _ _ _ _ _ q=>sub_int q
def zq0:OpR X (binaryOp .Mult) (rI CMul λi j=>.int (i*j)):=opI λ_ _ _ _ _ _ _ hc q=>mul_int q hc.ok
def zoC:OpR X (binaryOp .FloorDiv) (rI CDiv λi j=>.int (i/j)):=opI λi j _ _ _ _ _ hc q=>by have h1:(0:Int)<j:=hc.1;have h2:j<1073741824:=hc.2;exact floordiv_int (by lia) (by rw[Int.fdiv_eq_ediv_of_nonneg i (by lia)];exact q) (.inl (PyProof.noPylong_small (by lia)))
def zq1:OpR X (binaryOp .Mod) (rI (λ_ j=>0<j) λi j=>.int (i%j)):=opI λi j _ _ _ _ _ hc q=>by have h1:(0:Int)<j:=hc;exact mod_int' (by lia) (by rw[Int.fmod_eq_emod_of_nonneg i (by lia)];exact q)
def zqY:OpR X (binaryOp .Pow) (rI CPow λi j=>.int (i^j.toNat)):=opI λ_ _ _ _ _ _ _ hc q=>pow_int_small hc.1 hc.2.1 hc.2.2 q
def unI{g:Int->Int}(rule:∀(i:Int)(t:Tok)(s:Β)(Q:Θ->Β->Prop)(E:Θ->Β->Prop),Q (.int (g i) s.toks) {s with toks:=s.toks+1}->wpAny (model X.prog X.w) X.A (f (.int i t)) Q E s):
  UnR X f (rU λi=>.int (g i)):=by
 intro d s j H x v Q I e h;obtain⟨i,rfl,q⟩:=h;obtain⟨t,rfl⟩:=e;exact rule i t s _ _ ⟨.int (g i),H,I.tok _,⟨_,rfl⟩,q⟩
def zpG:UnR X (unaryOp .USub) (rU λi=>.int (-i)):=unI λ_ _ _ _ _ q=>neg_int q
end
abbrev scal:V->V->Bool
 |.non,.non=>Γ|.non,.int _=>Γ|.int _,.non=>Γ|.non,.bl _=>Γ|.bl _,.non=>Γ|.non,.str _=>Γ|.str _,.non=>Γ
 |.int _,.int _=>Γ|.bl _,.bl _=>Γ|.str _,.str _=>Γ|.byt _,.byt _=>Γ
 |.int _,.str _=>Γ|.str _,.int _=>Γ|.bl _,.str _=>Γ|.str _,.bl _=>Γ
 |_,_=>Δ
abbrev rEq:R2:=λx y H Q=>scal x y=Γ/\Q (.bl (decide (x=y))) H
abbrev rNe:R2:=λx y H Q=>scal x y=Γ/\Q (.bl (!decide (x=y))) H
def zkM:decide (V.int i=V.int j)=(i==j):=by rw[ϙ];simp
def znc:decide (V.bl i=V.bl j)=(i==j):=by rw[ϙ];simp
def zkL:decide (V.str i=V.str j)=(i==j):=by rw[ϙ];simp
def zkN:decide (V.byt i=V.byt j)=(i.toList==j.toList):=by rw[ϙ];cases i;cases j;simp
section
variable{X:Cx}{a b c:Expr}{ta tb tc:TE}{pos:Pos}
def zap(I:Inv X pins σ H s)(q:Q (.bl k) H)(e:k=k'):EP X pins σ Q (.bool k') s:=by subst e;exact⟨.bl k,H,I,rfl,q⟩
def zsE:OpR X (compareOp .Eq) rEq:=by
 intro pins s σ H x y v u Q I rx ry h;obtain⟨hs,q⟩:=h;cases x with
 |non=>cases rx;cases y with|non=>cases ry;exact PySem.EqNone.eq_none_none (zap I q (by simp))|bl j=>cases ry;exact PySem.EqNone.eq_none_bool (zap I q (by simp))|int j=>obtain⟨t',rfl⟩:=ry;exact PySem.EqNone.eq_none_int (zap I q (by simp))|str j=>obtain⟨t',rfl⟩:=ry;exact PySem.EqNone.eq_none_str (zap I q (by simp))|_=>exact absurd (show Δ=Γ from hs) Ζ
 |bl i=>cases rx;cases y with|non=>cases ry;exact PySem.EqNone.eq_bool_none (zap I q (by simp))|bl j=>cases ry;exact eq_bool (zap I q znc)|str j=>obtain⟨t',rfl⟩:=ry;exact PySem.EqMixed.eq_bool_str (zap I q (by simp))|_=>exact absurd (show Δ=Γ from hs) Ζ
 |int i=>obtain⟨t,rfl⟩:=rx;cases y with|non=>cases ry;exact PySem.EqNone.eq_int_none (zap I q (by simp))|int j=>obtain⟨t',rfl⟩:=ry;exact eq_int (zap I q zkM)|str j=>obtain⟨t',rfl⟩:=ry;exact PySem.EqMixed.eq_int_str (zap I q (by simp))|_=>exact absurd (show Δ=Γ from hs) Ζ
 |str i=>obtain⟨t,rfl⟩:=rx;cases y with|non=>cases ry;exact PySem.EqNone.eq_str_none (zap I q (by simp))|bl j=>cases ry;exact PySem.EqMixed.eq_str_bool (zap I q (by simp))|int j=>obtain⟨t',rfl⟩:=ry;exact PySem.EqMixed.eq_str_int (zap I q (by simp))|str j=>obtain⟨t',rfl⟩:=ry;exact eq_str (zap I q zkL)|_=>exact absurd (show Δ=Γ from hs) Ζ
 |byt i=>obtain⟨t,rfl⟩:=rx;cases y with|byt j=>obtain⟨t',rfl⟩:=ry;exact PySem.W.eq_bytes (zap I q zkN)|_=>exact absurd (show Δ=Γ from hs) Ζ
 |_=>cases y<;>exact absurd (show Δ=Γ from hs) Ζ
def zsz:OpR X (compareOp .NotEq) rNe:=by
 intro pins s σ H x y v u Q I rx ry h;obtain⟨hs,q⟩:=h;cases x with
 |non=>cases rx;cases y with|non=>cases ry;exact PySem.EqNone.ne_none_none (zap I q (by simp))|bl j=>cases ry;exact PySem.EqNone.ne_none_bool (zap I q (by simp))|int j=>obtain⟨t',rfl⟩:=ry;exact PySem.EqNone.ne_none_int (zap I q (by simp))|str j=>obtain⟨t',rfl⟩:=ry;exact PySem.EqNone.ne_none_str (zap I q (by simp))|_=>exact absurd (show Δ=Γ from hs) Ζ
 |bl i=>cases rx;cases y with|non=>cases ry;exact PySem.EqNone.ne_bool_none (zap I q (by simp))|bl j=>cases ry;exact ne_bool (zap I q (congrArg not znc))|str j=>obtain⟨t',rfl⟩:=ry;exact PySem.EqMixed.ne_bool_str (zap I q (by simp))|_=>exact absurd (show Δ=Γ from hs) Ζ
 |int i=>obtain⟨t,rfl⟩:=rx;cases y with|non=>cases ry;exact PySem.EqNone.ne_int_none (zap I q (by simp))|int j=>obtain⟨t',rfl⟩:=ry;exact ne_int (zap I q (congrArg not zkM))|str j=>obtain⟨t',rfl⟩:=ry;exact PySem.EqMixed.ne_int_str (zap I q (by simp))|_=>exact absurd (show Δ=Γ from hs) Ζ
 |str i=>obtain⟨t,rfl⟩:=rx;cases y with|non=>cases ry;exact PySem.EqNone.ne_str_none (zap I q (by simp))|bl j=>cases ry;exact PySem.EqMixed.ne_str_bool (zap I q (by simp))|int j=>obtain⟨t',rfl⟩:=ry;exact PySem.EqMixed.ne_str_int (zap I q (by simp))|str j=>obtain⟨t',rfl⟩:=ry;exact ne_str (zap I q (congrArg not zkL))|_=>exact absurd (show Δ=Γ from hs) Ζ
 |byt i=>obtain⟨t,rfl⟩:=rx;cases y with|byt j=>obtain⟨t',rfl⟩:=ry;exact PySem.W.ne_bytes (zap I q (congrArg not zkN))|_=>exact absurd (show Δ=Γ from hs) Ζ
 |_=>cases y<;>exact absurd (show Δ=Γ from hs) Ζ
def zsA:OpR X (compareOp .Lt) (rI0 λi j=>.bl (decide (i<j))):=opB0 λ_ _ _ _ _ _ _ q=>lt_int q
def zsB:OpR X (compareOp .LtE) (rI0 λi j=>.bl (decide (i<=j))):=opB0 λ_ _ _ _ _ _ _ q=>le_int q
def zsC:OpR X (compareOp .Gt) (rI0 λi j=>.bl (decide (j<i))):=opB0 λ_ _ _ _ _ _ _ q=>gt_int q
def zsD:OpR X (compareOp .GtE) (rI0 λi j=>.bl (decide (j<=i))):=opB0 λ_ _ _ _ _ _ _ q=>ge_int q
def zoB:OpR X (compareOp .IsNot) (λx y H Q=>y=.non/\Q (.bl (!decide (x=.non))) H):=by
 intro pins s σ H x y v u Q I rx ry h;obtain⟨rfl,q⟩:=h;cases ry;refine isnot_none_gen (zap I q ?_);cases x<;>first
  |(cases rx;rfl)
  |(obtain⟨t,rfl⟩:=rx;rfl)
def zm1(b)(h:op≠.In:=by decide)(h2:op≠.NotIn:=by decide):behindInMarks op b=Δ:=by
 have e1:(op==CmpOp.In)=Δ:=by cases op<;>first|rfl|exact absurd rfl h
 have e2:(op==CmpOp.NotIn)=Δ:=by cases op<;>first|rfl|exact absurd rfl h2
 cases b<;>simp[behindInMarks,e1,e2]
def zoy(ho:OpR X (compareOp op) r)(ha:PE X a ta)(hb:PE X b tb)(hm:behindInMarks op b=Δ):PE X (.Compare a [op] [b] pos) (tOp r ta tb):=by intro pins s σ H Q I h;exact wpAny_Compare1 (binT ha hb I h λv u s2 x y H2 I2 rx ry q=>ho pins s2 σ H2 x y v u Q I2 rx ry q) hm
abbrev znt(t:TE):TT:=λσ H Q=>t σ H λx H'=>∃k,x=.bl k/\Q k H'
def zgx(ho:OpR X (compareOp op) r)(ha:PE X a ta)(hb:PE X b tb)(hm:behindInMarks op b=Δ):PT X (.Compare a [op] [b] pos) (znt (tOp r ta tb)):=by intro pins s σ H Q I h;refine wpAny_isTrue_Compare1 (thn (ha pins s σ H _ I h) λv s1 z=>eY z λx H1 I1 r1 q1=>thn (hb pins s1 σ H1 _ I1 q1) λu s2 z=>eY z λy H2 I2 r2 q2=>thn (ho pins s2 σ H2 x y v u _ I2 r1 r2 q2) λc s3 j=>?_) hm;obtain⟨z,H3,I3,r3,k,e,q3⟩:=j;subst e;cases r3;exact ϒ ⟨H3,I3,q3⟩
abbrev zmG(r r':R2)(ta tb tc:TE):TE:=λσ H Q=>ta σ H λx H1=>tb σ H1 λy H2=>r x y H2 λz H3=>∃k,z=.bl k/\
 (if k=Γ then tc σ H3 λw' H4=>r' y w' H4 Q else Q (.bl Δ) H3)
def zlO(ho:OpR X (compareOp op) r)(ho':OpR X (compareOp op') r')(ha:PE X a ta)(hb:PE X b tb)(hc:PE X c tc)(hm:lastMarks [op,op'] [b,c]=Δ:=by with_unfolding_all rfl):PE X (.Compare a [op,op'] [b,c] pos) (zmG r r' ta tb tc):=by
 intro pins s σ H Q I h;refine Compare_chain (thn (ha pins s σ H _ I h) λv s1 z=>eY z λx H1 I1 r1 q1=>chain_link (thn (hb pins s1 σ H1 _ I1 q1) λu s2 z=>eY z λy H2 I2 r2 q2=>thn (ho pins s2 σ H2 x y v u _ I2 r1 r2 q2) λd s3 j=>?_)) hm;obtain⟨z,H3,I3,r3,k,e,q3⟩:=j;subst e;cases r3;refine ϒ ?_;cases k with|false=>exact ite_ff ⟨.bl Δ,H3,I3,rfl,q3⟩|true=>exact ite_tt (chain_last (thn (hc pins s3 σ H3 _ I3 q3) λw' s4 p=>(by obtain⟨z',H4,I4,r4,q4⟩:=p;exact ho' pins s4 σ H4 y z' u w' Q I4 r2 r4 q4)))
def zlB(ho:OpR X (compareOp op) r)(ho':OpR X (compareOp op') r')(ha:PE X a ta)(hb:PE X b tb)(hc:PE X c tc)(hm:lastMarks [op,op'] [b,c]=Δ:=by with_unfolding_all rfl):PT X (.Compare a [op,op'] [b,c] pos) (znt (zmG r r' ta tb tc)):=by
 intro pins s σ H Q I h;refine isTrue_chain (thn (ha pins s σ H _ I h) λv s1 z=>eY z λx H1 I1 r1 q1=>test_link (thn (hb pins s1 σ H1 _ I1 q1) λu s2 z=>eY z λy H2 I2 r2 q2=>thn (ho pins s2 σ H2 x y v u _ I2 r1 r2 q2) λd s3 j=>?_)) hm;obtain⟨z,H3,I3,r3,k,e,q3⟩:=j;subst e;cases r3;refine ϒ ?_;cases k with| false=>obtain⟨k',e',q'⟩:=q3;cases e';exact ite_ff ⟨H3,I3,q'⟩| true=>refine ite_tt (test_last (thn (hc pins s3 σ H3 _ I3 q3) λw' s4 z=>eY z λz' H4 I4 r4 q4=>thn (ho' pins s4 σ H4 y z' u w' _ I4 r2 r4 q4) λd' s5 j=>?_));obtain⟨z2,H5,I5,r5,k2,e2,q5⟩:=j;subst e2;cases r5;exact ϒ ⟨H5,I5,q5⟩
abbrev TruV(K:Frag)(x:V)(H:Hp)(k:Bool):Prop:=match x with|.non=>k=Δ|.bl b=>k=b|.int i=>k=(i != 0)|.str y=>y.length<=sizeLine/\k=((y.length:Int) != 0)|.byt y=>y.size<=sizeLine/\k=((y.size:Int) != 0)|.ref p=>(∃xs,SqL K H p xs/\k = !xs.isEmpty)\/(∃xs,SqT K H p xs/\k = !xs.isEmpty)\/∃kvs,H p=Φ (.dK kvs)/\k = !kvs.isEmpty|_=>False
def ziG(r:KV kvs vs):(!vs.isEmpty) = !kvs.isEmpty:=by cases r<;>rfl
def zeo(r:Vals xs its):(!its.toArray.isEmpty) = !xs.isEmpty:=by cases r<;>simp
def zel:(sizeLine:Nat)<2^63:=by rw[Τ];decide
def zpJ:TruR X (λx H Q=>∃k,TruV X.K x H k/\Q k H):=by
 intro pins s σ H x v Q I rx h;obtain⟨k,e,q⟩:=h;have hl:=zel;have hs:sizeLine=16777216:=Τ;cases x with
 |non=>cases rx;have e':k=Δ:=e;subst e';exact truthy_none ⟨H,I,q⟩| bl b=>cases rx;have e':k=b:=e;subst e';exact ϒ ⟨H,I,q⟩| int i=>obtain⟨t,rfl⟩:=rx;have e':k=(i != 0):=e;subst e';exact PySem.P.truthy_int ⟨H,I,q⟩| str y=>obtain⟨t,rfl⟩:=rx;obtain⟨hy,e'⟩:y.length<=sizeLine/\k=((y.length:Int) != 0):=e;subst e';exact PySem.P.truthy_str (by lia) ⟨H,I.tok _,q⟩| byt y=>obtain⟨t,rfl⟩:=rx;obtain⟨hy,e'⟩:y.size<=sizeLine/\k=((y.size:Int) != 0):=e;subst e';exact PySem.W.truthy_bytes (by lia) ⟨H,I.tok _,q⟩| ref p=>cases rx;have e':(∃xs,SqL X.K H p xs/\k = !xs.isEmpty)\/(∃xs,SqT X.K H p xs/\k = !xs.isEmpty)\/∃kvs,H p=Φ (.dK kvs)/\k = !kvs.isEmpty:=e;rcases e' with⟨xs,hx,e'⟩|⟨xs,hx,e'⟩|⟨kvs,hx,e'⟩;subst e';obtain⟨its,r,pl,hz⟩:=I.list hx;have hlen:=r.length;exact wpAny_truthy_list pl.isList (by simp only[size_toArray];lia) ⟨H,I.tok _,by rw[zeo r];exact q⟩;subst e';obtain⟨its,r,pl,hz⟩:=I.tuple hx;have hlen:=r.length;exact truthy_tuple pl (by simp only[size_toArray];lia) ⟨H,I.tok _,by rw[zeo r];exact q⟩;subst e';obtain⟨hz,hS,vs,r,m⟩:kvs.length<=sizeLine/\(p==sysModules)=Δ/\∃vs,KV kvs vs/\s.heap.DictOf (zar X.prog X.w) p vs:=I.hok p _ hx;have hlen:kvs.length=vs.length:=Paired.length r;exact wpAny_truthy_dict hS m (by lia) ⟨H,I.tok _,by rw[ziG r];exact q⟩
 |_=>exact(show False from e).elim
def zlA(ha:PE X a ta)(he:∀whole,isTrue a X.env whole=(do let v <-whole;standAt a.pos;holding [v] (truthy v))) :
  PT X a (λσ H Q=>ta σ H λx H'=>∃k,TruV X.K x H' k/\Q k H'):=by
 intro pins s σ H Q I h;exact isTrue_plain (thn (ha pins s σ H _ I h) λv s1 z=>(by obtain⟨x,H1,I1,r1,q1⟩:=z;exact zpJ pins s1 σ H1 x v Q I1 r1 q1)) (he _)
def znn(r:Vals [x] us):∃u,us=[u]/\RelV x u:=by cases r with|cons r1 r2=>cases r2;exact⟨_,rfl,r1⟩
def znm(r:Vals [x,y] us):∃u w',us=[u,w']/\RelV x u/\RelV y w':=by cases r with| cons r1 r2=>cases r2 with|cons r3 r4=>cases r4;exact⟨_,_,rfl,r1,r3⟩
def zmq:zbC X (.builtin "abs") (λxs H Q=>∃i,xs=[.int i]/\Q (.int (if i<0 then -i else i)) H):=by intro pins s σ H xs us Q I r h;obtain⟨i,rfl,q⟩:=h;obtain⟨u,rfl,t,rfl⟩:=znn r;exact call_abs_int λu tk=>⟨.int (if i<0 then -i else i),H,I.tok _,⟨_,rfl⟩,q⟩
def zkS(hc:X.calm=Γ):zbC X (.builtin "max") (λxs H Q=>∃i j,xs=[.int i,.int j]/\Q (.int (if j>i then j else i)) H):=by intro pins s σ H xs us Q I r h;obtain⟨i,j,rfl,q⟩:=h;obtain⟨u,w',rfl,⟨t,rfl⟩,⟨t',rfl⟩⟩:=znm r;refine max_two_ints (I.ok.hd hc) λh' tk k=>⟨_,H,I.kept k,?_,q⟩;by_cases hj:j>i;rw[if_pos hj,if_pos hj];exact⟨_,rfl⟩;rw[if_neg hj,if_neg hj];exact⟨_,rfl⟩
def zkR(hc:X.calm=Γ):zbC X (.builtin "min") (λxs H Q=>∃i j,xs=[.int i,.int j]/\Q (.int (if j<i then j else i)) H):=by intro pins s σ H xs us Q I r h;obtain⟨i,j,rfl,q⟩:=h;obtain⟨u,w',rfl,⟨t,rfl⟩,⟨t',rfl⟩⟩:=znm r;refine min_two_ints (I.ok.hd hc) λh' tk k=>⟨_,H,I.kept k,?_,q⟩;by_cases hj:j<i;rw[if_pos hj,if_pos hj];exact⟨_,rfl⟩;rw[if_neg hj,if_neg hj];exact⟨_,rfl⟩
end
structure ObjM(h:Heap)(x dx C:Addr)(mA:Str->Option Θ):Prop where
 obj:h.get? x=Φ (instObj C dx)
 ns:h.Ns1 dx mA
 ne:dx≠x
def zj1{h:Heap}(n:h.Ns1 dx mA):∃od,h.get? dx=Φ od/\∀name,lookIn name od=Φ (mA name):=by
 obtain⟨o,es,ep,ho,hd,hk,_,hm⟩:=n;refine⟨o,ho,λname=>?_⟩;have e:=hm name;unfold nsFind findBy at e;rw[<-Array.find?_toList]at e;unfold lookIn;rw[hd];dsimp only;split;rename_i y q;rw[q]at e;exact congrArg Φ e;rename_i q;rw[q]at e;have a:es.toList.any (·.refKey)=Δ:=by rw[List.any_eq_false];intro y hy;obtain⟨z,t,hkey⟩:=hk y (Array.mem_toList_iff.mp hy);simp[DictEntry.refKey,hkey]
 have a':¬es.toList.any (·.refKey)=Γ:=by rw[a];exact Ζ
 rw[if_neg a'];exact congrArg Φ e
def ObjM.look(I:ObjM h x dx C mA):∃od,PySem.W.InstAt h x (instObj C dx) C (Φ od)/\∀name,lookIn name od=Φ (mA name):=
 let ⟨od,ho,hl⟩:=zj1 I.ns
 ⟨od,⟨I.obj,rfl,rfl,ho⟩,hl⟩
section
variable{prog:ϊ}{w:ύ}{A:ϔ}{E:Θ->Β->Prop}{s:Β}{K:Frag}{x dx C f:Addr}{mA:Str->Option Θ}{name:Str}{v:Θ}
def zo2(X:K.In s.heap)(I:ObjM s.heap x dx C mA)(hg:plainGet K C name=Γ)(hh:hasDictIn K C=Γ)(ha:findIn K (.ref C) name=Φ Ψ)(hv:mA name=Φ v)(hv':handedIn v=Γ)(h:Q v {s with toks:=s.toks+1}):
  wpAny (model prog w) A (getAttr (.ref x) name expr) Q E s:=by
 obtain⟨od,J,hl⟩:=I.look;exact PySem.W.get_value X J (plainGet_of hg).1 (PySem.W.findObj_own hh ha rfl (by rw[hl,hv])) hv' h
def zmh(X:K.In s.heap)(I:ObjM s.heap x dx C mA)(hg:plainGet K C name=Γ)(hf:findIn K (.ref C) name=Φ (Φ (.ref f)))(ht:isFn K (.ref f)=Γ)(hv:mA name=Ψ)(h:Q (.ref f,[.ref x]) s):
  wpAny (model prog w) A (getMethod (.ref x) name pl) Q E s:=by
 obtain⟨od,J,hl⟩:=I.look;exact PySem.W.method_fn X J (plainGet_of hg).1 (plainGet_of hg).2 hf (beq_iff_eq.mp ht) (by show(lookIn name od).map (·.isSome)=Φ Δ;rw[hl,hv];rfl) h
def znK(X:K.In s.heap)(I:ObjM s.heap x dx C mA)(hs:findIn K (.ref C) "__setattr__"=Φ (Φ (.builtin "object.__setattr__")))(hp:plainOver K C=Γ)(ht:takerIn K C name=Φ Ψ)(hh:hasDictIn K C=Γ)(hw:PySem.Within mA ns)(hsz:ns.length<=sizeLine)(h:∀h',ObjM h' x dx C (λy=>if y=name then Φ v else mA y)->Heap.SameBut dx s.heap h'->Q () {s with heap:=h',toks:=s.toks+2}):
  wpAny (model prog w) A (setAttr (.ref x) name v) Q E s:=by
 obtain⟨od,J,hl⟩:=I.look;refine PySem.W.set_plain X J hs (PySem.W.osa_open (s:={s with toks:=s.toks+1}) (r:=Ψ) X J hp ht λb=>?_);obtain⟨cd,hc,hd'⟩:=PySem.W.any_some hh;have hx:s.heap.get? x=Φ ⟨.ref C,Φ dx,.plain,#[]⟩:=I.obj;refine Α (Ν (Α (Α (wpAny_loadPart hx (Α (PySem.W.Looks.here (s:={s with toks:=s.toks+1}) (PySem.W.looks_clsIn X hc) ?_))))));rw[hd'];refine Ν (a:=Φ dx) (Α (Ν (Α ?_)));refine wpAny_nsSet1 (s:={s with toks:=s.toks+1}) I.ns λh' hn2 hs2=>?_;obtain⟨oD,esD,epD,hoD,hdD,hcD⟩:=hn2.count (PySem.Within.cons name v hw);refine Α (wpAny_lookBehind hoD (by rw[hdD];exact pastItsLine_dict (le_trans hcD (by rw[Χ];lia))) ?_);exact Ν (h _ ⟨(hs2.2 _ (Ne.symm I.ne)).trans I.obj,hn2,I.ne⟩ hs2)
def zlW(X:K.In s.heap)(hm:makesIn K C=Γ)(hi:findIn K (.ref C) "__init__"=Φ (Φ (.ref f)))(hf:PySem.W.typeIn K (.ref f)=Φ (.type "function"))(h:codeAny (model prog w) (A.under (.builtin "type.__call__" ⟨.ref C::vs,kw⟩)) (.call (.ref f) ⟨.ref (s.heap.objs.size+1)::vs,kw⟩) (PySem.W.InitBack (s.heap.objs.size+1) R)
   {s with heap:=(s.heap.push emptyDict).push (instObj C s.heap.objs.size)}):
  codeAny (model prog w) A (.call (.ref C) ⟨vs,kw⟩) R s:=by
 obtain⟨hh,g,d,t,os⟩:=s;exact PySem.W.make_core (PySem.W.makes_of X hm) (PySem.W.looks_findIn X hi) (λself=>PySem.W.bind_fn X self hf) (.inl rfl) h
end
abbrev putF(f:Str)(v:V):List (Str×V)->List (Str×V)
 | []=>[(f,v)]|(g,x)::r=>if g=f then(g,v)::r else(g,x)::putF f v r
def zdQ(f g)(v):∀fs:List (Str×V),(putF f v fs).lookup g=if g=f then Φ v else fs.lookup g
 | []=>by show List.lookup g [(f,v)]=_;by_cases h:g=f;have hb:(g==f)=Γ:=beq_iff_eq.mpr h;simp only[List.lookup,hb,if_pos h];have hb:(g==f)=Δ:=beq_eq_false_iff_ne.mpr h;simp only[List.lookup,hb,if_neg h]| (k,x)::r=>by have ih:=zdQ f g v r;rw[show putF f v ((k,x)::r)=(if k=f then(k,v)::r else(k,x)::putF f v r) from rfl];by_cases hk:k=f;rw[if_pos hk];by_cases h:g=k;have hb:(g==k)=Γ:=beq_iff_eq.mpr h;simp only[List.lookup,hb,if_pos (h.trans hk)];have hb:(g==k)=Δ:=beq_eq_false_iff_ne.mpr h;simp only[List.lookup,hb,if_neg (λe:g=f=>h (e.trans hk.symm))];rw[if_neg hk];by_cases h:g=k;have hb:(g==k)=Γ:=beq_iff_eq.mpr h;simp only[List.lookup,hb,if_neg (λe:g=f=>hk (h.symm.trans e))];have hb:(g==k)=Δ:=beq_eq_false_iff_ne.mpr h;simp only[List.lookup,hb];exact ih
def zdT(f)(v):∀fs:List (Str×V),f∈(putF f v fs).map (·.1)/\∀g,g∈fs.map (·.1)->g∈(putF f v fs).map (·.1)
 | []=>⟨by simp[putF],λg h=>by simp at h⟩| (k,x)::r=>by obtain⟨i1,i2⟩:=zdT f v r;rw[show putF f v ((k,x)::r)=(if k=f then(k,v)::r else(k,x)::putF f v r) from rfl];by_cases hk:k=f;rw[if_pos hk];subst hk;exact⟨by simp,λg h=>by simpa using h⟩;rw[if_neg hk];refine⟨?_,λg h=>?_⟩;rw[Μ];exact Ο _ i1;rw[Μ]at h⊢;rcases mem_cons.mp h with e|e;exact mem_cons.mpr (.inl e);exact Ο _ (i2 g e)
def zdR(f)(v):∀fs:List (Str×V),(putF f v fs).length<=fs.length+1
 | []=>by simp[putF]| (k,x)::r=>by have ih:=zdR f v r;rw[show putF f v ((k,x)::r)=(if k=f then(k,v)::r else(k,x)::putF f v r) from rfl];by_cases hk:k=f;rw[if_pos hk,Χ,Χ];lia;rw[if_neg hk,Χ,Χ];lia
def RelO.some_of(r:RelO (Φ v) o):∃u,o=Φ u/\RelV v u:=by cases o with|none=>exact(show False from r).elim|some u=>exact⟨u,rfl,r⟩
def RelO.none_of(r:RelO Ψ o):o=Ψ:=by cases o with|none=>rfl|some u=>exact(show False from r).elim
def zkw(r:RelV v u):handedIn u=Γ:=by cases v with|non=>cases(show u=Θ.none from r);rfl|bl b=>cases(show u=Θ.bool b from r);rfl|int i=>obtain⟨t,e⟩:=(show ∃t,u=Θ.int i t from r);cases e;rfl|str x=>obtain⟨t,e⟩:=(show ∃t,u=Θ.str x t from r);cases e;rfl|byt b=>obtain⟨t,e⟩:=(show ∃t,u=Θ.bytes b t from r);cases e;rfl|flt b=>obtain⟨t,e⟩:=(show ∃t,u=Θ.float b t from r);cases e;rfl|ref a=>cases(show u=Θ.ref a from r);rfl|ty n=>cases(show u=Θ.type n from r);rfl
section
variable{P:ϊ}{w:ύ}{H H':Hp}{h h':Heap}{a C dx:Addr}{fs fs':List (Str×V)}
def zfd(hok:HOk P w H h)(e:H a=Φ (.ins C dx fs)):∃b,ObjM h a dx C b/\(∀f,RelO (fs.lookup f) (b f))/\PySem.Within b (fs.map (·.1))/\fs.length<=1000/\H dx=Φ (.own a):=by obtain⟨d,z,c,g,b,n,r,q⟩:=(show ObjOk P w H h a (.ins C dx fs) from hok a _ e);exact⟨b,⟨g,n,c⟩,r,q,z,d⟩
end
structure Cls(K:Frag)(C:Addr):Prop where
 pg:plainGet K C Str.empty=Γ
 hd:hasDictIn K C=Γ
 po:plainOver K C=Γ
 sa:findIn K (.ref C) "__setattr__"=Φ (Φ (.builtin "object.__setattr__"))
def Cls.get{K}(c:Cls K C)(f):plainGet K C f=Γ:=c.pg
abbrev NoAttr(K:Frag)(C:Addr)(f:Str):Prop:=findIn K (.ref C) f=Φ Ψ
def NoAttr.taker{K}(n:NoAttr K C f):takerIn K C f=Φ Ψ:=by unfold takerIn;rw[show findIn K (.ref C) f=Φ Ψ from n];rfl
structure Con(K:Frag)(C:Addr)(f:Str)(v:V)(u:Θ):Prop where
 at_:findIn K (.ref C) f=Φ (Φ u)
 rel:RelV v u
 get:specialIn K u "__get__"=Φ Ψ
 cp:PySem.W.copiedNames.contains f=Δ
structure Meth(K:Frag)(C:Addr)(m:Str)(f:Addr):Prop where
 at_:findIn K (.ref C) m=Φ (Φ (.ref f))
 fn:isFn K (.ref f)=Γ
 kp:keepIn K (.ref f)=Γ
section
variable{X:Cx}{pins:List (Addr×Obj)}{σ:St}{H:Hp}{s:Β}{a C dx:Addr}{fs:List (Str×V)}{f:Str}{v:V}{A:ϔ}{E:Θ->Β->Prop}
def ziJ(I:Inv X pins σ H s)(e:H a=Φ (.ins C dx fs))(c:Cls X.K C)(n:NoAttr X.K C f)(l:fs.lookup f=Φ v)(h:∀u s',Inv X pins σ H s'->RelV v u->Q u s'):wpAny (model X.prog X.w) A (getAttr (.ref a) f b) Q E s:=by
 obtain⟨mA,O,r,_,_,_⟩:=zfd I.hok e;obtain⟨u,hu,ru⟩:=RelO.some_of (v:=v) (o:=mA f) (by rw[<-l];exact r f);exact zo2 I.kIn O (c.get f) c.hd n hu (zkw ru) (h u _ (I.tok _) ru)
def zeq(I:Inv X pins σ H s)(e:H a=Φ (.ins C dx fs))(c:Cls X.K C)(k:Meth X.K C m g)(l:fs.lookup m=Ψ)(h:Q (.ref g,[.ref a]) s):wpAny (model X.prog X.w) A (getMethod (.ref a) m pl) Q E s:=by
 obtain⟨mA,O,r,_,_,_⟩:=zfd I.hok e;have hn:mA m=Ψ:=RelO.none_of (by rw[<-l];exact r m);exact zmh I.kIn O (c.get m) k.at_ k.fn hn h
def zh9(I:Inv X pins σ H s)(e:H a=Φ (.ins C dx fs))(c:Cls X.K C)(n:NoAttr X.K C f)(hl:fs.length<1000)(ry:RelV y u)(h:∀s',Inv X pins σ (upd H a (.ins C dx (putF f y fs))) s'->Q () s'):wpAny (model X.prog X.w) A (setAttr (.ref a) f u) Q E s:=by
 obtain⟨mA,O,r,wi,_,ho⟩:=zfd I.hok e;have hz:(fs.map (·.1)).length<=sizeLine:=by rw[length_map,Τ];lia
 refine znK I.kIn O c.sa c.po n.taker c.hd wi hz λh' O' sb=>h _ ?_;have hd:∃o,h'.get? dx=Φ o:=let ⟨o,_,_,e',_⟩:=O'.ns;⟨o,e'⟩;refine I.write (x:=a) (e:=dx) (by rw[e];exact True.intro) (.inr ho) (λb q hb z=>(sb.2 b hb).trans z) hd ?_;refine⟨by rw[zah O.ne];exact ho,?_,O.ne,O'.obj,_,O'.ns,λg=>?_,λg hg=>?_⟩
 have:=zdR f y fs;lia;show RelO ((putF f y fs).lookup g) (if g=f then Φ u else mA g);rw[zdQ];by_cases q:g=f;rw[if_pos q,if_pos q];exact ry;rw[if_neg q,if_neg q];exact r g;by_cases q:g=f;rw[q];exact(zdT f y fs).1;refine(zdT f y fs).2 g (wi g λz=>hg ?_);show(if g=f then Φ u else mA g)=Ψ;rw[if_neg q];exact z
def Inv.made(I:Inv X pins σ H s):Inv X pins σ (upd (upd H s.heap.objs.size (.own (s.heap.objs.size+1))) (s.heap.objs.size+1) (.ins C s.heap.objs.size []))
  {s with heap:=(s.heap.push emptyDict).push (instObj C s.heap.objs.size)}:=by
 have e1:(s.heap.push emptyDict).get? s.heap.objs.size=Φ emptyDict:=Κ s.heap rfl;have e2:((s.heap.push emptyDict).push (instObj C s.heap.objs.size)).get? (s.heap.objs.size+1)=Φ (instObj C s.heap.objs.size):=by
  have:=Κ (s.heap.push emptyDict) (o:=instObj C s.heap.objs.size) rfl
  rwa [Heap.size_push]at this
 have e3:(s.heap.push emptyDict).Ns s.heap.objs.size (λ_=>Ψ):=⟨emptyDict,#[],_,e1,rfl,(λe he=>absurd he (by simp)),λ_=>rfl⟩;have I1:=I.laid (a:=s.heap.objs.size) (o:=.own (s.heap.objs.size+1)) (h':=s.heap.push emptyDict) (t':=s.toks) (λb u q=>Λ _ q) (le_refl _) ⟨_,e1⟩;refine I1.laid (a:=s.heap.objs.size+1) (o:=.ins C s.heap.objs.size []) (t':=s.toks) (λb u q=>Λ _ q) (Nat.le_of_eq (Heap.size_push _ _)) ?_;have ne:s.heap.objs.size≠s.heap.objs.size+1:=ne_of_lt (Nat.lt_succ_self _);refine⟨by rw[zah ne,zak],zero_le _,ne,e2,λ_=>Ψ,(Heap.Ns1.of_empty e3).at λo q=>Λ _ q,λ_=>True.intro,λy hy=>absurd rfl hy⟩
def zpm(hb:attributeBase e f env (eval e env)=eval e env)(h:wpAny (model prog w) A (eval e env) (λo s₁=>wpAny (model prog w) A (getAttr o f Γ) Q E s₁) E s):wpAny (model prog w) A (eval (.Attribute e f pos) env) Q E s:=
 Attribute_any_ h (by rw[arm_eval_Attribute,hb])
end
abbrev tFld(K:Frag)(ta:TE)(f:Str):TE:=λσ H Q=>ta σ H λx H1=>∃a C dx fs v,x=.ref a/\H1 a=Φ (.ins C dx fs)/\Cls K C/\NoAttr K C f/\fs.lookup f=Φ v/\Q v H1
abbrev sFld(K:Frag)(ta tv:TE)(f:Str):TS:=λD σ H=>tv σ H λy H1=>ta σ H1 λx H2=>∃a C dx fs,x=.ref a/\H2 a=Φ (.ins C dx fs)/\Cls K C/\NoAttr K C f/\fs.length<1000/\
 D.nx σ (upd H2 a (.ins C dx (putF f y fs)))
section
variable{X:Cx}{o e value:Expr}{f:Str}{pos pos' tpos:Pos}{ta tv:TE}
def zqT(he:PE X e ta)(hb:attributeBase e f X.env (eval e X.env)=eval e X.env):PE X (.Attribute e f pos) (tFld X.K ta f):=by intro pins s σ H Q I h;refine zpm hb (thn (he pins s σ H _ I h) λu s1 z=>?_);obtain⟨x,H1,I1,rx,a,C,dx,fs,v,ex,ea,c,n,l,q⟩:=z;subst ex;obtain rfl:u=Θ.ref a:=rx;exact ziJ I1 ea c n l λu' s2 I2 ru=>⟨v,H1,I2,ru,q⟩
def zqG(ha:PE X o ta)(hv:PE X value tv)(hs:swapsWith value (Φ (.Attribute o f pos')) pos.line X.env=pure Δ):PS X (.Assign [.Attribute o f pos'] value pos) (sFld X.K ta tv f):=by intro pins s σ H D I h;refine plainObj_wpAny_Assign_Attribute (thn (hv pins s σ H _ I h) λu s1 z=>eY z λy H1 I1 ry q=>thn (ha pins s1 σ H1 _ I1 q) λov s2 z=>?_) hs;obtain⟨x,H2,I2,rx,a,C,dx,fs,ex,ea,c,n,l,q2⟩:=z;subst ex;obtain rfl:ov=Θ.ref a:=rx;exact zh9 I2 ea c n l ry λs3 I3=>⟨σ,_,I3,q2⟩
end
section
variable{X:Cx}{pins:List (Addr×Obj)}{σ:St}{H:Hp}{s:Β}{A:ϔ}{E:Θ->Β->Prop}{Q:Θ->Β->Prop}{c:Θ}{b:Bool}
inductive TyOf(K:Frag)(H:Hp):V->Θ->Prop where
 |non:TyOf K H .non (.type "NoneType")
 |bl (x:Bool):TyOf K H (.bl x) (.type "bool")
 |int (i:Int):TyOf K H (.int i) (.type "int")
 |str (x:Str):TyOf K H (.str x) (.type "str")
 |flt (x:UInt64):TyOf K H (.flt x) (.type "float")
 |lst {a:Addr} {xs:List V} (e:H a=Φ (.lst xs)):TyOf K H (.ref a) (.type "list")
 |frz {a:Addr} {o:Obj} {xs:List V} (e:H a=Φ (.frz o (.lst xs))):TyOf K H (.ref a) (.type "list")
 |tup {a:Addr} {xs:List V} (e:H a=Φ (.tup xs)):TyOf K H (.ref a) (.type "tuple")
 |dK {a:Addr} {kvs:List (Key×V)} (e:H a=Φ (.dK kvs)):TyOf K H (.ref a) (.type "dict")
 |dT {a:Addr} {kvs:List (List Key×V)} (e:H a=Φ (.dT kvs)):TyOf K H (.ref a) (.type "dict")
 |ins {a C dx:Addr} {fs:List (Str×V)} (e:H a=Φ (.ins C dx fs)) (cl:Cls K C) (ha:findIn K (.ref C) "__class__"=Φ (Φ (.builtin "object.__class__")))
  (hn:specialIn K (.builtin "object.__class__") "__get__"=Φ (Φ (.builtin "getset_descriptor.__get__"))) (htk:takesIn K (.builtin "object.__class__")=Φ Γ)
  (hm:mroIn K C (.type "object")=Φ Γ):TyOf K H (.ref a) (.ref C)
def zkh(I:Inv X pins σ H s)(rx:RelV x u)(ty:TyOf X.K H x t)(e:kitOne X.K t c=Φ b)(h:∀tk,Q (.bool b) {s with toks:=tk}):
  wpAny (model X.prog X.w) A (call (.builtin "isinstance") [u,c]) Q E s:=by
 cases ty with|non=>cases(show u=Θ.none from rx);exact kia_one PySem.W.kitx_none I.kIn True.intro e (λz=>by cases z) h|bl y=>cases(show u=Θ.bool y from rx);exact kia_one PySem.W.kitx_bool I.kIn True.intro e (λz=>by cases z) h|int i=>obtain⟨t,q⟩:=(show ∃t,u=Θ.int i t from rx);cases q;exact kia_one PySem.W.kitx_int I.kIn True.intro e (λz=>by cases z) h|str y=>obtain⟨t,q⟩:=(show ∃t,u=Θ.str y t from rx);cases q;exact kia_one PySem.W.kitx_str I.kIn True.intro e (λz=>by cases z) h|flt y=>obtain⟨t,q⟩:=(show ∃t,u=Θ.float y t from rx);cases q;exact kia_one PySem.W.kitx_float I.kIn True.intro e (λz=>by cases z) h| @lst a xs ea=>cases(show u=Θ.ref a from rx);obtain⟨_,_,n,_,h1⟩:=(show ObjOk X.prog X.w H s.heap a (.lst xs) from I.hok a _ ea);exact kia_one kitx_list I.kIn ⟨_,h1,rfl⟩ e (λz=>by cases z) h| @frz a ob xs ea=>cases(show u=Θ.ref a from rx);obtain⟨_,_,_,n,_,h1⟩:=(show ObjOk X.prog X.w H s.heap a (.frz ob (.lst xs)) from I.hok a _ ea);exact kia_one kitx_list I.kIn ⟨_,h1,rfl⟩ e (λz=>by cases z) h| @tup a xs ea=>cases(show u=Θ.ref a from rx);obtain⟨_,_,_,p⟩:=(show ObjOk X.prog X.w H s.heap a (.tup xs) from I.hok a _ ea);obtain⟨o,h1,h2,_⟩:=p;exact kia_one PySem.W.kitx_tuple I.kIn ⟨o,h1,h2⟩ e (λz=>by cases z) h| @dK a kvs ea=>cases(show u=Θ.ref a from rx);obtain⟨_,_,vs,_,p⟩:=(show ObjOk X.prog X.w H s.heap a (.dK kvs) from I.hok a _ ea);obtain⟨o,es,ep,h1,h2,_⟩:=p;exact kia_one kitx_dict I.kIn ⟨o,h1,h2.1⟩ e (λz=>by cases z) h| @dT a kvs ea=>cases(show u=Θ.ref a from rx);obtain⟨_,_,xs,_,o,es,ep,h1,h2,_⟩:=(show ObjOk X.prog X.w H s.heap a (.dT kvs) from I.hok a _ ea);exact kia_one kitx_dict I.kIn ⟨o,h1,h2.1⟩ e (λz=>by cases z) h| @ins a C dx fs ea cl ha hn htk hm=>cases(show u=Θ.ref a from rx);obtain⟨mA,O,_⟩:=zfd I.hok ea;obtain⟨od,J,_⟩:=O.look;exact kia_one (PySem.W.kitx_own (cl.get _) cl.hd ha hn htk hm) I.kIn J e (λz=>by cases z) h
end
structure Room(k:Nat)(A:ϔ):Prop where
 hd:A.handled=Ψ
 dp:A.depth+3*k+5<recursionLimit
 un:A.units+16*k+200<cLine
def Room.mono(r:Room k A)(h:j<=k):Room j A:=⟨r.hd,by have:=r.dp;lia,by have:=r.un;lia⟩
def Room.deeper(r:Room (k+1) A)(env):Room k (A.deeper env):=⟨r.hd,by have:=r.dp;show A.depth+1+3*k+5<_;lia,by have:=r.un;show A.units+3+16*k+200<_;lia⟩
def Room.in1(r:Room (k+1) A):Room k A.in1:=⟨r.hd,by have:=r.dp;show A.depth+3*k+5<_;lia,by have:=r.un;show A.units+1+16*k+200<_;lia⟩
def ziB{A:ϔ}:(A.under (.builtin "type.__call__" ⟨.ref C::us,kw⟩)).depth=A.depth+1:=by first|rfl|simp[ϔ.under,Code.weight,Code.isCreation,Code.isGuard,Code.isCaller,Code.frames,Code.isFrame,guardIds]
def ziA{A:ϔ}:(A.under (.builtin "type.__call__" ⟨.ref C::us,kw⟩)).units=A.units+1:=by first|rfl|simp[ϔ.under,Code.cUnits,Code.frames,Code.isFrame]
def Room.make(r:Room (k+1) A)(C)(us)(kw):Room k (A.under (.builtin "type.__call__" ⟨.ref C::us,kw⟩)):=⟨r.hd,by have:=r.dp;rw[ziB];lia,by have:=r.un;rw[ziA];lia⟩
def Room.depth(r:Room k A):A.depth<recursionLimit:=by have:=r.dp;lia
def Room.units(r:Room k A):A.units+64<cLine:=by have:=r.un;lia
abbrev tNil:TA:=λ_ H Q=>Q [] H
abbrev zeI(ta:TE)(tr:TA):TA:=λσ H Q=>ta σ H λx H1=>tr σ H1 λxs H2=>Q (x::xs) H2
section
variable{X:Cx}{e:Expr}{es:List Expr}{te:TE}{t:TA}{pos:Pos}
def zdO:PA X [] tNil:=λ_ _ _ _ H Q I h=>Calls.spliced_nil ⟨[],H,I,.nil,h⟩
def zbo(ha:PE X e te)(hr:PA X es t)(hs:starEach (e::es) X.env=(Δ,eval e X.env)::starEach es X.env:=by rfl):PA X (e::es) (zeI te t):=by intro pos pins s σ H Q I h;rw[hs];show wpAny _ _ (spliced ((Δ,eval e X.env)::backTo pos (starEach es X.env))) _ _ s;refine Calls.spliced_cons (thn (ha pins s σ H _ I h) λu s1 z=>?_);obtain⟨x,H1,I1,r1,q1⟩:=z;exact thn (hr pos pins s1 σ H1 _ I1 q1) λus s2 k=>(by obtain⟨xs,H2,I2,r2,q2⟩:=k;exact ⟨x::xs,H2,I2,.cons r1 r2,q2⟩)
abbrev tTup(t:TA):TE:=λσ H Q=>t σ H λxs H1=>xs.length<=sizeLine/\∀p,H1 p=Ψ->Q (.ref p) (upd H1 p (.tup xs))
abbrev tLst(t:TA):TE:=λσ H Q=>t σ H λxs H1=>xs.length<=sizeLine/\∀p,H1 p=Ψ->Q (.ref p) (upd H1 p (.lst xs))
def zqM(h:PA X es t):PE X (.Tuple es x1 pos) (tTup t):=by intro pins s σ H Q I hq;refine wpAny_Tuple_spliced (thn (h pos pins s σ H _ I hq) λus s1 ⟨xs,H1,I1,r,z,q⟩=>⟨by rw[<-r.length];exact z,?_⟩);have hf:H1 s1.heap.objs.size=Ψ:=I1.hok.fresh (le_refl _);refine⟨.ref s1.heap.objs.size,upd H1 s1.heap.objs.size (.tup xs),I1.laid (t':=s1.toks) (λb u e=>Λ _ e) (le_refl _) ?_,rfl,q _ hf⟩;exact⟨z,us,r,⟨_,Κ _ rfl,rfl,_,rfl⟩⟩
def zqQ(h:PA X es t):PE X (.List es pos) (tLst t):=by intro pins s σ H Q I hq;refine wpAny_List_spliced (thn (h pos pins s σ H _ I hq) λus s1 ⟨xs,H1,I1,r,z,q⟩=>⟨by rw[<-r.length];exact z,?_⟩);have hf:H1 s1.heap.objs.size=Ψ:=I1.hok.fresh (le_refl _);refine⟨.ref s1.heap.objs.size,upd H1 s1.heap.objs.size (.lst xs),I1.laid (t':=s1.toks) (λb u e=>Λ _ e) (le_refl _) ?_,rfl,q _ hf⟩;exact⟨z,us,0,r,Κ _ rfl⟩
end
@[reducible]def Sp:=List V->Hp->VK->XK->Prop
@[reducible]def CXT:=List Env->Hp->Β->XK->Θ->Β->Prop
structure Env0(P:ϊ)(w:ύ)(K:Frag)(mg:Str->Option Θ)(base:Heap)(A:ϔ)(outer:List Env)(s:Β)(H:Hp):Prop where
 frames:A.frames=Φ outer
 mod:Mod K mg base
 bs:∀b o,base.get? b=Φ o->s.heap.get? b=Φ o/\H b=Ψ
 bsz:base.objs.size<=s.heap.objs.size
 funs:s.heap.FunFrames base outer
 frf:∀b∈frs outer,H b=Ψ
 hok:HOk P w H s.heap
 bare:AllBare s.gens
abbrev CE(outer:List Env)(P:ϊ)(w:ύ)(H:Hp)(s:Β)(Q:VK)(u:Θ)(s':Β):Prop:=∃v H',s'.os=s.os/\AllBare s'.gens/\Un (frs outer) [] H H' s.heap s'.heap/\HOk P w H' s'.heap/\RelV v u/\Q v H'
abbrev CR(CX:CXT)(outer:List Env)(P:ϊ)(w:ύ)(H:Hp)(s:Β)(Q:VK)(E:XK)(r:Result)(s':Β):Prop:=match r with|.ok (.ret u)=>CE outer P w H s Q u s'|.ok _=>False|.error e=>CX outer H s E e s'
structure FnOk(P:ϊ)(w:ύ)(K:Frag)(mg:Str->Option Θ)(base:Heap)(CX:CXT)(k:Nat)(f:Addr)(fd:FuncData)(ps:List Str)(sp:Sp):Prop where
 len:∀vs H Q E,sp vs H Q E->vs.length=ps.length
 run:∀(A:ϔ)(outer:List Env)(s:Β)(H:Hp)(args:Args)(us:List Θ)(vs:List V)(Q:VK)(E:XK),Room k A->Env0 P w K mg base A outer s H->BindsTo s fd args (ps.zip us)->Vals vs us->sp vs H Q E->
  codeAny (model P w) A (.call (.ref f) args) (CR CX outer P w H s Q E) s
def FnOk.mono{K}(F:FnOk P w K b base CX j f fd ps sp)(h:j<=k):
 FnOk P w K b base CX k f fd ps sp:=⟨F.len,λA a s H args c d Q E e=>F.run A a s H args c d Q E (e.mono h)⟩
def Env0.make{K}(e:Env0 P w K a base A outer s H)(C)(us)(b):
 Env0 P w K a base (A.under (.builtin "type.__call__" ⟨.ref C::us,b⟩)) outer s H:=⟨by first|exact e.frames|(simpa[ϔ.under,Code.envs,Code.isFrame,pushEnvs]using e.frames),e.mod,e.bs,e.bsz,e.funs,e.frf,e.hok,e.bare⟩
def Env0.in1{K}(e:Env0 P w K a base A outer s H):
 Env0 P w K a base A.in1 outer s H:=⟨e.frames,e.mod,e.bs,e.bsz,e.funs,e.frf,e.hok,e.bare⟩
section
variable{X:Cx}{pins:List (Addr×Obj)}{σ:St}{H:Hp}{s s':Β}
def Inv.env0(I:Inv X pins σ H s):Env0 X.prog X.w X.K X.mg X.base X.A X.stack s H:=⟨I.ok.frames,I.ok.mod,I.bs,le_trans I.ok.bsz I.sz,I.stack,I.stkFree,I.hok,I.bare⟩
def Inv.after(I:Inv X pins σ H s)(h:CE X.stack X.prog X.w H s Q u s'):EP X pins σ Q u s':=by obtain⟨v,f,os,a,i,c,r,q⟩:=h;obtain⟨j,g,d,t,e⟩:=s';obtain rfl:e=s.os:=os;exact⟨v,f,I.call (h':=j) (g':=g) (d':=d) (t':=t) (ch:=[]) i c a (λb z=>absurd z (by simp)),r,q⟩
end
abbrev zeJ(sp:Sp)(dvs:List V)(E:XK)(t:TA):TE:=λσ H Q=>t σ H λvs H1=>sp (vs++dvs) H1 Q E
abbrev znw(C:Addr)(sp:Sp)(dvs:List V)(E:XK)(t:TA):TE:=λσ H Q=>t σ H λvs H1=>∀x dx,H1 x=Ψ->H1 dx=Ψ->dx≠x->
 sp (.ref x::(vs++dvs)) (upd (upd H1 dx (.own x)) x (.ins C dx [])) (λv H2=>v=.non/\Q (.ref x) H2) E
abbrev Binds(K:Frag)(fd:FuncData)(ps:List Str)(ds:List Θ):Prop:=∀(s:Β)(us:List Θ),K.In s.heap->(us++ds).length=ps.length->BindsTo s fd ⟨us,[]⟩ (ps.zip (us++ds))
def Binds.all{K}(h:∀us:List Θ,us.length=ps.length->bindArgs fd ⟨us,[]⟩=pure (ps.zip us)):Binds K fd ps []:=λs us _ a=>by rw[Ϣ]at a⊢;exact .of_eq (h us a)
abbrev zd9(CX:CXT)(X:Cx)(E:XK):Prop:=∀(pins:List (Addr×Obj))(σ:St)(H:Hp)(s:Β)(e:Θ)(s':Β),Inv X pins σ H s->CX X.stack H s E e s'->X.xe e s'
section
variable{X:Cx}{CX:CXT}{k:Nat}{f C:Addr}{fd:FuncData}{ps:List Str}{sp:Sp}{dvs:List V}{ds:List Θ}{E:XK}{x m:Str}{p pos apos:Pos}{e o:Expr}{es:List Expr}{ta:TE}{t:TA}
def zfv(F:FnOk X.prog X.w X.K X.mg X.base CX k f fd ps sp)(hr:Room k X.A)(hb:Binds X.K fd ps ds)(hd:Vals dvs ds)(hx:zd9 CX X E)(I:Inv X pins σ H s)(r:Vals vs us)(h:sp (vs++dvs) H Q E):wpAny (model X.prog X.w) X.A (call (.ref f) us) (EP X pins σ Q) X.xe s:=by
 have r2:Vals (vs++dvs) (us++ds):=r.append hd;have hl:(us++ds).length=ps.length:=by rw[<-r2.length];exact F.len _ _ _ _ h
 refine wpAny_call (codeAny_mono (F.run X.A X.stack s H ⟨us,[]⟩ (us++ds) (vs++dvs) Q E hr I.env0 (hb s us I.kIn hl) r2 h) λr s' hq=>?_);cases r with|error e=>exact hx pins σ H s e s' I hq| ok fl=>cases fl with|ret u=>exact I.after hq|next=>exact False.elim hq|brk=>exact False.elim hq|cont=>exact False.elim hq
def zoz(F:FnOk X.prog X.w X.K X.mg X.base CX k f fd ps sp)(hr:Room k X.A)(hg:Gl X x)(hm:X.mg x=Φ (.ref f))(hk:keepIn X.K (.ref f)=Γ)(hb:Binds X.K fd ps ds)(hd:Vals dvs ds)(hx:zd9 CX X E)
  (ha:PA X (e::es) t) (hdb:(x==("__debug__":Str))=Δ:=by decide) (he:starEach (e::es) X.env=(Δ,eval e X.env)::starEach es X.env:=by rfl) (hpl:(backTo pos (starEach es X.env)).any (·.1)=Δ:=by rfl) :
  PE X (.Call (.Name x p) (e::es) [] pos) (zeJ sp dvs E t):=by
 intro pins s σ H Q I h;refine ϕ (zdS I hg hm ?_ hdb);refine callWith_K (h₀:=X.base) I.ok.mod.kin hk (thn (ha pos pins s σ H _ I h) λus s1 z=>eY z λvs H1 I1 r q=>⟨I1.kIn,?_⟩) he hpl;exact zfv F hr hb hd hx I1 r q
def zlQ(F:FnOk X.prog X.w X.K X.mg X.base CX k f fd ps sp)(hr:Room k X.A)(hg:Gl X x)(hm:X.mg x=Φ (.ref f))(hk:keepIn X.K (.ref f)=Γ)(hb:Binds X.K fd ps ds)(hd:Vals dvs ds)(hx:zd9 CX X E)
  (hdb:(x==("__debug__":Str))=Δ:=by decide):PE X (.Call (.Name x p) [] [] pos) (zeJ sp dvs E tNil):=by
 intro pins s σ H Q I h;refine ϕ (zdS I hg hm ?_ hdb);exact callWith_K0 I.kIn hk (zfv (us:=[]) F hr hb hd hx I .nil h)
structure Mk(K:Frag)(C f:Addr):Prop where
 makes:makesIn K C=Γ
 init:findIn K (.ref C) "__init__"=Φ (Φ (.ref f))
 fn:isFn K (.ref f)=Γ
 kp:keepIn K (.ref C)=Γ
def zhk(M:Mk X.K C f)(F:FnOk X.prog X.w X.K X.mg X.base CX k f fd ps sp)(hr:Room (k+1) X.A)(hb:Binds X.K fd ps ds)(hd:Vals dvs ds)(hx:zd9 CX X E)(I:Inv X pins σ H s)(r:Vals vs us)(h:∀x dx,H x=Ψ->H dx=Ψ->dx≠x->sp (.ref x::(vs++dvs)) (upd (upd H dx (.own x)) x (.ins C dx [])) (λv H2=>v=.non/\Q (.ref x) H2) E):
  wpAny (model X.prog X.w) X.A (call (.ref C) us) (EP X pins σ Q) X.xe s:=by
 have hq:=h (s.heap.objs.size+1) s.heap.objs.size (I.hok.fresh (le_succ _)) (I.hok.fresh (le_refl _)) (ne_of_lt (Nat.lt_succ_self _));have I2:=Inv.made (C:=C) I;have r2:Vals (V.ref (s.heap.objs.size+1)::(vs++dvs)) (Θ.ref (s.heap.objs.size+1)::(us++ds)):=.cons rfl (r.append hd);have hl:(Θ.ref (s.heap.objs.size+1)::us++ds).length=ps.length:=by have e:=r2.length;rw[F.len _ _ _ _ hq]at e;exact e.symm
 refine wpAny_call (zlW (f:=f) I.kIn M.makes M.init (beq_iff_eq.mp M.fn) (codeAny_mono (F.run _ X.stack _ _ ⟨Θ.ref (s.heap.objs.size+1)::us,[]⟩ (Θ.ref (s.heap.objs.size+1)::(us++ds)) _ _ E (hr.make C us [])
  (I2.env0.make C us []) (hb _ (Θ.ref (s.heap.objs.size+1)::us) I2.kIn hl) r2 hq) λr s' hq'=>?_))
 cases r with|error e=>exact hx pins σ _ _ e s' I2 hq'| ok fl=>cases fl with| ret u=>obtain⟨v,H',I3,rv,ev,q3⟩:=I2.after hq';subst ev;exact⟨rv,⟨V.ref (s.heap.objs.size+1),H',I3,rfl,q3⟩⟩|next=>exact False.elim hq'|brk=>exact False.elim hq'|cont=>exact False.elim hq'
def zox(M:Mk X.K C f)(F:FnOk X.prog X.w X.K X.mg X.base CX k f fd ps sp)(hr:Room (k+1) X.A)(hg:Gl X x)(hm:X.mg x=Φ (.ref C))(hb:Binds X.K fd ps ds)(hd:Vals dvs ds)(hx:zd9 CX X E)
  (ha:PA X (e::es) t) (hdb:(x==("__debug__":Str))=Δ:=by decide) (he:starEach (e::es) X.env=(Δ,eval e X.env)::starEach es X.env:=by rfl) (hpl:(backTo pos (starEach es X.env)).any (·.1)=Δ:=by rfl) :
  PE X (.Call (.Name x p) (e::es) [] pos) (znw C sp dvs E t):=by
 intro pins s σ H Q I h;refine ϕ (zdS I hg hm ?_ hdb);refine callWith_K (h₀:=X.base) I.ok.mod.kin M.kp (thn (ha pos pins s σ H _ I h) λus s1 z=>eY z λvs H1 I1 r q=>⟨I1.kIn,?_⟩) he hpl;exact zhk M F hr hb hd hx I1 r q
def zlJ(M:Mk X.K C f)(F:FnOk X.prog X.w X.K X.mg X.base CX k f fd ps sp)(hr:Room (k+1) X.A)(hg:Gl X x)(hm:X.mg x=Φ (.ref C))(hb:Binds X.K fd ps ds)(hd:Vals dvs ds)(hx:zd9 CX X E)
  (hdb:(x==("__debug__":Str))=Δ:=by decide):PE X (.Call (.Name x p) [] [] pos) (znw C sp dvs E tNil):=by
 intro pins s σ H Q I h;refine ϕ (zdS I hg hm ?_ hdb);exact callWith_K0 I.kIn M.kp (zhk (us:=[]) M F hr hb hd hx I .nil h)
end
abbrev PK(X:Cx)(kws:List Keyword)(t:TA):Prop:=∀(pos:Pos)(pins:List (Addr×Obj))(s:Β)(σ:St)(H:Hp)(Q:List V->Hp->Prop),Inv X pins σ H s->t σ H Q->wpAny (model X.prog X.w) X.A (evalAll ((backToKw pos (keywordEach kws X.env)).map (·.2))) (AP X pins σ Q) X.xe s
section
variable{X:Cx}{CX:CXT}{k:Nat}{f C:Addr}{fd:FuncData}{ps ks:List Str}{sp:Sp}{E:XK}{x m:Str}{p pos apos kpos:Pos}{e o:Expr}{es:List Expr}{kws:List Keyword}{te ta:TE}{t tk:TA}{nm:Option Str}
def zjJ:PK X [] tNil:=λ_ _ _ _ H Q I h=>wpAny_evalAll_nil ⟨[],H,I,.nil,h⟩
def zgB(ha:PE X e te)(hr:PK X kws t):PK X (⟨nm,e,kpos⟩::kws) (zeI te t):=by intro pos pins s σ H Q I h;show wpAny _ _ (evalAll ((do let v <-eval e X.env;standAt pos;pure v)::(backToKw pos (keywordEach kws X.env)).map (·.2))) _ _ s;refine wpAny_evalAll_cons (Α (thn (ha pins s σ H _ I h) λu s1 z=>eY z λx H1 I1 r1 q1=>Α (wpAny_standAt (Ν ?_))));exact thn (hr pos pins s1 σ H1 _ I1 q1) λus s2 z=>(by obtain⟨xs,H2,I2,r2,q2⟩:=z;exact ⟨x::xs,H2,I2,.cons r1 r2,q2⟩)
structure KBinds(K:Frag)(fd:FuncData)(ps ks:List Str)(g:List Θ->List Θ->List Θ)(gV:List V->List V->List V):Prop where
 to:∀(s:Β)(us ws:List Θ),K.In s.heap->(g us ws).length=ps.length->BindsTo s fd ⟨us,ks.zip ws⟩ (ps.zip (g us ws))
 rel:∀{vs:List V}{us:List Θ}{zs:List V}{ws:List Θ},Vals vs us->Vals zs ws->Vals (gV vs zs) (g us ws)
end
structure FnScope(N P:List Str)(sc:Scope):Prop where
 kind:sc.kind=.function
 co:sc.isCoroutine=Δ
 gen:sc.isGenerator=Δ
 nd:N.Nodup
 pre:N.take P.length=P
 par:∀x∈P,sc.names.lookup x=Φ .local\/sc.names.lookup x=Φ .cell
 nofree:∀y∈sc.names,y.2≠.free
def zgi{kindOf}:∀{binds:List (Str×Θ)}{m:Str->Option Θ},(∀v,(x,v)∉binds)->bindL kindOf binds m x=m x
 | [],_,_=>rfl| (n,v)::r,m,h=>by
  unfold bindL;rw[zgi λw hw=>h w (Ο _ hw)];split;have:x≠n:=by rintro rfl;exact h v ϋ
  simp[this];rfl
def zgk{kindOf}:∀{binds:List (Str×Θ)}{m:Str->Option Θ},(∀v,(x,v)∉binds)->bindC kindOf binds m x=m x
 | [],_,_=>rfl| (n,v)::r,m,h=>by
  unfold bindC;rw[zgk λw hw=>h w (Ο _ hw)];split;rfl;have:x≠n:=by rintro rfl;exact h v ϋ
  simp[this]
def zgj{kindOf}:∀{P:List Str}{vs:List Θ}{i:Nat}{m:Str->Option Θ},P.Nodup->P[i]?=Φ x->vs[i]?=Φ v->kindOf x=Φ .local->
  bindL kindOf (P.zip vs) m x=Φ v
 | [],_,_,_,_,h,_,_=>by simp at h|_::_,[],_,_,_,_,h,_=>by simp at h| p::P,w::vs,0,m,nd,h1,h2,hk=>by simp at h1 h2;subst h1;subst h2;show bindL kindOf ((p,w)::P.zip vs) m p=_;unfold bindL;rw[zgi λv hv=>(nodup_cons.mp nd).1 (of_mem_zip hv).1,if_pos hk];simp| p::P,w::vs,i+1,m,nd,h1,h2,hk=>by show bindL kindOf ((p,w)::P.zip vs) m x=_;unfold bindL;exact zgj (i:=i) (nodup_cons.mp nd).2 (by simpa using h1) (by simpa using h2) hk
def zgl{kindOf}:∀{P:List Str}{vs:List Θ}{i:Nat}{m:Str->Option Θ},P.Nodup->P[i]?=Φ x->vs[i]?=Φ v->kindOf x≠Φ .local->
  bindC kindOf (P.zip vs) m x=Φ v
 | [],_,_,_,_,h,_,_=>by simp at h|_::_,[],_,_,_,_,h,_=>by simp at h| p::P,w::vs,0,m,nd,h1,h2,hk=>by simp at h1 h2;subst h1;subst h2;show bindC kindOf ((p,w)::P.zip vs) m p=_;unfold bindC;rw[zgk λv hv=>(nodup_cons.mp nd).1 (of_mem_zip hv).1,if_neg hk];simp| p::P,w::vs,i+1,m,nd,h1,h2,hk=>by show bindC kindOf ((p,w)::P.zip vs) m x=_;unfold bindC;exact zgl (i:=i) (nodup_cons.mp nd).2 (by simpa using h1) (by simpa using h2) hk
abbrev start(N:List Str)(vs:List V):St:=vs.map Φ++List.replicate (N.length-vs.length) Ψ
abbrev cxOf(CX:CXT)(P:ϊ)(w:ύ)(K:Frag)(mg:Str->Option Θ)(base:Heap)(N:List Str)(qual:Str)(scope:Scope)(f:Addr)(cd:Θ)(A:ϔ)(outer:List Env)(s:Β)(H:Hp)(E:XK):Cx where
 prog:=P
 w:=w
 K:=K
 mg:=mg
 base:=base
 A:=A.deeper (envOfC qual scope s.heap.objs.size f cd)
 N:=N
 s₀:=s
 H₀:=H
 env:=envOfC qual scope s.heap.objs.size f cd
 outer:=outer
 stack:=envOfC qual scope s.heap.objs.size f cd::outer
 ex:=[]
 calm:=Γ
 fn:=λ_=>Γ
 pn:=[]
 xe:=λe s'=>wpAny (model P w) (A.deeper (envOfC qual scope s.heap.objs.size f cd)) (leaving (envOfC qual scope s.heap.objs.size f cd) e) (λ_ s''=>CX outer H s E e s'') (λe' s''=>CX outer H s E e' s'') s'
def zhW{sc:Scope}(h:sc.names.lookup x=Φ .cell):∃c,(cellsFrom n sc.names []).lookup x=Φ c:=by have q:=cellsFrom_some sc.names n [] (.inl h);exact Option.isSome_iff_exists.mp q
def zfU{K}(S:FnScope N ps scope)(hd:A.handled=Ψ)(e0:Env0 P w K mg base A outer s H)(hl:vs.length=ps.length)(r:Vals vs us)(x:InCallC s s.heap.objs.size (bindL (envOfC qual scope s.heap.objs.size f cd).kindOf (ps.zip us) λ_=>Ψ) (cellsFrom (s.heap.objs.size+1) scope.names []) (bindC (envOfC qual scope s.heap.objs.size f cd).kindOf (ps.zip us) λ_=>Ψ) s1):
  Inv (cxOf CX P w K mg base N qual scope f cd A outer s H E) [] (start N vs) H s1:=by
 have hpl:ps.length<=N.length:=by have:=congrArg List.length S.pre;rw[length_take]at this;lia
 obtain⟨h1,tk,rfl,hk⟩:=x.done;have noA:∀b:Addr,b∉(cxOf CX P w K mg base N qual scope f cd A outer s H E).ex:=λb z=>absurd (show b∈([]:List Addr) from z) (by simp);refine⟨⟨e0.mod,S.kind,rfl,rfl,le_refl _,λy z c h1 h2=>?_,λy hy=>?_,λy c _ h=>?_,λ_=>hd,ϔ.frames_deeper e0.frames,.inr ⟨rfl,rfl⟩,λb z=>absurd z (noA b),e0.bs,e0.bsz,λb _ _=>noA b,λb z=>absurd z (noA b),e0.funs,e0.frf⟩,
  rfl,e0.bare,Un.kept hk,⟨_,x.toInCall.ns,λi y v h1 h2 h3=>?_⟩,λy c h=>⟨_,x.cell y c h⟩,e0.hok.fresh (le_refl _),λy c h=>?_,λp hp=>absurd (show p∈([]:List (Addr×Obj)) from hp) (by simp),e0.hok.kept hk,?_⟩
 exact name_of_addr x.apart (PySem.mem_of_lookup h1) (PySem.mem_of_lookup h2);have hy:scope.names.lookup y=Φ .cell\/scope.names.lookup y=Φ .free:=hy;rcases hy with hy|hy;exact zhW hy;exact absurd rfl (S.nofree _ (PySem.mem_of_lookup hy));exact le_of_lt (x.above y c (PySem.mem_of_lookup h));have hi:i<vs.length:=by
  unfold start at h2;by_cases hi:i<vs.length;exact hi
  . rw[getElem?_append_right (by simpa using hi)]at h2;rw[List.getElem?_replicate]at h2;split at h2<;>cases h2
 have ha:vs[i]?=Φ v:=by
  unfold start at h2;rw[getElem?_append_left (by simpa using hi),getElem?_map]at h2;cases e:vs[i]? with
  |none=>rw[e]at h2;exact nS h2
  |some a=>rw[e]at h2;cases h2;rfl
 obtain⟨u,hu,rv⟩:=r.get ha;have hp:ps[i]?=Φ y:=by rw[<-S.pre,List.getElem?_take_of_lt (by lia)];exact h1
 have ndP:ps.Nodup:=by rw[<-S.pre];exact S.nd.sublist (List.take_sublist _ _)
 refine⟨u,rv,?_⟩;rcases S.par y (mem_of_getElem? hp) with k|k;exact .inl ⟨k,zgj ndP hp hu k⟩;obtain⟨c,e⟩:=zhW (n:=s.heap.objs.size+1) k;refine .inr ⟨.inl k,c,e,?_⟩;have q:=x.cell y c e;rw[zgl ndP hp hu (by show scope.names.lookup y≠_;rw[k];decide)]at q;exact q;exact e0.hok.fresh (le_of_lt (x.above y c (PySem.mem_of_lookup h)));unfold start;show _=N.length;rw[length_append,length_map,length_replicate];lia
def zmj{K}{dV kV doc pm cdv ct oc}(lk:K.lookup f=Φ ⟨oc,od,.func (fnOf name qual params body scope dV kV doc pm an cdv ct),osl⟩)(hcd:codeIn K cdv qual=Γ)(S:FnScope N ps scope)(len:∀vs H Q E,sp vs H Q E->vs.length=ps.length)(hbody:∀(A:ϔ)(outer:List Env)(s:Β)(H:Hp)(vs:List V)(Q:VK)(E:XK),Room k (A.deeper (envOfC qual scope s.heap.objs.size f cdv))->sp vs H Q E->
   ∃t,PSs (cxOf CX P w K mg base N qual scope f cdv A outer s H E) body t/\t {nx:=λ_ H'=>Q .non H',rt:=Q} (start N vs) H):
  FnOk P w K mg base CX (k+1) f (fnOf name qual params body scope dV kV doc pm an cdv ct) ps sp:=by
 refine⟨len,λA outer s H args us vs Q E hr e0 hb r hsp=>?_⟩;have hl:=len _ _ _ _ hsp;have KX:K.In s.heap:=e0.mod.kin.keeps λb o e=>(e0.bs b o e).1;have lim:s.heap.NoLimit:=e0.mod.nolimit.keeps λb o e=>(e0.bs b o e).1;have hkind:∀y∈ps.zip us,scope.names.lookup y.1=Φ .local\/(scope.names.lookup y.1=Φ .cell/\((cellsFrom (s.heap.objs.size+1) scope.names []).lookup y.1).isSome=Γ):=λ⟨n,v⟩ hy=>by rcases S.par n (of_mem_zip hy).1 with q|q;exact .inl q;exact .inr ⟨q,cellsFrom_some _ _ _ (.inl q)⟩
 refine codeAny_call_function hr.depth (KX _ _ lk) rfl S.co S.gen rfl (PySem.W.codeRec_of KX hcd) (hb _ _ _ _ ?_);refine wpAny_newFunctionEnv_cells S.kind hkind λenv he s1 x=>?_;subst he;refine⟨lim.keeps x.toInCall.keep,codeAny_func ?_⟩;obtain⟨t,ht,hq⟩:=hbody A outer s H vs Q E (hr.deeper _) hsp;have I:Inv (cxOf CX P w K mg base N qual scope f cdv A outer s H E) [] (start N vs) H s1:=zfU S hr.hd e0 hl r x;refine ϑ (ht [] s1 (start N vs) H _ I hq) (λfl s' hs=>?_) λe s' hs=>hs;have fin:∀{σ':St}{H':Hp}{v:V}{u:Θ},Inv (cxOf CX P w K mg base N qual scope f cdv A outer s H E) [] σ' H' s'->RelV v u->Q v H'->CE outer P w H s Q u s':=λ{σ' H' v u} J rv q=>⟨v,H',J.os,J.bare,J.base,J.hok,rv,q⟩;cases fl with| ret u=>obtain⟨v,σ',H',J,rv,q⟩:=hs;exact fin J rv q| next=>obtain⟨σ',H',J,q⟩:=hs;exact fin (v:=V.non) (u:=Θ.none) J rfl q| brk=>obtain⟨_,_,_,q⟩:=hs;exact False.elim q| cont=>obtain⟨_,_,_,q⟩:=hs;exact False.elim q
section
variable{X:Cx}{x:Str}{p pos:Pos}{e:Expr}{es:List Expr}{t:TA}{id T:String}{r:List V->Hp->VK->Prop}
abbrev tCB(r:List V->Hp->VK->Prop)(t:TA):TE:=λσ H Q=>t σ H λvs H1=>r vs H1 Q
def zcG(hc:zbC X (.builtin id) r)(hg:Gl X x)(hm:X.mg x=Ψ)(hv:bootBuiltins x=Φ (.builtin id))(ha:PA X (e::es) t)(hn:x≠"__name__":=by decide)(hdb:(x==("__debug__":Str))=Δ:=by decide)
  (he:starEach (e::es) X.env=(Δ,eval e X.env)::starEach es X.env:=by rfl) (hpl:(backTo pos (starEach es X.env)).any (·.1)=Δ:=by rfl):PE X (.Call (.Name x p) (e::es) [] pos) (tCB r t):=by
 intro pins s σ H Q I h;refine ϕ (zcL I hg hm hv ?_ hn hdb);exact PyProof.Rows.callWith_builtin1 (thn (ha pos pins s σ H _ I h) λus s1 z=>(by obtain⟨vs,H1,I1,r1,q1⟩:=z;exact hc pins s1 σ H1 vs us Q I1 r1 q1)) he hpl
def zcF(hc:zbC X (.type T) r)(hg:Gl X x)(hm:X.mg x=Ψ)(hv:bootBuiltins x=Φ (.type T))(ha:PA X (e::es) t)(hn:x≠"__name__":=by decide)(hdb:(x==("__debug__":Str))=Δ:=by decide)
  (he:starEach (e::es) X.env=(Δ,eval e X.env)::starEach es X.env:=by rfl) (hpl:(backTo pos (starEach es X.env)).any (·.1)=Δ:=by rfl):PE X (.Call (.Name x p) (e::es) [] pos) (tCB r t):=by
 intro pins s σ H Q I h;refine ϕ (zcL I hg hm hv ?_ hn hdb);exact PyProof.Rows.callWith_type1 (thn (ha pos pins s σ H _ I h) λus s1 z=>(by obtain⟨vs,H1,I1,r1,q1⟩:=z;exact hc pins s1 σ H1 vs us Q I1 r1 q1)) he hpl
end
section
variable{κ:Type}[DecidableEq κ]
abbrev valV(kvs:List (κ×V))(k:κ):Option V:=(kvs.find? λkv=>decide (kv.1=k)).map (·.2)
abbrev putK(kvs:List (κ×V))(k:κ)(v:V):List (κ×V):=if(kvs.any λkv=>decide (kv.1=k))=Γ then kvs.map (λkv=>if kv.1=k then(kv.1,v) else kv) else kvs++[(k,v)]
def zeC{k:κ}(e:p.1=k):valV (p::r) k=Φ p.2:=by simp[valV,List.find?_cons,e]
def zeD{k:κ}(e:¬p.1=k):valV (p::r) k=valV r k:=by simp[valV,List.find?_cons,e]
def zg9(k):∀kvs:List (κ×V),(kvs.any λkv=>decide (kv.1=k))=(valV kvs k).isSome
 | []=>rfl| p::r=>by rw[any_cons];by_cases e:p.1=k;simp only[zeC e,decide_eq_true e,Bool.true_or,Option.isSome_some];rw[zeD e,decide_eq_false e,Bool.false_or];exact zg9 k r
def zcp(kvs)(k:κ)(v):(putK kvs k v).length<=kvs.length+1:=by unfold putK;split;rw[length_map];lia;rw[length_append,Χ,Ϥ];lia
def RelO.isSome_eq(r:RelO o u):o.isSome=u.isSome:=by
 cases o with
 |none=>cases u with
  |none=>rfl|some _=>exact(show False from r).elim
 |some _=>cases u with|none=>exact(show False from r).elim|some _=>rfl
def RelO.getD(r:RelO o u)(a:RelV d d'):RelV (o.getD d) (u.getD d'):=by
 cases o with
 |none=>cases u with
  |none=>exact a|some _=>exact(show False from r).elim
 |some _=>cases u with|none=>exact(show False from r).elim|some _=>exact r
def KV.val(r:KV kvs vs)(k:κ):RelO (valV kvs k) (valueAt vs k):=by
 unfold KV at r;induction r with
 |nil=>exact True.intro| @cons p q i a h t f=>
  obtain⟨d,g⟩:=h;by_cases e:p.1=k;have c:q.1=k:=d.symm.trans e;have b:valueAt (q::a) k=Φ q.2:=by simp[valueAt,List.find?_cons,c]
  rw[zeC e,b];exact g;have c:¬q.1=k:=λz=>e (d.trans z);have b:valueAt (q::a) k=valueAt a k:=by simp[valueAt,List.find?_cons,c]
  rw[zeD e,b];exact f
def KV.any(r:KV kvs vs)(k:κ):(kvs.any λa=>decide (a.1=k))=vs.any λa=>decide (a.1=k):=by unfold KV at r;induction r with|nil=>rfl|cons h t b=>rw[any_cons,any_cons,b,h.1]
def KV.repl(r:KV kvs vs)(k:κ)(c:RelV y u):
  KV (kvs.map λa=>if a.1=k then(a.1,y) else a) (vs.map λa=>if a.1=k then(a.1,u) else a):=by
 unfold KV at r⊢;induction r with|nil=>exact .nil| @cons p q g i h t d=>rw[Μ,Μ];refine .cons ?_ d;obtain⟨b,f⟩:=h;by_cases e:p.1=k;rw[if_pos e,if_pos (b.symm.trans e)];exact⟨b,c⟩;rw[if_neg e,if_neg (λz=>e (b.trans z))];exact⟨b,f⟩
def KV.put(r:KV kvs vs)(k:κ)(a:RelV y u):KV (putK kvs k y) (stored vs k u):=by unfold putK stored;rw[r.any k];by_cases e:(vs.any λb=>decide (b.1=k))=Γ;rw[if_pos e,if_pos e];exact r.repl k a;rw[if_neg e,if_neg e];exact Paired.snoc r ⟨rfl,a⟩
def KV.length{vs:List (κ×Θ)}(r:KV kvs vs):kvs.length=vs.length:=Paired.length r
end
def zl8(r:RelV (kV k) u):(zar P w).is k u=Γ:=by cases k with|inl i=>obtain⟨t,e⟩:=(show ∃t,u=Θ.int i t from r);subst e;exact zgF P w i t|inr x=>obtain⟨t,e⟩:=(show ∃t,u=Θ.str x t from r);subst e;exact zgE P w x t
def zfS:∀{ks:List Key}{us:List Θ},Vals (ks.map kV) us->ItemsAre (zar P w) ks us
 | [],_,r=>by rw[map_nil]at r;cases r;exact .nil| k::ks,_,r=>by rw[Μ]at r;cases r with|cons h t=>exact .cons (zl8 h) (zfS t)
@[reducible]def KT(H:Hp):List (List Key×V)->List (List Key×Addr×Θ)->Prop:=Paired λp q=>p.1=q.1/\H q.2.1=Φ (.tup (p.1.map kV))/\RelV p.2 q.2.2
def KT.val(r:KT H kvs xs)(k):RelO (valV kvs k) ((atKey xs k).map (·.2)):=by
 induction r with
 |nil=>exact True.intro| @cons p q i a h t f=>
  obtain⟨d,_,g⟩:=h;by_cases e:p.1=k;have c:q.1=k:=d.symm.trans e;have b:atKey (q::a) k=Φ q.2:=by simp[atKey,List.find?_cons,c]
  rw[zeC e,b];exact g;have c:¬q.1=k:=λz=>e (d.trans z);have b:atKey (q::a) k=atKey a k:=by simp[atKey,List.find?_cons,c]
  rw[zeD e,b];exact f
def KT.repl(r:KT H kvs xs)(k)(d:RelV y u):
  KT H (kvs.map λb=>if b.1=k then(b.1,y) else b) (xs.map (putAt k u)):=by
 induction r with|nil=>exact .nil| @cons p q i j h t f=>rw[Μ,Μ];refine .cons ?_ f;obtain⟨a,c,g⟩:=h;unfold putAt;by_cases e:p.1=k;rw[if_pos e,if_pos (a.symm.trans e)];exact⟨a,c,d⟩;rw[if_neg e,if_neg (λz=>e (a.trans z))];exact⟨a,c,g⟩
def KT.put(r:KT H kvs xs)(k)(hb:H b=Φ (.tup (k.map kV)))(ry:RelV y u):
  KT H (putK kvs k y) (storedH xs k b u):=by
 have e:(kvs.any λkv=>decide (kv.1=k))=(atKey xs k).isSome:=by rw[zg9,(r.val k).isSome_eq,Option.isSome_map]
 unfold putK storedH;rw[e];by_cases q:(atKey xs k).isSome=Γ;rw[if_pos q,if_pos q];exact r.repl k ry;rw[if_neg q,if_neg q];exact Paired.snoc r ⟨rfl,hb,ry⟩
def KT.keeps(r:KT H kvs xs)(a:∀b ys,H b=Φ (.tup ys)->H' b=Φ (.tup ys)):KT H' kvs xs:=Paired.mapP r λ_ _ z=>⟨z.1,a _ _ z.2.1,z.2.2⟩
section
variable{P:ϊ}{w:ύ}{H:Hp}{h:Heap}{a:Addr}
def zqw(ok:HOk P w H h)(e:Rd H a u):ObjOk P w H h a u:=e.ok ok
def zpb(ok:HOk P w H h)(e:Rd H a (.dK kvs)):kvs.length<=sizeLine/\(a==sysModules)=Δ/\∃vs,KV kvs vs/\h.DictOf (zar P w) a vs:=show ObjOk P w H h a (.dK kvs) from zqw ok e
def zrF(ok:HOk P w H h)(e:H a=Φ (.dK kvs)):kvs.length<=sizeLine/\(a==sysModules)=Δ/\∃vs,KV kvs vs/\h.DictOf (zar P w) a vs:=zpb ok (.inl e)
def zfQ(ok:HOk P w H h)(e:H a=Φ (.tup (ks.map kV))):(tupleKind (zar P w)).is h ks a:=by obtain⟨_,its,r,o,h1,h2,n,h3⟩:=(show ObjOk P w H h a (.tup (ks.map kV)) from ok a _ e);exact⟨o,its.toArray,n,h1,h2,h3,by simpa using zfS r⟩
def zpa(ok:HOk P w H h)(e:Rd H a (.dT kvs)):kvs.length<=sizeLine/\(a==sysModules)=Δ/\
  ∃xs,KT H kvs xs/\h.DictOfH (tupleKind (zar P w)) a xs:=by
 obtain⟨z,y,xs,r,o,es,ep,h1,h2,h3,h4,h5⟩:=(show ObjOk P w H h a (.dT kvs) from zqw ok e);refine⟨z,y,xs,r,o,es,ep,h1,h2,h3,h4,λx hx=>?_,h5⟩;have all:∀{l:List (List Key×V)}{m:List (List Key×Addr×Θ)},KT H l m->∀x∈m,(tupleKind (zar P w)).is h x.1 x.2.1:=by
  intro l m q;induction q with
  |nil=>intro x hx;exact by cases hx
  | @cons p q ps qs hq t ih=>intro x hx;rcases mem_cons.mp hx with e|hx;subst e;exact zfQ ok (by rw[<-hq.1];exact hq.2.1);exact ih x hx
 exact all r x hx
def zs1(ok:HOk P w H h)(e:H a=Φ (.dT kvs)):kvs.length<=sizeLine/\(a==sysModules)=Δ/\
 ∃xs,KT H kvs xs/\h.DictOfH (tupleKind (zar P w)) a xs:=zpa ok (.inl e)
end
abbrev DGet(H:Hp)(a:Addr)(y:V)(r:Option V):Prop:=(∃kvs k,Rd H a (.dK kvs)/\y=kV k/\r=valV kvs k)\/∃kvs k b,Rd H a (.dT kvs)/\y=.ref b/\H b=Φ (.tup (k.map kV))/\r=valV kvs k
abbrev DPut(H:Hp)(a:Addr)(y v:V)(H':Hp):Prop:=
 (∃kvs k,H a=Φ (.dK kvs)/\y=kV k/\kvs.length<sizeLine/\H'=upd H a (.dK (putK kvs k v)))\/
 ∃kvs k b,H a=Φ (.dT kvs)/\y=.ref b/\H b=Φ (.tup (k.map kV))/\kvs.length<sizeLine/\H'=upd H a (.dT (putK kvs k v))
def DGet.k{k}(e:H a=Φ (.dK kvs)):DGet H a (kV k) (valV kvs k):=.inl ⟨kvs,k,.inl e,rfl,rfl⟩
def DPut.k{k}(e:H a=Φ (.dK kvs))(b:kvs.length<sizeLine):DPut H a (kV k) v (upd H a (.dK (putK kvs k v))):=.inl ⟨kvs,k,e,rfl,b,rfl⟩
section
variable{X:Cx}{pins:List (Addr×Obj)}{σ:St}{H:Hp}{s:Β}{a:Addr}{y v:V}{u r:Θ}{o:Option V}{A:ϔ}{E:Θ->Β->Prop}
def Inv.big(I:Inv X pins σ H s):sysModules<s.heap.objs.size:=by have h:mainGlobals<s.heap.objs.size:=(I.mod.glob.keeps I.bk).lt;exact lt_trans (by decide) h
def zgU(I:Inv X pins σ H s)(mu:Mut (H a))(hs:Heap.SameBut a s.heap h')(he:∃q,h'.get? a=Φ q)(new:ObjOk X.prog X.w (upd H a ob) h' a ob):
  Inv X pins σ (upd H a ob) {s with heap:=h',toks:=t'}:=
 I.write (x:=a) (e:=a) mu (.inl rfl) (λb q hb z=>(hs.2 b hb).trans z) he new
def znb(z:kvs.length<=sizeLine)(hd:(a==sysModules)=Δ)(rel:KV kvs vs)(dd:h'.DictOf (zar P w) a vs):
 ObjOk P w H' h' a (.dK kvs):=⟨z,hd,vs,rel,dd⟩
def zkO(hu:A.units+1<cLine)(I:Inv X pins σ H s)(g:DPut H a y v H')(ry:RelV y u)(rv:RelV v r)(h:∀s',Inv X pins σ H' s'->Q () s'):
  wpAny (model X.prog X.w) A (setItem (.ref a) u r) Q E s:=by
 rcases g with⟨kvs,k,e,ey,l,eH⟩|⟨kvs,k,b,e,ey,eb,l,eH⟩
 . subst ey eH;obtain⟨z,hd,vs,rel,dd⟩:=zrF I.hok e;have hz:vs.length<=sizeLine:=by rw[<-rel.length];exact z
   have hl:(putK kvs k v).length<=sizeLine:=by have:=zcp kvs k v;lia
   refine wpAny_setItem_pairs (hsz:=hz) (zl8 ry) dd λh' dd' hs=>h _ ?_;have he:∃q,h'.get? a=Φ q:=let ⟨q,_,_,hq,_⟩:=dd';⟨q,hq⟩;exact zgU I (by rw[e];exact True.intro) hs he (znb hl hd (rel.put k rv) dd')
 subst ey eH;cases(show u=Θ.ref b from ry);obtain⟨z,hd,xs,rel,dd⟩:=zs1 I.hok e;have hz:xs.length<=sizeLine:=by rw[<-Paired.length rel];exact z
 have hl:(putK kvs k v).length<=sizeLine:=by have:=zcp kvs k v;lia
 refine wpAny_setItem_heap (hsz:=hz) (tupleKind_room_in1 hu) (zfQ I.hok eb) dd λh' dd' hs=>h _ ?_;obtain⟨q,es,ep,hq,h2,h3,h4,_,h5⟩:=dd';refine zgU I (by rw[e];exact True.intro) hs ⟨q,hq⟩ ⟨hl,hd,_,(rel.put k eb rv).keeps λc ys ec=>?_,q,es,ep,hq,h2,h3,h4,h5⟩;rw[zah (ne_of ec e (λz=>by cases z))];exact ec
end
abbrev zqr(td ty tv:TE):TS:=λD σ H=>tv σ H λv H1=>td σ H1 λx H2=>ty σ H2 λy H3=>∃a H4,x=.ref a/\DPut H3 a y v H4/\D.nx σ H4
section
variable{X:Cx}{o i e value:Expr}{pos pos' tpos:Pos}{td ty tv:TE}
def zok(hu:X.A.units+1<cLine)(ho:PE X o td)(hi:PE X i ty)(hv:PE X value tv)(hs:swapsWith value (Φ (.Subscript o i pos')) pos.line X.env=pure Δ) :
  PS X (.Assign [.Subscript o i pos'] value pos) (zqr td ty tv):=by
 intro pins s σ H D I h;refine wpAny_Assign_Subscript (thn (hv pins s σ H _ I h) λr s1 z=>eY z λv H1 I1 rv q1=>thn (ho pins s1 σ H1 _ I1 q1) λu s2 z=>eY z λx H2 I2 rx q2=>thn (hi pins s2 σ H2 _ I2 q2) λiv s3 z=>?_) hs;obtain⟨y,H3,I3,ry,a,H4,ex,g,q3⟩:=z;subst ex;obtain rfl:u=Θ.ref a:=rx;exact zkO hu I3 g ry rv λs4 I4=>⟨σ,H4,I4,q3⟩
end
def zmm(h:Heap)(hb:sysModules<h.objs.size):ObjOk P w H (h.push {cls:=.type "dict",data:=.dict #[]}) h.objs.size (.dK []):=⟨zero_le _,beq_eq_false_iff_ne.mpr (Ne.symm (ne_of_lt hb)),[],.nil,Heap.DictOf.new h⟩
abbrev zjg:TE:=λ_ H Q=>∀p,H p=Ψ->Q (.ref p) (upd H p (.dK []))
section
variable{X:Cx}{pos:Pos}
def zhv:PE X (.Dict [] [] pos) zjg:=λpins s σ H Q I h=>wpAny_Dict_empty ⟨.ref s.heap.objs.size,_,I.laid (a:=s.heap.objs.size) (o:=.dK []) (t':=s.toks) (λ_ _ q=>Λ _ q) (le_refl _) (zmm s.heap I.big),rfl,h _ (I.hok.fresh (le_refl _))⟩
end
structure M1(X:Cx)(o:Expr)(m:Str)(apos:Pos)(e:Expr)(cpos:Pos):Prop where
 base:attributeBase o m X.env (eval o X.env)=eval o X.env
 few:((backTo cpos (starEach [e] X.env)).all (λx=>!x.1)&&(backToKw cpos (keywordEach [] X.env)).all (λx=>x.1.isSome)
  && decide (([e]:List Expr).length+([]:List Keyword).length+(if([]:List Keyword).isEmpty then 0 else 1)<30))=Γ
 line:(apos.endLine==cpos.line)=Γ
 trees:backTo cpos (starEach [e] X.env)=[(Δ,eval e X.env)]
structure M2(X:Cx)(o:Expr)(m:Str)(apos:Pos)(e f:Expr)(cpos:Pos):Prop where
 base:attributeBase o m X.env (eval o X.env)=eval o X.env
 few:((backTo cpos (starEach [e,f] X.env)).all (λx=>!x.1)&&(backToKw cpos (keywordEach [] X.env)).all (λx=>x.1.isSome)
  && decide (([e,f]:List Expr).length+([]:List Keyword).length+(if([]:List Keyword).isEmpty then 0 else 1)<30))=Γ
 line:(apos.endLine==cpos.line)=Γ
 trees:backTo cpos (starEach [e,f] X.env)=[(Δ,eval e X.env),(Δ,eval f X.env)]
abbrev IsD(H:Hp)(a:Addr):Prop:=(∃kvs,Rd H a (.dK kvs))\/∃kvs,Rd H a (.dT kvs)
def zkp(I:Inv X pins σ H s)(d:IsD H a):
  s.TypeIs (.ref a) "dict"/\(∀b,Θ.ref a=.ref b->∃ob,s.heap.get? b=Φ ob/\ob.dict=Ψ)/\(a==sysModules)=Δ:=by
 rcases d with⟨kvs,e⟩|⟨kvs,e⟩;obtain⟨_,hd,vs,_,dd⟩:=zpb I.hok e;refine⟨dd.typeIs,λb q=>?_,hd⟩;cases q;obtain⟨ob,_,_,h1,h2,_⟩:=dd;exact⟨ob,h1,h2.2.1⟩;obtain⟨_,hd,xs,_,dd⟩:=zpa I.hok e;refine⟨dd.typeIs,λb q=>?_,hd⟩;cases q;obtain⟨ob,_,_,h1,h2,_⟩:=dd;exact⟨ob,h1,h2.2.1⟩
section
variable{X:Cx}{pins:List (Addr×Obj)}{σ:St}{H:Hp}{s:Β}{a:Addr}{y d:V}{u r:Θ}{o:Option V}{A:ϔ}{E:Θ->Β->Prop}
def zrH(hu:A.units+1<cLine)(I:Inv X pins σ H s)(g:DGet H a y o)(ry:RelV y u)(rd:RelV d r)(h:∀w' s',Inv X pins σ H s'->RelV (o.getD d) w'->Q w' s'):
  wpAny (model X.prog X.w) A (call (.builtin "dict.get") [.ref a,u,r]) Q E s:=by
 rcases g with⟨kvs,k,e,ey,l⟩|⟨kvs,k,b,e,ey,eb,l⟩;subst ey;obtain⟨z,hd,vs,rel,dd⟩:=zpb I.hok e;refine call_meetsIn PySem.F.slot_dict_get dd.typeIs PySem.F.entry_dict_get (PySem.F.args_dict_get_3 _ _ _) (meets_dict_get_default (zar X.prog X.w) a (zl8 ry) hd r) ⟨_,dd.mapOf,h _ _ (I.tok _) ?_⟩;rw[l];exact(rel.val k).getD rd;subst ey;cases(show u=Θ.ref b from ry);obtain⟨z,hd,xs,rel,dd⟩:=zpa I.hok e;refine call_meetsIn PySem.F.slot_dict_get dd.typeIs PySem.F.entry_dict_get (PySem.F.args_dict_get_3 _ _ _) (meetsH_dict_get_default (tupleKind (zar X.prog X.w)) a b hd r) ⟨tupleKind_room_in1 hu,k,xs,zfQ I.hok eb,dd,h _ _ (I.tok _) ?_⟩;rw[l];exact(rel.val k).getD rd
end
abbrev zmF(td ty tx:TE):TE:=λσ H Q=>td σ H λx H1=>∃a,x=.ref a/\IsD H1 a/\ty σ H1 λy H2=>tx σ H2 λz H3=>∃o,DGet H3 a y o/\Q (o.getD z) H3
section
variable{X:Cx}{o e f:Expr}{apos cpos:Pos}{td ty tx:TE}
def zhw(hu:X.A.units+1<cLine)(ho:PE X o td)(he:PE X e ty)(hf:PE X f tx)(m:M2 X o "get" apos e f cpos):PE X (.Call (.Attribute o "get" apos) [e,f] [] cpos) (zmF td ty tx):=by intro pins s σ H Q I h;refine wpAny_Call_method m.base m.few m.line PySem.F.plainAttrs_dict PySem.F.slot_dict_get PySem.F.type_dict_get (thn (ho pins s σ H _ I h) λu s1 k=>?_);obtain⟨x,H1,I1,rx,a,ex,d,q1⟩:=k;subst ex;obtain rfl:u=Θ.ref a:=rx;obtain⟨t1,t2,_⟩:=zkp I1 d;refine⟨t1,t2,?_⟩;rw[m.trees];refine Calls.callWith_builtin rfl (Calls.evalArgs_plain (Calls.spliced_cons (thn (he pins s1 σ H1 _ I1 q1) λiv s2 z=>eY z λy H2 I2 ry q2=>Calls.spliced_cons (thn (hf pins s2 σ H2 _ I2 q2) λfv s3 ⟨z,H3,I3,rz,ov,g,q3⟩=>Calls.spliced_nil ?_))));exact zrH hu I3 g ry rz λw' s4 I4 rw'=>⟨_,H3,I4,rw',q3⟩
end
end L2
namespace HT
open PySem PyProof.Rows
abbrev lexLt:List Int->List Int->Bool
 | [],[]=>Δ| [],_::_=>Γ|_::_,[]=>Δ|x::xs,y::ys=>if x=y then lexLt xs ys else decide (x<y)
def ziD(x y)(xs ys):lexLt (x::xs) (y::ys)=if x=y then lexLt xs ys else decide (x<y):=rfl
def ze9:lexLt [] []=Δ:=rfl
def zeb(y)(ys):lexLt [] (y::ys)=Γ:=rfl
def zec(x)(xs):lexLt (x::xs) []=Δ:=rfl
def zmk(A)(s)(a)(t)(c)(u):∃e,SeqAt.EqAt A s (.int a t) (.int c u) e/\(e=Γ↔a=c):=⟨(a==c),SeqAt.EqAt.int_int a t c u,by simp⟩
def zlx(A)(s)(a)(t)(c)(u)(prog)(w)(E)(Q)(h:Q (.bool (decide (a<c))) s):
  wpAny (model prog w) A (richCompare .Lt (.int a t) (.int c u)) Q E s:=
 (PyProof.Rows.lt_int h:wpAny (model prog w) A (compareOp .Lt (.int a t) (.int c u)) Q E s)
section
open PySem.SeqAt
open PySem.AutoSeq1 (wpAny_loadPart')
open PySem.MeetsSeq PySem.MeetsSeq2 PySem.MeetsSeq3
def zeF(l b)(items items2)(n n2)(dd dd2)(sl sl2)(ns ms)(hi:IntsAre items.toList ns)(hj:IntsAre items2.toList ms):
  Meets (Builtin.«tuple.__lt__» ⟨[.ref l,.ref b],[]⟩)
   (λ_ R s=>s.heap.get? l=Φ {cls:=.type "tuple",dict:=dd,data:=.seq items n,slots:=sl}/\s.heap.get? b=Φ {cls:=.type "tuple",dict:=dd2,data:=.seq items2 n2,slots:=sl2}/\
    R (.ok (.ret (.bool (lexLt ns ms)))) s):=
 .of_wp λprog w A R s h=>by
  obtain⟨hp,g,d,tk,os⟩:=s;obtain⟨hl,hb,h⟩:=h;have f2:=AutoSeq1.sub_tuple_tuple;have z1:items.size=ns.length:=by rw[<-hi.length];simp
  have z2:items2.size=ms.length:=by rw[<-hj.length];simp
  wp_walk using wpAny_loadPart' hl,wpAny_loadPart' hb,wpAny_forIn_list _ (λrest b s'=>b.1=Ψ/\s'=⟨hp,g,d,tk,os⟩/\∃(vs ws:List Θ) (ns' ms':List Int),rest=vs.zip ws/\
   IntsAre vs ns'/\IntsAre ws ms'/\ns'.length+items2.size=ms'.length+items.size/\R (.ok (.ret (.bool (lexLt ns' ms')))) ⟨hp,g,d,tk,os⟩) _
  case turn=>
   rintro⟨y,x⟩ rest b s' ⟨hb',rfl,vs,ws,ns',ms',hz,hvi,hwi,hlen,hR⟩;cases hvi with
   |nil=>rw[List.zip_nil_left]at hz;cases hz
   |cons a t hvi'=>
    cases hwi with
    |nil=>rw[List.zip_nil_right]at hz;cases hz
    |cons c u hwi'=>
     rw[ϐ]at hz;injection hz with hyx hrest;injection hyx with hy hx;subst hy hx;rw[ziD]at hR;simp only[Χ]at hlen;obtain⟨e,he,hiff⟩:=zmk A.in1 ⟨hp,g,d,tk,os⟩ a t c u;refine Α (he prog w _ _ ?_);cases e with
     |true=>
      rw[if_pos (hiff.mp rfl)]at hR
      wp_walk
      exact⟨rfl,rfl,_,_,_,_,hrest,hvi',hwi',by lia,hR⟩
     |false=>
      rw[if_neg (λq=>absurd (hiff.mpr q) Ζ)]at hR;have hri:=zlx A.in1 ⟨hp,g,d,tk,os⟩ a t c u prog w
      wp_walk using hri
      exact⟨_,rfl,by simpa using hR⟩
  case fin=>
   rintro⟨b1,b2⟩ s' ⟨hb',rfl,vs,ws,ns',ms',hz,hvi,hwi,hlen,hR⟩;simp only at hb';subst hb';have hv:lexLt ns' ms'=decide (items.size<items2.size):=by
    cases hvi with
    |nil=>cases hwi with| nil=>simp only[Ϥ]at hlen;rw[ze9];exact(decide_eq_false (by lia)).symm| cons c u hw=>simp only[Ϥ,Χ]at hlen;rw[zeb];exact(decide_eq_true (by lia)).symm
    |cons a t hv=>cases hwi with| nil=>simp only[Ϥ,Χ]at hlen;rw[zec];exact(decide_eq_false (by lia)).symm| cons c u hw=>rw[ϐ]at hz;cases hz
   rw[hv]at hR
   wp_walk
   exact⟨_,rfl,by simpa[Builtin.Tuple.tupleCompareSizes]using hR⟩
  case h=>exact⟨rfl,rfl,items.toList,items2.toList,ns,ms,rfl,hi,hj,by lia,h⟩
end
section
variable{prog:ϊ}{w:ύ}{A:ϔ}{E:Θ->Β->Prop}{s:Β}
def lt_tupInts(hl:IsTup s.heap l items)(hb:IsTup s.heap b items2)(hi:IntsAre items.toList ns)(hj:IntsAre items2.toList ms)(hu:A.units<cLine)(h:Q (.bool (lexLt ns ms)) s):wpAny (model prog w) A (compareOp .Lt (.ref l) (.ref b)) Q E s:=by
 obtain⟨⟨cls,dd,data,sl⟩,ho,hc,n,hd⟩:=id hl;obtain⟨⟨cls2,dd2,data2,sl2⟩,ho2,hc2,n2,hd2⟩:=id hb;simp only at hc hd hc2 hd2;subst hc hd hc2 hd2;exact richCompare_meets_room (op:=.Lt) ⟨_,ho,rfl⟩ ⟨_,ho2,rfl⟩ PySem.F.slot_tuple_lt PySem.F.entry_tuple_lt (PySem.F.args_tuple_lt_2 _ _) (zeF l b items items2 n n2 dd dd2 sl sl2 ns ms hi hj)
  ⟨ho,ho2,show Θ.bool (lexLt ns ms)≠Θ.notImplemented/\Q (.bool (lexLt ns ms)) s from⟨(λx=>by cases x),h⟩⟩ hu
def cat_tup(u:IsTup s.heap t vs.toArray)(v:IsTup s.heap b a.toArray)(k:vs≠[])(x:a=[]->Q (.ref t) s)(y:a≠[]->Q (.ref s.heap.objs.size) {s with heap:=s.heap.push {cls:=.type "tuple",data:=.seq (vs++a).toArray}})(hsz:vs.length+a.length<=sizeLine):wpAny (model prog w) A (binaryOp .Add (.ref t) (.ref b)) Q E s:=by
 obtain⟨⟨cls,l,data,m⟩,i,o,n,p⟩:=id u;obtain⟨⟨q,d,data2,f⟩,c,g,r,h⟩:=id v;simp only at o p g h;subst o p g h;have e:vs.toArray++a.toArray=(vs++a).toArray:=by simp
 by_cases j:a=[]
 exact concat_meets ⟨_,i,rfl⟩ ⟨_,c,rfl⟩ noFill_tuple_add seq_tuple_add PySem.F.slot_tuple_add PySem.F.entry_tuple_add (PySem.F.args_tuple_add_2 _ _)
  (tuple_addW1 t b vs.toArray a.toArray n r l d m f (by simpa using k) (by simp[j])) ⟨i,c,x j⟩
 refine concat_meets ⟨_,i,rfl⟩ ⟨_,c,rfl⟩ noFill_tuple_add seq_tuple_add PySem.F.slot_tuple_add PySem.F.entry_tuple_add (PySem.F.args_tuple_add_2 _ _)
  (tuple_addW2 t b vs.toArray a.toArray n r l d m f (by simpa using k) (by simpa using j) (by rw[size_toArray,size_toArray];exact hsz)) ⟨i,c,?_⟩
 rw[e];exact y j
abbrev sIx(n d:Nat):Option Int->Nat
 |none=>d|some v=>if v<0 then(v+(n:Int)).toNat else min v.toNat n
def sIx_none(n d):sIx n d Ψ=d:=rfl
def sIx_nat(n d k:Nat):sIx n d (Φ (k:Int))=min k n:=by show(if(k:Int)<0 then((k:Int)+(n:Int)).toNat else min (k:Int).toNat n)=min k n;rw[if_neg (by lia),Int.toNat_natCast]
def zqq(n d)(hd:d<=n)(o):sIx n d o<=n:=by cases o with|none=>exact hd| some v=>show(if v<0 then(v+(n:Int)).toNat else min v.toNat n)<=n;by_cases hv:v<0;rw[if_pos hv];lia;rw[if_neg hv];exact Nat.min_le_right _ _
def zkQ(v)(n d:Nat):(if v<0 then max (v+(n:Int)) 0 else min v (n:Int))=((sIx n d (Φ v):Nat):Int):=by show(if v<0 then max (v+(n:Int)) 0 else min v (n:Int))=(((if v<0 then(v+(n:Int)).toNat else min v.toNat n):Nat):Int);by_cases hv:v<0;simp only[if_pos hv];lia;simp only[if_neg hv];lia
def ziV(lo hi)(n:Nat):Builtin.Slice.sliceAdjust lo hi 1 (n:Int)=(((sIx n 0 lo:Nat):Int),((sIx n n hi:Nat):Int)):=by
 have h1:¬((1:Int)<0):=by lia
 unfold Builtin.Slice.sliceAdjust;simp only[h1,if_false];refine Prod.ext ?_ ?_;cases lo with|none=>rfl|some v=>exact zkQ v n 0
 cases hi with|none=>rfl|some v=>exact zkQ v n n
def ziq(i j:Nat):Builtin.Slice.slicePlaces (i:Int) (j:Int) 1=j-i:=by
 unfold Builtin.Slice.slicePlaces;have h1:(1:Int)>0:=by lia
 simp only[h1,if_true,Int.ediv_one];split<;>lia
def zei(p:IsPart v o)(h:Q o s):wpAny (model prog w) A (Builtin.Slice.slicePartIndex v) Q E s:=by cases p with|none=>exact slicePart_none h|int i t=>exact slicePart_int h
def zdi{lo hi}{Q:Int×Int×Nat->Β->Prop}(hs:s.heap.IsSliceOf sl vl vu .none)(pl:IsPart vl lo)(pu:IsPart vu hi)(h:Q (((sIx n 0 lo:Nat):Int),1,sIx n n hi-sIx n 0 lo) s):wpAny (model prog w) A (Builtin.Slice.sliceApplied (.ref sl) (pure (n:Int))) Q E s:=by
 obtain⟨os,hos,hcs,hds⟩:=id hs;unfold Builtin.Slice.sliceApplied Builtin.Slice.sliceFields;refine Α (Α (wpAny_field hos hds (x:=vl) rfl (Α (wpAny_field hos hds (x:=vu) rfl (Α (wpAny_field hos hds (x:=.none) rfl (Ν ?_)))))));refine Α (slicePart_none ?_);show wpAny _ _ (if((1:Int)==0)=Γ then _ else _) _ _ s;rw[if_neg (by decide)];refine Α (zei pl (Α (zei pu (Α (Ν ?_)))));show wpAny _ _ (match Builtin.Slice.sliceAdjust lo hi 1 (n:Int) with|(lo,hi)=>pure (lo,(1:Int),Builtin.Slice.slicePlaces lo hi 1)) _ _ s;rw[ziV lo hi n];show wpAny _ _ (pure (((sIx n 0 lo:Nat):Int),(1:Int),Builtin.Slice.slicePlaces ((sIx n 0 lo:Nat):Int) ((sIx n n hi:Nat):Int) 1)) _ _ s;rw[ziq];exact Ν h
def zlE(xs:Array Θ)(i k:Nat):((List.range k).filterMap λ(m:Nat)=>xs[((i:Int)+(m:Int)*1).toNat]?).toArray=((xs.toList.drop i).take k).toArray:=by
 have e:(λ(m:Nat)=>xs[((i:Int)+(m:Int)*1).toNat]?)=λm=>xs[i+m]?:=by
  funext m;have:((i:Int)+(m:Int)*1).toNat=i+m:=by lia
  rw[this]
 rw[e];have:=pick_run xs i k;rw[List.filterMap_map]at this;have e2:((λx=>xs[x]?)∘λx=>i+x)=λm=>xs[i+m]?:=rfl;rw[e2]at this;rw[this]
def getItem_tuple_cut{lo hi}(ht:IsTup s.heap t items)(hs:s.heap.IsSliceOf sl vl vu .none)(pl:IsPart vl lo)(pu:IsPart vu hi)(hw:¬(sIx items.size 0 lo=0/\sIx items.size items.size hi=items.size))(h:Q (.ref s.heap.objs.size) {s with heap:=s.heap.push {cls:=.type "tuple",data:=.seq ((items.toList.drop (sIx items.size 0 lo)).take (sIx items.size items.size hi-sIx items.size 0 lo)).toArray}})(hsz:items.size<=sizeLine):wpAny (model prog w) A (getItem (.ref t) (.ref sl)) Q E s:=by
 have htake:sizeOk (.seq ((items.toList.drop (sIx items.size 0 lo)).take (sIx items.size items.size hi-sIx items.size 0 lo)).toArray):=by show((items.toList.drop (sIx items.size 0 lo)).take (sIx items.size items.size hi-sIx items.size 0 lo)).toArray.size<=sizeLine;rw[size_toArray,length_take,List.length_drop,length_toList];omega
 have hj:sIx items.size items.size hi<=items.size:=zqq _ _ (le_refl _) hi;obtain⟨os,hos,hcs,hds⟩:=id hs;have hTs:s.TypeIs (.ref sl) "slice":=⟨os,hos,hcs⟩;unfold getItem
 try with_reducible refine wpAny_holding ?_
 first|refine Α (Ν ?_)|skip
 refine Α (wpAny_sequenceKey ht.typeIs (by decide) ?_);refine Α (wpAny_callSpecial?_slot (name:=Str.ofString "__getitem__") ht.typeIs PyProof.Rows.slot_tuple_getitem
  (wpAny_call_entry PyProof.Rows.slot_tuple_getitem ht.typeIs entry_tuple_getitem ?_ (args_tuple_getitem _ _)))
 show wpAny _ _ (Builtin.Tuple.tupleItemsOf (.ref t)>>=_) _ _ s;refine Α (tupleItemsOf_ ht ?_);refine Α (wpAny_typeOf hTs ?_);rw[if_pos (by decide)];refine Α (zdi hs pl pu ?_);have hno:¬((((sIx items.size 0 lo:Nat):Int)==0&&(1:Int)==1&&(sIx items.size items.size hi-sIx items.size 0 lo)==items.size)=Γ):=by intro q;rw[Ξ,Ξ]at q;have q1:((sIx items.size 0 lo:Nat):Int)=0:=eq_of_beq q.1.1;have q2:sIx items.size items.size hi-sIx items.size 0 lo=items.size:=eq_of_beq q.2;exact hw ⟨by omega,by omega⟩
 show wpAny _ _ (if(((sIx items.size 0 lo:Nat):Int)==0&&(1:Int)==1&&(sIx items.size items.size hi-sIx items.size 0 lo)==items.size)=Γ then _ else _) _ _ s;rw[if_neg hno,zlE]
 first
  |exact Α (m:=Builtin.Tuple.tupleExact _) (wpAny_newObj_type (Ν ⟨_,rfl,Ν h⟩) htake)
  |exact Α (m:=Builtin.Tuple.tupleExact _) (wpAny_newObj_type (Α (Ν (Ν ⟨_,rfl,Ν h⟩))) htake)
  |exact Α (Α (m:=Builtin.Tuple.tupleExact _) (wpAny_newObj_type (Ν (Ν ⟨_,rfl,Ν h⟩)) htake))
  |exact Α (Α (m:=Builtin.Tuple.tupleExact _) (wpAny_newObj_type (Ν ⟨_,rfl,Ν h⟩) htake))
end
end HT
namespace L2
open PySem PySem.Spec PyProof.Rows
@[reducible]def TO:=St->Hp->(Option Int->Hp->Prop)->Prop
abbrev PO(X:Cx)(e:Option Expr)(t:TO):Prop:=
 ∀(pins:List (Addr×Obj))(s:Β)(σ:St)(H:Hp)(Q:Option Int->Hp->Prop),Inv X pins σ H s->t σ H Q->
  wpAny (model X.prog X.w) X.A (evalPart e X.env) (λu s'=>∃o H',Inv X pins σ H' s'/\IsPart u o/\Q o H') X.xe s
abbrev znv:TO:=λ_ H Q=>Q Ψ H
abbrev zsb(t:TE):TO:=λσ H Q=>t σ H λx H1=>∃i,x=.int i/\Q (Φ i) H1
def ziH:∀{us:List Θ},Vals (ns.map V.int) us->IntsAre us ns:=by induction ns with|nil=>intro us r;rw[map_nil]at r;cases r;exact .nil| cons n ns ih=>intro us r;rw[Μ]at r;cases r with| cons r1 r2=>obtain⟨t,e⟩:=r1;subst e;exact .cons n t (ih r2)
section
variable{X:Cx}{e:Expr}{te:TE}{lo hi:Option Expr}{tl th:TO}{pos p2:Pos}
def zoo:PO X Ψ znv:=by intro pins s σ H Q I h;rw[evalPart_none];exact Ν ⟨Ψ,H,I,.none,h⟩
def zgA(h:PE X e te):PO X (Φ e) (zsb te):=by intro pins s σ H Q I hw;rw[evalPart_some];refine thn (h pins s σ H _ I hw) λu s1 z=>?_;obtain⟨x,H1,I1,r1,q1⟩:=z;obtain⟨i,rfl,q⟩:=q1;obtain⟨t,rfl⟩:=r1;exact⟨Φ i,H1,I1,.int i t,q⟩
abbrev SlR(X:Cx)(r:V->Option Int->Option Int->Hp->VK->Prop):Prop:=
 ∀(pins:List (Addr×Obj))(s:Β)(σ:St)(H:Hp)(x:V)(v vl vu:Θ)(lo hi:Option Int)(sl:Addr)(Q:VK),Inv X pins σ H s->RelV x v->s.heap.IsSliceOf sl vl vu .none->IsPart vl lo->IsPart vu hi->r x lo hi H Q->
  ∃T id,typeLookup (.type T) "__getitem__"=pure (Φ (.builtin id))/\s.TypeIs v T/\wpAny (model X.prog X.w) X.A (getItem v (.ref sl)) (EP X pins σ Q) X.xe s
abbrev tSl(r:V->Option Int->Option Int->Hp->VK->Prop)(te:TE)(tl th:TO):TE:=λσ H Q=>te σ H λx H1=>tl σ H1 λl H2=>th σ H2 λu H3=>r x l u H3 Q
def zhu(hr:SlR X r)(he:PE X e te)(hl:PO X lo tl)(hu:PO X hi th):PE X (.Subscript e (.Slice lo hi Ψ p2) pos) (tSl r te tl th):=by intro pins s σ H Q I h;refine Subscript_ (thn (he pins s σ H _ I h) λv s1 z=>?_);obtain⟨x,H1,I1,r1,q1⟩:=z;refine wpAny_Slice (thn (hl pins s1 σ H1 _ I1 q1) λvl s2 z=>eY z λl H2 I2 pl q2=>thn (hu pins s2 σ H2 _ I2 q2) λvu s3 z=>?_);obtain⟨u,H3,I3,pu,q3⟩:=z;rw[evalPart_none];refine Ν ?_;have I4:Inv X pins σ H3 {s3 with heap:=s3.heap.push {cls:=.type "slice",data:=.fields #[vl,vu,.none]}}:=I3.kept (t':=s3.toks) λb ob q=>Λ _ q;obtain⟨T,id,hT,ht,hg⟩:=hr pins {s3 with heap:=s3.heap.push {cls:=.type "slice",data:=.fields #[vl,vu,.none]}} σ H3 x v vl vu l u s3.heap.objs.size Q I4 r1 (Heap.IsSliceOf.new ..) pl pu q3;show wpAny (model X.prog X.w) X.A (subscriptTail e (.Slice lo hi Ψ p2) v (.ref s3.heap.objs.size)) (EP X pins σ Q) X.xe {s3 with heap:=s3.heap.push {cls:=.type "slice",data:=.fields #[vl,vu,.none]}};exact tail_any (ops:=[.ref s3.heap.objs.size,v]) ht hT hg (by with_unfolding_all rfl)
abbrev cutV(xs:List V)(lo hi:Option Int):List V:=(xs.drop (HT.sIx xs.length 0 lo)).take (HT.sIx xs.length xs.length hi-HT.sIx xs.length 0 lo)
def zgV(xs)(lo hi):(cutV xs lo hi).length<=xs.length:=by unfold cutV;rw[length_take,List.length_drop];lia
abbrev rSlT(K:Frag):V->Option Int->Option Int->Hp->VK->Prop:=λx lo hi H Q=>∃a xs,x=.ref a/\SqT K H a xs/\
 ¬(HT.sIx xs.length 0 lo=0/\HT.sIx xs.length xs.length hi=xs.length)/\∀p,H p=Ψ->Q (.ref p) (upd H p (.tup (cutV xs lo hi)))
def zmK:SlR X (rSlT X.K):=by
 intro pins s σ H x v vl vu lo hi sl Q I rx hs pl pu h;obtain⟨a,xs,rfl,hx,hw,q⟩:=h;cases rx;obtain⟨its,r,ht,hz⟩:=I.tuple hx;have hlen:its.toArray.size=xs.length:=by rw[size_toArray];exact r.length.symm
 refine⟨"tuple",_,PyProof.Rows.slot_tuple_getitem.lookup,ht.typeIs,?_⟩;refine HT.getItem_tuple_cut ht hs pl pu (by rw[hlen];exact hw) ?_ (by rw[hlen];exact hz);rw[hlen];refine⟨.ref s.heap.objs.size,_,I.laid (t':=s.toks) (o:=.tup (cutV xs lo hi)) (λb ob q=>Λ _ q) (le_refl _) ?_,rfl,q _ (I.hok.fresh (le_refl _))⟩;exact⟨le_trans (zgV xs lo hi) hz,_,(r.drop (HT.sIx xs.length 0 lo)).take (HT.sIx xs.length xs.length hi-HT.sIx xs.length 0 lo),IsTup.new _ _⟩
abbrev zst(K:Frag):R2:=λx y H Q=>∃a b xs ys,x=.ref a/\y=.ref b/\SqT K H a xs/\SqT K H b ys/\xs≠[]/\xs.length+ys.length<=sizeLine/\
 (ys=[]->Q (.ref a) H)/\(ys≠[]->∀p,H p=Ψ->Q (.ref p) (upd H p (.tup (xs++ys))))
def Vals.nil_iff(r:Vals xs us):us=[]↔xs=[]:=by cases r with|nil=>simp|cons _ _=>simp
def zoD:OpR X (binaryOp .Add) (zst X.K):=by intro pins s σ H x y v u Q I rx ry h;obtain⟨a,b,xs,ys,rfl,rfl,ha,hb,hx,hz,q1,q2⟩:=h;cases rx;cases ry;obtain⟨its,r1,p1,_⟩:=I.tuple ha;obtain⟨its2,r2,p2,_⟩:=I.tuple hb;refine HT.cat_tup p1 p2 (λz=>hx (r1.nil_iff.mp z)) (λz=>⟨.ref a,H,I,rfl,q1 (r2.nil_iff.mp z)⟩) (λz=>?_) (by rw[<-r1.length,<-r2.length];exact hz);refine⟨.ref s.heap.objs.size,_,I.laid (t':=s.toks) (o:=.tup (xs++ys)) (λb ob q=>Λ _ q) (le_refl _) ?_,rfl,q2 (λw=>z (r2.nil_iff.mpr w)) _ (I.hok.fresh (le_refl _))⟩;exact⟨by rw[length_append];exact hz,_,r1.append r2,IsTup.new _ _⟩
end
abbrev ixN(n:Nat)(i:Int):Option Nat:=if 0<=i then(if i<n then Φ i.toNat else Ψ) else if -(n:Int)<=i then Φ (i+n).toNat else Ψ
abbrev atI{α:Type}(xs:List α)(i:Int):Option α:=(ixN xs.length i).bind λj=>xs[j]?
def zkg(h:ixN n i=Φ j):seqIndex? i n=Φ j/\j<n/\-(n:Int)<=i/\i<n:=by unfold ixN at h;by_cases h0:0<=i;rw[if_pos h0]at h;by_cases h1:i<n;rw[if_pos h1]at h;have e:i.toNat=j:=Option.some.inj h;exact⟨by rw[seqIndex_of h0 h1,e],by lia,by lia,h1⟩;rw[if_neg h1]at h;exact nS h;rw[if_neg h0]at h;by_cases h1:-(n:Int)<=i;rw[if_pos h1]at h;have e:(i+n).toNat=j:=Option.some.inj h;exact⟨by rw[seqIndex_neg (by lia) h1,e],by lia,h1,by lia⟩;rw[if_neg h1]at h;exact nS h
def zg2(h:atI xs i=Φ v):∃j,seqIndex? i xs.length=Φ j/\xs[j]?=Φ v/\j<xs.length/\-(xs.length:Int)<=i/\i<xs.length:=by
 unfold atI at h;cases e:ixN xs.length i with
 |none=>rw[e]at h;exact nS h
 |some j=>rw[e]at h;obtain⟨h1,h2,h3,h4⟩:=zkg e;exact⟨j,h1,h,h2,h3,h4⟩
abbrev zk5(b:Expr):Prop:=∀o i,subscripted b Δ o i=operate [o,i] (getItem o i)
abbrev IxR(X:Cx)(r:R2):Prop:=
 ∀(value slice:Expr)(pins:List (Addr×Obj))(s:Β)(σ:St)(H:Hp)(x y:V)(v u:Θ)(Q:VK),Inv X pins σ H s->RelV x v->RelV y u->r x y H Q->
  subscripted slice Δ v u=operate [v,u] (getItem v u)->wpAny (model X.prog X.w) X.A (subscriptTail value slice v u) (EP X pins σ Q) X.xe s
abbrev MtR(X:Cx)(id:String)(r:V->List V->Hp->VK->Prop):Prop:=
 ∀(pins:List (Addr×Obj))(s:Β)(σ:St)(H:Hp)(x:V)(xs:List V)(v:Θ)(us:List Θ)(Q:VK),Inv X pins σ H s->RelV x v->Vals xs us->r x xs H Q->
  wpAny (model X.prog X.w) X.A (call (.builtin id) (v::us)) (EP X pins σ Q) X.xe s
section
variable{X:Cx}{a b:Expr}{ta tb:TE}{pos:Pos}
def IxR.or(h:IxR X r)(h':IxR X k):IxR X (λx y H Q=>r x y H Q\/k x y H Q):=by intro c d e s f H x y v u Q I g i q j;rcases q with q|q;exact h c d e s f H x y v u Q I g i q j;exact h' c d e s f H x y v u Q I g i q j
def zsx(hr:IxR X r)(ha:PE X a ta)(hb:PE X b tb)(hs:zk5 b):PE X (.Subscript a b pos) (tOp r ta tb):=by intro pins s σ H Q I h;exact Subscript_ (binT ha hb I h λv u s2 x y H2 I2 rx ry q=>hr a b pins s2 σ H2 x y v u Q I2 rx ry q (hs _ _))
abbrev rIxL(K:Frag):R2:=λx y H Q=>∃p xs i v,x=.ref p/\y=.int i/\SqL K H p xs/\atI xs i=Φ v/\Q v H
abbrev rIxT(K:Frag):R2:=λx y H Q=>∃p xs i v,x=.ref p/\y=.int i/\SqT K H p xs/\atI xs i=Φ v/\Q v H
abbrev rIxS:R2:=λx y H Q=>∃z i c,x=.str z/\y=.int i/\z.length<=sizeLine/\atI z.cps.toList i=Φ c/\Q (.str ⟨#[c]⟩) H
def ix_list:IxR X (rIxL X.K):=by
 intro value slice pins s σ H x y v u Q I rx ry h hs;obtain⟨p,xs,i,z,rfl,rfl,hq,he,q⟩:=h;cases rx;obtain⟨t,rfl⟩:=ry;obtain⟨its,r,pl,hz⟩:=I.list hq;obtain⟨j,h1,h2,h3,h4,h5⟩:=zg2 he;obtain⟨w,ew,rw'⟩:=r.get h2;have hl:=r.length;have hn:=zel;have fin:EP X pins σ Q w s:=⟨z,H,I,rw',q⟩;by_cases h0:0<=i;have hj:i.toNat=j:=by rw[seqIndex_of h0 h5]at h1;exact Option.some.inj h1
 exact item_listR pl.isList h0 (by lia) (by rw[hj];simpa using ew) fin hs;have hj:(i+(its.toArray.size:Int)).toNat=j:=by rw[seqIndex_neg (by lia) h4]at h1;rw[size_toArray,<-hl];exact Option.some.inj h1
 exact subscriptTail_builtinR (x:=w) pl.isList.typeIs slot_list_getitem.lookup
  (wpAny_getItem_list_neg (Q:=λr s'=>r=w/\EP X pins σ Q r s') pl.isList (by lia) (by rw[size_toArray]<;>lia) (by lia) (by rw[hj];simpa using ew) ⟨rfl,fin⟩) hs
def ix_tup:IxR X (rIxT X.K):=by
 intro value slice pins s σ H x y v u Q I rx ry h hs;obtain⟨p,xs,i,z,rfl,rfl,hq,he,q⟩:=h;cases rx;obtain⟨t,rfl⟩:=ry;obtain⟨its,r,pl,hz⟩:=I.tuple hq;obtain⟨j,h1,h2,h3,h4,h5⟩:=zg2 he;obtain⟨w,ew,rw'⟩:=r.get h2;have hl:=r.length;have hn:=zel;have fin:EP X pins σ Q w s:=⟨z,H,I,rw',q⟩;exact subscriptTail_builtinR (x:=w) pl.typeIs slot_tuple_getitem.lookup
  (getItem_tuple (j:=j) (Q:=λr s'=>r=w/\EP X pins σ Q r s') pl (by lia) (by lia) (by rw[size_toArray,<-hl];exact h1) (by simpa using ew) ⟨rfl,fin⟩) hs
def zrp:IxR X rIxS:=by
 intro value slice pins s σ H x y v u Q I rx ry h hs;obtain⟨z,i,c,rfl,rfl,hz,he,q⟩:=h;obtain⟨t,rfl⟩:=rx;obtain⟨t',rfl⟩:=ry;obtain⟨j,h1,h2,h3,h4,h5⟩:=zg2 he;have hl:z.cps.toList.length=z.length:=by simp[Str.length]
 rw[hl]at h1 h4 h5;have hn:=zel;exact tail_any (typeIs_str s z t) slot_str_getitem.lookup (getItem_str (c:=c) (by
  have e1:decide (i < -(2^63:Int))=Δ:=decide_eq_false (by lia);have e2:decide (i≥2^63)=Δ:=decide_eq_false (by lia);rw[e1,e2,Bool.or_false]) (by rw[h1];simpa using h2) ⟨.str ⟨#[c]⟩,H,I.tok _,⟨_,rfl⟩,q⟩) hs
abbrev rIx(K:Frag):R2:=λx y H Q=>rIxL K x y H Q\/rIxT K x y H Q\/rIxS x y H Q
def zrq:IxR X (rIx X.K):=ix_list.or (ix_tup.or zrp)
def ziz(its:List Θ)(n j)(u):Obj.mapSeq (·.setIfInBounds j u) {cls:=.type "list",data:=.seq its.toArray n}={cls:=.type "list",data:=.seq (its.set j u).toArray n}:=by simp[Obj.mapSeq]
def Inv.lst{c:List (Addr×Obj)}{d:St}{H:Hp}{s:Β}{p:Addr}{xs:List V}(I:Inv X c d H s)(h:H p=Φ (.lst xs)) :
  ∃(its:List Θ) (n:Nat),Vals xs its/\s.heap.get? p=Φ {cls:=.type "list",data:=.seq its.toArray n}/\xs.length<=sizeLine:=by
 obtain⟨z,its,n,r,e⟩:=I.hok p _ h;exact⟨its,n,r,e,z⟩
def Inv.lstUpd{its its':List Θ}(I:Inv X pins σ H s)(h:H p=Φ (.lst xs))(ho:s.heap.get? p=Φ {cls:=.type "list",data:=.seq its.toArray n})(hf:f {cls:=.type "list",data:=.seq its.toArray n}={cls:=.type "list",data:=.seq its'.toArray n'})(r:Vals ys its')(hz:ys.length<=sizeLine)(t):
  Inv X pins σ (upd H p (.lst ys)) {s with heap:=s.heap.update p f,toks:=t}:=by
 have e:(s.heap.update p f).get? p=Φ {cls:=.type "list",data:=.seq its'.toArray n'}:=by rw[Heap.get?_update_self f ho (by rw[hf]<;>rfl),hf]
 refine I.write (x:=p) (e:=p) (by rw[h];trivial) (.inl rfl) (λb u hb q=>(Heap.get?_update_other _ _ (Ne.symm hb)).trans q) ⟨_,e⟩ ?_;exact⟨hz,its',n',r,e⟩
abbrev zss:V->V->V->Hp->(Hp->Prop)->Prop:=λo i v H Q=>∃p xs k j,o=.ref p/\i=.int k/\H p=Φ (.lst xs)/\ixN xs.length k=Φ j/\Q (upd H p (.lst (xs.set j v)))
def zlf:PSet X zss:=by
 intro pins s σ H o i v ov iv u Q I ro ri rv h;obtain⟨p,xs,k,j,rfl,rfl,hp,hj,q⟩:=h;cases ro;obtain⟨t,rfl⟩:=ri;obtain⟨its,n,r,ho,hz⟩:=I.lst hp;obtain⟨h1,h2,h3,h4⟩:=zkg hj;have hl:=r.length;have hn:=zel;have I':Inv X pins σ (upd H p (.lst (xs.set j v))) {s with heap:=s.heap.update p (Obj.mapSeq (·.setIfInBounds j u))}:=I.lstUpd hp ho (ziz its n j u) (r.set rv j) (by rw[List.length_set];exact hz) s.toks;by_cases h0:0<=k;have hk:k.toNat=j:=by rw[seqIndex_of h0 h4]at h1;exact Option.some.inj h1
 exact PySem.W.ki_setAt ho h0 (by lia) (by rw[size_toArray,<-hl];exact h4) (by rw[hk];exact⟨_,I',q⟩);have hk:(k+(its.toArray.size:Int)).toNat=j:=by rw[seqIndex_neg (by lia) h3]at h1;rw[size_toArray,<-hl];exact Option.some.inj h1
 exact PySem.W.ki_setBack ho (by lia) (by rw[size_toArray,<-hl];exact h3) (by lia) (by rw[hk];exact⟨_,I',q⟩)
abbrev zf1:V->Bool
 |.non=>Γ|.bl _=>Γ|.int _=>Γ|.str _=>Γ|_=>Δ
abbrev eqV:V->V->Bool
 |.non,.non=>Γ|.bl a,.bl b=>a==b|.bl a,.int b=>(if a then 1 else 0)==b|.int a,.bl b=>a==(if b then 1 else 0)|.int a,.int b=>a==b|.str a,.str b=>a==b|_,_=>Δ
def zrD(ry:RelV y u)(rx:RelV x v)(fy:zf1 y=Γ)(fx:zf1 x=Γ):SeqAt.EqAt A s u v (eqV y x):=by
 cases y with
 |non=>cases ry;cases x with|non=>cases rx;exact SeqAt.EqAt.same _|bl b=>cases rx;exact SeqAt.EqAt.none_bool b|int b=>obtain⟨t,rfl⟩:=rx;exact SeqAt.EqAt.none_int b t|str b=>obtain⟨t,rfl⟩:=rx;exact SeqAt.EqAt.none_str b t|_=>exact absurd (show Δ=Γ from fx) Ζ
 |bl a=>cases ry;cases x with|non=>cases rx;exact SeqAt.EqAt.bool_none a|bl b=>cases rx;exact SeqAt.EqAt.bool_bool a b|int b=>obtain⟨t,rfl⟩:=rx;exact SeqAt.EqAt.bool_int a b t|str b=>obtain⟨t,rfl⟩:=rx;exact SeqAt.EqAt.bool_str a b t|_=>exact absurd (show Δ=Γ from fx) Ζ
 |int a=>obtain⟨t',rfl⟩:=ry;cases x with|non=>cases rx;exact SeqAt.EqAt.int_none a t'|bl b=>cases rx;exact SeqAt.EqAt.int_bool a t' b|int b=>obtain⟨t,rfl⟩:=rx;exact SeqAt.EqAt.int_int a t' b t|str b=>obtain⟨t,rfl⟩:=rx;exact SeqAt.EqAt.int_str a t' b t|_=>exact absurd (show Δ=Γ from fx) Ζ
 |str a=>obtain⟨t',rfl⟩:=ry;cases x with|non=>cases rx;exact SeqAt.EqAt.str_none a t'|bl b=>cases rx;exact SeqAt.EqAt.str_bool a t' b|int b=>obtain⟨t,rfl⟩:=rx;exact SeqAt.EqAt.str_int a t' b t|str b=>obtain⟨t,rfl⟩:=rx;exact SeqAt.EqAt.str_str a t' b t|_=>exact absurd (show Δ=Γ from fx) Ζ
 |_=>exact absurd (show Δ=Γ from fy) Ζ
abbrev eqU(x:V)(u:Θ):Bool:=match u with|.none=>eqV .non x|.bool b=>eqV (.bl b) x|.int i _=>eqV (.int i) x|.str z _=>eqV (.str z) x|_=>Δ
def zm9(r:RelV y u)(f:zf1 y=Γ):eqU x u=eqV y x:=by cases y with|non=>cases r;rfl|bl b=>cases r;rfl|int i=>obtain⟨t,rfl⟩:=r;rfl|str z=>obtain⟨t,rfl⟩:=r;rfl|_=>exact absurd (show Δ=Γ from f) Ζ
def zg3:∀{xs:List V}{us:List Θ},Vals xs us->xs.all zf1=Γ->us.any (eqU x)=xs.any λy=>eqV y x
 |_,_,.nil,_=>rfl| y::xs,u::us,.cons r t,f=>by rw[all_cons,Ξ]at f;rw[any_cons,any_cons,zm9 r f.1,zg3 t f.2]
def ze5(rx:RelV x v)(fx:zf1 x=Γ):∀{xs:List V}{us:List Θ},Vals xs us->xs.all zf1=Γ->∀u∈us,SeqAt.EqAt A s u v (eqU x u)
 |_,_,.nil,_=>λu hu=>by cases hu| y::xs,u::us,.cons r t,f=>λu' hu=>by rw[all_cons,Ξ]at f;rcases mem_cons.mp hu with rfl|hu;rw[zm9 r f.1];exact zrD r rx f.1 fx;exact ze5 rx fx t f.2 u' hu
abbrev inV(x:V)(xs:List V):Bool:=xs.any λy=>eqV y x
abbrev rIn(K:Frag)(neg:Bool):R2:=λx y H Q=>∃p xs,y=.ref p/\(SqL K H p xs\/SqT K H p xs)/\zf1 x=Γ/\xs.all zf1=Γ/\Q (.bl (if neg then !inV x xs else inV x xs)) H
def zfG:OpR X (compareOp .NotIn) (rIn X.K Γ):=by intro pins s σ H x y v u Q I rx ry h;obtain⟨p,xs,rfl,hq,fx,fs,q⟩:=h;cases ry;rcases hq with hq|hq;obtain⟨its,r,pl,hz⟩:=I.list hq;refine SeqAt.notIn_listAt (eqU x) pl.isList (λw hw=>ze5 rx fx r fs w (by simpa using hw)) ⟨.bl _,H,I,rfl,?_⟩;rw[show its.toArray.any (eqU x)=its.any (eqU x) by simp,zg3 r fs];exact q;obtain⟨its,r,pl,hz⟩:=I.tuple hq;refine SeqAt.notIn_tupleAt (eqU x) pl (λw hw=>ze5 rx fx r fs w (by simpa using hw)) ⟨.bl _,H,I,rfl,?_⟩;rw[show its.toArray.any (eqU x)=its.any (eqU x) by simp,zg3 r fs];exact q
def zb0:zbC X (.builtin "len") (λxs H Q=>∃p ys,xs=[.ref p]/\(SqL X.K H p ys\/SqT X.K H p ys)/\Q (.int ys.length) H):=by intro pins s σ H xs us Q I r h;obtain⟨p,ys,rfl,hq,q⟩:=h;obtain⟨u,rfl,rx⟩:=znn r;cases rx;have hn:=zel;rcases hq with hq|hq;obtain⟨its,r',pl,hz⟩:=I.list hq;have hlen:=r'.length;exact Calls.call_len_list pl.isList (by simp only[size_toArray]<;>lia) ⟨.int ys.length,H,I.tok _,⟨s.toks+1,by rw[size_toArray,hlen]⟩,q⟩;obtain⟨its,r',pl,hz⟩:=I.tuple hq;have hlen:=r'.length;exact len_tuple pl (by simp only[size_toArray]<;>lia) ⟨.int ys.length,H,I.tok _,⟨s.toks+1,by rw[size_toArray,hlen]⟩,q⟩
def zgb:zbC X (.type "list") (λxs H Q=>∃p ys,xs=[.ref p]/\(SqL X.K H p ys\/SqT X.K H p ys)/\∀l,H l=Ψ->Q (.ref l) (upd H l (.lst ys))):=by
 intro pins s σ H xs us Q I r h;obtain⟨p,ys,rfl,hq,q⟩:=h;obtain⟨u,rfl,rx⟩:=znn r;cases rx;have fin:∀(its:List Θ),Vals ys its->ys.length<=sizeLine->∀(h':Heap)(c':Nat),(∀b o',s.heap.get? b=Φ o'->h'.get? b=Φ o')->
   h'.get? s.heap.objs.size=Φ {cls:=.type "list",dict:=Ψ,data:=.seq its.toArray c',slots:=#[]}->EP X pins σ Q (.ref s.heap.objs.size) {s with heap:=h'}:=λits r' hz h' c' kp e=>
  ⟨.ref s.heap.objs.size,_,I.laid (t':=s.toks) kp (le_refl _) (show ObjOk X.prog X.w _ h' _ (.lst ys) from⟨hz,its,c',r',e⟩),rfl,q _ (I.hok.fresh (le_refl _))⟩
 rcases hq with hq|hq;obtain⟨its,r',pl,hz⟩:=I.list hq;have hlen:=r'.length;obtain⟨o,ho,hc,n,hd⟩:=pl.isList;exact call_list_seq p (.inl rfl) ho hc hd (λh' c' kp e=>fin its r' hz h' c' kp e) (by simp only[size_toArray]<;>lia);obtain⟨its,r',pl,hz⟩:=I.tuple hq;have hlen:=r'.length;obtain⟨o,ho,hc,n,hd⟩:=pl;exact call_list_seq p (.inr rfl) ho hc hd (λh' c' kp e=>fin its r' hz h' c' kp e) (by simp only[size_toArray]<;>lia)
abbrev tyV(K:Frag)(T:String)(x:V)(H:Hp):Prop:=match x with
 |.str _=>T="str"|.int _=>T="int"
 |.ref p=>(T="list"/\∃xs,SqL K H p xs)\/(T="tuple"/\∃o,K.lookup p=Φ o/\o.cls=.type "tuple"/\o.dict=Ψ)\/
  (T="dict"/\((∃kvs,H p=Φ (.dK kvs))\/∃kvs,H p=Φ (.dT kvs)))\/(T="set"/\∃S n,H p=Φ (.set S n))
 |_=>False
def zmC(I:Inv X pins σ H s)(r:RelV x v)(ty:tyV X.K T x H):
  s.TypeIs v T/\∀a,v=.ref a->∃ob,s.heap.get? a=Φ ob/\ob.dict=Ψ:=by
 cases x with
 |str z=>obtain⟨t,rfl⟩:=r;cases(show T="str" from ty);exact⟨typeIs_str s z t,λ_ e=>by cases e⟩| int i=>obtain⟨t,rfl⟩:=r;cases(show T="int" from ty);exact⟨typeIs_int s i t,λ_ e=>by cases e⟩| ref p=>
  cases r;rcases ty with⟨rfl,xs,hq⟩|⟨rfl,o,hk,hc,hd⟩|⟨rfl,hk⟩|⟨rfl,S,n,hk⟩;obtain⟨its,_,pl,_⟩:=I.list hq;refine⟨pl.isList.typeIs,λa e=>?_⟩;cases e;obtain⟨o,n,e,c,hd,_⟩:=pl;exact⟨o,e,hd⟩;refine⟨⟨o,I.kIn p o hk,hc⟩,λa e=>?_⟩;cases e;exact⟨o,I.kIn _ o hk,hd⟩;have z:∃o,s.heap.get? p=Φ o/\o.ExactDict:=by rcases hk with⟨kvs,hk⟩|⟨kvs,hk⟩;obtain⟨_,_,_,_,o,_,_,e,ex,_⟩:=I.hok p _ hk;exact⟨o,e,ex⟩;obtain⟨_,_,_,_,o,_,_,e,ex,_⟩:=I.hok p _ hk;exact⟨o,e,ex⟩
  obtain⟨o,e,ex⟩:=z;refine⟨⟨o,e,ex.1⟩,λa e2=>?_⟩;cases e2;exact⟨o,e,ex.2.1⟩;obtain⟨o,_,_,_,e,ex,_⟩:=I.hok p _ hk;refine⟨⟨o,e,ex.1⟩,λa e2=>?_⟩;cases e2;exact⟨o,e,ex.2.1⟩
 |_=>exact False.elim ty
abbrev tBM0(K:Frag)(T:String)(r:V->List V->Hp->VK->Prop)(to:TE):TE:=λσ H Q=>to σ H λx H1=>tyV K T x H1/\r x [] H1 Q
abbrev tBM(K:Frag)(T:String)(r:V->List V->Hp->VK->Prop)(to:TE)(t:TA):TE:=λσ H Q=>to σ H λx H1=>tyV K T x H1/\t σ H1 λxs H2=>r x xs H2 Q
variable{o e:Expr}{es:List Expr}{to:TE}{t:TA}{name:Str}{apos cpos:Pos}{T id:String}{r:V->List V->Hp->VK->Prop}
def zqU(pa:PlainAttrs T)(slot:Slot T name id)(hty:typeOf (.builtin id)=pure (.type "method_descriptor"))(hm:MtR X id r)(ho:PE X o to)
  (hbase:attributeBase o name X.env (eval o X.env)=eval o X.env:=by rfl) (hline:(apos.endLine==cpos.line)=Γ:=by rfl):PE X (.Call (.Attribute o name apos) [] [] cpos) (tBM0 X.K T r to):=by
 intro pins s σ H Q I h;refine wpAny_Call_method0_late hbase hline (thn (ho pins s σ H _ I h) λv s1 z=>?_);obtain⟨x,H1,I1,r1,ty,q1⟩:=z;obtain⟨h1,h2⟩:=zmC I1 r1 ty;exact⟨T,id,pa,slot,hty,h1,h2,Calls.callWith_builtin rfl (PySem.evalArgs_none (hm pins s1 σ H1 x [] v [] Q I1 r1 .nil q1))⟩
def zqV(pa:PlainAttrs T)(slot:Slot T name id)(hty:typeOf (.builtin id)=pure (.type "method_descriptor"))(hm:MtR X id r)(ho:PE X o to)(ha:PA X (e::es) t)
  (hbase:attributeBase o name X.env (eval o X.env)=eval o X.env:=by rfl)
  (hfew:((backTo cpos (starEach (e::es) X.env)).all (λx=>!x.1)&&(backToKw cpos (keywordEach [] X.env)).all (λx=>x.1.isSome)
   && decide ((e::es).length+([]:List Keyword).length+(if([]:List Keyword).isEmpty then 0 else 1)<30))=Γ:=by rfl)
  (hline:(apos.endLine==cpos.line)=Γ:=by rfl) (hs:starEach (e::es) X.env=(Δ,eval e X.env)::starEach es X.env:=by rfl) (hplain:(backTo cpos (starEach es X.env)).any (·.1)=Δ:=by rfl) :
  PE X (.Call (.Attribute o name apos) (e::es) [] cpos) (tBM X.K T r to t):=by
 intro pins s σ H Q I h;refine wpAny_Call_method_late hbase hfew hline rfl (thn (ho pins s σ H _ I h) λv s1 z=>?_);obtain⟨x,H1,I1,r1,ty,q1⟩:=z;obtain⟨h1,h2⟩:=zmC I1 r1 ty;refine⟨T,id,pa,slot,hty,h1,h2,?_⟩;have hA:=ha cpos pins s1 σ H1 _ I1 q1;rw[hs]at hA⊢;refine Calls.callWith_builtin (by show(Δ||(backTo cpos (starEach es X.env)).any (·.1))=Δ;rw[hplain]<;>rfl) (Calls.evalArgs_plain ?_);exact thn hA λus s2 k=>(by obtain⟨vs,H2,I2,r2,q2⟩:=k;exact hm pins s2 σ H2 x vs v us Q I2 r1 r2 q2)
end
abbrev MtM(X:Cx)(id:String)(r:V->List V->Hp->VK->Prop):Prop:=
 ∀(pins:List (Addr×Obj))(s:Β)(σ:St)(H:Hp)(x:V)(xs:List V)(v:Θ)(us:List Θ)(Q:VK),Inv X pins σ H s->RelV x v->Vals xs us->r x xs H Q->
  wpAny (model X.prog X.w) X.A (call (.builtin id) (v::us)) (EP X pins σ Q) X.xe s
def Vals.one{x:V}{us:List Θ}(h:Vals [x] us):∃u,us=[u]/\RelV x u:=by cases h with|cons r t=>cases t;exact⟨_,rfl,r⟩
def Vals.zero:∀{us:List Θ},Vals [] us->us=[]
 |_,.nil=>rfl
def Vals.eraseIdx:∀{xs:List V}{us:List Θ}(i:Nat),Vals xs us->Vals (xs.eraseIdx i) (us.eraseIdx i)
 |_,_,_,.nil=>.nil|_,_,0,.cons _ t=>t|_,_,i+1,.cons r t=>.cons r (Vals.eraseIdx i t)
def zfP{α:Type}:∀(l:List α)(i:Nat),(l.eraseIdx i).length<=l.length
 | [],_=>le_refl _|_::_,0=>le_succ _|_::r,i+1=>Nat.succ_le_succ (zfP r i)
section
variable{X:Cx}{pins:List (Addr×Obj)}{σ:St}{H:Hp}{s:Β}{l b:Addr}{xs ys zs:List V}
def Inv.lset{its its':List Θ}(I:Inv X pins σ H s)(a:H l=Φ (.lst xs))(e:s.heap.get? l=Φ {cls:=.type "list",data:=.seq its.toArray n})(c:f its.toArray=its'.toArray)(d:Vals ys its')(hz:ys.length<=sizeLine):
  Inv X pins σ (upd H l (.lst ys)) {s with heap:=s.heap.update l (Obj.mapSeq f),toks:=t'}:=by
 have q:=PySem.IsL.update e f;rw[c]at q;refine I.write (x:=l) (e:=l) (by rw[a];exact trivial) (.inl rfl) (λi u g h=>(Heap.get?_update_other s.heap (Obj.mapSeq f) (Ne.symm g)).trans h) ⟨_,q⟩ ?_;exact⟨hz,its',_,d,q⟩
def Inv.lnew(I:Inv X pins σ H s)(a:Vals ys its)(hz:ys.length<=sizeLine):
  Inv X pins σ (upd H s.heap.objs.size (.lst ys)) {s with heap:=s.heap.push {cls:=.type "list",data:=.seq its.toArray},toks:=t'}:=
 I.laid (λ_ _ q=>Λ _ q) (le_refl _) ⟨hz,its,0,a,Κ _ rfl⟩
def Inv.fresh(I:Inv X pins σ H s):H s.heap.objs.size=Ψ:=I.hok.fresh (le_refl _)
def Inv.lstM(I:Inv X pins σ H s)(a:H l=Φ (.lst xs)):xs.length<=sizeLine/\∃(its:List Θ) (n:Nat),Vals xs its/\xs.length=its.length/\s.heap.get? l=Φ {cls:=.type "list",data:=.seq its.toArray n}:=by obtain⟨z,its,n,r,e⟩:=I.hok l _ a;exact⟨z,its,n,r,r.length,e⟩
def zlS(h:n<=sizeLine):Builtin.List.listTooLong n=Δ:=by unfold Builtin.List.listTooLong;exact decide_eq_false (by lia)
end
section
variable{X:Cx}
abbrev zoa:V->List V->Hp->VK->Prop:=λx vs H Q=>∃l xs y,x=.ref l/\vs=[y]/\H l=Φ (.lst xs)/\xs.length<sizeLine/\Q .non (upd H l (.lst (xs++[y])))
def zfH:MtM X "list.append" zoa:=by intro pins s σ H x vs v us Q I rx rv h;obtain⟨l,xs,y,rfl,rfl,hH,hz,q⟩:=h;cases rx;obtain⟨u,rfl,ru⟩:=rv.one;obtain⟨z,its,n,r,hl,e⟩:=I.lstM hH;refine call_meets F.slot_list_append ⟨_,e,rfl⟩ F.entry_list_append (F.args_list_append_2 _ _) (PySem.list_append l its.toArray n u (by rw[size_toArray];lia)) ⟨e,?_⟩;refine⟨.non,_,I.lset (its':=its++[u]) hH e (by simp) (r.append (.cons ru .nil)) ?_,rfl,q⟩;rw[length_append,List.length_singleton];lia
abbrev zn9:V->List V->Hp->VK->Prop:=λx vs H Q=>∃l b xs zs,x=.ref l/\vs=[.ref b]/\H l=Φ (.lst xs)/\H b=Φ (.lst zs)/\xs.length+zs.length<=sizeLine/\Q .non (upd H l (.lst (xs++zs)))
def zjS:MtM X "list.extend" zn9:=by
 intro pins s σ H x vs v us Q I rx rv h;obtain⟨l,b,xs,zs,rfl,rfl,hH,hB,hz,q⟩:=h;cases rx;obtain⟨u,rfl,ru⟩:=rv.one;cases ru;obtain⟨z,its,n,r,hl,e⟩:=I.lstM hH;obtain⟨z2,its2,n2,r2,hl2,e2⟩:=I.lstM hB;have hsz:its.toArray.size+its2.toArray.size<=sizeLine:=by rw[size_toArray,size_toArray];lia
 have hlong:¬(!its.toArray.isEmpty&&Builtin.List.listTooLong (its.toArray.size+its2.toArray.size))=Γ:=by rw[zlS hsz,Bool.and_false];exact Ζ
 refine call_meets F.slot_list_extend ⟨_,e,rfl⟩ F.entry_list_extend (F.args_list_extend_2 _ _)
  (AutoSeq1.list_extend_list_list_0 l its.toArray n b its2.toArray n2 hlong (by rw[size_toArray];lia) (by lia)) ⟨e,e2,?_⟩
 refine⟨.non,_,I.lset (its':=its++its2) hH e (by simp) (r.append r2) ?_,rfl,q⟩;rw[length_append];lia
abbrev zqz:V->List V->Hp->VK->Prop:=λx vs H Q=>∃l xs i k y,x=.ref l/\vs=[.int i]/\H l=Φ (.lst xs)/\-(2^63)<=i/\i<2^63/\seqIndex? i xs.length=Φ k/\xs[k]?=Φ y/\Q y (upd H l (.lst (xs.eraseIdx k)))
def zlU:MtM X "list.pop" zqz:=by
 intro pins s σ H x vs v us Q I rx rv h;obtain⟨l,xs,i,k,y,rfl,rfl,hH,h1,h2,hk,hy,q⟩:=h;cases rx;obtain⟨u,rfl,ru⟩:=rv.one;obtain⟨t,rfl⟩:=ru;obtain⟨z,its,n,r,hl,e⟩:=I.lstM hH;obtain⟨w,hw,rw'⟩:=r.get hy;refine call_meets F.slot_list_pop ⟨_,e,rfl⟩ F.entry_list_pop (F.args_list_pop_2 _ _)
  (MeetsSeq.list_pop_at l its.toArray n i t k w (fitsIndex_both h1 h2) (by rw[size_toArray,<-hl];exact hk) (by rw[<-Array.getElem?_toList];exact hw) (by rw[size_toArray];lia)) ⟨e,?_⟩
 refine⟨y,_,I.lset (its':=its.eraseIdx k) hH e ?_ (r.eraseIdx k) ?_,rw',q⟩;show its.toArray.eraseIdxIfInBounds k=(its.eraseIdx k).toArray;rw[List.eraseIdxIfInBounds_toArray];have:=zfP xs k;lia
abbrev zqA:V->List V->Hp->VK->Prop:=λx vs H Q=>∃l xs,x=.ref l/\vs=[]/\H l=Φ (.lst xs)/\Q .non (upd H l (.lst []))
def zlV:MtM X "list.clear" zqA:=by intro pins s σ H x vs v us Q I rx rv h;obtain⟨l,xs,rfl,rfl,hH,q⟩:=h;cases rx;have hus:=rv.zero;subst hus;obtain⟨z,its,n,r,hl,e⟩:=I.lstM hH;refine call_meets F.slot_list_clear ⟨_,e,rfl⟩ F.entry_list_clear (F.args_list_clear_1 _) (AutoSeq1.list_clear_list_0 l its.toArray n (by rw[size_toArray];lia)) ⟨e,?_⟩;exact⟨.non,_,I.lset (its':=[]) (ys:=[]) hH e rfl .nil (zero_le _),rfl,q⟩
abbrev rCat:R2:=λx y H Q=>∃l b xs zs,x=.ref l/\y=.ref b/\H l=Φ (.lst xs)/\H b=Φ (.lst zs)/\xs.length+zs.length<=sizeLine/\∀p,H p=Ψ->Q (.ref p) (upd H p (.lst (xs++zs)))
def zq4:OpR X (binaryOp .Add) rCat:=by
 intro pins s σ H x y v u Q I rx ry h;obtain⟨l,b,xs,zs,rfl,rfl,hH,hB,hz,q⟩:=h;cases rx;cases ry;obtain⟨z,its,n,r,hl,e⟩:=I.lstM hH;obtain⟨z2,its2,n2,r2,hl2,e2⟩:=I.lstM hB;refine PySem.P.add_list e e2 ?_ (by rw[size_toArray,size_toArray];lia);have ea:its.toArray++its2.toArray=(its++its2).toArray:=by simp
 rw[ea];exact⟨.ref _,_,I.lnew (t':=s.toks) (r.append r2) (by rw[length_append];lia),rfl,q _ I.fresh⟩
end
end L2
namespace Att
open PySem PySem.W PySem.Calls PyProof.Rows
def zdU:∀(ns:List Int)(vs:List Θ),WellAll P h vs (ns.map WData.int)->IntsAre vs ns:=by intro ns;induction ns with| nil=>intro vs w;rw[map_nil]at w;cases w;exact .nil| cons n ns ih=>intro vs w;rw[Μ]at w;cases w with| cons a b=>cases a;exact .cons _ _ (ih _ b)
def zji{l:OpenLaw}(hn:l.most=Φ n)(hpre:l.row.toRowW.claim.pre args=Γ)(hwl:WellAll P h vals args):
  ∃a vs ns,vals=[Θ.ref a]/\args=[WData.list (ns.map WData.int)]/\h.get? a=Φ {cls:=.type "list",data:=.seq vs.toArray}/\IntsAre vs ns/\ns.length<=n:=by
 have hsh:WShape.hasAll [] args [.list .int]=Γ:=(pre_splitW hpre).1;have hc:l.pre.holds [] {args:=args}=Γ:=(pre_splitW hpre).2;obtain⟨d,r,rfl,h1,h2⟩:=hasAllW_cons hsh;obtain rfl:=hasAllW_nil h2;obtain⟨xs,rfl,h3⟩:=hasW_list h1;obtain⟨ns,rfl⟩:=items_int h3;have hlen:ns.length<=n:=by
  unfold OpenLaw.pre at hc;have h4:(WTm.not (.lt (.lit (.int (n:Int))) (.len (.arg 0)))).holds [] {args:=[.list (ns.map .int)]}=Γ:=by have h4:=(holds_andW hc).1;rw[hn]at h4;exact h4
  have h5:=condW_of h4 (w_not (w_lt w_lit (w_len_list (w_arg rfl))));rw[length_map]at h5;refine Nat.le_of_not_lt λq=>?_;have q':(n:Int)<((ns.length:Nat):Int):=by omega
  first
   |(rw[decide_eq_true q']at h5;exact absurd h5 (by decide))
   |(simp at h5;omega)
 cases hwl with| cons w1 w2=>cases w2;cases w1 with|list ho hall=>exact⟨_,_,ns,rfl,rfl,ho,zdU ns _ hall,hlen⟩
def zjH(l:OpenLaw)(args):l.row.toRowW.claim.post args (.bool Γ) args=Γ:=
 postW_of (r:=l.row.toRowW) (X:=(Γ==Γ))
  (show WShape.has [] (.bool Γ) .bool=Γ by first|rfl|decide|simp[WShape.has,WShape.arms,WShape.armsAll])
  (show(WTm.eq .res (.lit (.bool Γ))).value [] {args:=args,res:=Φ (.bool Γ),after:=args}=Φ (.bool (Γ==Γ)) from w_eq_bool (w_res rfl) w_lit) rfl
def attach_call{l:OpenLaw}(hn:l.most=Φ n)(hdf:d.params.defaults=[])(call:∀(w:ύ)(s₀ s₁:Β)(mg mb:Str->Option Θ)(fa:Addr)(o:Obj)(pm cd doc:Θ)(a:Addr)(vs:List Θ)(ns:List Int),
   Ground q loose [] XP w s₀ mg mb s₁.heap->YP w s₁.heap->
   s₁.heap.get? fa=Φ o->o.data=.func (docDef d.name d.params d.body d.scope pm cd doc)->s₁.heap.CodeRec cd d.name->mg d.name=Φ (.ref fa)->
   s₁.heap.get? a=Φ {cls:=.type "list",data:=.seq vs.toArray}->IntsAre vs ns->ns.length<=n->s₁.gens = #[]->
   codeAny (model l.prog w) callerA (.call (.ref fa) ⟨[.ref a],[]⟩) (λr s'=>r=.ok (.ret (.bool Γ))/\OldK s₁.heap s'.heap/\s'.os=s₁.os/\AllBare s'.gens) s₁):
  WalkO q loose XP YP l.row.toRowW d [] (λf vs=>PySem.call f vs):=by
 intro w s₀ s₁ mg mb G Y fa o pm cd doc dV kV ho hd hcd hD hmg hg args vals as hpre hlay hrd hwl hlo;obtain rfl:dV=.none:=Dflts.none hD hdf;obtain rfl:kV=.none:=Dflts.noKw hD;obtain⟨a,vs,ns,rfl,rfl,hobj,hints,hlen⟩:=zji hn hpre hwl;refine enter_call (codeAny_mono (call w s₀ s₁ mg mb fa o pm cd doc a vs ns G Y ho (fd_plain hd) hcd hmg hobj hints hlen hg) λr s' hq=>?_);obtain⟨rfl,h2,h3,h4⟩:=hq;exact⟨.inl ⟨.bool Γ,.bool Γ,[],rfl,λ_=>rfl,.bool Γ,zjH l _,λ_=>⟨Pairwise.nil,λ_ hm=>(by cases hm)⟩⟩,h2,h3,h4⟩
end Att
namespace L2
open PySem PySem.Spec PyProof.Rows
def zdx:∀{vs:List Θ}{ns:List Int},IntsAre vs ns->Vals (ns.map V.int) vs
 |_,_,.nil=>.nil|_,_,.cons n t h=>.cons ⟨t,rfl⟩ (zdx h)
abbrev zaq(s:Stmt):Arguments:=match s with|.FunctionDef _ a _ _ _ _ _ _ _ _=>a|_=>{posonlyargs:=[],args:=[],vararg:=Ψ,kwonlyargs:=[],kw_defaults:=[],kwarg:=Ψ,defaults:=[]}
abbrev zam(s:Stmt):List Stmt:=match s with|.FunctionDef _ _ b _ _ _ _ _ _ _=>b|_=>[]
abbrev zaa(s:Stmt):Scope:=match s with|.FunctionDef _ _ _ _ _ _ sc _ _ _=>sc|_=>{kind:=.function,names:=[],isGenerator:=Δ,isCoroutine:=Δ}
@[reducible]def CX0:CXT:=λ_ _ _ _ _ _=>False
@[reducible]def E0:XK:=λ_ _ _=>False
def zgD:zd9 CX0 X E0:=λ_ _ _ _ _ _ _ h=>h.elim
structure Fun(K:Frag)(x qual:Str)(st:Stmt)(f:Addr)(fd:FuncData):Prop where
 ex:∃(oc:Θ) (od:Option Addr) (kV doc pm:Θ) (an:Option Addr) (cdv ct:Θ) (osl:Array (Option Θ)),
  fd=fnOf x qual (zaq st) (zam st) (zaa st) .none kV doc pm an cdv ct/\K.lookup f=Φ ⟨oc,od,.func fd,osl⟩/\codeIn K cdv qual=Γ
 kp:keepIn K (.ref f)=Γ
abbrev Same(H H':Hp):Prop:=∀b o,H b=Φ o->H' b=Φ o
abbrev zbc(cells:List (Str×Addr))(y:Str×NameKind)(acc:List (Str×Addr)):List (Str×Addr):=if(y.2==NameKind.free)=Γ then(match cells.lookup y.1 with|some c=>(y.1,c)::acc|none=>acc) else acc
abbrev zgZ(cells:List (Str×Addr))(names:List (Str×NameKind))(acc:List (Str×Addr)):List (Str×Addr):=names.foldl (λa y=>zbc cells y a) acc
def zdZ{α β:Type}(f)(g:α->β->β):∀(l:List α)(b:β),(∀x∈l,∀b,f x b=pure (.yield (g x b)))->forIn l b f=(pure (l.foldl (λb x=>g x b) b):Sem β)
 | [],b,_=>rfl| x::l,b,h=>by rw[List.forIn_cons,h x ϋ,pure_bind];exact zdZ f g l _ λy hy=>h y (Ο _ hy)
def zbK(h:∀y∈scope.names,y.2=.free->∃c,env.cells.lookup y.1=Φ c):
  closureFor scope env=pure (zgZ env.cells scope.names []):=by
 unfold closureFor zgZ;dsimp only;rw[zdZ _ (λy a=>zbc env.cells y a)];simp;intro y hy a;obtain⟨n,k⟩:=y;by_cases hk:k=.free;obtain⟨c,hc⟩:=h _ hy hk;subst hk;simp at hc;simp[cellOf,hc,zbc];have:(k==NameKind.free)=Δ:=by simpa using hk
 simp[this,zbc]
def zga:∀(names:List (Str×NameKind))(acc:List (Str×Addr)),(∀x c,acc.lookup x=Φ c->cells.lookup x=Φ c)->
  ∀x c,(zgZ cells names acc).lookup x=Φ c->cells.lookup x=Φ c
 | [],acc,h=>h| y::r,acc,h=>by
  refine zga r (zbc cells y acc) ?_;intro x c e;unfold zbc at e;split at e;split at e;rename_i c' hc';rw[ϓ]at e;cases hx:x==y.1 with| true=>rw[hx]at e;have q:x=y.1:=beq_iff_eq.mp hx;have e':c'=c:=Option.some.inj e;rw[q,<-e'];exact hc'|false=>rw[hx]at e;exact h x c e
  exact h x c e;exact h x c e
def zd2:∀(names:List (Str×NameKind))(acc:List (Str×Addr))(x:Str),(∀y∈names,y.2=.free->∃c,cells.lookup y.1=Φ c)->
  ((∃c,acc.lookup x=Φ c)\/(x,NameKind.free)∈names)->∃c,(zgZ cells names acc).lookup x=Φ c
 | [],acc,x,_,h=>by rcases h with h|h;exact h;cases h
 |y::r,acc,x,hf,h=>by
  refine zd2 r (zbc cells y acc) x (λz hz=>hf z (Ο _ hz)) ?_;rcases h with⟨c,h⟩|h;left;unfold zbc;split;split;rename_i c' hc';rw[ϓ];cases hx:x==y.1 with|true=>exact⟨c',rfl⟩|false=>exact⟨c,h⟩
  exact⟨c,h⟩;exact⟨c,h⟩;rcases mem_cons.mp h with h|h;left;subst h;obtain⟨c,hc⟩:=hf _ ϋ rfl;refine⟨c,?_⟩;simp at hc;simp[zbc,hc];exact .inr h
abbrev zci(env:Env)(y:Str×NameKind):Str×NameKind:=if(y.2==.free&&env.scope.kind==.function&&env.kindOf y.1==Φ .cell)=Γ then(y.1,.cell) else y
def zbE(scope)(env):(relabel scope env).names=scope.names.map (zci env):=by unfold relabel;show scope.names.map _=_;refine Ρ λy _=>?_;obtain⟨n,k⟩:=y;rfl
def zdE(env)(y):(zci env y).1=y.1:=by unfold zci;split<;>rfl
def zdD(env)(y):(zci env y).2=y.2\/(y.2=.free/\(zci env y).2=.cell):=by unfold zci;split;rename_i h;simp only[Ξ,beq_iff_eq]at h;exact .inr ⟨h.1.1,rfl⟩;exact .inl rfl
def zbR(env)(x):∀names:List (Str×NameKind),∀k,(names.map (zci env)).lookup x=Φ k->∃k0,(x,k0)∈names/\names.lookup x=Φ k0/\(k=k0\/(k0=.free/\k=.cell))
 | [],k,h=>by simp at h| y::r,k,h=>by rw[Μ]at h;have f1:=zdE env y;have f2:=zdD env y;obtain⟨n,k1⟩:=y;generalize hz:zci env (n,k1)=z at *;obtain⟨zn,zk⟩:=z;simp only at f1 f2;subst f1;rw[ϓ]at h;rw[ϓ];cases hx:x==zn with| true=>rw[hx]at h;have q:x=zn:=beq_iff_eq.mp hx;subst q;have e:zk=k:=Option.some.inj h;subst e;exact⟨k1,ϋ,rfl,f2⟩| false=>rw[hx]at h;obtain⟨k0,m,l,q⟩:=zbR env x r k h;exact⟨k0,Ο _ m,l,q⟩
def zbF(env)(x):∀names:List (Str×NameKind),names.lookup x=Φ .free->(names.map (zci env)).lookup x=Φ .free\/(names.map (zci env)).lookup x=Φ .cell
 | [],h=>by simp at h| y::r,h=>by
  rw[Μ];have f1:=zdE env y;have f2:=zdD env y;obtain⟨n,k1⟩:=y;generalize hz:zci env (n,k1)=z at *;obtain⟨zn,zk⟩:=z;simp only at f1 f2;subst f1;rw[ϓ]at h;rw[ϓ];cases hx:x==zn with
  |true=>rw[hx]at h;have e:k1=.free:=Option.some.inj h;subst e;rcases f2 with f2|⟨_,f2⟩;left;show Φ zk=_;rw[f2];right;show Φ zk=_;rw[f2]
  |false=>rw[hx]at h;exact zbF env x r h
structure CompOk(sc scope:Scope)(N0:List Str)(js:List Nat):Prop where
 kind:scope.kind=.function
 nocell:∀y∈scope.names,y.2≠.cell
 locs:∀y∈scope.names,y.2=.local->scope.names.lookup y.1=Φ .local
 frees:∀y∈scope.names,y.2=.free->sc.names.lookup y.1=Φ .cell\/sc.names.lookup y.1=Φ .free
 caps:∀j∈js,scope.names.lookup (N0.getD j "")=Φ .free/\j<N0.length
noncomputable abbrev zaz(X:Cx)(N':List Str)(scope:Scope)(cl:List (Str×Addr))(C:Addr)(fp:List Addr)(s:Β)(H:Hp)(pn:List (Addr×Obj)):Cx:={X with N:=N',s₀:=s,H₀:=H,env:=compEnvC scope cl C X.env,outer:=X.stack,stack:=X.stack,ex:=fp,fn:=λ_=>Δ,pn:=pn,xe:=λ_ _=>False}
abbrev csl(nt:Nat)(js:List Nat)(σ:St):St:=List.replicate nt Ψ++js.map λj=>(σ[j]?).join
noncomputable abbrev capN(N0:List Str)(tgs:List Str)(js:List Nat):List Str:=tgs++js.map λj=>N0.getD j ""
abbrev PTs(X:Cx)(ifs:List Expr)(t:TT):Prop:=
 ∀(pins:List (Addr×Obj))(s:Β)(σ:St)(H:Hp)(Q:Bool->Hp->Prop),Inv X pins σ H s->t σ H Q->
  wpAny (model X.prog X.w) X.A (forIn ifs Γ λc r=>if r=Γ then do let ok <-isTrue c X.env (eval c X.env);pure (ForInStep.yield ok) else pure (ForInStep.yield r)) (TP X pins σ Q) X.xe s
abbrev tYes:TT:=λ_ H Q=>Q Γ H
def zoe:PTs X [] tYes:=λpins s σ H Q I h=>wpAny_tests_nil ⟨H,I,h⟩
def zjD(h:PT X c t):PTs X [c] t:=λpins s σ H Q I q=>wpAny_tests_one (h pins s σ H Q I q)
abbrev znx(nt:Nat)(js:List Nat)(wi:TI)(g:TG)(tt:TT)(te:TE):TE:=λσ H Q=>wi σ H λJ H1=>∀p,H1 p=Ψ->
 ∃W:Nat->Nat->St->Hp->Prop,(∃m,W 0 m (csl nt js σ) (upd H1 p (.lst [])))/\∀i m σ' H',W i m σ' H'->
  (J.stop i H'/\Q (.ref p) H')\/(J.go i H'/\∃N:St->Hp->Prop,(∀σ2 H2,N σ2 H2->∃m',m'<m/\W (i+1) m' σ2 H2)/\
   ∀x H2,J.yld i H' x H2->g x σ' H2 λσ2 H3=>tt σ2 H3 λb H4=>if b=Γ then te σ2 H4 λv H5=>∃acc,H5 p=Φ (.lst acc)/\acc.length<sizeLine/\N σ2 (upd H5 p (.lst (acc++[v]))) else N σ2 H4)
section
variable{prog:ϊ}{w:ύ}{A:ϔ}{R:Result->Β->Prop}{s:Β}
def ziP(J:Nat->Β->Prop)(turn:∀n s,J n s->wpAny (model prog w) A (pyNext it) (λr s₁=>(r=Ψ/\R (.ok .next) s₁)\/∃v,r=Φ v/\
   wpAny (model prog w) A (letOwnedTupleGo tg it v) (λ_ s₀=>wpAny (model prog w) A (assign tg env v) (λ_ s₂=>
    wpAny (model prog w) A (forIn ifs Γ λc r=>if r=Γ then do let ok <-isTrue c env (eval c env);pure (ForInStep.yield ok) else pure (ForInStep.yield r)) (λok s₃=>
     if ok=Γ then wpAny (model prog w) A (eval elt env) (λx s₄=>wpAny (model prog w) A (call (.builtin "list.append") [acc,x]) (λ_ s₅=>∃m,m<n/\J m s₅) (λ_ _=>False) s₄) (λ_ _=>False) s₃
     else ∃m,m<n/\J m s₃) (λ_ _=>False) s₂) (λ_ _=>False) s₀) (λ_ _=>False) s₁) (λ_ _=>False) s)(n)(h:J n s):codeAny (model prog w) A (.compLoop (.ListComp elt [⟨tg,iter,ifs,0⟩] scope pos) 0 it acc env) R s:=by
 refine codeAny_loop rfl J (λn s hI=>?_) n h;show wpAny _ A ((compTurn (.ListComp elt [⟨tg,iter,ifs,0⟩] scope pos) 0 it acc env).onRaise (λx=>do noteFrame x env;theTreesLotGoes x)) _ _ s;refine wpAny_noted ?_;rw[compTurn_list];refine Α (wpAny_standAt (Α (ϑ (turn n s hI) (λr s₁ h₁=>?_) λ_ _ f=>f.elim)));rcases h₁ with⟨rfl,h₁⟩|⟨v,rfl,h₁⟩;exact Ν h₁;refine Α (ϑ h₁ (λ_ s₀ h₀=>?_) λ_ _ f=>f.elim);refine Α (ϑ h₀ (λ_ s₂ h₂=>?_) λ_ _ f=>f.elim);refine Α (ϑ h₂ (λok s₃ h₃=>?_) λ_ _ f=>f.elim);cases ok with|false=>exact Ν ⟨rfl,h₃⟩| true=>refine Α (Α (ϑ h₃ (λx s₄ h₄=>?_) λ_ _ f=>f.elim));exact Α (ϑ h₄ (λ_ s₅ h₅=>Ν (Ν ⟨rfl,h₅⟩)) λ_ _ f=>f.elim)
end
section
variable{X:Cx}{sc scope:Scope}{tgs:List Str}{js:List Nat}{elt tg iter:Expr}{ifs:List Expr}{pos:Pos}{wi:TI}{g:TG}{tt:TT}{te:TE}
def zem(hc:X.calm=Γ)(hsc:X.env.scope=sc)(ok:CompOk sc scope X.N js)(hg:∀cl C fp s H pn,PG (zaz X (capN X.N tgs js) scope cl C fp s H pn) tg g)(ht:∀cl C fp s H pn,PTs (zaz X (capN X.N tgs js) scope cl C fp s H pn) ifs tt)(he:∀cl C fp s H pn,PE (zaz X (capN X.N tgs js) scope cl C fp s H pn) elt te){RR:Θ->Addr->Result->Β->Prop}{Q:VK}(I2:Inv X pins σ H2 s2)(T:Turn X.prog X.w X.K tg J fp it tn)(st2:tn 0 s2.heap)(f2:∀b∈fp,FpOk X pins H2 b)(rd:∀p,H2 p=Ψ->∃W:Nat->Nat->St->Hp->Prop,(∃m,W 0 m (csl tgs.length js σ) (upd H2 p (.lst [])))/\∀i m σ' H',W i m σ' H'->
   (J.stop i H'/\Q (.ref p) H')\/(J.go i H'/\∃N:St->Hp->Prop,(∀σ2 H2,N σ2 H2->∃m',m'<m/\W (i+1) m' σ2 H2)/\
    ∀x H2,J.yld i H' x H2->g x σ' H2 λσ2 H3=>tt σ2 H3 λb H4=>if b=Γ then te σ2 H4 λv H5=>∃acc,H5 p=Φ (.lst acc)/\acc.length<sizeLine/\N σ2 (upd H5 p (.lst (acc++[v]))) else N σ2 H4))(fin:∀p C H' s',Inv X pins σ H' s'->(∃m,s'.heap.Ns C m)->s2.heap.objs.size<C->H' C=Ψ->Q (.ref p) H'->RR (.ref p) C (.ok .next) s'):
  wpAny (model X.prog X.w) X.A (newList []) (λacc s₃=>wpAny (model X.prog X.w) X.A (newFunctionEnv scope X.env.globals (zgZ X.env.cells scope.names []) [] X.env.qual Ψ .none (Φ X.env)) (λcenv s₄=>codeAny (model X.prog X.w) X.A (.compStart (.ListComp elt [⟨tg,iter,ifs,0⟩] scope pos) 0 (.ref it) acc {cenv with scope:=relabel scope X.env}) (RR acc cenv.locals) s₄) E s₃) E s2:=by
 subst hsc;refine wpAny_newObj_type (wpAny_newFunctionEnv ok.nocell (by intro y hy;simp at hy) (λh₁ hns₁ hsb₁=>?_) ok.kind);have I3:Inv X pins σ (upd H2 s2.heap.objs.size (.lst [])) {s2 with heap:=s2.heap.push {cls:=.type "list",data:=.seq ([]:List Θ).toArray}}:=I2.lnew (its:=[]) (ys:=[]) (t':=s2.toks) .nil (zero_le _);obtain⟨W,⟨m0,w0⟩,turn⟩:=rd _ I2.fresh;generalize hp:s2.heap.objs.size=p at *;generalize hs3:({s2 with heap:=s2.heap.push {cls:=.type "list",data:=.seq ([]:List Θ).toArray}}:Β)=s3 at I3;have e3:s3.heap=s2.heap.push {cls:=.type "list",data:=.seq ([]:List Θ).toArray}:=by rw[<-hs3]
 have sz3:s3.heap.objs.size=p+1:=by rw[e3,Heap.size_push,hp]
 generalize hH3:upd H2 p (.lst [])=H3 at *
 -- the block's frame
 have hns:h₁.Ns s3.heap.objs.size (λx=>([]:List (Str×Θ)).reverse.lookup x):=by rw[e3];exact hns₁
 have hsb:Heap.SameBut s3.heap.objs.size (s3.heap.push {cls:=.type "dict",data:=.dict #[]}) h₁:=by rw[e3];exact hsb₁
 have old:∀b o,s3.heap.get? b=Φ o->h₁.get? b=Φ o:=λb o e=>(hsb.2 b (ne_of_lt (Η e))).trans (Λ _ e);have frees:∀y∈scope.names,y.2=.free->∃c,X.env.cells.lookup y.1=Φ c:=λy hy hk=>I2.ok.has y.1 (ok.frees y hy hk);have cellX:∀x c,(zgZ X.env.cells scope.names []).lookup x=Φ c->X.env.cells.lookup x=Φ c:=zga scope.names [] (λx c e=>by simp at e);generalize hcl:zgZ X.env.cells scope.names []=cl at *;have okX:(zaz X (capN X.N tgs js) scope cl s3.heap.objs.size fp s3 H3 (X.pn++pins)).Ok:=
  {mod:=I3.ok.mod,kind:=ok.kind,glob:=I3.ok.glob,blt:=I3.ok.blt,above:=le_refl _,
   inj:=λx y c e1 e2=>I3.ok.inj x y c (cellX x c e1) (cellX y c e2),
   has:=λx hk=>by
    have hk':(scope.names.map (zci X.env)).lookup x=Φ .cell\/(scope.names.map (zci X.env)).lookup x=Φ .free:=by rw[<-zbE];exact hk
    rw[<-hcl];refine zd2 scope.names [] x frees (.inr ?_);rcases hk' with q|q;obtain⟨k0,m,_,e⟩:=zbR X.env x _ _ q;rcases e with e|⟨e,_⟩;subst e;exact absurd rfl (ok.nocell _ m);subst e;exact m;obtain⟨k0,m,_,e⟩:=zbR X.env x _ _ q;rcases e with e|⟨e,z⟩;subst e;exact m;exact absurd z (λh=>(by cases h)),
   cab:=λx c e=>absurd e Ζ,hd:=I3.ok.hd,frames:=I3.ok.frames,stk:=.inl rfl,
   exf:=λb hb=>⟨ne_of_lt (by
    obtain⟨o,ho,_⟩:=T.obj 0 _ st2 b hb;show b<s3.heap.objs.size;rw[sz3,<-hp];exact Nat.lt_succ_of_lt (Η ho)),λx c e=>(f2 b hb).2.2.2.2.1 x c (cellX x c e)⟩,
   bs:=I3.bs,bsz:=le_trans I3.ok.bsz I3.sz,
   noex:=λb o e hb=>by rcases(f2 b hb).2.2.2.1 with z|z;exact I3.ok.noex b o e z;exact absurd (lt_of_lt_of_le (Η e) (le_trans I3.ok.bsz z)) (lt_irrefl _),
   exfs:=λb hb hx=>by rcases mem_cons.mp (I3.stkSub b hx) with z|z;exact(f2 b hb).2.1 z;exact(f2 b hb).2.2.1 z,
   funs:=I3.stack,frf:=I3.stkFree}
 have I4:Inv (zaz X (capN X.N tgs js) scope cl s3.heap.objs.size fp s3 H3 (X.pn++pins)) [] (csl tgs.length js σ) H3 {s3 with heap:=h₁}:=
  {ok:=okX,os:=rfl,bare:=I3.bare,base:=Un.kept old,
   loc:=⟨_,hns,λi x v e1 e2 e3=>by
    have e1:(tgs++js.map λj=>X.N.getD j "")[i]?=Φ x:=e1;have e2:(List.replicate tgs.length Ψ++js.map λj=>(σ[j]?).join)[i]?=Φ (Φ v):=e2;by_cases hi:i<tgs.length;rw[getElem?_append_left (by rw[length_replicate];exact hi),List.getElem?_replicate,if_pos hi]at e2;cases e2;rw[getElem?_append_right (by lia),getElem?_map]at e1;rw[getElem?_append_right (by rw[length_replicate];lia),length_replicate,getElem?_map]at e2;cases hj:js[i-tgs.length]? with
    |none=>rw[hj]at e1;exact nS e1
    |some j=>
     rw[hj]at e1 e2;have e1:X.N.getD j ""=x:=Option.some.inj e1;have e2:(σ[j]?).join=Φ v:=Option.some.inj e2;have hjm:j∈js:=mem_of_getElem? hj;obtain⟨hfr,hjl⟩:=ok.caps j hjm;rw[e1]at hfr;have hNj:X.N[j]?=Φ x:=by rw[getElem?_eq_getElem hjl];rw[Υ,getElem?_eq_getElem hjl]at e1;exact congrArg Φ e1
     have hσ:σ[j]?=Φ (Φ v):=by
      cases q:σ[j]? with
      |none=>rw[q]at e2;exact nS e2
      |some o=>rw[q]at e2;have e2:o=Φ v:=e2;rw[e2]
     have hmem:(x,NameKind.free)∈scope.names:=by obtain⟨l1,l2,h3,_⟩:=List.lookup_eq_some_iff.mp hfr;rw[h3];simp
     have hkX:=ok.frees _ hmem rfl;have hvis:Vis X.env.scope x:=hkX.elim (λz=>.inr (.inl z)) λz=>.inr (.inr z);obtain⟨m,hn,hl⟩:=I3.loc;obtain⟨u,r,lk⟩:=hl j x v hNj hσ hvis;refine⟨u,r,.inr ⟨?_,?_⟩⟩;have q:=zbF X.env x scope.names hfr;rw[<-zbE]at q;exact q.symm;rcases lk with⟨k,_⟩|⟨_,c,ec,z⟩
     . exfalso;have k:X.env.scope.names.lookup x=Φ .local:=k;rcases hkX with q|q<;>(rw[k]at q;cases q)
     obtain⟨c',hc'⟩:∃c',cl.lookup x=Φ c':=by rw[<-hcl];exact zd2 scope.names [] x frees (.inr hmem)
     have q:=cellX x c' hc';rw[ec]at q;cases q;obtain⟨o,ho,hd⟩:=z;exact⟨c,hc',o,old _ _ ho,hd⟩⟩,
   cell:=λx c e=>by obtain⟨v,o,ho,hd⟩:=I3.cell x c (cellX x c e);exact⟨v,o,old _ _ ho,hd⟩,
   free:=I3.fresh,
   freeC:=λx c e=>I3.freeC x c (cellX x c e),
   pin:=λq hq=>by
    have hq:q∈X.pn++pins:=by simpa using hq
    obtain⟨e,n,ne,nf,d⟩:=I3.pin q hq;refine⟨old _ _ e,n,ne_of_lt (Η e),λz=>?_,d⟩;rcases mem_cons.mp (I3.stkSub _ z) with z|z;exact ne z;exact nf z,
   hok:=I3.hok.kept old,
   len:=by show(List.replicate tgs.length Ψ++js.map λj=>(σ[j]?).join).length=(tgs++js.map λj=>X.N.getD j "").length;simp}
 have stat:∀{H':Hp},(∀b∈fp,H' b=Ψ)->∀b∈fp,FpOk (zaz X (capN X.N tgs js) scope cl s3.heap.objs.size fp s3 H3 (X.pn++pins)) [] H' b:=λhn b hb=>
  ⟨hn b hb,(okX.exf b hb).1,okX.exfs b hb,.inl hb,(okX.exf b hb).2,λq hq=>by
   have hq:q∈X.pn++pins:=by simpa using hq
   exact(f2 b hb).2.2.2.2.2 q hq⟩
 have fr3:∀b∈fp,H3 b=Ψ:=λb hb=>by obtain⟨o,ho,_⟩:=T.obj 0 _ st2 b hb;rw[<-hH3,zah (ne_of_lt (hp▸Η ho))];exact(f2 b hb).1
 have st4:tn 0 h₁:=T.keep 0 _ _ st2 λb hb o e=>old b o (by rw[e3];exact Λ _ e);have loop:codeAny (model X.prog X.w) X.A (.compLoop (.ListComp elt [⟨tg,iter,ifs,0⟩] scope pos) 0 (.ref it) (.ref p) (compEnvC scope cl s3.heap.objs.size X.env)) (RR (.ref p) s3.heap.objs.size) {s3 with heap:=h₁}:=by
  refine ziP (λn s'=>∃i σ' H',Inv (zaz X (capN X.N tgs js) scope cl s3.heap.objs.size fp s3 H3 (X.pn++pins)) [] σ' H' s'/\tn i s'.heap/\(∀b∈fp,H' b=Ψ)/\W i n σ' H') ?_ m0 ⟨0,_,H3,I4,st4,fr3,w0⟩;rintro n s4 ⟨i,σ4,H4,J4,st4,fr4,w4⟩;rcases turn i n σ4 H4 w4 with⟨stop,qn⟩|⟨go,N,hN,step⟩;refine thn (T.done (zaz X (capN X.N tgs js) scope cl s3.heap.objs.size fp s3 H3 (X.pn++pins)) rfl rfl rfl hc i [] s4 σ4 H4 _ J4 (stat fr4) st4 stop) λr s5 ⟨hr,J5⟩=>.inl ⟨hr,?_⟩;have hX:Inv X pins σ H4 s5:=I3.call' J5.os J5.base J5.hok J5.bare λb hb=>⟨(f2 b hb).2.2.2.1,(f2 b hb).2.1,(f2 b hb).2.2.2.2.1,(f2 b hb).2.2.2.2.2⟩;obtain⟨m,hm,_⟩:=J5.loc;exact fin p _ H4 s5 hX ⟨m,hm⟩ (by rw[sz3];exact Nat.lt_succ_self _) J5.free qn
  refine thn (T.item (zaz X (capN X.N tgs js) scope cl s3.heap.objs.size fp s3 H3 (X.pn++pins)) rfl rfl rfl hc i [] s4 σ4 H4 _ J4 (stat fr4) st4 go) λr s5 ⟨u,hr,h5⟩=>.inr ⟨u,hr,?_⟩;refine thn h5 λ_ s6 q'=>?_;obtain⟨x,H6,J6,r6,y6,st6,fr6⟩:=q';have J6':=J6.pinned (stat fr6) (T.obj _ _ st6);refine thn (hg _ _ _ _ _ _ _ s6 σ4 H6 x u _ J6' r6 (step x H6 y6)) λ_ s7 q'=>?_;obtain⟨σ7,H7,J7,q7⟩:=q';refine thn (ht _ _ _ _ _ _ _ s7 σ7 H7 _ J7 q7) λok8 s8 q'=>?_;obtain⟨H8,J8,q8⟩:=q';have again:∀{s9:Β}{H9:Hp},Inv (zaz X (capN X.N tgs js) scope cl s3.heap.objs.size fp s3 H3 (X.pn++pins)) ([]++zfE fp s6.heap) σ7 H9 s9->N σ7 H9->
    ∃m,m<n/\∃i σ' H',Inv (zaz X (capN X.N tgs js) scope cl s3.heap.objs.size fp s3 H3 (X.pn++pins)) [] σ' H' s9/\tn i s9.heap/\(∀b∈fp,H' b=Ψ)/\W i m σ' H':=λ{s9 H9} J9 n9=>by
   obtain⟨m',hm,w9⟩:=hN σ7 H9 n9;refine⟨m',hm,i+1,σ7,H9,J9.unpinned,T.keep _ _ _ st6 λb hb o e=>(J9.pin (b,o) (mem_append_right _ (mem_append_right _ (zcb hb e)))).1,λb hb=>?_,w9⟩;obtain⟨o,e,d⟩:=T.obj _ _ st6 b hb;exact(J9.pin (b,o) (mem_append_right _ (mem_append_right _ (zcb hb e)))).2.1
  cases ok8 with|false=>exact again J8 q8| true=>refine thn (he _ _ _ _ _ _ _ s8 σ7 H8 _ J8 q8) λy s9 q'=>?_;obtain⟨v,H9,J9,r9,acc,ha,hl,q9⟩:=q';refine thn (zfH _ s9 σ7 H9 (.ref p) [v] (.ref p) [y] (λ_ H=>N σ7 H) J9 rfl (.cons r9 .nil) ⟨p,acc,v,rfl,rfl,ha,hl,q9⟩) λ_ s10 q'=>?_;obtain⟨_,H10,J10,_,q10⟩:=q';exact again J10 q10
 exact codeAny_compStart_list loop (T.self _ 0 _ _ _ st4 loop)
def zlK(sc)(tgs)(js)(hc:X.calm=Γ)(hsc:X.env.scope=sc)(ok:CompOk sc scope X.N js)(hi:PI X tg iter wi)(hg:∀cl C fp s H pn,PG (zaz X (capN X.N tgs js) scope cl C fp s H pn) tg g)(ht:∀cl C fp s H pn,PTs (zaz X (capN X.N tgs js) scope cl C fp s H pn) ifs tt)(he:∀cl C fp s H pn,PE (zaz X (capN X.N tgs js) scope cl C fp s H pn) elt te)(hs:∀x,foldedSetIterable iter X.env x=pure x:=by intro _;rfl):
  PE X (.ListComp elt [⟨tg,iter,ifs,0⟩] scope pos) (znx tgs.length js wi g tt te):=by
 intro pins s σ H Q I h;rw[eval_ListComp];have frees:∀y∈scope.names,y.2=.free->∃c,X.env.cells.lookup y.1=Φ c:=λy hy hk=>I.ok.has y.1 (by
  have q:=ok.frees y hy hk;rw[<-hsc]at q;exact q)
 refine wpAny_comprehension_free (use:=Ψ) rfl hs (zbK frees) ok.kind ok.locs (thn (hi pins s σ H _ I h) λv s1 h1=>thn h1 λitv s2 h2=>?_);obtain⟨it,fp,tn,J,H2,e,I2,T,st2,f2,rd⟩:=h2;subst e;refine zem hc hsc ok hg ht he I2 T st2 f2 rd (Q:=Q) λp C H' s' I' hm hC hn q=>?_;obtain⟨m,hm⟩:=hm;refine⟨m,hm,λh' hs'=>⟨.ref p,H',?_,rfl,q⟩⟩;exact I'.turned (t':=s'.toks) (it:=C) (λb o hb e=>(hs'.2 b hb).trans e) hn (ne_of_gt (lt_trans I2.lt hC)) (.inr (le_trans I2.sz (le_of_lt hC))) (λx c e=>by obtain⟨v,o,ho,_⟩:=I2.cell x c e;exact ne_of_lt (lt_trans (Η ho) hC)) λq hq=>ne_of_lt (lt_trans (Η (I2.pin q hq).1) hC)
def zof(sc)(tgs)(js)(hN:X.N.Nodup)(hi':X.N[i]?=Φ y)(hy:Loc X.env.scope y)(hc:X.calm=Γ)(hsc:X.env.scope=sc)(ok:CompOk sc scope X.N js)(hi:PI X tg iter wi)(hg:∀cl C fp s H pn,PG (zaz X (capN X.N tgs js) scope cl C fp s H pn) tg g)(ht:∀cl C fp s H pn,PTs (zaz X (capN X.N tgs js) scope cl C fp s H pn) ifs tt)(he:∀cl C fp s H pn,PE (zaz X (capN X.N tgs js) scope cl C fp s H pn) elt te)(hsw:swapsWith (.ListComp elt [⟨tg,iter,ifs,0⟩] scope pos) (Φ (.Name y py)) spos.line X.env=pure Γ:=by rfl)(hs:∀x,foldedSetIterable iter X.env x=pure x:=by intro _;rfl)(hf:X.fn y=Γ\/X.env.scope.names.lookup y=Φ .local:=by first|exact .inl rfl|exact .inr rfl|assumption):
  PS X (.Assign [.Name y py] (.ListComp elt [⟨tg,iter,ifs,0⟩] scope pos) spos) (tAsg (znx tgs.length js wi g tt te) (zff i)):=by
 intro pins s σ H D I h;have frees:∀y∈scope.names,y.2=.free->∃c,X.env.cells.lookup y.1=Φ c:=λy hy hk=>I.ok.has y.1 (by
  have q:=ok.frees y hy hk;rw[<-hsc]at q;exact q)
 rw[exec_Assign_Name_used _ _ _ _ hsw];refine Α (wpAny_standAt (Α ?_));show wpAny _ X.A (do let _ <-comprehension (.ListComp elt [⟨tg,iter,ifs,0⟩] scope pos) scope X.env _ (newList []) Δ (eval iter X.env) (Φ (assign (.Name y py) X.env))) _ _ s;refine Α (ϑ (wpAny_comprehension_free (use:=Φ (assign (.Name y py) X.env)) (Q:=λ_ s'=>SP X pins D .next s') rfl hs (zbK frees) ok.kind ok.locs
  (thn (hi pins s σ H _ I h) λv s1 h1=>thn h1 λitv s2 h2=>?_)) (λ_ s' hq=>Ν (Ν hq)) λ_ _ e=>e)
 obtain⟨it,fp,tn,J,H2,e,I2,T,st2,f2,rd⟩:=h2;subst e;refine zem hc hsc ok hg ht he I2 T st2 f2 rd (Q:=λx H1=>zff i x σ H1 D.nx) λp C H' s' I' hm hC hn q=>?_;obtain⟨m,hm⟩:=hm;have hL:C≠X.env.locals:=ne_of_gt (lt_trans I2.lt hC);have hCc:∀x c,X.env.cells.lookup x=Φ c->c≠C:=λx c e=>by obtain⟨v,o,ho,_⟩:=I2.cell x c e;exact ne_of_lt (lt_trans (Η ho) hC)
 show wpAny _ X.A (assign (.Name y py) X.env (.ref p)) _ _ _;refine wpAny_assign_Name (zfr I' hN hi' hy (v:=.ref p) rfl (λs'' I'' hch=>?_) hf);obtain⟨a,hsb,ha⟩:=hch;have hCa:C≠a:=by rcases ha with z|z;rw[z];exact hL;exact λe=>hCc y a z e.symm
 refine⟨m,hm.sameBut hsb hCa,λh' hs'=>⟨σ.set i (Φ (.ref p)),H',?_,q⟩⟩;exact I''.turned (t':=s''.toks) (it:=C) (λb o hb e=>(hs'.2 b hb).trans e) hn hL (.inr (le_trans I2.sz (le_of_lt hC))) hCc λq hq=>ne_of_lt (lt_trans (Η (I2.pin q hq).1) hC)
end
structure FunV(K:Frag)(x qual:Str)(st:Stmt)(dV:Θ)(f:Addr)(fd:FuncData):Prop where
 ex:∃(oc:Θ) (od:Option Addr) (kV doc pm:Θ) (an:Option Addr) (cdv ct:Θ) (osl:Array (Option Θ)),
  fd=fnOf x qual (zaq st) (zam st) (zaa st) dV kV doc pm an cdv ct/\K.lookup f=Φ ⟨oc,od,.func fd,osl⟩/\codeIn K cdv qual=Γ
 kp:keepIn K (.ref f)=Γ
def zc1{K}{st}{dV kV doc pm cdv ct}(l:K.lookup f=Φ ⟨oc,od,.func (fnOf x qual (zaq st) (zam st) (zaa st) dV kV doc pm an cdv ct),osl⟩)(c:codeIn K cdv qual=Γ)(k:keepIn K (.ref f)=Γ):FunV K x qual st dV f (fnOf x qual (zaq st) (zam st) (zaa st) dV kV doc pm an cdv ct):=⟨⟨oc,od,kV,doc,pm,an,cdv,ct,osl,rfl,l,c⟩,k⟩
section
variable{P:ϊ}{w:ύ}{K:Frag}{mg:Str->Option Θ}{base:Heap}
def FunV.ok{st}(F:FunV K x qual st dV f fd)(S:FnScope N ps (zaa st))(len:∀vs H Q E,sp vs H Q E->vs.length=ps.length)(hbody:∀(cdv:Θ)(A:ϔ)(outer:List Env)(s:Β)(H:Hp)(vs:List V)(Q:VK)(E:XK),Room k (A.deeper (envOfC qual (zaa st) s.heap.objs.size f cdv))->sp vs H Q E->
   ∃t,PSs (cxOf CX0 P w K mg base N qual (zaa st) f cdv A outer s H E).nox (zam st) t/\t {nx:=λ_ H'=>Q .non H',rt:=Q} (start N vs) H):FnOk P w K mg base CX0 (k+1) f fd ps sp:=by
 obtain⟨oc,od,kV,doc,pm,an,cdv,ct,osl,rfl,lk,hcd⟩:=F.ex;refine zmj lk hcd S len λA outer s H vs Q E hr hsp=>?_;obtain⟨t,h,q⟩:=hbody cdv A outer s H vs Q E hr hsp;exact⟨t,h.nox,q⟩
def FunV.binds{st}(F:FunV K x c st g f fd)(h:∀(kV a d:Θ)(e:Option Addr)(b ct:Θ)(us:List Θ),us.length=ps.length->bindArgs (fnOf x c (zaq st) (zam st) (zaa st) g kV a d e b ct) ⟨us,[]⟩=pure (ps.zip us)):Binds K fd ps []:=by
 obtain⟨k,l,kV,a,d,e,b,ct,i,rfl,lk,j⟩:=F.ex;exact .all (h kV a d e b ct)
structure Has(P:ϊ)(w:ύ)(K:Frag)(mg:Str->Option Θ)(base:Heap)(k:Nat)(x:Str)(ps:List Str)(dvs:List V)(sp:Sp):Prop where
 ex:∃(f:Addr) (fd:FuncData) (ds:List Θ),FnOk P w K mg base CX0 k f fd ps sp/\mg x=Φ (.ref f)/\keepIn K (.ref f)=Γ/\Binds K fd ps ds/\Vals dvs ds
end
def zqS(G:Has X.prog X.w X.K X.mg X.base k x ps dvs sp)(hr:Room k X.A)(ha:PA X (e::es) t)(hg:Gl X x:=by rfl)(hdb:(x==("__debug__":Str))=Δ:=by decide)(he:starEach (e::es) X.env=(Δ,eval e X.env)::starEach es X.env:=by rfl)(hpl:(backTo pos (starEach es X.env)).any (·.1)=Δ:=by rfl):
  PE X (.Call (.Name x p) (e::es) [] pos) (zeJ sp dvs E0 t):=by
 obtain⟨f,fd,ds,F,hm,hk,hb,hd⟩:=G.ex;exact zoz F hr hg hm hk hb hd zgD ha hdb he hpl
def zqR(G:Has X.prog X.w X.K X.mg X.base k x ps dvs sp)(hr:Room k X.A)(hg:Gl X x:=by rfl)(hdb:(x==("__debug__":Str))=Δ:=by decide):PE X (.Call (.Name x p) [] [] pos) (zeJ sp dvs E0 tNil):=by
 obtain⟨f,fd,ds,F,hm,hk,hb,hd⟩:=G.ex;exact zlQ F hr hg hm hk hb hd zgD hdb
mutual
noncomputable def Rep(H:Hp):PyData->V->Prop
 |.none,v=>v=.non|.bool b,v=>v=.bl b|.int i,v=>v=.int i|.str x,v=>v=.str x|.list ds,v=>∃a vs,v=.ref a/\H a=Φ (.lst vs)/\RepAll H ds vs|.tuple ds,v=>∃a vs,v=.ref a/\H a=Φ (.tup vs)/\RepAll H ds vs|.dict _,_=>False
noncomputable def RepAll(H:Hp):List PyData->List V->Prop
 | [],vs=>vs=[]|d::ds,vs=>∃v r,vs=v::r/\Rep H d v/\RepAll H ds r
end
mutual
noncomputable def imm:PyData->Bool
 |.none=>Γ|.bool _=>Γ|.int _=>Γ|.str _=>Γ|.list _=>Δ|.tuple ds=>zfW ds|.dict _=>Δ
noncomputable def zfW:List PyData->Bool
 | []=>Γ|d::ds=>imm d&&zfW ds
end
abbrev Tups(H H':Hp):Prop:=∀b xs,H b=Φ (.tup xs)->H' b=Φ (.tup xs)
def Tups.refl(H):Tups H H:=λ_ _ h=>h
def Tups.trans(a:Tups H e)(b:Tups e f):Tups H f:=λc d h=>b c d (a c d h)
def Tups.upd{H:Hp}{p:Addr}{o:HO}(h:∀xs,H p≠Φ (.tup xs)):Tups H (upd H p o):=λb xs e=>by
 have hb:b≠p:=λz=>by subst z;exact h xs e
 rw[zah hb];exact e
def Tups.upd_lst(h:H p=Φ (.lst xs)):Tups H (L2.upd H p o):=Tups.upd λa e=>by rw[h]at e;cases e
def Tups.upd_new(h:H p=Ψ):Tups H (L2.upd H p o):=Tups.upd λa e=>by rw[h]at e;exact nS e
mutual
theorem Rep.same{H H':Hp}(hs:Same H H'):∀{d:PyData}{v:V},Rep H d v->Rep H' d v
 |.none,_,h=>h|.bool _,_,h=>h|.int _,_,h=>h|.str _,_,h=>h| .list ds,v,h=>by obtain⟨a,vs,e,ha,r⟩:=h;exact⟨a,vs,e,hs _ _ ha,RepAll.same hs r⟩| .tuple ds,v,h=>by obtain⟨a,vs,e,ha,r⟩:=h;exact⟨a,vs,e,hs _ _ ha,RepAll.same hs r⟩|.dict _,_,h=>h
theorem RepAll.same{H H':Hp}(hs:Same H H'):∀{ds:List PyData}{vs:List V},RepAll H ds vs->RepAll H' ds vs
 | [],_,h=>h| d::ds,vs,h=>by obtain⟨v,r,e,h1,h2⟩:=h;exact⟨v,r,e,Rep.same hs h1,RepAll.same hs h2⟩
end
mutual
theorem Rep.tups{H H':Hp}(hs:Tups H H'):∀{d:PyData}{v:V},imm d=Γ->Rep H d v->Rep H' d v
 |.none,_,_,h=>h|.bool _,_,_,h=>h|.int _,_,_,h=>h|.str _,_,_,h=>h|.list ds,v,i,h=>by simp[imm]at i| .tuple ds,v,i,h=>by obtain⟨a,vs,e,ha,r⟩:=h;exact⟨a,vs,e,hs _ _ ha,RepAll.tups hs (by simpa[imm]using i) r⟩|.dict _,_,_,h=>h
theorem RepAll.tups{H H':Hp}(hs:Tups H H'):∀{ds:List PyData}{vs:List V},zfW ds=Γ->RepAll H ds vs->RepAll H' ds vs
 | [],_,_,h=>h| d::ds,vs,i,h=>by
  obtain⟨v,r,e,h1,h2⟩:=h;have i':imm d=Γ/\zfW ds=Γ:=by simpa[zfW]using i
  exact⟨v,r,e,Rep.tups hs i'.1 h1,RepAll.tups hs i'.2 h2⟩
end
mutual
theorem Rep.reads{X:Cx}{pins:List (Addr×Obj)}{σ:St}{H:Hp}{s:Β}(I:Inv X pins σ H s):∀(d:PyData)(v:V)(u:Θ),Rep H d v->RelV v u->∃as,Reads s.heap u d as
 |.none,v,u,h,r=>by cases(show v=.non from h);cases(show u=Θ.none from r);exact⟨_,.none⟩| .bool b,v,u,h,r=>by cases(show v=.bl b from h);cases(show u=Θ.bool b from r);exact⟨_,.bool b⟩| .int i,v,u,h,r=>by cases(show v=.int i from h);obtain⟨t,rfl⟩:=(show ∃t,u=Θ.int i t from r);exact⟨_,.int i t⟩| .str x,v,u,h,r=>by cases(show v=.str x from h);obtain⟨t,rfl⟩:=(show ∃t,u=Θ.str x t from r);exact⟨_,.str x t⟩| .list ds,v,u,h,r=>by obtain⟨a,vs,rfl,ha,hr⟩:=h;cases(show u=Θ.ref a from r);obtain⟨its,n,rv,e,_⟩:=I.lst ha;obtain⟨as,q⟩:=RepAll.reads I ds vs its hr rv;exact⟨_,.list e rfl rfl q⟩| .tuple ds,v,u,h,r=>by obtain⟨a,vs,rfl,ha,hr⟩:=h;cases(show u=Θ.ref a from r);obtain⟨its,rv,⟨o,e1,e2,n,e3⟩,_⟩:=I.tuple (SqT.of (K:=X.K) ha);obtain⟨as,q⟩:=RepAll.reads I ds vs its hr rv;exact⟨_,.tuple e1 e2 e3 q⟩|.dict _,_,_,h,_=>False.elim h
theorem RepAll.reads{X:Cx}{pins:List (Addr×Obj)}{σ:St}{H:Hp}{s:Β}(I:Inv X pins σ H s):∀(ds:List PyData)(vs:List V)(us:List Θ),RepAll H ds vs->Vals vs us->∃as,ReadsAll s.heap us ds as
 | [],vs,us,h,r=>by cases(show vs=[] from h);cases r;exact⟨_,.nil⟩| d::ds,vs,us,h,r=>by obtain⟨v,vr,rfl,h1,h2⟩:=h;cases r with| cons r1 r2=>obtain⟨as,q1⟩:=Rep.reads I d v _ h1 r1;obtain⟨bs,q2⟩:=RepAll.reads I ds vr _ h2 r2;exact⟨_,.cons q1 q2⟩
end
def eqv_int(i j):PyData.eqv (.int i) (.int j)=(i==j):=by simp[PyData.eqv]
section
variable{X:Cx}
abbrev rEqD(g:Bool->Bool):R2:=λx y H Q=>∃da db,Rep H da x/\Rep H db y/\da.canLay0=Γ/\db.canLay0=Γ/\min da.depth db.depth<=60/\Q (.bl (g (PyData.eqv da db))) H
def zq3(hu:X.A.units+64<cLine):OpR X (compareOp .Eq) (rEqD id):=by intro pins s σ H x y v u Q I rx ry h;obtain⟨da,db,h1,h2,l1,l2,hd,q⟩:=h;obtain⟨as,r1⟩:=Rep.reads I da x v h1 rx;obtain⟨bs,r2⟩:=Rep.reads I db y u h2 ry;exact SeqAt.compareEq_reads r1 r2 l1 l2 (by lia) (zap I q rfl)
def zqZ(hu:X.A.units+64<cLine):OpR X (compareOp .NotEq) (rEqD not):=by intro pins s σ H x y v u Q I rx ry h;obtain⟨da,db,h1,h2,l1,l2,hd,q⟩:=h;obtain⟨as,r1⟩:=Rep.reads I da x v h1 rx;obtain⟨bs,r2⟩:=Rep.reads I db y u h2 ry;exact SeqAt.compareNe_reads r1 r2 l1 l2 (by lia) (zap I q rfl)
def zq2:OpR X (compareOp .Is) (λx y H Q=>∃a b,x=.bl a/\y=.bl b/\Q (.bl (a==b)) H):=by intro pins s σ H x y v u Q I rx ry h;obtain⟨a,b,rfl,rfl,q⟩:=h;cases rx;cases ry;refine wpAny_is_plain (by cases a<;>cases b<;>rfl) (zap I q ?_);cases a<;>cases b<;>rfl
abbrev zc8(H:Hp):V->Option String
 |.non=>Φ "NoneType"|.bl _=>Φ "bool"|.int _=>Φ "int"|.str _=>Φ "str"
 |.ref a=>match H a with
  |some (.lst _)=>Φ "list"|some (.frz _ (.lst _))=>Φ "list"|some (.tup _)=>Φ "tuple"|some (.dK _)=>Φ "dict"|some (.dT _)=>Φ "dict"|_=>Ψ
 |_=>Ψ
def zjb{K}(h:zc8 H x=Φ a):TyOf K H x (.type a):=by
 cases x with
 |non=>cases h;exact .non|bl b=>cases h;exact .bl b|int i=>cases h;exact .int i|str y=>cases h;exact .str y|byt _=>exact nS h
 |flt _=>exact nS h
 |ty _=>exact nS h
 |ref p=>
  unfold zc8 at h;cases e:H p with
  |none=>simp[e]at h| some o=>
   cases o with
   |lst xs=>simp[e]at h;subst h;exact .lst e|tup xs=>simp[e]at h;subst h;exact .tup e|dK kvs=>simp[e]at h;subst h;exact .dK e|dT kvs=>simp[e]at h;subst h;exact .dT e| frz ob q=>cases q with|lst xs=>simp[e]at h;subst h;exact .frz e|_=>simp[e]at h
   |_=>simp[e]at h
abbrev subT(a b:String):Bool:=a==b||(a=="bool"&&b=="int")
def zoS(K)(ha:a∈["NoneType","bool","int","str","list","tuple","dict"])(hb:b∈["bool","int","str","list","tuple","dict"]):kitOne K (.type a) (.type b)=Φ (subT a b):=by simp only[mem_cons,not_mem_nil,or_false]at ha hb;rcases ha with rfl|rfl|rfl|rfl|rfl|rfl|rfl<;>rcases hb with rfl|rfl|rfl|rfl|rfl|rfl<;>rfl
def zh2(h:zc8 H x=Φ a):a∈["NoneType","bool","int","str","list","tuple","dict"]:=by
 cases x with
 |non=>cases h;simp|bl b=>cases h;simp|int i=>cases h;simp|str y=>cases h;simp|byt _=>exact nS h
 |flt _=>exact nS h
 |ty _=>exact nS h
 |ref p=>unfold zc8 at h;simp only at h;split at h<;>first|(cases h;simp)|exact nS h
def zd3:zbC X (.builtin "isinstance") (λxs H Q=>∃x c a,xs=[x,.ty c]/\zc8 H x=Φ a/\c∈["bool","int","str","list","tuple","dict"]/\Q (.bl (subT a c)) H):=by intro pins s σ H xs us Q I r h;obtain⟨x,c,a,rfl,hx,hc,q⟩:=h;obtain⟨u,w',rfl,rx,rc⟩:=znm r;cases(show w'=Θ.type c from rc);exact zkh I rx (zjb hx) (zoS X.K (zh2 hx) hc) λtk=>⟨.bl (subT a c),H,I.tok tk,rfl,q⟩
end
section
variable{X:Cx}(K:Frag)(hK:X.K=K)
include hK
end
def zrP:bootBuiltins "len"=Φ (.builtin "len"):=by decide +kernel
def zrR:bootBuiltins "abs"=Φ (.builtin "abs"):=by decide +kernel
def zrO:bootBuiltins "max"=Φ (.builtin "max"):=by decide +kernel
def zrQ:bootBuiltins "all"=Φ (.builtin "all"):=by decide +kernel
def zcQ:bootBuiltins "isinstance"=Φ (.builtin "isinstance"):=by decide +kernel
def zne:bootBuiltins "int"=Φ (.type "int"):=by decide +kernel
def zpl:bootBuiltins "bool"=Φ (.type "bool"):=by decide +kernel
def zrM:bootBuiltins "str"=Φ (.type "str"):=by decide +kernel
def zg1:bootBuiltins "list"=Φ (.type "list"):=by decide +kernel
def zms:bootBuiltins "tuple"=Φ (.type "tuple"):=by decide +kernel
def zpk:bootBuiltins "dict"=Φ (.type "dict"):=by decide +kernel
def zrK{K}{st}(n)(hn:ps.length=n+ds.length)(F:FunV K x qual st (.ref d) f fd)(e:K.lookup d=Φ ⟨xc,xd,.seq items xn,xs⟩)(h:∀(kV doc pm:Θ)(an:Option Addr)(cdv ct:Θ)(us:List Θ),us.length=n->∃k,bindArgs (fnOf x qual (zaq st) (zam st) (zaa st) (.ref d) kV doc pm an cdv ct) ⟨us,[]⟩=seqItems? (.ref d)>>=k/\k (Φ items)=pure (ps.zip (us++ds))):
  Binds K fd ps ds:=by
 obtain⟨oc,od,kV,doc,pm,an,cdv,ct,osl,rfl,lk,hcd⟩:=F.ex;intro s us KX hl;obtain⟨k,h1,h2⟩:=h kV doc pm an cdv ct us (by rw[length_append]at hl;lia);exact BindsTo.of_defaults (T:=d) rfl (KX _ _ e) rfl h1 h2
end L2
namespace R
@[reducible]def K3:=Int×List Int×Int
abbrev lexZ:List Int->List Int->Bool
 | [],[]=>Δ| [],_::_=>Γ|_::_,[]=>Δ|x::xs,y::ys=>if x=y then lexZ xs ys else decide (x<y)
def zcK(x y)(xs ys):lexZ (x::xs) (y::ys)=if x=y then lexZ xs ys else decide (x<y):=rfl
def zce:∀l:List Int,lexZ l l=Δ
 | []=>rfl|x::l=>by rw[zcK,if_pos rfl];exact zce l
def zfM:∀{a b c:List Int},lexZ a b=Γ->lexZ b c=Γ->lexZ a c=Γ
 | [],[],c,h,k=>by exact nB h| [],y::b,[],h,k=>by exact nB k| [],y::b,z::c,h,k=>rfl|x::a,[],c,h,k=>by exact nB h|x::a,y::b,[],h,k=>by exact nB k| x::a,y::b,z::c,h,k=>by rw[zcK]at h k⊢;split at h;rename_i e1;split at k;rename_i e2;rw[if_pos (e1.trans e2)];exact zfM h k;rename_i e2;have k:=of_decide_eq_true k;rw[if_neg (by lia)];exact decide_eq_true (by lia);rename_i e1;have h:=of_decide_eq_true h;split at k;rename_i e2;rw[if_neg (by lia)];exact decide_eq_true (by lia);rename_i e2;have k:=of_decide_eq_true k;rw[if_neg (by lia)];exact decide_eq_true (by lia)
def zfN:∀{a b:List Int},a≠b->lexZ a b=Γ\/lexZ b a=Γ
 | [],[],h=>absurd rfl h| [],y::b,_=>.inl rfl|x::a,[],_=>.inr rfl| x::a,y::b,h=>by rw[zcK,zcK];by_cases e:x=y;subst e;rw[if_pos rfl,if_pos rfl];exact zfN λz=>h (by rw[z]);rw[if_neg e,if_neg (Ne.symm e)];rcases Int.lt_or_gt_of_ne e with z|z;exact .inl (decide_eq_true z);exact .inr (decide_eq_true z)
abbrev Lt3(a b:K3):Prop:=a.1<b.1\/(a.1=b.1/\(lexZ a.2.1 b.2.1=Γ\/(a.2.1=b.2.1/\a.2.2<b.2.2)))
noncomputable instance(a b:K3):Decidable (Lt3 a b):=by unfold Lt3;infer_instance
def zcd(a):¬Lt3 a a:=by unfold Lt3;rw[zce];simp
def zdP(h:Lt3 a b)(k:Lt3 b c):Lt3 a c:=by unfold Lt3 at *;rcases h with h|⟨h1,h2⟩;rcases k with k|⟨k1,k2⟩;exact .inl (by lia);exact .inl (by lia);rcases k with k|⟨k1,k2⟩;exact .inl (by lia);refine .inr ⟨h1.trans k1,?_⟩;rcases h2 with h2|⟨h2,h3⟩;rcases k2 with k2|⟨k2,k3⟩;exact .inl (zfM h2 k2);exact .inl (k2▸h2);rcases k2 with k2|⟨k2,k3⟩;exact .inl (h2▸k2);exact .inr ⟨h2.trans k2,by lia⟩
def zfK(h:a≠b):Lt3 a b\/Lt3 b a:=by unfold Lt3;obtain⟨e,f,g⟩:=a;obtain⟨b1,b2,b3⟩:=b;dsimp only;by_cases c:e=b1;by_cases d:f=b2;have e3:g≠b3:=λz=>h (by rw[c,d,z]);rcases Int.lt_or_gt_of_ne e3 with z|z;exact .inl (.inr ⟨c,.inr ⟨d,z⟩⟩);exact .inr (.inr ⟨c.symm,.inr ⟨d.symm,z⟩⟩);rcases zfN d with z|z;exact .inl (.inr ⟨c,.inl z⟩);exact .inr (.inr ⟨c.symm,.inl z⟩);rcases Int.lt_or_gt_of_ne c with z|z;exact .inl (.inl z);exact .inr (.inl z)
abbrev ins3(x:K3):List K3->List K3
 | []=>[x]|y::l=>if Lt3 x y then x::y::l else y::ins3 x l
abbrev zeL:List K3->List K3
 | []=>[]|x::l=>ins3 x (zeL l)
def zdY(x):∀l:List K3,(ins3 x l).Perm (x::l)
 | []=>List.Perm.refl _| y::l=>by unfold ins3;split;exact List.Perm.refl _;exact((zdY x l).cons y).trans (List.Perm.swap ..)
def zaP:∀l:List K3,(zeL l).Perm l
 | []=>List.Perm.refl _|x::l=>(zdY x _).trans ((zaP l).cons x)
def zdX(x):∀{l:List K3},x∉l->l.Pairwise Lt3->(ins3 x l).Pairwise Lt3
 | [],_,_=>by simp[ins3]| y::l,hx,h=>by have h':=ϣ.mp h;unfold ins3;split;rename_i c;exact ϣ.mpr ⟨λz hz=>by rcases mem_cons.mp hz with e|e;rw[e];exact c;exact zdP c (h'.1 z e),h⟩;rename_i c;refine ϣ.mpr ⟨λz hz=>?_,zdX x (λm=>hx (Ο _ m)) h'.2⟩;rcases mem_cons.mp ((zdY x l).mem_iff.mp hz) with e|e;rw[e];rcases zfK (a:=y) (b:=x) (λz=>hx (by rw[z];exact ϋ)) with q|q;exact q;exact absurd q c;exact h'.1 z e
def zbh:∀{l:List K3},l.Nodup->(zeL l).Pairwise Lt3
 | [],_=>Pairwise.nil| x::l,h=>by have h':=nodup_cons.mp h;exact zdX x (λm=>h'.1 ((zaP l).mem_iff.mp m)) (zbh h'.2)
def zcm:∀{a b:List K3},a.Perm b->a.Pairwise Lt3->b.Pairwise Lt3->a=b
 | [],b,p,_,_=>(List.nil_perm.mp p).symm|x::a,[],p,_,_=>absurd (List.perm_nil.mp p) (by simp)| x::a,y::b,p,ha,hb=>by
  have ha':=ϣ.mp ha;have hb':=ϣ.mp hb;have e:x=y:=by rcases mem_cons.mp (p.mem_iff.mp ϋ) with e1|e1;exact e1;rcases mem_cons.mp (p.mem_iff.mpr ϋ) with e2|e2;exact e2.symm;exact absurd (zdP (hb'.1 x e1) (ha'.1 y e2)) (zcd y)
  subst e;rw[zcm (List.Perm.cons_inv p) ha'.2 hb'.2]
def zf3{α:Type}{p q}:∀{l:List α},(∀x∈l,p x=Γ->q x=Γ)->(l.filter p).length<=(l.filter q).length
 | [],_=>le_refl _| x::l,h=>by have ih:=zf3 (l:=l) λy hy=>h y (Ο _ hy);rw[List.filter_cons,List.filter_cons];cases e:p x with|true=>rw[h x ϋ e];simp;exact ih| false=>cases q x with|true=>simp;lia|false=>simpa using ih
def zf2{α:Type}{p q}:∀{l:List α}{a:α},(∀x∈l,p x=Γ->q x=Γ)->a∈l->p a=Δ->q a=Γ->(l.filter p).length<(l.filter q).length
 | [],_,_,h,_,_=>by cases h| x::l,a,h,ha,hp,hq=>by rw[List.filter_cons,List.filter_cons];rcases mem_cons.mp ha with e|e;subst e;have:=zf3 (l:=l) λy hy=>h y (Ο _ hy);rw[hp,hq];simp;lia;have ih:=zf2 (l:=l) (λy hy=>h y (Ο _ hy)) e hp hq;cases e':p x with|true=>rw[h x ϋ e'];simp;exact ih| false=>cases q x with|true=>simp;lia|false=>simpa using ih
end R
namespace R
open PySem PySem.Spec PyProof.Rows L2
section
variable{prog:ϊ}{w:ύ}{A:ϔ}{E:Θ->Β->Prop}{s:Β}
abbrev IsTri(prog:ϊ)(w:ύ)(h:Heap)(k:K3)(a:Addr):Prop:=∃o t u b n,h.get? a=Φ o/\o.cls=.type "tuple"/\o.data=.seq #[.int k.1 t,.ref b,.int k.2.2 u] n/\IsTupleKey (zar prog w) h (k.2.1.map Sum.inl) b
def zgP{x y:List Int}(h:(x.map Sum.inl:List Key)=y.map Sum.inl):x=y:=(List.map_inj_right (λa b e=>Sum.inl.inj e)).mp h
def IsTri.typeIs(x:IsTri prog w s.heap k a):s.TypeIs (.ref a) "tuple":=by obtain⟨o,_,_,_,_,b,c,_⟩:=x;exact⟨o,b,c⟩
def IsTri.inj(hx:IsTri prog w h x a)(hy:IsTri prog w h y a):x=y:=by obtain⟨o,t,u,b,n,ho,_,hd,hi⟩:=hx;obtain⟨o',t',u',b',n',ho',_,hd',hi'⟩:=hy;obtain rfl:o=o':=Option.some.inj (ho.symm.trans ho');rw[hd]at hd';injection hd' with h1 _;have h1:=congrArg Array.toList h1;simp only[List.cons.injEq,Θ.int.injEq,Θ.ref.injEq,and_true]at h1;obtain⟨⟨e1,_⟩,rfl,e3,_⟩:=h1;have e2:=zgP (hi.inj hi');obtain⟨x1,x2,x3⟩:=x;obtain⟨y1,y2,y3⟩:=y;simp_all
def IsTri.keeps(x:IsTri prog w h k a)(ho:h.get? d=Φ o)(hd:o.data=.dict es ep)(hs:Heap.SameBut d h h'):IsTri prog w h' k a:=by
 obtain⟨o',t,u,b,n,ho',hc,hd',hi⟩:=x;have hne:a≠d:=by rintro rfl;obtain rfl:o'=o:=Option.some.inj (ho'.symm.trans ho);rw[hd]at hd';exact by cases hd'
 exact⟨o',t,u,b,n,(hs.2 a hne).trans ho',hc,hd',hi.keeps ho hd hs⟩
end
abbrev zsS(k:K3):Int:=reduceHash (Builtin.Tuple.tupleHashOf [hashInt k.1,reduceHash (Builtin.Tuple.tupleHashOf (k.2.1.map hashInt)),hashInt k.2.2])
abbrev P3(p:K3×Addr×V)(q:K3×Addr×Θ):Prop:=p.1=q.1/\p.2.1=q.2.1/\RelV p.2.2 q.2.2
abbrev ent3(x:K3×Addr×Θ):DictEntry:=⟨zsS x.1,.ref x.2.1,x.2.2⟩
abbrev TriO(a:Addr)(kxs:List (K3×Addr×V))(h:Heap):Prop:=kxs.length<=sizeLine/\(a==sysModules)=Δ/\∃xs,Paired P3 kxs xs/\∃o es ep,h.get? a=Φ o/\o.ExactDict/\o.data=.dict es ep/\es.toList=xs.map ent3/\(xs.map (·.1)).Nodup
abbrev Key3(H:Hp)(k:K3)(c:Addr):Prop:=∃b,H c=Φ (.tup [.int k.1,.ref b,.int k.2.2])/\H b=Φ (.tup (k.2.1.map V.int))
def Key3.up(h:Key3 H k c)(ht:∀b xs,H b=Φ (.tup xs)->H' b=Φ (.tup xs)):Key3 H' k c:=let ⟨b,h1,h2⟩:=h;⟨b,ht _ _ h1,ht _ _ h2⟩
def TriO.stay(x:TriO a kxs h)(k:∀o,h.get? a=Φ o->h'.get? a=Φ o):TriO a kxs h':=by obtain⟨z,y,xs,r,o,es,ep,e,c⟩:=x;exact⟨z,y,xs,r,o,es,ep,k _ e,c⟩
section
variable{P:ϊ}{w:ύ}{H:Hp}{h:Heap}{a c:Addr}{kxs:List (K3×Addr×V)}
def zgM(ok:HOk P w H h)(e:Key3 H k c):IsTri P w h k c:=by obtain⟨b,e1,e2⟩:=e;obtain⟨_,its,rv,o,ho,hc,n,hd⟩:=(show ObjOk P w H h c (.tup _) from ok c _ e1);cases rv with| @cons _ v1 _ r1 q1 rv=>cases rv with| @cons _ v2 _ r2 q2 rv=>cases rv with| @cons _ v3 _ r3 q3 rv=>cases rv;obtain⟨t,rfl⟩:=q1;cases(show v2=Θ.ref b from q2);obtain⟨u,rfl⟩:=q3;refine⟨o,t,u,b,n,ho,hc,hd,?_⟩;have:=zfQ (ks:=k.2.1.map Sum.inl) ok (a:=b) (by rw[map_map];exact e2);exact this
end
end R
namespace R
abbrev zcV(a b:Int×Int):Bool:=decide (b.2<a.2\/(a.2=b.2/\a.1<=b.1))
abbrev zaQ(rows:List (Int×Int)):List (Int×Int):=rows.mergeSort zcV
abbrev bump:List (Int×Int)->Int->List (Int×Int)
 | [],w=>[(w,1)]|(k,c)::r,w=>if k=w then(k,c+1)::r else(k,c)::bump r w
abbrev zad(kvs:List (Int×Int))(ws:List (Option Int)):List (Int×Int):=ws.foldl (λa w=>match w with|some x=>bump a x|none=>a) kvs
def zcP:∀(kvs:List (Int×Int))(w:Int),(bump kvs w).map (·.1)=if w∈kvs.map (·.1) then kvs.map (·.1) else kvs.map (·.1)++[w]
 | [],w=>by simp[bump]| (k,c)::r,w=>by unfold bump;by_cases e:k=w;subst e;simp;have ih:=zcP r w;rw[if_neg e];simp only[Μ,mem_cons,ih];by_cases h:w∈r.map (·.1);rw[if_pos h,if_pos (.inr h)];rw[if_neg h,if_neg (by rintro(z|z);exact e z.symm;exact h z)];rfl
def ziT(h:(kvs.map (·.1)).Nodup):((bump kvs w).map (·.1)).Nodup:=by rw[zcP];split;exact h;rename_i n;rw[nodup_append];refine⟨h,by simp,?_⟩;intro a ha b hb;rw[mem_singleton]at hb;subst hb;intro z;subst z;exact n ha
abbrev at0(kvs:List (Int×Int))(x:Int):Int:=match kvs.find? (λr=>r.1==x) with|some r=>r.2|none=>0
def zh0:∀(kvs:List (Int×Int))(w x:Int),at0 (bump kvs w) x=at0 kvs x+if x=w then 1 else 0
 | [],w,x=>by unfold bump at0;by_cases e:w=x;subst e;simp;have:¬x=w:=λz=>e z.symm;simp[e,this]| (k,c)::r,w,x=>by
  unfold bump;have ih:=zh0 r w x;by_cases e:k=w;subst e;rw[if_pos rfl];by_cases z:k=x;subst z;simp[at0];have z':¬x=k:=λy=>z y.symm;simp[at0,z,z'];rw[if_neg e];by_cases z:k=x;subst z;simp[at0,e];have h1:at0 ((k,c)::bump r w) x=at0 (bump r w) x:=by simp[at0,z]
  have h2:at0 ((k,c)::r) x=at0 r x:=by simp[at0,z]
  rw[h1,h2,ih]
def zk0(nd:(kvs.map (·.1)).Nodup)(h:(x,c)∈kvs):at0 kvs x=c:=by
 induction kvs with
 |nil=>cases h
 |cons a r ih=>
  obtain⟨k,d⟩:=a;simp only[Μ,nodup_cons]at nd;rcases mem_cons.mp h with e|e;cases e;simp[at0];have:¬k=x:=λz=>nd.1 (by rw[z];exact mem_map.mpr ⟨_,e,rfl⟩);have h2:at0 ((k,d)::r) x=at0 r x:=by simp[at0,this]
  rw[h2];exact ih nd.2 e
def zaA:∀(ws:List (Option Int)){kvs:List (Int×Int)},(kvs.map (·.1)).Nodup->((zad kvs ws).map (·.1)).Nodup
 | [],_,h=>h|some w::ws,kvs,h=>zaA ws (ziT (w:=w) h)|none::ws,kvs,h=>zaA ws h
def zbI:∀(ws:List (Option Int))(kvs:List (Int×Int))(x:Int),at0 (zad kvs ws) x=at0 kvs x+(ws.count (Φ x):Nat)
 | [],kvs,x=>by simp[zad]| some w::ws,kvs,x=>by show at0 (zad (bump kvs w) ws) x=_;rw[zbI ws (bump kvs w) x,zh0,List.count_cons];by_cases e:x=w;subst e;simp;lia;have:¬(w=x):=λz=>e z.symm;simp[e,this]| none::ws,kvs,x=>by show at0 (zad kvs ws) x=_;rw[zbI ws kvs x,List.count_cons];simp
def zaT:∀(ws:List (Option Int))(kvs:List (Int×Int))(x:Int),x∈(zad kvs ws).map (·.1)↔x∈kvs.map (·.1)\/Φ x∈ws
 | [],kvs,x=>by simp[zad]| some w::ws,kvs,x=>by show x∈(zad (bump kvs w) ws).map (·.1)↔_;rw[zaT ws (bump kvs w) x,zcP];by_cases h:w∈kvs.map (·.1);rw[if_pos h];constructor;rintro(z|z);exact .inl z;exact .inr (Ο _ z);rintro(z|z);exact .inl z;rcases mem_cons.mp z with y|y;cases y;exact .inl h;exact .inr y;rw[if_neg h];constructor;rintro(z|z);rcases mem_append.mp z with y|y;exact .inl y;rw[mem_singleton]at y;subst y;exact .inr ϋ;exact .inr (Ο _ z);rintro(z|z);exact .inl (mem_append_left _ z);rcases mem_cons.mp z with y|y;cases y;exact .inl (mem_append_right _ (mem_singleton.mpr rfl));exact .inr y
 |none::ws,kvs,x=>by show x∈(zad kvs ws).map (·.1)↔_;rw[zaT ws kvs x];simp
def counts_row:(x,c)∈zad [] ws↔Φ x∈ws/\c=(ws.count (Φ x):Nat):=by
 have nd:((zad [] ws).map (·.1)).Nodup:=zaA ws (by simp);have at_:=zbI ws [] x;have k0:at0 [] x=0:=rfl;rw[k0,Int.zero_add]at at_;constructor;intro h;have:=(zaT ws [] x).mp (mem_map.mpr ⟨_,h,rfl⟩);refine⟨this.resolve_left (by simp),?_⟩;rw[<-at_,zk0 nd h];rintro⟨h,rfl⟩;have:=(zaT ws [] x).mpr (.inr h);obtain⟨⟨y,c⟩,hm,rfl⟩:=mem_map.mp this;have e:=zk0 nd hm;have:c=(ws.count (Φ y):Nat):=by rw[<-at_];exact e.symm
 rw[<-this];exact hm
def zeu(ws):(zad [] ws).length<=ws.length:=by
 have:∀(ws:List (Option Int))(kvs:List (Int×Int)),(zad kvs ws).length<=kvs.length+ws.length:=by
  intro ws;induction ws with
  |nil=>intro kvs;simp[zad]| cons w ws ih=>
   intro kvs;cases w with
   |none=>have:=ih kvs;show(zad kvs ws).length<=_;simp;lia| some x=>
    have:=ih (bump kvs x);have hb:(bump kvs x).length<=kvs.length+1:=by have:=congrArg List.length (zcP kvs x);simp only[length_map]at this;rw[this];split<;>simp
    show(zad (bump kvs x) ws).length<=_;simp;lia
 simpa using this ws []
end R
namespace R
open PySem (Str PyData Operator CmpOp)
set_option genInjectivity true in
inductive D where
 |non|bl (b:Bool)|int (i:Int)|str (x:Str)|tup (ds:List D)|ref (l:Nat)
 |fix (ds:List D)
inductive MO where
 |lst (ds:List D)|dic (kvs:List (Int×D))|ins (c:Nat) (fs:List (Str×D))
structure St where
 frz:List MO
 new:List MO
 lk:List Nat
inductive Out(α:Type) where
 |ok (a:α) (S:St)
 |err (d:D) (S:St)
 |bad
abbrev Out.bind{α β:Type}(o:Out α)(f:α->St->Out β):Out β:=match o with|.ok a S=>f a S|.err d S=>.err d S|.bad=>.bad
abbrev lift{α:Type}(S:St):Option α->Out α
 |some a=>.ok a S|none=>.bad
namespace St
abbrev get(S:St)(l:Nat):Option MO:=if l<S.frz.length then S.frz[l]? else S.new[l-S.frz.length]?
abbrev len(S:St):Nat:=S.frz.length+S.new.length
abbrev push(S:St)(o:MO):St:={S with new:=S.new++[o]}
abbrev put(S:St)(l:Nat)(o:MO):Option St:=if l<S.frz.length then Ψ else if S.lk.contains l then Ψ else Φ {S with new:=S.new.set (l-S.frz.length) o}
abbrev enter(S:St):St:=⟨S.frz++S.new,[],[]⟩
end St
abbrev lay(S:St)(ds:List D):Out D:=if ds.length<=16777216 then .ok (.ref S.len) (S.push (.lst ds)) else .bad
abbrev wr(S:St)(l:Nat)(ds:List D)(d:D):Out D:=if ds.length<=16777216 then(match S.put l (.lst ds) with|some S'=>.ok d S'|none=>.bad) else .bad
abbrev pd(S:St):Nat->D->Option PyData
 |_,.non=>Φ .none|_,.bl b=>Φ (.bool b)|_,.int i=>Φ (.int i)|_,.str x=>if PySem.PyData.strOk x then Φ (.str x) else Ψ|n+1,.tup ds=>(ds.mapM (pd S n)).map PyData.tuple
 |n+1,.ref l=>match S.get l with
  |some (.lst ds)=>(ds.mapM (pd S n)).map PyData.list|_=>Ψ
 |_,.fix _=>Ψ|0,_=>Ψ
mutual
noncomputable def flat(n:Nat):D->Bool
 |.tup ds=>flats n ds|.ref l=>decide (l<n)|.fix ds=>flats n ds|_=>Γ
noncomputable def flats(n:Nat):List D->Bool
 | []=>Γ|d::ds=>flat n d&&flats n ds
end
abbrev zbQ(S:St):D->Option (List D)
 |.tup ds=>Φ ds|.fix ds=>Φ ds
 |.ref l=>match S.get l with
  |some (.lst ds)=>Φ ds|_=>Ψ
 |_=>Ψ
abbrev lkOf(S:St):D->List Nat
 |.ref l=>[l]|_=>[]
abbrev tru(S:St):D->Option Bool
 |.non=>Φ Δ|.bl b=>Φ b|.int i=>Φ (i != 0)|.tup ds=>Φ (!ds.isEmpty)
 |.ref l=>match S.get l with
  |some (.lst ds)=>Φ (!ds.isEmpty)|_=>Ψ
 |_=>Ψ
abbrev tyOf(S:St):D->Option String
 |.non=>Φ "NoneType"|.bl _=>Φ "bool"|.int _=>Φ "int"|.str _=>Φ "str"|.tup _=>Φ "tuple"
 |.ref l=>match S.get l with
  |some (.lst _)=>Φ "list"|some (.dic _)=>Φ "dict"|_=>Ψ
 |.fix _=>Ψ
abbrev ixN(n:Nat)(i:Int):Option Nat:=if 0<=i then(if i<n then Φ i.toNat else Ψ) else if -(n:Int)<=i then Φ (i+n).toNat else Ψ
abbrev atI{α:Type}(xs:List α)(i:Int):Option α:=(ixN xs.length i).bind λj=>xs[j]?
abbrev sIx(n d:Nat):Option Int->Nat
 |none=>d|some i=>if i<0 then(i+n).toNat else min i.toNat n
abbrev zcq:D->Option Int
 |.int i=>Φ i|_=>Ψ
abbrev zbM(i j:Int):Bool:=decide (-(2^64)<i/\i<2^64)||decide (-(2^64)<j/\j<2^64)
abbrev binI(S:St)(op:Operator)(i j:Int):Out D:=match op with|.Add=>.ok (.int (i+j)) S|.Sub=>.ok (.int (i-j)) S|.Mult=>if zbM i j then .ok (.int (i*j)) S else .bad|.FloorDiv=>if 0<j/\j<1073741824 then .ok (.int (i/j)) S else .bad|.Mod=>if 0<j then .ok (.int (i%j)) S else .bad|.Pow=>if 0<=j/\j<=1000000/\-18446744073709551616<i/\i<18446744073709551616 then .ok (.int (i^j.toNat)) S else .bad|_=>.bad
abbrev binD(S:St)(op:Operator)(x y:D):Out D:=match x,y with|.int i,.int j=>binI S op i j|.tup xs,.tup ys=>(match op with|.Add=>if xs.length+ys.length<=16777216 then .ok (.tup (xs++ys)) S else .bad|_=>.bad)|.ref a,.ref b=>(match op,S.get a,S.get b with|.Add,Φ (.lst xs),Φ (.lst ys)=>lay S (xs++ys)|_,_,_=>.bad)|_,_=>.bad
abbrev eqD(S:St)(x y:D):Option Bool:=(pd S 60 x).bind λa=>(pd S 60 y).map λb=>PyData.eqv a b
abbrev inD(S:St)(x:D)(ys:List D):Option Bool:=(ys.mapM λz=>eqD S z x).map λbs=>bs.any id
abbrev zaH(ds:List D):Option (List Int):=ds.mapM zcq
abbrev cmpI(op:CmpOp)(i j:Int):Option Bool:=match op with|.Eq=>Φ (decide (i=j))|.NotEq=>Φ (!decide (i=j))|.Lt=>Φ (decide (i<j))|.LtE=>Φ (decide (i<=j))|.Gt=>Φ (decide (j<i))|.GtE=>Φ (decide (j<=i))|_=>Ψ
abbrev zoY:D->Bool|.non=>Γ|_=>Δ
abbrev zg6:D->Option (Option Int)
 |.non=>Φ Ψ|.int i=>Φ (Φ i)|_=>Ψ
abbrev zj4:D->Option K3
 |.tup [_,.tup ds,.int b,_]=>(zaH ds).map λp=>(0,p,b)|_=>Ψ
abbrev ziE(m:D->Option K3)(S:St)(x:D):Option (List D×List K3):=match x with|.ref p=>(match S.get p with|some (.lst ds)=>(ds.mapM m).map λks=>(ds,ks)|_=>Ψ)|_=>Ψ
abbrev zhE(S:St)(x:D):Option (List D×List K3):=ziE zj4 S x
abbrev srtD(ds:List D)(ks:List K3):List D:=(zeL ks).map λk=>((ks.zip ds).lookup k).getD .non
abbrev cmpO(S:St)(op:CmpOp)(x y:D):Option Bool:=match op with|.Eq=>eqD S x y|.NotEq=>(eqD S x y).map (!·)|.Is=>(match y with|.non=>Φ (zoY x)|.bl b=>(match x with|.bl a=>Φ (a==b)|_=>Ψ)|_=>Ψ)|.IsNot=>(match y with|.non=>Φ (!zoY x)|_=>Ψ)|.In=>(zbQ S y).bind λys=>inD S x ys|.NotIn=>((zbQ S y).bind λys=>inD S x ys).map (!·)|_=>Ψ
abbrev cmpD(S:St)(op:CmpOp)(x y:D):Option Bool:=match x,y with|.int i,.int j=>cmpI op i j|_,_=>cmpO S op x y
inductive Bi where
 |len
 |abs
 |max2
 |min2
 |isin (t:String)
abbrev za5(ds:List D):Option (List (Option Int)):=ds.mapM zg6
inductive Mt where
 |append
 |popAt
 |count
abbrev bi(S:St):Bi->List D->Out D
 |.len,[x]=>(match x with
  |.tup ds=>.ok (.int ds.length) S|.fix ds=>.ok (.int ds.length) S|.ref l=>(match S.get l with|some (.lst ds)=>.ok (.int ds.length) S|_=>.bad)|_=>.bad)
 |.abs,[.int i]=>.ok (.int (if i<0 then -i else i)) S|.max2,[.int i,.int j]=>.ok (.int (if j>i then j else i)) S|.min2,[.int i,.int j]=>.ok (.int (if j<i then j else i)) S|.isin t,[x]=>(match tyOf S x with|some a=>.ok (.bl (a==t||(a=="bool"&&t=="int"))) S|none=>.bad)|_,_=>.bad
abbrev isL(S:St):D->Bool
 |.ref l=>(match S.get l with|some (.lst _)=>Γ|_=>Δ)|_=>Δ
abbrev mt(S:St):Mt->D->List D->Out D
 |.append,.ref l,[y]=>(match S.get l with|some (.lst ds)=>wr S l (ds++[y]) .non|_=>.bad)
 |.popAt,.ref l,[.int i]=>(match S.get l with
  |some (.lst ds)=>if 0<=i then(match ds[i.toNat]? with|some y=>wr S l (ds.eraseIdx i.toNat) y|none=>.bad) else .bad|_=>.bad)
 |.count,.ref l,[.int i]=>(match S.get l with
  |some (.lst ds)=>(match za5 ds with|some os=>.ok (.int (os.count (Φ i):Nat)) S|none=>.bad)|_=>.bad)
 |.count,.ref l,[.non]=>(match S.get l with
  |some (.lst ds)=>(match za5 ds with|some os=>.ok (.int (os.count Ψ:Nat)) S|none=>.bad)|_=>.bad)
 |_,_,_=>.bad
abbrev putI:List (Int×D)->Int->D->List (Int×D)
 | [],k,v=>[(k,v)]|(j,d)::r,k,v=>if j=k then(j,v)::r else(j,d)::putI r k v
abbrev dicI(S:St)(x:D):Option (List Int):=match x with|.ref p=>(match S.get p with|some (.dic kvs)=>Φ (kvs.map (·.1))|_=>Ψ)|_=>Ψ
abbrev dPut(S:St)(x y v:D):Option St:=match x with
 |.ref l=>(match S.get l with
  |some (.dic kvs)=>(zcq y).bind λk=>if kvs.length<16777216 then S.put l (.dic (putI kvs k v)) else Ψ|_=>Ψ)
 |_=>Ψ
abbrev lPut(S:St)(x y v:D):Option St:=match x with
 |.ref l=>(match S.get l with
  |some (.lst ds)=>(zcq y).bind λi=>(ixN ds.length i).bind λj=>S.put l (.lst (ds.set j v))|_=>Ψ)
 |_=>Ψ
abbrev lsts(S:St)(x y:D):Option (Nat×List D×List D):=match x,y with|.ref p,.ref r=>(match S.get p,S.get r with|some (.lst ds),Φ (.lst es)=>Φ (p,ds,es)|_,_=>Ψ)|_,_=>Ψ
abbrev valI(kvs:List (Int×D))(k:Int):Option D:=(kvs.find? λkv=>decide (kv.1=k)).map (·.2)
abbrev isDi(S:St):D->Bool
 |.ref l=>(match S.get l with|some (.dic _)=>Γ|_=>Δ)|_=>Δ
abbrev zf9(S:St)(x y:D):Option (Option D):=match x with|.ref l=>(match S.get l with|some (.dic kvs)=>(zcq y).map λk=>valI kvs k|_=>Ψ)|_=>Ψ
abbrev zfj(S:St)(x y v:D):Option (D×St):=match zf9 S x y with|some (Φ u)=>Φ (u,S)|some Ψ=>(dPut S x y v).map λT=>(v,T)|none=>Ψ
abbrev zbY(S:St):D->Option (Nat×List (Str×D))
 |.ref l=>(match S.get l with|some (.ins c fs)=>Φ (c,fs)|_=>Ψ)|_=>Ψ
abbrev zjC(f:Str)(v:D):List (Str×D)->List (Str×D)
 | []=>[(f,v)]|(g,x)::r=>if g=f then(g,v)::r else(g,x)::zjC f v r
abbrev zbJ(S:St)(x:D)(f:Str)(v:D):Option St:=match x with|.ref l=>(match S.get l with|some (.ins c fs)=>if fs.length<1000 then S.put l (.ins c (zjC f v fs)) else Ψ|_=>Ψ)|_=>Ψ
abbrev zkl:D->Bool|.non=>Γ|_=>Δ
mutual
inductive CE where
 |loc (i:Nat)
 |con (d:D)
 |tst (a:CE)
 |bin (op:Operator) (a b:CE)
 |neg (a:CE)
 |nt (a:CE)
 |cmp (op:CmpOp) (a b:CE)
 |cmp2 (op op':CmpOp) (a b c:CE)
 |and (a b:CE)
 |or (a b:CE)
 |ite (c a b:CE)
 |tup (es:CEs)
 |lst (es:CEs)
 |dnew
 |srtK (a:CE)
 |srtN (j:Nat) (a:CE)
 |sl (a:CE) (n:Nat)
 |dgetI (a b c:CE)
 |dsetI (a b c:CE)
 |intb (a:CE)
 |extv (a b:CE)
 |ix (a b:CE)
 |fld (a:CE) (f:Str)
 |mk (c f:Nat) (x:Str) (j:Nat) (es:CEs)
 |meth (m:Str) (tb:List (Nat×Nat)) (o:CE) (es:CEs)
 |callC (f:Nat) (x m:Str) (es:CEs)
 |clr (a:CE)
 |call (f j:Nat) (es:CEs)
 |callW (f j:Nat) (es:CEs)
 |bi (b:Bi) (es:CEs)
 |mt (m:Mt) (o:CE) (es:CEs)
 |mkL (l:CL)
 |all (l:CL)
 |srt (a:CE)
inductive CEs where
 |nil
 |cons (e:CE) (r:CEs)
inductive CL where
 |val (e:CE)
 |rng1 (a:CE)
 |rng2 (a b:CE)
 |enum (a:CE)
 |comp (nt:Nat) (js:List Nat) (g:List Nat) (it:CL) (c:CE) (e:CE)
end
inductive CS where
 |nil
 |stop
 |asg (i:Nat) (e:CE) (r:CS)
 |asgT (g:List Nat) (e:CE) (r:CS)
 |setF (a:CE) (f:Str) (e:CE) (r:CS)
 |setIx (a b e:CE) (r:CS)
 |retN (r:CS)
 |ifS (c:CE) (t u:CS) (r:CS)
 |forS (g:List Nat) (l:CL) (b:CS) (r:CS)
 |ret (e:CE) (r:CS)
 |expr (e:CE) (r:CS)
@[reducible]def Ev:=List (Option D)
abbrev zd8:List Nat->List D->Ev->Ev
 |i::is,d::ds,δ=>zd8 is ds (δ.set i (Φ d))|_,_,δ=>δ
abbrev asgG(g:List Nat)(x:D)(δ:Ev):Option Ev:=match g with| [i]=>Φ (δ.set i (Φ x))|is=>(match x with|.tup ds=>if ds.length=is.length then Φ (zd8 is ds δ) else Ψ|_=>Ψ)
abbrev zis(x y:D):D:=.tup [x,y]
abbrev zet(S:St):D->Option (List D×List Nat)
 |.ref l=>(match S.get l with|some (.lst xs)=>Φ (xs.mapIdx λi d=>zis (.int i) d,[l])|_=>Ψ)|_=>Ψ
@[reducible]def CF:=Nat->List D->St->Out D
abbrev key3(o:Out D)(t:Int)(p:List Int)(b:Int):Bool:=match o with|.ok (.tup [.int t',.tup ds,.int b']) T=>decide (T.len=0/\t'=t/\zaH ds=Φ p/\b'=b)|_=>Δ
abbrev let3(cf:CF)(j:Nat):D->Option K3
 |.tup [.int t,.tup ds,.int b,w]=>if(zg6 w).isSome then(zaH ds).bind λp=>if key3 (cf j [.tup [.int t,.tup ds,.int b,w]] ⟨[],[],[]⟩) t p b then Φ (t,p,b) else Ψ else Ψ|_=>Ψ
abbrev zlZ(cf:CF)(j:Nat)(S:St)(x:D):Option (List D×List K3):=ziE (let3 cf j) S x
abbrev zc0(S:St)(d:D)(T:St):Out D:=
 if flat S.len d then .ok d S else
 let keep:Out D:=.ok d ⟨S.frz,S.new++T.new,S.lk⟩
 match d with
  |.ref l=>(match T.get l with
   |some (.lst ds)=>if flats S.len ds then .ok (.ref S.len) (S.push (.lst ds)) else keep|some (.dic kvs)=>if flats S.len (kvs.map (·.2)) then .ok (.ref S.len) (S.push (.dic kvs)) else keep|_=>keep)
  |_=>keep
abbrev zj6(S:St)(d:D)(T:St):Out (List D):=match d with|.ref l=>if l<S.len then .bad else(match T.get l with|some (.lst ds)=>if flats S.len ds then .ok ds S else .bad|_=>.bad)|_=>.bad
@[irreducible]noncomputable def app(cf:CF)(f:Nat)(ds:List D)(S:St):Out D:=(cf f ds S.enter).bind λd T=>zc0 S d T
@[irreducible]noncomputable def appL(cf:CF)(f:Nat)(ds:List D)(S:St):Out (List D):=(cf f ds S.enter).bind λd T=>zj6 S d T
@[irreducible]noncomputable def appW(cf:CF)(f:Nat)(ds:List D)(S:St):Out D:=cf f ds S
abbrev csl(nt:Nat)(js:List Nat)(δ:Ev):Ev:=List.replicate nt Ψ++js.map λj=>(δ[j]?).join
abbrev zat(g:List Nat)(c:Ev->St->Out Bool)(e:Ev->St->Out D):List D->Ev->St->Out (List D)
 | [],_,S=>.ok [] S| x::xs,δ,S=>match asgG g x δ with|none=>.bad|some δ'=>(c δ' S).bind λb S1=>if b then(e δ' S1).bind λd S2=>(zat g c e xs δ' S2).bind λds S3=>.ok (d::ds) S3 else zat g c e xs δ' S1
abbrev zbg{α:Type}(ls:List Nat)(S:St)(f:St->Out α):Out α:=(f {S with lk:=ls++S.lk}).bind λa S'=>.ok a {S' with lk:=S.lk}
abbrev zgh:D->Option Bool
 |.bl b=>Φ b|_=>Ψ
abbrev allD(ds:List D):Option Bool:=(ds.mapM zgh).map λbs=>bs.all id
abbrev insZ(x:Int):List Int->List Int
 | []=>[x]|y::l=>if x<=y then x::y::l else y::insZ x l
abbrev zcU:List Int->List Int
 | []=>[]|x::l=>insZ x (zcU l)
abbrev lstI(S:St)(x:D):Option (List Int):=match x with|.ref p=>(match S.get p with|some (.lst ds)=>zaH ds|_=>Ψ)|_=>Ψ
section
variable(cf:CF)
mutual
noncomputable def evE(e₀:CE)(δ:Ev)(S:St):Out D:=match e₀ with
 |.loc i=>lift S (δ[i]?).join|.con d=>.ok d S|.tst _=>.bad|.bin op a b=>(evE a δ S).bind λx S1=>(evE b δ S1).bind λy S2=>binD S2 op x y|.neg a=>(evE a δ S).bind λx S1=>match x with|.int i=>.ok (.int (-i)) S1|_=>.bad
 |.nt a=>(evE a δ S).bind λx S1=>match x with|.bl b=>.ok (.bl (!b)) S1|_=>.bad
 |.cmp op a b=>(evE a δ S).bind λx S1=>(evE b δ S1).bind λy S2=>(lift S2 (cmpD S2 op x y)).bind λk S3=>.ok (.bl k) S3|.cmp2 op op' a b c=>(evE a δ S).bind λx S1=>(evE b δ S1).bind λy S2=>(lift S2 (cmpD S2 op x y)).bind λk S3=>if k then(evE c δ S3).bind λz S4=>(lift S4 (cmpD S4 op' y z)).bind λk' S5=>.ok (.bl k') S5 else .ok (.bl Δ) S3|.and a b=>(evE a δ S).bind λx S1=>match x with|.bl k=>if k then evE b δ S1 else .ok (.bl Δ) S1|_=>.bad
 |.or a b=>(evE a δ S).bind λx S1=>match x with|.bl k=>if k then .ok (.bl Γ) S1 else evE b δ S1|_=>.bad
 |.ite c a b=>(evT c δ S).bind λk S1=>if k then evE a δ S1 else evE b δ S1|.tup es=>(evEs es δ S).bind λds S1=>if ds.length<=16777216 then .ok (.tup ds) S1 else .bad|.lst es=>(evEs es δ S).bind λds S1=>lay S1 ds|.dnew=>.ok (.ref S.len) (S.push (.dic []))|.srtK a=>(evE a δ S).bind λx S1=>(lift S1 (zhE S1 x)).bind λq S2=>if q.2.length<1000/\q.2.Nodup then lay S2 (srtD q.1 q.2) else .bad|.srtN j a=>(evE a δ S).bind λx S1=>(lift S1 (zlZ cf j S1 x)).bind λq S2=>if q.2.length<1000/\q.2.Nodup then lay S2 (srtD q.1 q.2) else .bad|.sl a n=>(evE a δ S).bind λx S1=>match x with|.tup ds=>if n<ds.length then .ok (.tup (ds.take n)) S1 else .bad|_=>.bad
 |.dgetI a b c=>(evE a δ S).bind λx S1=>if isDi S1 x then(evE b δ S1).bind λy S2=>(evE c δ S2).bind λz S3=>(lift S3 (zf9 S3 x y)).bind λo S4=>.ok (o.getD z) S4 else .bad|.dsetI a b c=>(evE a δ S).bind λx S1=>if isDi S1 x then(evE b δ S1).bind λy S2=>(evE c δ S2).bind λz S3=>(lift S3 (zfj S3 x y z)).bind λo _=>.ok o.1 o.2 else .bad|.intb a=>(evE a δ S).bind λx S1=>match x with|.bl b=>.ok (.int (if b then 1 else 0)) S1|_=>.bad
 |.extv a b=>(evE a δ S).bind λx S1=>if isL S1 x then(evE b δ S1).bind λy S2=>(lift S2 (lsts S2 x y)).bind λo S3=>wr S3 o.1 (o.2.1++o.2.2) .non else .bad|.fld a f=>(evE a δ S).bind λx S1=>lift S1 ((zbY S1 x).bind λp=>p.2.lookup f)|.mk c f _ j es=>(evEs es δ S).bind λds S1=>(appW cf f (.ref S1.len::(ds++List.replicate j .non)) (S1.push (.ins c []))).bind λd S2=>if zkl d then .ok (.ref S1.len) S2 else .bad|.meth m tb o es=>(evE o δ S).bind λx S1=>(lift S1 (zbY S1 x)).bind λp S1=>(lift S1 (tb.lookup p.1)).bind λf S1=>if(p.2.lookup m).isNone then(evEs es δ S1).bind λds S2=>appW cf f (x::ds) S2 else .bad|.callC f _ _ es=>(evEs es δ S).bind λds S1=>appW cf f ds S1|.clr a=>(evE a δ S).bind λx S1=>if isL S1 x then(match x with|.ref l=>wr S1 l [] .non|_=>.bad) else .bad|.ix a b=>(evE a δ S).bind λx S1=>(evE b δ S1).bind λy S2=>match zbQ S2 x,y with|some ds,.int i=>lift S2 (atI ds i)|_,_=>.bad
 |.call f j es=>(evEs es δ S).bind λds S1=>app cf f (ds++List.replicate j .non) S1|.callW f j es=>(evEs es δ S).bind λds S1=>appW cf f (ds++List.replicate j .non) S1|.bi b es=>(evEs es δ S).bind λds S1=>R.bi S1 b ds|.mt m o es=>(evE o δ S).bind λx S1=>if isL S1 x then(evEs es δ S1).bind λds S2=>R.mt S2 m x ds else .bad|.mkL l=>(evL l δ S).bind λr S1=>lay S1 r.1|.all l=>(evL l δ S).bind λr S1=>(lift S1 (allD r.1)).bind λb S2=>.ok (.bl b) S2|.srt a=>(evE a δ S).bind λx S1=>(lift S1 (lstI S1 x)).bind λis S2=>if is.length<64 then lay S2 ((zcU is).map .int) else .bad
noncomputable def evEs(e₀:CEs)(δ:Ev)(S:St):Out (List D):=match e₀ with|.nil=>.ok [] S|.cons e r=>(evE e δ S).bind λd S1=>(evEs r δ S1).bind λds S2=>.ok (d::ds) S2
noncomputable def evT(e₀:CE)(δ:Ev)(S:St):Out Bool:=match e₀ with|.cmp op a b=>(evE a δ S).bind λx S1=>(evE b δ S1).bind λy S2=>lift S2 (cmpD S2 op x y)|.cmp2 op op' a b c=>(evE a δ S).bind λx S1=>(evE b δ S1).bind λy S2=>(lift S2 (cmpD S2 op x y)).bind λk S3=>if k then(evE c δ S3).bind λz S4=>lift S4 (cmpD S4 op' y z) else .ok Δ S3|.nt a=>(evT a δ S).bind λk S1=>.ok (!k) S1|.and a b=>(evT a δ S).bind λk S1=>if k then evT b δ S1 else .ok Δ S1|.or a b=>(evT a δ S).bind λk S1=>if k then .ok Γ S1 else evT b δ S1|.tst e=>(evE e δ S).bind λx S1=>lift S1 (tru S1 x)|_=>.bad
noncomputable def evL(e₀:CL)(δ:Ev)(S:St):Out (List D×List Nat):=match e₀ with
 |.val e=>(evE e δ S).bind λx S1=>(lift S1 (zbQ S1 x)).bind λds S2=>.ok (ds,lkOf S2 x) S2|.rng1 a=>(evE a δ S).bind λx S1=>match x with|.int j=>if -(2^62)<=j/\j<2^62 then .ok ((List.range j.toNat).map λ(k:Nat)=>.int k,[]) S1 else .bad|_=>.bad
 |.rng2 a b=>(evE a δ S).bind λx S1=>(evE b δ S1).bind λy S2=>match x,y with
  |.int i,.int j=>if -(2^62)<=i/\i<2^62/\-(2^62)<=j/\j<2^62 then .ok ((List.range (j-i).toNat).map λ(k:Nat)=>.int (i+k),[]) S2 else .bad|_,_=>.bad
 |.enum a=>(evE a δ S).bind λx S1=>lift S1 (zet S1 x)|.comp n js g it c e=>(evL it δ S).bind λr S1=>(zbg r.2 S1 λS2=>zat g (evT c) (evE e) r.1 (csl n js δ) S2).bind λds S3=>if ds.length<=16777216 then .ok (ds,[]) S3 else .bad
end
inductive Fl where
 |nx (δ:Ev)|rt (d:D)
abbrev zaI(g:List Nat)(b:Ev->St->Out Fl):List D->Ev->St->Out Fl
 | [],δ,S=>.ok (.nx δ) S| x::xs,δ,S=>match asgG g x δ with|none=>.bad| some δ'=>(b δ' S).bind λf S1=>match f with|.nx δ2=>zaI g b xs δ2 S1|.rt d=>.ok (.rt d) S1
abbrev exS(e₀:CS)(δ:Ev)(S:St):Out Fl:=match e₀ with
 |.nil=>.ok (.nx δ) S|.stop=>.bad|.asg i e r=>(evE cf e δ S).bind λx S1=>exS r (δ.set i (Φ x)) S1|.asgT g e r=>(evE cf e δ S).bind λx S1=>(lift S1 (asgG g x δ)).bind λδ' S2=>exS r δ' S2|.setF a f e r=>(evE cf e δ S).bind λv S1=>(evE cf a δ S1).bind λx S2=>match zbJ S2 x f v with|some S3=>exS r δ S3|none=>.bad
 |.setIx a b e r=>(evE cf e δ S).bind λv S1=>(evE cf a δ S1).bind λx S2=>(evE cf b δ S2).bind λy S3=>match lPut S3 x y v with|some S4=>exS r δ S4|none=>.bad
 |.ifS c t u r=>(evT cf c δ S).bind λk S1=>(if k then exS t δ S1 else exS u δ S1).bind λf S2=>match f with
  |.nx δ'=>exS r δ' S2|.rt d=>.ok (.rt d) S2
 |.forS g l b r=>(evL cf l δ S).bind λq S1=>(zbg q.2 S1 λS2=>zaI g (exS b) q.1 δ S2).bind λf S3=>match f with
  |.nx δ'=>exS r δ' S3|.rt d=>.ok (.rt d) S3
 |.retN _=>.ok (.rt .non) S|.ret e _=>(evE cf e δ S).bind λx S1=>.ok (.rt x) S1|.expr e r=>(evE cf e δ S).bind λ_ S1=>exS r δ S1
end
inductive Prim where
 |tally|way
 |lam
abbrev rowD(r:Int×Int):D:=.tup [.int r.1,.int r.2]
abbrev talD(os:List (Option Int)):List D:=(zaQ (zad [] os)).map rowD
abbrev prm(S:St):Prim->List D->Out D
 |.tally,[.ref l]=>(match S.get l with
  |some (.lst ws)=>(match za5 ws with
   |some os=>if(zad [] os).length<64/\os.length<=16777216 then .ok (.ref S.len) (S.push (.lst (talD os))) else .bad|none=>.bad)
  |_=>.bad)
 |.way,[.str x]=>if x=("oral":Str)\/x=("kings":Str) then .ok (.str x) S else .bad|_,_=>.bad
structure Fn where
 np:Nat
 nn:Nat
 body:CS
 prim:Option Prim
abbrev zaG(F:Fn)(ds:List D):Ev:=ds.map Φ++List.replicate (F.nn-F.np) Ψ
abbrev callF(P:List Fn):Nat->CF
 |0,_,_,_=>.bad
 |n+1,f,ds,S=>match P[f]? with
  | some F=>if ds.length=F.np then(match F.prim with
     |some .lam=>if 3<=n then(exS (callF P n) F.body (zaG F ds) S).bind λr T=>(match r with
      |.nx _=>.ok .non T|.rt d=>.ok d T) else .bad
     |some p=>if 3<=n then prm S p ds else .bad| none=>(exS (callF P n) F.body (zaG F ds) S).bind λr T=>match r with|.nx _=>.ok .non T|.rt d=>.ok d T)
    else .bad
  |none=>.bad
@[simp]theorem zaw{α β:Type}(a:α)(S:St)(f:α->St->Out β):(Out.ok a S).bind f=f a S:=rfl
@[simp]theorem zr4{α β:Type}(f:α->St->Out β):(Out.bad:Out α).bind f=.bad:=rfl
@[simp]theorem zr3{α β:Type}(d:D)(S:St)(f:α->St->Out β):(Out.err d S:Out α).bind f=.err d S:=rfl
@[simp]theorem zcJ{α:Type}(S:St)(a:α):lift S (Φ a)=.ok a S:=rfl
def za4(S:St):S.enter.get=S.get:=by funext l;simp only[St.get,St.enter,length_append,List.getElem?_append];by_cases h:l<S.frz.length;simp[h,lt_of_lt_of_le h (Nat.le_add_right _ _)];simp only[h,if_false];split;rfl;simp only[List.getElem?_nil];exact(List.getElem?_eq_none (by lia)).symm
@[simp]theorem zkH(S:St):S.enter.frz=S.frz++S.new:=rfl
@[simp]theorem zrE(S:St):S.enter.new=[]:=rfl
@[simp]theorem zr2(S:St):S.enter.lk=[]:=rfl
@[simp]theorem enter_len(S:St):S.enter.len=S.len:=by simp[St.len]
def zfa(S:St):(S.frz++S.new).length=S.len:=by simp[St.len]
def get_lt{S:St}(h:S.get l=Φ o):l<S.len:=by unfold St.get at h;unfold St.len;split at h;lia;have:=(Ω.mp h).1;lia
def zgQ{S:St}(h:S.get l=Φ o)(nw)(lk):(St.mk (S.frz++S.new) nw lk).get l=Φ o:=by
 have hl:=get_lt h;rw[<-za4]at h;unfold St.get at h⊢;have e:l<(S.frz++S.new).length:=by rw[zfa];exact hl
 simp only[zkH,e,if_true]at h⊢;exact h
def zkx(F nw)(lk)(i):(St.mk F nw lk).get (F.length+i)=nw[i]?:=by
 have:¬F.length+i<F.length:=by lia
 simp[St.get,this]
def zmg(F nw)(lk):(St.mk F nw lk).get F.length=nw[0]?:=zkx F nw lk 0
@[simp]theorem zrZ(n:Nat):flat n .non=Γ:=by simp[flat]
@[simp]theorem zsZ(n:Nat)(b:Bool):flat n (.bl b)=Γ:=by simp[flat]
@[simp]theorem zr0(n:Nat)(i:Int):flat n (.int i)=Γ:=by simp[flat]
@[simp]theorem zrY(n:Nat)(x:Str):flat n (.str x)=Γ:=by simp[flat]
@[simp]theorem zhL(n:Nat)(ds:List D):flat n (.tup ds)=flats n ds:=by simp[flat]
@[simp]theorem zr1(n:Nat)(ds:List D):flat n (.fix ds)=flats n ds:=by simp[flat]
@[simp]theorem zrz(n:Nat):flats n []=Γ:=by simp[flats]
@[simp]theorem zer(n:Nat)(d:D)(ds:List D):flats n (d::ds)=(flat n d&&flats n ds):=by simp[flats]
@[simp]theorem zf0(n:Nat):∀ds es:List D,flats n (ds++es)=(flats n ds&&flats n es)
  | [],es=>by simp|d::ds,es=>by simp[zf0 n ds es,Bool.and_assoc]
def zby(n):∀ds:List D,flats n ds=Γ↔∀d∈ds,flat n d=Γ
 | []=>by simp|d::ds=>by simp[zby n ds]
@[simp]theorem zps(n:Nat)(ns:List Int):flats n (ns.map D.int)=Γ:=by rw[zby];simp
@[simp]theorem ziF(S:St)(d:D)(T:St)(h:flat S.len d=Γ):zc0 S d T=.ok d S:=by simp[zc0,h]
abbrev W{α:Type}(o:Out α)(Q:α->St->Prop):Prop:=match o with|.ok a S=>Q a S|_=>False
@[simp]theorem W_ok{α:Type}(a:α)(S:St)(Q:α->St->Prop):W (.ok a S) Q=Q a S:=rfl
@[simp]theorem zs7{α:Type}(Q:α->St->Prop):W (.bad:Out α) Q=False:=rfl
@[simp]theorem zs6{α:Type}(d:D)(S:St)(Q:α->St->Prop):W (.err d S:Out α) Q=False:=rfl
@[simp]theorem zab{α β:Type}(o:Out α)(f:α->St->Out β)(Q:β->St->Prop):W (o.bind f) Q=W o λa S=>W (f a S) Q:=by cases o<;>rfl
def W.mono(h:W o Q)(b:∀a S,Q a S->c a S):W o c:=by cases o with|ok a S=>exact b a S h|err d S=>exact h|bad=>exact h
def W.eq(h:W o λa T=>a=d/\T=S):o=.ok d S:=by cases o with|ok a T=>obtain⟨rfl,rfl⟩:=h;rfl|err d S=>exact False.elim h|bad=>exact False.elim h
def W.of(h:o=.ok d S)(q:Q d S):W o Q:=by rw[h];exact q
def W.iff:W o Q↔∃a S,o=.ok a S/\Q a S:=by cases o with|ok a S=>exact⟨λh=>⟨a,S,rfl,h⟩,λ⟨_,_,e,h⟩=>by cases e;exact h⟩|err d S=>exact⟨λh=>h.elim,λk=>(by obtain⟨_,_,e,_⟩:=k;cases e)⟩|bad=>exact⟨λh=>h.elim,λz=>(by obtain⟨_,_,e,_⟩:=z;cases e)⟩
abbrev fin(S:St)(r:Fl)(T:St):Out D:=match r with|.nx _=>zc0 S .non T|.rt d=>zc0 S d T
@[simp]theorem zkC(S T:St)(d:D):fin S (.rt d) T=zc0 S d T:=rfl
@[simp]theorem zs4(S T:St)(δ:Ev):fin S (.nx δ) T=.ok .non S:=by simp[fin]
def znf(h:P[f]?=Φ F)(hl:ds.length=F.np)(hp:F.prim=Ψ:=by rfl):
  app (callF P (n+1)) f ds S=(exS (callF P n) F.body (zaG F ds) S.enter).bind λr T=>fin S r T:=by
 simp only[app,callF,h,hl,hp,if_true];generalize exS (callF P n) F.body (zaG F ds) S.enter=o;cases o with|ok r T=>cases r<;>rfl|err d S=>rfl|bad=>rfl
abbrev finL(S:St)(r:Fl)(T:St):Out (List D):=match r with|.nx _=>.bad|.rt d=>zj6 S d T
@[simp]theorem zs0(S T:St)(d:D):finL S (.rt d) T=zj6 S d T:=rfl
def zcS(I:Nat->Ev->St->Prop)(Rt:D->St->Prop):∀(xs:List D)(k:Nat)(δ:Ev)(S:St),I k δ S->
  (∀i x δ S,xs[i]?=Φ x->I (k+i) δ S->∃δ',asgG g x δ=Φ δ'/\W (b δ' S) λf S'=>match f with|.nx δ2=>I (k+i+1) δ2 S'|.rt d=>Rt d S')->
  W (zaI g b xs δ S) λf S'=>match f with|.nx δ'=>I (k+xs.length) δ' S'|.rt d=>Rt d S'
 | [],k,δ,S,h,_=>by simpa[zaI]using h| x::xs,k,δ,S,h,step=>by obtain⟨δ',e,w⟩:=step 0 x δ S rfl h;simp only[zaI,e,zab];refine w.mono λf S1 hf=>?_;cases f with|rt d=>exact hf| nx δ2=>have ih:=zcS I Rt xs (k+1) δ2 S1 hf (λi y δ S hy hi=>by have:=step (i+1) y δ S (by simpa using hy) (by rw[show k+(i+1)=k+1+i by lia];exact hi);rw[show k+(i+1)+1=k+1+i+1 by lia]at this;exact this);rw[show k+1+xs.length=k+(x::xs).length by simp;lia]at ih;exact ih
def zdy(p)(f):∀(xs:List D)(o:Option D),
  (∀x∈xs,c (Φ x::rest) S=.ok (p x) S)->(∀x∈xs,p x=Γ->e (Φ x::rest) S=.ok (f x) S)->zat [0] c e xs (o::rest) S=.ok ((xs.filter p).map f) S
 | [],o,_,_=>rfl| x::xs,o,hc,he=>by have ih:=zdy p f xs (Φ x) (λy hy=>hc y (Ο _ hy)) (λy hy=>he y (Ο _ hy));simp only[zat,asgG,List.set_cons_zero,hc x ϋ,zaw];cases hp:p x with|false=>simp[ih,hp]|true=>simp[ih,hp,he x ϋ hp]
@[simp]theorem zpr{α:Type}(S:St)(f:St->Out α):zbg [] S f=(f S).bind λa S'=>.ok a {S' with lk:=S.lk}:=rfl
def W.b(h:W (o.bind f) Q):W o λa S=>W (f a S) Q:=Eq.mp (zab o f Q) h
abbrev wIf(c:Bool)(P Q:Prop):Prop:=match c with|true=>P|false=>Q
@[irreducible]def wOpt{α:Type}(o:Option α)(k:α->Prop):Prop:=match o with|some a=>k a|none=>False
@[irreducible]def za2(p k:Prop):Prop:=p/\k
@[irreducible]def wOut{α:Type}(o:Out α)(Q:α->St->Prop):Prop:=W o Q
def zi4(h:c=Γ)(k:P):wIf c P Q:=by subst h;exact k
def zi5(h:c=Δ)(k:Q):wIf c P Q:=by subst h;exact k
def zdh(h1:c=Γ->P)(h2:c=Δ->Q):wIf c P Q:=by cases c with|true=>exact zi4 rfl (h1 rfl)|false=>exact zi5 rfl (h2 rfl)
def zch[Decidable p](h1:p->P)(h2:¬p->Q):wIf (decide p) P Q:=zdh (λh=>h1 (of_decide_eq_true h)) (λh=>h2 (of_decide_eq_false h))
def wOpt_of(h:o=Φ a)(q:k a):wOpt o k:=by unfold wOpt;rw[h];exact q
def wNeed_of(h:p)(q:k):za2 p k:=by unfold za2;exact⟨h,q⟩
def wOut_of(h:o=.ok a S)(q:Q a S):wOut o Q:=by unfold wOut;rw[h];exact q
def za8(h:W o Q):wOut o Q:=by unfold wOut;exact h
def zpC:wOpt o (λa=>Q a S)=W (lift S o) Q:=by unfold wOpt;cases o<;>rfl
def zbd(h:wOpt o k):∃a,o=Φ a/\k a:=by unfold wOpt at h;cases o with|none=>exact h.elim|some a=>exact⟨a,rfl,h⟩
def zbN[Decidable p](h:za2 p k)(q:k->W o Q):W (if p then o else .bad) Q:=by unfold za2 at h;rw[if_pos h.1];exact q h.2
@[reducible]def wGet(S:St)(l:Nat)(k:MO->Prop):Prop:=wOpt (S.get l) k
@[reducible]def wPut(S:St)(l:Nat)(o:MO)(k:St->Prop):Prop:=wOpt (S.put l o) k
def zbb{S:St}(h:S.get l=Φ o)(q:k o):wGet (St.mk (S.frz++S.new) nw lk) l k:=wOpt_of (zgQ h nw lk) q
def zcv(h:nw[i]?=Φ o)(q:k o):wGet (St.mk F nw lk) (F.length+i) k:=wOpt_of ((zkx F nw lk i).trans h) q
abbrev wLay(S:St)(ds:List D)(Q:D->St->Prop):Prop:=za2 (ds.length<=16777216) (Q (.ref S.len) (S.push (.lst ds)))
def zmz(h:wLay S ds Q):W (lay S ds) Q:=zbN h id
abbrev wWr(S:St)(l:Nat)(ds:List D)(d:D)(Q:D->St->Prop):Prop:=za2 (ds.length<=16777216) (wPut S l (.lst ds) λS'=>Q d S')
def zpz(h:wWr S l ds d Q):W (wr S l ds d) Q:=by refine zbN h λh=>?_;obtain⟨_,e,h⟩:=zbd h;rw[e];exact h
abbrev zpF(S:St)(op:Operator)(i j:Int)(Q:D->St->Prop):Prop:=match op with|.Add=>Q (.int (i+j)) S|.Sub=>Q (.int (i-j)) S|.Mult=>za2 (zbM i j=Γ) (Q (.int (i*j)) S)|.FloorDiv=>za2 (0<j/\j<1073741824) (Q (.int (i/j)) S)|.Mod=>za2 (0<j) (Q (.int (i%j)) S)|.Pow=>za2 (0<=j/\j<=1000000/\-18446744073709551616<i/\i<18446744073709551616) (Q (.int (i^j.toNat)) S)|_=>False
abbrev wBin(S:St)(op:Operator)(x y:D)(Q:D->St->Prop):Prop:=match x,y with|.int i,.int j=>zpF S op i j Q|.tup xs,.tup ys=>(match op with|.Add=>za2 (xs.length+ys.length<=16777216) (Q (.tup (xs++ys)) S)|_=>False)|.ref a,.ref b=>(match op with|.Add=>wGet S a λo=>wGet S b λu=>(match o,u with|.lst xs,.lst ys=>wLay S (xs++ys) Q|_,_=>False)|_=>False)|_,_=>False
def zpE(h:wBin S op x y Q):W (binD S op x y) Q:=by
 unfold wBin at h;unfold binD;split at h
 . unfold zpF za2 at h;unfold binI;split at h<;>(try dsimp only)<;>first|exact h|(rw[if_pos h.1];exact h.2)|exact False.elim h
 split at h;exact zbN h id;exact h.elim;split at h
 . obtain⟨o,e1,h⟩:=zbd h;obtain⟨u,e2,h⟩:=zbd h;simp only[e1,e2];cases o<;>cases u<;>first|exact zmz h|exact h.elim
 exact h.elim;exact h.elim
abbrev wCmp(S:St)(op:CmpOp)(x y:D)(Q:Bool->Prop):Prop:=match x,y with|.int i,.int j=>(match cmpI op i j with|some k=>Q k|none=>False)| _,_=>(match op with|.Is=>(match cmpO S .Is x y with|some k=>Q k|none=>False)|.IsNot=>(match cmpO S .IsNot x y with|some k=>Q k|none=>False)|_=>wOpt (cmpO S op x y) Q)
def zpe(h:∀i j,x=.int i->y=.int j->False):cmpD S op x y=cmpO S op x y:=by unfold cmpD;split;rename_i i j;exact(h i j rfl rfl).elim;rfl
def zi7(h:wCmp S op x y Q):∃k,cmpD S op x y=Φ k/\Q k:=by
 have fin:∀o:Option Bool,(match o with|some k=>Q k|none=>False)->∃k,o=Φ k/\Q k:=λo q=>by cases o with|none=>exact q.elim|some k=>exact⟨k,rfl,q⟩
 unfold wCmp at h;split at h;exact fin _ h;rename_i a;rw[zpe a];split at h;exact fin _ h;exact fin _ h;unfold wOpt at h;cases e:cmpO S op x y with|none=>rw[e]at h;exact h.elim|some k=>rw[e]at h;exact⟨k,rfl,h⟩
def zmB(h:wCmp S op x y λk=>Q k S):W (lift S (cmpD S op x y)) Q:=by obtain⟨k,e,q⟩:=zi7 h;rw[e];exact q
abbrev wBi(S:St)(b:Bi)(ds:List D)(Q:D->St->Prop):Prop:=match b,ds with
 |.len,[x]=>(match x with
  |.tup ds=>Q (.int ds.length) S|.fix ds=>Q (.int ds.length) S|.ref l=>wGet S l λo=>(match o with|.lst ds=>Q (.int ds.length) S|_=>False)|_=>False)
 |.abs,[.int i]=>Q (.int (if i<0 then -i else i)) S|.max2,[.int i,.int j]=>Q (.int (if j>i then j else i)) S|.min2,[.int i,.int j]=>Q (.int (if j<i then j else i)) S|.isin t,[x]=>wOpt (tyOf S x) λa=>Q (.bl (a==t||(a=="bool"&&t=="int"))) S|_,_=>False
def zr8(h:wBi S b ds Q):W (bi S b ds) Q:=by
 unfold wBi at h;split at h
 all_goals
  repeat' first
  |exact h
  |exact h.elim
  |split at h
  |(obtain⟨o,e,h⟩:=zbd h;simp only[bi,e])
abbrev wIsL(S:St)(x:D)(P:Prop):Prop:=match x with|.ref l=>wGet S l λo=>(match o with|.lst _=>P|_=>False)|_=>False
def zi3(h:wIsL S x P):isL S x=Γ/\P:=by
 unfold wIsL at h;split at h
 . obtain⟨o,e,h⟩:=zbd h;cases o<;>first|exact⟨by simp only[isL,e],h⟩|exact h.elim
 exact h.elim
abbrev wMt(S:St)(m:Mt)(x:D)(ds:List D)(Q:D->St->Prop):Prop:=match m,x,ds with
 |.append,.ref l,[y]=>wGet S l λo=>(match o with|.lst ds=>wWr S l (ds++[y]) .non Q|_=>False)
 |.popAt,.ref l,[.int i]=>wGet S l λo=>(match o with
  |.lst ds=>za2 (0<=i) (wOpt ds[i.toNat]? λy=>wWr S l (ds.eraseIdx i.toNat) y Q)|_=>False)
 |.count,.ref l,[.int i]=>wGet S l λo=>(match o with
  |.lst ds=>wOpt (za5 ds) λos=>Q (.int (os.count (Φ i):Nat)) S|_=>False)
 |.count,.ref l,[.non]=>wGet S l λo=>(match o with
  |.lst ds=>wOpt (za5 ds) λos=>Q (.int (os.count Ψ:Nat)) S|_=>False)
 |_,_,_=>False
def zr6(h:wMt S m x ds Q):W (mt S m x ds) Q:=by
 unfold wMt at h;split at h
 all_goals
  repeat' first
  |exact h.elim
  |exact h
  |exact zpz h
  |refine zbN h λh=>?_
  |(obtain⟨o,e,h⟩:=zbd h;simp only[mt,e])
  |split at h
abbrev wSeq(S:St)(x:D)(k:List D->Prop):Prop:=match x with|.tup ds=>k ds|.fix ds=>k ds|.ref l=>wGet S l λo=>(match o with|.lst ds=>k ds|_=>False)|_=>False
def zi0(h:wSeq S x k):∃ds,zbQ S x=Φ ds/\k ds:=by
 unfold wSeq at h;split at h;exact⟨_,rfl,h⟩;exact⟨_,rfl,h⟩
 . obtain⟨o,e,h⟩:=zbd h;cases o<;>first|exact⟨_,by simp only[zbQ,e],h⟩|exact h.elim
 exact h.elim
abbrev wTru(S:St)(x:D)(Q:Bool->Prop):Prop:=match x with|.bl b=>Q b|.non=>Q Δ|.int i=>Q (i != 0)|.tup ds=>Q (!ds.isEmpty)|.ref l=>wGet S l λo=>(match o with|.lst ds=>Q (!ds.isEmpty)|_=>False)|_=>False
def zpA(h:wTru S x λk=>Q k S):W (lift S (tru S x)) Q:=by
 unfold wTru at h;split at h
 all_goals
  repeat' first
  |exact h
  |exact h.elim
  |split at h
  |(obtain⟨o,e,h⟩:=zbd h;simp only[tru,e])
@[irreducible]def zh1{α:Type}(ls:List Nat)(S:St)(f:St->Out α)(Q:α->St->Prop):Prop:=W (zbg ls S f) Q
def zi2(h:zh1 ls S f Q):W (zbg ls S f) Q:=by unfold zh1 at h;exact h
def zay(h:W (f {S with lk:=ls++S.lk}) λa T=>Q a {T with lk:=S.lk}):zh1 ls S f Q:=by unfold zh1 zbg;rw[zab];exact h
section
variable(cf:CF)
mutual
noncomputable def wE(e₀:CE)(δ:Ev)(S:St)(Q:(D->St->Prop)):Prop:=match e₀ with|.loc i=>(match (δ[i]?).join with|some d=>Q d S|none=>False)|.con d=>Q d S|.tst _=>False|.bin op a b=>wE a δ S λx S1=>wE b δ S1 λy S2=>wBin S2 op x y Q|.neg a=>wE a δ S λx S1=>(match x with|.int i=>Q (.int (-i)) S1|_=>False)|.nt a=>wE a δ S λx S1=>(match x with|.bl b=>Q (.bl (!b)) S1|_=>False)|.cmp op a b=>wE a δ S λx S1=>wE b δ S1 λy S2=>wCmp S2 op x y λk=>Q (.bl k) S2|.cmp2 op op' a b c=>wE a δ S λx S1=>wE b δ S1 λy S2=>wCmp S2 op x y λk=>wIf k (wE c δ S2 λz S4=>wCmp S4 op' y z λk'=>Q (.bl k') S4) (Q (.bl Δ) S2)|.and a b=>wE a δ S λx S1=>(match x with|.bl k=>wIf k (wE b δ S1 Q) (Q (.bl Δ) S1)|_=>False)|.or a b=>wE a δ S λx S1=>(match x with|.bl k=>wIf k (Q (.bl Γ) S1) (wE b δ S1 Q)|_=>False)|.ite c a b=>wT c δ S λk S1=>wIf k (wE a δ S1 Q) (wE b δ S1 Q)|.tup es=>wEs es δ S λds S1=>za2 (ds.length<=16777216) (Q (.tup ds) S1)|.lst es=>wEs es δ S λds S1=>wLay S1 ds Q|.dnew=>Q (.ref S.len) (S.push (.dic []))|.srtK a=>wE a δ S λr S1=>wOpt (zhE S1 r) λq=>za2 (q.2.length<1000/\q.2.Nodup) (wLay S1 (srtD q.1 q.2) Q)|.srtN j a=>wE a δ S λr S1=>wOpt (zlZ cf j S1 r) λq=>za2 (q.2.length<1000/\q.2.Nodup) (wLay S1 (srtD q.1 q.2) Q)|.sl a n=>wE a δ S λx S1=>(match x with|.tup ds=>za2 (n<ds.length) (Q (.tup (ds.take n)) S1)|_=>False)|.dgetI a b c=>wE a δ S λx S1=>za2 (isDi S1 x=Γ) (wE b δ S1 λy S2=>wE c δ S2 λz S3=>wOpt (zf9 S3 x y) λo=>Q (o.getD z) S3)|.dsetI a b c=>wE a δ S λx S1=>za2 (isDi S1 x=Γ) (wE b δ S1 λy S2=>wE c δ S2 λz S3=>wOpt (zfj S3 x y z) λo=>Q o.1 o.2)|.intb a=>wE a δ S λx S1=>(match x with|.bl b=>Q (.int (if b then 1 else 0)) S1|_=>False)|.extv a b=>wE a δ S λx S1=>wIsL S1 x (wE b δ S1 λy S2=>wOpt (lsts S2 x y) λo=>wWr S2 o.1 (o.2.1++o.2.2) .non Q)|.fld a f=>wE a δ S λx S1=>wOpt ((zbY S1 x).bind λp=>p.2.lookup f) λv=>Q v S1|.mk c f _ j es=>wEs es δ S λds S1=>wOut (appW cf f (.ref S1.len::(ds++List.replicate j .non)) (S1.push (.ins c []))) λd S2=>za2 (zkl d=Γ) (Q (.ref S1.len) S2)|.meth m tb o es=>wE o δ S λx S1=>wOpt (zbY S1 x) λp=>wOpt (tb.lookup p.1) λf=>za2 ((p.2.lookup m).isNone=Γ) (wEs es δ S1 λds S2=>wOut (appW cf f (x::ds) S2) Q)|.callC f _ _ es=>wEs es δ S λds S1=>wOut (appW cf f ds S1) Q|.clr a=>wE a δ S λx S1=>wIsL S1 x (match x with|.ref l=>wWr S1 l [] .non Q|_=>False)|.ix a b=>wE a δ S λx S1=>wE b δ S1 λy S2=>wSeq S2 x λds=>(match y with|.int i=>wOpt (atI ds i) λd=>Q d S2|_=>False)|.call f j es=>wEs es δ S λds S1=>wOut (app cf f (ds++List.replicate j .non) S1) Q|.callW f j es=>wEs es δ S λds S1=>wOut (appW cf f (ds++List.replicate j .non) S1) Q|.bi b es=>wEs es δ S λds S1=>wBi S1 b ds Q|.mt m o es=>wE o δ S λx S1=>wIsL S1 x (wEs es δ S1 λds S2=>wMt S2 m x ds Q)|.mkL l=>wL l δ S λr S1=>wLay S1 r.1 Q|.all l=>wL l δ S λr S1=>wOpt (allD r.1) λb=>Q (.bl b) S1|.srt a=>wE a δ S λr S1=>wOpt (lstI S1 r) λis=>za2 (is.length<64) (wLay S1 ((zcU is).map .int) Q)
noncomputable def wEs(e₀:CEs)(δ:Ev)(S:St)(Q:(List D->St->Prop)):Prop:=match e₀ with|.nil=>Q [] S|.cons e r=>wE e δ S λd S1=>wEs r δ S1 λds S2=>Q (d::ds) S2
noncomputable def wT(e₀:CE)(δ:Ev)(S:St)(Q:(Bool->St->Prop)):Prop:=match e₀ with|.cmp op a b=>wE a δ S λx S1=>wE b δ S1 λy S2=>wCmp S2 op x y λk=>Q k S2|.cmp2 op op' a b c=>wE a δ S λx S1=>wE b δ S1 λy S2=>wCmp S2 op x y λk=>wIf k (wE c δ S2 λz S4=>wCmp S4 op' y z λk'=>Q k' S4) (Q Δ S2)|.nt a=>wT a δ S λk S1=>Q (!k) S1|.and a b=>wT a δ S λk S1=>wIf k (wT b δ S1 Q) (Q Δ S1)|.or a b=>wT a δ S λk S1=>wIf k (Q Γ S1) (wT b δ S1 Q)|.tst e=>wE e δ S λx S1=>wTru S1 x λk=>Q k S1|_=>False
noncomputable def wL(e₀:CL)(δ:Ev)(S:St)(Q:(List D×List Nat->St->Prop)):Prop:=match e₀ with
 |.val e=>wE e δ S λx S1=>wSeq S1 x λds=>Q (ds,lkOf S1 x) S1|.rng1 a=>wE a δ S λx S1=>(match x with|.int j=>za2 (-(2^62)<=j/\j<2^62) (Q ((List.range j.toNat).map λ(k:Nat)=>.int k,[]) S1)|_=>False)
 |.rng2 a b=>wE a δ S λx S1=>wE b δ S1 λy S2=>(match x,y with
  |.int i,.int j=>za2 (-(2^62)<=i/\i<2^62/\-(2^62)<=j/\j<2^62) (Q ((List.range (j-i).toNat).map λ(k:Nat)=>.int (i+k),[]) S2)|_,_=>False)
 |.enum a=>wE a δ S λx S1=>wOpt (zet S1 x) λr=>Q r S1|.comp n js g it c e=>wL it δ S λr S1=>zh1 r.2 S1 (λS2=>zat g (evT cf c) (evE cf e) r.1 (csl n js δ) S2) λds S3=>za2 (ds.length<=16777216) (Q (ds,[]) S3)
end
abbrev wS(e₀:CS)(δ:Ev)(S:St)(Q:(Fl->St->Prop)):Prop:=match e₀ with|.nil=>Q (.nx δ) S|.stop=>False|.asg i e r=>wE cf e δ S λx S1=>wS r (δ.set i (Φ x)) S1 Q|.asgT g e r=>wE cf e δ S λx S1=>wOpt (asgG g x δ) λδ'=>wS r δ' S1 Q|.setF a f e r=>wE cf e δ S λv S1=>wE cf a δ S1 λx S2=>wOpt (zbJ S2 x f v) λS3=>wS r δ S3 Q|.setIx a b e r=>wE cf e δ S λv S1=>wE cf a δ S1 λx S2=>wE cf b δ S2 λy S3=>wOpt (lPut S3 x y v) λS4=>wS r δ S4 Q|.ifS c t u r=>wT cf c δ S λk S1=>wIf k (wS t δ S1 λf S2=>(match f with|.nx δ'=>wS r δ' S2 Q|.rt d=>Q (.rt d) S2)) (wS u δ S1 λf S2=>(match f with|.nx δ'=>wS r δ' S2 Q|.rt d=>Q (.rt d) S2))|.forS g l b r=>wL cf l δ S λq S1=>zh1 q.2 S1 (λS2=>zaI g (exS cf b) q.1 δ S2) λf S3=>(match f with|.nx δ'=>wS r δ' S3 Q|.rt d=>Q (.rt d) S3)|.retN _=>Q (.rt .non) S|.ret e _=>wE cf e δ S λx S1=>Q (.rt x) S1|.expr e r=>wE cf e δ S λ_ S1=>wS r δ S1 Q
end
section
variable{cf:CF}
def W.bnd(h:W o P)(k:∀a S,P a S->W (f a S) Q):W (o.bind f) Q:=by rw[zab];exact h.mono k
def zmy(h:wOpt o k)(q:∀a,k a->W (f a S) Q):W ((lift S o).bind f) Q:=by obtain⟨a,rfl,g⟩:=zbd h;exact q a g
def zi1(h:wOpt o λa=>Q a S):W (lift S o) Q:=by rw[<-zpC];exact h
def zpD(h:wIsL S x P)(q:P->W o Q):W (if isL S x then o else .bad) Q:=by rw[if_pos (zi3 h).1];exact q (zi3 h).2
def zk7(h:wIf c A B)(a:A->W o Q)(b:B->W u Q):W (if c then o else u) Q:=by cases c with|true=>exact a h|false=>exact b h
def zr7{o u:Out α}{f:α->St->Out β}{Q:β->St->Prop}(h:wIf c A B)(a:A->W (o.bind f) Q)(b:B->W (u.bind f) Q):W ((if c then o else u).bind f) Q:=by cases c with|true=>exact a h|false=>exact b h
def zmA(h:wCmp S op x y k)(q:∀b,k b->W (f b S) Q):W ((lift S (cmpD S op x y)).bind f) Q:=by obtain⟨b,e,h⟩:=zi7 h;rw[e];exact q b h
def zpB(h:wSeq S x k)(q:∀b,k b->W (f b S) Q):W ((lift S (zbQ S x)).bind f) Q:=by obtain⟨b,e,h⟩:=zi0 h;rw[e];exact q b h
def zmx(h:wOut o Q):W o Q:=by unfold wOut at h;exact h
mutual
theorem wE_W(e:CE){δ:Ev}{S:St}{Q:D->St->Prop}(h:wE cf e δ S Q):W (evE cf e δ S) Q:=by
 cases e with
 |loc i=>
  show W (lift S _) Q;conv at h=>whnf
  split at h;rename_i e;rw[e];exact h;exact h.elim
 |ix a b=>refine W.bnd (wE_W a h) λx S1 h=>W.bnd (wE_W b h) λy S2 h=>?_;obtain⟨ds,e,h⟩:=zi0 h;rw[e];cases y with|int i=>exact zi1 h|_=>exact h.elim
 |_=>
  conv at h=>whnf
  first
  |exact h
  |exact h.elim
  |refine W.bnd (wE_W _ h) λ_ _ h=>?_|refine W.bnd (znl _ h) λ_ _ h=>?_|refine W.bnd (wL_W _ h) λ_ _ h=>?_|refine W.bnd (wT_W _ h) λ_ _ h=>?_
  repeat' first
  |exact h
  |exact h.elim
  |exact zpE h
  |exact zr8 h
  |exact zr6 h
  |exact zmz h
  |exact zpz h
  |exact zmx h
  |exact zi1 h
  |exact wE_W _ h
  |refine W.bnd (wE_W _ h) λ_ _ h=>?_|refine W.bnd (znl _ h) λ_ _ h=>?_|refine W.bnd (zmx h) λ_ _ h=>?_|refine zmA h λ_ h=>?_|refine zmy h λ_ h=>?_|refine zbN h λh=>?_|refine zpD h λh=>?_|refine zk7 h (λh=>?_) λh=>?_
  |split at h
theorem znl(es:CEs){δ:Ev}{S:St}{Q:List D->St->Prop}(h:wEs cf es δ S Q):W (evEs cf es δ S) Q:=by cases es with|nil=>exact h|cons e r=>exact W.bnd (wE_W e h) λ_ _ h=>W.bnd (znl r h) λ_ _ h=>h
theorem wT_W(e:CE){δ:Ev}{S:St}{Q:Bool->St->Prop}(h:wT cf e δ S Q):W (evT cf e δ S) Q:=by cases e with|cmp op a b=>exact W.bnd (wE_W a h) λ_ _ h=>W.bnd (wE_W b h) λ_ _ h=>zmB h|cmp2 op op' a b c=>exact W.bnd (wE_W a h) λ_ _ h=>W.bnd (wE_W b h) λ_ _ h=>zmA h λ_ h=>zk7 h (λh=>W.bnd (wE_W c h) λ_ _ h=>zmB h) λh=>h|nt a=>exact W.bnd (wT_W a h) λ_ _ h=>h|and a b=>exact W.bnd (wT_W a h) λ_ _ h=>zk7 h (wT_W b) λh=>h|or a b=>exact W.bnd (wT_W a h) λ_ _ h=>zk7 h (λh=>h) (wT_W b)|tst e=>exact W.bnd (wE_W e h) λ_ _ h=>zpA h|_=>exact h.elim
theorem wL_W(l:CL){δ:Ev}{S:St}{Q:List D×List Nat->St->Prop}(h:wL cf l δ S Q):W (evL cf l δ S) Q:=by
 cases l with
 |val e=>exact W.bnd (wE_W e h) λ_ _ h=>zpB h λ_ h=>h| rng1 a=>refine W.bnd (wE_W a h) λx _ h=>?_;cases x<;>first|exact zbN h λh=>h|exact h.elim
 |rng2 a b=>refine W.bnd (wE_W a h) λx _ h=>W.bnd (wE_W b h) λy _ h=>?_;cases x<;>first|exact h.elim|(cases y<;>first|exact zbN h λh=>h|exact h.elim)
 |enum a=>exact W.bnd (wE_W a h) λ_ _ h=>zi1 h|comp n js g it c e=>exact W.bnd (wL_W it h) λ_ _ h=>W.bnd (zi2 h) λ_ _ h=>zbN h λh=>h
end
def wS_W(s)(h:wS cf s δ S Q):W (exS cf s δ S) Q:=by
 induction s generalizing δ S Q with
 |nil=>exact h|stop=>exact h.elim|asg i e r hr=>exact W.bnd (wE_W e h) λ_ _ h=>hr h|asgT g e r hr=>exact W.bnd (wE_W e h) λ_ _ h=>zmy h λ_ h=>hr h|setF a f e r hr=>exact W.bnd (wE_W e h) λ_ _ h=>W.bnd (wE_W a h) λ_ _ h=>(zbd h).elim λ_ h=>by rw[h.1];exact hr h.2|setIx a b e r hr=>exact W.bnd (wE_W e h) λ_ _ h=>W.bnd (wE_W a h) λ_ _ h=>W.bnd (wE_W b h) λ_ _ h=>(zbd h).elim λ_ h=>by rw[h.1];exact hr h.2| ifS c t u r ht hu hr=>
  refine W.bnd (wT_W c h) λ_ _ h=>zr7 h (λh=>W.bnd (ht h) λf _ h=>?_) λh=>W.bnd (hu h) λf _ h=>?_
  all_goals
   cases f with|nx=>exact hr h|rt=>exact h
 |forS g l b r hb hr=>refine W.bnd (wL_W l h) λ_ _ h=>W.bnd (zi2 h) λf _ h=>?_;cases f with|nx=>exact hr h|rt=>exact h
 |retN=>exact h|ret e=>exact W.bnd (wE_W e h) λ_ _ h=>h|expr e r hr=>exact W.bnd (wE_W e h) λ_ _ h=>hr h
@[irreducible]def wFin(S:St)(r:Fl)(T:St)(Q:D->St->Prop):Prop:=W (fin S r T) Q
def zrU(h:P[f]?=Φ F)(hl:ds.length=F.np)(w:wS (callF P n) F.body (zaG F ds) S.enter λr T=>wFin S r T Q)(hp:F.prim=Ψ:=by rfl):
  W (app (callF P (n+1)) f ds S) Q:=by
 rw[znf h hl hp,zab];refine(wS_W _ w).mono λr T q=>?_;unfold wFin at q;exact q
def zaL(h:P[f]?=Φ F)(hl:ds.length=F.np)(w:wS (callF P n) F.body (zaG F ds) S.enter λr T=>wFin S r T λa T'=>a=d/\T'=S')(hp:F.prim=Ψ:=by rfl):
 app (callF P (n+1)) f ds S=.ok d S':=W.eq (zrU h hl w hp)
def zrJ(h:P[f]?=Φ F)(hl:ds.length=F.np)(w:wS (callF P n) F.body (zaG F ds) S λr T=>match r with|.nx _=>Q .non T|.rt d=>Q d T)(hp:F.prim=Ψ:=by rfl):
  W (callF P (n+1) f ds S) Q:=by
 simp only[callF,h,hl,hp,if_true,zab];refine(wS_W _ w).mono λr T q=>?_;cases r<;>exact q
def zaf(h:flat S.len d=Γ)(q:Q d S):wFin S (.rt d) T Q:=by unfold wFin;rw[zkC,ziF S d T h];exact q
def zfo(hl:S.len<=l)(hg:T.get l=Φ (.lst ds))(h:flats S.len ds=Γ)(q:Q (.ref S.len) (S.push (.lst ds))):wFin S (.rt (.ref l)) T Q:=by
 have h0:flat S.len (.ref l)=Δ:=by simp[flat];omega
 unfold wFin;rw[zkC];unfold zc0;simp only[h0,hg,h,if_true,Bool.false_eq_true,if_false];exact q
def zi6(hl:S.len<=l)(hg:T.get l=Φ (.lst ds))(h:flats S.len ds=Δ)(q:Q (.ref l) ⟨S.frz,S.new++T.new,S.lk⟩):wFin S (.rt (.ref l)) T Q:=by
 have h0:flat S.len (.ref l)=Δ:=by simp[flat];omega
 unfold wFin;rw[zkC];unfold zc0;simp only[h0,hg,h,Bool.false_eq_true,if_false];exact q
end
structure Frm(S S':St):Prop where
 frz:S'.frz=S.frz
 lk:S'.lk=S.lk
 len:S.new.length<=S'.new.length
 same:∀l∈S.lk,l<S.len->S'.get l=S.get l
def Frm.refl(S):Frm S S:=⟨rfl,rfl,le_refl _,λ_ _ _=>rfl⟩
def Frm.lens(h:Frm S a):S.len<=a.len:=by unfold St.len;rw[h.frz];have:=h.len;lia
def Frm.trans(a:Frm S S1)(b:Frm S1 d):Frm S d:=⟨b.frz.trans a.frz,b.lk.trans a.lk,le_trans a.len b.len,λl c h=>(b.same l (by rw[a.lk];exact c) (lt_of_lt_of_le h a.lens)).trans (a.same l c h)⟩
def Frm.push(S)(o):Frm S (S.push o):=by refine⟨rfl,rfl,by simp[St.push],λl _ h=>?_⟩;unfold St.len at h;unfold St.get St.push;simp only;split;rfl;rw[getElem?_append_left (by omega)]
def Frm.put(h:S.put l o=Φ a):Frm S a:=by
 unfold St.put at h;split at h;exact nS h;split at h;exact nS h;rename_i f b;injection h with h;subst h;refine⟨rfl,rfl,by simp,λm c g=>?_⟩;have d:m≠l:=λe=>by subst e;exact b (by simpa using c)
 unfold St.get;simp only;split;rfl;rw[getElem?_set_ne (by lia)]
def Frm.keep(S T:St):Frm S ⟨S.frz,S.new++T.new,S.lk⟩:=by refine⟨rfl,rfl,by simp,λl _ h=>?_⟩;unfold St.len at h;unfold St.get;simp only;split;rfl;rw[getElem?_append_left (by omega)]
abbrev Fr{α:Type}(S:St)(o:Out α):Prop:=∀a T,o=.ok a T->Frm S T
section
variable{α β:Type}{S T:St}{o:Out α}
def Fr.of(h:Frm S T):Fr S (.ok a T):=λ_ _ e=>by cases e;exact h
def Fr.ok:Fr S (.ok a S):=.of (.refl S)
def Fr.bad:Fr S (.bad:Out α):=λ_ _ e=>by cases e
def Fr.to(h:Frm S T)(k:Fr T o):Fr S o:=λa U e=>h.trans (k a U e)
def Fr.bind(h:Fr S o)(k:∀a T,Fr T (f a T)):Fr S (o.bind f):=by cases o with|ok a T=>exact .to (h a T rfl) (k a T)|_=>exact λ_ _ e=>by cases e
def Fr.w(f:Fr S o)(h:W o Q):W o λa T=>Q a T/\Frm S T:=by cases o with|ok a T=>exact⟨h,f a T rfl⟩|_=>exact h
def Fr.lift{o:Option α}:Fr S (lift S o):=by cases o with|none=>exact .bad|some=>exact .ok
def Fr.lock(h:∀S,Fr S (f S)):Fr S (zbg ls S f):=by unfold zbg;cases e:f {S with lk:=ls++S.lk} with|ok a T=>exact .of (have h:=h _ a T e;⟨h.frz,rfl,h.len,λl b c=>h.same l (mem_append_right _ b) c⟩)|_=>exact λ_ _ e=>by cases e
def zrx:Fr S (lay S ds):=by unfold lay;split;exact .of (.push _ _);exact .bad
def frWr:Fr S (wr S l ds d):=by
 unfold wr
 repeat' first
 |exact .bad
 |exact .of (.put (by assumption))
 |split
def zsX:Fr S (binD S op x y):=by
 unfold binD binI
 repeat' first
 |exact .bad
 |exact .ok
 |exact zrx
 |split
def frBi:Fr S (bi S b ds):=by
 cases b<;>rcases ds with _|⟨x,_|⟨y,_|⟨z,_⟩⟩⟩
 all_goals first
 |exact .bad
 |exact .ok
 |(unfold bi;dsimp only;split<;>first|exact .bad|exact .ok|(split<;>first|exact .bad|exact .ok))
 |(cases x<;>first|exact .bad|exact .ok|(cases y<;>first|exact .bad|exact .ok))
def frMt:Fr S (mt S m x ds):=by
 cases m<;>cases x<;>(try exact .bad)<;>rcases ds with _|⟨y,_|⟨z,_⟩⟩
 all_goals first
 |exact .bad
 |(unfold mt;dsimp only;split<;>first|exact .bad|exact frWr)
 |(cases y<;>first
  |exact .bad
  |(unfold mt;dsimp only;repeat' first
   |exact .bad
   |exact .ok
   |exact frWr
   |split))
def zsW(h:zbJ S x f v=Φ T):Frm S T:=by
 unfold zbJ at h
 repeat' first
 |exact .put h
 |exact nS h
 |split at h
def zsV(h:dPut S x y v=Φ T):Frm S T:=by
 unfold dPut Option.bind at h
 repeat' first
 |exact .put h
 |exact nS h
 |split at h
 |dsimp only at h
def zry(h:lPut S x y v=Φ T):Frm S T:=by
 unfold lPut Option.bind at h
 repeat' first
 |exact .put h
 |exact nS h
 |split at h
 |dsimp only at h
def zsU:Fr S ((R.lift S (zfj S x y v)).bind λo _=>.ok o.1 o.2):=by
 unfold zfj;split;exact .ok;cases e:dPut S x y v with|none=>exact .bad|some=>exact .of (zsV e)
 exact .bad
def zo4:Fr S (zc0 S d T):=by
 unfold zc0;dsimp only
 repeat' first
 |exact .ok
 |exact .of (.push _ _)
 |exact .of (.keep _ _)
 |split
def zsY:Fr S (app cf f ds S):=by unfold app;cases cf f ds S.enter with|ok=>exact zo4|_=>exact λ_ _ e=>by cases e
def frC(hc:∀δ S,Fr S (c δ S))(he:∀δ S,Fr S (e δ S))(xs)(δ)(S):Fr S (zat g c e xs δ S):=by
 induction xs generalizing δ S with
 |nil=>exact .ok| cons x xs ih=>
  unfold zat
  repeat' first
  |exact .bad
  |exact .ok
  |exact ih _ _
  |exact hc _ _
  |exact he _ _
  |refine Fr.bind ?_ λ_ _=>?_
  |split
def frF(hb:∀δ S,Fr S (b δ S))(xs)(δ)(S):Fr S (zaI g b xs δ S):=by
 induction xs generalizing δ S with
 |nil=>exact .ok| cons x xs ih=>
  unfold zaI
  repeat' first
  |exact .bad
  |exact .ok
  |exact ih _ _
  |exact hb _ _
  |refine Fr.bind ?_ λ_ _=>?_
  |split
end
abbrev CFok(cf:CF):Prop:=∀f ds S d T,cf f ds S=.ok d T->Frm S T
section
variable{cf:CF}(hcf:CFok cf)
include hcf
def frW{f:Nat}{ds:List D}{S:St}:Fr S (appW cf f ds S):=by unfold appW;exact hcf f ds S
mutual
theorem frE(e:CE)(δ:Ev)(S:St):Fr S (evE cf e δ S):=by
 cases e
 all_goals
  first
  |exact .ok
  |exact .bad
  |exact .lift
  |exact .of (.push _ _)
  |refine Fr.bind ?_ λ_ _=>?_
 all_goals
  repeat' first
  |exact .ok
  |exact .bad
  |exact .lift
  |exact frE _ _ _
  |exact frEs _ _ _
  |exact frT _ _ _
  |exact frL _ _ _
  |exact zsX
  |exact frBi
  |exact frMt
  |exact zrx
  |exact frWr
  |exact zsY
  |exact frW hcf
  |exact .to (.push _ _) (frW hcf)
  |exact zsU
  |refine Fr.bind ?_ λ_ _=>?_
  |split
theorem frEs(e:CEs)(δ:Ev)(S:St):Fr S (evEs cf e δ S):=by cases e with|nil=>exact .ok|cons e r=>exact .bind (frE e δ S) λ_ T=>.bind (frEs r δ T) λ_ _=>.ok
theorem frT(e:CE)(δ:Ev)(S:St):Fr S (evT cf e δ S):=by
 cases e
 all_goals
  first
  |exact .bad
  |refine Fr.bind ?_ λ_ _=>?_
 all_goals
  repeat' first
  |exact .ok
  |exact .lift
  |exact frE _ _ _
  |exact frT _ _ _
  |refine Fr.bind ?_ λ_ _=>?_
  |split
theorem frL(e:CL)(δ:Ev)(S:St):Fr S (evL cf e δ S):=by
 cases e
 all_goals
  refine Fr.bind ?_ λ_ _=>?_
  all_goals
   repeat' first
   |exact .ok
   |exact .bad
   |exact .lift
   |exact frE _ _ _
   |exact frL _ _ _
   |exact .lock λ_=>frC (λδ S=>frT _ δ S) (λδ S=>frE _ δ S) _ _ _|refine Fr.bind ?_ λ_ _=>?_
   |split
end
def frS(s:CS)(δ:Ev)(S:St):Fr S (exS cf s δ S):=by
 cases s
 all_goals
  first
  |exact .ok
  |exact .bad
  |refine Fr.bind ?_ λ_ _=>?_
 all_goals
  repeat' first
  |exact .ok
  |exact .bad
  |exact .lift
  |exact frE hcf _ _ _
  |exact frT hcf _ _ _
  |exact frL hcf _ _ _
  |exact frS _ _ _
  |exact .to (zsW (by assumption)) (frS _ _ _)
  |exact .to (zry (by assumption)) (frS _ _ _)
  |exact .lock λ_=>frF (λδ S=>frS _ δ S) _ _ _|refine Fr.bind ?_ λ_ _=>?_
  |split
end
end R
namespace R
open PySem L2
abbrev KL(K:Frag)(a:Addr)(xs:List V):Prop:=∃(o:Obj) (its:Array Θ) (n:Nat),K.lookup a=Φ o/\o.cls=.type "list"/\o.dict=Ψ/\o.data=.seq its n/\its.size<=sizeLine/\Vals xs its.toList
abbrev FixL(K:Frag)(H:Hp)(a:Addr)(xs:List V):Prop:=(∃o,H a=Φ (.frz o (.lst xs)))\/KL K a xs
def FixL.sq(h:FixL K H a xs):SqL K H a xs:=h.elim (λz=>(by obtain⟨o,e⟩:=z;exact .inl (.inr ⟨o,e⟩))) .inr
class Mks where
 ts:List (Addr×Str)
 cl:List Addr
variable[Mks]
abbrev TabIn(H:Hp)(P:Addr)(q:Str):Prop:=∃ps:Array Θ,H P=Φ (.tbl ps)/\TriplesOk ps.toList/\
 ∀(pos:Pos)(v:Θ),codeAmong pos ps.toList=Φ v->∃(c:Addr) (oc:Obj) (vs:Array Θ) (t:Tok),v=.ref c/\H c=Φ (.frz oc (.own 0))/\oc.data=.fields vs/\vs[1]?=Φ (.str q t)
def TabIn.up(t:TabIn H P q)(e:H' P=H P)(f:∀b o u,H b=Φ (.frz o u)->H' b=Φ (.frz o u)):TabIn H' P q:=by obtain⟨a,d,g,h⟩:=t;refine⟨a,by rw[e];exact d,g,λpos v i=>?_⟩;obtain⟨c,j,k,t,l,m,n⟩:=h pos v i;exact⟨c,j,k,t,l,f _ _ _ m,n⟩
abbrev TB(H:Hp):Prop:=∀p∈Mks.ts,TabIn H p.1 p.2
structure Kp(H H':Hp):Prop where
 tups:Tups H H'
 frzs:∀b o u,H b=Φ (.frz o u)->H' b=Φ (.frz o u)
 tab:TB H->TB H'
def Kp.refl(H):Kp H H:=⟨Tups.refl H,λ_ _ _ h=>h,λh=>h⟩
def Kp.trans(a:Kp H d)(b:Kp d e):Kp H e:=⟨a.tups.trans b.tups,λc o u h=>b.frzs c o u (a.frzs c o u h),λh=>b.tab (a.tab h)⟩
def Kp.same(a:Tups H H')(b:∀b o u,H b=Φ (.frz o u)->H' b=Φ (.frz o u))(c:∀P ps,H P=Φ (.tbl ps)->H' P=Φ (.tbl ps)):Kp H H':=⟨a,b,λh p d=>by obtain⟨ps,e,_⟩:=id (h p d);exact(h p d).up ((c _ _ e).trans e.symm) b⟩
def FixL.kp(h:FixL K H a xs)(k:Kp H H'):FixL K H' a xs:=h.elim (λz=>(by obtain⟨o,e⟩:=z;exact .inl ⟨o,k.frzs _ _ _ e⟩)) .inr
mutual
noncomputable def RV(K:Frag)(ι:List Addr)(H:Hp):D->V->Prop
 |.non,v=>v=.non|.bl b,v=>v=.bl b|.int i,v=>v=.int i|.str x,v=>v=.str x|.tup ds,v=>∃a xs,v=.ref a/\H a=Φ (.tup xs)/\RVs K ι H ds xs|.ref l,v=>∃a,ι[l]?=Φ a/\v=.ref a|.fix ds,v=>∃a xs,v=.ref a/\FixL K H a xs/\RVs K ι H ds xs
noncomputable def RVs(K:Frag)(ι:List Addr)(H:Hp):List D->List V->Prop
 | [],vs=>vs=[]|d::ds,vs=>∃v r,vs=v::r/\RV K ι H d v/\RVs K ι H ds r
end
abbrev RIs(K:Frag)(ι:List Addr)(H:Hp):List (Int×D)->List (Key×V)->Prop
 | [],ws=>ws=[]|(k,d)::r,ws=>∃v w,ws=((Sum.inl k:Key),v)::w/\RV K ι H d v/\RIs K ι H r w
abbrev RFs(K:Frag)(ι:List Addr)(H:Hp):List (Str×D)->List (Str×V)->Prop
 | [],ws=>ws=[]|(f,d)::r,ws=>∃v w,ws=(f,v)::w/\RV K ι H d v/\RFs K ι H r w
abbrev RO(K:Frag)(ι:List Addr)(H:Hp)(a:Addr):MO->Prop
 |.lst ds=>∃xs,H a=Φ (.lst xs)/\RVs K ι H ds xs|.dic kvs=>(kvs.map (·.1)).Nodup/\∃ws,H a=Φ (.dK ws)/\RIs K ι H kvs ws|.ins c fs=>∃C dx ws,Mks.cl[c]?=Φ C/\H a=Φ (.ins C dx ws)/\RFs K ι H fs ws
structure RH(K:Frag)(ι:List Addr)(H:Hp)(S:St):Prop where
 len:ι.length=S.len
 nd:ι.Nodup
 obj:∀l o,S.get l=Φ o->∃a,ι[l]?=Φ a/\RO K ι H a o
 tab:TB H
structure Ext(ι:List Addr)(H:Hp)(ι':List Addr)(H':Hp):Prop where
 pre:ι <+: ι'
 kp:Kp H H'
 rest:∀a o,a∉ι->H a=Φ o->(H' a=Φ o\/((∃ps,o=.tbl ps)/\∃ps,H' a=Φ (.tbl ps)))/\a∉ι'
def Ext.refl(ι)(H):Ext ι H ι H:=⟨ϟ _,Kp.refl H,λa o h e=>⟨.inl e,h⟩⟩
def Ext.trans(a:Ext ι H f j)(b:Ext f j g k):Ext ι H g k:=⟨a.pre.trans b.pre,a.kp.trans b.kp,λx o h e=>by obtain⟨c,i⟩:=a.rest x o h e;rcases c with c|⟨t,l,c⟩;exact b.rest x o i c;obtain⟨d,m⟩:=b.rest x _ i c;refine⟨.inr ⟨t,?_⟩,m⟩;rcases d with d|⟨_,d⟩;exact⟨l,d⟩;exact d⟩
def Ext.keep(x:Ext ι H b c)(h:a∉ι)(e:H a=Φ o)(n:∀ps,o≠.tbl ps):c a=Φ o:=(x.rest a o h e).1.elim id λk=>(by obtain⟨⟨ps,z⟩,_⟩:=k;exact absurd z (n ps))
def zbV(h:ι <+: ι'){l:Nat}{a:Addr}(e:ι[l]?=Φ a):ι'[l]?=Φ a:=by obtain⟨t,rfl⟩:=h;rw[getElem?_append_left (Ω.mp e).1];exact e
mutual
theorem RV.up{K:Frag}{ι ι':List Addr}{H H':Hp}(hp:ι <+: ι')(hk:Kp H H'):∀{d:D}{v:V},RV K ι H d v->RV K ι' H' d v
 |.non,_,r=>r|.bl _,_,r=>r|.int _,_,r=>r|.str _,_,r=>r| .tup ds,_,r=>by obtain⟨a,xs,e,ha,q⟩:=r;exact⟨a,xs,e,hk.tups _ _ ha,RVs.up hp hk q⟩| .ref l,_,r=>by obtain⟨a,e,q⟩:=r;exact⟨a,zbV hp e,q⟩| .fix ds,_,r=>by obtain⟨a,xs,e,ha,q⟩:=r;exact⟨a,xs,e,ha.kp hk,RVs.up hp hk q⟩
theorem RVs.up{K:Frag}{ι ι':List Addr}{H H':Hp}(hp:ι <+: ι')(hk:Kp H H'):∀{ds:List D}{vs:List V},RVs K ι H ds vs->RVs K ι' H' ds vs
 | [],_,r=>r| d::ds,vs,r=>by obtain⟨v,w,e,r1,r2⟩:=r;exact⟨v,w,e,RV.up hp hk r1,RVs.up hp hk r2⟩
end
def RIs.up(c:ι <+: b)(hk:Kp H H'):∀{a:List (Int×D)}{ws:List (Key×V)},RIs K ι H a ws->RIs K b H' a ws
 | [],_,r=>r| (k,d)::a,ws,r=>by obtain⟨v,w,e,f,g⟩:=r;exact⟨v,w,e,RV.up c hk f,RIs.up c hk g⟩
def RFs.up(b:ι <+: a)(hk:Kp H H'):∀{c:List (Str×D)}{ws:List (Str×V)},RFs K ι H c ws->RFs K a H' c ws
 | [],_,h=>h| (f,d)::r,_,h=>by obtain⟨v,w,e,g,i⟩:=h;exact⟨v,w,e,RV.up b hk g,RFs.up b hk i⟩
def RFs.length:∀{a:List (Str×D)}{ws:List (Str×V)},RFs K ι H a ws->ws.length=a.length
 | [],_,h=>by cases(show _=[] from h);rfl| (f,d)::r,_,h=>by obtain⟨v,w,rfl,c,b⟩:=h;simp[RFs.length b]
def RFs.look(f):∀{a:List (Str×D)}{ws:List (Str×V)},RFs K ι H a ws->(a.lookup f=Ψ/\ws.lookup f=Ψ)\/∃d v,a.lookup f=Φ d/\ws.lookup f=Φ v/\RV K ι H d v
 | [],_,h=>by cases(show _=[] from h);exact .inl ⟨rfl,rfl⟩| (g,d)::r,_,h=>by
  obtain⟨v,w,rfl,b,e⟩:=h;by_cases c:(f==g)=Γ;exact .inr ⟨d,v,by simp only[List.lookup,c],by simp only[List.lookup,c],b⟩;have c:(f==g)=Δ:=by simpa using c
  simp only[List.lookup,c];exact RFs.look f e
def RFs.put(f)(q:RV K ι H d v):∀{a:List (Str×D)}{ws:List (Str×V)},RFs K ι H a ws->RFs K ι H (zjC f d a) (putF f v ws)
 | [],_,h=>by cases(show _=[] from h);exact⟨v,[],rfl,q,rfl⟩| (g,x)::r,_,h=>by obtain⟨u,w,rfl,e,b⟩:=h;unfold zjC putF;by_cases c:g=f;rw[if_pos c,if_pos c];exact⟨v,w,rfl,q,b⟩;rw[if_neg c,if_neg c];exact⟨u,_,rfl,e,RFs.put f q b⟩
def RIs.length:∀{a:List (Int×D)}{ws:List (Key×V)},RIs K ι H a ws->ws.length=a.length
 | [],_,r=>by rw[show _=[] from r];rfl| (k,d)::a,ws,r=>by obtain⟨v,w,rfl,_,b⟩:=r;simp[RIs.length b]
def zjB[DecidableEq κ]{x:κ×V}{r:List (κ×V)}{k:κ}(h:x.1≠k):putK (x::r) k v=x::putK r k v:=by unfold putK;have:decide (x.1=k)=Δ:=decide_eq_false h;simp only[any_cons,this,Bool.false_or];split;rw[Μ,if_neg h];rfl
def RIs.keys:∀{a:List (Int×D)}{ws:List (Key×V)},RIs K ι H a ws->ws.map (·.1)=a.map (λp=>(Sum.inl p.1:Key))
 | [],_,r=>by rw[show _=[] from r];rfl| (k,d)::a,ws,r=>by obtain⟨v,w,rfl,_,b⟩:=r;simp[RIs.keys b]
def RIs.put(k)(q:RV K ι H d v):∀{kvs:List (Int×D)}{ws:List (Key×V)},(kvs.map (·.1)).Nodup->RIs K ι H kvs ws->RIs K ι H (putI kvs k d) (putK ws (Sum.inl k:Key) v)
 | [],_,_,r=>by rw[show _=[] from r];exact⟨v,[],rfl,q,rfl⟩| (j,e)::kvs,ws,nd,r=>by
  obtain⟨u,w,rfl,r1,r2⟩:=r;simp only[Μ,nodup_cons]at nd;by_cases z:j=k;subst z;have h1:putI ((j,e)::kvs) j d=(j,d)::kvs:=by simp[putI]
  have h2:putK (((Sum.inl j:Key),u)::w) (Sum.inl j:Key) v=((Sum.inl j:Key),v)::w:=by
   unfold putK;have:((((Sum.inl j:Key),u)::w).any λkv=>decide (kv.1=(Sum.inl j:Key)))=Γ:=by simp
   rw[if_pos this,Μ,if_pos rfl,Ρ (g:=id),List.map_id];intro kv hkv;have hm:kv.1∈w.map (·.1):=mem_map.mpr ⟨kv,hkv,rfl⟩;rw[r2.keys]at hm;obtain⟨p,hp,ep⟩:=mem_map.mp hm;have:kv.1≠(Sum.inl j:Key):=λy=>nd.1 (by
    rw[<-ep]at y;rw[<-Sum.inl.inj y];exact mem_map.mpr ⟨p,hp,rfl⟩)
   simp[this]
  rw[h1,h2];exact⟨v,w,rfl,q,r2⟩;have h1:putI ((j,e)::kvs) k d=(j,e)::putI kvs k d:=by simp[putI,z]
  have h2:putK (((Sum.inl j:Key),u)::w) (Sum.inl k:Key) v=((Sum.inl j:Key),u)::putK w (Sum.inl k:Key) v:=zjB λy=>z (Sum.inl.inj y);rw[h1,h2];exact⟨u,_,rfl,r1,RIs.put k q nd.2 r2⟩
def zfD(k)(d):∀kvs:List (Int×D),(putI kvs k d).map (·.1)=if k∈kvs.map (·.1) then kvs.map (·.1) else kvs.map (·.1)++[k]
 | []=>by simp[putI]| (j,e)::r=>by unfold putI;by_cases z:j=k;subst z;simp;have ih:=zfD k d r;rw[if_neg z];simp only[Μ,mem_cons,ih];by_cases h:k∈r.map (·.1);rw[if_pos h,if_pos (.inr h)];rw[if_neg h,if_neg (by rintro(y|y);exact z y.symm;exact h y)];rfl
def zio(h:(kvs.map (·.1)).Nodup):((putI kvs k d).map (·.1)).Nodup:=by rw[zfD];split;exact h;rename_i n;rw[nodup_append];refine⟨h,by simp,λa ha b hb=>?_⟩;rw[mem_singleton]at hb;subst hb;exact λz=>n (z▸ha)
def RV.ext(h:Ext ι H ι' H')(r:RV K ι H d v):RV K ι' H' d v:=r.up h.pre h.kp
def RVs.ext(h:Ext ι H ι' H')(r:RVs K ι H ds vs):RVs K ι' H' ds vs:=r.up h.pre h.kp
def RVs.length:∀{ds:List D}{vs:List V},RVs K ι H ds vs->vs.length=ds.length
 | [],_,r=>by rw[show _=[] from r];rfl| d::ds,vs,r=>by obtain⟨v,w,rfl,_,a⟩:=r;simp[RVs.length a]
def RVs.get:∀{ds:List D}{vs:List V}{i:Nat}{d:D},RVs K ι H ds vs->ds[i]?=Φ d->∃v,vs[i]?=Φ v/\RV K ι H d v
 | [],_,_,_,_,e=>by simp at e| d::ds,vs,0,a,r,e=>by obtain⟨v,w,rfl,b,_⟩:=r;simp at e;subst e;exact⟨v,rfl,b⟩| d::ds,vs,i+1,a,r,e=>by obtain⟨v,w,rfl,_,c⟩:=r;obtain⟨u,f,g⟩:=RVs.get (i:=i) (d:=a) c (by simpa using e);exact⟨u,by simpa using f,g⟩
def RVs.get'{i:Nat}(r:RVs K ι H ds vs)(e:vs[i]?=Φ v):∃d,ds[i]?=Φ d/\RV K ι H d v:=by
 have a:i<ds.length:=by rw[<-r.length];exact(Ω.mp e).1
 obtain⟨u,b,c⟩:=r.get (List.getElem?_eq_getElem a);rw[e]at b;cases b;exact⟨_,List.getElem?_eq_getElem a,c⟩
def RVs.append:∀{ds es:List D}{vs us:List V},RVs K ι H ds vs->RVs K ι H es us->RVs K ι H (ds++es) (vs++us)
 | [],_,_,_,r,q=>by rw[show _=[] from r];exact q| d::ds,es,vs,us,r,q=>by obtain⟨v,w,rfl,a,b⟩:=r;exact⟨v,w++us,rfl,a,RVs.append b q⟩
def RVs.take:∀{ds:List D}{vs:List V}(n:Nat),RVs K ι H ds vs->RVs K ι H (ds.take n) (vs.take n)
 |_,_,0,_=>rfl| [],_,n+1,r=>by rw[show _=[] from r];rfl| d::ds,vs,n+1,r=>by obtain⟨v,w,rfl,a,b⟩:=r;exact⟨v,w.take n,rfl,a,RVs.take n b⟩
def RVs.drop:∀{ds:List D}{vs:List V}(n:Nat),RVs K ι H ds vs->RVs K ι H (ds.drop n) (vs.drop n)
 |_,_,0,r=>r| [],_,n+1,r=>by rw[show _=[] from r];rfl| d::ds,vs,n+1,r=>by obtain⟨v,w,rfl,b,a⟩:=r;exact RVs.drop n a
def RVs.set(q:RV K ι H d v):∀{ds:List D}{vs:List V}(n:Nat),RVs K ι H ds vs->RVs K ι H (ds.set n d) (vs.set n v)
 | [],_,n,r=>by rw[show _=[] from r];rfl| _::ds,vs,0,r=>by obtain⟨_,w,rfl,r1,r2⟩:=r;exact⟨v,w,rfl,q,r2⟩| _::ds,vs,n+1,r=>by obtain⟨u,w,rfl,r1,r2⟩:=r;exact⟨u,w.set n v,rfl,r1,RVs.set q n r2⟩
def RVs.erase(n)(r:RVs K ι H ds vs):RVs K ι H (ds.eraseIdx n) (vs.eraseIdx n):=by rw[List.eraseIdx_eq_take_drop_succ,List.eraseIdx_eq_take_drop_succ];exact(r.take n).append (r.drop (n+1))
def RVs.ints:∀ns:List Int,RVs K ι H (ns.map D.int) (ns.map V.int)
 | []=>rfl|n::ns=>⟨_,_,rfl,rfl,RVs.ints ns⟩
def RVs.ints_eq:∀{ns:List Int}{vs:List V},RVs K ι H (ns.map D.int) vs->vs=ns.map V.int
 | [],_,h=>h| n::ns,vs,h=>by obtain⟨v,r,rfl,a,b⟩:=h;rw[RVs.ints_eq b,show v=.int n from a];rfl
def zma:∀{ds:List D}{ns:List Int},zaH ds=Φ ns->ds=ns.map D.int:=by
 intro ds;unfold zaH;induction ds with
 |nil=>intro ns h;simp at h;subst h;rfl| cons d ds ih=>
  intro ns h;rw[ϛ]at h;cases d with
  |int i=>cases e:List.mapM zcq ds with|none=>rw[e]at h;simp[zcq]at h|some ms=>rw[e]at h;simp[zcq]at h;subst h;simp[ih e]
  |_=>simp[zcq]at h
mutual
theorem RV.flat{K:Frag}{ι:List Addr}{H:Hp}:∀{d:D}{v:V},RV K ι H d v->R.flat ι.length d=Γ
 |.non,_,_=>by simp[R.flat]|.bl _,_,_=>by simp[R.flat]|.int _,_,_=>by simp[R.flat]|.str _,_,_=>by simp[R.flat]| .tup ds,_,r=>by obtain⟨a,xs,e,ha,q⟩:=r;simp only[R.flat];exact RVs.flats q| .ref l,_,r=>by obtain⟨a,e,q⟩:=r;simp only[R.flat,decide_eq_true_eq];exact(Ω.mp e).1| .fix ds,_,r=>by obtain⟨a,xs,e,ha,q⟩:=r;simp only[R.flat];exact RVs.flats q
theorem RVs.flats{K:Frag}{ι:List Addr}{H:Hp}:∀{ds:List D}{vs:List V},RVs K ι H ds vs->R.flats ι.length ds=Γ
 | [],_,_=>by simp[R.flats]| d::ds,vs,r=>by obtain⟨v,w,e,r1,r2⟩:=r;simp only[R.flats,Ξ];exact⟨RV.flat r1,RVs.flats r2⟩
end
mutual
theorem RV.restrict{K:Frag}{ι ι':List Addr}{H:Hp}(hp:ι <+: ι'):∀{d:D}{v:V},R.flat ι.length d=Γ->RV K ι' H d v->RV K ι H d v
 |.non,_,_,r=>r|.bl _,_,_,r=>r|.int _,_,_,r=>r|.str _,_,_,r=>r| .tup ds,_,f,r=>by obtain⟨a,xs,e,ha,q⟩:=r;simp only[R.flat]at f;exact⟨a,xs,e,ha,RVs.restrict hp f q⟩| .ref l,_,f,r=>by obtain⟨a,e,q⟩:=r;simp only[R.flat,decide_eq_true_eq]at f;refine⟨a,?_,q⟩;obtain⟨t,rfl⟩:=hp;rw[getElem?_append_left f]at e;exact e| .fix ds,_,f,r=>by obtain⟨a,xs,e,ha,q⟩:=r;simp only[R.flat]at f;exact⟨a,xs,e,ha,RVs.restrict hp f q⟩
theorem RVs.restrict{K:Frag}{ι ι':List Addr}{H:Hp}(hp:ι <+: ι'):∀{ds:List D}{vs:List V},R.flats ι.length ds=Γ->RVs K ι' H ds vs->RVs K ι H ds vs
 | [],_,_,r=>r| d::ds,vs,f,r=>by obtain⟨v,w,e,r1,r2⟩:=r;simp only[R.flats,Ξ]at f;exact⟨v,w,e,RV.restrict hp f.1 r1,RVs.restrict hp f.2 r2⟩
end
def RIs.flats:∀{a:List (Int×D)}{ws:List (Key×V)},RIs K ι H a ws->R.flats ι.length (a.map (·.2))=Γ
 | [],_,_=>by simp[R.flats]| (k,d)::a,ws,r=>by obtain⟨v,w,e,b,c⟩:=r;simp only[Μ,R.flats,Ξ];exact⟨RV.flat b,RIs.flats c⟩
def RIs.restrict(c:ι <+: b):∀{a:List (Int×D)}{ws:List (Key×V)},R.flats ι.length (a.map (·.2))=Γ->RIs K b H a ws->RIs K ι H a ws
 | [],_,_,r=>r| (k,d)::a,ws,f,r=>by obtain⟨v,w,e,g,h⟩:=r;simp only[Μ,R.flats,Ξ]at f;exact⟨v,w,e,RV.restrict c f.1 g,RIs.restrict c f.2 h⟩
def RFs.flats:∀{a:List (Str×D)}{ws:List (Str×V)},RFs K ι H a ws->R.flats ι.length (a.map (·.2))=Γ
 | [],_,_=>by simp| (f,d)::r,_,h=>by obtain⟨v,w,_,b,c⟩:=h;simp only[Μ,zer,Ξ];exact⟨RV.flat b,RFs.flats c⟩
def RFs.restrict(g:ι <+: a):∀{b:List (Str×D)}{ws:List (Str×V)},R.flats ι.length (b.map (·.2))=Γ->RFs K a H b ws->RFs K ι H b ws
 | [],_,_,h=>h| (f,d)::r,_,c,h=>by obtain⟨v,w,e,i,j⟩:=h;simp only[Μ,zer,Ξ]at c;exact⟨v,w,e,RV.restrict g c.1 i,RFs.restrict g c.2 j⟩
def SqL.stay(h:SqL K H a xs)(e:H' a=H a):SqL K H' a xs:=by rcases h with h|h;left;unfold Rd at h⊢;rw[e];exact h;exact .inr h
def RO.up(h:RO K ι H a o)(hp:ι <+: ι')(hk:Kp H H')(e:H' a=H a):RO K ι' H' a o:=by cases o with|lst ds=>obtain⟨xs,h1,h2⟩:=h;exact⟨xs,e.trans h1,h2.up hp hk⟩|dic kvs=>obtain⟨h0,ws,h1,h2⟩:=h;exact⟨h0,ws,e.trans h1,h2.up hp hk⟩|ins c fs=>obtain⟨C,dx,ws,h0,h1,h2⟩:=h;exact⟨C,dx,ws,h0,e.trans h1,h2.up hp hk⟩
def RO.stay(h:RO K ι H a o)(x:Ext ι H ι' H')(e:H' a=H a):RO K ι' H' a o:=h.up x.pre x.kp e
section
variable{K:Frag}{ι ι':List Addr}{H H':Hp}{S S' T:St}{l:Nat}{a p:Addr}
def RH.mem(h:RH K ι H S)(e:S.get l=Φ o):∃a,ι[l]?=Φ a/\RO K ι H a o/\a∈ι:=by obtain⟨a,b,c⟩:=h.obj l o e;exact⟨a,b,c,mem_of_getElem? b⟩
def zmf(h:l<S.len):∃o,S.get l=Φ o:=by unfold St.len at h;unfold St.get;split;rename_i c;exact⟨_,getElem?_eq_getElem c⟩;exact⟨_,getElem?_eq_getElem (by omega)⟩
def RH.off(h:RH K ι H S)(x:Ext ι H ι H')(e:∀a∈ι,H' a=H a):RH K ι H' S:=⟨h.len,h.nd,λl o q=>let ⟨a,b,c,d⟩:=h.mem q;⟨a,b,c.stay x (e a d)⟩,x.kp.tab h.tab⟩
def RH.live(h:RH K ι H S)(ha:a∈ι):∃o,H a=Φ o/\(∀xs,o≠.tup xs)/\(∀z u,o≠.frz z u)/\∀ps,o≠.tbl ps:=by
 obtain⟨l,hl⟩:=List.mem_iff_getElem?.mp ha;have hlt:l<S.len:=by rw[<-h.len];exact(Ω.mp hl).1
 obtain⟨o,e⟩:=zmf hlt;obtain⟨b,h1,h2⟩:=h.obj l o e;rw[hl]at h1;cases h1;cases o with|lst ds=>obtain⟨xs,q,_⟩:=h2;exact⟨_,q,⟨λ_ z=>(by cases z),λ_ _ z=>(by cases z),λ_ z=>(by cases z)⟩⟩|dic kvs=>obtain⟨_,ws,q,_⟩:=h2;exact⟨_,q,⟨λ_ z=>(by cases z),λ_ _ z=>(by cases z),λ_ z=>(by cases z)⟩⟩|ins c fs=>obtain⟨C,dx,ws,_,q,_⟩:=h2;exact⟨_,q,⟨λ_ z=>(by cases z),λ_ _ z=>(by cases z),λ_ z=>(by cases z)⟩⟩
def RH.fresh(h:RH K ι H S)(b:H p=Option.none):p∉ι:=λc=>by obtain⟨o,e,_⟩:=h.live c;rw[b]at e;exact nS e
def RH.notup(h:RH K ι H S)(b:H p=Φ (.tup xs)):p∉ι:=λc=>by obtain⟨o,e,q,_⟩:=h.live c;rw[b]at e;cases e;exact q _ rfl
def Kp.new(c:H p=Option.none)(o):Kp H (upd H p o):=.same (Tups.upd_new c) (λb z u e=>by rw[zah (zai e c)];exact e) λb d e=>by rw[zah (zai e c)];exact e
def Ext.new(b:H p=Option.none)(o):Ext ι H ι (upd H p o):=⟨ϟ _,Kp.new b o,λa u h e=>⟨.inl (by rw[zah (zai e b)];exact e),h⟩⟩
def RH.new(h:RH K ι H S)(b:H p=Option.none)(o):RH K ι (upd H p o) S:=h.off (Ext.new b o) λa c=>zah λe=>h.fresh b (e▸c)
def zfe(S:St)(o):(S.push o).get S.len=Φ o:=by
 have h:¬S.len<S.frz.length:=by unfold St.len;lia
 unfold St.get St.push;simp only[h,if_false];unfold St.len;simp
def zcr(h:l<S.len):(S.push o).get l=S.get l:=by unfold St.len at h;unfold St.get St.push;simp only;split;rfl;rw[getElem?_append_left (by lia)]
def zca(S:St)(o):(S.push o).len=S.len+1:=by simp[St.push,St.len];lia
def Ext.obj(h:RH K ι H S)(b:H p=Option.none)(u):Ext ι H (ι++[p]) (upd H p u):=
 ⟨ϖ _ _,Kp.new b u,λa o c e=>⟨.inl (by rw[zah (zai e b)];exact e),by
  intro z;rcases mem_append.mp z with z|z;exact c z;simp at z;exact zai e b z⟩⟩
def RH.obj'(h:RH K ι H S)(hp:H p=Option.none)(u)(o)(ho:RO K (ι++[p]) (upd H p u) p o):RH K (ι++[p]) (upd H p u) (S.push o):=by
 refine⟨by rw[length_append,h.len,zca];rfl,?_,λl o' e=>?_,(Kp.new hp u).tab h.tab⟩;rw[nodup_append];refine⟨h.nd,by simp,λa ha b hb=>?_⟩;simp at hb;subst hb;exact λz=>h.fresh hp (z▸ha);by_cases hl:l<S.len;rw[zcr hl]at e;obtain⟨a,h1,h2,hm⟩:=h.mem e;exact⟨a,zbV (ϖ _ _) h1,h2.stay (Ext.obj h hp u) (zah λz=>h.fresh hp (z▸hm))⟩;have hl2:=get_lt e;rw[zca]at hl2;have:l=S.len:=by lia
 subst this;rw[zfe]at e;cases e;exact⟨p,by rw[<-h.len];simp,ho⟩
def RH.lay(h:RH K ι H S)(b:H p=Option.none)(r:RVs K ι H ds xs):RH K (ι++[p]) (upd H p (.lst xs)) (S.push (.lst ds)):=h.obj' b _ _ ⟨xs,zak,r.ext (Ext.obj h b _)⟩
def RH.last(h:RH K ι H S)(p):(ι++[p])[S.len]?=Φ p:=by rw[<-h.len];simp
def Ext.wr(h:RH K ι H S)(e:S.get l=Φ o)(f:ι[l]?=Φ a)(u):Ext ι H ι (upd H a u):=by have d:=mem_of_getElem? f;refine⟨ϟ _,.same (λb g c=>?_) (λb z v c=>?_) λb i c=>?_,λb o c e=>⟨.inl ((zah λ(z:b=a)=>c (by rw[z];exact d)).trans e),c⟩⟩;rw[zah];exact c;rintro rfl;exact h.notup c d;rw[zah];exact c;rintro rfl;obtain⟨o,e,_,q,_⟩:=h.live d;rw[c]at e;cases e;exact q _ _ rfl;rw[zah];exact c;rintro rfl;obtain⟨o,e,_,_,q⟩:=h.live d;rw[c]at e;cases e;exact q _ rfl
def zoc(e:S.put l o=Φ S'):S'.len=S.len/\(l<S.len->S'.get l=Φ o)/\(∀m,m≠l->S'.get m=S.get m)/\S.frz.length<=l:=by unfold St.put at e;split at e;exact nS e;split at e;exact nS e;injection e with e;subst e;rename_i c1 c2;refine⟨by simp[St.len],λhl=>?_,λm hm=>?_,by lia⟩;unfold St.len at hl;unfold St.get;simp only[c1,if_false];rw[getElem?_set_self (by lia)];unfold St.get;simp only;split;rfl;rw[getElem?_set_ne (by lia)]
def RH.wr(h:RH K ι H S)(e:S.get l=Φ o)(hl:ι[l]?=Φ a)(w:S.put l o'=Φ S')(ho:RO K ι (upd H a u) a o'):RH K ι (upd H a u) S':=by obtain⟨h1,h2,h3,_⟩:=zoc w;refine⟨h.len.trans h1.symm,h.nd,λm o2 e2=>?_,(Ext.wr h e hl u).kp.tab h.tab⟩;by_cases hm:m=l;subst hm;rw[h2 (get_lt e)]at e2;cases e2;exact⟨a,hl,ho⟩;rw[h3 m hm]at e2;obtain⟨b,q1,q2,_⟩:=h.mem e2;refine⟨b,q1,q2.stay (Ext.wr h e hl u) (zah ?_)⟩;rintro rfl;obtain⟨i1,e1⟩:=Ω.mp hl;obtain⟨i2,e2⟩:=Ω.mp q1;exact hm ((List.getElem_inj h.nd).mp (e2.trans e1.symm))
end
end R
namespace R
open PySem PySem.Spec PyProof.Rows L2
section
variable{prog:ϊ}{w:ύ}{K:Type}[DecidableEq K]{knd:HeapKind prog w K}{A:ϔ}{E:Θ->Β->Prop}{s:Β}{xs:List (K×Addr×Θ)}{d j:Addr}{i ep:Nat}
abbrev HAt(knd:HeapKind prog w K)(h:Heap)(d:Addr)(xs:List (K×Addr×Θ))(ep:Nat):Prop:=∃o es,h.get? d=Φ o/\o.ExactDict/\o.data=.dict es ep/\es.toList=xs.map (entryOfKey knd)
def HAt.at(x:HAt knd h d xs ep)(e:∀o,h.get? d=Φ o->h'.get? d=Φ o):HAt knd h' d xs ep:=let ⟨o,es,ho,r⟩:=x;⟨o,es,e _ ho,r⟩
def HAt.ty(x:HAt knd s.heap d xs ep):s.TypeIs (.ref d) "dict":=let ⟨o,_,ho,hc,_⟩:=x;⟨o,ho,hc.1⟩
end
section
variable{X:Cx}
def zsK:zbC X (.type "int") (λvs H Q=>∃b,vs=[.bl b]/\Q (.int (if b then 1 else 0)) H):=by intro pins s σ H xs us Q I r h;obtain⟨b,rfl,q⟩:=h;obtain⟨u,rfl,ru⟩:=r.one;cases(show u=Θ.bool b from ru);exact call_int_bool ⟨.int _,H,I.tok _,⟨_,rfl⟩,q⟩
end
end R
namespace R
open PySem PySem.Spec PyProof.Rows L2
variable[Mks]
abbrev Lf(K:Frag)(ι:List Addr)(H:Hp)(Q:D->R.St->Prop):VK:=λv H'=>∃d ι' S',Ext ι H ι' H'/\RV K ι' H' d v/\RH K ι' H' S'/\Q d S'
section
variable{K:Frag}{ι ι':List Addr}{H H':Hp}{S S':R.St}{Q:D->R.St->Prop}{d:D}{v:V}{p:Addr}
def Lf.of(h:RH K ι H S)(r:RV K ι H d v)(q:Q d S):Lf K ι H Q v H:=⟨d,ι,S,Ext.refl ι H,r,h,q⟩
def Lf.up(x:Ext ι H ι' H')(h:Lf K ι' H' Q v b):Lf K ι H Q v b:=by obtain⟨d,a,c,e,r⟩:=h;exact⟨d,a,c,x.trans e,r⟩
def Lf.tup(h:RH K ι H S)(a:H p=Option.none){ds:List D}{xs:List V}(r:RVs K ι H ds xs)(q:Q (.tup ds) S):Lf K ι H Q (.ref p) (upd H p (.tup xs)):=⟨.tup ds,ι,S,Ext.new a _,⟨p,xs,rfl,zak,r.ext (Ext.new a _)⟩,h.new a _,q⟩
def Lf.lst(h:RH K ι H S)(a:H p=Option.none){ds:List D}{xs:List V}(r:RVs K ι H ds xs)(q:Q (.ref S.len) (S.push (.lst ds))):Lf K ι H Q (.ref p) (upd H p (.lst xs)):=⟨.ref S.len,ι++[p],S.push (.lst ds),Ext.obj h a _,⟨p,h.last p,rfl⟩,h.lay a r,q⟩
def Lf.wr(h:RH K ι H S)(e:S.get l=Φ o)(b:ι[l]?=Φ a)(w:S.put l (.lst ds)=Φ S')(r:RVs K ι H ds xs)(c:RV K ι H d v)(q:Q d S'):Lf K ι H Q v (upd H a (.lst xs)):=⟨d,ι,S',Ext.wr h e b _,c.ext (Ext.wr h e b _),h.wr e b w ⟨xs,zak,r.ext (Ext.wr h e b _)⟩,q⟩
end
def zen(h:W (lay S ds) Q):ds.length<=sizeLine/\Q (.ref S.len) (S.push (.lst ds)):=by unfold lay at h;split at h;rename_i c;exact⟨by rw[Τ];exact c,h⟩;exact h.elim
def zk6(h:W (wr S l ds d) Q):ds.length<=sizeLine/\∃S',S.put l (.lst ds)=Φ S'/\Q d S':=by
 unfold wr at h;split at h;rename_i c;refine⟨by rw[Τ];exact c,?_⟩;cases e:S.put l (.lst ds) with|none=>rw[e]at h;exact h.elim|some S'=>rw[e]at h;exact⟨S',rfl,h⟩
 exact h.elim
abbrev rD2(K:Frag)(f:R.St->D->D->Out D):R2:=λx y H Qv=>∃ι S d e Qd,RV K ι H d x/\RV K ι H e y/\RH K ι H S/\W (f S d e) Qd/\∀v H',Lf K ι H Qd v H'->Qv v H'
section
variable{X:Cx}
def zmp{vs ws:List Θ}(ht:IsTup s.heap t vs.toArray)(hb:IsTup s.heap b ws.toArray)(hv:vs=[])(h1:Q (.ref b) s):wpAny (model prog w) A (binaryOp .Add (.ref t) (.ref b)) Q E s:=by
 obtain⟨⟨cls,dd,data,sl⟩,ho,hc,n,hd⟩:=id ht;obtain⟨⟨cls2,dd2,data2,sl2⟩,ho2,hc2,n2,hd2⟩:=id hb;simp only at hc hd hc2 hd2;subst hc hd hc2 hd2;exact concat_meets ⟨_,ho,rfl⟩ ⟨_,ho2,rfl⟩ noFill_tuple_add seq_tuple_add PySem.F.slot_tuple_add PySem.F.entry_tuple_add (PySem.F.args_tuple_add_2 _ _)
  (tuple_addW0 t b vs.toArray ws.toArray n n2 dd dd2 sl sl2 (by simp[hv])) ⟨ho,ho2,h1⟩
def zlR:OpR X (binaryOp .Add) (λx y H Q=>∃a b ys,x=.ref a/\y=.ref b/\SqT X.K H a []/\SqT X.K H b ys/\Q (.ref b) H):=by intro pins s σ H x y v u Q I rx ry h;obtain⟨a,b,ys,rfl,rfl,ha,hb,q⟩:=h;cases rx;cases ry;obtain⟨its,r1,p1,_⟩:=I.tuple ha;obtain⟨its2,r2,p2,_⟩:=I.tuple hb;exact zmp p1 p2 (r1.nil_iff.mpr rfl) ⟨.ref b,H,I,rfl,q⟩
def zrL(op):OpR X (binaryOp op) (rD2 X.K λS d e=>binD S op d e):=by
 intro pins s σ H x y v u Qv I rx ry q';obtain⟨ι,S,d,e,Qd,hd,he,hH,hw,q⟩:=q';dsimp only at hw;unfold binD at hw;split at hw;rename_i i j;obtain rfl:x=.int i:=hd;obtain rfl:y=.int j:=he;have fin:∀k:Int,Qd (.int k) S->Qv (.int k) H:=λk hk=>q _ _ (Lf.of (d:=.int k) hH rfl hk);unfold binI at hw;split at hw;exact zm0 pins s σ H _ _ v u Qv I rx ry ⟨i,j,rfl,rfl,fin _ hw⟩;exact zqX pins s σ H _ _ v u Qv I rx ry ⟨i,j,rfl,rfl,fin _ hw⟩;split at hw;rename_i c;refine zq0 pins s σ H _ _ v u Qv I rx ry ⟨i,j,rfl,rfl,?_,fin _ hw⟩;unfold zbM at c;rw[Ϝ,decide_eq_true_eq,decide_eq_true_eq]at c;exact c;exact hw.elim;split at hw;rename_i c;exact zoC pins s σ H _ _ v u Qv I rx ry ⟨i,j,rfl,rfl,c,fin _ hw⟩;exact hw.elim;split at hw;rename_i c;exact zq1 pins s σ H _ _ v u Qv I rx ry ⟨i,j,rfl,rfl,c,fin _ hw⟩;exact hw.elim;split at hw;rename_i c;exact zqY pins s σ H _ _ v u Qv I rx ry ⟨i,j,rfl,rfl,⟨c.1,c.2.1,by omega⟩,fin _ hw⟩;exact hw.elim;exact hw.elim;rename_i xs ys;split at hw;split at hw;rename_i c;obtain⟨a,us,rfl,ha,r1⟩:=hd;obtain⟨b,ws,rfl,hb,r2⟩:=he;by_cases hn:us=[];subst hn;have hx:xs=[]:=by have:=r1.length;simpa using this.symm
 subst hx;refine zlR pins s σ H _ _ v u Qv I rx ry ⟨a,b,ws,rfl,rfl,SqT.of ha,SqT.of hb,?_⟩;exact q _ _ (Lf.of (d:=.tup ys) hH ⟨b,ws,rfl,hb,r2⟩ (by simpa using hw));refine zoD pins s σ H _ _ v u Qv I rx ry ⟨a,b,us,ws,rfl,rfl,SqT.of ha,SqT.of hb,hn,?_,λhy=>?_,λhy p hp=>?_⟩;rw[r1.length,r2.length,Τ];exact c;subst hy;have hx:ys=[]:=by have:=r2.length;simpa using this.symm
 subst hx;exact q _ _ (Lf.of (d:=.tup xs) hH ⟨a,us,rfl,ha,r1⟩ (by simpa using hw));exact q _ _ (Lf.tup hH hp (r1.append r2) hw);exact hw.elim;exact hw.elim;rename_i a b;split at hw;rename_i xs ys e1 e2;obtain⟨a1,h1,rfl⟩:=hd;obtain⟨b1,h2,rfl⟩:=he;obtain⟨a2,h3,us,ha,r1⟩:=hH.obj _ _ e1;obtain⟨b2,h4,ws,hb,r2⟩:=hH.obj _ _ e2;rw[h1]at h3;cases h3;rw[h2]at h4;cases h4;obtain⟨z,hq⟩:=zen hw;refine zq4 pins s σ H _ _ v u Qv I rx ry ⟨a1,b1,us,ws,rfl,rfl,ha,hb,?_,λp hp=>?_⟩;rw[r1.length,r2.length];rw[length_append]at z;exact z;exact q _ _ (Lf.lst hH hp (r1.append r2) hq);exact hw.elim;exact hw.elim
def zaJ{α β:Type}{f:α->Option β}{x:α}{xs:List α}{ys:List β}(h:(x::xs).mapM f=Φ ys):∃y r,f x=Φ y/\xs.mapM f=Φ r/\ys=y::r:=by
 rw[ϛ]at h;cases e:f x with
 |none=>rw[e]at h;exact nS h
 |some y=>
  rw[e]at h;cases e2:xs.mapM f with
  |none=>rw[e2]at h;exact nS h
  |some r=>rw[e2]at h;injection h with h;exact⟨y,r,rfl,rfl,h.symm⟩
def zir(hH:RH X.K ι H S):∀(n:Nat)(d:D)(pdd:PyData)(v:V),pd S n d=Φ pdd->RV X.K ι H d v->Rep H pdd v/\pdd.canLay0=Γ/\pdd.depth<=n:=by
 intro n;induction n with
 |zero=>
  intro d p v h r;cases d<;>simp only[pd]at h
  cases h;exact⟨r,rfl,le_refl _⟩;cases h;exact⟨r,rfl,le_refl _⟩;cases h;exact⟨r,rfl,le_refl _⟩;split at h;rename_i c;cases h;exact⟨r,c,le_refl _⟩;exact nS h
  all_goals exact nS h
 |succ n ih=>
  have all:∀(ds:List D)(ps:List PyData)(vs:List V),ds.mapM (pd S n)=Φ ps->RVs X.K ι H ds vs->RepAll H ps vs/\PyData.canLayAll0 ps=Γ/\PyData.depthAll ps<=n:=by
   intro ds;induction ds with
   |nil=>
    intro ps vs h r;have h:ps=[]:=by simpa using h.symm
    subst h;exact⟨r,rfl,zero_le _⟩
   |cons d ds ihd=>intro ps vs h r;obtain⟨y,rr,h1,h2,rfl⟩:=zaJ h;obtain⟨v,w,rfl,r1,r2⟩:=r;obtain⟨a1,a2,a3⟩:=ih d y v h1 r1;obtain⟨b1,b2,b3⟩:=ihd rr w h2 r2;refine⟨⟨v,w,rfl,a1,b1⟩,by simp[PyData.canLayAll0,a2,b2],?_⟩;simp only[PyData.depthAll];lia
  intro d p v h r;cases d with
  |non=>simp only[pd]at h;cases h;exact⟨r,rfl,zero_le _⟩|bl b=>simp only[pd]at h;cases h;exact⟨r,rfl,zero_le _⟩|int i=>simp only[pd]at h;cases h;exact⟨r,rfl,zero_le _⟩| str x=>simp only[pd]at h;split at h;rename_i c;cases h;exact⟨r,c,zero_le _⟩;exact nS h
  |tup ds=>
   simp only[pd]at h;cases e:ds.mapM (pd S n) with
   |none=>rw[e]at h;exact nS h
   |some ps=>
    rw[e]at h;have h:PyData.tuple ps=p:=by simpa using h
    subst h;obtain⟨a,xs,rfl,ha,rr⟩:=r;obtain⟨b1,b2,b3⟩:=all ds ps xs e rr;refine⟨⟨a,xs,rfl,ha,b1⟩,by simp[PyData.canLay0,b2],?_⟩;simp only[PyData.depth];lia
  |ref l=>
   simp only[pd]at h;split at h;rename_i ds eg;cases e:ds.mapM (pd S n) with
   |none=>rw[e]at h;exact nS h
   |some ps=>
    rw[e]at h;have h:PyData.list ps=p:=by simpa using h
    subst h;obtain⟨a,h1,rfl⟩:=r;obtain⟨a2,h2,xs,ha,rr⟩:=hH.obj _ _ eg;rw[h1]at h2;cases h2;obtain⟨b1,b2,b3⟩:=all ds ps xs e rr;refine⟨⟨a,xs,rfl,ha,b1⟩,by simp[PyData.canLay0,b2],?_⟩;simp only[PyData.depth];lia
   exact nS h
  |fix ds=>simp only[pd]at h;exact nS h
abbrev rC2(K:Frag)(op:CmpOp):R2:=λx y H Qv=>∃ι S d e k,RV K ι H d x/\RV K ι H e y/\RH K ι H S/\cmpD S op d e=Φ k/\Qv (.bl k) H
def zhN(h:eqD S d e=Φ k):∃a b,pd S 60 d=Φ a/\pd S 60 e=Φ b/\k=PyData.eqv a b:=by
 unfold eqD at h;cases e1:pd S 60 d with
 |none=>rw[e1]at h;exact nS h
 |some a=>
  rw[e1]at h;cases e2:pd S 60 e with
  |none=>rw[e2]at h;exact nS h
  |some b=>rw[e2]at h;injection h with h;exact⟨a,b,rfl,rfl,h.symm⟩
open Classical in
abbrev eqRd(h:Heap)(p:PyData)(u:Θ):Bool:=if c:∃q as,Reads h u q as/\q.canLay0=Γ then PyData.eqv c.choose p else Δ
def zo7(r:Reads h u q as)(c:q.canLay0=Γ):eqRd h p u=PyData.eqv q p:=by have ex:∃q as,Reads h u q as/\q.canLay0=Γ:=⟨q,as,r,c⟩;unfold eqRd;rw[dif_pos ex];obtain⟨as',r',c'⟩:=ex.choose_spec;rw[SeqAt.Reads.unique _ _ _ _ _ c r r']
def zmb(I:Inv X pins σ H s)(hA:A.units+62<cLine)(hH:RH X.K ι H S)(hx:pd S 60 x=Φ px)(rx:RV X.K ι H x vx)(qx:RelV vx ux):
  ∀{ds:List D}{vs:List V}{us:List Θ}{bs:List Bool},RVs X.K ι H ds vs->Vals vs us->ds.mapM (λz=>eqD S z x)=Φ bs->us.any (eqRd s.heap px)=bs.any id/\∀u∈us,SeqAt.EqAt A s u ux (eqRd s.heap px u):=by
 obtain⟨x1,x2,x3⟩:=zir hH 60 x px vx hx rx;obtain⟨asx,rdx⟩:=Rep.reads I px vx ux x1 qx;intro ds;induction ds with
 |nil=>
  intro vs us bs r rv h;cases(show vs=[] from r);cases rv;have h:bs=[]:=by simpa using h.symm
  subst h;exact⟨rfl,λu hu=>by cases hu⟩
 |cons d ds ih=>intro vs us bs r rv h;obtain⟨v,w,rfl,r1,r2⟩:=r;obtain⟨b,rr,e,h2,rfl⟩:=zaJ h;cases rv with| cons q1 q2=>rename_i u us';obtain⟨a,b',e1,e2,rfl⟩:=zhN e;rw[hx]at e2;cases e2;obtain⟨p1,p2,p3⟩:=zir hH 60 d a v e1 r1;obtain⟨as,rd⟩:=Rep.reads I a v u p1 q1;have hq:=zo7 (p:=px) rd p2;obtain⟨i1,i2⟩:=ih r2 q2 h2;refine⟨by simp[hq,i1],λz hz=>?_⟩;rcases mem_cons.mp hz with rfl|hz;rw[hq];exact SeqAt.eqAt_reads a px A s z ux as asx rd rdx p2 x2 (by lia);exact i2 z hz
def zmN(hH:RH X.K ι H S)(h:zbQ S d=Φ ds)(r:RV X.K ι H d v):∃a xs,v=.ref a/\(SqL X.K H a xs\/SqT X.K H a xs)/\RVs X.K ι H ds xs:=by
 cases d with
 |tup es=>cases h;obtain⟨a,xs,rfl,ha,rr⟩:=r;exact⟨a,xs,rfl,.inr (SqT.of ha),rr⟩| fix es=>cases h;obtain⟨a,xs,rfl,ha,rr⟩:=r;exact⟨a,xs,rfl,.inl ha.sq,rr⟩| ref l=>simp only[zbQ]at h;split at h;rename_i ds' e;cases h;obtain⟨a,h1,rfl⟩:=r;obtain⟨a2,h2,xs,ha,rr⟩:=hH.obj _ _ e;rw[h1]at h2;cases h2;exact⟨a,xs,rfl,.inl (SqL.of ha),rr⟩;exact nS h
 |_=>exact nS h
def zrt(h:inD S x ys=Φ k):∃bs,ys.mapM (λz=>eqD S z x)=Φ bs/\k=bs.any id:=by
 unfold inD at h;cases e:ys.mapM (λz=>eqD S z x) with
 |none=>rw[e]at h;exact nS h
 |some bs=>rw[e]at h;injection h with h;exact⟨bs,rfl,h.symm⟩
def nonV{K}(hd:RV K ι H d x):decide (x=V.non)=zoY d:=by cases d with|non=>rw[show x=.non from hd];rfl|bl b=>rw[show x=.bl b from hd];rfl|int b=>rw[show x=.int b from hd];rfl|str b=>rw[show x=.str b from hd];rfl|tup b=>obtain⟨_,_,rfl,_⟩:=hd;rfl|ref b=>obtain⟨_,_,rfl⟩:=hd;rfl|fix b=>obtain⟨_,_,rfl,_⟩:=hd;rfl
def zev(hu:X.A.units+128<cLine)(op):OpR X (compareOp op) (rC2 X.K op):=by
 intro pins s σ H x y v u Qv I rx ry q';obtain⟨ι,S,d,e,k,hd,he,hH,hc,q⟩:=q';unfold cmpD at hc;split at hc;rename_i i j;obtain rfl:x=.int i:=hd;obtain rfl:y=.int j:=he;unfold cmpI at hc;split at hc;cases hc;exact zsE pins s σ H _ _ v u Qv I rx ry ⟨rfl,by simpa using q⟩;cases hc;exact zsz pins s σ H _ _ v u Qv I rx ry ⟨rfl,by simpa using q⟩;cases hc;exact zsA pins s σ H _ _ v u Qv I rx ry ⟨i,j,rfl,rfl,q⟩;cases hc;exact zsB pins s σ H _ _ v u Qv I rx ry ⟨i,j,rfl,rfl,q⟩;cases hc;exact zsC pins s σ H _ _ v u Qv I rx ry ⟨i,j,rfl,rfl,q⟩;cases hc;exact zsD pins s σ H _ _ v u Qv I rx ry ⟨i,j,rfl,rfl,q⟩;exact nS hc;unfold cmpO at hc;have isin:∀(k:Bool),((zbQ S e).bind λys=>inD S d ys)=Φ k->∃a xs,y=.ref a/\(SqL X.K H a xs\/SqT X.K H a xs)/\∃(px:PyData),∀us,Vals xs us->us.any (eqRd s.heap px)=k/\∀z∈us,SeqAt.EqAt X.A.in1 s z v (eqRd s.heap px z):=by
  intro k h;cases es:zbQ S e with
  |none=>rw[es]at h;exact nS h
  |some ys=>
   rw[es]at h;obtain⟨bs,hb,rfl⟩:=zrt (show inD S d ys=Φ k from h);obtain⟨a,xs,rfl,hq,rr⟩:=zmN hH es he;refine⟨a,xs,rfl,hq,?_⟩;cases hp:pd S 60 d with
   |some px=>exact⟨px,λus hus=>zmb I (show X.A.units+1+62<cLine by lia) hH hp hd rx rr hus hb⟩| none=>
    cases ys with
    |nil=>
     refine⟨.none,λus hus=>?_⟩;cases(show xs=[] from rr);cases hus;have hb:bs=[]:=by simpa using hb.symm
     subst hb;exact⟨rfl,λz hz=>by cases hz⟩
    |cons z zs=>obtain⟨b,r,h1,_⟩:=zaJ hb;obtain⟨_,_,_,h3,_⟩:=zhN h1;rw[hp]at h3;exact nS h3
 split at hc
 . skip
   obtain⟨a,b,h1,h2,rfl⟩:=zhN hc;obtain⟨p1,p2,p3⟩:=zir hH 60 d a x h1 hd;obtain⟨q1,q2,q3⟩:=zir hH 60 e b y h2 he;exact zq3 (by lia) pins s σ H x y v u Qv I rx ry ⟨a,b,p1,q1,p2,q2,by lia,q⟩
 cases hk:eqD S d e with
 |none=>rw[hk]at hc;exact nS hc
 |some k'=>
  rw[hk]at hc;obtain⟨a,b,h1,h2,rfl⟩:=zhN hk;obtain⟨p1,p2,p3⟩:=zir hH 60 d a x h1 hd;obtain⟨q1,q2,q3⟩:=zir hH 60 e b y h2 he;have hc:k = !PyData.eqv a b:=by simpa using hc.symm
  subst hc;exact zqZ (by lia) pins s σ H x y v u Qv I rx ry ⟨a,b,p1,q1,p2,q2,by lia,q⟩
 split at hc;obtain rfl:y=.non:=he;cases hc;obtain rfl:u=Θ.none:=ry;refine is_none_gen ⟨.bl _,H,I,rfl,?_⟩;rw[rx.none_iff,nonV hd];exact q;rename_i b _;split at hc;rename_i a _;cases hc;exact zq2 pins s σ H _ _ v u Qv I rx ry ⟨a,b,hd,he,q⟩;exact nS hc;exact nS hc;split at hc;obtain rfl:y=.non:=he;cases hc;obtain rfl:u=Θ.none:=ry;refine isnot_none_gen ⟨.bl _,H,I,rfl,?_⟩;rw[rx.none_iff,nonV hd];exact q;exact nS hc
 . skip
   obtain⟨a,xs,rfl,hq,px,hp⟩:=isin _ hc;cases(show u=Θ.ref a from ry);rcases hq with hq|hq;obtain⟨its,r,pl,hz⟩:=I.list hq;obtain⟨h1,h2⟩:=hp its r;exact SeqAt.in_listAt (eqRd s.heap px) pl.isList (λw hw=>h2 w (by simpa using hw)) (zap I q (by simpa using h1.symm));obtain⟨its,r,pl,hz⟩:=I.tuple hq;obtain⟨h1,h2⟩:=hp its r;exact SeqAt.in_tupleAt (eqRd s.heap px) pl (λw hw=>h2 w (by simpa using hw)) (zap I q (by simpa using h1.symm))
 cases hk:(zbQ S e).bind λys=>inD S d ys with
 |none=>rw[hk]at hc;exact nS hc
 |some k'=>
  rw[hk]at hc;have hc:k = !k':=by simpa using hc.symm
  subst hc;obtain⟨a,xs,rfl,hq,px,hp⟩:=isin k' hk;cases(show u=Θ.ref a from ry);rcases hq with hq|hq;obtain⟨its,r,pl,hz⟩:=I.list hq;obtain⟨h1,h2⟩:=hp its r;exact SeqAt.notIn_listAt (eqRd s.heap px) pl.isList (λw hw=>h2 w (by simpa using hw)) (zap I q (by simpa using congrArg (!·) h1.symm));obtain⟨its,r,pl,hz⟩:=I.tuple hq;obtain⟨h1,h2⟩:=hp its r;exact SeqAt.notIn_tupleAt (eqRd s.heap px) pl (λw hw=>h2 w (by simpa using hw)) (zap I q (by simpa using congrArg (!·) h1.symm))
 exact nS hc
end
abbrev zan:Expr->Bool|.Starred _ _=>Δ|_=>Γ
abbrev zbr:Expr->Bool|.ListComp ..=>Δ|.SetComp ..=>Δ|.DictComp ..=>Δ|_=>Γ
abbrev ze0:Expr->Bool|.Slice ..=>Δ|_=>Γ
abbrev zaY:Expr->Bool|.Set ..=>Δ|_=>Γ
abbrev za3:Expr->Bool|.Call (.Name _ _) [] [] _=>Δ|_=>Γ
abbrev zht:Expr->Bool|.UnaryOp .Not _ _=>Δ|.BoolOp ..=>Δ|.IfExp ..=>Δ|.Compare ..=>Δ|_=>Γ
def zal(h:zan e=Γ)(es)(env):starEach (e::es) env=(Δ,eval e env)::starEach es env:=by cases e<;>first|rfl|exact nB h
def zeK(h:zbr e=Γ)(t)(l)(env):swapsWith e t l env=pure Δ:=by cases e<;>first|rfl|exact nB h
def zsI(h:ze0 e=Γ):zk5 e:=by intro o i;cases e<;>first|rfl|exact nB h
def ze7(h:zaY e=Γ)(op):behindInMarks op e=Δ:=by cases e<;>first|rfl|exact nB h
def zcw(h:za3 e=Γ)(x)(env)(w):attributeBase e x env w=w:=by unfold attributeBase;cases e<;>(try rfl);rename_i f a k _;cases f<;>(try rfl);cases a<;>(try rfl);cases k<;>(try rfl);exact nB h
def zpK(h:zht e=Γ)(env)(w):isTrue e env w=(do let v <-w;standAt e.pos;holding [v] (truthy v)):=by
 cases e with
 |UnaryOp op x p=>cases op<;>first|rfl|exact nB h
 |_=>first|rfl|exact nB h
def zgR(h:zaY e=Γ)(env)(x):foldedSetIterable e env x=pure x:=by cases e<;>first|rfl|exact nB h
def zaR:∀{es:List Expr},es.all zan=Γ->(backTo pos (starEach es env)).any (·.1)=Δ
 | [],_=>rfl| e::es,h=>by rw[all_cons,Ξ]at h;rw[zal h.1];exact zaR (es:=es) h.2
abbrev BM(mg:Str->Option Θ)(base:Heap):Prop:=∃(bm:Addr) (o:Obj),mg "__builtins__"=Φ (.ref bm)/\bm≠builtinsNs/\bm≠mainGlobals/\base.get? bm=Φ o/\o.cls=.type "module"/\o.dict=Φ builtinsNs/\o.data=.plain
structure Maker(X:Cx)(c P:Addr):Prop where
 bm:BM X.mg X.base
 code:X.env.code=.ref c
 hd:codeHdIn X.K c P=Γ
 mem:(P,X.env.qual ++ "<lambda>")∈Mks.ts
 one:∀p∈Mks.ts,p.1=P->p.2=X.env.qual ++ "<lambda>"
structure Tab where
 blt:List Str
 cons:List (Str×D)
 fns:List (Str×List Str×Nat)
 cls:List Str:=[]
 flds:List Str:=[]
 mts:List (Nat×Str×Nat):=[]
 inits:List (Nat×Nat×Nat):=[]
 cms:List (Str×Str×Nat):=[]
 isas:List (Str×List Nat):=[]
 lam:List Str:=["lambda"]
 lamP:Nat:=0
abbrev zl9(sc:Scope)(x:Str):Bool:=match sc.names.lookup x with|some .local=>Γ|some .cell=>Γ|some .free=>Γ|_=>Δ
abbrev zfT(sc:Scope)(x:Str):Bool:=match sc.names.lookup x with|some .local=>Γ|some .cell=>Γ|_=>Δ
abbrev isGl(sc:Scope)(x:Str):Bool:=match sc.names.lookup x with|some .globalImplicit=>Γ|_=>Δ
abbrev eqC:D->D->Bool
 |.non,.non=>Γ|.bl a,.bl b=>a==b|.int a,.int b=>a==b|.str a,.str b=>a==b|_,_=>Δ
def zrC:∀{d e:D},eqC d e=Γ->d=e:=by intro d e h;cases d<;>cases e<;>first|rfl|(simp only[eqC,beq_iff_eq]at h;subst h;rfl)|exact nB h
abbrev sV:D->V
 |.non=>.non|.bl b=>.bl b|.int i=>.int i|.str x=>.str x|_=>.non
abbrev znX:D->Bool
 |.non=>Γ|.bl _=>Γ|.int _=>Γ|.str _=>Γ|_=>Δ
def zsp{K}(h:znX d=Γ):RV K ι H d (sV d):=by cases d<;>first|rfl|exact nB h
abbrev conB:D->Const->Bool
 |.non,.none=>Γ|.bl a,.bool b=>a==b|.int a,.int b=>a==b|.str a,.str b=>a==b|_,_=>Δ
abbrev bltB(T:Tab)(sc:Scope)(x:Str):Bool:=isGl sc x&&T.blt.contains x
abbrev spF(K:Frag)(cf:CF)(f:Nat):Sp:=λvs H Qv _=>∃ι S ds,RVs K ι H ds vs/\RH K ι H S/\W (cf f ds S) (λd T=>∀v H' ι',Ext ι H ι' H'->RV K ι' H' d v->RH K ι' H' T->Qv v H')
structure HasM(P:ϊ)(w:ύ)(K:Frag)(mg:Str->Option Θ)(base:Heap)(k c:Nat)(m:Str)(sp:Sp):Prop where
 ex:∃(C fa:Addr) (fd:FuncData) (ps:List Str),Mks.cl[c]?=Φ C/\Cls K C/\Meth K C m fa/\FnOk P w K mg base CX0 k fa fd ps sp/\Binds K fd ps []
structure HasI(P:ϊ)(w:ύ)(K:Frag)(mg:Str->Option Θ)(base:Heap)(k c j:Nat)(sp:Sp):Prop where
 ex:∃(C fa:Addr) (fd:FuncData) (ps:List Str),Mks.cl[c]?=Φ C/\Mk K C fa/\FnOk P w K mg base CX0 k fa fd ps sp/\Binds K fd ps (List.replicate j Θ.none)
structure HasC(P:ϊ)(w:ύ)(K:Frag)(mg:Str->Option Θ)(base:Heap)(k:Nat)(x m:Str)(sp:Sp):Prop where
 ex:∃(C fa:Addr) (fd:FuncData) (ps:List Str) (mc:Θ),mg x=Φ (.ref C)/\specialIn K (.ref C) "__getattribute__"=Φ (Φ (.builtin "type.__getattribute__"))/\readsIn K C mc=Γ/\findCls K (.ref C) mc m=Φ (.val (.ref fa))/\
  keepIn K (.ref fa)=Γ/\FnOk P w K mg base CX0 k fa fd ps sp/\Binds K fd ps []
structure IsaOk(K:Frag)(C:Addr):Prop where
 ha:findIn K (.ref C) "__class__"=Φ (Φ (.builtin "object.__class__"))
 hn:specialIn K (.builtin "object.__class__") "__get__"=Φ (Φ (.builtin "getset_descriptor.__get__"))
 ht:takesIn K (.builtin "object.__class__")=Φ Γ
 hm:mroIn K C (.type "object")=Φ Γ
structure TabOk(T:Tab)(cf:CF)(k:Nat)(P:ϊ)(w:ύ)(K:Frag)(mg:Str->Option Θ)(base:Heap):Prop where
 blt:∀x,T.blt.contains x=Γ->mg x=Ψ
 con:∀x d,T.cons.lookup x=Φ d->znX d=Γ/\∃u,mg x=Φ u/\RelV (sV d) u
 fns:∀f x ps nd,T.fns[f]?=Φ (x,ps,nd)->∀j,j<=nd->Has P w K mg base k x ps (List.replicate j .non) (spF K cf f)
 frm:CFok cf
 cls:∀(c:Nat)(x:Str),T.cls[c]?=Φ x->∃C,Mks.cl[c]?=Φ C/\Cls K C/\mg x=Φ (.ref C)/\∀f,T.flds.contains f=Γ->NoAttr K C f
 mth:∀(c:Nat)(m:Str)(fi:Nat),T.mts.contains (c,m,fi)=Γ->HasM P w K mg base k c m (spF K cf fi)
 ini:∀(c fi j:Nat),T.inits.contains (c,fi,j)=Γ->HasI P w K mg base k c j (spF K cf fi)
 cmd:∀(x m:Str)(fi:Nat),T.cms.contains (x,m,fi)=Γ->HasC P w K mg base k x m (spF K cf fi)
 cln:(T.flds≠[]\/T.inits≠[]\/T.isas≠[])->Mks.cl.length<=T.cls.length
 isa:∀(x:Str)(cs:List Nat),T.isas.contains (x,cs)=Γ->∃D,mg x=Φ (.ref D)/\∀c C,Mks.cl[c]?=Φ C->IsaOk K C/\kitOne K (.ref C) (.ref D)=Φ (cs.contains c)
structure Gd(T:Tab)(cf:CF)(k:Nat)(N:List Str)(sc:Scope)(X:Cx):Prop where
 nm:X.N=N
 nd:N.Nodup
 loc:∀x,sc.names.lookup x=Φ .local->X.env.scope.names.lookup x=Φ .local
 cell:∀x,sc.names.lookup x=Φ .cell->X.env.scope.names.lookup x=Φ .cell
 free:∀x,sc.names.lookup x=Φ .free->X.env.scope.names.lookup x=Φ .free\/X.env.scope.names.lookup x=Φ .cell
 glob:∀x,sc.names.lookup x=Φ .globalImplicit->X.env.scope.names.lookup x=Φ .globalImplicit
 fn:(∀x,X.fn x=Γ)\/∀x,sc.names.lookup x≠Φ .cell
 calm:X.calm=Γ
 xe:X.xe=λ_ _=>False
 room':Room (k+1) X.A
 tab:TabOk T cf k X.prog X.w X.K X.mg X.base
 lam:N=T.lam->3<=k/\∃c,Maker X c T.lamP
section
variable{T:Tab}{cf:CF}{k:Nat}{N:List Str}{sc:Scope}{X:Cx}
def Gd.room(G:Gd T cf k N sc X):Room k X.A:=G.room'.mono (le_succ k)
def Gd.hu(G:Gd T cf k N sc X):X.A.units+128<cLine:=by have:=G.room.un;lia
def Gd.vis(G:Gd T cf k N sc X)(h:zl9 sc x=Γ):Vis X.env.scope x:=by unfold zl9 at h;split at h;rename_i e;exact .inl (G.loc x e);rename_i e;exact .inr (.inl (G.cell x e));rename_i e;rcases G.free x e with q|q;exact .inr (.inr q);exact .inr (.inl q);exact nB h
def Gd.lc(G:Gd T cf k N sc X)(h:zfT sc x=Γ):Loc X.env.scope x/\(X.fn x=Γ\/X.env.scope.names.lookup x=Φ .local):=by unfold zfT at h;split at h;rename_i e;exact⟨.inl (G.loc x e),.inr (G.loc x e)⟩;rename_i e;refine⟨.inr (G.cell x e),?_⟩;rcases G.fn with q|q;exact .inl (q x);exact absurd e (q x);exact nB h
def Gd.gl(G:Gd T cf k N sc X)(h:isGl sc x=Γ):Gl X x:=by unfold isGl at h;split at h;rename_i e;exact G.glob x e;exact nB h
end
abbrev RS(K:Frag)(ι:List Addr)(H:Hp)(δ:Ev)(σ:L2.St):Prop:=δ.length=σ.length/\∀(i:Nat)(d:D),δ[i]?=Φ (Φ d)->∃v,σ[i]?=Φ (Φ v)/\RV K ι H d v
def RS.ext{K}(h:RS K ι H δ a)(x:Ext ι H ι' H'):RS K ι' H' δ a:=⟨h.1,λi d e=>let ⟨v,b,r⟩:=h.2 i d e;⟨v,b,r.ext x⟩⟩
def RS.set{K}(h:RS K ι H δ f)(r:RV K ι H d v)(i):RS K ι H (δ.set i (Φ d)) (f.set i (Φ v)):=by
 refine⟨by simp[h.1],λj e b=>?_⟩;by_cases a:i=j;subst a;have c:i<δ.length:=by have:=(Ω.mp b).1;simpa using this
 rw[getElem?_set_self c]at b;cases b;exact⟨v,getElem?_set_self (by rw[<-h.1];exact c),r⟩;rw[getElem?_set_ne a]at b;obtain⟨g,k,l⟩:=h.2 j e b;exact⟨g,by rw[getElem?_set_ne a];exact k,l⟩
abbrev tE(K:Frag)(cf:CF)(ce:CE):TE:=λσ H Qv=>∃δ ι S Q,RS K ι H δ σ/\RH K ι H S/\W (evE cf ce δ S) Q/\∀v H',Lf K ι H Q v H'->Qv v H'
abbrev LfB(K:Frag)(ι:List Addr)(H:Hp)(Q:Bool->R.St->Prop):Bool->Hp->Prop:=λb H'=>∃ι' S',Ext ι H ι' H'/\RH K ι' H' S'/\Q b S'
abbrev tT(K:Frag)(cf:CF)(ce:CE):TT:=λσ H Qv=>∃δ ι S Q,RS K ι H δ σ/\RH K ι H S/\W (evT cf ce δ S) Q/\∀b H',LfB K ι H Q b H'->Qv b H'
abbrev LfA(K:Frag)(ι:List Addr)(H:Hp)(Q:List D->R.St->Prop):List V->Hp->Prop:=λvs H'=>∃ds ι' S',Ext ι H ι' H'/\RVs K ι' H' ds vs/\RH K ι' H' S'/\Q ds S'
abbrev tAs(K:Frag)(cf:CF)(ces:CEs):TA:=λσ H Qv=>∃δ ι S Q,RS K ι H δ σ/\RH K ι H S/\W (evEs cf ces δ S) Q/\∀vs H',LfA K ι H Q vs H'->Qv vs H'
inductive SqK(K:Frag)(ι:List Addr)(H:Hp)(S:R.St)(a:Addr)(xs:List V)(ds:List D)(lks:List Nat):Prop where
 |tmp (h:a∉ι) (e:H a=Φ (.lst xs)):SqK K ι H S a xs ds lks
 |tup (e:H a=Φ (.tup xs)):SqK K ι H S a xs ds lks
 |fix (e:FixL K H a xs):SqK K ι H S a xs ds lks
 |own (l:Nat) (hl:l∈lks) (hi:ι[l]?=Φ a) (hs:S.get l=Φ (.lst ds)) (e:H a=Φ (.lst xs)):SqK K ι H S a xs ds lks
abbrev Sq(K:Frag)(ι:List Addr)(H:Hp)(S:R.St)(v:V)(ds:List D)(lks:List Nat):Prop:=∃a xs,v=.ref a/\RVs K ι H ds xs/\SqK K ι H S a xs ds lks
abbrev LfL(K:Frag)(ι:List Addr)(H:Hp)(Q:List D×List Nat->R.St->Prop):VK:=λv H'=>∃ds lks ι' S',Ext ι H ι' H'/\Sq K ι' H' S' v ds lks/\RH K ι' H' S'/\Q (ds,lks) S'
abbrev tL(K:Frag)(cf:CF)(cl:CL):TE:=λσ H Qv=>∃δ ι S Q,RS K ι H δ σ/\RH K ι H S/\W (evL cf cl δ S) Q/\∀v H',LfL K ι H Q v H'->Qv v H'
abbrev LfT(K:Frag)(ι:List Addr)(H:Hp)(Q:List D×List Nat->R.St->Prop):VK:=λv H'=>∃ds ι' S' a xs,Ext ι H ι' H'/\v=.ref a/\RVs K ι' H' ds xs/\a∉ι'/\H' a=Φ (.lst xs)/\RH K ι' H' S'/\H a=Ψ/\Q (ds,[]) S'
abbrev tLt(K:Frag)(cf:CF)(cl:CL):TE:=λσ H Qv=>∃δ ι S Q,RS K ι H δ σ/\RH K ι H S/\W (evL cf cl δ S) Q/\∀v H',LfT K ι H Q v H'->Qv v H'
def LfT.l{K}(h:LfT K ι H Q v H'):LfL K ι H Q v H':=by obtain⟨b,ι',c,a,d,x,rfl,r,f,e,g,_,q⟩:=h;exact⟨b,[],ι',c,x,⟨a,d,rfl,r,.tmp f e⟩,g,q⟩
def PE.imp(h:PE X e t)(i:∀a H Q,t' a H Q->t a H Q):PE X e t':=λb s a H Q I q=>h b s a H Q I (i a H Q q)
def PT.imp(h:PT X e t)(i:∀a H Q,t' a H Q->t a H Q):PT X e t':=λb s a H Q I q=>h b s a H Q I (i a H Q q)
def PW.imp(h:PW X e t)(i:∀a H Q,t' a H Q->t a H Q):PW X e t':=λc b s a H Q I q=>h c b s a H Q I (i a H Q q)
def PA.imp(h:PA X es t)(i:∀a H Q,t' a H Q->t a H Q):PA X es t':=λpos b s a H Q I q=>h pos b s a H Q I (i a H Q q)
def tE.run{K}(hs:RS K ι H δ e)(f:RH K ι H S)(w:W (evE cf a δ S) Q)(h:∀d v ι' H' b,Ext ι H ι' H'->RS K ι' H' δ e->RH K ι' H' b->RV K ι' H' d v->Q d b->g v H'):tE K cf a e H g:=
 ⟨δ,ι,S,Q,hs,f,w,λv H' z=>(by obtain⟨d,ι',b,x,r,c,q⟩:=z;exact h d v ι' H' b x (hs.ext x) c r q)⟩
def tT.run{K}(hs:RS K ι H δ e)(f:RH K ι H S)(w:W (evT cf a δ S) Q)(h:∀b ι' H' c,Ext ι H ι' H'->RS K ι' H' δ e->RH K ι' H' c->Q b c->g b H'):tT K cf a e H g:=
 ⟨δ,ι,S,Q,hs,f,w,λb H' z=>(by obtain⟨ι',c,x,d,q⟩:=z;exact h b ι' H' c x (hs.ext x) d q)⟩
def tAs.run{K}(hs:RS K ι H δ e)(f:RH K ι H S)(w:W (evEs cf a δ S) Q)(h:∀ds vs ι' H' b,Ext ι H ι' H'->RS K ι' H' δ e->RH K ι' H' b->RVs K ι' H' ds vs->Q ds b->g vs H'):tAs K cf a e H g:=
 ⟨δ,ι,S,Q,hs,f,w,λv H' z=>(by obtain⟨d,ι',b,x,r,c,q⟩:=z;exact h d v ι' H' b x (hs.ext x) c r q)⟩
def PE.ofT(h:PE X e (tLt X.K cf cl)):PE X e (tL X.K cf cl):=PE.imp h λd H f z=>(by obtain⟨a,ι,S,Q,b,c,w,q⟩:=z;exact ⟨a,ι,S,Q,b,c,w,λv H' l=>q v H' l.l⟩)
def tLt.run{K}(hs:RS K ι H δ d)(f:RH K ι H S)(w:W (evL cf a δ S) Q)(h:∀ds p xs ι' H' b,Ext ι H ι' H'->RS K ι' H' δ d->RH K ι' H' b->RVs K ι' H' ds xs->p∉ι'->H' p=Φ (.lst xs)->H p=Ψ->Q (ds,[]) b->g (.ref p) H'):tLt K cf a d H g:=
 ⟨δ,ι,S,Q,hs,f,w,λv H' z=>(by obtain⟨ds,ι',b,p,xs,x,e,r,i,j,c,k,q⟩:=z;exact e▸h ds p xs ι' H' b x (hs.ext x) c r i j k q)⟩
def tL.run{K}(hs:RS K ι H δ e)(f:RH K ι H S)(w:W (evL cf a δ S) Q)(h:∀ds b v ι' H' c,Ext ι H ι' H'->RS K ι' H' δ e->RH K ι' H' c->Sq K ι' H' c v ds b->Q (ds,b) c->g v H'):tL K cf a e H g:=
 ⟨δ,ι,S,Q,hs,f,w,λv H' z=>(by obtain⟨ds,b,ι',c,x,r,d,q⟩:=z;exact h ds b v ι' H' c x (hs.ext x) d r q)⟩
section
variable{T:Tab}{cf:CF}{k:Nat}{N:List Str}{sc:Scope}{X:Cx}{pos:Pos}
def zgm(h:W o Q):∃a S,o=.ok a S/\Q a S:=W.iff.mp h
def zax(h:W (lift S o) Q):∃a,o=Φ a/\Q a S:=by cases o with|none=>exact h.elim|some a=>exact⟨a,rfl,h⟩
def zqd(G:Gd T cf k N sc X)(h1:N[i]?=Φ x)(h2:zl9 sc x=Γ)(h3:(x==("__debug__":Str))=Δ)(h4:(x==("__classdict__":Str))=Δ):PE X (.Name x pos) (tE X.K cf (.loc i)):=by
 refine PE.imp (zdN (i:=i) (by rw[G.nm];exact h1) (G.vis h2) h3 h4) λσ H Qv y=>?_;obtain⟨δ,ι,S,Q,hs,hh,w,q⟩:=y;obtain⟨d,e,hq⟩:=zax w;have e':δ[i]?=Φ (Φ d):=by
  cases z:δ[i]? with
  |none=>rw[z]at e;exact nS e
  |some o=>rw[z]at e;simp at e;rw[e]
 obtain⟨v,ev,r⟩:=hs.2 i d e';exact⟨v,ev,q v H (Lf.of hh r hq)⟩
def zmO(h:conB d c=Γ):PE X (.Constant c j pos) (tE X.K cf (.con d)):=by
 have key:∀{v:V},PE X (.Constant c j pos) (tC v)->(∀K ι H,RV K ι H d v)->PE X (.Constant c j pos) (tE X.K cf (.con d)):=λ{v} hp hr=>PE.imp hp λσ H Qv z=>(by obtain⟨δ,ι,S,Q,hs,hh,w,q⟩:=z;exact q v H (Lf.of hh (hr _ _ _) w))
 cases d<;>cases c<;>first
  |exact key zmX λ_ _ _=>rfl
  |exact nB h
  |(simp only[conB,beq_iff_eq]at h;subst h;exact key zfF λ_ _ _=>rfl)
  |(simp only[conB,beq_iff_eq]at h;subst h;exact key zsy λ_ _ _=>rfl)
  |(simp only[conB,beq_iff_eq]at h;subst h;exact key zqN λ_ _ _=>rfl)
def znS(G:Gd T cf k N sc X)(h1:isGl sc x=Γ)(h2:T.cons.lookup x=Φ d')(h3:eqC d' d=Γ)(h4:(x==("__debug__":Str))=Δ):PE X (.Name x pos) (tE X.K cf (.con d)):=by have e:=zrC h3;subst e;obtain⟨hsc,u,hu,r⟩:=G.tab.con x d' h2;exact PE.imp (zeY (G.gl h1) hu r h4) λσ H Qv z=>(by obtain⟨δ,ι,S,Q,hs,hh,w,q⟩:=z;exact q (sV d') H (Lf.of hh (zsp hsc) w))
def zqi(ha:PE X a (tE X.K cf ca))(hb:PE X b (tE X.K cf cb)):PE X (.BinOp a op b pos) (tE X.K cf (.bin op ca cb)):=by refine PE.imp (zqO (zrL op) ha hb) λσ H Qv k=>?_;obtain⟨δ,ι,S,Q,hs,hh,w,q⟩:=k;change W (Out.bind _ _) _ at w;simp only[zab] at w;refine tE.run hs hh w λd v ι1 H1 S1 x1 hs1 hh1 r1 w1=>tE.run hs1 hh1 w1 λe u ι2 H2 S2 x2 hs2 hh2 r2 w2=>?_;exact⟨ι2,S2,d,e,Q,r1.ext x2,r2,hh2,w2,λz H3 l=>q z H3 (Lf.up (x1.trans x2) l)⟩
def zp9(ha:PE X a (tE X.K cf ca)):PE X (.UnaryOp .USub a pos) (tE X.K cf (.neg ca)):=by refine PE.imp (zsv zpG ha) λσ H Qv z=>?_;obtain⟨δ,ι,S,Q,hs,hh,w,q⟩:=z;change W (Out.bind _ _) _ at w;simp only[zab] at w;refine tE.run hs hh w λd v ι1 H1 S1 x1 hs1 hh1 r1 w1=>?_;cases d with| int i=>obtain rfl:v=.int i:=r1;exact⟨i,rfl,q _ _ (Lf.up x1 (Lf.of (d:=.int (-i)) hh1 rfl w1))⟩|_=>exact w1.elim
def zsi(ha:PE X a (tE X.K cf ca)):PE X (.UnaryOp .Not a pos) (tE X.K cf (.nt ca)):=by refine PE.imp (zqP ha) λσ H Qv z=>?_;obtain⟨δ,ι,S,Q,hs,hh,w,q⟩:=z;change W (Out.bind _ _) _ at w;simp only[zab] at w;refine tE.run hs hh w λd v ι1 H1 S1 x1 hs1 hh1 r1 w1=>?_;cases d with| bl i=>obtain rfl:v=.bl i:=r1;exact⟨i,rfl,q _ _ (Lf.up x1 (Lf.of (d:=.bl (!i)) hh1 rfl w1))⟩|_=>exact w1.elim
def zqg(G:Gd T cf k N sc X)(ha:PE X a (tE X.K cf ca))(hb:PE X b (tE X.K cf cb))(hm:zaY b=Γ):PE X (.Compare a [op] [b] pos) (tE X.K cf (.cmp op ca cb)):=by refine PE.imp (zoy (zev G.hu op) ha hb (ze7 hm op)) λσ H Qv z=>?_;obtain⟨δ,ι,S,Q,hs,hh,w,q⟩:=z;change W (Out.bind _ _) _ at w;simp only[zab] at w;refine tE.run hs hh w λd v ι1 H1 S1 x1 hs1 hh1 r1 w1=>tE.run hs1 hh1 w1 λe u ι2 H2 S2 x2 hs2 hh2 r2 w2=>?_;obtain⟨b,hb,w3⟩:=zax w2;exact⟨ι2,S2,d,e,b,r1.ext x2,r2,hh2,hb,q _ _ (Lf.up (x1.trans x2) (Lf.of (d:=.bl b) hh2 rfl w3))⟩
def zpW(G:Gd T cf k N sc X)(ha:PE X a (tE X.K cf ca))(hb:PE X b (tE X.K cf cb))(hm:zaY b=Γ):PT X (.Compare a [op] [b] pos) (tT X.K cf (.cmp op ca cb)):=by refine PT.imp (zgx (zev G.hu op) ha hb (ze7 hm op)) λσ H Qv z=>?_;obtain⟨δ,ι,S,Q,hs,hh,w,q⟩:=z;change W (Out.bind _ _) _ at w;simp only[zab] at w;refine tE.run hs hh w λd v ι1 H1 S1 x1 hs1 hh1 r1 w1=>tE.run hs1 hh1 w1 λe u ι2 H2 S2 x2 hs2 hh2 r2 w2=>?_;obtain⟨b,hb,w3⟩:=zax w2;exact⟨ι2,S2,d,e,b,r1.ext x2,r2,hh2,hb,b,rfl,q _ _ ⟨ι2,S2,x1.trans x2,hh2,w3⟩⟩
def znV(G:Gd T cf k N sc X)(ha:PE X a (tE X.K cf ca))(hb:PE X b (tE X.K cf cb))(hc:PE X c (tE X.K cf cc))(hm:zaY b=Γ)(hm':zaY c=Γ):
  PE X (.Compare a [op,op'] [b,c] pos) (tE X.K cf (.cmp2 op op' ca cb cc)):=by
 refine PE.imp (zlO (zev G.hu op) (zev G.hu op') ha hb hc (by simp[lastMarks,ze7 hm'])) λσ H Qv z=>?_;obtain⟨δ,ι,S,Q,hs,hh,w,q⟩:=z;change W (Out.bind _ _) _ at w;simp only[zab] at w;refine tE.run hs hh w λd v ι1 H1 S1 x1 hs1 hh1 r1 w1=>tE.run hs1 hh1 w1 λe u ι2 H2 S2 x2 hs2 hh2 r2 w2=>?_;obtain⟨b,hb,w3⟩:=zax w2;refine⟨ι2,S2,d,e,b,r1.ext x2,r2,hh2,hb,b,rfl,?_⟩;cases b with|false=>exact q _ _ (Lf.up (x1.trans x2) (Lf.of (d:=.bl Δ) hh2 rfl w3))| true=>simp only[if_true,zab]at w3⊢;refine tE.run hs2 hh2 w3 λe' u' ι3 H3 S3 x3 hs3 hh3 r3 w4=>?_;obtain⟨b,hb,w5⟩:=zax w4;exact⟨ι3,S3,e,e',b,r2.ext x3,r3,hh3,hb,q _ _ (Lf.up ((x1.trans x2).trans x3) (Lf.of (d:=.bl b) hh3 rfl w5))⟩
def zny(G:Gd T cf k N sc X)(ha:PE X a (tE X.K cf ca))(hb:PE X b (tE X.K cf cb))(hc:PE X c (tE X.K cf cc))(hm:zaY b=Γ)(hm':zaY c=Γ):
  PT X (.Compare a [op,op'] [b,c] pos) (tT X.K cf (.cmp2 op op' ca cb cc)):=by
 refine PT.imp (zlB (zev G.hu op) (zev G.hu op') ha hb hc (by simp[lastMarks,ze7 hm'])) λσ H Qv z=>?_;obtain⟨δ,ι,S,Q,hs,hh,w,q⟩:=z;change W (Out.bind _ _) _ at w;simp only[zab] at w;refine tE.run hs hh w λd v ι1 H1 S1 x1 hs1 hh1 r1 w1=>tE.run hs1 hh1 w1 λe u ι2 H2 S2 x2 hs2 hh2 r2 w2=>?_;obtain⟨b,hb,w3⟩:=zax w2;refine⟨ι2,S2,d,e,b,r1.ext x2,r2,hh2,hb,b,rfl,?_⟩;cases b with|false=>exact⟨Δ,rfl,q _ _ ⟨ι2,S2,x1.trans x2,hh2,w3⟩⟩| true=>simp only[if_true,zab]at w3⊢;refine tE.run hs2 hh2 w3 λe' u' ι3 H3 S3 x3 hs3 hh3 r3 w4=>?_;obtain⟨b,hb,w5⟩:=zax w4;exact⟨ι3,S3,e,e',b,r2.ext x3,r3,hh3,hb,b,rfl,q _ _ ⟨ι3,S3,(x1.trans x2).trans x3,hh3,w5⟩⟩
def zmP{rest}(ha:PE X a (tE X.K cf ca))(hb:PE X (.BoolOp .And (b::rest) pos) (tE X.K cf cb)):PE X (.BoolOp .And (a::b::rest) pos) (tE X.K cf (.and ca cb)):=by
 refine PE.imp (zqW ha hb) λσ H Qv k=>?_;obtain⟨δ,ι,S,Q,hs,hh,w,q⟩:=k;change W (Out.bind _ _) _ at w;simp only[zab] at w;refine tE.run hs hh w λd v ι1 H1 S1 x1 hs1 hh1 r1 w1=>?_;cases d with
 |bl c=>obtain rfl:v=.bl c:=r1;refine⟨c,rfl,?_⟩;cases c with|false=>exact q _ _ (Lf.up x1 (Lf.of (d:=.bl Δ) hh1 rfl w1))|true=>exact⟨δ,ι1,S1,Q,hs1,hh1,w1,λz H3 l=>q z H3 (Lf.up x1 l)⟩
 |_=>exact w1.elim
def zp8{rest}(ha:PE X a (tE X.K cf ca))(hb:PE X (.BoolOp .Or (b::rest) pos) (tE X.K cf cb)):PE X (.BoolOp .Or (a::b::rest) pos) (tE X.K cf (.or ca cb)):=by
 refine PE.imp (zsw ha hb) λσ H Qv k=>?_;obtain⟨δ,ι,S,Q,hs,hh,w,q⟩:=k;change W (Out.bind _ _) _ at w;simp only[zab] at w;refine tE.run hs hh w λd v ι1 H1 S1 x1 hs1 hh1 r1 w1=>?_;cases d with
 |bl c=>obtain rfl:v=.bl c:=r1;refine⟨c,rfl,?_⟩;cases c with|true=>exact q _ _ (Lf.up x1 (Lf.of (d:=.bl Γ) hh1 rfl w1))|false=>exact⟨δ,ι1,S1,Q,hs1,hh1,w1,λz H3 l=>q z H3 (Lf.up x1 l)⟩
 |_=>exact w1.elim
def LfB.up{K}(x:Ext ι H ι' H')(h:LfB K ι' H' Q b c):LfB K ι H Q b c:=by obtain⟨a,d,e,r⟩:=h;exact⟨a,d,x.trans e,r⟩
def zmI{rest}(ha:PT X a (tT X.K cf ca))(hb:PW X (.BoolOp .And (b::rest) pos) (tT X.K cf cb)):PW X (.BoolOp .And (a::b::rest) pos) (tT X.K cf (.and ca cb)):=by refine PW.imp (zqE ha hb) λσ H Qv k=>?_;obtain⟨δ,ι,S,Q,hs,hh,w,q⟩:=k;change W (Out.bind _ _) _ at w;simp only[zab] at w;refine tT.run hs hh w λc ι1 H1 S1 x1 hs1 hh1 w1=>?_;cases c with|false=>exact q _ _ ⟨ι1,S1,x1,hh1,w1⟩|true=>exact⟨δ,ι1,S1,Q,hs1,hh1,w1,λz H3 l=>q z H3 (LfB.up x1 l)⟩
def zpV{rest}(ha:PT X a (tT X.K cf ca))(hb:PW X (.BoolOp .Or (b::rest) pos) (tT X.K cf cb)):PW X (.BoolOp .Or (a::b::rest) pos) (tT X.K cf (.or ca cb)):=by refine PW.imp (zqD ha hb) λσ H Qv k=>?_;obtain⟨δ,ι,S,Q,hs,hh,w,q⟩:=k;change W (Out.bind _ _) _ at w;simp only[zab] at w;refine tT.run hs hh w λc ι1 H1 S1 x1 hs1 hh1 w1=>?_;cases c with|true=>exact q _ _ ⟨ι1,S1,x1,hh1,w1⟩|false=>exact⟨δ,ι1,S1,Q,hs1,hh1,w1,λz H3 l=>q z H3 (LfB.up x1 l)⟩
def zsf(ha:PT X a (tT X.K cf ca)):PT X (.UnaryOp .Not a pos) (tT X.K cf (.nt ca)):=by refine PT.imp (zmU ha) λσ H Qv z=>?_;obtain⟨δ,ι,S,Q,hs,hh,w,q⟩:=z;change W (Out.bind _ _) _ at w;simp only[zab] at w;exact tT.run hs hh w λc ι1 H1 S1 x1 hs1 hh1 w1=>q _ _ ⟨ι1,S1,x1,hh1,w1⟩
def zpL(hh:RH X.K ι H S)(r:RV X.K ι H d v)(h:tru S d=Φ b):TruV X.K v H b:=by
 cases d with
 |non=>obtain rfl:v=.non:=r;cases h;rfl|bl c=>obtain rfl:v=.bl c:=r;cases h;rfl|int i=>obtain rfl:v=.int i:=r;cases h;rfl| tup ds=>obtain⟨a,xs,rfl,ha,rr⟩:=r;cases h;refine .inr (.inl ⟨xs,SqT.of ha,?_⟩);have:=rr.length;cases ds<;>cases xs<;>first|rfl|simp at this
 |ref l=>
  simp only[tru]at h;split at h
  . rename_i ds e;cases h;obtain⟨a,h1,rfl⟩:=r;obtain⟨a2,h2,xs,ha,rr⟩:=hh.obj _ _ e;rw[h1]at h2;cases h2;refine .inl ⟨xs,SqL.of ha,?_⟩;have:=rr.length;cases ds<;>cases xs<;>first|rfl|simp at this
  exact nS h
 |_=>exact nS h
def zpU(ha:PE X a (tE X.K cf ca))(hp:zht a=Γ):PT X a (tT X.K cf (.tst ca)):=by refine PT.imp (zlA ha (zpK hp X.env)) λσ H Qv z=>?_;obtain⟨δ,ι,S,Q,hs,hh,w,q⟩:=z;change W (Out.bind _ _) _ at w;simp only[zab] at w;refine tE.run hs hh w λd v ι1 H1 S1 x1 hs1 hh1 r1 w1=>?_;obtain⟨b,hb,w2⟩:=zax w1;exact⟨b,zpL hh1 r1 hb,q _ _ ⟨ι1,S1,x1,hh1,w2⟩⟩
def zqe(hc:PT X c (tT X.K cf cc))(ha:PE X a (tE X.K cf ca))(hb:PE X b (tE X.K cf cb)):PE X (.IfExp c a b pos) (tE X.K cf (.ite cc ca cb)):=by refine PE.imp (zlM hc ha hb) λσ H Qv k=>?_;obtain⟨δ,ι,S,Q,hs,hh,w,q⟩:=k;change W (Out.bind _ _) _ at w;simp only[zab] at w;refine tT.run hs hh w λc ι1 H1 S1 x1 hs1 hh1 w1=>?_;cases c with|true=>exact⟨δ,ι1,S1,Q,hs1,hh1,w1,λz H3 l=>q z H3 (Lf.up x1 l)⟩|false=>exact⟨δ,ι1,S1,Q,hs1,hh1,w1,λz H3 l=>q z H3 (Lf.up x1 l)⟩
def zmQ:PA X [] (tAs X.K cf .nil):=PA.imp zdO λσ H Qv z=>(by obtain⟨δ,ι,S,Q,hs,hh,w,q⟩:=z;exact q [] H ⟨[],ι,S,Ext.refl _ _,rfl,hh,by simpa[evEs]using w⟩)
def zjk(he:PE X e (tE X.K cf ce))(hes:PA X es (tAs X.K cf ces))(hn:zan e=Γ):PA X (e::es) (tAs X.K cf (.cons ce ces)):=by refine PA.imp (zbo he hes (zal hn es X.env)) λσ H Qv z=>?_;obtain⟨δ,ι,S,Q,hs,hh,w,q⟩:=z;simp only[evEs,zab]at w;refine tE.run hs hh w λd v ι1 H1 S1 x1 hs1 hh1 r1 w1=>tAs.run hs1 hh1 w1 λds vs ι2 H2 S2 x2 hs2 hh2 r2 w2=>?_;exact q _ _ ⟨d::ds,ι2,S2,x1.trans x2,⟨v,vs,rfl,r1.ext x2,r2⟩,hh2,w2⟩
def zp6(h:PA X es (tAs X.K cf ces)):PE X (.Tuple es j pos) (tE X.K cf (.tup ces)):=by refine PE.imp (zqM h) λσ H Qv z=>?_;obtain⟨δ,ι,S,Q,hs,hh,w,q⟩:=z;change W (Out.bind _ _) _ at w;simp only[zab] at w;refine tAs.run hs hh w λds vs ι1 H1 S1 x1 hs1 hh1 r1 w1=>?_;split at w1;rename_i c;exact⟨by rw[r1.length,Τ];exact c,λp hp=>q _ _ (Lf.up x1 (Lf.tup hh1 hp r1 w1))⟩;exact w1.elim
def zqc(h:PA X es (tAs X.K cf ces)):PE X (.List es pos) (tE X.K cf (.lst ces)):=by refine PE.imp (zqQ h) λσ H Qv z=>?_;obtain⟨δ,ι,S,Q,hs,hh,w,q⟩:=z;change W (Out.bind _ _) _ at w;simp only[zab] at w;refine tAs.run hs hh w λds vs ι1 H1 S1 x1 hs1 hh1 r1 w1=>?_;obtain⟨c,w2⟩:=zen w1;exact⟨by rw[r1.length];exact c,λp hp=>q _ _ (Lf.up x1 (Lf.lst hh1 hp r1 w2))⟩
def znU:PE X (.Dict [] [] pos) (tE X.K cf .dnew):=by refine PE.imp zhv λσ H Qv z=>?_;obtain⟨δ,ι,S,Q,hs,hh,w,q⟩:=z;intro p hp;exact q _ _ ⟨.ref S.len,ι++[p],S.push (.dic []),Ext.obj hh hp _,⟨p,hh.last p,rfl⟩,hh.obj' hp _ _ ⟨List.nodup_nil,[],zak,rfl⟩,w⟩
def zsH(hh:RH X.K ι H S)(r:RV X.K ι H d v)(hq:zbQ S d=Φ ds)(ha:R.atI ds i=Φ e):∃u,rIx X.K v (.int i) H (λz H'=>z=u/\H'=H)/\RV X.K ι H e u:=by
 obtain⟨a,xs,rfl,hx,rr⟩:=zmN hh hq r;have hl:=rr.length;have key:∃u,L2.atI xs i=Φ u/\RV X.K ι H e u:=by
  unfold R.atI at ha;cases e1:R.ixN ds.length i with
  |none=>rw[e1]at ha;exact nS ha
  |some j=>
   rw[e1]at ha;obtain⟨u,h1,h2⟩:=rr.get (show ds[j]?=Φ e from ha);refine⟨u,?_,h2⟩;unfold L2.atI;have:L2.ixN xs.length i=Φ j:=by rw[hl];exact e1
   rw[this];exact h1
 obtain⟨u,h1,h2⟩:=key;refine⟨u,?_,h2⟩;rcases hx with hx|hx;exact .inl ⟨a,xs,i,u,rfl,rfl,hx,h1,rfl,rfl⟩;exact .inr (.inl ⟨a,xs,i,u,rfl,rfl,hx,h1,rfl,rfl⟩)
def zn8{K}(h:rIx K x y H (λz H'=>z=u/\H'=H))(q:Q u H):rIx K x y H Q:=by rcases h with⟨p,xs,i,v,h1,h2,h3,h4,rfl,_⟩|⟨p,xs,i,v,h1,h2,h3,h4,rfl,_⟩|⟨z,i,c,h1,h2,h3,h4,h5,_⟩;exact .inl ⟨p,xs,i,v,h1,h2,h3,h4,q⟩;exact .inr (.inl ⟨p,xs,i,v,h1,h2,h3,h4,q⟩);exact .inr (.inr ⟨z,i,c,h1,h2,h3,h4,by rw[h5];exact q⟩)
def zsk(ha:PE X a (tE X.K cf ca))(hb:PE X b (tE X.K cf cb))(hp:ze0 b=Γ):PE X (.Subscript a b pos) (tE X.K cf (.ix ca cb)):=by refine PE.imp (zsx zrq ha hb (zsI hp)) λσ H Qv k=>?_;obtain⟨δ,ι,S,Q,hs,hh,w,q⟩:=k;change W (Out.bind _ _) _ at w;simp only[zab] at w;refine tE.run hs hh w λd v ι1 H1 S1 x1 hs1 hh1 r1 w1=>tE.run hs1 hh1 w1 λe u ι2 H2 S2 x2 hs2 hh2 r2 w2=>?_;split at w2;rename_i ds i eq;obtain⟨z,hz,w3⟩:=zax w2;obtain rfl:u=.int i:=r2;obtain⟨u,h1,h2⟩:=zsH hh2 (r1.ext x2) eq hz;exact zn8 h1 (q _ _ (Lf.up (x1.trans x2) (Lf.of hh2 h2 w3)));exact w2.elim
end
section
variable{K:Frag}{ι ι':List Addr}{H H':Hp}{S T:R.St}{d:D}{v:V}
def zo3(hf:T.frz=S.frz++S.new)(h:S.get l=Φ o):T.get l=Φ o:=by obtain⟨f,n,k⟩:=T;have hf:f=S.frz++S.new:=hf;subst hf;exact zgQ h n k
def RH.cut(hh:RH K ι H S)(x:Ext ι H ι' H')(hT:RH K ι' H' T)(hf:T.frz=S.frz++S.new):RH K ι H' S:=by refine⟨hh.len,hh.nd,λl o e=>?_,hT.tab⟩;obtain⟨a,h1,h2⟩:=hh.obj l o e;obtain⟨b,h3,h4⟩:=hT.obj l o (zo3 hf e);rw[zbV x.pre h1]at h3;cases h3;refine⟨a,h1,?_⟩;cases o with| lst ds=>obtain⟨xs,_,r1⟩:=h2;obtain⟨ys,e2,r2⟩:=h4;exact⟨ys,e2,r2.restrict x.pre r1.flats⟩| dic kvs=>obtain⟨_,ws,_,r1⟩:=h2;obtain⟨nd,ys,e2,r2⟩:=h4;exact⟨nd,ys,e2,r2.restrict x.pre r1.flats⟩| ins c fs=>obtain⟨_,_,ws,_,_,r1⟩:=h2;obtain⟨C,dx,ys,e0,e2,r2⟩:=h4;exact⟨C,dx,ys,e0,e2,r2.restrict x.pre r1.flats⟩
def Ext.cut(x:Ext ι H ι' H'):Ext ι H ι H':=⟨ϟ _,x.kp,λa o h e=>⟨(x.rest a o h e).1,h⟩⟩
def zom(hp:ι <+: ι')(nd:ι'.Nodup)(hl:ι'[l]?=Φ a)(h:ι.length<=l):a∉ι:=λhm=>by obtain⟨t,rfl⟩:=hp;rw[getElem?_append_right h]at hl;have h2:=mem_of_getElem? hl;exact(nodup_append.mp nd).2.2 a hm a h2 rfl
def zkG(x:Ext ι H ι' H')(nd:ι'.Nodup)(hl:ι'[l]?=Φ a)(h:ι.length<=l):Ext ι H (ι++[a]) H':=by refine⟨ϖ _ _,x.kp,λb o hb e=>⟨(x.rest b o hb e).1,λz=>?_⟩⟩;rcases mem_append.mp z with z|z;exact hb z;simp at z;subst z;exact(x.rest b o hb e).2 (mem_of_getElem? hl)
def RH.one{l:Nat}{a:Addr}{o:MO}(hh:RH K ι H' S)(nd:a∉ι)(ho:RO K (ι++[a]) H' a o):RH K (ι++[a]) H' (S.push o):=by
 refine⟨by rw[length_append,hh.len,zca];rfl,?_,λl o' e=>?_,hh.tab⟩;rw[nodup_append];refine⟨hh.nd,by simp,λb hb c hc=>?_⟩;simp at hc;subst hc;exact λz=>nd (z▸hb);by_cases hl:l<S.len;rw[zcr hl]at e;obtain⟨b,h1,h2⟩:=hh.obj l o' e;exact⟨b,zbV (ϖ _ _) h1,h2.up (ϖ _ _) (Kp.refl _) rfl⟩;have hl2:=get_lt e;rw[zca]at hl2;have:l=S.len:=by lia
 subst this;rw[zfe]at e;cases e;exact⟨a,by rw[<-hh.len];simp,ho⟩
def RH.keep(a:RH K ι' H' T)(c:T.frz=S.frz++S.new):RH K ι' H' ⟨S.frz,S.new++T.new,S.lk⟩:=by
 have g:∀l,(R.St.mk S.frz (S.new++T.new) S.lk).get l=T.get l:=λl=>by unfold St.get;rw[c];simp only[length_append];by_cases b:l<S.frz.length;rw[if_pos b,if_pos (by omega),getElem?_append_left b];by_cases f:l<S.frz.length+S.new.length;rw[if_neg b,if_pos f,getElem?_append_left (by omega),getElem?_append_right (by omega)];rw[if_neg b,if_neg f,getElem?_append_right (by omega)];congr 1;omega
 refine⟨?_,a.nd,λl o e=>a.obj l o (by rw[<-g];exact e),a.tab⟩;rw[a.len];unfold St.len;rw[c];simp only[length_append];omega
def zhF(hh:RH K ι H S)(x:Ext ι H ι' H')(r:RV K ι' H' d v)(hT:RH K ι' H' T)(hf:T.frz=S.frz++S.new)(w:W (zc0 S d T) Q):Lf K ι H Q v H':=by
 have hc:=hh.cut x hT hf;unfold zc0 at w;split at w;rename_i c;rw[<-hh.len]at c;exact⟨d,ι,S,x.cut,r.restrict x.pre c,hc,w⟩;rename_i c;dsimp only at w;split at w;rename_i l;obtain⟨a,h1,rfl⟩:=id r;have hl:ι.length<=l:=by simp only[R.flat,decide_eq_true_eq]at c;rw[hh.len];lia
 have ha:=zom x.pre hT.nd h1 hl;split at w;rename_i ds e;obtain⟨b,h2,h3⟩:=hT.obj l _ e;rw[h1]at h2;cases h2;split at w;rename_i c2;rw[<-hh.len]at c2;obtain⟨ys,e2,r2⟩:=h3;refine⟨.ref S.len,ι++[a],S.push (.lst ds),zkG x hT.nd h1 hl,⟨a,by rw[<-hh.len];simp,rfl⟩,hc.one (l:=l) ha ⟨ys,e2,(r2.restrict x.pre c2).up (ϖ _ _) (Kp.refl _)⟩,w⟩;exact⟨_,ι',_,x,r,hT.keep hf,w⟩;rename_i kvs e;obtain⟨b,h2,h3⟩:=hT.obj l _ e;rw[h1]at h2;cases h2;split at w;rename_i c2;rw[<-hh.len]at c2;obtain⟨nd,ys,e2,r2⟩:=h3;refine⟨.ref S.len,ι++[a],S.push (.dic kvs),zkG x hT.nd h1 hl,⟨a,by rw[<-hh.len];simp,rfl⟩,hc.one (l:=l) ha ⟨nd,ys,e2,(r2.restrict x.pre c2).up (ϖ _ _) (Kp.refl _)⟩,w⟩;exact⟨_,ι',_,x,r,hT.keep hf,w⟩;exact⟨_,ι',_,x,r,hT.keep hf,w⟩;exact⟨_,ι',_,x,r,hT.keep hf,w⟩
end
section
variable{T:Tab}{cf:CF}{k:Nat}{N:List Str}{sc:Scope}{X:Cx}{pos p:Pos}
def RVs.nons{K}:∀j:Nat,RVs K ι H (List.replicate j .non) (List.replicate j .non)
 |0=>rfl|j+1=>⟨.non,List.replicate j .non,rfl,rfl,RVs.nons j⟩
def RH.enter{K}(h:RH K ι H S):RH K ι H S.enter:=⟨by rw[enter_len];exact h.len,h.nd,λl o e=>h.obj l o (by rw[za4]at e;exact e),h.tab⟩
def zkT(hfr:CFok cf)(h:tE X.K cf (.call f j ces) σ H Qv):
  zeJ (spF X.K cf f) (List.replicate j .non) E0 (tAs X.K cf ces) σ H Qv:=by
 obtain⟨δ,ι,S,Q,hs,hh,w,q⟩:=h;change W (Out.bind _ _) _ at w;simp only[zab] at w;refine tAs.run hs hh w λds vs ι1 H1 S1 x1 hs1 hh1 r1 w1=>?_;unfold app at w1;rw[zab]at w1;refine⟨ι1,S1.enter,ds++List.replicate j .non,r1.append (RVs.nons j),hh1.enter,?_⟩;obtain⟨d,T',e,w2⟩:=zgm w1;rw[e];exact λv H' ι' x r hT=>q v H' (Lf.up x1 (zhF hh1 x r hT (hfr _ _ _ _ _ e).frz w2))
def zkZ{K}(hh:RH K ι1 H1 S1)(x:Ext ι H ι1 H1)(hn:H1 a=Ψ):H a=Ψ:=by
 cases e:H a with
 |none=>rfl| some o=>
  by_cases hm:a∈ι;have h2:a∈ι1:=by obtain⟨t,rfl⟩:=x.pre;exact mem_append_left _ hm
  exact absurd h2 (hh.fresh hn)
  . have:=(x.rest a o hm e).1;rw[hn]at this;rcases this with z|⟨_,_,z⟩<;>exact nS z
def znW(G:Gd T cf k N sc X)(hf:T.fns[f]?=Φ (x,ps,nd))(hj:j<=nd)(hg:isGl sc x=Γ)(hd:(x==("__debug__":Str))=Δ)(ha:PA X (e::es) (tAs X.K cf ces))(hst:(e::es).all zan=Γ):
  PE X (.Call (.Name x p) (e::es) [] pos) (tE X.K cf (.call f j ces)):=by
 have Hs:=G.tab.fns f x ps nd hf j hj;rw[all_cons,Ξ]at hst;exact PE.imp (zqS Hs G.room ha (G.gl hg) hd (zal hst.1 es X.env) (zaR hst.2)) λσ H Qv h=>zkT G.tab.frm h
def zlm(G:Gd T cf k N sc X)(hf:T.fns[f]?=Φ (x,ps,nd))(hj:j<=nd)(hg:isGl sc x=Γ)(hd:(x==("__debug__":Str))=Δ):
  PE X (.Call (.Name x p) [] [] pos) (tE X.K cf (.call f j .nil)):=by
 have Hs:=G.tab.fns f x ps nd hf j hj;refine PE.imp (zqR Hs G.room (G.gl hg) hd) λσ H Qv z=>?_;obtain⟨δ,ι,S,Q,hs,hh,w,q⟩:=z;change W (Out.bind _ _) _ at w;simp only[evEs,zaw] at w;unfold app at w;rw[zab]at w;obtain⟨d,T',e,w2⟩:=zgm w;refine⟨ι,S.enter,[]++List.replicate j .non,RVs.append rfl (RVs.nons j),hh.enter,?_⟩;rw[e];exact λv H' ι' x r hT=>q v H' (zhF hh x r hT (G.tab.frm _ _ _ _ _ e).frz w2)
def ziR(h:tE X.K cf (.callW f j ces) σ H Qv):
  zeJ (spF X.K cf f) (List.replicate j .non) E0 (tAs X.K cf ces) σ H Qv:=by
 obtain⟨δ,ι,S,Q,hs,hh,w,q⟩:=h;change W (Out.bind _ _) _ at w;simp only[zab] at w;refine tAs.run hs hh w λds vs ι1 H1 S1 x1 hs1 hh1 r1 w1=>?_;unfold appW at w1;refine⟨ι1,S1,ds++List.replicate j .non,r1.append (RVs.nons j),hh1,?_⟩;obtain⟨d,T',e,w2⟩:=zgm w1;rw[e];exact λv H' ι' x r hT=>q v H' (Lf.up x1 ⟨d,ι',T',x,r,hT,w2⟩)
def zlk(G:Gd T cf k N sc X)(hf:T.fns[f]?=Φ (x,ps,nd))(hj:j<=nd)(hg:isGl sc x=Γ)(hd:(x==("__debug__":Str))=Δ)(ha:PA X (e::es) (tAs X.K cf ces))(hst:(e::es).all zan=Γ):
  PE X (.Call (.Name x p) (e::es) [] pos) (tE X.K cf (.callW f j ces)):=by
 have Hs:=G.tab.fns f x ps nd hf j hj;rw[all_cons,Ξ]at hst;exact PE.imp (zqS Hs G.room ha (G.gl hg) hd (zal hst.1 es X.env) (zaR hst.2)) λσ H Qv h=>ziR h
def zsh{n:Nat}(ha:PE X a (tE X.K cf ca))(he:PE X e (tE X.K cf (.con (.int n)))):PE X (.Subscript a (.Slice Ψ (Φ e) Ψ p2) pos) (tE X.K cf (.sl ca n)):=by refine PE.imp (zhu zmK ha zoo (zgA he)) λσ H Qv z=>?_;obtain⟨δ,ι,S,Q,hs,hh,w,q⟩:=z;change W (Out.bind _ _) _ at w;simp only[zab] at w;refine tE.run hs hh w λd v ι1 H1 S1 x1 hs1 hh1 r1 w1=>?_;split at w1;split at w1;rename_i ds c;refine tE.run hs1 hh1 (show W (evE cf (.con (.int n)) δ S1) λd T=>d=.int n/\T=S1 by exact⟨rfl,rfl⟩) λd v ι2 H2 S2 x2 hs2 hh2 r2 w2=>?_;obtain⟨rfl,rfl⟩:=w2;obtain rfl:v=.int n:=r2;obtain⟨a,xs,rfl,ha,rr⟩:=r1.ext x2;have hl:=rr.length;refine⟨n,rfl,a,xs,rfl,SqT.of ha,?_,λp hp=>q _ _ (Lf.up (x1.trans x2) (Lf.tup hh2 hp ?_ w1))⟩;rw[HT.sIx_nat];lia;unfold cutV;rw[HT.sIx_nat,HT.sIx_none,List.drop_zero,show min n xs.length-0=n by lia];exact rr.take _;exact w1.elim;exact w1.elim
end
abbrev rB(K:Frag)(f:R.St->List D->Out D):List V->Hp->VK->Prop:=λxs H Qv=>∃ι S ds Qd,RVs K ι H ds xs/\RH K ι H S/\W (f S ds) Qd/\∀v H',Lf K ι H Qd v H'->Qv v H'
section
variable{T:Tab}{cf:CF}{k:Nat}{N:List Str}{sc:Scope}{X:Cx}{pos p:Pos}
def RVs.one{K}(r:RVs K ι H [d] xs):∃v,xs=[v]/\RV K ι H d v:=by obtain⟨v,w,rfl,a,b⟩:=r;cases(show w=[] from b);exact⟨v,rfl,a⟩
def RVs.two{K}(r:RVs K ι H [d,e] xs):∃v u,xs=[v,u]/\RV K ι H d v/\RV K ι H e u:=by obtain⟨v,w,rfl,a,b⟩:=r;obtain⟨u,rfl,c⟩:=RVs.one b;exact⟨v,u,rfl,a,c⟩
def zrg:zbC X (.builtin "len") (rB X.K λS ds=>R.bi S .len ds):=by
 intro pins s σ H xs us Qv I rv z;obtain⟨ι,S,ds,Qd,r,hh,w,q⟩:=z;dsimp only at w;unfold bi at w;split at w
 case h_1 x=>
  obtain⟨v,rfl,rr⟩:=r.one;split at w;obtain⟨a,xs,rfl,ha,r2⟩:=rr;refine zb0 pins s σ H _ us Qv I rv ⟨a,xs,rfl,.inr (SqT.of ha),?_⟩;rw[r2.length];exact q _ _ (Lf.of (d:=.int _) hh rfl w);obtain⟨a,xs,rfl,ha,r2⟩:=rr;refine zb0 pins s σ H _ us Qv I rv ⟨a,xs,rfl,.inl ha.sq,?_⟩;rw[r2.length];exact q _ _ (Lf.of (d:=.int _) hh rfl w);rename_i l;obtain⟨a,h1,rfl⟩:=rr;cases e:S.get l with|none=>rw[e]at w;exact w.elim| some o=>rw[e]at w;obtain⟨b,h2,h3⟩:=hh.obj _ _ e;rw[h1]at h2;cases h2;cases o with| lst ds=>obtain⟨xs,ha,r2⟩:=h3;refine zb0 pins s σ H _ us Qv I rv ⟨a,xs,rfl,.inl (SqL.of ha),?_⟩;rw[r2.length];exact q _ _ (Lf.of (d:=.int _) hh rfl w)|_=>exact w.elim
  exact w.elim
 all_goals first|exact w.elim|(rename_i h;cases h)
def zrX:zbC X (.builtin "abs") (rB X.K λS ds=>R.bi S .abs ds):=by
 intro pins s σ H xs us Qv I rv z;obtain⟨ι,S,ds,Qd,r,hh,w,q⟩:=z;dsimp only at w;unfold bi at w;split at w
 case h_2 i _=>obtain⟨v,rfl,rr⟩:=r.one;obtain rfl:v=.int i:=rr;exact zmq pins s σ H _ us Qv I rv ⟨i,rfl,q _ _ (Lf.of (d:=.int _) hh rfl w)⟩
 all_goals first|exact w.elim|(rename_i h;cases h)
def zra(hc:X.calm=Γ):zbC X (.builtin "max") (rB X.K λS ds=>R.bi S .max2 ds):=by
 intro pins s σ H xs us Qv I rv z;obtain⟨ι,S,ds,Qd,r,hh,w,q⟩:=z;dsimp only at w;unfold bi at w;split at w
 case h_3 i j _=>obtain⟨v,u,rfl,r1,r2⟩:=r.two;obtain rfl:v=.int i:=r1;obtain rfl:u=.int j:=r2;exact zkS hc pins s σ H _ us Qv I rv ⟨i,j,rfl,q _ _ (Lf.of (d:=.int _) hh rfl w)⟩
 all_goals first|exact w.elim|(rename_i h;cases h)
def zq8(hc:X.calm=Γ):zbC X (.builtin "min") (rB X.K λS ds=>R.bi S .min2 ds):=by
 intro pins s σ H xs us Qv I rv z;obtain⟨ι,S,ds,Qd,r,hh,w,q⟩:=z;dsimp only at w;unfold bi at w;split at w
 case h_4 i j _=>obtain⟨v,u,rfl,r1,r2⟩:=r.two;obtain rfl:v=.int i:=r1;obtain rfl:u=.int j:=r2;exact zkR hc pins s σ H _ us Qv I rv ⟨i,j,rfl,q _ _ (Lf.of (d:=.int _) hh rfl w)⟩
 all_goals first|exact w.elim|(rename_i h;cases h)
def zbm(G:Gd T cf k N sc X)(h:bltB T sc x=Γ):Gl X x/\X.mg x=Ψ:=by unfold bltB at h;rw[Ξ]at h;exact⟨G.gl h.1,G.tab.blt x h.2⟩
def zsl{id}(hc:zbC X (.builtin id) (rB X.K λS ds=>R.bi S b ds))(hg:Gl X x/\X.mg x=Ψ)(hv:bootBuiltins x=Φ (.builtin id))(ha:PA X (e::es) (tAs X.K cf ces))(hst:(e::es).all zan=Γ)(hn:x≠"__name__")(hdb:(x==("__debug__":Str))=Δ):
  PE X (.Call (.Name x p) (e::es) [] pos) (tE X.K cf (.bi b ces)):=by
 rw[all_cons,Ξ]at hst;refine PE.imp (zcG hc hg.1 hg.2 hv ha hn hdb (zal hst.1 es X.env) (zaR hst.2)) λσ H Qv z=>?_;obtain⟨δ,ι,S,Q,hs,hh,w,q⟩:=z;change W (Out.bind _ _) _ at w;simp only[zab] at w;refine tAs.run hs hh w λds vs ι1 H1 S1 x1 hs1 hh1 r1 w1=>?_;exact⟨ι1,S1,ds,Q,r1,hh1,w1,λv H' l=>q v H' (Lf.up x1 l)⟩
def znp(hh:RH X.K ι H S)(r:RV X.K ι H d v)(h:tyOf S d=Φ a):zc8 H v=Φ a:=by
 cases d with
 |non=>obtain rfl:v=.non:=r;exact h|bl b=>obtain rfl:v=.bl b:=r;exact h|int b=>obtain rfl:v=.int b:=r;exact h|str b=>obtain rfl:v=.str b:=r;exact h| tup ds=>obtain⟨p,xs,rfl,ha,_⟩:=r;simp only[tyOf]at h;simp only[zc8,ha];exact h| ref l=>
  obtain⟨p,h1,rfl⟩:=r;simp only[tyOf]at h;simp only[zc8];cases e:S.get l with
  |none=>rw[e]at h;exact nS h
  |some o=>rw[e]at h;obtain⟨b,h2,h3⟩:=hh.obj _ _ e;rw[h1]at h2;cases h2;cases o with|lst ds=>obtain⟨xs,ha,_⟩:=h3;rw[ha];exact h|dic kvs=>obtain⟨_,ws,ha,_⟩:=h3;rw[ha];exact h|ins _ _=>exact nS h
 |fix ds=>exact nS h
def znQ(G:Gd T cf k N sc X)(hg:Gl X "isinstance"/\X.mg "isinstance"=Ψ)(hy:Gl X y/\X.mg y=Ψ)(hb:bootBuiltins y=Φ (.type t))(ht:t∈["bool","int","str","list","tuple","dict"])(hyn:y≠"__name__")(hyd:(y==("__debug__":Str))=Δ)(he:PE X e (tE X.K cf ce))(hst:zan e=Γ):PE X (.Call (.Name "isinstance" p) [e,.Name y p2] [] pos) (tE X.K cf (.bi (.isin t) (.cons ce .nil))):=by
 refine PE.imp (zcG zd3 hg.1 hg.2 zcQ (zbo he (zbo (zjP (v:=.ty t) hy.1 hy.2 hb rfl hyn hyd) zdO) (zal hst _ X.env)) (by decide) (by decide) (zal hst _ X.env)) λσ H Qv z=>?_;obtain⟨δ,ι,S,Q,hs,hh,w,q⟩:=z;change W (Out.bind _ _) _ at w;simp only[evEs,zab,W_ok] at w;refine tE.run hs hh w λd v ι1 H1 S1 x1 hs1 hh1 r1 w1=>?_;simp only[bi]at w1;cases e:tyOf S1 d with|none=>rw[e]at w1;exact w1.elim| some a=>rw[e]at w1;exact⟨v,t,a,rfl,znp hh1 r1 e,ht,q _ _ (Lf.up x1 (Lf.of (d:=.bl _) hh1 rfl w1))⟩
def zkm(hh:RH X.K ι H S)(r:RV X.K ι H d v)(h:isL S d=Γ):tyV X.K "list" v H:=by
 cases d with
 |ref l=>
  obtain⟨p,h1,rfl⟩:=r;simp only[isL]at h;cases e:S.get l with
  |none=>rw[e]at h;exact nB h
  |some o=>rw[e]at h;obtain⟨b,h2,h3⟩:=hh.obj _ _ e;rw[h1]at h2;cases h2;cases o with|lst ds=>obtain⟨xs,ha,_⟩:=h3;exact .inl ⟨rfl,xs,SqL.of ha⟩|_=>exact nB h
 |_=>exact nB h
abbrev rM(K:Frag)(m:Mt):V->List V->Hp->VK->Prop:=λx xs H Qv=>∃ι S d ds Qd,RV K ι H d x/\RVs K ι H ds xs/\RH K ι H S/\W (R.mt S m d ds) Qd/\∀v H',Lf K ι H Qd v H'->Qv v H'
def zk1:MtR X "list.append" (rM X.K .append):=by
 intro pins s σ H x xs v us Qv I rx rv z;obtain⟨ι,S,d,ds,Qd,r,rs,hh,w,q⟩:=z;unfold R.mt at w;split at w
 case h_1 l y _=>obtain⟨a,h1,rfl⟩:=r;obtain⟨u,rfl,ru⟩:=rs.one;cases e:S.get l with|none=>rw[e]at w;exact w.elim| some o=>rw[e]at w;obtain⟨b,h2,h3⟩:=hh.obj _ _ e;rw[h1]at h2;cases h2;cases o with| lst ds=>obtain⟨zs,ha,r2⟩:=h3;obtain⟨c,S',hp,w2⟩:=zk6 w;refine zfH pins s σ H _ _ v us Qv I rx rv ⟨a,zs,u,rfl,rfl,ha,?_,?_⟩;rw[r2.length];rw[length_append,List.length_singleton]at c;lia;exact q _ _ (Lf.wr (d:=.non) hh e h1 hp (r2.append ⟨u,[],rfl,ru,rfl⟩) rfl w2)|_=>exact w.elim
 all_goals first|exact w.elim|(rename_i h;cases h)
def zlD:MtR X "list.pop" (rM X.K .popAt):=by
 intro pins s σ H x xs v us Qv I rx rv z;obtain⟨ι,S,d,ds,Qd,r,rs,hh,w,q⟩:=z;unfold R.mt at w;split at w
 case h_2 l i _=>
  obtain⟨a,h1,rfl⟩:=r;obtain⟨u,rfl,ru⟩:=rs.one;obtain rfl:u=.int i:=ru;cases e:S.get l with
  |none=>rw[e]at w;exact w.elim| some o=>
   rw[e]at w;obtain⟨b,h2,h3⟩:=hh.obj _ _ e;rw[h1]at h2;cases h2;cases o with
   |lst ds=>
    obtain⟨zs,ha,r2⟩:=h3;dsimp only at w;split at w;rename_i c0;cases ey:ds[i.toNat]? with|none=>rw[ey]at w;exact w.elim| some y=>rw[ey]at w;obtain⟨c,S',hp,w2⟩:=zk6 w;obtain⟨u,eu,ru⟩:=r2.get ey;have hlt:i.toNat<zs.length:=(Ω.mp eu).1;have hz:zs.length<=sizeLine:=(I.lstM ha).1;rw[Τ]at hz;refine zlU pins s σ H _ _ v us Qv I rx rv ⟨a,zs,i,i.toNat,u,rfl,rfl,ha,by lia,by lia,?_,eu,?_⟩;exact PySem.StrLaws.seqIndex_nonneg c0 (by lia);exact q _ _ (Lf.wr (d:=y) hh e h1 hp (r2.erase _) ru w2)
    exact w.elim
   |_=>exact w.elim
 all_goals first|exact w.elim|(rename_i h;cases h)
def zdv:∀{ds:List D}{os:List (Option Int)},za5 ds=Φ os->ds=os.map λo=>match o with|some i=>D.int i|none=>D.non:=by intro ds;unfold za5;induction ds with|nil=>intro os h;simp at h;subst h;rfl| cons d ds ih=>intro os h;obtain⟨y,r,h1,h2,rfl⟩:=zaJ h;rw[ih h2];cases d<;>simp[zg6]at h1<;>subst h1<;>rfl
abbrev wV:Option Int->V
 |some i=>.int i|none=>.non
def zdn{K}:∀{os:List (Option Int)}{vs:List V},RVs K ι H (os.map λo=>match o with|some i=>D.int i|none=>D.non) vs->vs=os.map wV
 | [],_,h=>h| o::os,vs,h=>by obtain⟨v,r,rfl,h1,h2⟩:=h;rw[zdn h2];cases o<;>rw[show v=_ from h1]<;>rfl
abbrev isI(i:Int):Θ->Bool
 |.int j _=>j==i|_=>Δ
def zc2(i):∀{os:List (Option Int)}{us:List Θ},Vals (os.map wV) us->(∀y∈us,y=Θ.none\/∃a u,y=Θ.int a u)/\us.countP (isI i)=os.count (Φ i)
 | [],us,r=>by cases r;exact⟨λy hy=>by simp at hy,rfl⟩| o::os,us,r=>by
  cases r with
  | @cons _ u _ us r1 r2=>
   obtain⟨h1,h2⟩:=zc2 i r2;cases o with
   |none=>obtain rfl:u=Θ.none:=r1;refine⟨λy hy=>?_,?_⟩;rcases mem_cons.mp hy with rfl|hy;exact .inl rfl;exact h1 y hy;rw[List.countP_cons,List.count_cons,h2];simp[isI]
   |some j=>obtain⟨t,rfl⟩:∃t,u=Θ.int j t:=r1;refine⟨λy hy=>?_,?_⟩;rcases mem_cons.mp hy with rfl|hy;exact .inr ⟨_,_,rfl⟩;exact h1 y hy;rw[List.countP_cons,List.count_cons,h2];simp[isI]
abbrev isN:Θ->Bool
 |.none=>Γ|_=>Δ
def zd1:∀{os:List (Option Int)}{us:List Θ},Vals (os.map wV) us->us.countP isN=os.count Ψ
 | [],us,r=>by cases r;rfl| o::os,us,r=>by cases r with| @cons _ u _ us r1 r2=>have h2:=zd1 r2;cases o with| none=>obtain rfl:u=Θ.none:=r1;rw[List.countP_cons,List.count_cons,h2];simp[isN]| some j=>obtain⟨t,rfl⟩:∃t,u=Θ.int j t:=r1;rw[List.countP_cons,List.count_cons,h2];simp[isN]
def zmo:MtR X "list.count" (rM X.K .count):=by
 intro pins s σ H x xs v us Qv I rx rv z;obtain⟨ι,S,d,ds,Qd,r,rs,hh,w,q⟩:=z;unfold R.mt at w;split at w
 case h_3 l i _=>
  obtain⟨a,h1,rfl⟩:=r;obtain⟨u,rfl,ru⟩:=rs.one;obtain rfl:u=.int i:=ru;cases e:S.get l with
  |none=>rw[e]at w;exact w.elim| some o=>
   rw[e]at w;obtain⟨b,h2,h3⟩:=hh.obj _ _ e;rw[h1]at h2;cases h2;cases o with
   |lst ds=>obtain⟨zs,ha,r2⟩:=h3;dsimp only at w;cases e2:za5 ds with|none=>rw[e2]at w;exact w.elim| some os=>rw[e2]at w;rw[zdv e2]at r2;cases zdn r2;obtain⟨its,rz,pl,_⟩:=I.list (SqL.of ha);obtain⟨u1,rfl,ru1⟩:=Vals.one rv;obtain⟨t,rfl⟩:=ru1;cases rx;obtain⟨c1,c2⟩:=zc2 i rz;have hl:=pl.isList;obtain⟨⟨cls,dd,data,sl⟩,ho,hc,n,hd⟩:=id hl;simp only at hc hd;subst hc hd;refine call_meets PySem.F.slot_list_count ⟨_,ho,rfl⟩ PySem.F.entry_list_count (PySem.F.args_list_count_2 _ _) (PySem.SeqAt.list_countAt a its.toArray n dd sl (.int i t) (isI i)) ⟨ho,λy hy=>?_,?_⟩;rcases c1 y (by simpa using hy) with rfl|⟨j,u,rfl⟩;exact PySem.SeqAt.EqAt.none_int i t;exact PySem.SeqAt.EqAt.int_int j u i t;rw[show its.toArray.toList=its from rfl,c2];exact⟨.int _,H,I.tok _,⟨_,rfl⟩,q _ _ (Lf.of (d:=.int _) hh rfl w)⟩
   |_=>exact w.elim
 case h_4 l _=>
  obtain⟨a,h1,rfl⟩:=r;obtain⟨u,rfl,ru⟩:=rs.one;obtain rfl:u=.non:=ru;cases e:S.get l with
  |none=>rw[e]at w;exact w.elim| some o=>
   rw[e]at w;obtain⟨b,h2,h3⟩:=hh.obj _ _ e;rw[h1]at h2;cases h2;cases o with
   |lst ds=>obtain⟨zs,ha,r2⟩:=h3;dsimp only at w;cases e2:za5 ds with|none=>rw[e2]at w;exact w.elim| some os=>rw[e2]at w;rw[zdv e2]at r2;cases zdn r2;obtain⟨its,rz,pl,_⟩:=I.list (SqL.of ha);obtain⟨u1,rfl,ru1⟩:=Vals.one rv;obtain rfl:=ru1;cases rx;obtain⟨c1,c2⟩:=zc2 0 rz;have hl:=pl.isList;obtain⟨⟨cls,dd,data,sl⟩,ho,hc,n,hd⟩:=id hl;simp only at hc hd;subst hc hd;refine call_meets PySem.F.slot_list_count ⟨_,ho,rfl⟩ PySem.F.entry_list_count (PySem.F.args_list_count_2 _ _) (PySem.SeqAt.list_countAt a its.toArray n dd sl .none isN) ⟨ho,λy hy=>?_,?_⟩;rcases c1 y (by simpa using hy) with rfl|⟨j,u,rfl⟩;exact PySem.SeqAt.EqAt.same _;exact PySem.SeqAt.EqAt.int_none j u;rw[show its.toArray.toList=its from rfl,zd1 rz];exact⟨.int _,H,I.tok _,⟨_,rfl⟩,q _ _ (Lf.of (d:=.int _) hh rfl w)⟩
   |_=>exact w.elim
 all_goals first|exact w.elim|(rename_i h;cases h)
def znN{id}(slot:Slot "list" name id)(hty:typeOf (.builtin id)=pure (.type "method_descriptor"))(hm:MtR X id (rM X.K m))(ho:PE X o (tE X.K cf co))(he:PE X e (tE X.K cf ce))(hst:zan e=Γ)(hsup:za3 o=Γ)(hl:(apos.endLine==cpos.line)=Γ):
  PE X (.Call (.Attribute o name apos) [e] [] cpos) (tE X.K cf (.mt m co (.cons ce .nil))):=by
 refine PE.imp (zqV PySem.F.plainAttrs_list slot hty hm ho (zjk he zmQ hst) (zcw hsup name X.env _) (by rw[zal hst];rfl) hl (zal hst [] X.env)) λσ H Qv k=>?_;obtain⟨δ,ι,S,Q,hs,hh,w,q⟩:=k;change W (Out.bind _ _) _ at w;simp only[zab] at w;refine tE.run hs hh w λd v ι1 H1 S1 x1 hs1 hh1 r1 w1=>?_;split at w1;rename_i c;refine⟨zkm hh1 r1 c,?_⟩;rw[zab]at w1;refine tAs.run hs1 hh1 w1 λds vs ι2 H2 S2 x2 hs2 hh2 r2 w2=>?_;exact⟨ι2,S2,d,ds,Q,r1.ext x2,r2,hh2,w2,λz H3 l=>q z H3 (Lf.up (x1.trans x2) l)⟩;exact w1.elim
def SqK.seq{K}(h:SqK K ι H S a xs ds b):SqL K H a xs\/SqT K H a xs:=by cases h with|tmp h e=>exact .inl (SqL.of e)|tup e=>exact .inr (SqT.of e)|fix e=>exact .inl e.sq|own l c d f e=>exact .inl (SqL.of e)
def zp4(he:PE X e (tE X.K cf ce)):PE X e (tL X.K cf (.val ce)):=by
 refine PE.imp he λσ H Qv z=>?_;obtain⟨δ,ι,S,Q,hs,hh,w,q⟩:=z;change W (Out.bind _ _) _ at w;simp only[zab] at w;refine tE.run hs hh w λd v ι1 H1 S1 x1 hs1 hh1 r1 w1=>?_;obtain⟨ds,eq,w2⟩:=zax w1;refine q v H1 ⟨ds,lkOf S1 d,ι1,S1,x1,?_,hh1,w2⟩;cases d with
 |tup es=>cases eq;obtain⟨a,xs,rfl,ha,rr⟩:=r1;exact⟨a,xs,rfl,rr,.tup ha⟩| fix es=>cases eq;obtain⟨a,xs,rfl,ha,rr⟩:=r1;exact⟨a,xs,rfl,rr,.fix ha⟩| ref l=>simp only[zbQ]at eq;split at eq;rename_i ds' e;cases eq;obtain⟨a,h1,rfl⟩:=r1;obtain⟨a2,h2,xs,ha,rr⟩:=hh1.obj _ _ e;rw[h1]at h2;cases h2;exact⟨a,xs,rfl,rr,.own l (by simp[lkOf]) h1 e ha⟩;exact nS eq
 |_=>exact nS eq
def zbq(he:PE X e te)(hst:zan e=Γ):PA X [e] (zeI te tNil):=zbo he zdO (zal hst [] X.env)
def zqa(G:Gd T cf k N sc X)(hg:Gl X "list"/\X.mg "list"=Ψ)(he:PE X e (tL X.K cf cl))(hst:zan e=Γ):PE X (.Call (.Name "list" p) [e] [] pos) (tE X.K cf (.mkL cl)):=by refine PE.imp (zcF zgb hg.1 hg.2 zg1 (zbq he hst) (by decide) (by decide) (zal hst [] X.env)) λσ H Qv z=>?_;obtain⟨δ,ι,S,Q,hs,hh,w,q⟩:=z;change W (Out.bind _ _) _ at w;simp only[zab] at w;refine tL.run hs hh w λds lks v ι1 H1 S1 x1 hs1 hh1 sq w1=>?_;obtain⟨c,w2⟩:=zen w1;obtain⟨a,xs,rfl,rr,kd⟩:=sq;exact⟨a,xs,rfl,kd.seq,λl hl=>q _ _ (Lf.up x1 (Lf.lst hh1 hl rr w2))⟩
def zjU(h:tE X.K cf (.mkL cl) σ H Qv):tLt X.K cf cl σ H Qv:=by obtain⟨δ,ι,S,Q,hs,hh,w,q⟩:=h;change W (Out.bind _ _) _ at w;simp only[zab] at w;refine tLt.run hs hh w λds p xs ι1 H1 S1 x1 hs1 hh1 r1 hp e hn w1=>?_;obtain⟨c,w2⟩:=zen w1;refine q _ _ ⟨.ref S1.len,ι1++[p],S1.push (.lst ds),?_,⟨p,hh1.last p,rfl⟩,hh1.one (l:=0) hp ⟨xs,e,r1.up (ϖ _ _) (Kp.refl _)⟩,w2⟩;refine⟨x1.pre.trans (ϖ _ _),x1.kp,λb o hb eb=>⟨(x1.rest b o hb eb).1,λz=>?_⟩⟩;rcases mem_append.mp z with z|z;exact(x1.rest b o hb eb).2 z;simp at z;subst z;rw[hn]at eb;exact nS eb
def zmt:bootBuiltins "range"=Φ (.type "range"):=by decide +kernel
def zjz:zbC X (.type "range") (λxs H Q=>∃j,xs=[.int j]/\∀p,H p=Ψ->Q (.ref p) (upd H p (.rng 0 j))):=by intro pins s σ H xs us Q I r h;obtain⟨j,rfl,q⟩:=h;obtain⟨u,rfl,ru⟩:=r.one;obtain⟨t,rfl⟩:=ru;refine call_range_1 ⟨.ref s.heap.objs.size,_,I.laid (o:=.rng 0 j) (λb ob e=>Λ _ e) (le_refl _) ?_,rfl,q _ (I.hok.fresh (le_refl _))⟩;exact⟨_,_,_,Κ _ rfl⟩
def zlY(hc:X.calm=Γ):zbC X (.type "list") (λxs H Q=>∃p hi,xs=[.ref p]/\H p=Φ (.rng 0 hi)/\-(2^62)<=hi/\hi<2^62/\hi.toNat<=16777216/\∀l,H l=Ψ->Q (.ref l) (upd H l (.lst ((List.range hi.toNat).map λ(j:Nat)=>.int j)))):=by
 intro pins s σ H xs us Q I r h;obtain⟨p,hi,rfl,hp,h1,h2,h3,q⟩:=h;obtain⟨u,rfl,ru⟩:=r.one;cases(show u=Θ.ref p from ru);obtain⟨t,t2,t3,e⟩:=(show ObjOk X.prog X.w H s.heap p (.rng 0 hi) from I.hok p _ hp);have hn:Builtin.Range.rangeSize 0 hi 1=(hi.toNat:Nat):=by rw[rangeSize_one];split<;>lia
 refine call_list_range (I.ok.hd hc) e (small_one (by decide) (by decide) h1 h2) hn h3 λh' tk acc c kp hg it=>?_;refine⟨.ref s.heap.objs.size,_,I.laid (o:=.lst _) kp (le_refl _) ⟨?_,acc.toList,c,?_,?_⟩,rfl,q _ (I.hok.fresh (le_refl _))⟩;rw[length_map,ϡ,Τ];exact h3;have key:∀(n:Nat)(us:List Θ),us.length=n->(∀(j:Nat)(v:Θ),us[j]?=Φ v->∃t,v=Θ.int (0+(j:Int)*1) t)->Vals ((List.range n).map λ(j:Nat)=>V.int j) us:=by
  intro n;induction n with
  |zero=>intro us hl _;cases us with
   |nil=>exact .nil|cons _ _=>simp at hl
  |succ n ih=>
   intro us hl hv;have hne:us≠[]:=by intro z;subst z;simp at hl
   have hd:us=us.dropLast++[us.getLast hne]:=(List.dropLast_concat_getLast hne).symm;rw[List.range_succ,map_append,hd];have hdl:us.dropLast.length=n:=by simp[hl]
   refine Vals.append (ih _ hdl λj v e=>hv j v ?_) (.cons ?_ .nil);have hj:j<us.dropLast.length:=(Ω.mp e).1;rw[hd,getElem?_append_left hj];exact e;obtain⟨t,e⟩:=hv n (us.getLast hne) (by
    conv=>lhs;rw[hd]
    rw[getElem?_append_right (by lia)];simp[hdl])
   exact⟨t,by simpa using e⟩
 exact key _ _ (by simpa using it.1) λj v e=>it.2 j v (by simpa using e);simpa using hg
def znO(G:Gd T cf k N sc X)(hg:Gl X "list"/\X.mg "list"=Ψ)(hr:Gl X "range"/\X.mg "range"=Ψ)(ha:PE X a (tE X.K cf ca))(hst:zan a=Γ):
  PE X (.Call (.Name "list" p) [.Call (.Name "range" p2) [a] [] pos'] [] pos) (tE X.K cf (.mkL (.rng1 ca))):=by
 have hin:=zcF (p:=p2) (pos:=pos') zjz hr.1 hr.2 zmt (zbq ha hst) (by decide) (by decide) (zal hst [] X.env);refine PE.imp (zcF (zlY G.calm) hg.1 hg.2 zg1 (zbq hin rfl) (by decide) (by decide) rfl) λσ H Qv z=>?_;obtain⟨δ,ι,S,Q,hs,hh,w,q⟩:=z;change W (Out.bind (Out.bind _ _) _) _ at w;simp only[zab]at w;refine tE.run hs hh w λd v ι1 H1 S1 x1 hs1 hh1 r1 w1=>?_;cases d with| int j=>obtain rfl:v=.int j:=r1;dsimp only at w1;split at w1;rename_i c;obtain⟨c2,w2⟩:=zen w1;refine⟨j,rfl,λpr hpr=>⟨pr,j,rfl,zak,c.1,c.2,by simpa[Τ]using c2,λl hl=>?_⟩⟩;have hh2:=hh1.new hpr (.rng 0 j);refine q _ _ (Lf.up (x1.trans (Ext.new hpr _)) (Lf.lst hh2 hl ?_ w2));have:=RVs.ints (K:=X.K) (ι:=ι1) (H:=upd H1 pr (.rng 0 j)) ((List.range j.toNat).map λ(m:Nat)=>(m:Int));rw[map_map,map_map]at this;exact this;exact w1.elim|_=>exact w1.elim
def zpj{bs:List Bool}(h:ds.mapM zgh=Φ bs):ds=bs.map D.bl:=by
 induction ds generalizing bs with
 |nil=>
  have h:bs=[]:=by simpa using h.symm
  subst h;rfl
 |cons d ds ih=>obtain⟨y,r,h1,h2,rfl⟩:=zaJ h;cases d<;>simp[zgh]at h1;subst h1;rw[ih h2];rfl
def RVs.bls_eq{K}:∀{bs:List Bool}{vs:List V},RVs K ι H (bs.map D.bl) vs->vs=bs.map V.bl
 | [],_,h=>h| b::bs,vs,h=>by obtain⟨v,r,rfl,a,c⟩:=h;rw[RVs.bls_eq c,show v=.bl b from a];rfl
def zi8{bs:List Bool}(r:Vals (bs.map V.bl) us):us=bs.map Θ.bool:=by induction bs generalizing us with|nil=>cases r;rfl| cons b bs ih=>cases r with|cons r1 r2=>rw[ih r2,show _=Θ.bool b from r1];rfl
def zk3(bs:List Bool):(List.range bs.length).all (λi=>bs.getD i Δ)=bs.all id:=by
 rw[ϙ,all_eq_true,all_eq_true];constructor;intro h b hb;obtain⟨i,hi,e⟩:=List.getElem_of_mem hb;have:=h i (by simpa using hi);rw[Υ,getElem?_eq_getElem hi,e]at this;exact this;intro h i hi;have hi:i<bs.length:=by simpa using hi
 rw[Υ,getElem?_eq_getElem hi];exact h _ (List.getElem_mem hi)
def zpp(hc:X.calm=Γ):zbC X (.builtin "all") (λxs H Q=>∃(a:Addr) (bs:List Bool),xs=[.ref a]/\(SqL X.K H a (bs.map V.bl)\/SqT X.K H a (bs.map V.bl))/\Q (.bl (bs.all id)) H):=by
 intro pins s σ H xs us Q I r h;obtain⟨a,bs,rfl,hq,q⟩:=h;obtain⟨u,rfl,ru⟩:=r.one;cases(show u=Θ.ref a from ru);have hA:X.A.in1.in1.handled=Ψ:=I.ok.hd hc;have hA1:X.A.in1.handled=Ψ:=I.ok.hd hc;have tr:∀(items:Array Θ),items.toList=bs.map Θ.bool->TruthOf X.prog X.w X.A.in1 (λi v=>items[i]?=Φ v) (λi=>bs.getD i Δ):=by
  intro items e i v s' Q' E' hv hQ;have hv':items.toList[i]?=Φ v:=by rw[Array.getElem?_toList];exact hv
  rw[e,getElem?_map]at hv';cases z:bs[i]? with
  |none=>rw[z]at hv';exact nS hv'
  |some b=>rw[z]at hv';simp only[Option.map_some,Option.some.injEq]at hv';subst hv';dsimp only at hQ;rw[Υ,z]at hQ;exact ϒ hQ
 have fin:∀(h':Heap)(tk n:Nat)(s2:Β)(it:Addr),n=bs.length->s.heap.objs.size=it->Inv X pins σ H s2->s2.os=s.os->(∀b o,b∉[it]->s2.heap.get? b=Φ o->h'.get? b=Φ o)->
   EP X pins σ Q (.bool ((List.range n).all λi=>bs.getD i Δ)) {s2 with heap:=h',toks:=tk}:=by
  intro h' tk n s2 it hn hit I2 ho kp;subst hn;rw[zk3];have fp:=I.fpOk (b:=it) (H':=H) (by lia) (I.hok.fresh (by lia));obtain⟨f0,f1,f2,f3,f4,f5⟩:=fp;exact⟨.bl _,H,I2.turned (it:=it) (λb o hb e=>kp b o (by simpa using hb) e) f0 f1 f3 f4 f5,rfl,q⟩
 rcases hq with hq|hq;obtain⟨its,rv,pl,hz⟩:=I.list hq;have hits:=zi8 rv;have hlen:=rv.length;refine call_all_walk (wpAny_pyIter_list pl.isList ?_);have hne:a≠s.heap.objs.size:=by obtain⟨o,n,e,_⟩:=pl;exact ne_of_lt (Η e)
 refine⟨s.heap.objs.size,_,_,_,_,_,_,rfl,Walks.list hA1 _ a hne its.toArray,⟨⟨_,Κ _ rfl,rfl,rfl⟩,pl.isList.push _⟩,tr its.toArray (by simpa using hits),λh' tk kp=>?_⟩;exact fin h' tk _ _ _ (by simpa using hlen.symm) rfl (I.kept (t':=s.toks) λb o e=>Λ _ e) rfl kp;obtain⟨its,rv,pl,hz⟩:=I.tuple hq;have hits:=zi8 rv;have hlen:=rv.length;refine call_all_walk (wpAny_pyIter_tuple (show s.heap.IsTuple a its.toArray from pl) ?_);have hne:a≠s.heap.objs.size:=by obtain⟨o,e,_⟩:=pl;exact ne_of_lt (Η e)
 refine⟨s.heap.objs.size,_,_,_,_,_,_,rfl,Walks.tuple hA1 _ a hne its.toArray,⟨⟨_,Κ _ rfl,rfl,rfl⟩,?_⟩,tr its.toArray (by simpa using hits),λh' tk kp=>?_⟩;obtain⟨o,e,c⟩:=pl;exact⟨o,Λ _ e,c⟩;exact fin h' tk _ _ _ (by simpa using hlen.symm) rfl (I.kept (t':=s.toks) λb o e=>Λ _ e) rfl kp
def zqj(G:Gd T cf k N sc X)(hg:Gl X "all"/\X.mg "all"=Ψ)(he:PE X e (tL X.K cf cl))(hst:zan e=Γ):PE X (.Call (.Name "all" p) [e] [] pos) (tE X.K cf (.all cl)):=by
 refine PE.imp (zcG (zpp G.calm) hg.1 hg.2 zrQ (zbq he hst) (by decide) (by decide) (zal hst [] X.env)) λσ H Qv z=>?_;obtain⟨δ,ι,S,Q,hs,hh,w,q⟩:=z;change W (Out.bind _ _) _ at w;simp only[zab] at w;refine tL.run hs hh w λds lks v ι1 H1 S1 x1 hs1 hh1 sq w1=>?_;obtain⟨b,hb,w2⟩:=zax w1;unfold allD at hb;cases e:ds.mapM zgh with
 |none=>rw[e]at hb;exact nS hb
 |some bs=>
  rw[e]at hb;have hb:b=bs.all id:=by simpa using hb.symm
  subst hb;obtain⟨a,xs,rfl,rr,kd⟩:=sq;rw[zpj e]at rr;have:=rr.bls_eq;subst this;exact⟨a,bs,rfl,kd.seq,q _ _ (Lf.up x1 (Lf.of (d:=.bl _) hh1 rfl w2))⟩
end
end R
namespace R
open PySem PySem.Spec PyProof.Rows L2
def zfc(x):∀l:List Int,(insZ x l).Perm (x::l)
 | []=>List.Perm.refl _| y::l=>by unfold insZ;split;exact List.Perm.refl _;exact((zfc x l).cons y).trans (List.Perm.swap ..)
def zep(x):∀{l:List Int},l.Pairwise (·<=·)->(insZ x l).Pairwise (·<=·)
 | [],_=>by simp[insZ]| y::l,h=>by have a:=ϣ.mp h;unfold insZ;split;rename_i c;exact ϣ.mpr ⟨λz b=>by rcases mem_cons.mp b with e|e;rw[e];exact c;exact Int.le_trans c (a.1 z e),h⟩;rename_i c;refine ϣ.mpr ⟨λz b=>?_,zep x a.2⟩;rcases mem_cons.mp ((zfc x l).mem_iff.mp b) with e|e;rw[e];lia;exact a.1 z e
def zb6:∀l:List Int,(zcU l).Perm l
 | []=>List.Perm.refl _|x::l=>(zfc x _).trans ((zb6 l).cons x)
def zda:∀l:List Int,(zcU l).Pairwise (·<=·)
 | []=>Pairwise.nil|x::l=>zep x (zda l)
def zeg:∀{a b:List Int},a.Perm b->a.Pairwise (·<=·)->b.Pairwise (·<=·)->a=b
 | [],b,p,_,_=>(List.nil_perm.mp p).symm|x::a,[],p,_,_=>absurd (List.perm_nil.mp p) (by simp)| x::a,y::b,p,ha,hb=>by
  have ha':=ϣ.mp ha;have hb':=ϣ.mp hb;have e1:y<=x:=by rcases mem_cons.mp (p.mem_iff.mp ϋ) with e|e;exact Int.le_of_eq e.symm;exact hb'.1 x e
  have e2:x<=y:=by rcases mem_cons.mp (p.mem_iff.mpr ϋ) with e|e;exact Int.le_of_eq e.symm;exact ha'.1 y e
  cases Int.le_antisymm e1 e2;rw[zeg (List.Perm.cons_inv p) ha'.2 hb'.2]
section
variable[Mks]{X:Cx}
def zoZ(I:Inv X pins σ H s)(k:∀b u,s.heap.get? b=Φ u->h'.get? b=Φ u)(hp:s.heap.objs.size<=a)(new:ObjOk X.prog X.w (upd H a o) h' a o):
 Inv X pins σ (upd H a o) {s with heap:=h',drawn:=d',toks:=t'}:=I.call' rfl (Un.laid k hp (I.hok.fresh hp)) (I.hok.laid k hp new) I.bare λb (hb:b∈([]:List Addr))=>by cases hb
variable{T:Tab}{cf:CF}{k:Nat}{N:List Str}{sc:Scope}{pos p p2 pos':Pos}
def zkY:bootBuiltins "sorted"=Φ (.builtin "sorted"):=by rfl
end
section
variable[Mks]{X:Cx}
def zh8:zbC X (.builtin "sorted") (λxs H Q=>∃(a:Addr) (ns:List Int),xs=[.ref a]/\SqL X.K H a (ns.map V.int)/\ns.length<64/\∀p,H p=Ψ->Q (.ref p) (upd H p (.lst ((zcU ns).map V.int)))):=by intro pins s σ H xs us Q I r h;obtain⟨a,ns,rfl,hq,h64,q⟩:=h;obtain⟨u,rfl,ru⟩:=r.one;cases(show u=Θ.ref a from ru);obtain⟨its,rv,pl,_⟩:=I.list hq;have hi:=ziH rv;refine sorted_ints pl.isList hi (by rw[hi.length];exact h64) λout ns' a1 a2 a3=>?_;have en:ns'=zcU ns:=zeg (a2.trans (zb6 ns).symm) a3 (zda ns);subst en;obtain⟨c,hc⟩:=sortedAll_at s.heap its out;have hle:s.heap.objs.size<=s.heap.objs.size+1:=le_succ _;refine⟨.ref (s.heap.objs.size+1),_,zoZ (s:=s) (d':=s.drawn) (t':=s.toks) (o:=.lst ((zcU ns).map V.int)) I (λb u e=>sortedAll_old e) hle ⟨?_,out.toList,c,zdx a1,hc⟩,rfl,q _ (I.hok.fresh hle)⟩;rw[length_map,(zb6 ns).length_eq,Τ];lia
variable{T:Tab}{cf:CF}{k:Nat}{N:List Str}{sc:Scope}{pos p:Pos}
def zrN:bootBuiltins "min"=Φ (.builtin "min"):=by rfl
def zp7(G:Gd T cf k N sc X)(hg:Gl X "sorted"/\X.mg "sorted"=Ψ)(he:PE X e (tE X.K cf ca))(hst:zan e=Γ):
  PE X (.Call (.Name "sorted" p) [e] [] pos) (tE X.K cf (.srt ca)):=by
 refine PE.imp (zcG zh8 hg.1 hg.2 zkY (zbq he hst) (by decide) (by decide) (zal hst [] X.env)) λσ H Qv z=>?_;obtain⟨δ,ι,S,Q,hs,hh,w,q⟩:=z;change W (Out.bind _ _) _ at w;simp only[zab] at w;refine tE.run hs hh w λd v ι1 H1 S1 x1 hs1 hh1 r1 w1=>?_;obtain⟨ns,hb,w2⟩:=zax w1;unfold lstI at hb;cases d with
 |ref l=>
  obtain⟨a,h1,rfl⟩:=r1;dsimp only at hb;cases e1:S1.get l with
  |none=>rw[e1]at hb;exact nS hb
  |some ob=>rw[e1]at hb;cases ob with| lst ds=>have hb:zaH ds=Φ ns:=hb;obtain⟨a',g1,zs,ha,rz⟩:=hh1.obj _ _ e1;rw[h1]at g1;cases g1;rw[zma hb]at rz;have:=rz.ints_eq;subst this;split at w2;rename_i c;obtain⟨c2,w3⟩:=zen w2;exact⟨a,ns,rfl,SqL.of ha,c,λl hl=>q _ _ (Lf.up x1 (Lf.lst hh1 hl (RVs.ints _) w3))⟩;exact w2.elim|_=>exact nS hb
 |_=>exact nS hb
end
def zgK:∀(as bs:List Int),lexZ as bs=HT.lexLt as bs
 | [],[]=>by simp[lexZ,HT.lexLt]| [],_::_=>by simp[lexZ,HT.lexLt]|_::_,[]=>by simp[lexZ,HT.lexLt]|a::as,b::bs=>by simp[lexZ,HT.lexLt,zgK as bs]
section
variable{prog:ϊ}{w:ύ}{A:ϔ}{E:Θ->Β->Prop}{s:Β}
def zeG(x:IsTupleKey (zar prog w) h (ks.map Sum.inl) b):∃items,IsTup h b items/\IntsAre items.toList ks:=by
 obtain⟨o,items,n,ho,hc,hd,hi⟩:=x;refine⟨items,⟨o,ho,hc,n,hd⟩,?_⟩;have:∀{l:List Int}{vs:List Θ},ItemsAre (zar prog w) (l.map Sum.inl) vs->IntsAre vs l:=by intro l;induction l with|nil=>intro vs h;cases h;exact .nil| cons x l ih=>intro vs h;cases h with| @cons _ v _ vs h1 h2=>rcases zau (show zfR (Sum.inl x) v=Γ from h1) with⟨i,t,e3,e4⟩|⟨y,t,e3,e4⟩;cases e3;subst e4;exact .cons _ _ (ih h2);cases e3
 exact this hi
def zpM(hu:A.units<cLine)(hx:IsTri prog w s.heap x a)(hy:IsTri prog w s.heap y b)(q:Q (decide (Lt3 x y)) s):
  wpAny (model prog w) A (keyLt' (tuples' Γ) (.ref a) (.ref b)) Q E s:=by
 obtain⟨oa,t1,u1,b1,na,hoa,_,hda,hia⟩:=hx;obtain⟨ob,t2,u2,b2,nb,hob,_,hdb,hib⟩:=hy;obtain⟨x1,x2,x3⟩:=x;obtain⟨y1,y2,y3⟩:=y;dsimp only at hda hdb hia hib;refine PySem.W.kat_lt hoa hda hob hdb (kat_cons (wpAny_eqBool_int ?_));by_cases d:x1=y1;rw[show(x1==y1)=Γ by simp[d]];refine PySem.W.kat_yes (kat_cons (wpAny_eqBool_tuple hu hia hib ?_));by_cases d2:x2=y2;rw[show decide ((x2.map Sum.inl:List Key)=y2.map Sum.inl)=Γ from decide_eq_true (by rw[d2])];refine PySem.W.kat_yes (kat_cons (wpAny_eqBool_int ?_));by_cases d3:x3=y3;rw[show(x3==y3)=Γ by simp[d3]];refine PySem.W.kat_yes (PySem.W.kat_nil ?_);rw[decide_eq_false (by subst d d2 d3;exact zcd _)]at q;exact q;rw[show(x3==y3)=Δ by simp[d3]];refine kat_no (kat_one _ _ (wpAny_lt_int ?_));have:decide (Lt3 (x1,x2,x3) (y1,y2,y3))=decide (x3<y3):=by apply ϙ.mpr;rw[decide_eq_true_eq,decide_eq_true_eq];subst d d2;unfold Lt3;dsimp only;rw[zce];simp
 rw[this]at q;exact q;rw[show decide ((x2.map Sum.inl:List Key)=y2.map Sum.inl)=Δ from decide_eq_false (λz=>d2 (zgP z))];obtain⟨i1,p1,p2⟩:=zeG hia;obtain⟨i2,p3,p4⟩:=zeG hib;refine kat_no (kat_one _ _ (HT.lt_tupInts p1 p3 p2 p4 hu ?_));have:decide (Lt3 (x1,x2,x3) (y1,y2,y3))=HT.lexLt x2 y2:=by rw[<-zgK];apply ϙ.mpr;rw[decide_eq_true_eq];subst d;unfold Lt3;dsimp only;simp[d2]
 rw[this]at q;exact q;rw[show(x1==y1)=Δ by simp[d]];refine kat_no (oneLt_int ?_);have:decide (Lt3 (x1,x2,x3) (y1,y2,y3))=decide (x1<y1):=by apply ϙ.mpr;rw[decide_eq_true_eq,decide_eq_true_eq];unfold Lt3;dsimp only;simp[d]
 rw[this]at q;exact q
def zjN{α:Type}{xs:List α}{p:List Nat}(d)(hp:p.Perm (List.range xs.length)):(p.map λi=>xs.getD i d).Perm xs:=by
 have h1:=hp.map λi=>xs.getD i d;have h2:(List.range xs.length).map (λi=>xs.getD i d)=xs:=by apply List.ext_getElem;simp;intro i g1 g2;simp[g2]
 rw[h2]at h1;exact h1
end
end R
namespace R
open PySem PySem.Spec PyProof.Rows L2
variable[Mks]
section
variable{T:Tab}{cf:CF}{k:Nat}{N:List Str}{sc:Scope}{X:Cx}{pos p p2 pos':Pos}
def znT(ho:PE X o (tE X.K cf ca))(he:PE X e (tE X.K cf cb))(hst:zan e=Γ)(hsup:za3 o=Γ)(hl:(apos.endLine==cpos.line)=Γ):
  PE X (.Call (.Attribute o "extend" apos) [e] [] cpos) (tE X.K cf (.extv ca cb)):=by
 refine PE.imp (zqV PySem.F.plainAttrs_list PySem.F.slot_list_extend PySem.F.type_list_extend zjS ho (zbq he hst) (zcw hsup "extend" X.env _) (by rw[zal hst];rfl) hl (zal hst [] X.env)) λσ H Qv z=>?_;obtain⟨δ,ι,S,Q,hs,hh,w,q⟩:=z;change W (Out.bind _ _) _ at w;simp only[zab] at w;refine tE.run hs hh w λd v ι1 H1 S1 x1 hs1 hh1 r1 w1=>?_;split at w1;rename_i c;refine⟨zkm hh1 r1 c,?_⟩;rw[zab]at w1;refine tE.run hs1 hh1 w1 λy vy ι2 H2 S2 x2 hs2 hh2 r2 w2=>?_;rw[zab]at w2;obtain⟨o,eo,w3⟩:=zax w2;unfold lsts at eo;cases d with
 |ref l=>
  cases y with
  |ref m=>
   obtain⟨a,h1,rfl⟩:=r1.ext x2;obtain⟨b,h2,rfl⟩:=r2;dsimp only at eo;cases e1:S2.get l with
   |none=>rw[e1]at eo;exact nS eo
   |some ob=>
    cases e2:S2.get m with
    |none=>rw[e1,e2]at eo;cases ob<;>exact nS eo| some ob2=>
     rw[e1,e2]at eo;cases ob with
     |lst xs=>cases ob2 with| lst ys=>cases eo;obtain⟨a',g1,zs,ha,rz⟩:=hh2.obj _ _ e1;rw[h1]at g1;cases g1;obtain⟨b',g2,us,hb,ru⟩:=hh2.obj _ _ e2;rw[h2]at g2;cases g2;obtain⟨c2,S',hp,w4⟩:=zk6 w3;refine⟨a,b,zs,us,rfl,rfl,ha,hb,?_,q _ _ (Lf.up (x1.trans x2) (Lf.wr (d:=.non) hh2 e1 h1 hp (rz.append ru) rfl w4))⟩;rw[rz.length,ru.length,<-length_append];exact c2|_=>exact nS eo
     |_=>exact nS eo
  |_=>exact nS eo
 |_=>exact nS eo
 exact w1.elim
def znR(hg:Gl X "int"/\X.mg "int"=Ψ)(ha:PE X a (tE X.K cf ca))(hst:zan a=Γ):PE X (.Call (.Name "int" p) [a] [] pos) (tE X.K cf (.intb ca)):=by refine PE.imp (zcF zsK hg.1 hg.2 zne (zbq ha hst) (by decide) (by decide) (zal hst [] X.env)) λσ H Qv z=>?_;obtain⟨δ,ι,S,Q,hs,hh,w,q⟩:=z;change W (Out.bind _ _) _ at w;simp only[zab] at w;refine tE.run hs hh w λd v ι1 H1 S1 x1 hs1 hh1 r1 w1=>?_;cases d with| bl b=>cases(show v=V.bl b from r1);exact⟨b,rfl,q _ _ (Lf.up x1 (Lf.of (d:=.int _) hh1 rfl w1))⟩|_=>exact w1.elim
end
structure Ltr(K:Frag)(ι:List Addr)(H:Hp)(S:R.St)(lks:List Nat)(ι2:List Addr)(H2:Hp)(S2:R.St):Prop where
 ext:Ext ι H ι2 H2
 rh:RH K ι2 H2 S2
 lck:∀l∈lks,S2.get l=S.get l
structure Wk(K:Frag)(J:It)(ds:List D)(lks:List Nat)(ι:List Addr)(H:Hp)(S:R.St):Prop where
 go:∀(i:Nat)(ι2:List Addr)(H2:Hp)(S2:R.St),Ltr K ι H S lks ι2 H2 S2->i<ds.length->J.go i H2
 yld:∀(i:Nat)(ι2:List Addr)(H2:Hp)(S2:R.St)(x:V)(H':Hp),Ltr K ι H S lks ι2 H2 S2->i<ds.length->J.yld i H2 x H'->Ext ι2 H2 ι2 H'/\RH K ι2 H' S2/\∃d,ds[i]?=Φ d/\RV K ι2 H' d x
 stop:∀(i:Nat)(ι2:List Addr)(H2:Hp)(S2:R.St),Ltr K ι H S lks ι2 H2 S2->ds.length<=i->J.stop i H2
 lks:∀l∈lks,l<S.len
abbrev LfI(K:Frag)(ι:List Addr)(H:Hp)(Q:List D×List Nat->R.St->Prop)(J:It)(H':Hp):Prop:=∃ds lks ι' S',Ext ι H ι' H'/\RH K ι' H' S'/\Q (ds,lks) S'/\Wk K J ds lks ι' H' S'
abbrev tI(K:Frag)(cf:CF)(cl:CL):TI:=λσ H R=>∃δ ι S Q,RS K ι H δ σ/\RH K ι H S/\W (evL cf cl δ S) Q/\∀J H',LfI K ι H Q J H'->R J H'
def PI.imp(h:PI X c e t)(i:∀a H Q,t' a H Q->t a H Q):PI X c e t':=λb s a H Q I q=>h b s a H Q I (i a H Q q)
abbrev iSeq(K:Frag)(tl:TE):TI:=λσ H R=>tl σ H λx H1=>∃a,x=.ref a/\(((∃xs,SqL K H1 a xs)/\R (Itl K a) H1)\/((∃xs,SqT K H1 a xs)/\R (Itt K a) H1))
section
variable{T:Tab}{cf:CF}{k:Nat}{N:List Str}{sc:Scope}{X:Cx}{pos p:Pos}{tg:Expr}
def zqK(hl:PE X l tl):PI X tg l (iSeq X.K tl):=by
 intro pins s σ H R I h;refine thn (hl pins s σ H _ I h) λv s1 z=>?_;obtain⟨x,H1,I1,r1,q1⟩:=z;obtain⟨a,rfl,q1⟩:=q1;cases r1;rcases q1 with⟨⟨xs,hq⟩,q⟩|⟨⟨xs,hq⟩,q⟩;obtain⟨its,rv,pl,hz⟩:=I1.list hq;refine wpAny_pyIter_list pl.isList ?_;refine⟨s1.heap.objs.size,[s1.heap.objs.size],_,_,H1,rfl,I1.kept (t':=s1.toks) λb o e=>Λ _ e,zfp a _,⟨_,Κ _ rfl,rfl,rfl⟩,λb hb=>?_,q⟩;have e:b=s1.heap.objs.size:=by simpa using hb
 subst e;exact I1.fpOk (le_refl _) (I1.hok.fresh (le_refl _));obtain⟨its,rv,pl,hz⟩:=I1.tuple hq;refine wpAny_pyIter_tuple (show s1.heap.IsTuple a its.toArray from pl) ?_;refine⟨s1.heap.objs.size,[s1.heap.objs.size],_,_,H1,rfl,I1.kept (t':=s1.toks) λb o e=>Λ _ e,zh3 a _,⟨_,Κ _ rfl,rfl,rfl⟩,λb hb=>?_,q⟩;have e:b=s1.heap.objs.size:=by simpa using hb
 subst e;exact I1.fpOk (le_refl _) (I1.hok.fresh (le_refl _))
def zgn{K:Frag}{ι:List Addr}{H:Hp}{S:R.St}{a:Addr}{ds:List D}{lks:List Nat}(hl:∀l∈lks,l<S.len)
  (h:∀ι2 H2 S2,Ltr K ι H S lks ι2 H2 S2->∃xs,SqL K H2 a xs/\RVs K ι2 H2 ds xs/\∀ys,SqL K H2 a ys->True):Wk K (Itl K a) ds lks ι H S where
 go:=λi ι2 H2 S2 lt hi=>by obtain⟨xs,hq,rr,_⟩:=h ι2 H2 S2 lt;exact⟨xs,xs[i]'(by rw[rr.length];exact hi),hq,getElem?_eq_getElem _⟩
 yld:=λi ι2 H2 S2 x H' lt hi y=>by obtain⟨xs,hq,rr,_⟩:=h ι2 H2 S2 lt;obtain⟨rfl,y⟩:=y;obtain⟨d,e,r⟩:=rr.get' (y xs hq);exact⟨Ext.refl _ _,lt.rh,d,e,r⟩
 stop:=λi ι2 H2 S2 lt hi=>by obtain⟨xs,hq,rr,_⟩:=h ι2 H2 S2 lt;exact⟨xs,hq,by rw[rr.length];exact hi⟩
 lks:=hl
def zpv{K:Frag}{ι:List Addr}{H:Hp}{S:R.St}{a:Addr}{ds:List D}{lks:List Nat}{xs:List V}(hl:∀l∈lks,l<S.len)(e:H a=Φ (.tup xs))(rr:RVs K ι H ds xs):Wk K (Itt K a) ds lks ι H S where
 go:=λi ι2 H2 S2 lt hi=>⟨xs,xs[i]'(by rw[rr.length];exact hi),SqT.of (lt.ext.kp.tups _ _ e),getElem?_eq_getElem _⟩
 yld:=λi ι2 H2 S2 x H' lt hi y=>by obtain⟨rfl,y⟩:=y;obtain⟨d,e,r⟩:=(rr.ext lt.ext).get' (y xs (SqT.of (lt.ext.kp.tups _ _ e)));exact⟨Ext.refl _ _,lt.rh,d,e,r⟩
 stop:=λi ι2 H2 S2 lt hi=>⟨xs,SqT.of (lt.ext.kp.tups _ _ e),by rw[rr.length];exact hi⟩
 lks:=hl
def zmL(he:PE X e (tL X.K cf cl))(hlk:∀{δ:Ev}{S:R.St}{Q:List D×List Nat->R.St->Prop},W (evL cf cl δ S) Q->W (evL cf cl δ S) λr S'=>(∀l∈r.2,l<S'.len)/\Q r S'):PI X tg e (tI X.K cf cl):=by refine PI.imp (zqK he) λσ H R z=>?_;obtain⟨δ,ι,S,Q,hs,hh,w,q⟩:=z;refine tL.run hs hh (hlk w) λds lks v ι1 H1 S1 x1 hs1 hh1 sq w1=>?_;obtain⟨hl,w1⟩:=w1;obtain⟨a,xs,rfl,rr,kd⟩:=sq;refine⟨a,rfl,?_⟩;cases kd with|tmp h e=>exact .inl ⟨⟨xs,SqL.of e⟩,q _ _ ⟨ds,lks,ι1,S1,x1,hh1,w1,zgn hl λι2 H2 S2 lt=>⟨xs,SqL.of (lt.ext.keep h e (by simp)),rr.ext lt.ext,λ_ _=>trivial⟩⟩⟩|fix e=>exact .inl ⟨⟨xs,e.sq⟩,q _ _ ⟨ds,lks,ι1,S1,x1,hh1,w1,zgn hl λι2 H2 S2 lt=>⟨xs,(e.kp lt.ext.kp).sq,rr.ext lt.ext,λ_ _=>trivial⟩⟩⟩|tup e=>exact .inr ⟨⟨xs,SqT.of e⟩,q _ _ ⟨ds,lks,ι1,S1,x1,hh1,w1,zpv hl e rr⟩⟩| own l hm hi hg e=>refine .inl ⟨⟨xs,SqL.of e⟩,q _ _ ⟨ds,lks,ι1,S1,x1,hh1,w1,zgn hl λι2 H2 S2 lt=>?_⟩⟩;obtain⟨b,h2,zs,hz,rz⟩:=lt.rh.obj l (.lst ds) ((lt.lck l hm).trans hg);rw[zbV lt.ext.pre hi]at h2;cases h2;exact⟨zs,SqL.of hz,rz,λ_ _=>trivial⟩
def zre(h:W (evL cf (.val ce) δ S) Q):W (evL cf (.val ce) δ S) λr S'=>(∀l∈r.2,l<S'.len)/\Q r S':=by
 change W (Out.bind _ _) _ at h⊢;simp only[zab] at h⊢;refine h.mono λx S1 h1=>?_;obtain⟨ds,e,h2⟩:=zax h1;rw[e];refine⟨λl hl=>?_,h2⟩;cases x with
 |ref l'=>simp[lkOf]at hl;subst hl;simp only[zbQ]at e;split at e;rename_i e2;exact get_lt e2;exact nS e
 |_=>simp[lkOf]at hl
def zoO(h:W (evL cf (.comp n js g it c e) δ S) Q):W (evL cf (.comp n js g it c e) δ S) λr S'=>(∀l∈r.2,l<S'.len)/\Q r S':=by change W (Out.bind _ _) _ at h⊢;simp only[zab] at h⊢;refine h.mono λds S1 h1=>h1.mono λr S2 h2=>?_;split at h2;rename_i c;rw[if_pos c];exact⟨λl hl=>by simp at hl,h2⟩;exact h2.elim
def zg7{K:Frag}{ι:List Addr}{H:Hp}{S:R.St}(lo:Int)(n:Nat):Wk K (Itr lo n) ((List.range n).map λ(j:Nat)=>D.int (lo+j)) [] ι H S where
 go:=λi ι2 H2 S2 lt hi=>by show i<n;simpa using hi
 yld:=λi ι2 H2 S2 x H' lt hi y=>by
  obtain⟨rfl,rfl⟩:=y;have hi:i<n:=by simpa using hi
  exact⟨Ext.refl _ _,lt.rh,.int (lo+i),by simp[hi],rfl⟩
 stop:=λi ι2 H2 S2 lt hi=>by show n<=i;simpa using hi
 lks:=λl hl=>by simp at hl
def znH(hg:Gl X "range"/\X.mg "range"=Ψ)(ha:PE X a (tE X.K cf ca))(hst:zan a=Γ):PI X tg (.Call (.Name "range" p) [a] [] pos) (tI X.K cf (.rng1 ca)):=by
 refine PI.imp (zjL hg.1 hg.2 (zbq ha hst) (zal hst [] X.env)) λσ H R z=>?_;obtain⟨δ,ι,S,Q,hs,hh,w,q⟩:=z;change W (Out.bind _ _) _ at w;simp only[zab] at w;refine tE.run hs hh w λd v ι1 H1 S1 x1 hs1 hh1 r1 w1=>?_;cases d with
 |int j=>
  obtain rfl:v=.int j:=r1;dsimp only at w1;split at w1;rename_i c;have e:((List.range j.toNat).map λ(k:Nat)=>D.int k)=(List.range j.toNat).map λ(k:Nat)=>D.int (0+k):=by simp
  rw[e]at w1;exact⟨j,rfl,c.1,c.2,q _ _ ⟨_,[],ι1,S1,x1,hh1,w1,zg7 0 j.toNat⟩⟩;exact w1.elim
 |_=>exact w1.elim
def znG(hg:Gl X "range"/\X.mg "range"=Ψ)(ha:PE X a (tE X.K cf ca))(hb:PE X b (tE X.K cf cb))(hst:zan a=Γ)(hst2:zan b=Γ):PI X tg (.Call (.Name "range" p) [a,b] [] pos) (tI X.K cf (.rng2 ca cb)):=by refine PI.imp (zjK hg.1 hg.2 (zbo ha (zbq hb hst2) (zal hst [b] X.env)) (by rw[zal hst,zal hst2];rfl) (zal hst2 [] X.env)) λσ H R z=>?_;obtain⟨δ,ι,S,Q,hs,hh,w,q⟩:=z;change W (Out.bind _ _) _ at w;simp only[zab] at w;refine tE.run hs hh w λd v ι1 H1 S1 x1 hs1 hh1 r1 w1=>tE.run hs1 hh1 w1 λe u ι2 H2 S2 x2 hs2 hh2 r2 w2=>?_;split at w2;rename_i i j;obtain rfl:v=.int i:=r1;obtain rfl:u=.int j:=r2;split at w2;rename_i c;exact⟨i,j,rfl,c,q _ _ ⟨_,[],ι2,S2,x1.trans x2,hh2,w2,zg7 i (j-i).toNat⟩⟩;exact w2.elim;exact w2.elim
def zcT{fp:List Addr}(I:Inv X pins σ H s)(k:∀b o,b∉fp->s.heap.get? b=Φ o->h'.get? b=Φ o)(hf:∀b∈fp,FpOk X pins H b):Inv X pins σ H {s with heap:=h',toks:=t'}:=by
 have nit:∀b u,H b=Φ u->b∉fp:=λb u e z=>by rw[(hf b z).1]at e;exact nS e
 refine I.step (g':=s.gens) (d':=s.drawn) (ch:=fp) (λb hb=>?_) (λb o _ _ hc e _=>k b o hc e) (λb o _ _ hc e _=>⟨o.slots,k b o hc e⟩) (λ_ _ _ _ n=>n)
  (λb o hc e=>⟨o,k b o hc e⟩) (λ_ _ e=>e) (λ_ _ _ e=>e) (λb ps e=>⟨#[],by rw[e];simp⟩) (λm hm=>?_) (λb u e=>?_) I.bare
 obtain⟨f0,f1,f2,f3,f4,f5⟩:=hf b hb;exact⟨f3,f1,f4,f5⟩;obtain⟨o,es,ep,ho,r⟩:=hm;exact⟨o,es,ep,k _ o (λz=>(hf _ z).2.1 rfl) ho,r⟩;refine(I.hok b u e).stay (λc v hc q=>k c v ?_ q) (λ_ q=>q) λ_ _ q=>q;rcases hc with z|z;rw[z];exact nit b u e;exact nit c _ z
abbrev tG(K:Frag)(is:List Nat):TG:=λv σ H Qv=>∃δ ι d δ',RS K ι H δ σ/\RV K ι H d v/\asgG is d δ=Φ δ'/\∀σ',RS K ι H δ' σ'->Qv σ' H
abbrev tGs(K:Frag)(is:List Nat):TGs:=λvs σ H Qv=>∃δ ι ds,RS K ι H δ σ/\RVs K ι H ds vs/\ds.length=is.length/\∀σ',RS K ι H (zd8 is ds δ) σ'->Qv σ' H
def PG.imp(h:PG X tg t)(i:∀v a H Q,t' v a H Q->t v a H Q):PG X tg t':=λb s a H v u Q I r q=>h b s a H v u Q I r (i v a H Q q)
def PGs.imp(h:PGs X es t)(i:∀v a H Q,t' v a H Q->t v a H Q):PGs X es t':=λb s a H v u Q I r q=>h b s a H v u Q I r (i v a H Q q)
def znJ(G:Gd T cf k N sc X)(hi:N[i]?=Φ x)(hl:zfT sc x=Γ):PG X (.Name x pos) (tG X.K [i]):=by refine PG.imp (zgC (i:=i) (by rw[G.nm];exact G.nd) (by rw[G.nm];exact hi) (G.lc hl).1 (G.lc hl).2) λv σ H Qv z=>?_;obtain⟨δ,ι,d,δ',hs,r,e,q⟩:=z;simp only[asgG]at e;cases e;exact q _ (hs.set r i)
abbrev zcj(sc:Scope)(N:List Str):List Nat->List Expr->Bool
 | [],[]=>Γ|i::is,.Name x _::es=>(N[i]?==Φ x)&&zfT sc x&&zcj sc N is es|_,_=>Δ
def zfs(G:Gd T cf k N sc X):∀{is:List Nat}{es:List Expr},zcj sc N is es=Γ->PGs X es (tGs X.K is)/\(assignEach es X.env).length=is.length/\(assignEach es X.env).findIdx? (·.1)=Ψ
 | [],[],_=>⟨PGs.imp zou λv σ H Qv z=>by
  obtain⟨δ,ι,ds,hs,r,hl,q⟩:=z
  have:ds=[]:=by simpa using hl
  subst this;exact⟨r,q σ (by simpa[zd8]using hs)⟩,rfl,rfl⟩
 | [],_::_,h=>by simp[zcj]at h|_::_,[],h=>by simp[zcj]at h| i::is,e::es,h=>by
  cases e with
  |Name x pos=>
   simp only[zcj,Ξ,beq_iff_eq]at h;obtain⟨h1,h2,h3⟩:=zfs G (is:=is) (es:=es) h.2;refine⟨PGs.imp (zlF (zgC (i:=i) (by rw[G.nm];exact G.nd) (by rw[G.nm];exact h.1.1) (G.lc h.1.2).1 (G.lc h.1.2).2) h1) λv σ H Qv ⟨δ,ι,ds,hs,r,hl,q⟩=>?_,?_,?_⟩;cases ds with|nil=>simp at hl| cons d ds=>obtain⟨v1,vr,rfl,r1,r2⟩:=r;refine⟨v1,vr,rfl,?_⟩;exact⟨δ.set i (Φ d),ι,ds,hs.set r1 i,r2,by simpa using hl,λσ' hs'=>q σ' (by simpa[zd8]using hs')⟩
   show((Δ,_)::assignEach es X.env).length=_;simp[h2];show((Δ,_)::assignEach es X.env).findIdx? _=_;simp[List.findIdx?_cons,h3]
  |_=>simp[zcj]at h
def zmu(h2:2<=is.length)(e:asgG is d δ=Φ δ'):∃ds,d=.tup ds/\ds.length=is.length/\δ'=zd8 is ds δ:=by
 match is,h2 with
 |a::b::t,_=>
  cases d with
  |tup ds=>simp only[asgG]at e;split at e;rename_i c;cases e;exact⟨ds,rfl,c,rfl⟩;exact nS e
  |_=>exact nS e
def zmM(G:Gd T cf k N sc X)(h:zcj sc N is es=Γ)(h2:2<=is.length):PG X (.Tuple es j pos) (tG X.K is):=by obtain⟨h1,hn,hst⟩:=zfs G h;refine PG.imp (zqL G.calm h1 hn hst) λv σ H Qv z=>?_;obtain⟨δ,ι,d,δ',hs,r,e,q⟩:=z;obtain⟨ds,rfl,c,rfl⟩:=zmu h2 e;obtain⟨a,xs,rfl,ha,rr⟩:=r;exact⟨a,xs,rfl,SqT.of ha,by rw[rr.length];exact c,δ,ι,ds,hs,rr,c,q⟩
def Ext.tmp{p}(x:Ext ι H ι' H')(c:H p=Ψ)(e:H' p=Φ (.lst vs)):Ext ι H ι' (upd H' p (.lst us)):=by refine⟨x.pre,x.kp.trans (.same (Tups.upd_lst e) (λb o u h=>?_) λb i h=>?_),λb o d a=>?_⟩;rw[zah];exact h;rintro rfl;rw[e]at h;cases h;rw[zah];exact h;rintro rfl;rw[e]at h;cases h;obtain⟨f,g⟩:=x.rest b o d a;refine⟨?_,g⟩;rw[zah];exact f;rintro rfl;rw[c]at a;exact nS a
def Kp.tmp{p}(e:H p=Φ (.lst vs)):Kp H (upd H p (.lst us)):=.same (Tups.upd_lst e) (λb o u h=>by
 rw[zah];exact h;rintro rfl;rw[e]at h;cases h) λb a h=>by
 rw[zah];exact h;rintro rfl;rw[e]at h;cases h
def RH.tmp{K}{p}(b:RH K ι H S)(c:p∉ι)(e:H p=Φ (.lst vs)):RH K ι (upd H p (.lst us)) S:=⟨b.len,b.nd,λl o q=>by obtain⟨a,d,f,g⟩:=b.mem q;exact⟨a,d,f.up (ϟ _) (Kp.tmp e) (zah λz=>c (z▸g))⟩,(Kp.tmp e).tab b.tab⟩
def RS.up{K}(h:RS K ι H δ a)(b:ι <+: ι')(c:Kp H H'):RS K ι' H' δ a:=⟨h.1,λi d e=>let ⟨v,f,r⟩:=h.2 i d e;⟨v,f,r.up b c⟩⟩
def RH.lk{K}(a:RH K ι H S)(ks):RH K ι H {S with lk:=ks}:=⟨a.len,a.nd,λl o e=>a.obj l o e,a.tab⟩
def RS.csl{K}(h:RS K ι H δ g)(a)(b):RS K ι H (R.csl a b δ) (L2.csl a b g):=by
 refine⟨by simp[R.csl,L2.csl],λi d e=>?_⟩;unfold R.csl at e;unfold L2.csl;by_cases c:i<a;rw[getElem?_append_left (by simpa using c),List.getElem?_replicate]at e;rw[if_pos c]at e;cases e;rw[getElem?_append_right (by simpa using c)]at e⊢;simp only[length_replicate,getElem?_map]at e⊢;cases f:b[i-a]? with
 |none=>rw[f]at e;exact nS e
 |some j=>
  rw[f]at e;simp only[Option.map_some,Option.some.injEq]at e⊢;have l:δ[j]?=Φ (Φ d):=by
   cases z:δ[j]? with
   |none=>rw[z]at e;exact nS e
   |some o=>rw[z]at e;simp at e;rw[e]
  obtain⟨v,m,r⟩:=h.2 j d l;exact⟨v,by rw[m];rfl,r⟩
def zf6{α:Type}{xs:List α}{x}(h:xs[i]?=Φ x):xs.drop i=x::xs.drop (i+1):=by obtain⟨h1,h2⟩:=Ω.mp h;rw[List.drop_eq_getElem_cons h1,h2]
abbrev CInv(K:Frag)(cf:CF)(g:List Nat)(c e:CE)(Q:List D×List Nat->R.St->Prop)(ds:List D)(lks:List Nat)(ι1:List Addr)(H1:Hp)(S1:R.St)(p:Addr)(i:Nat)(σ':L2.St)(H':Hp):Prop:=
 i<=ds.length/\∃δ' ι' S' acc vs,RS K ι' H' δ' σ'/\Ltr K ι1 H1 S1 lks ι' H' S'/\S'.lk=lks++S1.lk/\S1.len<=S'.len/\p∉ι'/\H' p=Φ (.lst vs)/\RVs K ι' H' acc vs/\
  W (zat g (evT cf c) (evE cf e) (ds.drop i) δ' S') λrest S2=>(acc++rest).length<=16777216/\Q (acc++rest,[]) {S2 with lk:=S1.lk}
def zhS(hcf:CFok cf)(h:tLt X.K cf (.comp nt js is it c e) σ H Qv):znx nt js (tI X.K cf it) (tG X.K is) (tT X.K cf c) (tE X.K cf e) σ H Qv:=by
 obtain⟨δ,ι,S,Q,hs,hh,w,q⟩:=h;change W (Out.bind _ _) _ at w;simp only[zab] at w;refine⟨δ,ι,S,_,hs,hh,w,λJ H1 k=>?_⟩;obtain⟨ds,lks,ι1,S1,x1,hh1,w1,wk⟩:=k;dsimp only at w1;unfold zbg at w1;rw[zab]at w1;intro p hp;have hpi:=hh1.fresh hp;refine⟨λi m σ' H'=>m=ds.length-i/\CInv X.K cf is c e Q ds lks ι1 H1 S1 p i σ' H',⟨_,rfl,zero_le _,R.csl nt js δ,ι1,{S1 with lk:=lks++S1.lk},[],[],((hs.ext x1).csl _ _).up (ϟ _) (Kp.new hp _),⟨Ext.new hp _,(hh1.lk _).new hp _,λl _=>rfl⟩,rfl,le_refl _,hpi,zak,rfl,?_⟩,?_⟩;refine w1.mono λrest S2 w2=>?_;simp only[W_ok]at w2;split at w2;rename_i c;exact⟨by simpa using c,by simpa using w2⟩;exact w2.elim;rintro i m σ' H' ⟨rfl,hle,δ',ι',S',acc,vs,hs',lt,hlk,hln,hpn,hpv,ra,wt⟩;rcases Nat.lt_or_eq_of_le hle with hlt|rfl;refine .inr ⟨wk.go i ι' H' S' lt hlt,CInv X.K cf is c e Q ds lks ι1 H1 S1 p (i+1),λσ2 H2 h=>⟨_,by lia,rfl,h⟩,λx H2 hy=>?_⟩;obtain⟨x2,hh2,d,hd,rd⟩:=wk.yld i ι' H' S' x H2 lt hlt hy;have hs2:=hs'.ext x2;have hp2:=x2.keep hpn hpv (by simp);rw[zf6 hd]at wt;simp only[zat]at wt;cases ea:asgG is d δ' with
 |none=>rw[ea]at wt;exact wt.elim| some δ2=>
  rw[ea]at wt;dsimp only at wt;rw[zab]at wt;refine⟨δ',ι',d,δ2,hs2,rd,ea,λσ2 hs3=>?_⟩;refine tT.run hs3 hh2 ((frT hcf c δ2 S').w wt) λb ι3 H3 S3 x3 hs4 hh3 w3=>?_;obtain⟨w3,f3⟩:=w3;have hp3:=x3.keep hpn hp2 (by simp);have hpn3:=(x3.rest p _ hpn hp2).2;have keep:∀{S4:R.St},Frm S' S4->S4.lk=lks++S1.lk/\S1.len<=S4.len/\∀l∈lks,S4.get l=S1.get l:=λf=>⟨f.lk.trans hlk,le_trans hln f.lens,λl hl=>(f.same l (by rw[hlk];exact mem_append_left _ hl) (lt_of_lt_of_le (wk.lks l hl) hln)).trans (lt.lck l hl)⟩;cases b with
  |false=>simp only[Bool.false_eq_true,if_false]at w3⊢;obtain⟨k1,k2,k3⟩:=keep f3;exact⟨hlt,δ2,ι3,S3,acc,vs,hs4,⟨(lt.ext.trans x2).trans x3,hh3,k3⟩,k1,k2,hpn3,hp3,(ra.ext x2).ext x3,w3⟩| true=>
   simp only[if_true]at w3⊢;rw[zab]at w3;refine tE.run hs4 hh3 ((frE hcf e δ2 S3).w w3) λz v ι4 H4 S4 x4 hs5 hh4 rz w4=>?_;obtain⟨w4,f4⟩:=w4;obtain⟨k1,k2,k3⟩:=keep (f3.trans f4);have hp4:=x4.keep hpn3 hp3 (by simp);have hpn4:=(x4.rest p _ hpn3 hp3).2;rw[zab]at w4;have ra4:=((ra.ext x2).ext x3).ext x4;have hlen:acc.length<16777216:=by obtain⟨rest,S5,_,w5⟩:=zgm w4;have:=w5.1;simp at this;lia
   refine⟨vs,hp4,by rw[ra4.length,Τ];exact hlen,hlt,δ2,ι4,S4,acc++[z],vs++[v],hs5.up (ϟ _) (Kp.tmp hp4),⟨(((lt.ext.trans x2).trans x3).trans x4).tmp hp hp4,hh4.tmp hpn4 hp4,k3⟩,k1,k2,hpn4,zak,?_,?_⟩;exact(RVs.append (es:=[z]) (us:=[v]) ra4 ⟨v,[],rfl,rz,rfl⟩).up (ϟ _) (Kp.tmp hp4);refine w4.mono λrest S5 w5=>?_;simp only[W_ok]at w5;simpa using w5
 refine .inl ⟨wk.stop _ ι' H' S' lt (le_refl _),?_⟩;rw[List.drop_length]at wt;simp only[zat,W_ok,Ϣ]at wt;exact q _ _ ⟨acc,ι',{S' with lk:=S1.lk},p,vs,x1.trans lt.ext,rfl,ra,hpn,hpv,lt.rh.lk _,zkZ hh1 x1 hp,wt.2⟩
abbrev Ite(K:Frag)(a:Addr):It:=
 ⟨λi H=>∃xs x,SqL K H a xs/\xs[i]?=Φ x,
  λi H v H'=>∃T x,H T=Ψ/\v=.ref T/\H'=upd H T (.tup [.int i,x])/\∀xs,SqL K H a xs->xs[i]?=Φ x,
  λi H=>∃xs,SqL K H a xs/\xs.length<=i⟩
def zjc{P:ϊ}{w:ύ}{K:Frag}{es:List Expr}{j:Nat}{pt:Pos}{e it a:Addr}(hne:e≠it):Turn P w K (.Tuple es j pt) (Ite K a) [e,it] e
  (λi h=>(∃old,IsEnum h e it i old)/\h.IsListIter it a i) where
 mem:=by simp
 obj:=λi h st c hc=>by obtain⟨⟨old,h1⟩,⟨o4,h4,_,d4⟩⟩:=st;simp only[mem_cons,not_mem_nil,or_false]at hc;rcases hc with rfl|rfl;exact⟨_,h1,λv z=>by cases z⟩;exact⟨_,h4,λv z=>by rw[d4]at z;cases z⟩
 keep:=λi h h' st k=>by obtain⟨⟨old,h1⟩,h4⟩:=st;exact⟨⟨old,k e (by simp) _ h1⟩,h4.at λo x=>k it (by simp) o x⟩
 item:=by
  intro X hP hw hK hc i pins s σ H E I hf st hg;subst hP hw hK;obtain⟨xs,x,hq,hx⟩:=hg;obtain⟨xv,rx,px,_⟩:=I.list hq;obtain⟨u,hu,ru⟩:=rx.get hx;obtain⟨⟨old,he⟩,h1⟩:=st;refine wpAny_pyNext_enum_item he h1 px.isList (x:=u) (by simpa using hu) hne λh' a1 a3 a5 a6 hk=>?_;have hn:H s.heap.objs.size=Ψ:=I.hok.fresh (le_refl _);have I1:Inv X pins σ (upd H s.heap.objs.size (.tup [.int i,x])) {s with heap:=s.heap.push {cls:=.type "tuple",data:=.seq #[.int i s.toks,u]},toks:=s.toks+1}:=I.laid (t':=s.toks+1) (λb u e=>Λ _ e) (le_refl _) ⟨by rw[Τ];simp,[.int i s.toks,u],.cons ⟨_,rfl⟩ (.cons ru .nil),⟨_,Κ _ rfl,rfl,_,rfl⟩⟩;have lt:∀{c o},s.heap.get? c=Φ o->c≠s.heap.objs.size:=λe=>ne_of_lt (Η e);have nf:∀c∈[e,it],c≠s.heap.objs.size:=by intro c hc;simp only[mem_cons,not_mem_nil,or_false]at hc;rcases hc with rfl|rfl;exact lt he;obtain⟨o,z,_⟩:=h1;exact lt z
  have hf1:∀c∈[e,it],FpOk X pins (upd H s.heap.objs.size (.tup [.int i,x])) c:=λc hc=>by obtain⟨f0,f⟩:=hf c hc;exact⟨by rw[zah (nf c hc)];exact f0,f⟩
  have two:∀{c:Addr},¬c∈[e,it]->c≠e/\c≠it:=λ{c} hc=>by simp only[mem_cons,not_mem_nil,or_false,not_or]at hc;exact hc
  have k2:∀c o,¬c∈[e,it]->(s.heap.push {cls:=.type "tuple",data:=.seq #[.int i s.toks,u]}).get? c=Φ o->h'.get? c=Φ o:=λc o hc z=>by by_cases hs:c=s.heap.objs.size;subst hs;have e2:(s.heap.push {cls:=.type "tuple",data:=.seq #[.int i s.toks,u]}).get? s.heap.objs.size=_:=Κ _ rfl;rw[e2]at z;cases z;exact a5;exact hk c o (two hc).1 (two hc).2 ((Heap.get?_push_ne _ _ _ hs).symm.trans z)
  have I2:Inv X pins σ (upd H s.heap.objs.size (.tup [.int i,x])) {s with heap:=h',toks:=s.toks+1}:=zcT (s:={s with heap:=s.heap.push {cls:=.type "tuple",data:=.seq #[.int i s.toks,u]},toks:=s.toks+1}) (h':=h') (t':=s.toks+1) I1 k2 hf1;refine⟨_,rfl,?_⟩;refine wpAny_letOwnedTupleGo_enum a1 λh2' hz' hs'=>?_;refine⟨.ref s.heap.objs.size,upd H s.heap.objs.size (.tup [.int i,x]),zcT (t':=s.toks+1) I2 (λc o hc z=>hs'.extBut _ _ (two hc).1 z) hf1,rfl,⟨_,x,hn,rfl,rfl,λxs' hx'=>by rw[I.list_inj hx' hq];exact hx⟩,
   ⟨⟨_,hz'⟩,a3.extBut hs'.extBut (Ne.symm hne)⟩,λc hc=>(hf1 c hc).1⟩
 done:=by intro X hP hw hK hc i pins s σ H E I hf st hg;subst hP hw hK;obtain⟨xs,hq,hl⟩:=hg;obtain⟨xv,rx,px,_⟩:=I.list hq;obtain⟨⟨old,he⟩,h1⟩:=st;have l1:=rx.length;refine wpAny_pyNext_enum_end (I.ok.hd hc) he h1 px.isList (by simp;lia) λh' hk=>⟨rfl,zcT (t':=s.toks) I (λc o hc z=>hk c o (λq=>hc (by simp[q])) z) hf⟩
 self:=λ_ _ _ _ _ st h=>wpAny_pyIter_enum st.1.choose_spec h
abbrev zsP(K:Frag)(t:TA):TI:=λσ H R=>t σ H λvs H1=>∃a xs,vs=[.ref a]/\SqL K H1 a xs/\R (Ite K a) H1
def zot(hg:Gl X "enumerate")(hm:X.mg "enumerate"=Ψ)(ha:PA X [a] ta)(hs:starEach [a] X.env=[(Δ,eval a X.env)]):
  PI X (.Tuple es j pt) (.Call (.Name "enumerate" p) [a] [] pos) (zsP X.K ta):=by
 intro pins s σ H R I h;refine Call_ (zcL I hg hm boot_enumerate (PyProof.Rows.callWith_type1 (thn (ha pos pins s σ H _ I h) λus s1 z=>?_) hs rfl));obtain⟨vs,H1,I1,r1,q1⟩:=z;obtain⟨l,xs,e,q1,q⟩:=q1;subst e;cases r1 with
 |cons r rr=>
  cases rr;cases r;obtain⟨xv,rx,px,_⟩:=I1.list q1;refine call_enumerate_list px.isList λh' he hi hsz hk=>?_;refine wpAny_pyIter_enum he ?_;refine⟨_,_,_,_,H1,rfl,I1.kept (t':=s1.toks) hk,zjc (Nat.succ_ne_self _),⟨⟨_,he⟩,hi⟩,λc hc=>?_,q⟩;simp only[mem_cons,not_mem_nil,or_false]at hc;have:s1.heap.objs.size<=c:=by rcases hc with rfl|rfl;exact le_succ _;exact le_refl _
  exact I1.fpOk this (I1.hok.fresh this)
def znj{K}(hl:S.get l=Φ (.lst ds))(ha:ι[l]?=Φ a):Wk K (Ite K a) (ds.mapIdx λi d=>zis (.int i) d) [l] ι H S:=by
 have get:∀{ι2 H2 S2},Ltr K ι H S [l] ι2 H2 S2->∃xs,SqL K H2 a xs/\RVs K ι2 H2 ds xs:=λ{ι2 H2 S2} lt=>by obtain⟨a',h2,xs,hx,rx⟩:=lt.rh.obj l (.lst ds) ((lt.lck l (by simp)).trans hl);rw[zbV lt.ext.pre ha]at h2;cases h2;exact⟨xs,SqL.of hx,rx⟩
 refine⟨λi ι2 H2 S2 lt hi=>?_,λi ι2 H2 S2 x H' lt hi y=>?_,λi ι2 H2 S2 lt hi=>?_,λk hk=>?_⟩;obtain⟨xs,hx,rx⟩:=get lt;rw[List.length_mapIdx]at hi;have h1:=rx.length;exact⟨xs,xs[i]'(by lia),hx,getElem?_eq_getElem _⟩;obtain⟨xs,hx,rx⟩:=get lt;obtain⟨T,u,hT,rfl,rfl,y1⟩:=y;obtain⟨d,ed,rd⟩:=rx.get' (y1 xs hx);have x2:Ext ι2 H2 ι2 (upd H2 T (.tup [.int i,u])):=Ext.new hT _;refine⟨x2,lt.rh.new hT _,zis (.int i) d,by rw[List.getElem?_mapIdx,ed];rfl,?_⟩;exact⟨T,[.int i,u],rfl,zak,.int i,[u],rfl,rfl,u,[],rfl,rd.ext x2,rfl⟩;obtain⟨xs,hx,rx⟩:=get lt;rw[List.length_mapIdx]at hi;have h1:=rx.length;exact⟨xs,hx,by lia⟩;cases mem_singleton.mp hk;exact get_lt hl
end
end R
namespace R
open PySem PySem.Spec PyProof.Rows L2
section
variable[Mks]{T:Tab}{cf:CF}{k:Nat}{N:List Str}{sc:Scope}{X:Cx}{pos p:Pos}
def ziO(h:zet S x=Φ r):∃l ds,x=.ref l/\S.get l=Φ (.lst ds)/\r=(ds.mapIdx λi d=>zis (.int i) d,[l]):=by
 cases x with
 |ref l=>
  simp only[zet]at h;cases e:S.get l with
  |none=>rw[e]at h;exact nS h
  |some o=>rw[e]at h;cases o with|lst ds=>cases h;exact⟨l,ds,rfl,e,rfl⟩|_=>exact nS h
 |_=>exact nS h
def znI(hg:Gl X "enumerate"/\X.mg "enumerate"=Ψ)(ha:PE X a (tE X.K cf ca))(hst:zan a=Γ):PI X (.Tuple es j pt) (.Call (.Name "enumerate" p) [a] [] pos) (tI X.K cf (.enum ca)):=by refine PI.imp (zot hg.1 hg.2 (zbq ha hst) (zal hst [] X.env)) λσ H R z=>?_;obtain⟨δ,ι,S,Q,hs,hh,w,q⟩:=z;change W (Out.bind _ _) _ at w;simp only[zab] at w;refine tE.run hs hh w λd v ι1 H1 S1 x1 hs1 hh1 r1 w1=>?_;obtain⟨r,ez,w3⟩:=zax w1;obtain⟨l,ds,rfl,hl,rfl⟩:=ziO ez;obtain⟨a,ea,rfl⟩:=r1;obtain⟨a',h2,xs,hx,rx⟩:=hh1.obj l _ hl;rw[ea]at h2;cases h2;exact⟨a,xs,rfl,SqL.of hx,q _ _ ⟨_,_,ι1,S1,x1,hh1,w3,znj hl ea⟩⟩
end
end R
namespace R
open PySem PySem.Spec PyProof.Rows L2
variable[Mks]
abbrev noTab:Tab:={blt:=[],cons:=[],fns:=[]}
abbrev noCF:CF:=λ_ _ _=>.bad
def zlT{K}:TabOk noTab noCF k P w K mg base:=⟨λx h=>(by exact nB h),λx d h=>(by exact nS h),λf x ps nd h=>(by simp[noTab]at h),λf ds S d T' h=>(by cases h),λc x h=>(by simp[noTab]at h),λc m f h=>(by simp[noTab]at h),λc f j h=>(by simp[noTab]at h),λx m f h=>(by simp[noTab]at h),λh=>(by simp[noTab]at h),λx cs h=>(by simp[noTab]at h)⟩
def zqt{K}(tb:TB H):RH K [] H ⟨[],[],[]⟩:=⟨rfl,List.nodup_nil,λl o h=>(by simp[St.get]at h),tb⟩
section
variable{X:Cx}{pins:List (Addr×Obj)}{σ:L2.St}{H H':Hp}{s:Β}
structure Own(X:Cx)(pins:List (Addr×Obj))(b:Addr):Prop where
 new:X.s₀.heap.objs.size<=b
 loc:b≠X.env.locals
 cel:∀x c,X.env.cells.lookup x=Φ c->c≠b
 pin:∀p∈X.pn++pins,p.1≠b
def Own.fresh(I:Inv X pins σ H s)(h:s.heap.objs.size<=b):Own X pins b:=by refine⟨le_trans I.sz h,λe=>?_,λx c e z=>?_,λp a z=>?_⟩;exact absurd (lt_of_lt_of_le I.lt h) (by rw[e];exact lt_irrefl _);obtain⟨v,o,d,_⟩:=I.cell x c e;exact absurd (lt_of_lt_of_le (Η d) h) (by rw[z];exact lt_irrefl _);exact absurd (lt_of_lt_of_le (Η (I.pin p a).1) h) (by rw[z];exact lt_irrefl _)
def Own.stk(o:Own X pins b)(I:Inv X pins σ H s):b∉frs X.stack:=λa=>by rcases mem_cons.mp (I.stkSub b a) with e|e;exact o.loc e;obtain⟨_,d,c,_⟩:=I.ok.funs.mem e;exact absurd (lt_of_lt_of_le (Η c) o.new) (lt_irrefl _)
def zaD{ch:List Addr}(I:Inv X pins σ H s)(ow:∀b∈ch,Own X pins b)(hn:∀b∈ch,H b=Ψ)(k:∀b o,b∉ch->s.heap.get? b=Φ o->h'.get? b=Φ o)(hg:AllBare g'):
  Inv X pins σ H {s with heap:=h',gens:=g',drawn:=d',toks:=t'}:=by
 refine I.call (ch:=ch) ⟨λb o e n _ hx=>k b o hx e,λb o e n _ hx=>⟨o.slots,k b o hx e⟩,λb o _ n _=>n,λb o e hx=>⟨o,k b o hx e⟩,λ_ _ e=>e,λ_ _ _ e=>e,λb ps e=>⟨#[],by rw[e];simp⟩⟩ ?_ hg λb hb=>⟨.inr (ow b hb).new,(ow b hb).loc,(ow b hb).cel,(ow b hb).pin⟩;intro a o e;refine(I.hok a o e).stay (λb u hb q=>k b u (λz=>?_) q) (λ_ q=>q) λ_ _ q=>q;have:=hn b z;rcases hb with rfl|hb;rw[e]at this;cases this;rw[hb]at this;cases this
end
section
variable{X:Cx}{pins:List (Addr×Obj)}{σ:L2.St}{H H':Hp}{s:Β}{b:Addr}{o:HO}
def zbX(I:Inv X pins σ H s)(ow:Own X pins b)(hn:H b=Ψ)(ok:ObjOk X.prog X.w (upd H b o) s.heap b o):Inv X pins σ (upd H b o) s:=by
 have un:Un (frs X.stack) [b] H (upd H b o) s.heap s.heap:=⟨λc q e _ _ _=>e,λc q e _ _ _=>⟨q.slots,e⟩,λc q e n hx=>by rw[zah (by simpa using hx)];exact n,λc q e _=>⟨q,e⟩,
  λc xs q=>by rw[zah (zai q hn)];exact q,λc q u e=>by rw[zah (zai e hn)];exact e,λc ps q=>⟨#[],by rw[zah (zai q hn),q];simp⟩⟩
 refine I.call' rfl un ?_ I.bare λc hc=>?_;intro a u e;by_cases z:a=b;subst z;rw[zak]at e;cases e;exact ok;rw[zah z]at e;exact(I.hok a u e).stay (λ_ _ _ q=>q) (λc q=>by rw[zah (zai q hn)];exact q) λc xs q=>by rw[zah (zai q hn)];exact q
 rw[mem_singleton.mp hc];exact⟨.inr ow.new,ow.loc,ow.cel,ow.pin⟩
end
structure StepT(P:Addr)(H H':Hp):Prop where
 rest:∀a o,a≠P->H a=Φ o->H' a=Φ o
 tab:∀ps,H P=Φ (.tbl ps)->∃more,H' P=Φ (.tbl (ps++more))
def zfl(h:TriplesOk l)(e:codeAmong pos (l++[a,b,c])=Φ v):codeAmong pos l=Φ v\/v=c:=by
 induction l using codeAmong.induct (pos:=pos) with
 |case1 line _ col _ c' rest cond=>simp only[List.cons_append,codeAmong,cond,if_true]at e⊢;exact .inl e| case2 line _ col _ c' rest cond ih=>simp only[List.cons_append,codeAmong,cond,if_false]at e⊢;exact ih (by simpa[TriplesOk]using h) e| case3 l hno=>
  cases l with
  |nil=>right;unfold codeAmong at e;split at e;rename_i h;simp at h;obtain⟨_,_,rfl,rfl⟩:=h;split at e;cases e;rfl;simp[codeAmong]at e;exact nS e
  |cons x l=>exfalso;unfold TriplesOk at h;split at h;rename_i h0;cases h0;rename_i h0;cases h0;exact hno _ _ _ _ _ _ rfl;exact h
def StepT.ext(st:StepT P H H')(b:H P=Φ (.tbl ps))(f:TB H'):Ext [] H [] H':=by
 have c:∀a o,H a=Φ o->(∀ps,o≠.tbl ps)->a≠P:=λa o e n z=>by rw[z,b]at e;cases e;exact n _ rfl
 refine⟨ϟ _,⟨λa h e=>st.rest a _ (c a _ e (by simp)) e,λa o u e=>st.rest a _ (c a _ e (by simp)) e,λ_=>f⟩,λa o _ e=>⟨?_,by simp⟩⟩;by_cases z:a=P;subst z;obtain⟨d,g⟩:=st.tab ps b;rw[b]at e;cases e;exact .inr ⟨⟨_,rfl⟩,_,g⟩;exact .inl (st.rest a o z e)
section
variable{X:Cx}{pins:List (Addr×Obj)}{σ:L2.St}{H:Hp}{s:Β}{c P:Addr}{params:Arguments}{scope:Scope}{lpos:Pos}
def BM.at_(b:BM X.mg X.base)(I:Inv X pins σ H s)(f:H P=Φ o):s.heap.BuiltinsAt X.mg P:=by obtain⟨a,d,g,h,i,j,k⟩:=b;obtain⟨l,e⟩:=I.bs a d j;exact⟨a,d,g,h,i,λz=>(by rw[z,f]at e;cases e),l,k⟩
end
def zj9{K}(S:FnScope N ps scope)(hr:Room (k+1) A)(e0:Env0 P w K mg base A outer s H)(ho:s.heap.get? f=Φ (kla_obj name qual params body scope [] pm c' ct))(hcd:s.heap.CodeRec (.ref c') qual)(hb:BindsTo s (kla_fn name qual params body scope [] pm (.ref c') ct) args (ps.zip us))(r:Vals vs us)(hl:vs.length=ps.length)(ht:Room k (A.deeper (envOfC qual scope s.heap.objs.size f (.ref c')))->PE (cxOf CX P w K mg base N qual scope f (.ref c') A outer s H E) body t)(hq:t (start N vs) H Q):
  codeAny (model P w) A (.call (.ref f) args) (CR CX outer P w H s Q E) s:=by
 have lim:s.heap.NoLimit:=e0.mod.nolimit.keeps λb o e=>(e0.bs b o e).1;have kinds:∀y∈ps.zip us,scope.names.lookup y.1=Φ .local\/(scope.names.lookup y.1=Φ .cell/\((cellsFrom (s.heap.objs.size+1) scope.names []).lookup y.1).isSome=Γ):=λj hy=>(by obtain⟨x,v⟩:=j;exact (S.par x (of_mem_zip hy).1).elim .inl λq=>.inr ⟨q,cellsFrom_some _ _ _ (.inl q)⟩);refine PySem.W.kla_callFunE hr.depth ho rfl S.co S.gen rfl hcd (hb _ _ _ _ ?_);refine wpAny_newFunctionEnv_cells S.kind kinds λenv he s1 x=>?_;subst he;refine⟨lim.keeps x.toInCall.keep,PySem.W.kla_codeExpr ?_⟩;have I:Inv (cxOf CX P w K mg base N qual scope f (.ref c') A outer s H E) [] (start N vs) H s1:=zfU S hr.hd e0 hl r x;exact ϑ (ht (hr.deeper _) [] s1 (start N vs) H _ I hq) (λu s' z=>(by obtain⟨v,H',J,rv,q⟩:=z;exact ⟨v,H',J.os,J.bare,J.base,J.hok,rv,q⟩)) λe s' hs=>hs
structure LamAt(H:Hp)(f:Addr)(name qual:Str)(params:Arguments)(body:Expr)(scope:Scope):Prop where
 ex:∃(pm ct:Θ) (c':Addr) (oc:Obj) (vs:Array Θ) (t:Tok),H f=Φ (.frz (kla_obj name qual params body scope [] pm c' ct) (.own 0))/\H c'=Φ (.frz oc (.own 0))/\oc.data=.fields vs/\vs[1]?=Φ (.str qual t)
def LamAt.up(L:LamAt H f name b a body scope)(k:Kp H H'):LamAt H' f name b a body scope:=by obtain⟨c,d,e,g,h,t,i,j,l⟩:=L.ex;exact⟨c,d,e,g,h,t,k.frzs _ _ _ i,k.frzs _ _ _ j,l⟩
@[reducible]def zfm(s:Β)(a:Addr)(vs:List Θ)(e:Nat):Prop:=s.heap.get? a=Φ (seqObj "list" vs.toArray e)
def zeV(h:zfm s a vs e)(g)(hg:g vs.toArray=us.toArray):∃e',zfm {s with heap:=s.heap.update a (Obj.mapSeq g)} a us e':=⟨_,by have:=get?_update_seq h g;rw[hg]at this;exact this⟩
def zb9{s:Β}(n:b≠a)(h:s.heap.get? b=Φ o):(s.heap.update a g).get? b=Φ o:=by rw[Heap.get?_update_ne _ _ _ _ n];exact h
structure KEnd(X:Cx)(pins:List (Addr×Obj))(σ:L2.St)(H:Hp)(D:Addr)(out:List Θ)(s':Β):Prop where
 ex:∃H' e,Inv X pins σ H' s'/\Ext [] H [] H'/\H' D=Ψ/\zfm s' D out e
def getD_mem{a:Type}{xs:List a}(d)(h:i<xs.length):xs[i]?=Φ (xs.getD i d):=by rw[Υ,List.getElem?_eq_getElem h];rfl
section
variable{X:Cx}{pins:List (Addr×Obj)}{σ:L2.St}{H H':Hp}{s:Β}{b:Addr}{o:HO}
def zfi(hn:H b=Ψ):Ext [] H [] (upd H b o):=⟨ϟ _,Kp.new hn o,λa u _ e=>⟨.inl (by rw[zah (zai e hn)];exact e),by simp⟩⟩
end
section
variable{X:Cx}{pins:List (Addr×Obj)}{σ:L2.St}{H:Hp}{s:Β}{c P:Addr}{params:Arguments}{body:Expr}{scope:Scope}{lpos:Pos}
def zl3(I:Inv X pins σ H s)(bm:BM X.mg X.base)(hcode:X.env.code=.ref c)(hC:codeHdIn X.K c P=Γ)(tb:TabIn H P (X.env.qual ++ "<lambda>"))(hdef:defaultsOf params X.env=([],[]))(hcl:closureFor scope X.env=pure [])(q:∀f H' s',Inv X pins σ H' s'->LamAt H' f "<lambda>" (X.env.qual ++ "<lambda>") params body scope->TabIn H' P (X.env.qual ++ "<lambda>")->StepT P H H'->Q (.ref f) s'):
  wpAny (model X.prog X.w) X.A (eval (.Lambda params body scope lpos) X.env) Q E s:=by
 obtain⟨ps,h1,h2,h3⟩:=tb;have C:=PySem.W.codeHd_of_K I.kIn hC;have hP:s.heap.get? P=Φ (tabObj ps):=I.hok P _ h1;have hb:=bm.at_ I h1;have hg:s.heap.Ns mainGlobals X.mg:=I.mod.glob.keeps I.bk;have hPl:P<s.heap.objs.size:=Η hP;refine PySem.W.kla_eval hdef ?_;cases hf:codeAmong lpos ps.toList with
 |some cv=>
  obtain⟨c',oc,vs,t,rfl,a2,a3,a4⟩:=h3 lpos cv hf;refine PySem.W.kla_makeFunctionHit hcl I.ok.glob hg hcode C hP h2 hf hb λctv h' tk hk hsz=>?_;have hn:H h'.objs.size=Ψ:=I.hok.fresh hsz;have ow:Own X pins h'.objs.size:=Own.fresh I hsz;have I1:Inv X pins σ H {s with heap:=h'.push (kla_obj "<lambda>" (X.env.qual ++ "<lambda>") params body scope [] ((X.mg "__name__").getD .none) c' ctv),toks:=tk}:=zaD (g':=s.gens) (t':=tk) (d':=s.drawn) (ch:=[]) I (λb hb=>by cases hb) (λb hb=>by cases hb) (λb o _ e=>Λ _ (hk b o e)) I.bare;have I2:=zbX (o:=.frz (kla_obj "<lambda>" (X.env.qual ++ "<lambda>") params body scope [] ((X.mg "__name__").getD .none) c' ctv) (.own 0)) I1 ow hn ⟨Κ _ rfl,_,Κ _ rfl⟩;have st:∀a o,H a=Φ o->upd H h'.objs.size (.frz (kla_obj "<lambda>" (X.env.qual ++ "<lambda>") params body scope [] ((X.mg "__name__").getD .none) c' ctv) (.own 0)) a=Φ o:=λa o e=>by rw[zah (zai e hn)];exact e
  refine q _ _ _ I2 ⟨_,ctv,c',oc,vs,t,zak,st _ _ a2,a3,a4⟩ ?_ ⟨λa o _ e=>st a o e,λps' e=>⟨#[],by rw[st _ _ e];simp⟩⟩;exact TabIn.up ⟨ps,h1,h2,h3⟩ (by rw[st _ _ h1,h1]) λb o u e=>st _ _ e
 |none=>
  have hgP:mainGlobals≠P:=λz=>by obtain⟨o,es,ep,e,hd,_⟩:=hg;rw[z,hP]at e;cases e;cases hd
  refine PySem.W.kla_makeFunction hcl I.ok.glob hg hcode C hP h2 hf hgP hb λc' ctv h' tk hx hge hlt hrec htb=>?_;obtain⟨c2,oc,vs,t,e2,hoc,hd,hv⟩:=hrec;cases e2;generalize hfo:kla_obj "<lambda>" (X.env.qual ++ "<lambda>") params body scope [] ((X.mg "__name__").getD .none) c' ctv=fo;have hfr:(h'.push fo).get? h'.objs.size=Φ fo:=by rw[<-hfo];exact Κ _ rfl
  have hfn:H h'.objs.size=Ψ:=I.hok.fresh (le_trans hge (le_of_lt hlt));have hcn:H c'=Ψ:=I.hok.fresh hge;have nPc:P≠c':=ne_of_lt (lt_of_lt_of_le hPl hge);have nPf:P≠h'.objs.size:=ne_of_lt (lt_trans (lt_of_lt_of_le hPl hge) hlt);have ncf:c'≠h'.objs.size:=ne_of_lt hlt;have st:∀a o,a≠P->H a=Φ o->upd (upd (upd H P (.tbl (ps ++ #[rawInt lpos.line,rawInt lpos.col,.ref c']))) c' (.frz oc (.own 0))) h'.objs.size (.frz fo (.own 0)) a=Φ o:=λa o n e=>by rw[zah (zai e hfn),zah (zai e hcn),zah n];exact e
  have atP:upd (upd (upd H P (.tbl (ps ++ #[rawInt lpos.line,rawInt lpos.col,.ref c']))) c' (.frz oc (.own 0))) h'.objs.size (.frz fo (.own 0)) P=Φ (.tbl (ps ++ #[rawInt lpos.line,rawInt lpos.col,.ref c'])):=by rw[zah nPf,zah nPc,zak]
  have atC:upd (upd (upd H P (.tbl (ps ++ #[rawInt lpos.line,rawInt lpos.col,.ref c']))) c' (.frz oc (.own 0))) h'.objs.size (.frz fo (.own 0)) c'=Φ (.frz oc (.own 0)):=by rw[zah ncf,zak]
  have hno:∀a,H a=Ψ->a≠P:=λa e z=>by rw[z,h1]at e;cases e
  have keep:∀b o,b≠P->s.heap.get? b=Φ o->(h'.push fo).get? b=Φ o:=λb o n e=>Λ _ (hx b o n e);have inv:Inv X pins σ (upd (upd (upd H P (.tbl (ps ++ #[rawInt lpos.line,rawInt lpos.col,.ref c']))) c' (.frz oc (.own 0))) h'.objs.size (.frz fo (.own 0))) {s with heap:=h'.push fo,toks:=tk}:=by refine I.call (g':=s.gens) (t':=tk) (d':=s.drawn) (ch:=[]) ⟨λb o e n _ _=>keep b o (hno b n) e,λb o e n _ _=>⟨o.slots,keep b o (hno b n) e⟩,λb o e n _=>?_,λb o e _=>?_,λb xs e=>?_,λb o u e=>?_,λb ps' e=>?_⟩ ?_ I.bare (λb hb=>by cases hb);have hb:=Η e;rw[zah (ne_of_lt (lt_trans (lt_of_lt_of_le hb hge) hlt)),zah (ne_of_lt (lt_of_lt_of_le hb hge)),zah (hno b n)];exact n;by_cases z:b=P;subst z;exact⟨_,Λ _ htb⟩;exact⟨o,keep b o z e⟩;exact st b _ (λz=>by rw[z,h1]at e;cases e) e;exact st b _ (λz=>by rw[z,h1]at e;cases e) e;by_cases z:b=P;subst z;rw[h1]at e;cases e;exact⟨_,atP⟩;exact⟨#[],by rw[st b _ z e];simp⟩;intro a u e;by_cases zf:a=h'.objs.size;subst zf;rw[zak]at e;cases e;exact⟨hfr,_,hfr⟩;rw[zah zf]at e;by_cases zc:a=c';subst zc;rw[zak]at e;cases e;exact⟨Λ _ hoc,_,Λ _ hoc⟩;rw[zah zc]at e;by_cases zp:a=P;subst zp;rw[zak]at e;cases e;exact Λ _ htb;rw[zah zp]at e;refine(I.hok a u e).stay (λb o hb e'=>keep b o ?_ e') (λb e'=>st b _ (λz=>by rw[z,h1]at e';cases e') e') λb xs e'=>st b _ (λz=>by rw[z,h1]at e';cases e') e';rcases hb with rfl|hb;exact zp;intro z;rw[z,h1]at hb;cases hb
  refine q _ _ _ inv ⟨_,ctv,c',oc,vs,t,by rw[zak,<-hfo],atC,hd,hv⟩ ?_ ⟨λa o n e=>st a o n e,λps' e=>by rw[h1]at e;cases e;exact⟨_,atP⟩⟩;refine⟨_,atP,?_,λpos v e=>?_⟩;have:=TriplesOk_snoc lpos.line lpos.col (.ref c') ps.toList h2;simpa using this;have e':codeAmong pos (ps.toList++[rawInt lpos.line,rawInt lpos.col,.ref c'])=Φ v:=by simpa using e
  rcases zfl h2 e' with z|z;obtain⟨d,od,ws,u,a1,a2,a3⟩:=h3 pos v z;exact⟨d,od,ws,u,a1,st _ _ (λy=>by rw[y,h1]at a2;cases a2) a2,a3⟩;exact⟨c',oc,vs,t,z,atC,hd,hv⟩
end
abbrev oneK(k:VK)(vs:List V)(H:Hp):Prop:=match vs with | [w]=>k w H|_=>False
def zcH(h:oneK k vs H):∃w,vs=[w]/\k w H:=by unfold oneK at h;split at h;exact⟨_,rfl,h⟩;exact h.elim
abbrev tLam(q:Str)(params:Arguments)(body:Expr)(scope:Scope):TE:=λσ H Q=>TB H/\∀f H',LamAt H' f "<lambda>" q params body scope->Ext [] H [] H'->Q (.ref f) H'
section
variable{X:Cx}{o:Expr}{p apos cpos kpos lpos pos:Pos}{td:TE}{c P:Addr}{params:Arguments}{body:Expr}{scope:Scope}
def zmY(mk:Maker X c P)(hdef:defaultsOf params X.env=([],[]))(hcl:closureFor scope X.env=pure []):PE X (.Lambda params body scope lpos) (tLam (X.env.qual ++ "<lambda>") params body scope):=by intro pins s σ H Q I h;obtain⟨ps,hP,_⟩:=id (h.1 _ mk.mem);refine zl3 I mk.bm mk.code mk.hd (h.1 _ mk.mem) hdef hcl λf H' s' J L T S=>⟨.ref f,H',J,rfl,h.2 f H' L (S.ext hP λp hp=>?_)⟩;by_cases z:p.1=P;rw[mk.one p hp z,z];exact T;obtain⟨qs,hq,_⟩:=id (h.1 p hp);exact(h.1 p hp).up ((S.rest _ _ z hq).trans hq.symm) λb o u e=>S.rest b _ (λy=>by rw[y]at e;rw[hP]at e;cases e) e
end
end R
namespace R
namespace Sr
open PySem PyProof.Rows
abbrev za7:Bool->Keyed->Array Keyed->Nat->Nat->Nat->StateT SortSt Sem (Option Nat):=sortPriv% PySem.Builtin.gallop
abbrev zdq:Array Keyed->Array Keyed->StateT SortSt Sem (Array Keyed):=sortPriv% PySem.Builtin.mergeLo
abbrev zdr:Array Keyed->Array Keyed->StateT SortSt Sem (Array Keyed):=sortPriv% PySem.Builtin.mergeHi
noncomputable abbrev setG(st:SortSt)(g:Nat):SortSt:=SortSt.mk' (kindOf st) (arrOf st) (pendingOf st) g (failedOf st)
abbrev zeA(left:Bool)(key:Keyed)(arr:Array Keyed)(base i:Nat):StateT SortSt Sem (Option Bool):=do
 let x <-elem' arr (base+i)
 if left then lt' x key else return (<-lt' key x).map (!·)
def ziK(left:Bool)(key:Keyed)(arr:Array Keyed)(base n hint:Nat):za7 left key arr base n hint=(do
 let mut lastofs:=0;let mut ofs:=1;let mut lo:=0;let mut hi:=0
 let Φ right <-zeA left key arr base hint|return Ψ
 if right then
  let maxofs:=n-hint
  for _ in [0:n] do
   if ofs≥maxofs then break
   let Φ more <-zeA left key arr base (hint+ofs)|return Ψ
   if !more then break
   lastofs:=ofs
   ofs:=2*ofs+1
  lo:=hint+lastofs+1
  hi:=hint+min ofs maxofs
 else
  let maxofs:=hint+1
  for _ in [0:n] do
   if ofs≥maxofs then break
   let Φ found <-zeA left key arr base (hint-ofs)|return Ψ
   if found then break
   lastofs:=ofs
   ofs:=2*ofs+1
  lo:=hint+1-min ofs maxofs
  hi:=hint-lastofs
 for _ in [0:n] do
  if lo≥hi then break
  let m:=lo+(hi-lo)/2
  let Φ more <-zeA left key arr base m|return Ψ
  if more then lo:=m+1 else hi:=m
 return Φ hi):=rfl
def zgG(a b:Array Keyed):zdq a b=(do
 rule "list.sort.merge-lo"
 let mut out:Array Keyed:=#[<-elem' b 0];let mut ia:=0;let mut ib:=1
 if ib==b.size then return out++a.extract ia a.size++b.extract ib b.size
 if ia+1==a.size then return out++b.extract ib b.size++a.extract ia a.size
 let mut minGallop:=gallopOf (<-get)
 for _ in [0:a.size+b.size] do
  let mut acount:=0;let mut bcount:=0
  for _ in [0:a.size+b.size] do
   let Φ bWins <-lt' (<-elem' b ib) (<-elem' a ia)|return out++a.extract ia a.size++b.extract ib b.size
   if bWins then
    out:=out.push (<-elem' b ib);ib:=ib+1;bcount:=bcount+1;acount:=0
    if ib==b.size then return out++a.extract ia a.size++b.extract ib b.size
    if bcount≥minGallop then break
   else
    out:=out.push (<-elem' a ia);ia:=ia+1;acount:=acount+1;bcount:=0
    if ia+1==a.size then return out++b.extract ib b.size++a.extract ia a.size
    if acount≥minGallop then break
  rule "list.sort.gallop"
  minGallop:=minGallop+1
  for _ in [0:a.size+b.size] do
   if minGallop>1 then minGallop:=minGallop-1
   modify (setG · minGallop)
   let Φ k <-za7 Δ (<-elem' b ib) a ia (a.size-ia) 0|return out++a.extract ia a.size++b.extract ib b.size
   acount:=k
   if k>0 then
    out:=out++a.extract ia (ia+k);ia:=ia+k
    if ia+1==a.size then return out++b.extract ib b.size++a.extract ia a.size
    if ia==a.size then return out++a.extract ia a.size++b.extract ib b.size
   out:=out.push (<-elem' b ib);ib:=ib+1
   if ib==b.size then return out++a.extract ia a.size++b.extract ib b.size
   let Φ k <-za7 Γ (<-elem' a ia) b ib (b.size-ib) 0|return out++a.extract ia a.size++b.extract ib b.size
   bcount:=k
   if k>0 then
    out:=out++b.extract ib (ib+k);ib:=ib+k
    if ib==b.size then return out++a.extract ia a.size++b.extract ib b.size
   out:=out.push (<-elem' a ia);ia:=ia+1
   if ia+1==a.size then return out++b.extract ib b.size++a.extract ia a.size
   if acount<7&&bcount<7 then break
  minGallop:=minGallop+1
  modify (setG · minGallop)
 unsupported "internal:list.sort.merge-bound"):=rfl
def zgH(a b:Array Keyed):zdr a b=(do
 rule "list.sort.merge-hi"
 let mut na:=a.size-1;let mut nb:=b.size;let mut out:Array Keyed:=#[<-elem' a na]
 if na==0 then return a.extract 0 na++b.extract 0 nb++out.reverse
 if nb==1 then return b.extract 0 nb++a.extract 0 na++out.reverse
 let mut minGallop:=gallopOf (<-get)
 for _ in [0:a.size+b.size] do
  let mut acount:=0;let mut bcount:=0
  for _ in [0:a.size+b.size] do
   let Φ aWins <-lt' (<-elem' b (nb-1)) (<-elem' a (na-1))|return a.extract 0 na++b.extract 0 nb++out.reverse
   if aWins then
    na:=na-1;out:=out.push (<-elem' a na);acount:=acount+1;bcount:=0
    if na==0 then return a.extract 0 na++b.extract 0 nb++out.reverse
    if acount≥minGallop then break
   else
    nb:=nb-1;out:=out.push (<-elem' b nb);bcount:=bcount+1;acount:=0
    if nb==1 then return b.extract 0 nb++a.extract 0 na++out.reverse
    if bcount≥minGallop then break
  rule "list.sort.gallop"
  minGallop:=minGallop+1
  for _ in [0:a.size+b.size] do
   if minGallop>1 then minGallop:=minGallop-1
   modify (setG · minGallop)
   let Φ at_ <-za7 Δ (<-elem' b (nb-1)) a 0 na (na-1)|return a.extract 0 na++b.extract 0 nb++out.reverse
   let k:=na-at_
   acount:=k
   if k>0 then
    out:=out++(a.extract at_ na).reverse;na:=at_
    if na==0 then return a.extract 0 na++b.extract 0 nb++out.reverse
   nb:=nb-1;out:=out.push (<-elem' b nb)
   if nb==1 then return b.extract 0 nb++a.extract 0 na++out.reverse
   let Φ at_ <-za7 Γ (<-elem' a (na-1)) b 0 nb (nb-1)|return a.extract 0 na++b.extract 0 nb++out.reverse
   let k:=nb-at_
   bcount:=k
   if k>0 then
    out:=out++(b.extract at_ nb).reverse;nb:=at_
    if nb==1 then return b.extract 0 nb++a.extract 0 na++out.reverse
    if nb==0 then return a.extract 0 na++b.extract 0 nb++out.reverse
   na:=na-1;out:=out.push (<-elem' a na)
   if na==0 then return a.extract 0 na++b.extract 0 nb++out.reverse
   if acount<7&&bcount<7 then break
  minGallop:=minGallop+1
  modify (setG · minGallop)
 unsupported "internal:list.sort.merge-bound"):=rfl
def zgI(i:Nat):mergeAt' i=(do
 let s <-get
 let (Φ (sa,na,power),Φ (sb,nb,_)):=((pendingOf s)[i]?,(pendingOf s)[i+1]?)|unsupported "internal:list.sort.pending"
 set (setPending s (((pendingOf s).setIfInBounds i (sa,na+nb,power)).eraseIdxIfInBounds (i+1)))
 let Φ k <-za7 Δ (<-elem' (arrOf s) sb) (arrOf s) sa na 0|return Δ
 let (sa,na):=(sa+k,na-k)
 if na==0 then return Γ
 let Φ nb <-za7 Γ (<-elem' (arrOf s) (sa+na-1)) (arrOf s) sb nb (nb-1)|return Δ
 if nb==0 then return Γ
 let x:=(arrOf s).extract sa sb;let y:=(arrOf s).extract sb (sb+nb);let merged <-if na<=nb then zdq x y else zdr x y
 modify λs=>setArr s (merged.toList.zipIdx.foldl (λa (p,j)=>a.setIfInBounds (sa+j) p) (arrOf s))
 return (failedOf (<-get)).isNone):=rfl
section
variable{prog:ϊ}{w:ύ}{A:ϔ}{E:Θ->Β->Prop}{s:Β}{κ:SortKind}{rk:Keyed->Int}{T:List Keyed}
abbrev Looks(prog:ϊ)(w:ύ)(A:ϔ)(s:Β)(κ:SortKind)(rk:Keyed->Int)(T:List Keyed):Prop:=∀x y (C:Bool->Β->Prop),x∈T->y∈T->C (decide (rk x<rk y)) s->wpAny (model prog w) A (keyLt' κ x.1 y.1) C (λ_ _=>False) s
def zjZ(hc:Looks prog w A s κ rk T){x y:Keyed}{st:SortSt}{Q:Option Bool->SortSt->Prop}(hx:x∈T)(hy:y∈T)(hk:kindOf st=κ)(h:Q (Φ (decide (rk x<rk y))) st):wpS (model prog w) A E s (lt' x y) Q st:=by rw[lt'_eq];refine Ε (wpS_get ?_);rw[hk];refine Ε (wpS_lift (wpAny_attempt (ϑ (hc x y (λb s'=>s'=s/\b=decide (rk x<rk y)) hx hy ⟨rfl,rfl⟩) ?_ λ_ _ z=>z.elim)));rintro b s' ⟨rfl,rfl⟩;exact⟨rfl,Ι h⟩
def zav{a:Array Keyed}{i:Nat}{st:SortSt}{Q:Keyed->SortSt->Prop}(hi:i<a.size)(h:Q a[i] st):wpS (model prog w) A E s (elem' a i) Q st:=by rw[elem'_eq,getElem?_pos a i hi];exact Ι h
structure Cut(b:Nat->Bool)(n k:Nat):Prop where
 le:k<=n
 yes:∀i,i<k->b i=Γ
 no:∀i,k<=i->i<n->b i=Δ
def znd{bey:Nat->StateT SortSt Sem (Option Bool)}{b:Nat->Bool}{n:Nat}{st:SortSt}{Q:Option Nat->SortSt->Prop}(ask:∀i {Q:Option Bool->SortSt->Prop},i<n->Q (Φ (b i)) st->wpS (model prog w) A E s (bey i) Q st){lo hi:Nat}(h1:lo<=hi)(h2:hi<=n)
  (mono:∀i j,i<=j->j<n->b j=Γ->b i=Γ) (h3:∀i,i<lo->b i=Γ) (h4:∀i,hi<=i->i<n->b i=Δ) (h:∀k,Cut b n k->Q (Φ k) st) :
  wpS (model prog w) A E s (do
   let mut lo:=lo;let mut hi:=hi
   for _ in [0:n] do
    if lo≥hi then break
    let m:=lo+(hi-lo)/2
    let Φ more <-bey m|return Ψ
    if more then lo:=m+1 else hi:=m
   return Φ hi) Q st:=by
 dsimp only;refine Ε (Ϛ (ϗ (I:=λx c st'=>st'=st/\∃lo hi,c=(Ψ,lo,hi)/\lo<=hi/\hi<=n/\hi-lo<=n-x/\(∀i,i<lo->b i=Γ)/\(∀i,hi<=i->i<n->b i=Δ))
  (Q:=λc st'=>st'=st/\∃lo k,c=(Ψ,lo,k)/\Cut b n k) ?_ ?_ ⟨rfl,lo,hi,rfl,h1,h2,by lia,h3,h4⟩) ?_)
 rintro x c st' _ hx ⟨rfl,lo,hi,rfl,a1,a2,a3,a4,a5⟩;dsimp only;by_cases z:lo≥hi;rw[if_pos z];exact Ι ⟨rfl,lo,hi,rfl,a2,λi hi=>a4 i (by lia),a5⟩;rw[if_neg z];refine Ε (ask _ (by lia) ?_);dsimp only;cases eb:b (lo+(hi-lo)/2) with|true=>exact Ι ⟨rfl,_,_,rfl,by lia,a2,by lia,λi hi=>mono i _ (Nat.le_of_lt_succ hi) (by lia) eb,a5⟩| false=>refine Ι ⟨rfl,_,_,rfl,by lia,by lia,by lia,a4,λi h1 h2=>?_⟩;cases e:b i with|false=>rfl|true=>rw[mono _ i h1 h2 e]at eb;cases eb
 rintro c st' ⟨rfl,lo,hi,rfl,a1,a2,a3,a4,a5⟩;exact⟨rfl,lo,hi,rfl,a2,λi hi=>a4 i (by lia),a5⟩;rintro c st' ⟨rfl,lo,k,rfl,ck⟩;exact Ι (h k ck)
def zbx{left:Bool}{key:Keyed}{arr:Array Keyed}{base n hint:Nat}{st:SortSt}{Q:Option Nat->SortSt->Prop}(b:Nat->Bool)(hc:Looks prog w A s κ rk T)(hk:kindOf st=κ)(hkey:key∈T)(hT:∀i (h:i<arr.size),arr[i]∈T)(hn:base+n<=arr.size)(hh:hint<n)
  (hb:∀i (h:base+i<arr.size),i<n->b i=if left then decide (rk arr[base+i]<rk key) else !decide (rk key<rk arr[base+i]))
  (mono:∀i j,i<=j->j<n->b j=Γ->b i=Γ) (h:∀k,Cut b n k->Q (Φ k) st):wpS (model prog w) A E s (za7 left key arr base n hint) Q st:=by
 have ask:∀i {Q:Option Bool->SortSt->Prop},i<n->Q (Φ (b i)) st->wpS (model prog w) A E s (zeA left key arr base i) Q st:=λi Q hi q=>by refine Ε (zav (show base+i<arr.size by lia) ?_);rw[hb i (by lia) hi]at q;cases left;exact Ε (zjZ hc hkey (hT _ _) hk (Ι q));exact zjZ hc (hT _ _) hkey hk q
 have mono':∀i j,i<=j->j<n->b i=Δ->b j=Δ:=λi j h1 h2 e=>by cases z:b j with|false=>rfl|true=>rw[mono i j h1 h2 z]at e;cases e
 rw[ziK];dsimp only;refine Ε (ask hint hh ?_);dsimp only;cases eh:b hint with
 |true=>
  rw[if_pos rfl];refine Ε (Ϛ (ϗ (I:=λx c st'=>st'=st/\∃l o,c=(Ψ,l,o)/\l<o/\l<n-hint/\x<o/\b (hint+l)=Γ)
   (Q:=λc st'=>st'=st/\∃l o,c=(Ψ,l,o)/\l<o/\l<n-hint/\b (hint+l)=Γ/\(o<n-hint->b (hint+o)=Δ)) ?_ ?_ ⟨rfl,0,1,rfl,by lia,by lia,by lia,eh⟩) ?_)
  rintro x c st' _ hx ⟨rfl,l,o,rfl,a1,a2,a3,a4⟩;dsimp only;by_cases z:o≥n-hint;rw[if_pos z];exact Ι ⟨rfl,l,o,rfl,a1,a2,a4,λ_=>by lia⟩;rw[if_neg z];refine Ε (ask _ (by lia) ?_);dsimp only;cases eb:b (hint+o) with|false=>exact Ι ⟨rfl,l,o,rfl,a1,a2,a4,λ_=>eb⟩|true=>exact Ι ⟨rfl,o,_,rfl,by lia,by lia,by lia,eb⟩
  rintro c st' ⟨rfl,l,o,rfl,a1,a2,a3,a4⟩;exact⟨rfl,l,o,rfl,a1,a2,a4,λ_=>by lia⟩;rintro c st' ⟨rfl,l,o,rfl,a1,a2,a3,a4⟩;dsimp only;exact znd ask (by lia) (by lia) mono (λi hi=>mono i (hint+l) (by lia) (by lia) a3) (λi h1 h2=>by by_cases z:o<n-hint;exact mono' _ i (by lia) h2 (a4 z);lia) h
 |false=>
  rw[if_neg Ζ];refine Ε (Ϛ (ϗ (I:=λx c st'=>st'=st/\∃l o,c=(Ψ,l,o)/\l<o/\l<hint+1/\x<o/\b (hint-l)=Δ)
   (Q:=λc st'=>st'=st/\∃l o,c=(Ψ,l,o)/\l<o/\l<hint+1/\b (hint-l)=Δ/\(o<hint+1->b (hint-o)=Γ)) ?_ ?_ ⟨rfl,0,1,rfl,by lia,by lia,by lia,eh⟩) ?_)
  rintro x c st' _ hx ⟨rfl,l,o,rfl,a1,a2,a3,a4⟩;dsimp only;by_cases z:o≥hint+1;rw[if_pos z];exact Ι ⟨rfl,l,o,rfl,a1,a2,a4,λ_=>by lia⟩;rw[if_neg z];refine Ε (ask _ (by lia) ?_);dsimp only;cases eb:b (hint-o) with|true=>exact Ι ⟨rfl,l,o,rfl,a1,a2,a4,λ_=>eb⟩|false=>exact Ι ⟨rfl,o,_,rfl,by lia,by lia,by lia,eb⟩
  rintro c st' ⟨rfl,l,o,rfl,a1,a2,a3,a4⟩;exact⟨rfl,l,o,rfl,a1,a2,a4,λ_=>by lia⟩;rintro c st' ⟨rfl,l,o,rfl,a1,a2,a3,a4⟩;dsimp only;exact znd ask (by lia) (by lia) mono (λi hi=>by by_cases z:o<hint+1;exact mono i _ (by lia) (by lia) (a4 z);lia) (λi h1 h2=>mono' _ i h1 h2 a3) h
end
section
variable{rk:Keyed->Int}{T out xs ys us:List Keyed}
abbrev Le(rk:Keyed->Int)(x y:Keyed):Prop:=rk x<=rk y
structure MI(rk:Keyed->Int)(T out xs ys:List Keyed):Prop where
 perm:(out++(xs++ys)).Perm T
 so:out.Pairwise (Le rk)
 sx:xs.Pairwise (Le rk)
 sy:ys.Pairwise (Le rk)
 lo:∀x∈out,∀y,y∈xs\/y∈ys->rk x<=rk y
def MI.swap(h:MI rk T out xs ys):MI rk T out ys xs:=⟨(List.Perm.append_left _ List.perm_append_comm).trans h.perm,h.so,h.sy,h.sx,λx hx y hy=>h.lo x hx y hy.symm⟩
def MI.push(h:MI rk T out (us++xs) ys)(hu:∀u∈us,∀y∈ys,rk u<=rk y):MI rk T (out++us) xs ys:=by have q:=List.pairwise_append.mp h.sx;refine⟨?_,List.pairwise_append.mpr ⟨h.so,q.1,λx hx y hy=>h.lo x hx y (.inl (mem_append_left _ hy))⟩,q.2.1,h.sy,λx hx y hy=>?_⟩;have:=h.perm;simpa only [append_assoc]using this;rcases mem_append.mp hx with z|z;exact h.lo x z y (hy.imp (mem_append_right _) id);rcases hy with hy|hy;exact q.2.2 x z y hy;exact hu x z y hy
abbrev InOrd(rk:Keyed->Int)(T l:List Keyed):Prop:=l.Perm T/\l.Pairwise (Le rk)
def MI.fin(h:MI rk T out xs []):InOrd rk T (out++xs):=⟨by simpa using h.perm,List.pairwise_append.mpr ⟨h.so,h.sx,λx hx y hy=>h.lo x hx y (.inl hy)⟩⟩
def MI.last(h:MI rk T out xs ys)(hu:∀u∈ys,∀y∈xs,rk u<=rk y):InOrd rk T (out++ys++xs):=by have:=MI.push (us:=ys) (xs:=[]) (by rw[Ϣ];exact h.swap) hu;exact this.swap.fin
def drop_at{l:List Keyed}{i:Nat}(hi:i<l.length):l.drop i=l[i]::l.drop (i+1):=List.drop_eq_getElem_cons hi
def zks{l:List Keyed}(hs:l.Pairwise (Le rk)){i j:Nat}(hj:j<l.length)(hi:i<=j):rk l[i]<=rk l[j]:=by by_cases e:i=j;subst e;exact Int.le_refl _;exact List.pairwise_iff_getElem.mp hs i j _ _ (by lia)
def zcc{l:List Keyed}{i:Nat}{y:Keyed}(h:y∈l.drop i):∃j,∃hj:j<l.length,i<=j/\y=l[j]:=by obtain⟨k,hk,e⟩:=List.mem_iff_getElem.mp h;rw[List.getElem_drop]at e;rw[List.length_drop]at hk;exact⟨i+k,by lia,by lia,e.symm⟩
def zjV{l:List Keyed}{i k:Nat}{y:Keyed}(h:y∈(l.drop i).take k):∃j,∃hj:i+j<l.length,j<k/\y=l[i+j]:=by obtain⟨j,hj,e⟩:=List.mem_iff_getElem.mp h;rw[List.getElem_take,List.getElem_drop]at e;rw[length_take,List.length_drop]at hj;exact⟨j,by omega,by omega,e.symm⟩
def zlg(l:List Keyed)(i k:Nat):l.drop i=(l.drop i).take k++l.drop (i+k):=by rw[<-List.drop_drop,List.take_append_drop]
def zkF(a:Array Keyed)(i k:Nat):(a.extract i (i+k)).toList=(a.toList.drop i).take k:=by rw[Array.toList_extract,List.extract_eq_take_drop];congr 1;lia
def zdu(a:Array Keyed)(i:Nat):(a.extract i a.size).toList=a.toList.drop i:=by rw[Array.toList_extract,List.extract_eq_take_drop,List.take_of_length_le (by simp)]
end
noncomputable abbrev Rt(β:Type):=ForInStep (Option (Array Keyed)×β)
abbrev mgO{β γ δ:Type}(t:Nat)(f1:γ->β)(f2:γ->β->γ)(f3:γ->β->δ)(f4 f5:δ->γ)(gg:δ->Nat)(L:γ->β->StateT SortSt Sem (Rt β))(G:δ->StateT SortSt Sem (Rt δ))(c:Option (Array Keyed)×γ):StateT SortSt Sem (Rt γ):=do
 let d <-forIn [0:t] ((Ψ,f1 c.2):Option (Array Keyed)×β) λ_ d=>L c.2 d.2
 match d.1 with
 |some r=>pure (.done (Φ r,f2 c.2 d.2))
 | none=>do
   rule "list.sort.gallop"
   let e <-forIn [0:t] ((Ψ,f3 c.2 d.2):Option (Array Keyed)×δ) λ_ e=>G e.2
   match e.1 with
   |some r=>pure (.done (Φ r,f4 e.2))
   | none=>do
     modify (setG · (gg e.2))
     pure (.yield (Ψ,f5 e.2))
abbrev mg{β γ δ:Type}(t:Nat)(f0:Nat->γ)(f1:γ->β)(f2:γ->β->γ)(f3:γ->β->δ)(f4 f5:δ->γ)(gg:δ->Nat)(L:γ->β->StateT SortSt Sem (Rt β))(G:δ->StateT SortSt Sem (Rt δ)):StateT SortSt Sem (Array Keyed):=do
 let g:=gallopOf (<-get);let c <-forIn [0:t] ((Ψ,f0 g):Option (Array Keyed)×γ) λ_ c=>mgO t f1 f2 f3 f4 f5 gg L G c
 match c.1 with|some r=>pure r|none=>unsupported "internal:list.sort.merge-bound"
abbrev loC(a b out:Array Keyed)(ia ib g k l:Nat):StateT SortSt Sem (Rt (Array Keyed×Nat×Nat×Nat×Nat×Nat)):=do
 let y <-elem' a ia
 if ia+1+1==a.size then pure (.done (Φ (out.push y++b.extract ib b.size++a.extract (ia+1) a.size),out.push y,ia+1,ib,g,k,l))
 else if k<7&&l<7 then pure (.done (Ψ,out.push y,ia+1,ib,g,k,l)) else pure (.yield (Ψ,out.push y,ia+1,ib,g,k,l))
abbrev loB(a b out:Array Keyed)(ia ib g k l:Nat):StateT SortSt Sem (Rt (Array Keyed×Nat×Nat×Nat×Nat×Nat)):=do
 let y <-elem' b ib
 if ib+1==b.size then pure (.done (Φ (out.push y++a.extract ia a.size++b.extract (ib+1) b.size),out.push y,ia,ib+1,g,k,l))
 else do
  match <-za7 Γ (<-elem' a ia) b (ib+1) (b.size-(ib+1)) 0 with
  |some m=>
   if m>0 then
    if ib+1+m==b.size then pure (.done (Φ (out.push y++b.extract (ib+1) (ib+1+m)++a.extract ia a.size++b.extract (ib+1+m) b.size),out.push y++b.extract (ib+1) (ib+1+m),ia,ib+1+m,g,k,m))
    else loC a b (out.push y++b.extract (ib+1) (ib+1+m)) ia (ib+1+m) g k m
   else loC a b (out.push y) ia (ib+1) g k m
  |_=>pure (.done (Φ (out.push y++a.extract ia a.size++b.extract (ib+1) b.size),out.push y,ia,ib+1,g,k,l))
abbrev loA(a b out:Array Keyed)(ia ib g k l:Nat):StateT SortSt Sem (Rt (Array Keyed×Nat×Nat×Nat×Nat×Nat)):=do
 modify (setG · g)
 match <-za7 Δ (<-elem' b ib) a ia (a.size-ia) 0 with
 |some m=>
  if m>0 then
   if ia+m+1==a.size then pure (.done (Φ (out++a.extract ia (ia+m)++b.extract ib b.size++a.extract (ia+m) a.size),out++a.extract ia (ia+m),ia+m,ib,g,m,l))
   else if ia+m==a.size then pure (.done (Φ (out++a.extract ia (ia+m)++a.extract (ia+m) a.size++b.extract ib b.size),out++a.extract ia (ia+m),ia+m,ib,g,m,l))
   else loB a b (out++a.extract ia (ia+m)) (ia+m) ib g m l
  else loB a b out ia ib g m l
 |_=>pure (.done (Φ (out++a.extract ia a.size++b.extract ib b.size),out,ia,ib,g,k,l))
abbrev loL(a b:Array Keyed)(g:Nat)(out:Array Keyed)(i j k l:Nat):StateT SortSt Sem (Rt (Array Keyed×Nat×Nat×Nat×Nat)):=do
 match <-lt' (<-elem' b j) (<-elem' a i) with
 |some z=>
  if z then
   let y <-elem' b j
   if j+1==b.size then pure (.done (Φ (out.push y++a.extract i a.size++b.extract (j+1) b.size),out.push y,i,j+1,0,l+1))
   else if l+1≥g then pure (.done (Ψ,out.push y,i,j+1,0,l+1)) else pure (.yield (Ψ,out.push y,i,j+1,0,l+1))
  else
   let y <-elem' a i
   if i+1+1==a.size then pure (.done (Φ (out.push y++b.extract j b.size++a.extract (i+1) a.size),out.push y,i+1,j,k+1,0))
   else if k+1≥g then pure (.done (Ψ,out.push y,i+1,j,k+1,0)) else pure (.yield (Ψ,out.push y,i+1,j,k+1,0))
 |_=>pure (.done (Φ (out++a.extract i a.size++b.extract j b.size),out,i,j,k,l))
abbrev loM(a b out:Array Keyed)(i j:Nat):StateT SortSt Sem (Array Keyed):=
 mg (a.size+b.size) (λg=>(out,i,j,g)) (λc=>(c.1,c.2.1,c.2.2.1,0,0)) (λc d=>(d.1,d.2.1,d.2.2.1,c.2.2.2)) (λc d=>(d.1,d.2.1,d.2.2.1,c.2.2.2+1,d.2.2.2.1,d.2.2.2.2))
  (λe=>(e.1,e.2.1,e.2.2.1,e.2.2.2.1)) (λe=>(e.1,e.2.1,e.2.2.1,e.2.2.2.1+1)) (λe=>e.2.2.2.1+1) (λc d=>loL a b c.2.2.2 d.1 d.2.1 d.2.2.1 d.2.2.2.1 d.2.2.2.2)
  λe=>if e.2.2.2.1>1 then loA a b e.1 e.2.1 e.2.2.1 (e.2.2.2.1-1) e.2.2.2.2.1 e.2.2.2.2.2 else loA a b e.1 e.2.1 e.2.2.1 e.2.2.2.1 e.2.2.2.2.1 e.2.2.2.2.2
def ziv(a b:Array Keyed):zdq a b=(do
 rule "list.sort.merge-lo"
 let y <-elem' b 0
 if 1==b.size then return #[y]++a.extract 0 a.size++b.extract 1 b.size
 if 0+1==a.size then return #[y]++b.extract 1 b.size++a.extract 0 a.size
 loM a b #[y] 0 1):=by
 rw[zgG];dsimp only;unfold loM mg;refine congrArg (bind _) (funext λ_=>congrArg (bind _) (funext λy=>?_));refine ite_congr rfl (λ_=>rfl) λ_=>ite_congr rfl (λ_=>rfl) λ_=>?_;refine congrArg (bind _) (funext λg=>?_);congr 1;congr 1;funext x c;unfold mgO;congr 1;funext d;cases d.1 with|some r=>rfl| none=>dsimp only;refine congrArg (bind _) (funext λ_=>?_);congr 1;funext e;cases e.1<;>rfl
 . funext c;cases c.1<;>rfl
abbrev hiC(a b out:Array Keyed)(na nb g k l:Nat):StateT SortSt Sem (Rt (Nat×Nat×Array Keyed×Nat×Nat×Nat)):=do
 let y <-elem' a (na-1)
 if na-1==0 then pure (.done (Φ (a.extract 0 (na-1)++b.extract 0 nb++(out.push y).reverse),na-1,nb,out.push y,g,k,l))
 else if k<7&&l<7 then pure (.done (Ψ,na-1,nb,out.push y,g,k,l)) else pure (.yield (Ψ,na-1,nb,out.push y,g,k,l))
abbrev hiB(a b out:Array Keyed)(na nb g k l:Nat):StateT SortSt Sem (Rt (Nat×Nat×Array Keyed×Nat×Nat×Nat)):=do
 let y <-elem' b (nb-1)
 if nb-1==1 then pure (.done (Φ (b.extract 0 (nb-1)++a.extract 0 na++(out.push y).reverse),na,nb-1,out.push y,g,k,l))
 else do
  match <-za7 Γ (<-elem' a (na-1)) b 0 (nb-1) (nb-1-1) with
  |some m=>
   if nb-1-m>0 then
    if m==1 then pure (.done (Φ (b.extract 0 m++a.extract 0 na++(out.push y++(b.extract m (nb-1)).reverse).reverse),na,m,out.push y++(b.extract m (nb-1)).reverse,g,k,nb-1-m))
    else if m==0 then pure (.done (Φ (a.extract 0 na++b.extract 0 m++(out.push y++(b.extract m (nb-1)).reverse).reverse),na,m,out.push y++(b.extract m (nb-1)).reverse,g,k,nb-1-m))
    else hiC a b (out.push y++(b.extract m (nb-1)).reverse) na m g k (nb-1-m)
   else hiC a b (out.push y) na (nb-1) g k (nb-1-m)
  |_=>pure (.done (Φ (a.extract 0 na++b.extract 0 (nb-1)++(out.push y).reverse),na,nb-1,out.push y,g,k,l))
abbrev hiA(a b out:Array Keyed)(na nb g k l:Nat):StateT SortSt Sem (Rt (Nat×Nat×Array Keyed×Nat×Nat×Nat)):=do
 modify (setG · g)
 match <-za7 Δ (<-elem' b (nb-1)) a 0 na (na-1) with
 |some m=>
  if na-m>0 then
   if m==0 then pure (.done (Φ (a.extract 0 m++b.extract 0 nb++(out++(a.extract m na).reverse).reverse),m,nb,out++(a.extract m na).reverse,g,na-m,l))
   else hiB a b (out++(a.extract m na).reverse) m nb g (na-m) l
  else hiB a b out na nb g (na-m) l
 |_=>pure (.done (Φ (a.extract 0 na++b.extract 0 nb++out.reverse),na,nb,out,g,k,l))
abbrev hiL(a b:Array Keyed)(g:Nat)(out:Array Keyed)(i j k l:Nat):StateT SortSt Sem (Rt (Nat×Nat×Array Keyed×Nat×Nat)):=do
 match <-lt' (<-elem' b (j-1)) (<-elem' a (i-1)) with
 |some z=>
  if z then
   let y <-elem' a (i-1)
   if i-1==0 then pure (.done (Φ (a.extract 0 (i-1)++b.extract 0 j++(out.push y).reverse),i-1,j,out.push y,k+1,0))
   else if k+1≥g then pure (.done (Ψ,i-1,j,out.push y,k+1,0)) else pure (.yield (Ψ,i-1,j,out.push y,k+1,0))
  else
   let y <-elem' b (j-1)
   if j-1==1 then pure (.done (Φ (b.extract 0 (j-1)++a.extract 0 i++(out.push y).reverse),i,j-1,out.push y,0,l+1))
   else if l+1≥g then pure (.done (Ψ,i,j-1,out.push y,0,l+1)) else pure (.yield (Ψ,i,j-1,out.push y,0,l+1))
 |_=>pure (.done (Φ (a.extract 0 i++b.extract 0 j++out.reverse),i,j,out,k,l))
abbrev hiM(a b out:Array Keyed)(i j:Nat):StateT SortSt Sem (Array Keyed):=
 mg (a.size+b.size) (λg=>(i,j,out,g)) (λc=>(c.1,c.2.1,c.2.2.1,0,0)) (λc d=>(d.1,d.2.1,d.2.2.1,c.2.2.2)) (λc d=>(d.1,d.2.1,d.2.2.1,c.2.2.2+1,d.2.2.2.1,d.2.2.2.2))
  (λe=>(e.1,e.2.1,e.2.2.1,e.2.2.2.1)) (λe=>(e.1,e.2.1,e.2.2.1,e.2.2.2.1+1)) (λe=>e.2.2.2.1+1) (λc d=>hiL a b c.2.2.2 d.2.2.1 d.1 d.2.1 d.2.2.2.1 d.2.2.2.2)
  λe=>if e.2.2.2.1>1 then hiA a b e.2.2.1 e.1 e.2.1 (e.2.2.2.1-1) e.2.2.2.2.1 e.2.2.2.2.2 else hiA a b e.2.2.1 e.1 e.2.1 e.2.2.2.1 e.2.2.2.2.1 e.2.2.2.2.2
def zix(a b:Array Keyed):zdr a b=(do
 rule "list.sort.merge-hi"
 let y <-elem' a (a.size-1)
 if a.size-1==0 then return a.extract 0 (a.size-1)++b.extract 0 b.size ++ #[y].reverse
 if b.size==1 then return b.extract 0 b.size++a.extract 0 (a.size-1) ++ #[y].reverse
 hiM a b #[y] (a.size-1) b.size):=by
 rw[zgH];dsimp only;unfold hiM mg;refine congrArg (bind _) (funext λ_=>congrArg (bind _) (funext λy=>?_));refine ite_congr rfl (λ_=>rfl) λ_=>ite_congr rfl (λ_=>rfl) λ_=>?_;refine congrArg (bind _) (funext λg=>?_);congr 1;congr 1;funext x c;unfold mgO;congr 1;funext d;cases d.1 with|some r=>rfl| none=>dsimp only;refine congrArg (bind _) (funext λ_=>?_);congr 1;funext e;cases e.1<;>rfl
 . funext c;cases c.1<;>rfl
section
variable{prog:ϊ}{w:ύ}{A:ϔ}{E:Θ->Β->Prop}{s:Β}{st₀:SortSt}
abbrev SG(st₀ st:SortSt):Prop:=∃g,st=setG st₀ g
abbrev Tn{β:Type}(st₀:SortSt)(Go:Array Keyed->Prop)(J:β->Prop)(r:Rt β)(st:SortSt):Prop:=SG st₀ st/\match r with|.done (Φ o,_)=>Go o|.done (Ψ,d)=>J d|.yield (Φ _,_)=>False|.yield (Ψ,d)=>J d
abbrev Ln{β:Type}(st₀:SortSt)(Go:Array Keyed->Prop)(J:β->Prop)(r:Option (Array Keyed)×β)(st:SortSt):Prop:=SG st₀ st/\match r with|(Φ o,_)=>Go o|(Ψ,d)=>J d
def zj0{β:Type}{t k:Nat}{Go:Array Keyed->Prop}{J:Nat->β->Prop}{L:β->StateT SortSt Sem (Rt β)}{d:β}{st:SortSt}(h1:1<=t)(mono:∀i j d,i<=j->J j d->J i d)
  (hL:∀i d st,SG st₀ st->J i d->wpS (model prog w) A E s (L d) (Tn st₀ Go (J (i+1))) st) (hst:SG st₀ st) (h:J k d) :
  wpS (model prog w) A E s (forIn [0:t] ((Ψ,d):Option (Array Keyed)×β) λ_ d=>L d.2) (Ln st₀ Go (J (k+1))) st:=by
 refine ϗ (I:=λx c st=>SG st₀ st/\∃d,c=(Ψ,d)/\J (k+x) d) ?_ ?_ ⟨hst,d,rfl,h⟩
 . rintro x c st _ hx ⟨q,d,rfl,hd⟩;refine Ϛ (hL _ d st q hd) ?_;rintro r st' ⟨q',h'⟩
   match r,h' with|.done (Φ o,_),h'=>exact⟨q',h'⟩|.done (Ψ,d),h'=>exact⟨q',mono _ _ _ (by lia) h'⟩|.yield (Ψ,d),h'=>exact⟨q',d,rfl,h'⟩
 rintro c st ⟨q,d,rfl,hd⟩;exact⟨q,mono _ _ _ (by lia) hd⟩
def SG.set{st:SortSt}(h:SG st₀ st)(g:Nat):SG st₀ (setG st g):=by obtain⟨_,rfl⟩:=h;exact⟨g,rfl⟩
def zq9{β γ δ:Type}{t:Nat}{f0:Nat->γ}{f1:γ->β}{f2:γ->β->γ}{f3:γ->β->δ}{f4 f5:δ->γ}{gg:δ->Nat}{L:γ->β->StateT SortSt Sem (Rt β)}{G:δ->StateT SortSt Sem (Rt δ)}{Q:Array Keyed->SortSt->Prop}{Go:Array Keyed->Prop}(B:Nat->β->Prop)(C:Nat->γ->Prop)(D:Nat->δ->Prop)
  (b1:∀i j d,i<=j->B j d->B i d) (d1:∀i j d,i<=j->D j d->D i d) (h1:∀k c,C k c->B k (f1 c)) (h3:∀k c d,B k d->D k (f3 c d)) (h5:∀k e,D k e->C k (f5 e)) (ht:∀k c,C k c->k<t)
  (hL:∀c i d st,SG st₀ st->B i d->wpS (model prog w) A E s (L c d) (Tn st₀ Go (B (i+1))) st) (hG:∀i d st,SG st₀ st->D i d->wpS (model prog w) A E s (G d) (Tn st₀ Go (D (i+1))) st)
  (h0:∀g,C 0 (f0 g)) (hQ:∀r st,SG st₀ st->Go r->Q r st):wpS (model prog w) A E s (mg t f0 f1 f2 f3 f4 f5 gg L G) Q st₀:=by
 unfold mg;refine Ε (wpS_get ?_);have t1:1<=t:=ht 0 _ (h0 0);refine Ε (Ϛ (ϗ (I:=λx c st=>SG st₀ st/\∃d,c=(Ψ,d)/\C x d) (Q:=λc st=>SG st₀ st/\∃o d,c=(Φ o,d)/\Go o) ?_ ?_ ⟨⟨_,rfl⟩,_,rfl,h0 _⟩) ?_);rintro x c st _ hx ⟨q,c,rfl,hc⟩;unfold mgO;refine Ε (Ϛ (zj0 (st₀:=st₀) (Go:=Go) (J:=B) (k:=x) t1 b1 (hL c) q (h1 _ _ hc)) ?_);rintro⟨r,d⟩ st' ⟨q',hd⟩;cases r with|some o=>exact Ι ⟨q',o,_,rfl,hd⟩| none=>refine Ε (wpS_lift (wpAny_rule ⟨rfl,?_⟩));refine Ε (Ϛ (zj0 (st₀:=st₀) (Go:=Go) (J:=D) (k:=x+1) t1 d1 hG q' (h3 _ _ _ hd)) ?_);rintro⟨r,e⟩ st' ⟨q',he⟩;cases r with|some o=>exact Ι ⟨q',o,_,rfl,he⟩|none=>exact Ε (Ϡ (Ι ⟨q'.set _,_,rfl,h5 _ _ (d1 _ _ _ (le_succ _) he)⟩))
 rintro c st ⟨q,d,rfl,hd⟩;have:=ht _ _ hd;lia;rintro c st ⟨q,o,d,rfl,ho⟩;exact Ι (hQ o st q ho)
end
section
variable{rk:Keyed->Int}{T out ys l:List Keyed}{i k:Nat}
def MI.one(h:MI rk T out (l.drop i) ys)(hi:i<l.length)(hu:∀y∈ys,rk l[i]<=rk y):MI rk T (out++[l[i]]) (l.drop (i+1)) ys:=by rw[drop_at hi]at h;exact MI.push (us:=[l[i]]) h λu q=>by rw[mem_singleton.mp q];exact hu
def MI.seg(h:MI rk T out (l.drop i) ys)(k:Nat)(hu:∀u∈(l.drop i).take k,∀y∈ys,rk u<=rk y):MI rk T (out++(l.drop i).take k) (l.drop (i+k)) ys:=by rw[zlg l i k]at h;exact MI.push h hu
end
section
variable{prog:ϊ}{w:ύ}{A:ϔ}{E:Θ->Β->Prop}{s:Β}{κ:SortKind}{rk:Keyed->Int}{T:List Keyed}{a b out:Array Keyed}{ia ib:Nat}{st₀ st:SortSt}
structure Two(prog:ϊ)(w:ύ)(A:ϔ)(s:Β)(κ:SortKind)(rk:Keyed->Int)(T:List Keyed)(a b:Array Keyed)(st₀:SortSt):Prop where
 hc:Looks prog w A s κ rk T
 hk:kindOf st₀=κ
 ta:∀i (h:i<a.size),a[i]∈T
 tb:∀i (h:i<b.size),b[i]∈T
 sa:a.toList.Pairwise (Le rk)
 sb:b.toList.Pairwise (Le rk)
 na:0<a.size
 nb:0<b.size
 h1:∀i (h:i<a.size),rk b[0]<rk a[i]
 h2:∀i (h:i<b.size),rk b[i]<rk a[a.size-1]
def Two.kind(t:Two prog w A s κ rk T a b st₀)(h:SG st₀ st):kindOf st=κ:=by obtain⟨_,rfl⟩:=h;exact t.hk
def Two.la(t:Two prog w A s κ rk T a b st₀){i j:Nat}(hj:j<a.size)(hi:i<=j):rk a[i]<=rk a[j]:=zks (l:=a.toList) t.sa (by simpa using hj) hi
def Two.lb(t:Two prog w A s κ rk T a b st₀){i j:Nat}(hj:j<b.size)(hi:i<=j):rk b[i]<=rk b[j]:=zks (l:=b.toList) t.sb (by simpa using hj) hi
noncomputable abbrev LoM(rk:Keyed->Int)(a b out:Array Keyed)(ia ib:Nat):Prop:=MI rk (a.toList++b.toList) out.toList (a.toList.drop ia) (b.toList.drop ib)
def LoM.done(m:LoM rk a b out ia ib)(e:ib=b.size\/ia=a.size):InOrd rk (a.toList++b.toList) (out++a.extract ia a.size++b.extract ib b.size).toList:=by rw[ό,ό,zdu,zdu];rcases e with rfl|rfl;have z:b.toList.drop b.size=[]:=List.drop_eq_nil_of_le (by simp);rw[LoM,z]at m;rw[z,Ϣ];exact m.fin;have z:a.toList.drop a.size=[]:=List.drop_eq_nil_of_le (by simp);rw[LoM,z]at m;rw[z,Ϣ];exact m.swap.fin
def LoM.last(t:Two prog w A s κ rk T a b st₀)(m:LoM rk a b out ia ib)(e:ia+1=a.size):InOrd rk (a.toList++b.toList) (out++b.extract ib b.size++a.extract ia a.size).toList:=by
 rw[ό,ό,zdu,zdu];refine MI.last m λu hu y hy=>?_;obtain⟨j,hj,h1,rfl⟩:=zcc hu;obtain⟨i,hi,h2,rfl⟩:=zcc hy;have:i=a.size-1:=by simp at hi;omega
 subst this;have:=t.h2 j (by simpa using hj);simp only[ώ];omega
def LoM.pa(t:Two prog w A s κ rk T a b st₀)(m:LoM rk a b out ia ib)(ha:ia<a.size)(h:∀j (hj:j<b.size),ib<=j->rk a[ia]<=rk b[j]):LoM rk a b (out.push a[ia]) (ia+1) ib:=by rw[LoM,Array.toList_push];refine MI.one (l:=a.toList) m (by simpa using ha) λy hy=>?_;obtain⟨j,hj,h1,rfl⟩:=zcc hy;exact h j (by simpa using hj) h1
def LoM.pb(t:Two prog w A s κ rk T a b st₀)(m:LoM rk a b out ia ib)(hb:ib<b.size)(h:∀j (hj:j<a.size),ia<=j->rk b[ib]<=rk a[j]):LoM rk a b (out.push b[ib]) ia (ib+1):=by rw[LoM,Array.toList_push];refine(MI.one (l:=b.toList) m.swap (by simpa using hb) λy hy=>?_).swap;obtain⟨j,hj,h1,rfl⟩:=zcc hy;exact h j (by simpa using hj) h1
def LoM.qa(m:LoM rk a b out ia ib){k:Nat}(h:∀i (hi:ia+i<a.size) j (hj:j<b.size),i<k->ib<=j->rk a[ia+i]<=rk b[j]):LoM rk a b (out++a.extract ia (ia+k)) (ia+k) ib:=by rw[LoM,ό,zkF];refine MI.seg (l:=a.toList) m k λu hu y hy=>?_;obtain⟨j,hj,h1,rfl⟩:=zcc hy;obtain⟨i,hi,h2,rfl⟩:=zjV hu;exact h i (by simpa using hi) j (by simpa using hj) h2 h1
def LoM.qb(m:LoM rk a b out ia ib){k:Nat}(h:∀i (hi:ib+i<b.size) j (hj:j<a.size),i<k->ia<=j->rk b[ib+i]<=rk a[j]):LoM rk a b (out++b.extract ib (ib+k)) ia (ib+k):=by rw[LoM,ό,zkF];refine(MI.seg (l:=b.toList) m.swap k λu hu y hy=>?_).swap;obtain⟨j,hj,h1,rfl⟩:=zcc hy;obtain⟨i,hi,h2,rfl⟩:=zjV hu;exact h i (by simpa using hi) j (by simpa using hj) h2 h1
structure LoI(rk:Keyed->Int)(a b:Array Keyed)(k:Nat)(out:Array Keyed)(ia ib:Nat):Prop where
 m:LoM rk a b out ia ib
 i:ia+1<a.size
 j:ib<b.size
 k:k<ia+ib
def zrc{k g x y:Nat}(t:Two prog w A s κ rk T a b st₀)(h:LoI rk a b k out ia ib)(hs:SG st₀ st):wpS (model prog w) A E s (loL a b g out ia ib x y) (Tn st₀ (λr=>InOrd rk (a.toList++b.toList) r.toList) λd=>LoI rk a b (k+1) d.1 d.2.1 d.2.2.1) st:=by
 have hi:=h.i;have hj:=h.j;have hk:=h.k;have ha:ia<a.size:=by lia
 unfold loL;refine Ε (zav hj (Ε (zav ha (Ε (zjZ t.hc (t.tb _ _) (t.ta _ _) (t.kind hs) ?_)))));dsimp only;by_cases c:rk b[ib]<rk a[ia];rw[decide_eq_true c,if_pos rfl];have m:=h.m.pb t hj λj hj h=>by have:=t.la hj h;lia
 refine Ε (zav hj ?_);by_cases e:ib+1=b.size;rw[if_pos (by simpa using e)];exact Ι ⟨hs,m.done (.inl e)⟩
 . rw[if_neg (by simpa using e)];have n:LoI rk a b (k+1) _ _ _:=⟨m,hi,by lia,by lia⟩;split<;>exact Ι ⟨hs,n⟩
 rw[decide_eq_false c,if_neg Ζ];have m:=h.m.pa t ha λj hj h=>by have:=t.lb hj h;lia
 refine Ε (zav ha ?_);by_cases e:ia+1+1=a.size;rw[if_pos (by simpa using e)];exact Ι ⟨hs,m.last t e⟩
 . rw[if_neg (by simpa using e)];have n:LoI rk a b (k+1) _ _ _:=⟨m,by lia,hj,by lia⟩;split<;>exact Ι ⟨hs,n⟩
def zm3{k g x y:Nat}(t:Two prog w A s κ rk T a b st₀)(h:LoI rk a b k out ia ib)(hc:∀j (hj:j<b.size),ib<=j->rk (a[ia]'(Nat.lt_of_succ_lt h.i))<=rk b[j])(hs:SG st₀ st):wpS (model prog w) A E s (loC a b out ia ib g x y) (Tn st₀ (λr=>InOrd rk (a.toList++b.toList) r.toList) λd=>LoI rk a b (k+1) d.1 d.2.1 d.2.2.1) st:=by
 have hi:=h.i;have hj:=h.j;have hk:=h.k;have ha:ia<a.size:=by lia
 unfold loC;have m:=h.m.pa t ha hc;refine Ε (zav ha ?_);by_cases e:ia+1+1=a.size;rw[if_pos (by simpa using e)];exact Ι ⟨hs,m.last t e⟩
 . rw[if_neg (by simpa using e)];have n:LoI rk a b (k+1) _ _ _:=⟨m,by lia,hj,by lia⟩;split<;>exact Ι ⟨hs,n⟩
def Tn.up{β:Type}{Go:Array Keyed->Prop}{J J':β->Prop}{r:Rt β}(h:Tn st₀ Go J r st)(u:∀d,J d->J' d):Tn st₀ Go J' r st:=by
 obtain⟨q,h⟩:=h;refine⟨q,?_⟩
 match r,h with|.done (Φ o,_),h=>exact h|.done (Ψ,d),h=>exact u _ h|.yield (Ψ,d),h=>exact u _ h
def LoI.up{k l:Nat}(h:LoI rk a b l out ia ib)(e:k<=l):LoI rk a b k out ia ib:=⟨h.m,h.i,h.j,Nat.lt_of_le_of_lt e h.k⟩
def zm4{k g x y:Nat}(t:Two prog w A s κ rk T a b st₀)(h:LoI rk a b k out ia ib)(hc:∀j (hj:j<a.size),ia<=j->rk (b[ib]'h.j)<=rk a[j])(hs:SG st₀ st):wpS (model prog w) A E s (loB a b out ia ib g x y) (Tn st₀ (λr=>InOrd rk (a.toList++b.toList) r.toList) λd=>LoI rk a b (k+1) d.1 d.2.1 d.2.2.1) st:=by
 have hi:=h.i;have hj:=h.j;have hk:=h.k;have ha:ia<a.size:=by lia
 unfold loB;have m:=h.m.pb t hj hc;refine Ε (zav hj ?_);by_cases e:ib+1=b.size;rw[if_pos (by simpa using e)];exact Ι ⟨hs,m.done (.inl e)⟩;rw[if_neg (by simpa using e)];refine Ε (zav ha (Ε (zbx (T:=T) (λi=>decide (∃h:ib+1+i<b.size,rk b[ib+1+i]<rk a[ia])) t.hc (t.kind hs) (t.ta _ _) t.tb (by lia) (by lia) (λi h _=>?_) (λi j hij hj q=>?_) λm' c=>?_)));simp[h];have q:=of_decide_eq_true q;obtain⟨q1,q2⟩:=q;refine decide_eq_true ⟨by lia,?_⟩;have:=t.lb q1 (show ib+1+i<=ib+1+j by lia);lia;dsimp only;have le:=c.le;have yes:∀i (h:ib+1+i<b.size),i<m'->rk b[ib+1+i]<rk a[ia]:=λi _ hi=>(of_decide_eq_true (c.yes i hi)).2;have no:∀j (hj:j<b.size),ib+1+m'<=j->rk a[ia]<=rk b[j]:=λj hj q=>by
  have:=of_decide_eq_false (c.no (j-(ib+1)) (by lia) (by lia));have e:ib+1+(j-(ib+1))=j:=by lia
  simp only[e]at this;exact Int.not_lt.mp λz=>this ⟨hj,z⟩
 by_cases c0:m'>0;rw[if_pos c0];have m2:=m.qb (k:=m') λi h1 j h2 h3 h4=>by have:=yes i h1 h3;have:=t.la h2 h4;lia
 by_cases e2:ib+1+m'=b.size;rw[if_pos (by simpa using e2)];exact Ι ⟨hs,m2.done (.inl e2)⟩;rw[if_neg (by simpa using e2)];exact Ϛ (zm3 t ⟨m2,hi,by lia,by lia⟩ no hs) λ_ _ z=>z.up λ_ z=>z.up (le_refl _);rw[if_neg c0];have:m'=0:=by lia
 subst this;exact Ϛ (zm3 t ⟨m,hi,by lia,by lia⟩ no hs) λ_ _ z=>z.up λ_ z=>z.up (le_refl _)
def zj7(x y:Int):decide (x<=y) = !decide (y<x):=by rw[<-decide_not];exact decide_eq_decide.mpr Int.not_lt.symm
def zrd{k g x y:Nat}(t:Two prog w A s κ rk T a b st₀)(h:LoI rk a b k out ia ib)(hs:SG st₀ st):wpS (model prog w) A E s (loA a b out ia ib g x y) (Tn st₀ (λr=>InOrd rk (a.toList++b.toList) r.toList) λd=>LoI rk a b (k+1) d.1 d.2.1 d.2.2.1) st:=by
 have hi:=h.i;have hj:=h.j;have hk:=h.k;have ha:ia<a.size:=by lia
 unfold loA;refine Ε (Ϡ ?_);replace hs:=hs.set g;refine Ε (zav hj (Ε (zbx (T:=T) (λi=>decide (∃h:ia+i<a.size,rk a[ia+i]<=rk b[ib])) t.hc (t.kind hs) (t.tb _ _) t.ta (by lia) (by lia) (λi h _=>?_) (λi j hij hj q=>?_) λm' c=>?_)));simp[h,zj7];have q:=of_decide_eq_true q;obtain⟨q1,q2⟩:=q;refine decide_eq_true ⟨by lia,?_⟩;have:=t.la q1 (show ia+i<=ia+j by lia);lia;dsimp only;have le:=c.le;have yes:∀i (h:ia+i<a.size),i<m'->rk a[ia+i]<=rk b[ib]:=λi _ hi=>(of_decide_eq_true (c.yes i hi)).2;have no:∀j (hj:j<a.size),ia+m'<=j->rk b[ib]<=rk a[j]:=λj hj q=>by
  have:=of_decide_eq_false (c.no (j-ia) (by lia) (by lia));have e:ia+(j-ia)=j:=by lia
  simp only[e]at this;exact Int.le_of_lt (Int.not_le.mp λz=>this ⟨hj,z⟩)
 by_cases c0:m'>0;rw[if_pos c0];have m2:=h.m.qa (k:=m') λi h1 j h2 h3 h4=>by have:=yes i h1 h3;have:=t.lb h2 h4;lia
 by_cases e2:ia+m'+1=a.size;rw[if_pos (by simpa using e2)];exact Ι ⟨hs,m2.last t e2⟩;rw[if_neg (by simpa using e2)];by_cases e3:ia+m'=a.size;rw[if_pos (by simpa using e3)];exact Ι ⟨hs,m2.done (.inr e3)⟩;rw[if_neg (by simpa using e3)];exact zm4 t ⟨m2,by lia,hj,by lia⟩ no hs;rw[if_neg c0];have:m'=0:=by lia
 subst this;exact zm4 t h no hs
def ziu{Q:Array Keyed->SortSt->Prop}(t:Two prog w A s κ rk T a b st₀)(h:∀r st,SG st₀ st->InOrd rk (a.toList++b.toList) r.toList->Q r st):wpS (model prog w) A E s (zdq a b) Q st₀:=by
 rw[ziv];have nb:=t.nb;have na:=t.na;have m:LoM rk a b #[b[0]] 0 1:=by have:=LoM.pb (out:=#[]) (ia:=0) (ib:=0) t ⟨by simp,.nil,t.sa,t.sb,by simp⟩ nb λj hj _=>Int.le_of_lt (t.h1 j hj);simpa using this
 refine Ε (wpS_lift (wpAny_rule ⟨rfl,Ε (zav nb ?_)⟩));by_cases e:1=b.size;rw[if_pos (by simpa using e)];exact Ι (h _ _ ⟨_,rfl⟩ (m.done (.inl e)));rw[if_neg (by simpa using e)];by_cases e2:0+1=a.size;rw[if_pos (by simpa using e2)];exact Ι (h _ _ ⟨_,rfl⟩ (m.last t e2))
 . rw[if_neg (by simpa using e2)];refine zq9 (st₀:=st₀) (Go:=λr=>InOrd rk (a.toList++b.toList) r.toList) (λk d=>LoI rk a b k d.1 d.2.1 d.2.2.1) (λk d=>LoI rk a b k d.1 d.2.1 d.2.2.1) (λk d=>LoI rk a b k d.1 d.2.1 d.2.2.1)
    (λ_ _ _ q z=>z.up q) (λ_ _ _ q z=>z.up q) (λ_ _ z=>z) (λ_ _ _ z=>z) (λ_ _ z=>z) (λk c z=>by have:=z.i;have:=z.j;have:=z.k;lia)
    (λc i d st hs z=>zrc t z hs) (λi d st hs z=>?_) (λg=>(⟨m,by lia,by lia,by lia⟩:LoI rk a b 0 #[b[0]] 0 1)) h
   split<;>exact zrd t z hs
end
section
variable{rk:Keyed->Int}{T out ys l:List Keyed}{n m:Nat}
def MI.oneR(h:MI rk T out (l.take n).reverse ys)(h0:0<n)(hn:n-1<l.length)(hu:∀y∈ys,rk l[n-1]<=rk y):MI rk T (out++[l[n-1]]) (l.take (n-1)).reverse ys:=by
 have e:l.take n=l.take (n-1)++[l[n-1]]:=by obtain⟨k,rfl⟩:∃k,n=k+1:=⟨n-1,by lia⟩;exact(List.take_append_getElem hn).symm
 rw[e,List.reverse_append]at h;exact MI.push (us:=[l[n-1]]) h λu q=>by rw[mem_singleton.mp q];exact hu
def MI.segR(h:MI rk T out (l.take n).reverse ys)(hm:m<=n)(hu:∀u∈(l.take n).drop m,∀y∈ys,rk u<=rk y):MI rk T (out++((l.take n).drop m).reverse) (l.take m).reverse ys:=by
 have e:l.take n=l.take m++(l.take n).drop m:=by have:=List.take_append_drop m (l.take n);rw[List.take_take,Nat.min_eq_left hm]at this;exact this.symm
 have h':=h;rw[e,List.reverse_append]at h';exact MI.push h' λu q=>hu u (List.mem_reverse.mp q)
def zbv{y:Keyed}(h:y∈(l.take n).reverse):∃j,∃hj:j<l.length,j<n/\y=l[j]:=by obtain⟨j,hj,e⟩:=List.mem_iff_getElem.mp (List.mem_reverse.mp h);rw[List.getElem_take]at e;rw[length_take]at hj;exact⟨j,by lia,by lia,e.symm⟩
def zhA{y:Keyed}(h:y∈(l.take n).drop m):∃j,∃hj:j<l.length,m<=j/\j<n/\y=l[j]:=by obtain⟨j,hj,e⟩:=List.mem_iff_getElem.mp h;rw[List.getElem_drop,List.getElem_take]at e;rw[List.length_drop,length_take]at hj;exact⟨m+j,by omega,by omega,by omega,e.symm⟩
def zdt(a:Array Keyed)(n:Nat):(a.extract 0 n).toList=a.toList.take n:=by rw[Array.toList_extract,List.extract_eq_take_drop];rfl
def zfh(a:Array Keyed)(m n:Nat):(a.extract m n).toList=(a.toList.take n).drop m:=by rw[Array.toList_extract,List.extract_eq_take_drop,List.drop_take]
abbrev ng(rk:Keyed->Int)(x:Keyed):Int:=-rk x
def InOrd.rev(h:InOrd (ng rk) T l):InOrd rk T l.reverse:=⟨(List.reverse_perm _).trans h.1,List.pairwise_reverse.mpr (h.2.imp λ{x y} (q:-rk x<=-rk y)=>(by unfold Le;lia))⟩
end
section
variable{prog:ϊ}{w:ύ}{A:ϔ}{E:Θ->Β->Prop}{s:Β}{κ:SortKind}{rk:Keyed->Int}{T:List Keyed}{a b out:Array Keyed}{na nb:Nat}{st₀ st:SortSt}
noncomputable abbrev HiM(rk:Keyed->Int)(a b out:Array Keyed)(na nb:Nat):Prop:=MI (ng rk) (a.toList++b.toList) out.toList (a.toList.take na).reverse (b.toList.take nb).reverse
def HiM.done(m:HiM rk a b out na nb)(e:na=0\/nb=0):InOrd rk (a.toList++b.toList) (a.extract 0 na++b.extract 0 nb++out.reverse).toList:=by rw[ό,ό,zdt,zdt,Array.toList_reverse];rcases e with rfl|rfl;have:=(MI.fin m.swap).rev;simpa using this;have:=(MI.fin m).rev;simpa using this
def HiM.first(t:Two prog w A s κ rk T a b st₀)(m:HiM rk a b out na nb)(e:nb=1):InOrd rk (a.toList++b.toList) (b.extract 0 nb++a.extract 0 na++out.reverse).toList:=by
 rw[ό,ό,zdt,zdt,Array.toList_reverse];have:=(MI.last m.swap λu hu y hy=>by
  obtain⟨i,hi,h1,rfl⟩:=zbv hu;obtain⟨j,hj,h2,rfl⟩:=zbv hy;have:j=0:=by lia
  subst this;have:=t.h1 i (by simpa using hi);simp only[ng,ώ];lia).rev
 simpa using this
def HiM.pa(m:HiM rk a b out na nb)(h0:0<na)(ha:na-1<a.size)(h:∀j (hj:j<b.size),j<nb->rk b[j]<=rk a[na-1]):HiM rk a b (out.push a[na-1]) (na-1) nb:=by rw[HiM,Array.toList_push];refine MI.oneR (l:=a.toList) m h0 (by simpa using ha) λy hy=>?_;obtain⟨j,hj,h1,rfl⟩:=zbv hy;have:=h j (by simpa using hj) h1;simp only[ng,ώ];omega
def HiM.pb(m:HiM rk a b out na nb)(h0:0<nb)(hb:nb-1<b.size)(h:∀j (hj:j<a.size),j<na->rk a[j]<=rk b[nb-1]):HiM rk a b (out.push b[nb-1]) na (nb-1):=by rw[HiM,Array.toList_push];refine(MI.oneR (l:=b.toList) m.swap h0 (by simpa using hb) λy hy=>?_).swap;obtain⟨j,hj,h1,rfl⟩:=zbv hy;have:=h j (by simpa using hj) h1;simp only[ng,ώ];omega
def HiM.qa(m:HiM rk a b out na nb){k:Nat}(hk:k<=na)(h:∀i (hi:i<a.size) j (hj:j<b.size),k<=i->i<na->j<nb->rk b[j]<=rk a[i]):HiM rk a b (out++(a.extract k na).reverse) k nb:=by rw[HiM,ό,Array.toList_reverse,zfh];refine MI.segR (l:=a.toList) m hk λu hu y hy=>?_;obtain⟨j,hj,h1,rfl⟩:=zbv hy;obtain⟨i,hi,h2,h3,rfl⟩:=zhA hu;have:=h i (by simpa using hi) j (by simpa using hj) h2 h3 h1;simp only[ng,ώ];lia
def HiM.qb(m:HiM rk a b out na nb){k:Nat}(hk:k<=nb)(h:∀i (hi:i<b.size) j (hj:j<a.size),k<=i->i<nb->j<na->rk a[j]<=rk b[i]):HiM rk a b (out++(b.extract k nb).reverse) na k:=by rw[HiM,ό,Array.toList_reverse,zfh];refine(MI.segR (l:=b.toList) m.swap hk λu hu y hy=>?_).swap;obtain⟨j,hj,h1,rfl⟩:=zbv hy;obtain⟨i,hi,h2,h3,rfl⟩:=zhA hu;have:=h i (by simpa using hi) j (by simpa using hj) h2 h3 h1;simp only[ng,ώ];lia
structure HiI(rk:Keyed->Int)(a b:Array Keyed)(k:Nat)(out:Array Keyed)(na nb:Nat):Prop where
 m:HiM rk a b out na nb
 i:0<na
 i':na<=a.size
 j:1<nb
 j':nb<=b.size
 k:k+na+nb<a.size+b.size
def HiI.up{k l:Nat}(h:HiI rk a b l out na nb)(e:k<=l):HiI rk a b k out na nb:=⟨h.m,h.i,h.i',h.j,h.j',by have:=h.k;lia⟩
def zru{k g x y:Nat}(t:Two prog w A s κ rk T a b st₀)(h:HiI rk a b k out na nb)(hs:SG st₀ st):wpS (model prog w) A E s (hiL a b g out na nb x y) (Tn st₀ (λr=>InOrd rk (a.toList++b.toList) r.toList) λd=>HiI rk a b (k+1) d.2.2.1 d.1 d.2.1) st:=by
 obtain⟨m0,hi,hi',hj,hj',hk⟩:=h;have ha:na-1<a.size:=by lia
 have hb:nb-1<b.size:=by lia
 unfold hiL;refine Ε (zav hb (Ε (zav ha (Ε (zjZ t.hc (t.tb _ _) (t.ta _ _) (t.kind hs) ?_)))));dsimp only;by_cases c:rk b[nb-1]<rk a[na-1];rw[decide_eq_true c,if_pos rfl];have m:=m0.pa hi ha λj hj h=>by have:=t.lb hb (show j<=nb-1 by lia);lia
 refine Ε (zav ha ?_);by_cases e:na-1=0;rw[if_pos (by simpa using e)];exact Ι ⟨hs,m.done (.inl e)⟩
 . rw[if_neg (by simpa using e)];have n:HiI rk a b (k+1) _ _ _:=⟨m,by lia,by lia,hj,hj',by lia⟩;split<;>exact Ι ⟨hs,n⟩
 rw[decide_eq_false c,if_neg Ζ];have m:=m0.pb (by lia) hb λj hj h=>by have:=t.la ha (show j<=na-1 by lia);lia
 refine Ε (zav hb ?_);by_cases e:nb-1=1;rw[if_pos (by simpa using e)];exact Ι ⟨hs,m.first t e⟩
 . rw[if_neg (by simpa using e)];have n:HiI rk a b (k+1) _ _ _:=⟨m,hi,hi',by lia,by lia,by lia⟩;split<;>exact Ι ⟨hs,n⟩
def zm6{k g x y:Nat}(t:Two prog w A s κ rk T a b st₀)(h:HiI rk a b k out na nb)(hc:∀j (hj:j<b.size),j<nb->rk b[j]<=rk (a[na-1]'(by have:=h.i;have:=h.i';lia)))(hs:SG st₀ st):wpS (model prog w) A E s (hiC a b out na nb g x y) (Tn st₀ (λr=>InOrd rk (a.toList++b.toList) r.toList) λd=>HiI rk a b (k+1) d.2.2.1 d.1 d.2.1) st:=by
 obtain⟨m0,hi,hi',hj,hj',hk⟩:=h;have ha:na-1<a.size:=by lia
 unfold hiC;have m:=m0.pa hi ha hc;refine Ε (zav ha ?_);by_cases e:na-1=0;rw[if_pos (by simpa using e)];exact Ι ⟨hs,m.done (.inl e)⟩
 . rw[if_neg (by simpa using e)];have n:HiI rk a b (k+1) _ _ _:=⟨m,by lia,by lia,hj,hj',by lia⟩;split<;>exact Ι ⟨hs,n⟩
def zm7{k g x y:Nat}(t:Two prog w A s κ rk T a b st₀)(h:HiI rk a b k out na nb)(hc:∀j (hj:j<a.size),j<na->rk a[j]<=rk (b[nb-1]'(by have:=h.j;have:=h.j';lia)))(hs:SG st₀ st):wpS (model prog w) A E s (hiB a b out na nb g x y) (Tn st₀ (λr=>InOrd rk (a.toList++b.toList) r.toList) λd=>HiI rk a b (k+1) d.2.2.1 d.1 d.2.1) st:=by
 obtain⟨m0,hi,hi',hj,hj',hk⟩:=h;have ha:na-1<a.size:=by lia
 have hb:nb-1<b.size:=by lia
 unfold hiB;have m:=m0.pb (by lia) hb hc;refine Ε (zav hb ?_);by_cases e:nb-1=1;rw[if_pos (by simpa using e)];exact Ι ⟨hs,m.first t e⟩;rw[if_neg (by simpa using e)];refine Ε (zav ha (Ε (zbx (T:=T) (λi=>decide (∃h:i<b.size,rk b[i]<rk a[na-1])) t.hc (t.kind hs) (t.ta _ _) t.tb (by lia) (by lia) (λi h _=>?_) (λi j hij hj q=>?_) λm' c=>?_)));simp only[zero_add]at h⊢;simp[h];have q:=of_decide_eq_true q;obtain⟨q1,q2⟩:=q;refine decide_eq_true ⟨by lia,?_⟩;have:=t.lb q1 hij;lia;dsimp only;have le:=c.le;have yes:∀i (h:i<b.size),i<m'->rk b[i]<rk a[na-1]:=λi _ hi=>(of_decide_eq_true (c.yes i hi)).2;have no:∀j (hj:j<b.size),m'<=j->j<nb-1->rk a[na-1]<=rk b[j]:=λj hj q q'=>by have:=of_decide_eq_false (c.no j q q');exact Int.not_lt.mp λz=>this ⟨hj,z⟩
 by_cases c0:nb-1-m'>0;rw[if_pos c0];have m2:=m.qb le λi h1 j h2 h3 h4 h5=>by have:=no i h1 h3 h4;have:=t.la ha (show j<=na-1 by lia);lia
 by_cases e2:m'=1;rw[if_pos (by simpa using e2)];exact Ι ⟨hs,m2.first t e2⟩;rw[if_neg (by simpa using e2)];by_cases e3:m'=0;rw[if_pos (by simpa using e3)];exact Ι ⟨hs,m2.done (.inr e3)⟩;rw[if_neg (by simpa using e3)];exact zm6 t ⟨m2,hi,hi',by lia,by lia,by lia⟩ (λj hj q=>Int.le_of_lt (yes j hj q)) hs;rw[if_neg c0];have:m'=nb-1:=by lia
 subst this;exact zm6 t ⟨m,hi,hi',by lia,by lia,by lia⟩ (λj hj q=>Int.le_of_lt (yes j hj q)) hs
def zrv{k g x y:Nat}(t:Two prog w A s κ rk T a b st₀)(h:HiI rk a b k out na nb)(hs:SG st₀ st):wpS (model prog w) A E s (hiA a b out na nb g x y) (Tn st₀ (λr=>InOrd rk (a.toList++b.toList) r.toList) λd=>HiI rk a b (k+1) d.2.2.1 d.1 d.2.1) st:=by
 obtain⟨m0,hi,hi',hj,hj',hk⟩:=id h;have ha:na-1<a.size:=by lia
 have hb:nb-1<b.size:=by lia
 unfold hiA;refine Ε (Ϡ ?_);replace hs:=hs.set g;refine Ε (zav hb (Ε (zbx (T:=T) (λi=>decide (∃h:i<a.size,rk a[i]<=rk b[nb-1])) t.hc (t.kind hs) (t.tb _ _) t.ta (by lia) (by lia) (λi h _=>?_) (λi j hij hj q=>?_) λm' c=>?_)));simp only[zero_add]at h⊢;simp[h,zj7];have q:=of_decide_eq_true q;obtain⟨q1,q2⟩:=q;refine decide_eq_true ⟨by lia,?_⟩;have:=t.la q1 hij;lia;dsimp only;have le:=c.le;have yes:∀i (h:i<a.size),i<m'->rk a[i]<=rk b[nb-1]:=λi _ hi=>(of_decide_eq_true (c.yes i hi)).2;have no:∀j (hj:j<a.size),m'<=j->j<na->rk b[nb-1]<=rk a[j]:=λj hj q q'=>by have:=of_decide_eq_false (c.no j q q');exact Int.le_of_lt (Int.not_le.mp λz=>this ⟨hj,z⟩)
 by_cases c0:na-m'>0;rw[if_pos c0];have m2:=m0.qa le λi h1 j h2 h3 h4 h5=>by have:=no i h1 h3 h4;have:=t.lb hb (show j<=nb-1 by lia);lia
 by_cases e2:m'=0;rw[if_pos (by simpa using e2)];exact Ι ⟨hs,m2.done (.inl e2)⟩;rw[if_neg (by simpa using e2)];exact zm7 t ⟨m2,by lia,by lia,hj,hj',by lia⟩ yes hs;rw[if_neg c0];have:m'=na:=by lia
 subst this;exact zm7 t h yes hs
def ziw{Q:Array Keyed->SortSt->Prop}(t:Two prog w A s κ rk T a b st₀)(h:∀r st,SG st₀ st->InOrd rk (a.toList++b.toList) r.toList->Q r st):wpS (model prog w) A E s (zdr a b) Q st₀:=by
 rw[zix];have nb:=t.nb;have na:=t.na;have hl:a.size-1<a.size:=by lia
 have m:HiM rk a b #[a[a.size-1]] (a.size-1) b.size:=by have:=HiM.pa (rk:=rk) (a:=a) (b:=b) (out:=#[]) (na:=a.size) (nb:=b.size) ⟨?_,.nil,?_,?_,by simp⟩ na hl λj hj _=>Int.le_of_lt (t.h2 j hj);simpa using this;rw[List.take_of_length_le (by simp),List.take_of_length_le (by simp)];exact List.Perm.append (l₁:=a.toList.reverse) (List.reverse_perm _) (List.reverse_perm _);rw[List.take_of_length_le (by simp)];exact List.pairwise_reverse.mpr (t.sa.imp λ{x y} (q:rk x<=rk y)=>(by unfold Le ng;lia));rw[List.take_of_length_le (by simp)];exact List.pairwise_reverse.mpr (t.sb.imp λ{x y} (q:rk x<=rk y)=>(by unfold Le ng;lia))
 refine Ε (wpS_lift (wpAny_rule ⟨rfl,Ε (zav hl ?_)⟩));by_cases e:a.size-1=0;rw[if_pos (by simpa using e)];exact Ι (h _ _ ⟨_,rfl⟩ (m.done (.inl e)));rw[if_neg (by simpa using e)];by_cases e2:b.size=1;rw[if_pos (by simpa using e2)];exact Ι (h _ _ ⟨_,rfl⟩ (m.first t e2))
 . rw[if_neg (by simpa using e2)];refine zq9 (st₀:=st₀) (Go:=λr=>InOrd rk (a.toList++b.toList) r.toList) (λk d=>HiI rk a b k d.2.2.1 d.1 d.2.1) (λk d=>HiI rk a b k d.2.2.1 d.1 d.2.1) (λk d=>HiI rk a b k d.2.2.1 d.1 d.2.1)
    (λ_ _ _ q z=>z.up q) (λ_ _ _ q z=>z.up q) (λ_ _ z=>z) (λ_ _ _ z=>z) (λ_ _ z=>z) (λk c z=>by have:=z.k;lia)
    (λc i d st hs z=>zru t z hs) (λi d st hs z=>?_) (λg=>(⟨m,by lia,by lia,by lia,by lia,by lia⟩:HiI rk a b 0 #[a[a.size-1]] (a.size-1) b.size)) h
   split<;>exact zrv t z hs
end
abbrev Kr(rk:Keyed->Int)(xs:Array Keyed)(i:Nat):Int:=(xs[i]?.map rk).getD 0
def Kr_at{rk:Keyed->Int}{xs:Array Keyed}{i:Nat}(h:i<xs.size):Kr rk xs i=rk xs[i]:=by unfold Kr;rw[getElem?_pos xs i h];rfl
def zcR{rk:Keyed->Int}{xs ys:Array Keyed}{i j:Nat}(h:xs[i]?=ys[j]?):Kr rk xs i=Kr rk ys j:=by unfold Kr;rw[h]
abbrev So(rk:Keyed->Int)(xs:Array Keyed)(lo hi:Nat):Prop:=∀i j,lo<=i->i<j->j<hi->Kr rk xs i<Kr rk xs j
structure SB(κ:SortKind)(T:List Keyed)(st:SortSt):Prop where
 perm:(arrOf st).toList.Perm T
 kind:kindOf st=κ
 failed:failedOf st=Ψ
section
variable{prog:ϊ}{w:ύ}{A:ϔ}{E:Θ->Β->Prop}{s:Β}{κ:SortKind}{rk:Keyed->Int}{T:List Keyed}{st:SortSt}
def SB.size(b:SB κ T st):(arrOf st).size=T.length:=by have:=b.perm.length_eq;simpa using this
def SB.mem(b:SB κ T st){i:Nat}(h:i<(arrOf st).size):(arrOf st)[i]∈T:=b.perm.mem_iff.mp (by simp)
def SB.inj(b:SB κ T st)(u:(T.map rk).Nodup){i j:Nat}(hi:i<T.length)(hj:j<T.length)(ne:i≠j):Kr rk (arrOf st) i≠Kr rk (arrOf st) j:=by
 have hi':i<(arrOf st).size:=by rw[b.size];exact hi
 have hj':j<(arrOf st).size:=by rw[b.size];exact hj
 rw[Kr_at hi',Kr_at hj'];have nd:((arrOf st).toList.map rk).Nodup:=((b.perm.map rk).nodup_iff).mpr u;intro e;apply ne;have h1:i<((arrOf st).toList.map rk).length:=by simpa using hi'
 have h2:j<((arrOf st).toList.map rk).length:=by simpa using hj'
 exact(List.getElem_inj (h₀:=h1) (h₁:=h2) nd).mp (by simpa using e)
def SB.arr(b:SB κ T st){xs:Array Keyed}(h:xs.toList.Perm (arrOf st).toList):SB κ T (setArr st xs):=⟨h.trans b.perm,b.kind,b.failed⟩
def zcZ{i j:Nat}{Q:Option Bool->SortSt->Prop}(hc:Looks prog w A s κ rk T)(b:SB κ T st)(hi:i<T.length)(hj:j<T.length)(h:Q (Φ (decide (Kr rk (arrOf st) i<Kr rk (arrOf st) j))) st):wpS (model prog w) A E s (ltAt' i j) Q st:=by
 have hi':i<(arrOf st).size:=by rw[b.size];exact hi
 have hj':j<(arrOf st).size:=by rw[b.size];exact hj
 rw[ltAt'_eq];refine Ε (wpS_get (Ε (zav hi' (Ε (zav hj' (zjZ hc (b.mem _) (b.mem _) b.kind ?_))))));rw[Kr_at hi',Kr_at hj']at h;exact h
def So.snoc{xs:Array Keyed}{lo n:Nat}(h:So rk xs lo (lo+n))(h1:1<=n)(c:Kr rk xs (lo+n-1)<Kr rk xs (lo+n)):So rk xs lo (lo+(n+1)):=by
 intro i j hi hij hj;by_cases e:j<lo+n;exact h i j hi hij e;have:j=lo+n:=by lia
 subst this;by_cases e':i=lo+n-1;subst e';exact c;have:=h i (lo+n-1) hi (by lia) (by lia);lia
abbrev Fa(rk:Keyed->Int)(xs:Array Keyed)(lo hi:Nat):Prop:=∀i j,lo<=i->i<j->j<hi->Kr rk xs j<Kr rk xs i
def Fa.snoc{xs:Array Keyed}{lo n:Nat}(h:Fa rk xs lo (lo+n))(h1:1<=n)(c:Kr rk xs (lo+n)<Kr rk xs (lo+n-1)):Fa rk xs lo (lo+(n+1)):=by
 intro i j hi hij hj;by_cases e:j<lo+n;exact h i j hi hij e;have:j=lo+n:=by lia
 subst this;by_cases e':i=lo+n-1;subst e';exact c;have:=h i (lo+n-1) hi (by lia) (by lia);lia
abbrev Bl(lo:Nat)(xs ys:Array Keyed):Prop:=∀i,i<lo->ys[i]?=xs[i]?
def zmn{lo nrem:Nat}{Q:Option Nat->SortSt->Prop}(hc:Looks prog w A s κ rk T)(u:(T.map rk).Nodup)(b:SB κ T st)(h1:1<=nrem)(hn:lo+nrem=T.length)
  (h:∀m st',SB κ T st'->pendingOf st'=pendingOf st->Bl lo (arrOf st) (arrOf st')->1<=m->m<=nrem->So rk (arrOf st') lo (lo+m)->Q (Φ m) st'):wpS (model prog w) A E s (countRun' lo nrem) Q st:=by
 rw[countRun'_eq];dsimp only;refine Ε (Ϛ (ϗ (I:=λx c st'=>st'=st/\c=(Ψ,x)/\So rk (arrOf st) lo (lo+x)) (Q:=λc st'=>st'=st/\∃n,c=(Ψ,n)/\1<=n/\n<=nrem/\So rk (arrOf st) lo (lo+n)/\(n=nrem\/Kr rk (arrOf st) (lo+n)<Kr rk (arrOf st) (lo+n-1))) ?_ ?_ ⟨rfl,rfl,λi j _ _ _=>by lia⟩) ?_);rintro x c st' hx hxn ⟨rfl,rfl,so⟩;dsimp only;refine Ε (zcZ hc b (by lia) (by lia) ?_);dsimp only;by_cases c:Kr rk (arrOf st') (lo+x)<Kr rk (arrOf st') (lo+x-1);rw[decide_eq_true c,if_pos rfl];exact Ι ⟨rfl,x,rfl,hx,by lia,so,.inr c⟩;rw[decide_eq_false c,if_neg Ζ];refine Ι ⟨rfl,rfl,so.snoc hx ?_⟩;have:=b.inj u (i:=lo+x) (j:=lo+x-1) (by lia) (by lia) (by lia);lia;rintro c st' ⟨rfl,rfl,so⟩;rw[show max 1 nrem=nrem by lia]at so⊢;exact⟨rfl,nrem,rfl,h1,le_refl _,so,.inl rfl⟩;rintro c st' ⟨rfl,n,rfl,n1,n2,so,n3⟩;dsimp only;by_cases e:n=nrem;rw[if_pos (by simpa using e)];exact Ι (h n st' b rfl (λ_ _=>rfl) n1 n2 so);rw[if_neg (by simpa using e)];have n3:=n3.resolve_left e;by_cases e1:n>1;rw[if_pos e1];refine Ε (zcZ hc b (by lia) (by lia) ?_);dsimp only;rw[decide_eq_true (so lo (lo+n-1) (le_refl _) (by lia) (by lia)),if_pos rfl];exact Ι (h n st' b rfl (λ_ _=>rfl) n1 n2 so);rw[if_neg e1];have:n=1:=by lia
 subst this;refine Ε (wpS_lift (wpAny_rule ⟨rfl,?_⟩));refine Ε (Ϛ (ϗ (I:=λx c st=>st=st'/\c=(Ψ,x,0)/\Fa rk (arrOf st') lo (lo+x)) (Q:=λc st=>st=st'/\∃n,c=(Ψ,n,0)/\1<=n/\n<=nrem/\Fa rk (arrOf st') lo (lo+n)) ?_ ?_ ⟨rfl,rfl,Fa.snoc (n:=1) (λi j _ _ _=>by lia) (le_refl _) n3⟩) ?_);rintro x c st hx hxn ⟨rfl,rfl,fa⟩;dsimp only;refine Ε (zcZ hc b (by lia) (by lia) ?_);dsimp only;by_cases c:Kr rk (arrOf st) (lo+x)<Kr rk (arrOf st) (lo+x-1);rw[decide_eq_true c,if_pos rfl,if_neg (by lia)];exact Ι ⟨rfl,rfl,fa.snoc (by lia) c⟩;rw[decide_eq_false c,if_neg Ζ];refine Ε (zcZ hc b (by lia) (by lia) ?_);have:=b.inj u (i:=lo+x) (j:=lo+x-1) (by lia) (by lia) (by lia);dsimp only;rw[decide_eq_true (by lia),if_pos rfl];exact Ι ⟨rfl,x,rfl,by lia,by lia,fa⟩;rintro c st ⟨rfl,rfl,fa⟩;rw[show max (1+1) nrem=nrem by lia]at fa⊢;exact⟨rfl,nrem,rfl,by lia,le_refl _,fa⟩;rintro c st ⟨rfl,n,rfl,n1,n2,fa⟩;dsimp only;rw[if_neg (by lia)];refine Ε (wpS_reverse ?_);have bs:lo+n<=(arrOf st).size:=by rw[b.size];lia
 have pm:=mirror_perm (arrOf st) lo (lo+n) ((lo+n-lo)/2);have gm:=getElem?_mirror_all (i:=lo) bs;generalize mirror (arrOf st) lo (lo+n) ((lo+n-lo)/2)=xs at pm gm⊢;have mi:∀k,Kr rk xs k=if lo<=k/\k<lo+n then Kr rk (arrOf st) (lo+(lo+n)-1-k) else Kr rk (arrOf st) k:=λk=>by have e:=gm k;by_cases z:lo<=k/\k<lo+n;rw[if_pos z]at e⊢;exact zcR e;rw[if_neg z]at e⊢;exact zcR e
 have b2:SB κ T (setArr st xs):=b.arr (Array.perm_iff_toList_perm.mp pm);have so2:So rk xs lo (lo+n):=λi j h1 h2 h3=>by rw[mi,mi,if_pos ⟨h1,by lia⟩,if_pos ⟨by lia,h3⟩];exact fa _ _ (by lia) (by lia) (by lia)
 have bl:Bl lo (arrOf st) xs:=λi hi=>by rw[gm,if_neg (by lia)]
 refine Ε (Ϛ (ϗ (I:=λx c st2=>st2=setArr st xs/\c=(Ψ,x)/\So rk xs lo (lo+x)) (Q:=λc st2=>st2=setArr st xs/\∃n',c=(Ψ,n')/\1<=n'/\n'<=nrem/\So rk xs lo (lo+n')) ?_ ?_ ⟨rfl,rfl,so2⟩) ?_);rintro x c st2 hx hxn ⟨rfl,rfl,so⟩;dsimp only;refine Ε (zcZ hc b2 (by lia) (by lia) ?_);dsimp only;by_cases c:Kr rk xs (lo+x)<Kr rk xs (lo+x-1);rw[decide_eq_true c,if_pos rfl];exact Ι ⟨rfl,x,rfl,by lia,by lia,so⟩;rw[decide_eq_false c,if_neg Ζ];refine Ι ⟨rfl,rfl,so.snoc (by lia) ?_⟩;have:Kr rk xs (lo+x)≠Kr rk xs (lo+x-1):=b2.inj u (i:=lo+x) (j:=lo+x-1) (by lia) (by lia) (by lia);lia;rintro c st2 ⟨rfl,rfl,so⟩;rw[show max n nrem=nrem by lia]at so⊢;exact⟨rfl,nrem,rfl,h1,le_refl _,so⟩;rintro c st2 ⟨rfl,m,rfl,m1,m2,so⟩;exact Ι (h m _ b2 rfl bl m1 m2 so)
def zkX{lo n ok:Nat}{Q:Bool->SortSt->Prop}(hc:Looks prog w A s κ rk T)(u:(T.map rk).Nodup)(b:SB κ T st)(h1:1<=ok)(h2:ok<=n)(hn:lo+n<=T.length)(so:So rk (arrOf st) lo (lo+ok))
  (h:∀st',SB κ T st'->pendingOf st'=pendingOf st->Bl lo (arrOf st) (arrOf st')->So rk (arrOf st') lo (lo+n)->Q Γ st'):wpS (model prog w) A E s (binarySort' lo n ok) Q st:=by
 rw[binarySort'_eq];refine Ε (Ϛ (ϗ (I:=λk c st'=>c=(Ψ,())/\SB κ T st'/\pendingOf st'=pendingOf st/\Bl lo (arrOf st) (arrOf st')/\So rk (arrOf st') lo (lo+k))
  (Q:=λc st'=>c=(Ψ,())/\SB κ T st'/\pendingOf st'=pendingOf st/\Bl lo (arrOf st) (arrOf st')/\So rk (arrOf st') lo (lo+n)) ?_ ?_ ⟨rfl,b,rfl,λ_ _=>rfl,by rw[Nat.max_eq_left h1];exact so⟩) ?_)
 rintro k c st' hk hkn ⟨rfl,b',pe,bl,so'⟩;have hk1:1<=k:=by lia
 refine Ε (Ϛ (ϗ (I:=λx c st''=>st''=st'/\∃l r,c=(Ψ,l,r)/\l<=r/\r<=k/\r-l<=k-x/\(∀i,i<l->Kr rk (arrOf st') (lo+i)<Kr rk (arrOf st') (lo+k))/\(∀i,r<=i->i<k->Kr rk (arrOf st') (lo+k)<Kr rk (arrOf st') (lo+i)))
  (Q:=λc st''=>st''=st'/\∃l r,c=(Ψ,l,r)/\l<=k/\(∀i,i<l->Kr rk (arrOf st') (lo+i)<Kr rk (arrOf st') (lo+k))/\(∀i,l<=i->i<k->Kr rk (arrOf st') (lo+k)<Kr rk (arrOf st') (lo+i))) ?_ ?_ ⟨rfl,0,k,rfl,by lia,by lia,by lia,λi hi=>by lia,λi h1 h2=>by lia⟩) ?_)
 rintro x c st'' _ hx ⟨rfl,l,r,rfl,a1,a2,a3,a4,a5⟩;dsimp only;by_cases z:l≥r;rw[if_pos z];obtain rfl:l=r:=by lia
 exact Ι ⟨rfl,l,l,rfl,a2,a4,a5⟩;rw[if_neg z];refine Ε (zcZ hc b' (by lia) (by lia) ?_);dsimp only;by_cases c:Kr rk (arrOf st'') (lo+k)<Kr rk (arrOf st'') (lo+(l+r)/2);rw[decide_eq_true c,if_pos rfl];refine Ι ⟨rfl,l,_,rfl,by lia,by lia,by lia,a4,λi q1 q2=>?_⟩;by_cases e:(l+r)/2=i;subst e;exact c;have:=so' (lo+(l+r)/2) (lo+i) (by lia) (by lia) (by lia);lia;rw[decide_eq_false c,if_neg Ζ];refine Ι ⟨rfl,_,r,rfl,by lia,by lia,by lia,λi q1=>?_,a5⟩;have:=b'.inj u (i:=lo+k) (j:=lo+(l+r)/2) (by lia) (by lia) (by lia);by_cases e:i=(l+r)/2;subst e;lia;have:=so' (lo+i) (lo+(l+r)/2) (by lia) (by lia) (by lia);lia;rintro c st'' ⟨rfl,l,r,rfl,a1,a2,a3,a4,a5⟩;obtain rfl:l=r:=by lia
 exact⟨rfl,l,l,rfl,a2,a4,a5⟩;rintro c st'' ⟨rfl,l,r,rfl,lk,a4,a5⟩;show wpS _ _ _ _ (do moveDown' (lo+k) (lo+l);pure (ForInStep.yield (Ψ,()))) _ _;rw[moveDown'_eq];have hks:lo+k<(arrOf st'').size:=by rw[b'.size];lia
 have g:=getElem?_bubble hks (lo+k-(lo+l)) (by lia);have pm:=bubble_perm (arrOf st'') (lo+k) (lo+k-(lo+l));refine Ε (Ϡ (Ι ⟨rfl,b'.arr (Array.perm_iff_toList_perm.mp pm),pe,λi hi=>?_,λi j q1 q2 q3=>?_⟩));show(bubble (arrOf st'') (lo+k) (lo+k-(lo+l)))[i]?=_;rw[g,if_neg (by lia),if_neg (by lia)];exact bl i hi
 . show Kr rk (bubble (arrOf st'') (lo+k) (lo+k-(lo+l))) i<Kr rk (bubble (arrOf st'') (lo+k) (lo+k-(lo+l))) j;have gk:∀t,Kr rk (bubble (arrOf st'') (lo+k) (lo+k-(lo+l))) t=if t=lo+l then Kr rk (arrOf st'') (lo+k) else if lo+l<t/\t<=lo+k then Kr rk (arrOf st'') (t-1) else Kr rk (arrOf st'') t:=λt=>by
    have e:=g t;rw[show lo+k-(lo+k-(lo+l))=lo+l by lia]at e;unfold Kr;rw[e]
    repeat' split
    all_goals rfl
   have a4':∀t,lo<=t->t<lo+l->Kr rk (arrOf st'') t<Kr rk (arrOf st'') (lo+k):=λt y1 y2=>by have:=a4 (t-lo) (by lia);rwa [show lo+(t-lo)=t by lia]at this
   have a5':∀t,lo+l<=t->t<lo+k->Kr rk (arrOf st'') (lo+k)<Kr rk (arrOf st'') t:=λt y1 y2=>by have:=a5 (t-lo) (by lia) (by lia);rwa [show lo+(t-lo)=t by lia]at this
   rw[gk,gk]
   repeat' split
   all_goals first
    |(exfalso;lia)
    |exact a4' _ (by lia) (by lia)
    |exact a5' _ (by lia) (by lia)
    |exact so' _ _ (by lia) (by lia) (by lia)
 rintro c st' ⟨hc,b',pe,bl,so'⟩;rw[show max (max ok 1) n=n by lia]at so';exact⟨hc,b',pe,bl,so'⟩;rintro c st' ⟨rfl,b',pe,bl,so'⟩;exact Ι (h st' b' pe bl so')
def zhK(c:Nat):∀(l:List Keyed)(n:Nat)(xs:Array Keyed),c+n+l.length<=xs.size->∀i:Nat,((l.zipIdx n).foldl (λa (p:Keyed×Nat)=>a.setIfInBounds (c+p.2) p.1) xs)[i]?=if c+n<=i/\i<c+n+l.length then l[i-(c+n)]? else xs[i]?
 | [],n,xs,h,i=>by rw[if_neg (by simp)];rfl| x::l,n,xs,h,i=>by
  have h':c+(n+1)+l.length<=(xs.setIfInBounds (c+n) x).size:=by rw[Array.size_setIfInBounds];simp at h;lia
  have:=zhK c l (n+1) (xs.setIfInBounds (c+n) x) h' i;rw[List.zipIdx_cons,List.foldl_cons,this];simp only[Χ]at h⊢;by_cases e:i=c+n;subst e;rw[if_neg (by lia),if_pos (by lia),Array.getElem?_setIfInBounds_self_of_lt (by lia),Nat.sub_self];rfl;rw[Array.getElem?_setIfInBounds_ne (by lia)];by_cases z:c+n<=i/\i<c+n+(l.length+1);rw[if_pos z,if_pos (by lia),show i-(c+n)=(i-(c+(n+1)))+1 by lia];rfl;rw[if_neg z,if_neg (by lia)]
def zfn{xs:Array Keyed}{i:Nat}{x:Keyed}(h:xs[i]?=Φ x):Kr rk xs i=rk x:=by unfold Kr;rw[h];rfl
def So.of(b:SB κ T st)(u:(T.map rk).Nodup){lo hi:Nat}(hh:hi<=T.length)(h:∀i j,lo<=i->i<j->j<hi->Kr rk (arrOf st) i<=Kr rk (arrOf st) j):So rk (arrOf st) lo hi:=λi j h1 h2 h3=>by have:=h i j h1 h2 h3;have:=b.inj u (i:=i) (j:=j) (by lia) (by lia) (by lia);lia
def zka{xs ys:Array Keyed}{r:List Keyed}{p q:Nat}(hp:p<=q)(hq:q<=xs.size)(hr:r.Perm (xs.extract p q).toList)(h:∀i:Nat,ys[i]?=if p<=i/\i<q then r[i-p]? else xs[i]?):ys.toList.Perm xs.toList:=by
 have rl:r.length=q-p:=by have:=hr.length_eq;simp at this;lia
 have e:ys.toList=xs.toList.take p++(r++xs.toList.drop q):=by
  apply List.ext_getElem?;intro i;rw[Array.getElem?_toList,h i];by_cases z:i<p;rw[if_neg (by lia),getElem?_append_left (by simp;lia),List.getElem?_take,if_pos z,Array.getElem?_toList];rw[getElem?_append_right (by simp;lia)];have l1:(xs.toList.take p).length=p:=by simp;lia
  rw[l1];by_cases z2:i<q;rw[if_pos ⟨by lia,z2⟩,getElem?_append_left (by lia)];rw[if_neg (by lia),getElem?_append_right (by lia),List.getElem?_drop,rl,Array.getElem?_toList];congr 1;lia
 have e2:xs.toList=xs.toList.take p++((xs.extract p q).toList++xs.toList.drop q):=by
  rw[zfh];have e3:xs.toList.take q=xs.toList.take p++(xs.toList.take q).drop p:=by have:=List.take_append_drop p (xs.toList.take q);rw[List.take_take,Nat.min_eq_left hp]at this;exact this.symm
  rw[<-append_assoc,<-e3,List.take_append_drop]
 rw[e];exact(List.Perm.append_left _ (List.Perm.append_right _ hr)).trans (List.Perm.of_eq e2.symm)
structure Run2(κ:SortKind)(rk:Keyed->Int)(T:List Keyed)(xs:Array Keyed)(sa na nb:Nat):Prop where
 a1:1<=na
 b1:1<=nb
 le:sa+na+nb<=T.length
 so1:So rk xs sa (sa+na)
 so2:So rk xs (sa+na) (sa+na+nb)
def SG.perm{st':SortSt}(h:SG st st'):arrOf st'=arrOf st/\kindOf st'=kindOf st/\failedOf st'=failedOf st/\pendingOf st'=pendingOf st:=by obtain⟨_,rfl⟩:=h;exact⟨rfl,rfl,rfl,rfl⟩
def So.le{xs:Array Keyed}{lo hi i j:Nat}(h:So rk xs lo hi)(h1:lo<=i)(h2:i<=j)(h3:j<hi):Kr rk xs i<=Kr rk xs j:=by by_cases e:i=j;subst e;exact Int.le_refl _;exact Int.le_of_lt (h i j h1 (by lia) h3)
def zd0{xs:Array Keyed}{p q i:Nat}(h:i<(xs.extract p q).size):rk (xs.extract p q)[i]=Kr rk xs (p+i):=by rw[Array.getElem_extract];exact(Kr_at _).symm
def zes{xs:Array Keyed}{lo hi p q:Nat}(h:So rk xs lo hi)(h1:lo<=p)(h2:q<=hi):(xs.extract p q).toList.Pairwise (Le rk):=by rw[List.pairwise_iff_getElem];intro i j hi hj hij;show rk _<=rk _;simp only[ώ];rw[zd0 (rk:=rk),zd0 (rk:=rk)];simp at hj;exact h.le (by lia) (by lia) (by lia)
def ziy{i sa na nb pw z:Nat}{Q:Bool->SortSt->Prop}(hc:Looks prog w A s κ rk T)(u:(T.map rk).Nodup)(b:SB κ T st)(e1:(pendingOf st)[i]?=Φ (sa,na,pw))(e2:(pendingOf st)[i+1]?=Φ (sa+na,nb,z))(r:Run2 κ rk T (arrOf st) sa na nb)
  (h:∀st',SB κ T st'->pendingOf st'=((pendingOf st).setIfInBounds i (sa,na+nb,pw)).eraseIdxIfInBounds (i+1)->(∀j,j<sa\/sa+na+nb<=j->(arrOf st')[j]?=(arrOf st)[j]?)->So rk (arrOf st') sa (sa+na+nb)->Q Γ st'):wpS (model prog w) A E s (mergeAt' i) Q st:=by
 obtain⟨a1,b1,le,soa,sob⟩:=r;have sz:=b.size;have mem:∀i (h:i<(arrOf st).size),(arrOf st)[i]∈T:=λi h=>b.mem h;have hsb:sa+na<(arrOf st).size:=by lia
 rw[zgI];refine Ε (wpS_get ?_);rw[e1,e2];dsimp only;refine Ε (Ϡ (f:=λ_=>setPending st _) ?_);generalize ep:((pendingOf st).setIfInBounds i (sa,na+nb,pw)).eraseIdxIfInBounds (i+1)=pe at h⊢;have b1':SB κ T (setPending st pe):=⟨b.perm,b.kind,b.failed⟩;refine Ε (zav hsb (Ε (zbx (T:=T) (λi=>decide (Kr rk (arrOf st) (sa+i)<=Kr rk (arrOf st) (sa+na))) hc b1'.kind (mem _ _) mem (by lia) (by lia) (λi h _=>?_) (λi j hij hj q=>?_) λk c=>?_)));rw[Kr_at h,Kr_at hsb,zj7];rfl;exact decide_eq_true (Int.le_trans (soa.le (by lia) (by lia) (by lia)) (of_decide_eq_true q));dsimp only;have ck:=c.le;have yes:∀j,sa<=j->j<sa+k->Kr rk (arrOf st) j<=Kr rk (arrOf st) (sa+na):=λj q1 q2=>by
  have:=of_decide_eq_true (c.yes (j-sa) (by lia))
  rwa [show sa+(j-sa)=j by lia]at this
 have no:∀j,sa+k<=j->j<sa+na->Kr rk (arrOf st) (sa+na)<Kr rk (arrOf st) j:=λj q1 q2=>by have:=of_decide_eq_false (c.no (j-sa) (by lia) (by lia));rw[show sa+(j-sa)=j by lia]at this;lia
 by_cases k0:na-k=0;rw[if_pos (by simpa using k0)];refine Ι (h _ b1' rfl (λ_ _=>rfl) (So.of b1' u le λi j q1 q2 q3=>?_));show Kr rk (arrOf st) i<=Kr rk (arrOf st) j;by_cases z1:j<sa+na;exact soa.le q1 (by lia) z1;by_cases z2:i<sa+na;exact Int.le_trans (yes i q1 (by lia)) (sob.le (le_refl _) (by lia) q3);exact sob.le (by lia) (by lia) q3;rw[if_neg (by simpa using k0)];have el:sa+k+(na-k)-1=sa+na-1:=by lia
 have hl:sa+na-1<(arrOf st).size:=by lia
 rw[el];refine Ε (zav hl (Ε (zbx (T:=T) (λi=>decide (Kr rk (arrOf st) (sa+na+i)<Kr rk (arrOf st) (sa+na-1))) hc b1'.kind (mem _ _) mem (by lia) (by lia) (λi h _=>?_) (λi j hij hj q=>?_) λm d=>?_)));rw[Kr_at h,Kr_at hl];rfl;exact decide_eq_true (Int.lt_of_le_of_lt (sob.le (by lia) (by lia) (by lia)) (of_decide_eq_true q));dsimp only;have dm:=d.le;have yes2:∀j,sa+na<=j->j<sa+na+m->Kr rk (arrOf st) j<Kr rk (arrOf st) (sa+na-1):=λj q1 q2=>by
  have:=of_decide_eq_true (d.yes (j-(sa+na)) (by lia))
  rwa [show sa+na+(j-(sa+na))=j by lia]at this
 have no2:∀j,sa+na+m<=j->j<sa+na+nb->Kr rk (arrOf st) (sa+na-1)<=Kr rk (arrOf st) j:=λj q1 q2=>by have:=of_decide_eq_false (d.no (j-(sa+na)) (by lia) (by lia));rw[show sa+na+(j-(sa+na))=j by lia]at this;lia
 have m0:m≠0:=λe=>by have:=no2 (sa+na) (by lia) (by lia);have:=no (sa+na-1) (by lia) (by lia);lia
 rw[if_neg (by simpa using m0)];have xz:((arrOf st).extract (sa+k) (sa+na)).size=na-k:=by simp;lia
 have yz:((arrOf st).extract (sa+na) (sa+na+m)).size=m:=by simp;lia
 have tw:Two prog w A s κ rk T ((arrOf st).extract (sa+k) (sa+na)) ((arrOf st).extract (sa+na) (sa+na+m)) (setPending st pe):=
  ⟨hc,b1'.kind,λi h=>by rw[Array.getElem_extract];exact mem _ _,λi h=>by rw[Array.getElem_extract];exact mem _ _,zes soa (by lia) (le_refl _),zes sob (le_refl _) (by lia),by lia,by lia,
   λi h=>by rw[zd0 (rk:=rk),zd0 (rk:=rk)];exact no _ (by lia) (by lia),
   λi h=>by rw[zd0 (rk:=rk),zd0 (rk:=rk),xz,show sa+k+(na-k-1)=sa+na-1 by lia];exact yes2 _ (by lia) (by lia)⟩
 have fin:∀(r:Array Keyed)(st':SortSt),SG (setPending st pe) st'->InOrd rk (((arrOf st).extract (sa+k) (sa+na)).toList++((arrOf st).extract (sa+na) (sa+na+m)).toList) r.toList->wpS (model prog w) A E s (do
   modify λs=>setArr s (r.toList.zipIdx.foldl (λa (p,j)=>a.setIfInBounds (sa+k+j) p) (arrOf s))
   return (failedOf (<-get)).isNone) Q st':=λr st' g o=>by
  obtain⟨ga,gk,gf,gp⟩:=g.perm;have rl:r.toList.length=na-k+m:=by have:=o.1.length_eq;rw[length_append,length_toList,length_toList,length_toList,xz,yz]at this;simpa using this
  refine Ε (Ϡ (Ε (wpS_get ?_)));have ex:((arrOf st).extract (sa+k) (sa+na)).toList++((arrOf st).extract (sa+na) (sa+na+m)).toList=((arrOf st).extract (sa+k) (sa+na+m)).toList:=by rw[<-ό,Array.extract_append_extract];congr 2<;>lia
  have gi:∀i:Nat,(r.toList.zipIdx.foldl (λa (p:Keyed×Nat)=>a.setIfInBounds (sa+k+p.2) p.1) (arrOf st))[i]?=if sa+k<=i/\i<sa+na+m then r.toList[i-(sa+k)]? else(arrOf st)[i]?:=λi=>by have:=zhK (sa+k) r.toList 0 (arrOf st) (by lia) i;rw[Nat.add_zero,rl,show sa+k+(na-k+m)=sa+na+m by lia]at this;exact this
  have b2:SB κ T (setArr st' (r.toList.zipIdx.foldl (λa (p:Keyed×Nat)=>a.setIfInBounds (sa+k+p.2) p.1) (arrOf st))):=⟨(zka (p:=sa+k) (q:=sa+na+m) (by lia) (by lia) (by rw[<-ex];exact o.1) gi).trans b.perm,gk.trans b.kind,gf.trans b.failed⟩;have mid:∀t,sa+k<=t->t<sa+na+m->∃x,(r.toList.zipIdx.foldl (λa (p:Keyed×Nat)=>a.setIfInBounds (sa+k+p.2) p.1) (arrOf st))[t]?=Φ x/\∃j,sa+k<=j/\j<sa+na+m/\rk x=Kr rk (arrOf st) j:=λt t1 t2=>by
   rw[gi,if_pos ⟨t1,t2⟩];have hl:t-(sa+k)<r.toList.length:=by lia
   refine⟨_,getElem?_eq_getElem hl,?_⟩;have:=o.1.mem_iff.mp (List.getElem_mem hl);rw[ex]at this;obtain⟨j,hj,e⟩:=List.mem_iff_getElem.mp this;simp only[length_toList]at hj;rw[ώ]at e;refine⟨sa+k+j,by lia,?_,?_⟩;simp at hj;lia;rw[<-e,zd0 (rk:=rk)]
  generalize ef:r.toList.zipIdx.foldl (λa (p:Keyed×Nat)=>a.setIfInBounds (sa+k+p.2) p.1) (arrOf st)=ys at gi b2 mid;have ef':r.toList.zipIdx.foldl (λa (p,j)=>a.setIfInBounds (sa+k+j) p) (arrOf st')=ys:=by rw[ga];exact ef
  rw[ef'];show wpS _ _ _ _ (pure (failedOf st').isNone) _ _;rw[gf.trans b.failed];refine Ι (h _ b2 gp (λj hj=>?_) (So.of b2 u le λi j q1 q2 q3=>?_));show ys[j]?=_;rw[gi,if_neg (by lia)];show Kr rk ys i<=Kr rk ys j;have out:∀t,t<sa+k\/sa+na+m<=t->Kr rk ys t=Kr rk (arrOf st) t:=λt ht=>zcR (by rw[gi,if_neg (by lia)]);have low:∀t v,sa<=t->t<sa+k->sa+k<=v->v<sa+na+nb->Kr rk (arrOf st) t<=Kr rk (arrOf st) v:=λt v y1 y2 y3 y4=>by by_cases z1:v<sa+na;exact soa.le y1 (by lia) z1;exact Int.le_trans (yes t y1 y2) (sob.le (le_refl _) (by lia) y4)
  have high:∀t v,sa<=t->t<sa+na+m->sa+na+m<=v->v<sa+na+nb->Kr rk (arrOf st) t<=Kr rk (arrOf st) v:=λt v y1 y2 y3 y4=>by by_cases z1:t<sa+na;exact Int.le_trans (soa.le y1 (show t<=sa+na-1 by lia) (by lia)) (no2 v y3 y4);exact sob.le (by lia) (by lia) y4
  by_cases i1:i<sa+k;rw[out i (.inl i1)];by_cases j1:j<sa+k;rw[out j (.inl j1)];exact soa.le q1 (by lia) (by lia);by_cases j2:j<sa+na+m;obtain⟨x,g1,v,v1,v2,v3⟩:=mid j (by lia) j2;rw[zfn g1,v3];exact low i v q1 i1 v1 (by lia);rw[out j (.inr (by lia))];exact low i j q1 i1 (by lia) q3;by_cases i2:i<sa+na+m;obtain⟨x,g1,v,v1,v2,v3⟩:=mid i (by lia) i2;by_cases j2:j<sa+na+m;have gj:=gi j;have gi':=gi i;rw[if_pos ⟨by lia,j2⟩,getElem?_eq_getElem (by lia)]at gj;rw[if_pos ⟨by lia,i2⟩,getElem?_eq_getElem (by lia)]at gi';rw[zfn gj,zfn gi'];exact List.pairwise_iff_getElem.mp o.2 _ _ _ _ (by lia);rw[out j (.inr (by lia)),zfn g1,v3];exact high v j (by lia) v2 (by lia) q3;rw[out i (.inr (by lia)),out j (.inr (by lia))];exact sob.le (by lia) (by lia) q3
 by_cases lh:na-k<=m;rw[if_pos lh];exact Ε (ziu tw fin);rw[if_neg lh];exact Ε (ziw tw fin)
end
section
variable{rk:Keyed->Int}
abbrev Cv(rk:Keyed->Int)(xs:Array Keyed):List (Nat×Nat×Nat)->Nat->Nat->Prop
 | [],a,b=>a=b|r::l,a,b=>r.1=a/\1<=r.2.1/\So rk xs a (a+r.2.1)/\Cv rk xs l (a+r.2.1) b
def Cv.le{xs:Array Keyed}:∀{l:List (Nat×Nat×Nat)}{a b:Nat},Cv rk xs l a b->a+l.length<=b
 | [],_,_,h=>by cases h;simp|r::l,a,b,h=>by have:=h.2.2.2.le;have:=h.2.1;simp;lia
def Cv.app{xs:Array Keyed}{m:List (Nat×Nat×Nat)}{b:Nat}:∀{l:List (Nat×Nat×Nat)}{a:Nat},Cv rk xs (l++m) a b↔∃c,Cv rk xs l a c/\Cv rk xs m c b
 | [],a=>⟨λh=>⟨a,rfl,h⟩,λ⟨c,h1,h2⟩=>by cases h1;exact h2⟩|r::l,a=>⟨λh=>by obtain⟨c,h1,h2⟩:=(Cv.app (l:=l)).mp h.2.2.2;exact⟨c,⟨h.1,h.2.1,h.2.2.1,h1⟩,h2⟩,λz=>(by obtain⟨c,h1,h2⟩:=z;exact ⟨h1.1,h1.2.1,h1.2.2.1,(Cv.app (l:=l)).mpr ⟨c,h1.2.2.2,h2⟩⟩)⟩
def So.congr{xs ys:Array Keyed}{lo hi:Nat}(h:So rk xs lo hi)(e:∀i,lo<=i->i<hi->ys[i]?=xs[i]?):So rk ys lo hi:=λi j h1 h2 h3=>by rw[zcR (e i h1 (by lia)),zcR (e j (by lia) h3)];exact h i j h1 h2 h3
def Cv.congr{xs ys:Array Keyed}:∀{l:List (Nat×Nat×Nat)}{a b:Nat},Cv rk xs l a b->(∀i,a<=i->i<b->ys[i]?=xs[i]?)->Cv rk ys l a b
 | [],_,_,h,_=>h| r::l,a,b,h,e=>by have:=h.2.2.2.le;exact⟨h.1,h.2.1,h.2.2.1.congr λi h1 h2=>e i h1 (by lia),h.2.2.2.congr λi h1 h2=>e i (by lia) h2⟩
def Cv.modify{xs:Array Keyed}{f:Nat×Nat×Nat->Nat×Nat×Nat}(hf:∀r,(f r).1=r.1/\(f r).2.1=r.2.1):∀{l:List (Nat×Nat×Nat)}{i a b:Nat},Cv rk xs l a b->Cv rk xs (l.modify i f) a b
 | [],i,_,_,h=>by cases i<;>exact h| r::l,0,a,b,h=>by show Cv rk xs (f r::l) a b;have:=hf r;unfold Cv;rw[this.1,this.2];exact h|r::l,i+1,a,b,h=>⟨h.1,h.2.1,h.2.2.1,Cv.modify hf h.2.2.2⟩
end
section
variable{prog:ϊ}{w:ύ}{A:ϔ}{E:Θ->Β->Prop}{s:Β}{κ:SortKind}{rk:Keyed->Int}{T:List Keyed}{st:SortSt}
def zfI{i lo:Nat}{Q:Bool->SortSt->Prop}(hc:Looks prog w A s κ rk T)(u:(T.map rk).Nodup)(b:SB κ T st)(hl:lo<=T.length)(cv:Cv rk (arrOf st) (pendingOf st).toList 0 lo)(hi:i+1<(pendingOf st).size)
  (h:∀st',SB κ T st'->Cv rk (arrOf st') (pendingOf st').toList 0 lo->(pendingOf st').size+1=(pendingOf st).size->(∀j,lo<=j->(arrOf st')[j]?=(arrOf st)[j]?)->Q Γ st'):wpS (model prog w) A E s (mergeAt' i) Q st:=by
 generalize ep:(pendingOf st).toList=p at cv;have pl:p.length=(pendingOf st).size:=by rw[<-ep];simp
 have s1:p=p.take i++(p[i]::p[i+1]::p.drop (i+2)):=by have e1:p.drop i=p[i]::p.drop (i+1):=List.drop_eq_getElem_cons (by lia);have e2:p.drop (i+1)=p[i+1]::p.drop (i+2):=List.drop_eq_getElem_cons (by lia);rw[<-e2,<-e1,List.take_append_drop]
 generalize x1:p[i]=x at s1;generalize y1:p[i+1]=y at s1;have gx:(pendingOf st)[i]?=Φ x:=by rw[<-Array.getElem?_toList,ep,getElem?_eq_getElem (by lia),x1]
 have gy:(pendingOf st)[i+1]?=Φ y:=by rw[<-Array.getElem?_toList,ep,getElem?_eq_getElem (by lia),y1]
 rw[s1]at cv;obtain⟨c,v1,v2⟩:=Cv.app.mp cv;obtain⟨sa,na,pw⟩:=x;obtain⟨sb,nb,z⟩:=y;obtain⟨w1,w2,w3,w4,w5,w6,w7⟩:=v2;dsimp only at w1 w2 w3 w4 w5 w6 w7;subst w1 w4;have le:=w7.le;refine ziy hc u b gx gy ⟨w2,w5,by lia,w3,w6⟩ λst' b' pe fr so=>?_;have l0:(p.take i).length=i:=by simp;lia
 have ee:(pendingOf st').toList=p.take i++((sa,na+nb,pw)::p.drop (i+2)):=by
  rw[pe,Array.toList_eraseIdxIfInBounds,Array.toList_setIfInBounds,ep];conv=>lhs;rw[s1]
  rw[List.set_append_right _ _ (by lia),l0,Nat.sub_self,List.set_cons_zero,List.eraseIdx_append_of_length_le (by lia),l0,Nat.add_sub_cancel_left];rfl
 refine h st' b' ?_ ?_ λj hj=>fr j (.inr (by lia));rw[ee];refine Cv.app.mpr ⟨sa,v1.congr λi _ h2=>fr i (.inl h2),rfl,by dsimp only;lia,?_,?_⟩;rw[<-Nat.add_assoc];exact so;rw[<-Nat.add_assoc];exact w7.congr λi h1 h2=>fr i (.inr h1);rw[<-length_toList,ee,<-pl];simp;lia
structure SR(κ:SortKind)(rk:Keyed->Int)(T:List Keyed)(lo:Nat)(st:SortSt):Prop where
 b:SB κ T st
 cv:Cv rk (arrOf st) (pendingOf st).toList 0 lo
def SR.push{lo n:Nat}(r:SR κ rk T lo st)(h1:1<=n)(so:So rk (arrOf st) lo (lo+n)):SR κ rk T (lo+n) (setPending st ((pendingOf st).push (lo,n,0))):=by refine⟨⟨r.b.perm,r.b.kind,r.b.failed⟩,?_⟩;show Cv rk (arrOf st) ((pendingOf st).push (lo,n,0)).toList 0 (lo+n);rw[Array.toList_push];exact Cv.app.mpr ⟨lo,r.cv,rfl,h1,so,rfl⟩
def SR.mod{lo i:Nat}{f:Nat×Nat×Nat->Nat×Nat×Nat}(r:SR κ rk T lo st)(hf:∀r,(f r).1=r.1/\(f r).2.1=r.2.1):SR κ rk T lo (setPending st ((pendingOf st).modify i f)):=by refine⟨⟨r.b.perm,r.b.kind,r.b.failed⟩,?_⟩;show Cv rk (arrOf st) ((pendingOf st).modify i f).toList 0 lo;rw[Array.toList_modify];exact Cv.modify hf r.cv
def znh{z lo n:Nat}{body:Nat->Option Unit×Unit->StateT SortSt Sem (ForInStep (Option Unit×Unit))}{Q:Option Unit×Unit->SortSt->Prop}(hc:Looks prog w A s κ rk T)(u:(T.map rk).Nodup)(r:SR κ rk T lo st)(hl:lo+n<=T.length)(so:So rk (arrOf st) lo (lo+n))
  (hb:∀x (R:ForInStep (Option Unit×Unit)->SortSt->Prop) st,((pendingOf st).size>1->wpS (model prog w) A E s (mergeAt' ((pendingOf st).size-2)) (λo st'=>o=Γ/\R (.yield (Ψ,())) st') st)->R (.done (Ψ,())) st->wpS (model prog w) A E s (body x (Ψ,())) R st)
  (h:∀st',SR κ rk T lo st'->So rk (arrOf st') lo (lo+n)->Q (Ψ,()) st'):wpS (model prog w) A E s (forIn [0:z] ((Ψ,()):Option Unit×Unit) body) Q st:=by
 refine Ϛ (ϗ (I:=λ_ c st'=>c=(Ψ,())/\SR κ rk T lo st'/\So rk (arrOf st') lo (lo+n)) (Q:=λc st'=>c=(Ψ,())/\SR κ rk T lo st'/\So rk (arrOf st') lo (lo+n)) ?_ (λ_ _ z=>z) ⟨rfl,r,so⟩) ?_;rintro x c st' _ _ ⟨rfl,r,so⟩;refine hb x _ st' (λe=>?_) ⟨rfl,r,so⟩;exact zfI hc u r.b (by lia) r.cv (by lia) λst2 b2 c2 _ fr=>⟨rfl,rfl,⟨b2,c2⟩,so.congr λi h1 _=>fr i h1⟩;rintro c st' ⟨rfl,r,so⟩;exact h st' r so
def runs_wp{Q:Unit->SortSt->Prop}(hc:Looks prog w A s κ rk T)(u:(T.map rk).Nodup)(b:SB κ T st)(pe:pendingOf st = #[])(h2:2<=T.length)
  (h:∀st',SB κ T st'->So rk (arrOf st') 0 T.length->Q () st'):wpS (model prog w) A E s sortRuns' Q st:=by
 rw[sortRuns'_eq];refine Ε (wpS_get ?_);dsimp only;rw[b.size];generalize minRun' T.length T.length 0=mr;refine Ε (Ϛ (ϗ (I:=λx c st'=>∃lo,c=(Ψ,lo)/\(x<=lo\/T.length<=lo)/\lo<=T.length/\SR κ rk T lo st') (Q:=λc st'=>c=(Ψ,T.length)/\SR κ rk T T.length st') ?_ ?_ ⟨0,rfl,.inl (le_refl _),zero_le _,b,by rw[pe];rfl⟩) ?_);rintro x c st' _ hx ⟨lo,rfl,l1,l2,r⟩;dsimp only;by_cases e:lo≥T.length;rw[if_pos e];obtain rfl:lo=T.length:=by lia
 exact Ι ⟨rfl,r⟩;rw[if_neg e];refine Ε (zmn hc u r.b (by lia) (by lia) λm st2 b2 p2 bl m1 m2 so=>?_);have r2:SR κ rk T lo st2:=⟨b2,by rw[p2];exact r.cv.congr λi _ h=>bl i h⟩;dsimp only;by_cases e2:m<mr;rw[if_pos e2];refine Ε (wpS_lift (wpAny_rule ⟨rfl,?_⟩));refine Ε (zkX hc u b2 m1 (by lia) (by lia) so λst3 b3 p3 bl3 so3=>?_);have r3:SR κ rk T lo st3:=⟨b3,by rw[p3];exact r2.cv.congr λi _ h=>bl3 i h⟩;rw[if_neg (by simp)];refine Ε (wpS_get ?_);cases(pendingOf st3).back? with|none=>exact Ε (Ϡ (Ι ⟨_,rfl,by lia,by lia,SR.push r3 (by lia) so3⟩))| some x=>obtain⟨s1,n1,x⟩:=x;dsimp only;refine Ε (znh hc u r3 (n:=min (T.length-lo) mr) (by lia) so3 (λx R st h1 h2=>?_) λst4 r4 so4=>?_);refine Ε (wpS_get ?_);by_cases e:(pendingOf st).size>1;rw[if_pos e,getElem?_pos (pendingOf st) _ (by lia)];generalize(pendingOf st)[(pendingOf st).size-2]=v;obtain⟨_,_,o⟩:=v;dsimp only;split;exact Ι h2;refine Ε (Ϛ (h1 e) ?_);rintro o st ⟨rfl,z⟩;exact Ι z;rw[if_neg e];exact Ι h2;refine Ε (Ϡ (Ε (Ϡ (Ι ⟨_,rfl,by lia,by lia,SR.push (SR.mod r4 λ_=>⟨rfl,rfl⟩) (by lia) so4⟩))))
 rw[if_neg e2];refine Ε (wpS_get ?_);cases(pendingOf st2).back? with|none=>exact Ε (Ϡ (Ι ⟨_,rfl,by lia,by lia,SR.push r2 m1 so⟩))| some x=>obtain⟨s1,n1,x⟩:=x;dsimp only;refine Ε (znh hc u r2 (n:=m) (by lia) so (λx R st h1 h2=>?_) λst4 r4 so4=>?_);refine Ε (wpS_get ?_);by_cases e:(pendingOf st).size>1;rw[if_pos e,getElem?_pos (pendingOf st) _ (by lia)];generalize(pendingOf st)[(pendingOf st).size-2]=v;obtain⟨_,_,o⟩:=v;dsimp only;split;exact Ι h2;refine Ε (Ϛ (h1 e) ?_);rintro o st ⟨rfl,z⟩;exact Ι z;rw[if_neg e];exact Ι h2;refine Ε (Ϡ (Ε (Ϡ (Ι ⟨_,rfl,by lia,by lia,SR.push (SR.mod r4 λ_=>⟨rfl,rfl⟩) m1 so4⟩))))
 rintro c st' ⟨lo,rfl,l1,l2,r⟩;obtain rfl:lo=T.length:=by lia
 exact⟨rfl,r⟩;rintro c st' ⟨rfl,r⟩;dsimp only;have e0:=r.cv.le;simp only[length_toList,zero_add]at e0;refine Ε (Ϛ (ϗ (I:=λx c st'=>c=(Ψ,())/\((pendingOf st').size<=1\/(pendingOf st').size+x<=T.length)/\SR κ rk T T.length st') (Q:=λc st'=>c=(Ψ,())/\(pendingOf st').size<=1/\SR κ rk T T.length st') ?_ ?_ ⟨rfl,.inr e0,r⟩) ?_);rintro x c st' _ hx ⟨rfl,l1,r⟩;refine Ε (wpS_get ?_);by_cases e:(pendingOf st').size<=1;rw[if_pos e];exact Ι ⟨rfl,e,r⟩
 . rw[if_neg e];refine Ε (zfI hc u r.b (le_refl _) r.cv ?_ λst2 b2 c2 z2 _=>Ι ⟨rfl,.inr (by lia),b2,c2⟩);generalize Option.any _ _=bb;cases bb<;>simp only[Bool.false_eq_true,if_true,if_false]<;>lia
 rintro c st' ⟨rfl,l1,r⟩;exact⟨rfl,by lia,r⟩
 . rintro c st' ⟨rfl,l1,r⟩;refine Ι (h st' r.b ?_);have cv:=r.cv;have pl:(pendingOf st').toList.length<=1:=by simpa using l1
   match e:(pendingOf st').toList,pl with| [],_=>rw[e]at cv;have:0=T.length:=cv;lia| [p],_=>rw[e]at cv;obtain⟨_,_,so,e'⟩:=cv;have e':0+p.2.1=T.length:=e';rw[e']at so;exact so
end
end Sr
end R
namespace R
open PySem PySem.Spec PyProof.Rows L2
section
variable{ρ:Type}{lt:ρ->ρ->Prop}[DecidableRel lt]
abbrev rkG(lt:ρ->ρ->Prop)[DecidableRel lt](rows:List ρ)(k:ρ):Int:=((rows.filter λx=>decide (lt x k)).length:Nat)
structure Ord(lt:ρ->ρ->Prop):Prop where
 irr:∀r,¬lt r r
 tra:∀{a b c},lt a b->lt b c->lt a c
 tot:∀{a b},a≠b->lt a b\/lt b a
def zhn(o:Ord lt)(ha:a∈rows)(h:lt a b):rkG lt rows a<rkG lt rows b:=by unfold rkG;have:=zf2 (p:=λx=>decide (lt x a)) (q:=λx=>decide (lt x b)) (l:=rows) (a:=a) (λx _ hx=>decide_eq_true (o.tra (of_decide_eq_true hx) h)) ha (decide_eq_false (o.irr a)) (decide_eq_true h);lia
def zjr(o:Ord lt)(ha:a∈rows)(hb:b∈rows):lt a b↔rkG lt rows a<rkG lt rows b:=by refine⟨zhn o ha,λh=>?_⟩;by_cases e:a=b;subst e;lia;rcases o.tot e with z|z;exact z;have:=zhn o hb z;lia
def zn4(o:Ord lt)(ha:a∈rows)(hb:b∈rows)(h:rkG lt rows a=rkG lt rows b):a=b:=by by_cases e:a=b;exact e;rcases o.tot e with z|z;have:=zhn o ha z;lia;have:=zhn o hb z;lia
end
variable[Mks]
section
variable{ρ:Type}[Inhabited ρ]{lt:ρ->ρ->Prop}[DecidableRel lt]{RA KA:Hp->Addr->ρ->Prop}{κ:SortKind}
variable{X:Cx}{pins:List (Addr×Obj)}{σ:L2.St}{H:Hp}{s:Β}{A':ϔ}{f D kS:Addr}{rows:List ρ}
structure SortK(X:Cx)(pins:List (Addr×Obj))(σ:L2.St)(A':ϔ)(H:Hp)(f:Addr)(RA KA:Hp->Addr->ρ->Prop)(κ:SortKind)(lt:ρ->ρ->Prop)[DecidableRel lt]:Prop where
 upR:∀{H1 H2 a r},Kp H1 H2->RA H1 a r->RA H2 a r
 upK:∀{H1 H2 b r},Kp H1 H2->KA H1 b r->KA H2 b r
 call:∀{H1 s1 a r},Inv X pins σ H1 s1->Ext [] H [] H1->RA H1 a r->wpAny (model X.prog X.w) A' (call (.ref f) [.ref a]) (λy s'=>∃b H',y=.ref b/\Inv X pins σ H' s'/\KA H' b r/\Ext [] H1 [] H'/\Un (frs X.stack) [] H1 H' s1.heap s'.heap) (λ_ _=>False) s1
 kind:∀{H1 s1}{ks:List Θ}{Q:SortKind->Β->Prop}{E:Θ->Β->Prop},Inv X pins σ H1 s1->(∀k∈ks,∃b r,k=Θ.ref b/\KA H1 b r)->1<=ks.length->Q κ s1->wpAny (model X.prog X.w) A' (keyKind' ks.toArray) Q E s1
 less:∀{H1 s1 b c r r'}{Q:Bool->Β->Prop}{E:Θ->Β->Prop},Inv X pins σ H1 s1->KA H1 b r->KA H1 c r'->Q (decide (lt r r')) s1->wpAny (model X.prog X.w) A' (keyLt' κ (.ref b) (.ref c)) Q E s1
 ord:Ord lt
 fn:∀{H1 b r r'},KA H1 b r->KA H1 b r'->r=r'
structure KeyG(KA:Hp->Addr->ρ->Prop)(rows:List ρ)(H:Hp)(ks:List Θ)(i:Nat):Prop where
 len:ks.length=i
 at_:∀(j:Nat)(k:Θ),ks[j]?=Φ k->∃(b:Addr) (r:ρ),rows[j]?=Φ r/\k=Θ.ref b/\KA H b r
def KeyG.snoc(e:SortK X pins σ A' H f RA KA κ lt)(K:KeyG KA rows g ks i)(x:Ext [] g [] d)(l:rows[i]?=Φ r)(m:KA d b r):KeyG KA rows d (ks++[.ref b]) (i+1):=by
 refine⟨by simp[K.len],λj k a=>?_⟩;by_cases h:j<ks.length;rw[getElem?_append_left h]at a;obtain⟨c,q,n,o,p⟩:=K.at_ j k a;exact⟨c,q,n,o,e.upK x.kp p⟩;rw[getElem?_append_right (by lia)]at a;have:j=ks.length:=by have:=(Ω.mp a).1;simp at this;lia
 subst this;simp at a;exact⟨b,r,by rw[K.len];exact l,a.symm,m⟩
structure KJG(KA:Hp->Addr->ρ->Prop)(X:Cx)(pins:List (Addr×Obj))(σ:L2.St)(H:Hp)(D kS:Addr)(e1:Nat)(rows:List ρ)(i:Nat)(s':Β):Prop where
 ex:∃H' ks e,Inv X pins σ H' s'/\Ext [] H [] H'/\H' D=Ψ/\H' kS=Ψ/\zfm s' D [] e1/\zfm s' kS ks e/\KeyG KA rows H' ks i
def zl5(Sk:SortK X pins σ A' H f RA KA κ lt){e1 i:Nat}{a:Addr}{r:ρ}(oD:Own X pins D)(oK:Own X pins kS)(ne:D≠kS)(ha:RA H a r)(hri:rows[i]?=Φ r)(hi:i<1000){s':Β}(J:KJG KA X pins σ H D kS e1 rows i s'){items:Array Θ} :
  wpAny (model X.prog X.w) A' (do
   match <-(call (.ref f) [.ref a]).attempt with
   |.ok k=>Builtin.List.listUpdate (.ref kS) (·.push k);pure (ForInStep.yield PUnit.unit)| .error e=>
    rule "list.sort.key-raised"
    let made <-Builtin.List.listItems (.ref kS)
    Builtin.List.listUpdate (.ref kS) λ_=>#[]
    letGo made.toList.reverse [e]
    Builtin.List.listUpdate (.ref D) λ_=>items;throw e) (λq s''=>q=.yield ⟨⟩/\KJG KA X pins σ H D kS e1 rows (i+1) s'') (λ_ _=>False) s':=by
 obtain⟨H1,ks,e,I,x,d1,k1,lD,lK,kl⟩:=J.ex;refine Α (wpAny_attempt (ϑ (Sk.call I x (Sk.upR x.kp ha)) ?_ λ_ _ z=>z.elim));rintro y s2 ⟨b,H2,rfl,I2,hb2,x2,un⟩;have D2:=un.keep D _ lD d1 (oD.stk I) (by simp);have K2:=un.keep kS _ lK k1 (oK.stk I) (by simp);have hz:ks.length=i:=kl.len;show wpAny _ _ (Builtin.List.listUpdate (.ref kS) (·.push (.ref b))>>=λ_=>pure (ForInStep.yield PUnit.unit)) _ _ s2;refine Α (listUpdate_at K2 rfl (Ν ⟨rfl,?_⟩) (by rw[size_toArray,Τ];lia) (by rw[Array.size_push,size_toArray,Τ];lia));obtain⟨e',l'⟩:=zeV (us:=ks++[.ref b]) K2 (·.push (.ref b)) (by simp);refine⟨H2,ks++[.ref b],e',?_,x.trans x2,un.free D _ lD d1 (by simp),un.free kS _ lK k1 (by simp),zb9 ne D2,l',kl.snoc Sk x2 hri hb2⟩;exact zaD I2 (ch:=[kS]) (λb hb=>by rw[mem_singleton.mp hb];exact oK) (λb hb=>by rw[mem_singleton.mp hb];exact un.free kS _ lK k1 (by simp)) (λb o hb q=>zb9 (by simpa using hb) q) I2.bare
def zpP{st}(hout:(arrOf st).map (·.2)=out.toArray)(hz:out.length<1000)(hi:i<1000)(hf:failedOf st=Ψ)(oD:Own X pins D)(oK:Own X pins kS)(ne:D≠kS)(J:KJG KA X pins σ H D kS e1 rows i s)(h:∀s',KEnd X pins σ H D out s'->P (.done (.ret .none)) s'):wpAny (model X.prog X.w) A' (ksk_tail D Δ e1 (.ref kS) st) P E s:=by
 obtain⟨H1,ks,e,I,x,d1,k1,lD,lK,kl⟩:=J.ex;have hk:ks.length<1000:=by rw[kl.len];exact hi
 have I1:=zaD (h':=s.heap.update kS (Obj.mapSeq λ_=>#[])) (g':=s.gens) (t':=s.toks) (d':=s.drawn) (ch:=[kS]) I (λb hb=>by rw[mem_singleton.mp hb];exact oK) (λb hb=>by rw[mem_singleton.mp hb];exact k1) (λb o hb q=>zb9 (by simpa using hb) q) I.bare;have lD1:zfm {s with heap:=s.heap.update kS (Obj.mapSeq λ_=>#[])} D [] e1:=zb9 ne lD;obtain⟨e',lD2⟩:=zeV (us:=out) lD1 (λ_=>out.toArray) rfl;have I2:=zaD (h':=(s.heap.update kS (Obj.mapSeq λ_=>#[])).update D (Obj.mapSeq λ_=>out.toArray)) (g':=s.gens) (t':=s.toks) (d':=s.drawn) (ch:=[D]) I1 (λb hb=>by rw[mem_singleton.mp hb];exact oD) (λb hb=>by rw[mem_singleton.mp hb];exact d1) (λb o hb q=>zb9 (by simpa using hb) q) I.bare;unfold ksk_tail;rw[hout,hf];refine Α (listUpdate_at lK rfl (Α (wpAny_letGo (Α (seqEpoch_at lD1 rfl (Α (listUpdate_at lD1 rfl ?_ (by simp) (by simp only[Bool.false_eq_true,if_false,size_toArray,Τ];lia))))))) (by rw[size_toArray,Τ];lia) (by simp));simp only[bne_self_eq_false,Bool.false_eq_true,if_false];exact Ν (h _ ⟨H1,e',I2,x,d1,lD2⟩)
structure PlcG(lt:ρ->ρ->Prop)(rows:List ρ)(p:List Nat):Prop where
 lt':∀i∈p,i<rows.length
 asc:(p.map λi=>rows.getD i default).Pairwise lt
 perm:p.Perm (List.range rows.length)
def endG(Sk:SortK X pins σ A' H f RA KA κ lt){vs:List Θ}(hl:vs.length=rows.length)(h64:rows.length<1000)(nd:rows.Nodup)(oD:Own X pins D)(oK:Own X pins kS)(ne:D≠kS)(J:KJG KA X pins σ H D kS e1 rows rows.length s)(h:∀p s',PlcG lt rows p->KEnd X pins σ H D (p.map λi=>vs.getD i Θ.none) s'->P (.done (.ret .none)) s'):
  wpAny (model X.prog X.w) A' (Builtin.List.listItems (.ref kS)>>=λkeys=>ksk_end D Δ vs.toArray e1 (.ref kS) keys) P E s:=by
 obtain⟨H1,ks,e,I,x,d1,k1,lD,lK,kl⟩:=id J.ex;refine Α (listItems_at lK rfl ?_);unfold ksk_end;simp only[Bool.false_eq_true,if_false];have klen:ks.length=vs.length:=by rw[kl.len,hl]
 by_cases h2:vs.toArray.size<2;rw[if_pos h2,if_pos h2];have h2':rows.length<2:=by rw[<-hl];simpa using h2
 refine Α (Ν (Α ?_));rw[StateT.run_pure];have eo:(arrOf (SortSt.mk' general' (ks.toArray.zip vs.toArray) #[] 7 Ψ)).map (·.2)=vs.toArray:=by show((ks.toArray.zip vs.toArray).map (·.2))=vs.toArray;apply Array.toList_inj.mp;rw[Array.toList_map,ksk_zip];show(ks.zip vs).map Prod.snd=vs;exact List.map_snd_zip (by lia)
 have er:((List.range rows.length).map λi=>vs.getD i Θ.none)=vs:=by apply List.ext_getElem;simp[hl];intro i g1 g2;simp[g2]
 refine Ν (zpP (i:=rows.length) eo (by lia) h64 rfl oD oK ne J λs' K=>h (List.range rows.length) s' ⟨λi hi=>mem_range.mp hi,?_,List.Perm.refl _⟩ (by rw[er];exact K));rw[Ϙ,List.pairwise_iff_getElem];intro i j hi hj hij;simp at hi hj;lia
 . have h2':2<=vs.length:=by simpa using h2
   rw[if_neg h2,if_neg h2];have hk:∀k∈ks,∃b r,k=Θ.ref b/\KA H1 b r:=λk hm=>by obtain⟨j,hj⟩:=List.mem_iff_getElem?.mp hm;obtain⟨b,r,_,q1,q2⟩:=kl.at_ j k hj;exact⟨b,_,q1,q2⟩
   refine Α (Sk.kind I hk (by lia) ?_)
   classical
   have tl:(ks.zip vs).length=rows.length:=by rw[List.length_zip,klen];lia
   have kat:∀i (h:i<(ks.zip vs).length),∃b,(ks.zip vs)[i].1=Θ.ref b/\KA H1 b (rows.getD i default):=λi h=>by obtain⟨b,r,b1,b2,b3⟩:=kl.at_ i _ (getElem?_eq_getElem (show i<ks.length by lia));refine⟨b,?_,?_⟩;rw[List.getElem_zip];exact b2;rw[show rows.getD i default=r by rw[Υ,b1];rfl];exact b3
   have mr:∀i,i<(ks.zip vs).length->rows.getD i default∈rows:=λi h=>mem_of_getElem? (getD_mem default (by lia));have ix:∀i (h:i<(ks.zip vs).length),(ks.zip vs).idxOf (ks.zip vs)[i]=i:=λi h=>by have h':(ks.zip vs).idxOf (ks.zip vs)[i]<(ks.zip vs).length:=List.idxOf_lt_length_of_mem (List.getElem_mem h);have e:=List.getElem_idxOf h';obtain⟨b,b1,b2⟩:=kat i h;obtain⟨c,c1,c2⟩:=kat _ h';rw[e,b1]at c1;cases c1;have e2:=Sk.fn b2 c2;have q1:=getD_mem (default:ρ) (show i<rows.length by lia);have q2:=getD_mem (default:ρ) (show(ks.zip vs).idxOf (ks.zip vs)[i]<rows.length by lia);rw[e2,<-q2]at q1;exact((List.getElem?_inj (by lia) nd).mp q1).symm
   have sz:(SortSt.mk' κ (ks.toArray.zip vs.toArray) #[] 7 Ψ)=SortSt.mk' κ (ks.zip vs).toArray #[] 7 Ψ:=by congr 1;apply Array.toList_inj.mp;rw[ksk_zip]
   rw[sz];have rw1:=Sr.runs_wp (prog:=X.prog) (w:=X.w) (A:=A') (E:=E) (s:=s) (κ:=κ) (T:=ks.zip vs) (rk:=λx=>rkG lt rows (rows.getD ((ks.zip vs).idxOf x) default)) (st:=SortSt.mk' κ (ks.zip vs).toArray #[] 7 Ψ)
    (Q:=λ_ st'=>Sr.SB κ (ks.zip vs) st'/\Sr.So (λx=>rkG lt rows (rows.getD ((ks.zip vs).idxOf x) default)) (arrOf st') 0 (ks.zip vs).length) (λx y C hx hy hC=>?_) ?_ ⟨List.Perm.refl _,rfl,rfl⟩ rfl (by lia) λst' b so=>⟨b,so⟩
   refine Α (ϑ rw1 ?_ λ_ _ z=>z);rintro⟨⟨⟩,st'⟩ s' ⟨rfl,b,so⟩;have as:(arrOf st').size=rows.length:=b.size.trans tl;have am:∀i (h:i<(arrOf st').size),(ks.zip vs).idxOf (arrOf st')[i]<(ks.zip vs).length:=λi h=>List.idxOf_lt_length_of_mem (b.mem h);have ndT:(ks.zip vs).map (ks.zip vs).idxOf=List.range (ks.zip vs).length:=by apply List.ext_getElem;simp;intro i g1 g2;rw[List.getElem_map,List.getElem_range];exact ix i (by simpa using g1)
   refine zpP (i:=rows.length) (out:=((arrOf st').toList.map (ks.zip vs).idxOf).map λi=>vs.getD i Θ.none) ?_ ?_ h64 b.failed oD oK ne J λs' K=>h ((arrOf st').toList.map (ks.zip vs).idxOf) s' ⟨λi hi=>?_,?_,?_⟩ K;apply Array.toList_inj.mp;rw[Array.toList_map,map_map];refine Ρ λx hx=>?_;have xm:=b.perm.mem_iff.mp hx;have hl':=List.idxOf_lt_length_of_mem xm;have e:=List.getElem_idxOf hl';show x.2=vs.getD ((ks.zip vs).idxOf x) Θ.none;have:(ks.zip vs)[(ks.zip vs).idxOf x].2=vs[(ks.zip vs).idxOf x]'(by lia):=by rw[List.getElem_zip]
   rw[e]at this;rw[this,Υ,getElem?_eq_getElem];rfl;simp[as];exact h64;obtain⟨x,hx,rfl⟩:=mem_map.mp hi;have:=List.idxOf_lt_length_of_mem (b.perm.mem_iff.mp hx);lia;rw[map_map,Ϙ,List.pairwise_iff_getElem];intro i j hi hj hij;simp only[length_toList]at hi hj;have:=so i j (zero_le _) hij (by lia);rw[Sr.Kr_at hi,Sr.Kr_at hj]at this;simp only[ώ];exact(zjr Sk.ord (mr _ (am i hi)) (mr _ (am j hj))).mpr this;have:=b.perm.map (ks.zip vs).idxOf;rw[ndT,tl]at this;exact this;obtain⟨i,hi,rfl⟩:=List.mem_iff_getElem.mp hx;obtain⟨j,hj,rfl⟩:=List.mem_iff_getElem.mp hy;obtain⟨b,b1,b2⟩:=kat i hi;obtain⟨c,c1,c2⟩:=kat j hj;rw[b1,c1];refine Sk.less I b2 c2 ?_;have:decide (lt (rows.getD i default) (rows.getD j default))=decide ((λx=>rkG lt rows (rows.getD ((ks.zip vs).idxOf x) default)) (ks.zip vs)[i]<(λx=>rkG lt rows (rows.getD ((ks.zip vs).idxOf x) default)) (ks.zip vs)[j]):=by apply ϙ.mpr;rw[decide_eq_true_eq,decide_eq_true_eq];dsimp only;rw[ix i hi,ix j hj];exact zjr Sk.ord (mr i hi) (mr j hj)
   rw[this];exact hC;have e:(ks.zip vs).map (λx=>rkG lt rows (rows.getD ((ks.zip vs).idxOf x) default))=rows.map (rkG lt rows):=by apply List.ext_getElem;simp[tl];intro i g1 g2;rw[List.getElem_map,List.getElem_map,ix i (by simpa using g1),Υ,getElem?_eq_getElem (by simpa using g2)];rfl
   rw[e,List.nodup_iff_pairwise_ne,Ϙ];exact nd.imp_of_mem λ{a b} ha hb ne e=>ne (zn4 Sk.ord ha hb e)
def zsr{as:List Addr}(Sk:SortK X pins σ A' H f RA KA κ lt)(hl:as.length=rows.length)(h64:rows.length<1000)(nd:rows.Nodup)(oD:Own X pins D)(oK:Own X pins kS)(ne:D≠kS)(ha:∀(j:Nat)(a:Addr),as[j]?=Φ a->∃r:ρ,rows[j]?=Φ r/\RA H a r)(J:KJG KA X pins σ H D kS e1 rows 0 s)(h:∀p s',PlcG lt rows p->KEnd X pins σ H D (p.map λi=>(as.map Θ.ref).getD i Θ.none) s'->P (.done (.ret .none)) s'):
  wpAny (model X.prog X.w) A' (ksk_rest D (.ref f) Δ (as.map Θ.ref).toArray e1 (.ref kS)) P E s:=by
 unfold ksk_rest;refine Α (wpAny_rule ?_);rw[List.forIn_toArray];refine Α (ksk_fold (λi s'=>KJG KA X pins σ H D kS e1 rows i s') (as.map Θ.ref) 0 s J (λj v s' hj J'=>?_) λs' J'=>?_);rw[getElem?_map]at hj;cases ej:as[j]? with
 |none=>rw[ej]at hj;exact nS hj
 |some a=>rw[ej]at hj;cases hj;obtain⟨r,hr1,hr2⟩:=ha j a ej;have hlt:=(Ω.mp hr1).1;rw[zero_add]at J'⊢;exact ϑ (zl5 Sk oD oK ne hr2 hr1 (by lia) J' (items:=(as.map Θ.ref).toArray)) (λ_ _ z=>z) λ_ _ z=>z.elim
 rw[zero_add,length_map,hl]at J';exact endG Sk (vs:=as.map Θ.ref) (by simpa using hl) h64 nd oD oK ne J' h
def zpN{as:List Addr}(I:Inv X pins σ H s)(Sk:SortK X pins σ A' H f RA KA κ lt)(hl:as.length=rows.length)(h64:rows.length<1000)(nd:rows.Nodup)(oD:Own X pins D)(d0:H D=Ψ)(lD:zfm s D (as.map Θ.ref) n0)(ha:∀(j:Nat)(a:Addr),as[j]?=Φ a->∃r:ρ,rows[j]?=Φ r/\RA H a r)(h:∀p s',PlcG lt rows p->KEnd X pins σ H D (p.map λi=>(as.map Θ.ref).getD i Θ.none) s'->P (.done (.ret .none)) s'):wpAny (model X.prog X.w) A' (ksk_tree D (.ref f) Δ) P E s:=by
 obtain⟨e1,l1⟩:=zeV (us:=[]) lD (λ_=>#[]) rfl;have hD:D<s.heap.objs.size:=Η lD;have I1:=zaD (h':=s.heap.update D (Obj.mapSeq λ_=>#[])) (g':=s.gens) (t':=s.toks) (d':=s.drawn) (ch:=[D]) I (λb hb=>by rw[mem_singleton.mp hb];exact oD) (λb hb=>by rw[mem_singleton.mp hb];exact d0) (λb o hb q=>zb9 (by simpa using hb) q) I.bare;have kp:∀(o1 o2:Obj) b o,(s.heap.update D (Obj.mapSeq λ_=>#[])).get? b=Φ o->(((s.heap.update D (Obj.mapSeq λ_=>#[])).push o1).push o2).get? b=Φ o:=λo1 o2 b o q=>Λ _ (Λ _ q);have sz:∀o1:Obj,((s.heap.update D (Obj.mapSeq λ_=>#[])).push o1).objs.size=s.heap.objs.size+1:=λo1=>by rw[size_push',Heap.size_update]
 have hlen:(as.map Θ.ref).length<1000:=by rw[length_map,hl];exact h64
 unfold ksk_tree;refine Α (listItems_at lD rfl (Α (listUpdate_at lD rfl (Α (seqEpoch_at l1 rfl (Α (wpAny_newTuple (Α (wpAny_newList (wpAny_holding ?_) (zero_le _))) (by rw[Τ];show(as.map Θ.ref).length<=_;lia))))) (by rw[size_toArray,Τ];lia) (zero_le _))));have I2:=zaD (h':=((s.heap.update D (Obj.mapSeq λ_=>#[])).push (seqObj "tuple" (as.map Θ.ref).toArray 0)).push (seqObj "list" #[] 0)) (g':=s.gens) (t':=s.toks) (d':=s.drawn) (ch:=[]) I1 (λb hb=>by cases hb) (λb hb=>by cases hb) (λb o _ q=>kp _ _ b o q) I.bare;have oK:Own X pins ((s.heap.update D (Obj.mapSeq λ_=>#[])).push (seqObj "tuple" (as.map Θ.ref).toArray 0)).objs.size:=by rw[sz];exact Own.fresh I (le_succ _)
 refine zsr (kS:=((s.heap.update D (Obj.mapSeq λ_=>#[])).push (seqObj "tuple" (as.map Θ.ref).toArray 0)).objs.size) Sk hl h64 nd oD oK (by rw[sz];exact ne_of_lt (Nat.lt_succ_of_lt hD)) ha ?_ h;exact⟨H,[],0,I2,Ext.refl _ _,d0,I.hok.fresh (by rw[sz];exact le_succ _),kp _ _ _ _ l1,Κ _ rfl,rfl,λj k hj=>by simp at hj⟩
end
end R
namespace R
open PySem PySem.Spec PyProof.Rows L2
section
variable{prog:ϊ}{w:ύ}{A:ϔ}{E:Θ->Β->Prop}{s:Β}
abbrev IsPr(prog:ϊ)(w:ύ)(h:Heap)(k:K3)(a:Addr):Prop:=k.1=0/\∃o u b n,h.get? a=Φ o/\o.cls=.type "tuple"/\o.data=.seq #[.ref b,.int k.2.2 u] n/\IsTupleKey (zar prog w) h (k.2.1.map Sum.inl) b
def zsu(hu:A.units<cLine)(hx:IsPr prog w s.heap x a)(hy:IsPr prog w s.heap y b)(q:Q (decide (Lt3 x y)) s):
  wpAny (model prog w) A (keyLt' (tuples' Δ) (.ref a) (.ref b)) Q E s:=by
 obtain⟨zx,oa,u1,b1,na,hoa,_,hda,hia⟩:=hx;obtain⟨zy,ob,u2,b2,nb,hob,_,hdb,hib⟩:=hy;obtain⟨x1,x2,x3⟩:=x;obtain⟨y1,y2,y3⟩:=y;dsimp only at hda hdb hia hib zx zy;subst zx zy;refine PySem.W.kat_lt hoa hda hob hdb (kat_cons (wpAny_eqBool_tuple hu hia hib ?_));by_cases d2:x2=y2;rw[show decide ((x2.map Sum.inl:List Key)=y2.map Sum.inl)=Γ from decide_eq_true (by rw[d2])];refine PySem.W.kat_yes (kat_cons (wpAny_eqBool_int ?_));by_cases d3:x3=y3;rw[show(x3==y3)=Γ by simp[d3]];refine PySem.W.kat_yes (PySem.W.kat_nil ?_);rw[decide_eq_false (by subst d2 d3;exact zcd _)]at q;exact q;rw[show(x3==y3)=Δ by simp[d3]];refine kat_no (kat_one _ _ (wpAny_lt_int ?_));have:decide (Lt3 (0,x2,x3) (0,y2,y3))=decide (x3<y3):=by apply ϙ.mpr;rw[decide_eq_true_eq,decide_eq_true_eq];subst d2;unfold Lt3;dsimp only;rw[zce];simp
 rw[this]at q;exact q;rw[show decide ((x2.map Sum.inl:List Key)=y2.map Sum.inl)=Δ from decide_eq_false (λz=>d2 (zgP z))];obtain⟨i1,p1,p2⟩:=zeG hia;obtain⟨i2,p3,p4⟩:=zeG hib;refine kat_no (kat_one _ _ (HT.lt_tupInts p1 p3 p2 p4 hu ?_));have:decide (Lt3 (0,x2,x3) (0,y2,y3))=HT.lexLt x2 y2:=by rw[<-zgK];apply ϙ.mpr;rw[decide_eq_true_eq];unfold Lt3;dsimp only;simp[d2]
 rw[this]at q;exact q
def zjG:∀{vs:List Θ},(∀v∈vs,∃c k,v=Θ.ref c/\IsPr prog w h k c)->∃fs:List Θ,KatTups h vs fs/\fs.length=vs.length/\∀v∈fs,∃(b:Addr) (ks:List Key),v=Θ.ref b/\IsTupleKey (zar prog w) h ks b
 | [],_=>⟨[],KatTups.nil,rfl,λv h=>by cases h⟩| v::vs,hk=>by obtain⟨c,k,rfl,z,o,u,b,n,g1,g2,g3,g4⟩:=hk v (by simp);obtain⟨fs,h1,h2,h3⟩:=zjG (vs:=vs) λx hx=>hk x (by simp[hx]);refine⟨.ref b::fs,KatTups.cons g1 g2 g3 rfl h1,by simp[h2],λv hv=>?_⟩;rcases mem_cons.mp hv with rfl|hv;exact⟨b,_,rfl,g4⟩;exact h3 v hv
def zon{vs:List Θ}(hk:∀v∈vs,∃c k,v=Θ.ref c/\IsPr prog w s.heap k c)(h1:1<=vs.length)(q:Q (tuples' Δ) s):wpAny (model prog w) A (keyKind' vs.toArray) Q E s:=by obtain⟨fs,t1,t2,t3⟩:=zjG hk;refine PySem.W.kat_kind (T:=.type "tuple") t1 (by lia) (λv hv=>?_) rfl q;obtain⟨b,ks,rfl,o,items,n,ho,hc,hd,hi⟩:=t3 v hv;have:PySem.W.Looks (model prog w) s.heap (typeOf (.ref b)) o.cls:=(PySem.W.Looks.ld ho).andThen .now;rw[hc]at this;exact this
end
abbrev Key2(H:Hp)(c:Addr)(k:K3):Prop:=k.1=0/\∃b,H c=Φ (.tup [.ref b,.int k.2.2])/\H b=Φ (.tup (k.2.1.map V.int))
abbrev Let2(H:Hp)(a:Addr)(k:K3):Prop:=k.1=0/\∃t b w,H a=Φ (.tup [t,.ref b,.int k.2.2,w])/\H b=Φ (.tup (k.2.1.map V.int))
def zoU(p:Key2 H c k)(q:Key2 H c k'):k=k':=by obtain⟨z,b,h1,h2⟩:=p;obtain⟨z',b',h1',h2'⟩:=q;rw[h1]at h1';injection h1' with h1';injection h1' with h1';simp only[List.cons.injEq,V.ref.injEq,V.int.injEq,and_true]at h1';obtain⟨rfl,e⟩:=h1';rw[h2]at h2';injection h2' with h2';injection h2' with h2';exact Prod.ext (z.trans z'.symm) (Prod.ext ((List.map_inj_right λ_ _ h=>V.int.inj h).mp h2') e)
def zgN(ok:HOk P w H h)(e:Key2 H c k):IsPr P w h k c:=by obtain⟨z,b,e1,e2⟩:=e;obtain⟨_,its,rv,o,ho,hc,n,hd⟩:=(show ObjOk P w H h c (.tup _) from ok c _ e1);cases rv with| @cons _ v1 _ r1 q1 rv=>cases rv with| @cons _ v2 _ r2 q2 rv=>cases rv;cases(show v1=Θ.ref b from q1);obtain⟨u,rfl⟩:=q2;refine⟨z,o,u,b,n,ho,hc,hd,?_⟩;have:=zfQ (ks:=k.2.1.map Sum.inl) ok (a:=b) (by rw[map_map];exact e2);exact this
variable[Mks]
structure KeyBody(body:Expr):Prop where
 ex:∃p1 p2 p3 p4 p5 j1 j2,body=.Subscript (.Name "letter" p1) (.Slice (Φ (.Constant (.int 1) j1 p2)) (Φ (.Constant (.int 3) j2 p3)) Ψ p4) p5
section
variable{X:Cx}{pins:List (Addr×Obj)}{σ:L2.St}{H:Hp}{s:Β}{A':ϔ}{f:Addr}{name qual:Str}{params:Arguments}{body:Expr}{scope:Scope}
def zl0(I:Inv X pins σ H s)(hr:Room 2 A')(e0:Env0 X.prog X.w X.K X.mg X.base A' X.stack s H)(L:LamAt H f name qual params body scope)(hs:FnScope ["letter"] ["letter"] scope)(hb:∀(pm cd ct u:Θ),bindArgs (kla_fn name qual params body scope [] pm cd ct) ⟨[u],[]⟩=pure [(("letter":Str),u)])(kb:KeyBody body)(ha:Let2 H a k):
  wpAny (model X.prog X.w) A' (call (.ref f) [.ref a]) (λy s'=>∃b H',y=.ref b/\Inv X pins σ H' s'/\Key2 H' b k/\Ext [] H [] H'/\Un (frs X.stack) [] H H' s.heap s'.heap) (λ_ _=>False) s:=by
 obtain⟨pm,ct,c',oc,vs,t,h1,h2,h3,h4⟩:=L.ex;have of:=(I.hok f _ h1).1;have oo:=(I.hok c' _ h2).1;obtain⟨p1,p2,p3,p4,p5,j1,j2,rfl⟩:=kb.ex;obtain⟨z,tt,b0,ww,e1,e2⟩:=ha;refine wpAny_call (codeAny_mono (zj9 (CX:=CX0) (E:=λ_ _ _=>False) (Q:=λw H'=>∃b,w=V.ref b/\Key2 H' b k/\Ext [] H [] H') (vs:=[V.ref a]) (us:=[.ref a]) hs hr e0 of ⟨c',oc,vs,t,rfl,oo,h3,h4⟩
  (.of_eq (hb pm _ ct _)) (.cons (show L2.RelV (.ref a) (.ref a) from rfl) .nil) rfl (λhr'=>zhu zmK (zdN (i:=0) (x:="letter") rfl ((hs.par "letter" (by simp)).elim .inl λq=>.inr (.inl q))) (zgA zfF) (zgA zfF)) ?_) λr s' q=>?_)
 refine⟨.ref a,rfl,1,rfl,3,rfl,a,[tt,.ref b0,.int k.2.2,ww],rfl,.inl (Rd.of e1),(λz=>absurd (show(1:Nat)=0 from z.1) (by decide)),λp hp=>⟨p,rfl,⟨z,b0,zak,?_⟩,zfi hp⟩⟩;rw[zah (zai e2 hp)];exact e2;cases r with
 |error e=>exact q.elim| ok fl=>
  cases fl with
  |ret y=>
   obtain⟨w,H',os,bare,un,hok,rv,b,rfl,hb',x⟩:=q;cases y with
   |ref z=>
    have:z=b:=by simpa[L2.RelV]using rv
    exact⟨b,H',by rw[this],I.call' os un hok bare (λb z=>absurd z (by simp)),hb',x,un⟩
   |_=>simp[L2.RelV]at rv
  |_=>exact q.elim
def ord3:Ord Lt3:=⟨zcd,λh k=>zdP h k,λh=>zfK h⟩
def zp3(hr:Room 2 A')(e0:∀H s,Inv X pins σ H s->Env0 X.prog X.w X.K X.mg X.base A' X.stack s H)(L:LamAt H f name qual params body scope)(hs:FnScope ["letter"] ["letter"] scope)
  (hb:∀(pm cd ct u:Θ),bindArgs (kla_fn name qual params body scope [] pm cd ct) ⟨[u],[]⟩=pure [(("letter":Str),u)]) (kb:KeyBody body):SortK X pins σ A' H f Let2 Key2 (tuples' Δ) Lt3 where
 upR:=λk j=>(by obtain⟨z,t,b,w,h1,h2⟩:=j;exact ⟨z,t,b,w,k.tups _ _ h1,k.tups _ _ h2⟩)
 upK:=λk y=>(by obtain⟨z,b,h1,h2⟩:=y;exact ⟨z,b,k.tups _ _ h1,k.tups _ _ h2⟩)
 call:=λI x ha=>zl0 I hr (e0 _ _ I) (L.up x.kp) hs hb kb ha
 kind:=λI hk h1 q=>zon (λv hv=>let ⟨b,r,e,k⟩:=hk v hv;⟨b,r,e,zgN I.hok k⟩) h1 q
 less:=λI h1 h2 q=>zsu (by have:=hr.un;lia) (zgN I.hok h1) (zgN I.hok h2) q
 ord:=ord3
 fn:=zoU
end
section
variable{X:Cx}{pins:List (Addr×Obj)}{σ:L2.St}{H:Hp}{s:Β}{f a:Addr}{as:List Addr}{ks:List K3}{name qual:Str}{params:Arguments}{body:Expr}{scope:Scope}
structure Srd(X:Cx)(pins:List (Addr×Obj))(σ:L2.St)(H:Hp)(as:List Addr)(ks:List K3)(D:Addr)(s':Β):Prop where
 ex:∃(H':Hp) (p:List Nat),Inv X pins σ H' s'/\Ext [] H [] H'/\H D=Ψ/\PlcG Lt3 ks p/\H' D=Φ (.lst ((p.map λi=>as.getD i 0).map V.ref))
def zee:∀{l:List Addr}{m:List Θ},Vals (l.map V.ref) m->m=l.map Θ.ref
 | [],_,h=>by cases h;rfl| x::l,_,h=>by cases h with|cons h1 h2=>rw[Μ,<-zee h2,show _=Θ.ref x from h1]
def zc7:∀l:List Addr,Vals (l.map V.ref) (l.map Θ.ref)
 | []=>.nil|_::l=>.cons rfl (zc7 l)
def zeh(I:Inv X pins σ H s)(Sk:SortK X pins σ X.A.in1.in1 H f RA KA κ Lt3)(hq:SqL X.K H a (as.map V.ref))(hl:as.length=ks.length)(h64:ks.length<1000)(nd:ks.Nodup)(ha:∀(j:Nat)(b:Addr),as[j]?=Φ b->∃k,ks[j]?=Φ k/\RA H b k)(q:∀D s',Srd X pins σ H as ks D s'->Q (.ref D) s'):
  wpAny (model X.prog X.w) X.A (call (.builtin "sorted") [.ref a] [(Str.ofString "key",.ref f)]) Q E s:=by
 obtain⟨its,rv,pl,hz⟩:=I.list hq;have ei:=zee rv;subst ei;refine call_function_entry_kw kind_sorted plain_sorted entry_sorted (ksk_s1 _ _) ?_;unfold Builtin.«sorted»;refine Α (m:=checkCount "sorted" 1 1 _) (Ν (Α ?_));refine collect_list pl.isList ?_ (by rw[length_map,Τ];lia);have kp:∀b o,s.heap.get? b=Φ o->((s.heap.push (seqObj "list" #[] 0)).update s.heap.objs.size (Obj.mapSeq (·++(as.map Θ.ref).toArray))).get? b=Φ o:=λb o e=>(Heap.get?_update_other _ _ (ne_of_gt (Η e))).trans (Λ _ e);have hle:s.heap.objs.size<=((s.heap.push (seqObj "list" #[] 0)).update s.heap.objs.size (Obj.mapSeq (·++(as.map Θ.ref).toArray))).objs.size:=by rw[Heap.size_update,Heap.size_push];exact le_succ _
 generalize(s.heap.push (seqObj "list" #[] 0)).update s.heap.objs.size (Obj.mapSeq (·++(as.map Θ.ref).toArray))=h1 at *;refine Α (wpAny_newList ?_ (by rw[length_map,Τ];lia));have I1:Inv X pins σ H {s with heap:=h1}:=zaD (g':=s.gens) (t':=s.toks) (d':=s.drawn) (ch:=[]) I (λb hb=>by cases hb) (λb hb=>by cases hb) (λb o _ e=>kp b o e) I.bare;have I3:Inv X pins σ H {s with heap:=h1.push (seqObj "list" (as.map Θ.ref).toArray 0)}:=zaD (s:={s with heap:=h1}) (g':=s.gens) (t':=s.toks) (d':=s.drawn) (ch:=[]) I1 (λb hb=>by cases hb) (λb hb=>by cases hb) (λb o _ e=>Λ _ e) I.bare;have lD:zfm {s with heap:=h1.push (seqObj "list" (as.map Θ.ref).toArray 0)} h1.objs.size (as.map Θ.ref) 0:=Κ _ rfl;have oD:Own X pins h1.objs.size:=Own.fresh I1 (le_refl _);have dN:H h1.objs.size=Ψ:=I1.hok.fresh (le_refl _);refine Α (wpAny_holding (wpAny_call_entry_kw slot_list_sort ⟨_,lD,rfl⟩ entry_list_sort ?_ (ksk_l1 _ _)));refine zpN (D:=h1.objs.size) (as:=as) (rows:=ks) I3 Sk hl h64 nd oD dN lD ha λp s' pl ke=>⟨_,rfl,?_⟩;refine Ν ⟨_,rfl,q _ s' ?_⟩;obtain⟨H2,e,J,x2,dN2,lst⟩:=ke.ex;have eo:(p.map λi=>(as.map Θ.ref).getD i Θ.none)=(p.map λi=>as.getD i 0).map Θ.ref:=by
  rw[map_map];refine Ρ λi hi=>?_;have:=pl.lt' i hi;have gi:i<as.length:=by lia
  simp[gi]
 rw[eo]at lst;have plen:p.length=ks.length:=by rw[pl.perm.length_eq];simp
 exact⟨upd H2 h1.objs.size (.lst ((p.map λi=>as.getD i 0).map V.ref)),p,zbX J oD dN2 ⟨by simp[plen,Τ];lia,_,e,zc7 _,lst⟩,x2.trans (zfi dN2),dN,pl,zak⟩
end
abbrev SrtK(RA:Hp->Addr->K3->Prop)(K:Frag)(Q:VK)(w:V)(H1:Hp):Prop:=∃(a:Addr) (as:List Addr) (ks:List K3),w=.ref a/\SqL K H1 a (as.map V.ref)/\as.length=ks.length/\ks.length<1000/\ks.Nodup/\(∀(j:Nat)(b:Addr),as[j]?=Φ b->∃k,ks[j]?=Φ k/\RA H1 b k)/\TB H1/\
 ∀(D:Addr)(H2:Hp)(p:List Nat),Ext [] H1 [] H2->H1 D=Ψ->PlcG Lt3 ks p->H2 D=Φ (.lst ((p.map λi=>as.getD i 0).map V.ref))->Q (.ref D) H2
section
variable{X:Cx}{o:Expr}{p kpos lpos pos:Pos}{td:TE}{c P:Addr}{params:Arguments}{body:Expr}{scope:Scope}
def Let2.up(a:Kp H H')(h:Let2 H b k):Let2 H' b k:=let ⟨z,t,b,w,d,e⟩:=h;⟨z,t,b,w,a.tups _ _ d,a.tups _ _ e⟩
def SqL.up0{K}(x:Ext [] H [] H')(h:SqL K H a xs):SqL K H' a xs:=by rcases h with (h|⟨o,h⟩)|h;rcases(x.rest a _ (by simp) h).1 with z|⟨⟨_,z⟩,_⟩;exact .inl (.inl z);cases z;rcases(x.rest a _ (by simp) h).1 with z|⟨⟨_,z⟩,_⟩;exact .inl (.inr ⟨o,z⟩);cases z;exact .inr h
def zow(ho:PE X o td)(hst:zan o=Γ)(hg:Gl X "sorted")(hm:X.mg "sorted"=Ψ)(hu:Room 2 X.A.in1.in1)(mk:Maker X c P)(hdef:defaultsOf params X.env=([],[]))(hcl:closureFor scope X.env=pure [])(hs:FnScope ["letter"] ["letter"] scope)
  (hb:∀(pm cd ct u:Θ),bindArgs (kla_fn "<lambda>" (X.env.qual ++ "<lambda>") params body scope [] pm cd ct) ⟨[u],[]⟩=pure [(("letter":Str),u)]) (kb:KeyBody body) :
  PE X (.Call (.Name "sorted" p) [o] [⟨Φ "key",.Lambda params body scope lpos,kpos⟩] pos) (λσ H Q=>td σ H (SrtK Let2 X.K Q)):=by
 intro pins s σ H Q I h;refine ϕ (zcL I hg hm (by rfl:bootBuiltins "sorted"=Φ (.builtin "sorted")) ?_ (by decide) (by decide));have ha:PA X [o] (zeI td tNil):=zbo ho zdO (zal hst _ _);have hk:PK X [⟨Φ "key",.Lambda params body scope lpos,kpos⟩] (zeI (tLam (X.env.qual ++ "<lambda>") params body scope) tNil):=zgB (zmY mk hdef hcl) zjJ;refine PyProof.Rows.callWith_builtin_kwB (by rw[zal hst];rfl) rfl (PyProof.Rows.evalArgs_kw2 rfl (thn (ha pos pins s σ H (oneK (SrtK Let2 X.K Q)) I h) λus s1 v=>?_) (zal hst _ _));obtain⟨vs,H1,I1,r1,k1⟩:=v;obtain⟨w,rfl,a,as,ks,ew,hq,hl,h64,nd,hla,tb,q1⟩:=zcH k1;subst ew;obtain⟨u,rfl,ru⟩:=Vals.one r1;obtain rfl:u=Θ.ref a:=ru;refine thn (hk pos pins s1 σ H1 (oneK λw2 H2=>∃f,w2=.ref f/\LamAt H2 f "<lambda>" (X.env.qual ++ "<lambda>") params body scope/\Ext [] H1 [] H2) I1 ⟨tb,λf H2 L S=>⟨f,rfl,L,S⟩⟩) λws s2 y=>?_;obtain⟨zs,H2,I2,r2,k2⟩:=y;obtain⟨w2,rfl,f,ef,L,st⟩:=zcH k2;subst ef;obtain⟨u2,rfl,ru2⟩:=Vals.one r2;obtain rfl:u2=Θ.ref f:=ru2;refine zeh I2 (zp3 hu (λH s J=>J.env0.in1.in1) L hs hb kb) (SqL.up0 st hq) hl h64 nd (λj b e=>let ⟨k,e1,e2⟩:=hla j b e;⟨k,e1,e2.up st.kp⟩) λD s3 tl=>?_;obtain⟨H3,p,I3,x3,dn,pl,dl⟩:=tl.ex;refine⟨.ref D,H3,I3,rfl,q1 D H3 p (st.trans x3) ?_ pl dl⟩;cases e:H1 D with|none=>rfl| some o=>exfalso;have:=(st.rest D o (by simp) e).1;rw[dn]at this;rcases this with z|⟨_,_,z⟩<;>exact nS z
def zov(ho:PE X o td)(hst:zan o=Γ)(hg:Gl X "sorted")(hm:X.mg "sorted"=Ψ)(hg2:Gl X x)(hm2:X.mg x=Φ (.ref f))(hd:(x==("__debug__":Str))=Δ)(Sk:∀pins σ H,TB H->SortK X pins σ X.A.in1.in1 H f RA KA κ Lt3):
  PE X (.Call (.Name "sorted" p) [o] [⟨Φ "key",.Name x p2,kpos⟩] pos) (λσ H Q=>td σ H (SrtK RA X.K Q)):=by
 intro pins s σ H Q I h;refine ϕ (zcL I hg hm (by rfl:bootBuiltins "sorted"=Φ (.builtin "sorted")) ?_ (by decide) (by decide));have ha:PA X [o] (zeI td tNil):=zbo ho zdO (zal hst _ _);have hk:PK X [⟨Φ "key",.Name x p2,kpos⟩] (zeI (tC (.ref f)) tNil):=zgB (zeY hg2 hm2 rfl hd) zjJ;refine PyProof.Rows.callWith_builtin_kwB (by rw[zal hst];rfl) rfl (PyProof.Rows.evalArgs_kw2 rfl (thn (ha pos pins s σ H (oneK (SrtK RA X.K Q)) I h) λus s1 k=>?_) (zal hst _ _));obtain⟨vs,H1,I1,r1,k1⟩:=k;obtain⟨w,rfl,a,as,ks,ew,hq,hl,h64,nd,hla,tb,q1⟩:=zcH k1;subst ew;obtain⟨u,rfl,ru⟩:=Vals.one r1;obtain rfl:u=Θ.ref a:=ru;refine thn (hk pos pins s1 σ H1 (λw2 H2=>w2=[.ref f]/\H2=H1) I1 ⟨rfl,rfl⟩) λws s2 z=>?_;obtain⟨zs,H2,I2,r2,k2,k3⟩:=z;subst k2 k3;obtain⟨u2,rfl,ru2⟩:=Vals.one r2;obtain rfl:u2=Θ.ref f:=ru2;refine zeh I2 (Sk _ _ _ tb) hq hl h64 nd hla λD s3 tl=>?_;obtain⟨H3,p,I3,x3,dn,pl,dl⟩:=tl.ex;exact⟨.ref D,H3,I3,rfl,q1 D H3 p x3 dn pl dl⟩
end
abbrev lamI(k:Int):Expr->Bool|.Constant (.int i) _ _=>decide (i=k)|_=>Δ
abbrev lamV:Expr->Bool|.Name x _=>decide (x="letter")|_=>Δ
abbrev lamS:Expr->Bool|.Slice (Φ a) (Φ b) Ψ _=>lamI 1 a&&lamI 3 b|_=>Δ
abbrev lamA:List Arg->Bool|[⟨a,Ψ,_⟩]=>decide (a="letter")|_=>Δ
abbrev lamB:Expr->Bool
 |.Lambda ⟨[],as,Ψ,[],[],Ψ,[]⟩ (.Subscript v s _) scope _=>lamA as&&(lamV v&&(lamS s&&(decide (scope.names=[(("letter":Str),NameKind.local)])&&(decide (scope.kind=.function)&&(!scope.isCoroutine&&!scope.isGenerator)))))
 |_=>Δ
structure LamE(params:Arguments)(body:Expr)(scope:Scope):Prop where
 df:∀env,defaultsOf params env=([],[])
 cl:∀env,closureFor scope env=pure []
 sc:FnScope ["letter"] ["letter"] scope
 bd:∀(q:Str)(pm cd ct u:Θ),bindArgs (kla_fn "<lambda>" q params body scope [] pm cd ct) ⟨[u],[]⟩=pure [(("letter":Str),u)]
 kb:KeyBody body
def lamJ{k:Int}{e:Expr}(h:lamI k e=Γ):∃a p,e=.Constant (.int k) a p:=by
 cases e with
 |Constant c a p=>
  cases c with
  |int i=>cases of_decide_eq_true h;exact⟨_,_,rfl⟩
  |_=>cases h
 |_=>cases h
def lamC{as:List Arg}(h:lamA as=Γ):∃p,as=[⟨"letter",Ψ,p⟩]:=by
 cases as with
 |nil=>cases h
 |cons a r=>
  obtain⟨a,n,p⟩:=a;cases r with
  |cons _ _=>cases n<;>cases h
  |nil=>
   cases n with
   |some _=>cases h
   |none=>cases of_decide_eq_true h;exact⟨_,rfl⟩
def lamW{e:Expr}(h:lamV e=Γ):∃p,e=.Name "letter" p:=by
 cases e with
 |Name x p=>cases of_decide_eq_true h;exact⟨_,rfl⟩
 |_=>cases h
def lamT{e:Expr}(h:lamS e=Γ):∃a b p,e=.Slice (Φ a) (Φ b) Ψ p/\lamI 1 a=Γ/\lamI 3 b=Γ:=by
 cases e with
 |Slice a b c p=>
  cases a with
  |none=>cases h
  |some a=>
  cases b with
  |none=>cases h
  |some b=>
  cases c with
  |some _=>cases h
  |none=>exact⟨_,_,_,rfl,(Ξ _ _).mp h⟩
 |_=>cases h
def zl4(h:lamB e=Γ):∃params body scope lpos,e=.Lambda params body scope lpos/\LamE params body scope:=by
 cases e with
 |Lambda ps b scope p=>
  obtain⟨po,as,va,ko,kd,kw,de⟩:=ps
  cases po with
  |cons _ _=>cases h
  |nil=>
  cases va with
  |some _=>cases h
  |none=>
  cases ko with
  |cons _ _=>cases h
  |nil=>
  cases kd with
  |cons _ _=>cases h
  |nil=>
  cases kw with
  |some _=>cases h
  |none=>
  cases de with
  |cons _ _=>cases h
  |nil=>
  cases b with
  |Subscript v s p2=>
   obtain⟨ha,h⟩:=(Ξ _ _).mp h;obtain⟨hv,h⟩:=(Ξ _ _).mp h;obtain⟨hs,h⟩:=(Ξ _ _).mp h;simp only[Ξ,decide_eq_true_eq,not_eq_true']at h;obtain⟨hn,hk,hc,hg⟩:=h;obtain⟨_,rfl⟩:=lamW hv;obtain⟨_,_,_,rfl,h1,h2⟩:=lamT hs;obtain⟨_,_,rfl⟩:=lamJ h1;obtain⟨_,_,rfl⟩:=lamJ h2;obtain⟨_,rfl⟩:=lamC ha;refine⟨_,_,scope,_,rfl,⟨λenv=>rfl,λenv=>?_,⟨hk,hc,hg,by decide,rfl,λx hx=>?_,λy hy=>?_⟩,λq pm cd ct u=>rfl,⟨_,_,_,_,_,_,_,rfl⟩⟩⟩;unfold closureFor;rw[hn];rfl;rw[mem_singleton.mp hx,hn];exact .inl (by decide);rw[hn]at hy;rw[mem_singleton.mp hy];decide
  |_=>cases h
 |_=>cases h
section
variable{K:Frag}{ι:List Addr}{H H2:Hp}{S:R.St}
def zdV:∀{ds:List D}{xs:List V}{p:List Int},RVs K ι H ds xs->zaH ds=Φ p->xs=p.map V.int
 | [],xs,p,r,e=>by cases(show xs=[] from r);simp[zaH]at e;subst e;rfl| d::ds,xs,p,r,e=>by
  obtain⟨v,vs,rfl,r1,r2⟩:=r;unfold zaH at e;rw[ϛ]at e;cases d with
  |int i=>
   cases e2:ds.mapM zcq with
   |none=>rw[e2]at e;exact nS e
   |some q=>rw[e2]at e;cases e;rw[zdV r2 (show zaH ds=Φ q from e2),show v=.int i from r1];rfl
  |_=>exact nS e
def zrf(r:RV K ι H d v)(e:zj4 d=Φ k):∃a,v=.ref a/\Let2 H a k:=by
 unfold zj4 at e;split at e;rename_i t ds b w;cases e2:zaH ds with
 |none=>rw[e2]at e;exact nS e
 |some p=>rw[e2]at e;cases e;obtain⟨a,xs,rfl,hx,v1,w1,rfl,r1,v2,w2,rfl,r2,v3,w3,rfl,r3,v4,w4,rfl,r4,rn⟩:=r;cases(show w4=[] from rn);obtain⟨c,ys,rfl,hy,ry⟩:=r2;cases(show v3=.int b from r3);exact⟨a,rfl,rfl,_,c,_,hx,by rw[hy,zdV ry e2]⟩
 exact nS e
def zj2{RA:Hp->Addr->K3->Prop}(hm:∀{d:D}{v:V}{k:K3},RV K ι H d v->m d=Φ k->∃a,v=.ref a/\RA H a k):∀{ds:List D}{xs:List V}{ks:List K3},RVs K ι H ds xs->ds.mapM m=Φ ks->∃as:List Addr,xs=as.map V.ref/\as.length=ks.length/\ds.length=ks.length/\∀(j:Nat)(b:Addr),as[j]?=Φ b->∃k,ks[j]?=Φ k/\RA H b k
 | [],xs,ks,r,e=>by cases(show xs=[] from r);simp at e;subst e;exact⟨[],rfl,rfl,rfl,λj b h=>by simp at h⟩| d::ds,xs,ks,r,e=>by
  obtain⟨v,vs,rfl,r1,r2⟩:=r;rw[ϛ]at e;cases e1:m d with
  |none=>rw[e1]at e;exact nS e
  |some k=>
   cases e2:ds.mapM m with
   |none=>rw[e1,e2]at e;exact nS e
   |some q=>rw[e1,e2]at e;cases e;obtain⟨as,rfl,h1,h2,h3⟩:=zj2 hm r2 e2;obtain⟨a,rfl,hl⟩:=hm r1 e1;refine⟨a::as,rfl,by simp[h1],by simp[h2],λj b hb=>?_⟩;cases j with|zero=>cases hb;exact⟨k,rfl,hl⟩|succ j=>exact h3 j b (by simpa using hb)
def zg5:∀{ks:List K3}{ds:List D}{i:Nat}{k:K3}{d:D},ks.Nodup->ks[i]?=Φ k->ds[i]?=Φ d->(ks.zip ds).lookup k=Φ d
 | [],ds,i,k,d,nd,h1,h2=>by simp at h1|a::ks,[],i,k,d,nd,h1,h2=>by simp at h2| a::ks,b::ds,0,k,d,nd,h1,h2=>by cases h1;cases h2;rw[ϐ,ϓ,beq_self_eq_true]| a::ks,b::ds,i+1,k,d,nd,h1,h2=>by
  have hk:k∈ks:=mem_of_getElem? (by simpa using h1);rw[nodup_cons]at nd;have:(k==a)=Δ:=by rw[beq_eq_false_iff_ne];intro z;exact nd.1 (z▸hk)
  rw[ϐ,ϓ,this];exact zg5 nd.2 (by simpa using h1) (by simpa using h2)
def zop(nd:ks.Nodup)(hl:ds.length=ks.length)(P:PlcG Lt3 ks p):srtD ds ks=p.map λi=>ds.getD i .non:=by
 have e:(p.map λi=>ks.getD i default)=zeL ks:=zcm ((zjN default P.perm).trans (zaP ks).symm) P.asc (zbh nd);unfold srtD;rw[<-e,map_map];refine Ρ λi hi=>?_;have h:=P.lt' i hi;have h':i<ds.length:=by lia
 show((ks.zip ds).lookup (ks.getD i default)).getD .non=_;rw[zg5 nd (getD_mem default h) (getD_mem D.non h')];rfl
def RVs.at_{ds:List D}{vs:List V}{i:Nat}{d:D}{v:V}(h:RVs K ι H ds vs)(a:ds[i]?=Φ d)(b:vs[i]?=Φ v):RV K ι H d v:=by
 induction ds generalizing vs i with|nil=>exact nS a|cons _ _ f=>obtain⟨v,vs,rfl,c,e⟩:=h;cases i with|zero=>cases a;cases b;exact c|succ=>exact f e a b
end
def RVs.ofGet{K}:∀{ds:List D}{vs:List V},ds.length=vs.length->(∀(i:Nat) d v,ds[i]?=Φ d->vs[i]?=Φ v->RV K ι H d v)->RVs K ι H ds vs
 | [],[],_,_=>rfl| [],_::_,h,_=>by simp at h|_::_,[],h,_=>by simp at h|d::ds,v::vs,h,f=>⟨v,vs,rfl,f 0 d v rfl rfl,RVs.ofGet (by simpa using h) λi a b c e=>f (i+1) a b (by simpa using c) (by simpa using e)⟩
def RH.add{K}(h:RH K ι H S)(x:Ext ι H (ι++[p]) H')(e:∀a∈ι,H' a=H a)(hp:p∉ι)(ho:RO K (ι++[p]) H' p o):RH K (ι++[p]) H' (S.push o):=by
 refine⟨by rw[length_append,h.len,zca];rfl,?_,λl o' q=>?_,x.kp.tab h.tab⟩;rw[nodup_append];refine⟨h.nd,by simp,λa ha b hb=>?_⟩;simp at hb;subst hb;exact λz=>hp (z▸ha);by_cases hl:l<S.len;rw[zcr hl]at q;obtain⟨a,h1,h2,hm⟩:=h.mem q;exact⟨a,zbV (ϖ _ _) h1,h2.stay x (e a hm)⟩;have hl2:=get_lt q;rw[zca]at hl2;have:l=S.len:=by lia
 subst this;rw[zfe]at q;cases q;exact⟨p,by rw[<-h.len];simp,ho⟩
section
variable{T:Tab}{cf:CF}{k:Nat}{N:List Str}{sc:Scope}{X:Cx}{pos p kpos:Pos}
def zmJ(x1:Ext ι H ι1 H1)(hh1:RH X.K ι1 H1 S1)(r1:RV X.K ι1 H1 d v)(eq:ziE m S1 d=Φ q0)(hm:∀{d:D}{v:V}{k:K3},RV X.K ι1 H1 d v->m d=Φ k->∃a,v=.ref a/\RA H1 a k)(w2:W (if q0.2.length<1000/\q0.2.Nodup then lay S1 (srtD q0.1 q0.2) else .bad) Q)(q:∀v H',Lf X.K ι H Q v H'->Qv v H'):SrtK RA X.K Qv v H1:=by
 obtain⟨ds,ks⟩:=q0;unfold ziE at eq;cases d with
 |ref l=>
  dsimp only at eq;cases eg:S1.get l with
  |none=>rw[eg]at eq;exact nS eq
  |some o=>
   rw[eg]at eq;cases o with
   |lst ds'=>
    dsimp only at eq;cases em:ds'.mapM m with
    |none=>rw[em]at eq;exact nS eq
    |some ks'=>
     rw[em]at eq;cases eq;obtain⟨b,i1,rfl⟩:=r1;obtain⟨b',i2,xs,hx,rs⟩:=hh1.obj l _ eg;rw[i1]at i2;cases i2;obtain⟨as,rfl,l1,l2,la⟩:=zj2 hm rs em;dsimp only at w2;split at w2;rename_i c2;unfold lay at w2;split at w2;rename_i hz;refine⟨b,as,ks,rfl,SqL.of hx,l1,c2.1,c2.2,la,hh1.tab,λD0 H2 p x hD P h2=>?_⟩;have hDi:D0∉ι1:=hh1.fresh hD;have ex:Ext ι1 H1 (ι1++[D0]) H2:=⟨ϖ _ _,x.kp,λa o h e=>⟨(x.rest a o (by simp) e).1,λz=>by rcases mem_append.mp z with z|z;exact h z;simp at z;exact zai e hD z⟩⟩;refine q _ _ ⟨.ref S1.len,ι1++[D0],S1.push (.lst (srtD ds ks)),x1.trans ex,⟨D0,hh1.last D0,rfl⟩,hh1.add ex (λa hm=>?_) hDi ⟨_,h2,?_⟩,w2⟩;obtain⟨o,e,_,_,nt⟩:=hh1.live hm;rw[e];exact x.keep (by simp) e nt;rw[zop c2.2 l2 P];refine RVs.ofGet (by simp) λi d w e1 e2=>?_;rw[getElem?_map]at e1;rw[getElem?_map,getElem?_map]at e2;cases ei:p[i]? with
     |none=>rw[ei]at e1;exact nS e1
     |some j=>rw[ei]at e1 e2;cases e1;cases e2;have hj:=P.lt' j (mem_of_getElem? ei);have:=RVs.at_ rs (getD_mem D.non (show j<ds.length by lia)) (by rw[getElem?_map,getD_mem 0 (show j<as.length by lia)];rfl);exact(this.ext ex)
     exact w2.elim;exact w2.elim
   |_=>exact nS eq
 |_=>exact nS eq
def znM(G:Gd T cf k N sc X)(hN:N=T.lam)(hg:Gl X "sorted"/\X.mg "sorted"=Ψ)(he:PE X e (tE X.K cf ca))(hst:zan e=Γ)(hlam:lamB le=Γ):
  PE X (.Call (.Name "sorted" p) [e] [⟨Φ "key",le,kpos⟩] pos) (tE X.K cf (.srtK ca)):=by
 obtain⟨params,body,scope,lpos,rfl,L⟩:=zl4 hlam;obtain⟨hk,c,mk⟩:=G.lam hN;have room:Room 2 X.A.in1.in1:=((G.room'.mono (Nat.succ_le_succ hk)).in1).in1;refine PE.imp (zow he hst hg.1 hg.2 room mk (L.df _) (L.cl _) L.sc (L.bd _) L.kb) λσ H Qv z=>?_;obtain⟨δ,ι,S,Q,hs,hh,w,q⟩:=z;change W (Out.bind _ _) _ at w;simp only[zab] at w;refine tE.run hs hh w λd v ι1 H1 S1 x1 hs1 hh1 r1 w1=>?_;obtain⟨q0,eq,w2⟩:=zax w1;exact zmJ x1 hh1 r1 eq zrf w2 q
def zk9{vs:List Θ}(hk:∀v∈vs,∃c k,v=Θ.ref c/\IsTri prog w s.heap k c)(h1:1<=vs.length)(q:Q (tuples' Γ) s):wpAny (model prog w) A (keyKind' vs.toArray) Q E s:=by
 have:∀{vs:List Θ},(∀v∈vs,∃c k,v=Θ.ref c/\IsTri prog w s.heap k c)->∃fs:List Θ,KatTups s.heap vs fs/\fs.length=vs.length/\∀v∈fs,∃n t,v=Θ.int n t:=by intro vs;induction vs with|nil=>exact λ_=>⟨[],KatTups.nil,rfl,λv h=>by cases h⟩| cons v vs ih=>intro hk;obtain⟨c,k,rfl,o,t,u,b,n,g1,g2,g3,_⟩:=hk v (by simp);obtain⟨fs,h1,h2,h3⟩:=ih λx hx=>hk x (by simp[hx]);refine⟨.int k.1 t::fs,KatTups.cons g1 g2 g3 rfl h1,by simp[h2],λv hv=>?_⟩;rcases mem_cons.mp hv with rfl|hv;exact⟨_,t,rfl⟩;exact h3 v hv
 obtain⟨fs,t1,t2,t3⟩:=this hk;exact PySem.W.kat_kind (T:=.type "int") t1 (by omega) (λv hv=>by obtain⟨n,t,rfl⟩:=t3 v hv;exact .now) rfl q
def zoT{k k'}(p:Key3 H k c)(q:Key3 H k' c):k=k':=by obtain⟨b,h1,h2⟩:=p;obtain⟨b',h1',h2'⟩:=q;rw[h1]at h1';injection h1' with h1';injection h1' with h1';simp only[List.cons.injEq,V.ref.injEq,V.int.injEq,and_true]at h1';obtain⟨e1,rfl,e⟩:=h1';rw[h2]at h2';injection h2' with h2';injection h2' with h2';exact Prod.ext e1 (Prod.ext ((List.map_inj_right λ_ _ h=>V.int.inj h).mp h2') e)
def zls(r:Room (k+1) A):Room k A.in1.in1:=⟨r.hd,by have:=r.dp;show A.depth+3*k+5<_;lia,by have:=r.un;show A.units+1+1+16*k+200<_;lia⟩
abbrev RA3(K:Frag)(cf:CF)(j:Nat)(H:Hp)(a:Addr)(r:K3):Prop:=∃d,let3 cf j d=Φ r/\RV K [] H d (.ref a)
def zoQ{K}(rv:RV K ι H d v)(e:let3 cf j d=Φ r):∃a,v=.ref a/\RA3 K cf j H a r:=by
 have e0:=e;unfold let3 at e;split at e;rename_i t ds b w;split at e;rename_i c;cases e2:zaH ds with
 |none=>rw[e2]at e;exact nS e
 |some p=>
  obtain⟨a,xs,rfl,hx,v1,w1,rfl,r1,v2,w2,rfl,r2,v3,w3,rfl,r3,v4,w4,rfl,r4,rn⟩:=rv;obtain⟨c2,ys,rfl,hy,ry⟩:=r2;have hI:∀{ds:List D}{ys:List V}{p:List Int},RVs K ι H ds ys->zaH ds=Φ p->RVs K [] H ds ys:=by
   intro ds;induction ds with
   |nil=>exact λr _=>r| cons d ds ih=>
    intro ys p r e;obtain⟨v,vs,rfl,r1,r2⟩:=r;unfold zaH at e;rw[ϛ]at e;cases d with
    |int i=>
     cases e2:ds.mapM zcq with
     |none=>rw[e2]at e;exact nS e
     |some q=>exact⟨v,vs,rfl,r1,ih r2 e2⟩
    |_=>exact nS e
  refine⟨a,rfl,_,e0,a,_,rfl,hx,v1,_,rfl,r1,_,_,rfl,⟨c2,ys,rfl,hy,hI ry e2⟩,v3,_,rfl,r3,v4,_,rfl,?_,rn⟩;cases w with|non=>exact r4|int i=>exact r4|_=>exact nB c
 exact nS e;exact nS e
def zj5(e:let3 cf j d=Φ r):∃ds T,cf j [d] ⟨[],[],[]⟩=.ok (.tup [.int r.1,.tup ds,.int r.2.2]) T/\T.len=0/\zaH ds=Φ r.2.1:=by
 unfold let3 at e;split at e;rename_i t ds b w;split at e;cases e2:zaH ds with
 |none=>rw[e2]at e;exact nS e
 |some p=>rw[e2,Ϟ]at e;split at e;rename_i c;cases e;unfold key3 at c;split at c;rename_i t' ds' b' T e3;obtain⟨c1,rfl,c2,rfl⟩:=of_decide_eq_true c;exact⟨ds',T,e3,c1,c2⟩;exact nB c;exact nS e
 exact nS e;exact nS e
def zp2{pins:List (Addr×Obj)}{σ:L2.St}{H:Hp}{f:Addr}{fd:FuncData}{ps:List Str}{j:Nat}(F:FnOk X.prog X.w X.K X.mg X.base CX0 k f fd ps (spF X.K cf j))(hb:Binds X.K fd ps [])(hr:Room k X.A.in1.in1)(tb:TB H) :
  SortK X pins σ X.A.in1.in1 H f (RA3 X.K cf j) (λH c k=>Key3 H k c) (tuples' Γ) Lt3 where
 upR:=λk u=>(by obtain⟨d,e,r⟩:=u;exact ⟨d,e,r.up (ϟ _) k⟩)
 upK:=λk x=>x.up k.tups
 call:=λ{H1 s1 a r} I x ha=>by
  obtain⟨d,e,rv⟩:=ha;obtain⟨ds,T,e1,e2,e3⟩:=zj5 e;have h:spF X.K cf j [.ref a] H1 (λy H'=>∃b,y=.ref b/\Key3 H' r b/\Ext [] H1 [] H') (λ_ _ _=>False):=by refine⟨[],⟨[],[],[]⟩,[d],⟨_,_,rfl,rv,rfl⟩,⟨rfl,List.nodup_nil,λl o h=>by simp[St.get]at h,x.kp.tab tb⟩,?_⟩;rw[e1];intro v H' ι' x' rv' rh;have:ι'=[]:=List.length_eq_zero_iff.mp (rh.len.trans e2);subst this;obtain⟨b,xs,rfl,hx,v1,w1,rfl,r1,v2,w2,rfl,r2,v3,w3,rfl,r3,rn⟩:=rv';cases(show w3=[] from rn);obtain⟨c,ys,rfl,hy,ry⟩:=r2;cases(show v1=.int r.1 from r1);cases(show v3=.int r.2.2 from r3);exact⟨b,rfl,⟨c,hx,by rw[hy,zdV ry e3]⟩,x'⟩
  have hl:([Θ.ref a]:List Θ).length=ps.length:=F.len _ _ _ _ h;refine wpAny_call (codeAny_mono (F.run X.A.in1.in1 X.stack s1 H1 ⟨[.ref a],[]⟩ [.ref a] [.ref a] _ _ hr I.env0.in1.in1 (hb s1 [.ref a] I.kIn hl) (.cons rfl .nil) h) λr s' q=>?_);cases r with
  |error e=>exact q.elim| ok fl=>
   cases fl with
   |ret y=>
    obtain⟨w,H',os,bare,un,hok,rv,b,rfl,hb',x⟩:=q;cases y with
    |ref z=>
     have:z=b:=by simpa[L2.RelV]using rv
     exact⟨b,H',by rw[this],I.call' os un hok bare (λb z=>absurd z (by simp)),hb',x,un⟩
    |_=>simp[L2.RelV]at rv
   |_=>exact q.elim
 kind:=λI hk h1 q=>zk9 (λv hv=>let ⟨b,r,e,k⟩:=hk v hv;⟨b,r,e,zgM I.hok k⟩) h1 q
 less:=λI h1 h2 q=>zpM (by have:=hr.un;lia) (zgM I.hok h1) (zgM I.hok h2) q
 ord:=ord3
 fn:=zoT
def znL(G:Gd T cf k N sc X)(hf:T.fns[j]?=Φ (x,ps,nd))(hx:isGl sc x=Γ)(hd:(x==("__debug__":Str))=Δ)(hg:Gl X "sorted"/\X.mg "sorted"=Ψ)(he:PE X e (tE X.K cf ca))(hst:zan e=Γ):
  PE X (.Call (.Name "sorted" p) [e] [⟨Φ "key",.Name x p2,kpos⟩] pos) (tE X.K cf (.srtN j ca)):=by
 obtain⟨f,fd,ds,F,hm,hk,hb,hv⟩:=(G.tab.fns j x ps nd hf 0 (zero_le _)).ex;cases hv;refine PE.imp (zov he hst hg.1 hg.2 (G.gl hx) hm hd λ_ _ _ tb=>zp2 F hb (zls G.room') tb) λσ H Qv z=>?_;obtain⟨δ,ι,S,Q,hs,hh,w,q⟩:=z;change W (Out.bind _ _) _ at w;simp only[zab] at w;refine tE.run hs hh w λd v ι1 H1 S1 x1 hs1 hh1 r1 w1=>?_;obtain⟨q0,eq,w2⟩:=zax w1;exact zmJ x1 hh1 r1 eq zoQ w2 q
end
end R
namespace R
open PySem PySem.Spec PyProof.Rows L2
section
variable{X:Cx}{o e f:Expr}{apos cpos:Pos}{td ty tv:TE}
abbrev zpT(td ty tv:TE):TE:=λσ H Q=>td σ H λx H1=>∃a,x=.ref a/\IsD H1 a/\ty σ H1 λy H2=>tv σ H2 λv H3=>∃ws k,H3 a=Φ (.dK ws)/\y=.int k/\(∀u,valV ws (.inl k)=Φ u->Q u H3)/\(valV ws (.inl k)=Ψ->ws.length<sizeLine/\Q v (upd H3 a (.dK (putK ws (.inl k) v))))
def zlN(ho:PE X o td)(he:PE X e ty)(hf:PE X f tv)(m:M2 X o "setdefault" apos e f cpos):PE X (.Call (.Attribute o "setdefault" apos) [e,f] [] cpos) (zpT td ty tv):=by
 intro pins s σ H Q I h;refine wpAny_Call_method m.base m.few m.line PySem.F.plainAttrs_dict PySem.F.slot_dict_setdefault PySem.F.type_dict_setdefault (thn (ho pins s σ H _ I h) λu s1 j=>?_);obtain⟨x,H1,I1,rx,a,ex,d,q1⟩:=j;subst ex;obtain rfl:u=Θ.ref a:=rx;obtain⟨t1,t2,_⟩:=zkp I1 d;refine⟨t1,t2,?_⟩;rw[m.trees];refine Calls.callWith_builtin rfl (Calls.evalArgs_plain (Calls.spliced_cons (thn (he pins s1 σ H1 _ I1 q1) λiv s2 z=>eY z λy H2 I2 ry q2=>Calls.spliced_cons (thn (hf pins s2 σ H2 _ I2 q2) λfv s3 ⟨v,H3,I3,rv,ws,k,ea,ey,q3,q4⟩=>Calls.spliced_nil ?_))));subst ey;obtain⟨z,hd,vs,rel,dd⟩:=zrF I3.hok ea;have hz:vs.length<=sizeLine:=by rw[<-rel.length];exact z
 refine PySem.call_meetsIn PySem.F.slot_dict_setdefault dd.typeIs PySem.F.entry_dict_setdefault (PySem.F.args_dict_setdefault_3 _ _ _) (PySem.kt_meets_setdefault (zar X.prog X.w) a (zl8 (k:=.inl k) ry) hd fv) ⟨vs,dd,hz,λw hw=>?_,λhn h' dd' hs=>?_⟩;have r:=rel.val (.inl k);rw[hw]at r;cases l:valV ws (.inl k) with|none=>rw[l]at r;exact r.elim|some u=>rw[l]at r;exact⟨u,H3,I3.tok _,r,q3 u l⟩
 have r:=rel.val (.inl k);rw[hn]at r;cases l:valV ws (.inl k) with
 |some u=>rw[l]at r;exact r.elim| none=>
  obtain⟨hl,q5⟩:=q4 l;have hl2:(putK ws (.inl k) v).length<=sizeLine:=by have:=zcp ws (.inl k) v;omega
  have he:∃q,h'.get? a=Φ q:=let ⟨q,_,_,hq,_⟩:=dd';⟨q,hq⟩;exact⟨v,upd H3 a (.dK (putK ws (.inl k) v)),zgU (t':=s3.toks+1) I3 (by rw[ea];exact True.intro) hs he (znb hl2 hd (rel.put (.inl k) rv) dd'),rv,q5⟩
end
variable[Mks]
def RIs.val{K}(k):∀{a:List (Int×D)}{ws:List (Key×V)},RIs K ι H a ws->(valI a k=Ψ/\valV ws (.inl k)=Ψ)\/∃d v,valI a k=Φ d/\valV ws (.inl k)=Φ v/\RV K ι H d v
 | [],ws,r=>by cases(show ws=[] from r);exact .inl ⟨rfl,rfl⟩| (j,d)::a,ws,r=>by
  obtain⟨v,w,rfl,b,c⟩:=r;by_cases e:j=k;subst e;exact .inr ⟨d,v,by simp[valI],by simp[valV],b⟩;have f:valI ((j,d)::a) k=valI a k:=by simp[valI,e]
  have g:valV (((Sum.inl j:Key),v)::w) (.inl k)=valV w (.inl k):=by simp[valV,e]
  rw[f,g];exact RIs.val k c
section
variable{T:Tab}{cf:CF}{k:Nat}{N:List Str}{sc:Scope}{X:Cx}{pos p p2 pos':Pos}
def zkn(hh:RH X.K ι H S)(r:RV X.K ι H d v)(h:isDi S d=Γ):∃a,v=.ref a/\IsD H a:=by
 cases d with
 |ref l=>
  obtain⟨p,h1,rfl⟩:=r;simp only[isDi]at h;cases e:S.get l with
  |none=>rw[e]at h;exact nB h
  |some o=>rw[e]at h;obtain⟨b,h2,h3⟩:=hh.obj _ _ e;rw[h1]at h2;cases h2;cases o with|dic kvs=>obtain⟨_,ws,ha,_⟩:=h3;exact⟨p,rfl,.inl ⟨ws,.inl ha⟩⟩|_=>exact nB h
 |_=>exact nB h
def zf8(hh:RH X.K ι H S)(rx:RV X.K ι H x vx)(ry:RV X.K ι H y vy)(h:zf9 S x y=Φ o):
  ∃l a kvs ws kk,x=.ref l/\ι[l]?=Φ a/\S.get l=Φ (.dic kvs)/\vx=.ref a/\y=.int kk/\(kvs.map (·.1)).Nodup/\H a=Φ (.dK ws)/\RIs X.K ι H kvs ws/\vy=.int kk/\o=valI kvs kk:=by
 unfold zf9 at h;cases x with
 |ref l=>
  obtain⟨p,h1,rfl⟩:=rx;dsimp only at h;cases e:S.get l with
  |none=>rw[e]at h;exact nS h
  |some ob=>
   rw[e]at h;obtain⟨b,h2,h3⟩:=hh.obj _ _ e;rw[h1]at h2;cases h2;cases ob with
   |dic kvs=>obtain⟨nd,ws,ha,rk⟩:=h3;dsimp only at h;cases y with| int kk=>cases h;obtain rfl:vy=.int kk:=ry;exact⟨l,p,kvs,ws,kk,rfl,h1,e,rfl,rfl,nd,ha,rk,rfl,rfl⟩|_=>exact nS h
   |_=>exact nS h
 |_=>exact nS h
def zlj(G:Gd T cf k N sc X)(ho:PE X o (tE X.K cf co))(he:PE X e (tE X.K cf ce))(hx:PE X x (tE X.K cf cx))(hst:zan e=Γ)(hst2:zan x=Γ)(hsup:za3 o=Γ)(hl:(apos.endLine==cpos.line)=Γ):
  PE X (.Call (.Attribute o "get" apos) [e,x] [] cpos) (tE X.K cf (.dgetI co ce cx)):=by
 refine PE.imp (zhw (by have:=G.hu;lia) ho he hx ⟨zcw hsup "get" X.env _,by rw[zal hst,zal hst2];rfl,hl,by rw[zal hst,zal hst2];rfl⟩) λσ H Qv j=>?_;obtain⟨δ,ι,S,Q,hs,hh,w,q⟩:=j;change W (Out.bind _ _) _ at w;simp only[zab] at w;refine tE.run hs hh w λd v ι1 H1 S1 x1 hs1 hh1 r1 w1=>?_;split at w1;rename_i c;obtain⟨a,rfl,hD⟩:=zkn hh1 r1 c;refine⟨a,rfl,hD,?_⟩;rw[zab]at w1;refine tE.run hs1 hh1 w1 λy vy ι2 H2 S2 x2 hs2 hh2 r2 w2=>?_;rw[zab]at w2;refine tE.run hs2 hh2 w2 λz vz ι3 H3 S3 x3 hs3 hh3 r3 w3=>?_;rw[zab]at w3;obtain⟨o,eo,w4⟩:=zax w3;obtain⟨l,a',kvs,ws,kk,_,_,_,ea,_,nd,ha,rk,rfl,rfl⟩:=zf8 hh3 (r1.ext (x2.trans x3)) (r2.ext x3) eo;cases ea;refine⟨_,DGet.k (k:=.inl kk) ha,?_⟩;have up:=(x1.trans x2).trans x3;rcases rk.val kk with⟨e1,e2⟩|⟨d',v',e1,e2,rv⟩;rw[e1]at w4;rw[e2];exact q _ _ (Lf.up up (Lf.of hh3 r3 w4));rw[e1]at w4;rw[e2];exact q _ _ (Lf.up up (Lf.of hh3 rv w4));exact w1.elim
def zli(G:Gd T cf k N sc X)(ho:PE X o (tE X.K cf co))(he:PE X e (tE X.K cf ce))(hx:PE X x (tE X.K cf cx))(hst:zan e=Γ)(hst2:zan x=Γ)(hsup:za3 o=Γ)(hl:(apos.endLine==cpos.line)=Γ):
  PE X (.Call (.Attribute o "setdefault" apos) [e,x] [] cpos) (tE X.K cf (.dsetI co ce cx)):=by
 refine PE.imp (zlN ho he hx ⟨zcw hsup "setdefault" X.env _,by rw[zal hst,zal hst2];rfl,hl,by rw[zal hst,zal hst2];rfl⟩) λσ H Qv j=>?_;obtain⟨δ,ι,S,Q,hs,hh,w,q⟩:=j;change W (Out.bind _ _) _ at w;simp only[zab] at w;refine tE.run hs hh w λd v ι1 H1 S1 x1 hs1 hh1 r1 w1=>?_;split at w1;rename_i c;obtain⟨a,rfl,hD⟩:=zkn hh1 r1 c;refine⟨a,rfl,hD,?_⟩;rw[zab]at w1;refine tE.run hs1 hh1 w1 λy vy ι2 H2 S2 x2 hs2 hh2 r2 w2=>?_;rw[zab]at w2;refine tE.run hs2 hh2 w2 λz vz ι3 H3 S3 x3 hs3 hh3 r3 w3=>?_;rw[zab]at w3;obtain⟨r,er,w4⟩:=zax w3;have up:=(x1.trans x2).trans x3;unfold zfj at er;cases eg:zf9 S3 d y with
 |none=>rw[eg]at er;exact nS er
 |some og=>
  obtain⟨l,a',kvs,ws,kk,rfl,hi,hg,ea,rfl,nd,ha,rk,rfl,rfl⟩:=zf8 hh3 (r1.ext (x2.trans x3)) (r2.ext x3) eg;cases ea;rw[eg]at er;have hlen:∀T,dPut S3 (.ref l) (.int kk) z=Φ T->kvs.length<16777216/\S3.put l (.dic (putI kvs kk z))=Φ T:=λT eT=>by unfold dPut at eT;dsimp only at eT;rw[hg]at eT;dsimp only[zcq,Ϟ]at eT;split at eT;rename_i c;exact⟨c,eT⟩;exact nS eT
  rcases rk.val kk with⟨e1,e2⟩|⟨d',v',e1,e2,rv⟩;rw[e1]at er;dsimp only at er;cases ep:dPut S3 (.ref l) (.int kk) z with
  |none=>rw[ep]at er;exact nS er
  |some T'=>
   rw[ep]at er;cases er;obtain⟨c,es⟩:=hlen _ ep;have xw:=Ext.wr hh3 hg hi (.dK (putK ws (.inl kk) vz));have hz:ws.length<sizeLine:=by rw[rk.length,Τ];exact c
   refine⟨ws,kk,ha,rfl,λu hu=>absurd (e2.symm.trans hu) (λz=>by exact nS z),λ_=>⟨hz,?_⟩⟩;exact q _ _ ⟨z,ι3,T',up.trans xw,r3.ext xw,hh3.wr hg hi es ⟨zio nd,_,zak,(rk.put kk r3 nd).up xw.pre xw.kp⟩,w4⟩
  rw[e1]at er;cases er;refine⟨ws,kk,ha,rfl,λu hu=>?_,λhn=>absurd (e2.symm.trans hn) (λz=>by cases z)⟩;rw[e2]at hu;cases hu;exact q _ _ (Lf.up up (Lf.of hh3 rv w4))
 exact w1.elim
end
section
variable{T:Tab}{cf:CF}{k:Nat}{N:List Str}{sc:Scope}{X:Cx}{pos p:Pos}
def zfV(h:zbY S d=Φ (c,fs)):∃l,d=.ref l/\S.get l=Φ (.ins c fs):=by
 cases d with
 |ref l=>
  refine⟨l,rfl,?_⟩;unfold zbY at h;dsimp only at h;cases e:S.get l with
  |none=>rw[e]at h;exact nS h
  |some o=>rw[e]at h;cases o with|ins c' fs'=>cases h;rfl|_=>exact nS h
 |_=>exact nS h
def ne_of{b:Type}[BEq b]{xs:List b}{a:b}(h:xs.contains a=Γ):xs≠[]:=λe=>by rw[e]at h;simp at h
def Gd.clsAt(G:Gd T cf k N sc X)(d:T.flds≠[]\/T.inits≠[]\/T.isas≠[]){c:Nat}(h:Mks.cl[c]?=Φ C):∃x,T.cls[c]?=Φ x/\Cls X.K C/\X.mg x=Φ (.ref C)/\∀f,T.flds.contains f=Γ->NoAttr X.K C f:=by have a:c<T.cls.length:=lt_of_lt_of_le (Ω.mp h).1 (G.tab.cln d);obtain⟨j,b,e,g,i⟩:=G.tab.cls c T.cls[c] (List.getElem?_eq_getElem a);rw[h]at b;cases b;exact⟨_,List.getElem?_eq_getElem a,e,g,i⟩
def zqf(G:Gd T cf k N sc X)(ha:PE X a (tE X.K cf ca))(hsup:za3 a=Γ)(hf:T.flds.contains f=Γ):PE X (.Attribute a f pos) (tE X.K cf (.fld ca f)):=by
 refine PE.imp (zqT ha (zcw hsup f X.env _)) λσ H Qv z=>?_;obtain⟨δ,ι,S,Q,hs,hh,w,q⟩:=z;change W (Out.bind _ _) _ at w;simp only[zab] at w;refine tE.run hs hh w λd v ι1 H1 S1 x1 hs1 hh1 r1 w1=>?_;obtain⟨u,eu,w2⟩:=zax w1;cases ei:zbY S1 d with
 |none=>rw[ei]at eu;exact nS eu
 |some pr=>obtain⟨c,fs⟩:=pr;rw[ei]at eu;have eu:fs.lookup f=Φ u:=eu;obtain⟨l,rfl,hl⟩:=zfV ei;obtain⟨b,i1,rfl⟩:=r1;obtain⟨b',i2,C,dx,ws,hC,hb,rf⟩:=hh1.obj l _ hl;rw[i1]at i2;cases i2;obtain⟨_,_,cl,_,na⟩:=G.clsAt (.inl (ne_of hf)) hC;rcases rf.look f with⟨e1,_⟩|⟨d',v',e1,e2,rv⟩;rw[eu]at e1;cases e1;rw[eu]at e1;cases e1;exact⟨b,C,dx,ws,v',rfl,hb,cl,na f hf,e2,q _ _ (Lf.up x1 (Lf.of hh1 rv w2))⟩
def ze4(hbase:attributeBase o name env (eval o env)=eval o env)(hfew:((backTo pos (starEach args env)).all (λx=>!x.1)&&(backToKw pos (keywordEach [] env)).all (λx=>x.1.isSome)
   && decide (args.length+([]:List Keyword).length+(if([]:List Keyword).isEmpty then 0 else 1)<30))=Γ)(hline:(apos.endLine==pos.line)=Γ)(h:wpAny (model prog w) A (eval o env) (λov s₁=>∀pl,wpAny (model prog w) A (getMethod ov name pl) (λfx s₂=>wpAny (model prog w) A (callWith pos fx.1 fx.2 (backTo pos (starEach args env)) (backToKw pos (keywordEach [] env))) Q E s₂) E s₁) E s):
  wpAny (model prog w) A (eval (.Call (.Attribute o name apos) args [] pos) env) Q E s:=by
 rw[arm_eval_Call,hbase];refine Α (ϑ h (λov s₁ h₁=>?_) λ_ _ e=>e);refine Α (wpAny_standAt ?_);have hform:methodCallForm (args.length+([]:List Keyword).length) (backTo pos (starEach args env)) (backToKw pos (keywordEach [] env))=Γ:=hfew;have hpos:methodCallPos Γ o env apos pos=pure pos:=by unfold methodCallPos;simp[hline]
 unfold methodCall;rw[hform];refine Α (wpAny_holding (ϑ (h₁ _) (λfx s₂ h₂=>?_) λ_ _ e=>e));obtain⟨f,first⟩:=fx;exact Α (wpAny_of_eq hpos h₂)
abbrev zje(X:Cx)(k:Nat)(m:Str)(ta:TE)(t:TA):TE:=λσ H Q=>ta σ H λx H1=>∃(a C dx:Addr) (fs:List (Str×V)) (fa:Addr) (fd:FuncData) (ps:List Str) (sp:Sp),x=.ref a/\H1 a=Φ (.ins C dx fs)/\Cls X.K C/\Meth X.K C m fa/\
 FnOk X.prog X.w X.K X.mg X.base CX0 k fa fd ps sp/\Binds X.K fd ps []/\fs.lookup m=Ψ/\t σ H1 λvs H2=>sp (x::vs) H2 Q E0
def zlI(he:PE X o ta)(hr:Room k X.A)(ha:PA X (e::es) t)(hbase:attributeBase o m X.env (eval o X.env)=eval o X.env)(hfew:((backTo pos (starEach (e::es) X.env)).all (λx=>!x.1)&&(backToKw pos (keywordEach [] X.env)).all (λx=>x.1.isSome)
   && decide ((e::es).length+([]:List Keyword).length+(if([]:List Keyword).isEmpty then 0 else 1)<30))=Γ)(hline:(apos.endLine==pos.line)=Γ)(hst:starEach (e::es) X.env=(Δ,eval e X.env)::starEach es X.env)(hpl:(backTo pos (starEach es X.env)).any (·.1)=Δ):
  PE X (.Call (.Attribute o m apos) (e::es) [] pos) (zje X k m ta t):=by
 intro pins s σ H Q I h;refine ze4 hbase hfew hline (thn (he pins s σ H _ I h) λu s1 z pl=>?_);obtain⟨x,H1,I1,rx,a,C,dx,fs,fa,fd,ps,sp,ex,ea,c,hm,F,hb,l,q⟩:=z;subst ex;obtain rfl:u=Θ.ref a:=rx;refine zeq I1 ea c hm l ?_;refine callWith_K (first:=[.ref a]) (h₀:=X.base) I.ok.mod.kin hm.kp (thn (ha pos pins s1 σ H1 _ I1 q) λus s2 z=>eY z λvs H2 I2 r q2=>⟨I2.kIn,?_⟩) hst hpl;exact zfv (us:=.ref a::us) (vs:=.ref a::vs) F hr hb .nil zgD I2 (.cons rfl r) (by rw[Ϣ];exact q2)
def zjO(he:PE X o ta)(hr:Room k X.A)(hbase:attributeBase o m X.env (eval o X.env)=eval o X.env)(hline:(apos.endLine==pos.line)=Γ):
  PE X (.Call (.Attribute o m apos) [] [] pos) (zje X k m ta tNil):=by
 intro pins s σ H Q I h;refine ze4 hbase rfl hline (thn (he pins s σ H _ I h) λu s1 z pl=>?_);obtain⟨x,H1,I1,rx,a,C,dx,fs,fa,fd,ps,sp,ex,ea,c,hm,F,hb,l,q⟩:=z;subst ex;obtain rfl:u=Θ.ref a:=rx;refine zeq I1 ea c hm l ?_;exact callWith_K0 (first:=[.ref a]) I1.kIn hm.kp (zfv (us:=[.ref a]) (vs:=[.ref a]) F hr hb .nil zgD I1 (.cons rfl .nil) (by rw[Ϣ];exact q))
abbrev mtB(T:Tab)(m:Str)(tb:List (Nat×Nat)):Bool:=tb.all λp=>T.mts.contains (p.1,m,p.2)
def ziC{tb:List (Nat×Nat)}(h:tb.lookup c=Φ f):(c,f)∈tb:=by
 induction tb with
 |nil=>exact nS h
 |cons p r ih=>obtain⟨c',f'⟩:=p;simp only[List.lookup]at h;split at h;rename_i e;cases h;have:=eq_of_beq e;subst this;simp;exact Ο _ (ih h)
def zhz(G:Gd T cf k N sc X)(hm:mtB T m tb=Γ)(ht:∀{σ:L2.St}{H:Hp}{Qa:List V->Hp->Prop},tAs X.K cf ces σ H Qa->t σ H Qa)(h:tE X.K cf (.meth m tb co ces) σ H Qv):zje X k m (tE X.K cf co) t σ H Qv:=by
 obtain⟨δ,ι,S,Q,hs,hh,w,q⟩:=h;change W (Out.bind _ _) _ at w;simp only[zab] at w;refine tE.run hs hh w λd v ι1 H1 S1 x1 hs1 hh1 r1 w1=>?_;obtain⟨pr,ei,w2⟩:=zax w1;obtain⟨c,fs⟩:=pr;obtain⟨f,ef,w3⟩:=zax w2;split at w3;rename_i hn;rw[zab]at w3;obtain⟨l,rfl,hl⟩:=zfV ei;have r1':=r1;obtain⟨b,i1,rfl⟩:=r1;obtain⟨b',i2,C,dx,ws,hC,hb,rf⟩:=hh1.obj l _ hl;rw[i1]at i2;cases i2;have hmt:=all_eq_true.mp hm (c,f) (ziC ef);obtain⟨C',fa,fd,ps,hC',cl,me,F,bi⟩:=(G.tab.mth c m f hmt).ex;rw[hC]at hC';cases hC';have hlk:ws.lookup m=Ψ:=by rcases rf.look m with⟨_,e2⟩|⟨d',v',e1,_,_⟩;exact e2;dsimp only at hn;rw[e1]at hn;exact nB hn
 refine⟨b,C,dx,ws,fa,fd,ps,_,rfl,hb,cl,me,F,bi,hlk,ht ?_⟩;refine tAs.run hs1 hh1 w3 λds vs ι2 H2 S2 x2 hs2 hh2 r2 w4=>?_;unfold appW at w4;refine⟨ι2,S2,.ref l::ds,⟨.ref b,vs,rfl,r1'.ext x2,r2⟩,hh2,?_⟩;obtain⟨d,T',e,w5⟩:=zgm w4;rw[e];exact λv H' ι' x r hT=>q v H' (Lf.up (x1.trans x2) ⟨d,ι',T',x,r,hT,w5⟩);exact w3.elim
def znP(G:Gd T cf k N sc X)(hm:mtB T m tb=Γ)(ho:PE X o (tE X.K cf co))(ha:PA X (e::es) (tAs X.K cf ces))(hst:(e::es).all zan=Γ)(hsup:za3 o=Γ)(hl:(apos.endLine==pos.line)=Γ)(hn:(e::es).length<29):
  PE X (.Call (.Attribute o m apos) (e::es) [] pos) (tE X.K cf (.meth m tb co ces)):=by
 have hs:=hst;rw[all_cons,Ξ]at hst;refine PE.imp (zlI ho G.room ha (zcw hsup m X.env _) ?_ hl (zal hst.1 es X.env) (zaR hst.2)) λσ H Qv h=>zhz G hm (λz=>z) h;have h0:=zaR (pos:=pos) (env:=X.env) hs;have h1:(backTo pos (starEach (e::es) X.env)).all (λx=>!x.1)=Γ:=by rw[all_eq_true];intro x hx;have:=List.any_eq_false.mp h0 x hx;simpa using this
 have h2:decide ((e::es).length+([]:List Keyword).length+(if([]:List Keyword).isEmpty then 0 else 1)<30)=Γ:=by rw[decide_eq_true_eq];show(e::es).length+0+0<30;lia
 rw[h1,h2];rfl
def zhy(hc:ces=.nil)(h:tAs X.K cf ces σ H Qa):tNil σ H Qa:=by subst hc;obtain⟨δ,ι,S,Q,hs,hh,w,q⟩:=h;exact q [] H ⟨[],ι,S,Ext.refl _ _,rfl,hh,by simpa[evEs]using w⟩
def zlh(G:Gd T cf k N sc X)(hm:mtB T m tb=Γ)(ho:PE X o (tE X.K cf co))(hsup:za3 o=Γ)(hl:(apos.endLine==pos.line)=Γ):
  PE X (.Call (.Attribute o m apos) [] [] pos) (tE X.K cf (.meth m tb co .nil)):=
 PE.imp (zjO ho G.room (zcw hsup m X.env _) hl) λσ H Qv h=>zhz G hm (λz=>zhy rfl z) h
def Vals.nons:∀j:Nat,Vals (List.replicate j .non) (List.replicate j Θ.none)
 |0=>.nil|j+1=>.cons rfl (Vals.nons j)
def zhB(G:Gd T cf k N sc X)(hC:Mks.cl[c]?=Φ C)(ht:∀{σ:L2.St}{H:Hp}{Qa:List V->Hp->Prop},tAs X.K cf ces σ H Qa->t σ H Qa)(h:tE X.K cf (.mk c f x j ces) σ H Qv):znw C (spF X.K cf f) (List.replicate j V.non) E0 t σ H Qv:=by
 obtain⟨δ,ι,S,Q,hs,hh,w,q⟩:=h;change W (Out.bind _ _) _ at w;simp only[zab] at w;refine ht (tAs.run hs hh w λds vs ι1 H1 S1 x1 hs1 hh1 r1 w1=>?_);intro y dy hy hdy hne;have hh2:=hh1.new hdy (.own y);have x2:Ext ι1 H1 ι1 (upd H1 dy (.own y)):=Ext.new hdy _;have hy2:(upd H1 dy (.own y)) y=Ψ:=by rw[zah (Ne.symm hne)];exact hy
 have hh3:=hh2.obj' hy2 (.ins C dy []) (.ins c []) ⟨C,dy,[],hC,zak,rfl⟩;have x3:Ext ι1 (upd H1 dy (.own y)) (ι1++[y]) (upd (upd H1 dy (.own y)) y (.ins C dy [])):=Ext.obj hh2 hy2 _;unfold appW at w1;obtain⟨d,T',e,w2⟩:=zgm w1;refine⟨ι1++[y],S1.push (.ins c []),.ref S1.len::(ds++List.replicate j .non),⟨.ref y,_,rfl,⟨y,hh2.last y,rfl⟩,RVs.append ((r1.ext x2).ext x3) (RVs.nons j)⟩,hh3,?_⟩;rw[e];intro v H' ι' x' r hT;split at w2;rename_i hn;cases d with| non=>refine⟨r,q _ _ ⟨.ref S1.len,ι',T',((x1.trans x2).trans x3).trans x',⟨y,zbV x'.pre (hh2.last y),rfl⟩,hT,w2⟩⟩|_=>exact nB hn
 exact w2.elim
def zsj(G:Gd T cf k N sc X)(hi:T.inits.contains (c,f,j)=Γ)(hx:T.cls[c]?=Φ x)(hg:isGl sc x=Γ)(hd:(x==("__debug__":Str))=Δ)(ha:PA X (e::es) (tAs X.K cf ces))(hst:(e::es).all zan=Γ):
  PE X (.Call (.Name x p) (e::es) [] pos) (tE X.K cf (.mk c f x j ces)):=by
 obtain⟨C,fa,fd,ps,hC,M,F,hb⟩:=(G.tab.ini c f j hi).ex;obtain⟨x',e1,_,hm,_⟩:=G.clsAt (.inr (.inl (ne_of hi))) hC;rw[hx]at e1;cases e1;rw[all_cons,Ξ]at hst;exact PE.imp (zox M F G.room' (G.gl hg) hm hb (Vals.nons j) zgD ha hd (zal hst.1 es X.env) (zaR hst.2)) λσ H Qv h=>zhB G hC (λz=>z) h
def zqb(G:Gd T cf k N sc X)(hi:T.inits.contains (c,f,j)=Γ)(hx:T.cls[c]?=Φ x)(hg:isGl sc x=Γ)(hd:(x==("__debug__":Str))=Δ):
  PE X (.Call (.Name x p) [] [] pos) (tE X.K cf (.mk c f x j .nil)):=by
 obtain⟨C,fa,fd,ps,hC,M,F,hb⟩:=(G.tab.ini c f j hi).ex;obtain⟨x',e1,_,hm,_⟩:=G.clsAt (.inr (.inl (ne_of hi))) hC;rw[hx]at e1;cases e1;exact PE.imp (zlJ M F G.room' (G.gl hg) hm hb (Vals.nons j) zgD hd) λσ H Qv h=>zhB G hC (λz=>zhy rfl z) h
def zrA(hs:(e::es).all zan=Γ)(hn:(e::es).length<29):((backTo pos (starEach (e::es) env)).all (λx=>!x.1)&&(backToKw pos (keywordEach [] env)).all (λx=>x.1.isSome)
  && decide ((e::es).length+([]:List Keyword).length+(if([]:List Keyword).isEmpty then 0 else 1)<30))=Γ:=by
 have h0:=zaR (pos:=pos) (env:=env) hs;have h1:(backTo pos (starEach (e::es) env)).all (λx=>!x.1)=Γ:=by rw[all_eq_true];intro x hx;have:=List.any_eq_false.mp h0 x hx;simpa using this
 have h2:decide ((e::es).length+([]:List Keyword).length+(if([]:List Keyword).isEmpty then 0 else 1)<30)=Γ:=by rw[decide_eq_true_eq];show(e::es).length+0+0<30;lia
 rw[h1,h2];rfl
def zlP(Hs:HasC X.prog X.w X.K X.mg X.base k x m sp)(hr:Room k X.A)(ha:PA X (e::es) t)(hg:Gl X x)(hdb:(x==("__debug__":Str))=Δ)(hbase:attributeBase (.Name x p) m X.env (eval (.Name x p) X.env)=eval (.Name x p) X.env)(hst:(e::es).all zan=Γ)(hn:(e::es).length<29)(hline:(apos.endLine==pos.line)=Γ):
  PE X (.Call (.Attribute (.Name x p) m apos) (e::es) [] pos) (zeJ sp [] E0 t):=by
 obtain⟨C,fa,fd,ps,mc,hm,h1,h2,h3,h4,F,hb⟩:=Hs.ex;have hst2:=hst;rw[all_cons,Ξ]at hst2;intro pins s σ H Q I h;refine ze4 hbase (zrA hst hn) hline (thn (zeY (v:=.ref C) hg hm rfl hdb pins s σ H (λv H1=>v=.ref C/\zeJ sp [] E0 t σ H1 Q) I ⟨rfl,h⟩) λu s1 z pl=>?_);obtain⟨xv,H1,I1,rx,ex,q⟩:=z;subst ex;obtain rfl:u=Θ.ref C:=rx;refine PySem.W.method_cls I1.kIn h1 (PySem.W.cls_value I1.kIn h2 h3 rfl ?_);refine callWith_K (first:=[]) (h₀:=X.base) I.ok.mod.kin h4 (thn (ha pos pins _ σ H1 _ (I1.tok _) q) λus s2 z=>eY z λvs H2 I2 r q2=>⟨I2.kIn,?_⟩) (zal hst2.1 es X.env) (zaR hst2.2);exact zfv (us:=us) (vs:=vs) F hr hb .nil zgD I2 r q2
def ziS(h:tE X.K cf (.callC f x m ces) σ H Qv):zeJ (spF X.K cf f) [] E0 (tAs X.K cf ces) σ H Qv:=by obtain⟨δ,ι,S,Q,hs,hh,w,q⟩:=h;change W (Out.bind _ _) _ at w;simp only[zab] at w;refine tAs.run hs hh w λds vs ι1 H1 S1 x1 hs1 hh1 r1 w1=>?_;unfold appW at w1;rw[Ϣ];refine⟨ι1,S1,ds,r1,hh1,?_⟩;obtain⟨d,T',e,w2⟩:=zgm w1;rw[e];exact λv H' ι' x r hT=>q v H' (Lf.up x1 ⟨d,ι',T',x,r,hT,w2⟩)
def zll(G:Gd T cf k N sc X)(hc:T.cms.contains (x,m,f)=Γ)(hg:isGl sc x=Γ)(hd:(x==("__debug__":Str))=Δ)(hsup:za3 (.Name x p)=Γ)(ha:PA X (e::es) (tAs X.K cf ces))(hst:(e::es).all zan=Γ)(hn:(e::es).length<29)(hl:(apos.endLine==pos.line)=Γ):
  PE X (.Call (.Attribute (.Name x p) m apos) (e::es) [] pos) (tE X.K cf (.callC f x m ces)):=
 PE.imp (zlP (G.tab.cmd x m f hc) G.room ha (G.gl hg) hd (zcw hsup m X.env _) hst hn hl) λσ H Qv h=>ziS h
def zqh(ho:PE X o (tE X.K cf ca))(hsup:za3 o=Γ)(hl:(apos.endLine==cpos.line)=Γ):
  PE X (.Call (.Attribute o "clear" apos) [] [] cpos) (tE X.K cf (.clr ca)):=by
 refine PE.imp (zqU PySem.F.plainAttrs_list PySem.F.slot_list_clear PySem.F.type_list_clear zlV ho (zcw hsup "clear" X.env _) hl) λσ H Qv z=>?_;obtain⟨δ,ι,S,Q,hs,hh,w,q⟩:=z;change W (Out.bind _ _) _ at w;simp only[zab] at w;refine tE.run hs hh w λd v ι1 H1 S1 x1 hs1 hh1 r1 w1=>?_;split at w1;rename_i c;refine⟨zkm hh1 r1 c,?_⟩;cases d with
 |ref l=>obtain⟨a,h1,rfl⟩:=r1;dsimp only at w1;cases e:S1.get l with|none=>simp[isL,e]at c| some o=>cases o with| lst es=>obtain⟨b',h2,zs,ha,rz⟩:=hh1.obj _ _ e;rw[h1]at h2;cases h2;obtain⟨c2,S',hp,w3⟩:=zk6 w1;exact⟨a,zs,rfl,rfl,ha,q _ _ (Lf.up x1 (Lf.wr (d:=.non) (xs:=[]) hh1 e h1 hp rfl rfl w3))⟩|_=>simp[isL,e]at c
 |_=>exact w1.elim
 exact w1.elim
end
abbrev LfS(K:Frag)(ι:List Addr)(H:Hp)(Q:Fl->R.St->Prop)(E:Ends):Prop:=∀f ι' H' S',Ext ι H ι' H'->RH K ι' H' S'->Q f S'->(match f with|.nx δ'=>∀σ',RS K ι' H' δ' σ'->E.nx σ' H'|.rt d=>∀v,RV K ι' H' d v->E.rt v H')
abbrev tS(K:Frag)(cf:CF)(cs:CS):TS:=λE σ H=>∃δ ι S Q,RS K ι H δ σ/\RH K ι H S/\W (exS cf cs δ S) Q/\LfS K ι H Q E
def LfS.up{K}(h:LfS K ι H Q E)(x:Ext ι H a b):LfS K a b Q E:=λf ι' H' c d e q=>h f ι' H' c (x.trans d) e q
def PSs.imp{st}(h:PSs X st t)(i:∀E a H,t' E a H->t E a H):PSs X st t':=λb s a H E I q=>h b s a H E I (i E a H q)
section
variable{T:Tab}{cf:CF}{k:Nat}{N:List Str}{sc:Scope}{X:Cx}{pos p:Pos}{rest:List Stmt}
def zpY:PSs X [] (tS X.K cf .nil):=PSs.imp zgy λE σ H z=>by obtain⟨δ,ι,S,Q,hs,hh,w,l⟩:=z;exact l _ ι H S (Ext.refl _ _) hh w σ hs
def zp0(G:Gd T cf k N sc X)(hi:N[i]?=Φ x)(hl:zfT sc x=Γ)(he:PE X e (tE X.K cf ce))(hc:zbr e=Γ)(hr:PSs X rest (tS X.K cf r)):
  PSs X (.Assign [.Name x p] e pos::rest) (tS X.K cf (.asg i ce r)):=by
 refine PSs.imp (zaB (zjE (i:=i) (by rw[G.nm];exact G.nd) (by rw[G.nm];exact hi) (G.lc hl).1 he (zeK hc _ _ _) (G.lc hl).2) hr) λE σ H z=>?_;obtain⟨δ,ι,S,Q,hs,hh,w,l⟩:=z;change W (Out.bind _ _) _ at w;simp only[zab] at w;refine tE.run hs hh w λd v ι1 H1 S1 x1 hs1 hh1 r1 w1=>?_;exact⟨δ.set i (Φ d),ι1,S1,Q,hs1.set r1 i,hh1,w1,l.up x1⟩
def znE(G:Gd T cf k N sc X)(hi:N[i]?=Φ x)(hps:∃t,PS X (.Assign [.Name x p] e pos) (tAsg t (zff i))/\∀σ H Qv,tE X.K cf ce σ H Qv->t σ H Qv)(hr:PSs X rest (tS X.K cf r)):
  PSs X (.Assign [.Name x p] e pos::rest) (tS X.K cf (.asg i ce r)):=by
 obtain⟨t,hp,ht⟩:=hps;refine PSs.imp (zaB hp hr) λE σ H z=>?_;obtain⟨δ,ι,S,Q,hs,hh,w,l⟩:=z;change W (Out.bind _ _) _ at w;simp only[zab] at w;refine ht _ _ _ (tE.run hs hh w λd v ι1 H1 S1 x1 hs1 hh1 r1 w1=>?_);exact⟨δ.set i (Φ d),ι1,S1,Q,hs1.set r1 i,hh1,w1,l.up x1⟩
def znB(he:PE X e (tE X.K cf ce))(hc:zbr e=Γ)(hr:PSs X rest (tS X.K cf r)):PSs X (.Expr e pos::rest) (tS X.K cf (.expr ce r)):=by refine PSs.imp (zaB (zoj he (zeK hc _ _ _)) hr) λE σ H z=>?_;obtain⟨δ,ι,S,Q,hs,hh,w,l⟩:=z;change W (Out.bind _ _) _ at w;simp only[zab] at w;refine tE.run hs hh w λd v ι1 H1 S1 x1 hs1 hh1 r1 w1=>?_;exact⟨δ,ι1,S1,Q,hs1,hh1,w1,l.up x1⟩
def zpX(he:PE X e (tE X.K cf ce))(hr:PSs X rest (tS X.K cf r)):PSs X (.Return (Φ e) pos::rest) (tS X.K cf (.ret ce r)):=by refine PSs.imp (zaB (zjF he) hr) λE σ H z=>?_;obtain⟨δ,ι,S,Q,hs,hh,w,l⟩:=z;change W (Out.bind _ _) _ at w;simp only[zab,W_ok] at w;refine tE.run hs hh w λd v ι1 H1 S1 x1 hs1 hh1 r1 w1=>?_;exact l _ _ _ _ x1 hh1 w1 v r1
def zsg(hc:PT X c (tT X.K cf cc))(ha:PSs X a (tS X.K cf ca))(hb:PSs X b (tS X.K cf cb))(hr:PSs X rest (tS X.K cf r)):PSs X (.If c a b pos::rest) (tS X.K cf (.ifS cc ca cb r)):=by
 refine PSs.imp (zaB (zoi hc ha hb) hr) λE σ H k=>?_;obtain⟨δ,ι,S,Q,hs,hh,w,l⟩:=k;change W (Out.bind _ _) _ at w;simp only[zab] at w;refine tT.run hs hh w λz ι1 H1 S1 x1 hs1 hh1 w1=>?_;have fin:LfS X.K ι1 H1 (λf S2=>W (match f with|.nx δ'=>exS cf r δ' S2|.rt d=>.ok (.rt d) S2) Q) {E with nx:=tS X.K cf r E}:=by intro f ι2 H2 S2 x2 hh2 q;cases f with|nx δ'=>exact λσ' hs'=>⟨δ',ι2,S2,Q,hs',hh2,q,(l.up x1).up x2⟩|rt d=>exact λv rv=>(l.up x1) _ _ _ _ x2 hh2 q v rv
 cases z with|true=>exact⟨δ,ι1,S1,_,hs1,hh1,w1,fin⟩|false=>exact⟨δ,ι1,S1,_,hs1,hh1,w1,fin⟩
abbrev FInv(K:Frag)(cf:CF)(g:List Nat)(b:CS)(Qf:Fl->R.St->Prop)(ds:List D)(lks:List Nat)(ι1:List Addr)(H1:Hp)(S1:R.St)(i:Nat)(σ':L2.St)(H':Hp):Prop:=i<=ds.length/\∃δ' ι' S',RS K ι' H' δ' σ'/\Ltr K ι1 H1 S1 lks ι' H' S'/\S'.lk=lks++S1.lk/\S1.len<=S'.len/\W (zaI g (exS cf b) (ds.drop i) δ' S') λf S2=>Qf f {S2 with lk:=S1.lk}
def zpZ(G:Gd T cf k N sc X)(hi:PI X tg iter (tI X.K cf it))(hg:PG X tg (tG X.K is))(hb:PSs X body (tS X.K cf cb))(hset:zaY iter=Γ)(hr:PSs X rest (tS X.K cf r)):
  PSs X (.For tg iter body [] pos::rest) (tS X.K cf (.forS is it cb r)):=by
 have hp:PassesOwn (model X.prog X.w) X.A X.env X.xe:=by rw[G.xe];exact PassesOwn.never
 refine PSs.imp (zaB (zmV hp G.calm hi hg hb (zgR hset X.env)) hr) λE σ H y=>?_;obtain⟨δ,ι,S,Q,hs,hh,w,l⟩:=y;change W (Out.bind _ _) _ at w;simp only[zab] at w;refine⟨δ,ι,S,_,hs,hh,w,λJ H1 y=>?_⟩;obtain⟨ds,lks,ι1,S1,x1,hh1,w1,wk⟩:=y;dsimp only at w1;unfold zbg at w1;rw[zab]at w1;simp only[W_ok]at w1;refine⟨λi m σ' H'=>m=ds.length-i/\FInv X.K cf is cb (λf S2=>W (match f with|.nx δ'=>exS cf r δ' S2|.rt d=>.ok (.rt d) S2) Q) ds lks ι1 H1 S1 i σ' H',⟨_,rfl,zero_le _,δ,ι1,{S1 with lk:=lks++S1.lk},hs.ext x1,⟨Ext.refl _ _,hh1.lk _,λl _=>rfl⟩,rfl,le_refl _,w1⟩,?_⟩;rintro i m σ' H' ⟨rfl,hle,δ',ι',S',hs',lt,hlk,hln,wt⟩;have l1:=l.up (x1.trans lt.ext);rcases Nat.lt_or_eq_of_le hle with hlt|rfl;refine .inr ⟨wk.go i ι' H' S' lt hlt,FInv X.K cf is cb _ ds lks ι1 H1 S1 (i+1),λσ2 H2 h=>⟨_,by omega,rfl,h⟩,λx H2 hy=>?_⟩;obtain⟨x2,hh2,d,hd,rd⟩:=wk.yld i ι' H' S' x H2 lt hlt hy;rw[zf6 hd]at wt;simp only[zaI]at wt;cases ea:asgG is d δ' with|none=>rw[ea]at wt;exact wt.elim| some δ2=>rw[ea]at wt;dsimp only at wt;rw[zab]at wt;refine⟨δ',ι',d,δ2,hs'.ext x2,rd,ea,λσ2 hs3=>⟨δ2,ι',S',_,hs3,hh2,(frS G.tab.frm cb δ2 S').w wt,?_⟩⟩;rintro f ι3 H3 S3 x3 hh3 ⟨w3,f3⟩;have k1:S3.lk=lks++S1.lk:=f3.lk.trans hlk;have k3:∀l∈lks,S3.get l=S1.get l:=λl hl=>(f3.same l (by rw[hlk];exact mem_append_left _ hl) (lt_of_lt_of_le (wk.lks l hl) hln)).trans (lt.lck l hl);cases f with|nx δ3=>exact λσ3 hs4=>⟨hlt,δ3,ι3,S3,hs4,⟨(lt.ext.trans x2).trans x3,hh3,k3⟩,k1,le_trans hln f3.lens,w3⟩|rt z=>exact λv rv=>l1 _ _ _ _ (x2.trans x3) (hh3.lk _) w3 v rv
 refine .inl ⟨wk.stop _ ι' H' S' lt (le_refl _),?_⟩;rw[List.drop_length]at wt;simp only[zaI,W_ok]at wt;exact⟨δ',ι',{S' with lk:=S1.lk},Q,hs',lt.rh.lk _,wt,l1⟩
def zoh(ho:PE X o td)(hi:PE X i ty)(hv:PE X value tv)(hs:swapsWith value (Φ (.Subscript o i pos')) pos.line X.env=pure Δ):
  PS X (.Assign [.Subscript o i pos'] value pos) (λD σ H=>tv σ H λv H1=>td σ H1 λx H2=>ty σ H2 λy H3=>∃a xs k j,x=.ref a/\H3 a=Φ (.lst xs)/\y=.int k/\L2.ixN xs.length k=Φ j/\D.nx σ (upd H3 a (.lst (xs.set j v)))):=by
 intro pins s σ H D I h;refine wpAny_Assign_Subscript (thn (hv pins s σ H _ I h) λr s1 z=>eY z λv H1 I1 rv q1=>thn (ho pins s1 σ H1 _ I1 q1) λu s2 z=>eY z λx H2 I2 rx q2=>thn (hi pins s2 σ H2 _ I2 q2) λiv s3 q'=>?_) hs;obtain⟨y,H3,I3,ry,a,xs,k,j,ex,e,ey,ej,q3⟩:=q';subst ex;obtain rfl:u=Θ.ref a:=rx;exact ϑ (zlf pins s3 σ H3 (.ref a) y v (.ref a) iv r (λH'=>D.nx σ H') I3 rfl ry rv ⟨a,xs,k,j,rfl,ey,e,ej,q3⟩) (λ_ s4 p=>(by obtain⟨H',I4,q⟩:=p;exact ⟨σ,H',I4,q⟩)) λ_ _ z=>z
def zld(G:Gd T cf k N sc X)(ha:PE X a (tE X.K cf ca))(hb:PE X b (tE X.K cf cb))(he:PE X e (tE X.K cf ce))(hc:zbr e=Γ)(hr:PSs X rest (tS X.K cf r)):
  PSs X (.Assign [.Subscript a b p] e pos::rest) (tS X.K cf (.setIx ca cb ce r)):=by
 refine PSs.imp (zaB (zoh ha hb he (zeK hc _ _ _)) hr) λE σ H z=>?_;obtain⟨δ,ι,S,Q,hs,hh,w,l⟩:=z;change W (Out.bind _ _) _ at w;simp only[zab] at w;refine tE.run hs hh w λd v ι1 H1 S1 x1 hs1 hh1 r1 w1=>?_;refine tE.run hs1 hh1 w1 λx vx ι2 H2 S2 x2 hs2 hh2 r2 w2=>?_;refine tE.run hs2 hh2 w2 λy vy ι3 H3 S3 x3 hs3 hh3 r3 w3=>?_;cases ed:lPut S3 x y d with
 |none=>rw[ed]at w3;exact w3.elim| some S4=>
  rw[ed]at w3;unfold lPut at ed;split at ed;rename_i i;split at ed;rename_i ds e;obtain⟨p,h1,rfl⟩:=r2.ext x3;obtain⟨b,h2,xs,ha,rx⟩:=hh3.obj _ _ e;rw[h1]at h2;cases h2;cases y with
  |int k=>
   obtain rfl:vy=.int k:=r3;dsimp only[zcq,Ϟ]at ed;cases ej:R.ixN ds.length k with
   |none=>rw[ej]at ed;exact nS ed
   |some j=>rw[ej,Ϟ]at ed;have rv:=r1.ext (x2.trans x3);have xw:=Ext.wr hh3 e h1 (.lst (xs.set j v));exact⟨p,xs,k,j,rfl,ha,rfl,by rw[rx.length];exact ej,δ,ι3,S4,Q,hs3.ext xw,hh3.wr e h1 ed ⟨_,zak,(RVs.set rv j rx).up xw.pre xw.kp⟩,w3,l.up (((x1.trans x2).trans x3).trans xw)⟩
  |_=>exact nS ed
  exact nS ed;exact nS ed
def znz(G:Gd T cf k N sc X)(hf:T.flds.contains f=Γ)(ha:PE X a (tE X.K cf ca))(he:PE X e (tE X.K cf ce))(hc:zbr e=Γ)(hr:PSs X rest (tS X.K cf r)):
  PSs X (.Assign [.Attribute a f p] e pos::rest) (tS X.K cf (.setF ca f ce r)):=by
 refine PSs.imp (zaB (zqG ha he (zeK hc _ _ _)) hr) λE σ H z=>?_;obtain⟨δ,ι,S,Q,hs,hh,w,l⟩:=z;change W (Out.bind _ _) _ at w;simp only[zab] at w;refine tE.run hs hh w λd v ι1 H1 S1 x1 hs1 hh1 r1 w1=>?_;refine tE.run hs1 hh1 w1 λx vx ι2 H2 S2 x2 hs2 hh2 r2 w2=>?_;cases ed:zbJ S2 x f d with
 |none=>rw[ed]at w2;exact w2.elim| some S3=>
  rw[ed]at w2;unfold zbJ at ed;cases x with
  |ref i=>
   obtain⟨b,h1,rfl⟩:=r2;dsimp only at ed;cases eo:S2.get i with
   |none=>rw[eo]at ed;exact nS ed
   |some ob=>
    rw[eo]at ed;cases ob with
    |ins c fs=>obtain⟨b',h2,C,dx,ws,hC,hb,rf⟩:=hh2.obj _ _ eo;rw[h1]at h2;cases h2;dsimp only at ed;split at ed;rename_i c2;obtain⟨_,_,cl,_,na⟩:=G.clsAt (.inl (ne_of hf)) hC;have rv:=r1.ext x2;have xw:=Ext.wr hh2 eo h1 (.ins C dx (putF f v ws));refine⟨b,C,dx,ws,rfl,hb,cl,na f hf,by rw[rf.length];exact c2,δ,ι2,S3,Q,hs2.ext xw,hh2.wr eo h1 ed ⟨C,dx,_,hC,zak,(rf.put f rv).up xw.pre xw.kp⟩,w2,l.up ((x1.trans x2).trans xw)⟩;exact nS ed
    |_=>exact nS ed
  |_=>exact nS ed
def znD(G:Gd T cf k N sc X)(hn:zcj sc N is es=Γ)(h2:2<=is.length)(he:PE X e (tE X.K cf ce))(hx:(∃x q,e=.Name x q)\/∃f as ks q,e=.Call f as ks q)(hr:PSs X rest (tS X.K cf r)):
  PSs X (.Assign [.Tuple es j p] e pos::rest) (tS X.K cf (.asgT is ce r)):=by
 have hs:swapsWithSole [.Tuple es j p] e pos.line X.env=pure Δ:=by rcases hx with⟨x,q,rfl⟩|⟨f,as,ks,q,rfl⟩<;>rfl
 have hw:swappedStores [.Tuple es j p] e X.env=pure Ψ:=by rcases hx with⟨x,q,rfl⟩|⟨f,as,ks,q,rfl⟩<;>rfl
 refine PSs.imp (zaB (zqH he (zmM G hn h2) hs hw) hr) λE σ H z=>?_;obtain⟨δ,ι,S,Q,hs,hh,w,l⟩:=z;change W (Out.bind _ _) _ at w;simp only[zab] at w;refine tE.run hs hh w λd v ι1 H1 S1 x1 hs1 hh1 r1 w1=>?_;obtain⟨δ2,ea,w2⟩:=zax w1;exact⟨δ,ι1,d,δ2,hs1,r1,ea,λσ' hs'=>⟨δ2,ι1,S1,Q,hs',hh1,w2,l.up x1⟩⟩
def znA(hr:PSs X rest (tS X.K cf r)):PSs X (.Return Ψ pos::rest) (tS X.K cf (.retN r)):=by refine PSs.imp (zaB zog hr) λE σ H z=>?_;obtain⟨δ,ι,S,Q,hs,hh,w,l⟩:=z;exact l _ _ _ _ (Ext.refl _ _) hh w .non rfl
end
abbrev zrr:CL->Bool|.comp ..=>Γ|_=>Δ
abbrev isR1:CL->Bool|.rng1 _=>Γ|_=>Δ
abbrev zoX:CL->Bool|.rng1 _=>Γ|.rng2 _ _=>Γ|.enum _=>Γ|_=>Δ
abbrev zki:CL->Bool|.enum _=>Γ|_=>Δ
abbrev zkj:Expr->Bool|.Tuple _ _ _=>Γ|_=>Δ
abbrev zbO:Expr->List Str
 |.Name x _=>[x]|.Tuple es _ _=>es.filterMap λ|.Name x _=>Φ x|_=>Ψ
 |_=>[]
abbrev zpd(sc scope:Scope)(N:List Str)(js:List Nat):Bool:=
 decide (scope.kind=.function)&&scope.names.all (λy=>decide (y.2≠.cell))&&scope.names.all (λy=>decide (y.2≠.local)||decide (scope.names.lookup y.1=Φ .local))
  && scope.names.all (λy=>decide (y.2≠.free)||decide (sc.names.lookup y.1=Φ .cell)||decide (sc.names.lookup y.1=Φ .free))&&js.all (λj=>decide (scope.names.lookup (N.getD j "")=Φ .free)&&decide (j<N.length))
abbrev nmB(x:Str):Bool:=!(x==("__debug__":Str))&&!(x==("__classdict__":Str))&&!(x==("__name__":Str))
abbrev tyB(t:String)(y:Str):Bool:=(t=="bool"&&y==("bool":Str))||(t=="int"&&y==("int":Str))||(t=="str"&&y==("str":Str))||(t=="list"&&y==("list":Str))||(t=="tuple"&&y==("tuple":Str))||(t=="dict"&&y==("dict":Str))
abbrev biB:Bi->Str->Nat->Bool
 |.len,x,n=>x==("len":Str)&&n==1|.abs,x,n=>x==("abs":Str)&&n==1|.max2,x,n=>x==("max":Str)&&n==2|.min2,x,n=>x==("min":Str)&&n==2|.isin _,_,_=>Δ
abbrev zbt:Expr->Option Str|.Name x _=>Φ x|_=>Ψ
abbrev zdI:Expr->Option Const|.Constant c _ _=>Φ c|_=>Ψ
abbrev zlw:Expr->Option (Expr×Operator×Expr)|.BinOp l o r _=>Φ (l,o,r)|_=>Ψ
abbrev rdUn:Expr->Option (UnaryOp×Expr)|.UnaryOp o x _=>Φ (o,x)|_=>Ψ
abbrev zgr:Expr->Option (Expr×List CmpOp×List Expr)|.Compare l os rs _=>Φ (l,os,rs)|_=>Ψ
abbrev zdJ:Expr->Option (BoolOp×List Expr×Pos)|.BoolOp o vs p=>Φ (o,vs,p)|_=>Ψ
abbrev rdIf:Expr->Option (Expr×Expr×Expr)|.IfExp t x y _=>Φ (t,x,y)|_=>Ψ
abbrev zia:Expr->Option (List Expr)|.Tuple xs _ _=>Φ xs|_=>Ψ
abbrev zho:Expr->Option (List Expr)|.List xs _=>Φ xs|_=>Ψ
abbrev zjx:Expr->Option (Expr×Expr)|.Dict [Φ k] [v] _=>Φ (k,v)|_=>Ψ
abbrev zeO:Expr->Bool|.Dict ks vs _=>ks.isEmpty&&vs.isEmpty|_=>Δ
abbrev zib:Expr->Option (Expr×Expr)|.Subscript x i _=>Φ (x,i)|_=>Ψ
abbrev zs5:Expr->Option Expr|.Slice Ψ Ψ (Φ s) _=>Φ s|_=>Ψ
abbrev rdSl:Expr->Option (Option Expr×Option Expr)|.Slice l u st _=>(match st with|none=>Φ (l,u)|some _=>Ψ)|_=>Ψ
abbrev zcz:Expr->Option (Expr×List Expr×List Keyword×Pos)|.Call f as ks p=>Φ (f,as,ks,p)|_=>Ψ
abbrev zcA:Expr->Option (Expr×Str×Pos)|.Attribute o x p=>Φ (o,x,p)|_=>Ψ
abbrev rdLC:Expr->Option (Expr×List Comprehension×Scope×Pos)|.ListComp e gs sc p=>Φ (e,gs,sc,p)|_=>Ψ
section
variable{e l r x y i f:Expr}{xs rs as:List Expr}{ks:List Keyword}{p:Pos}
def zaE(h:zbt e=Φ n):∃p,e=.Name n p:=by cases e<;>first|(cases h;exact⟨_,rfl⟩)|exact nS h
def zdH(h:zdI e=Φ c):∃j p,e=.Constant c j p:=by cases e<;>first|(cases h;exact⟨_,_,rfl⟩)|exact nS h
def zjy(h:zlw e=Φ (l,o,r)):∃p,e=.BinOp l o r p:=by cases e<;>first|(cases h;exact⟨_,rfl⟩)|exact nS h
def zeN(h:rdUn e=Φ (o,x)):∃p,e=.UnaryOp o x p:=by cases e<;>first|(cases h;exact⟨_,rfl⟩)|exact nS h
def zcy{os}(h:zgr e=Φ (l,os,rs)):∃p,e=.Compare l os rs p:=by cases e<;>first|(cases h;exact⟨_,rfl⟩)|exact nS h
def zb7(h:zdJ e=Φ (o,xs,p)):e=.BoolOp o xs p:=by cases e<;>first|(cases h;rfl)|exact nS h
def zlv(h:rdIf e=Φ (l,x,y)):∃p,e=.IfExp l x y p:=by cases e<;>first|(cases h;exact⟨_,rfl⟩)|exact nS h
def zdF(h:zia e=Φ xs):∃j p,e=.Tuple xs j p:=by cases e<;>first|(cases h;exact⟨_,_,rfl⟩)|exact nS h
def zie(h:zho e=Φ xs):∃p,e=.List xs p:=by cases e<;>first|(cases h;exact⟨_,rfl⟩)|exact nS h
def zgq(h:zeO e=Γ):∃p,e=.Dict [] [] p:=by
 cases e with
 |Dict ks vs p=>
  cases ks with
  |cons _ _=>exact nB h
  |nil=>
   cases vs with
   |cons _ _=>exact nB h
   |nil=>exact⟨_,rfl⟩
 |_=>exact nB h
def zdG(h:zib e=Φ (x,i)):∃p,e=.Subscript x i p:=by cases e<;>first|(cases h;exact⟨_,rfl⟩)|exact nS h
def zlu(h:rdSl e=Φ (a,b)):∃p,e=.Slice a b Ψ p:=by
 cases e with
 |Slice l u st p=>cases st with|none=>cases h;exact⟨_,rfl⟩|some _=>exact nS h
 |_=>exact nS h
def zcW(h:zcz e=Φ (f,as,ks,p)):e=.Call f as ks p:=by cases e<;>first|(cases h;rfl)|exact nS h
def zb8(h:zcA e=Φ (x,n,p)):e=.Attribute x n p:=by cases e<;>first|(cases h;rfl)|exact nS h
def zhp(h:rdLC e=Φ (x,gs,sc,p)):e=.ListComp x gs sc p:=by cases e<;>first|(cases h;rfl)|exact nS h
end
def zac{a:Type}{o:Option a}{f:a->Bool}(h:o.any f=Γ):∃x,o=Φ x/\f x=Γ:=by
 cases o with
 |none=>exact nB h
 |some x=>exact⟨x,rfl,h⟩
abbrev one{α:Type}:List α->Option α | [x]=>Φ x|_=>Ψ
def zbp(h:one xs=Φ x):xs=[x]:=by match xs,h with| [y],h=>cases h;rfl
abbrev two{α:Type}:List α->Option (α×α) | [x,y]=>Φ (x,y)|_=>Ψ
def two_inv(h:two xs=Φ (x,y)):xs=[x,y]:=by match xs,h with| [a,b],h=>cases h;rfl
abbrev za6(e:Expr):Option (Str×List Expr):=(zcz e).bind λq=>if q.2.2.1.isEmpty then(zbt q.1).map λx=>(x,q.2.1) else Ψ
def zaO(h:za6 e=Φ (x,as)):∃p2 p,e=.Call (.Name x p2) as [] p:=by
 unfold za6 at h;cases q:zcz e with
 |none=>rw[q]at h;exact nS h
 |some z=>
  obtain⟨f,bs,ks,p⟩:=z;rw[q]at h;dsimp only[Ϟ]at h;split at h;rename_i c;cases q2:zbt f with
  |none=>rw[q2]at h;exact nS h
  |some y=>
   rw[q2]at h;obtain⟨p2,rfl⟩:=zaE q2;cases ks with
   |cons _ _=>exact nB c
   |nil=>cases h;exact⟨p2,p,zcW q⟩
  exact nS h
abbrev zic:Expr->Option (Expr×Expr)
 |.Call (.Name x _) [o] [⟨Φ k,l,_⟩] _=>if x="sorted"/\k="key" then Φ (o,l) else Ψ|_=>Ψ
def zfw(h:zic e=Φ (o,l)):∃p1 p2 p3,e=.Call (.Name "sorted" p1) [o] [⟨Φ "key",l,p2⟩] p3:=by unfold zic at h;split at h;split at h;rename_i c;obtain⟨rfl,rfl⟩:=c;cases h;exact⟨_,_,_,rfl⟩;exact nS h;exact nS h
abbrev zbn(e:Expr):Option (Str×Expr):=(za6 e).bind λq=>(one q.2).map λa=>(q.1,a)
def za0(h:zbn e=Φ (x,a)):∃p2 p,e=.Call (.Name x p2) [a] [] p:=by
 unfold zbn at h;cases q:za6 e with
 |none=>rw[q]at h;exact nS h
 |some z=>
  obtain⟨y,bs⟩:=z;rw[q]at h;dsimp only[Ϟ]at h;cases q2:one bs with
  |none=>rw[q2]at h;exact nS h
  |some b=>rw[q2]at h;cases h;rw[zbp q2]at q;exact zaO q
abbrev zek(e:Expr):Option (Expr×Str×Pos×Expr×Pos):=(zcz e).bind λq=>if q.2.2.1.isEmpty then(zcA q.1).bind λa=>(one q.2.1).map λy=>(a.1,a.2.1,a.2.2,y,q.2.2.2) else Ψ
def zej(h:zek e=Φ (o,x,ap,a,cp)):e=.Call (.Attribute o x ap) [a] [] cp:=by
 unfold zek at h;cases q:zcz e with
 |none=>rw[q]at h;exact nS h
 |some z=>
  obtain⟨f,bs,ks,p⟩:=z;rw[q]at h;dsimp only[Ϟ]at h;split at h;rename_i c;cases q2:zcA f with
  |none=>rw[q2]at h;exact nS h
  |some y=>
   obtain⟨o',x',ap'⟩:=y;rw[q2]at h;dsimp only[Ϟ]at h;cases q3:one bs with
   |none=>rw[q3]at h;exact nS h
   |some b=>
    rw[q3]at h;cases h;cases ks with
    |cons _ _=>exact nB c
    |nil=>rw[zcW q,zb8 q2,zbp q3]
  exact nS h
abbrev zbG(e:Expr):Option (Expr×Str×Pos×List Expr×Pos):=(zcz e).bind λq=>if q.2.2.1.isEmpty then(zcA q.1).map λa=>(a.1,a.2.1,a.2.2,q.2.1,q.2.2.2) else Ψ
def zbf(h:zbG e=Φ (o,x,ap,as,cp)):e=.Call (.Attribute o x ap) as [] cp:=by
 unfold zbG at h;cases q:zcz e with
 |none=>rw[q]at h;exact nS h
 |some z=>
  obtain⟨f,bs,ks,p⟩:=z;rw[q]at h;dsimp only[Ϟ]at h;split at h;rename_i c;cases q2:zcA f with
  |none=>rw[q2]at h;exact nS h
  |some y=>
   obtain⟨o',x',ap'⟩:=y;rw[q2]at h;cases h;cases ks with
   |cons _ _=>exact nB c
   |nil=>rw[zcW q,zb8 q2]
  exact nS h
abbrev fnB(T:Tab)(f j:Nat)(x:Str):Bool:=match T.fns[f]? with|some (y,_,nd)=>(y==x)&&decide (j<=nd)|none=>Δ
abbrev conG(T:Tab)(d:D)(x:Str):Bool:=match T.cons.lookup x with|some d'=>eqC d' d|none=>Δ
abbrev zs3:CE->Bool|.con _=>Γ|_=>Δ
abbrev zgO:CL->Bool|.comp ..=>Γ|_=>Δ
abbrev zkk:CE->Bool|.tst (.con (.bl Γ))=>Γ|_=>Δ
abbrev zoE:CEs->Bool|.cons _ .nil=>Γ|_=>Δ
abbrev zoH:CEs->Bool|.nil=>Γ|_=>Δ
abbrev mtN:Mt->Str->Bool
 |.append,x=>x==("append":Str)|.popAt,x=>x==("pop":Str)|.count,x=>x==("count":Str)
abbrev zsJ:Bi->Option String|.isin t=>Φ t|_=>Ψ
abbrev tgB(sc:Scope)(N:List Str)(g:List Nat)(tg:Expr):Bool:=match zbt tg with|some x=>(match one g with|some i=>(N[i]?==Φ x)&&zfT sc x|none=>Δ)|none=>(zia tg).any λes=>decide (2<=g.length)&&zcj sc N g es
mutual
noncomputable def chkE(T:Tab)(e₀:CE)(N:List Str)(sc:Scope)(e:Expr):Bool:=match e₀ with
 |.loc i=>(zbt e).any λx=>(N[i]?==Φ x)&&zl9 sc x&&nmB x|.con d=>(zdI e).any (λc=>conB d c)||(zbt e).any λx=>isGl sc x&&conG T d x&&nmB x
 |.tst _=>Δ|.bin op a b=>(zlw e).any λq=>decide (q.2.1=op)&&chkE T a N sc q.1&&chkE T b N sc q.2.2|.neg a=>(rdUn e).any λq=>decide (q.1=.USub)&&chkE T a N sc q.2|.nt a=>(rdUn e).any λq=>decide (q.1=.Not)&&chkE T a N sc q.2|.cmp op a b=>(zgr e).any λq=>decide (q.2.1=[op])&&(one q.2.2).any λr=>zaY r&&chkE T a N sc q.1&&chkE T b N sc r|.cmp2 op op' a b c=>(zgr e).any λq=>decide (q.2.1=[op,op'])&&(two q.2.2).any λr=>zaY r.1&&zaY r.2&&chkE T a N sc q.1&&chkE T b N sc r.1&&chkE T c N sc r.2
 |.and a b=>(zdJ e).any λq=>decide (q.1=.And)&&(match q.2.1 with
  |x::y::rest=>chkE T a N sc x&&(if rest.isEmpty then chkE T b N sc y else chkE T b N sc (.BoolOp .And (y::rest) q.2.2))|_=>Δ)
 |.or a b=>(zdJ e).any λq=>decide (q.1=.Or)&&(match q.2.1 with
  |x::y::rest=>chkE T a N sc x&&(if rest.isEmpty then chkE T b N sc y else chkE T b N sc (.BoolOp .Or (y::rest) q.2.2))|_=>Δ)
 |.ite c a b=>(rdIf e).any λq=>chkT T c N sc q.1&&chkE T a N sc q.2.1&&chkE T b N sc q.2.2|.tup es=>(zia e).any λxs=>zc4 T es N sc xs|.lst es=>(zho e).any λxs=>zc4 T es N sc xs|.dnew=>zeO e|.srtK a=>(zic e).any λq=>(((bltB T sc "sorted"&&zan q.1)&&lamB q.2)&&decide (N=T.lam))&&chkE T a N sc q.1|.srtN j a=>(zic e).any λq=>(zbt q.2).any λx=>(((bltB T sc "sorted"&&zan q.1)&&(isGl sc x&&nmB x))&&fnB T j 0 x)&&chkE T a N sc q.1|.sl a n=>(zib e).any λq=>(rdSl q.2).any λs=>s.1.isNone&&s.2.any λz=>(zdI z).any (λc=>conB (.int n) c)&&chkE T a N sc q.1|.dgetI a b c=>(zbG e).any λq=>(two q.2.2.2.1).any λz=>(q.2.1==("get":Str))&&zan z.1&&zan z.2&&za3 q.1&&(q.2.2.1.endLine==q.2.2.2.2.line)&&chkE T a N sc q.1&&chkE T b N sc z.1&&chkE T c N sc z.2|.dsetI a b c=>(zbG e).any λq=>(two q.2.2.2.1).any λz=>(q.2.1==("setdefault":Str))&&zan z.1&&zan z.2&&za3 q.1&&(q.2.2.1.endLine==q.2.2.2.2.line)&&chkE T a N sc q.1&&chkE T b N sc z.1&&chkE T c N sc z.2|.intb a=>(zbn e).any λq=>(q.1==("int":Str))&&bltB T sc q.1&&zan q.2&&chkE T a N sc q.2|.extv a b=>(zek e).any λq=>(q.2.1==("extend":Str))&&zan q.2.2.2.1&&za3 q.1&&(q.2.2.1.endLine==q.2.2.2.2.line)&&chkE T a N sc q.1&&chkE T b N sc q.2.2.2.1|.fld a f=>(zcA e).any λq=>decide (q.2.1=f)&&za3 q.1&&T.flds.contains f&&chkE T a N sc q.1|.mk c f x j es=>(za6 e).any λq=>decide (q.1=x)&&isGl sc x&&nmB x&&decide (T.cls[c]?=Φ x)&&T.inits.contains (c,f,j)&&(!q.2.isEmpty||zoH es)&&zc4 T es N sc q.2|.meth m tb o es=>(zbG e).any λq=>decide (q.2.1=m)&&mtB T m tb&&za3 q.1&&(q.2.2.1.endLine==q.2.2.2.2.line)&&decide (q.2.2.2.1.length<29)&&(!q.2.2.2.1.isEmpty||zoH es)&&chkE T o N sc q.1&&zc4 T es N sc q.2.2.2.1|.callC f x m es=>(zbG e).any λq=>(zbt q.1).any λy=>decide (y=x)&&decide (q.2.1=m)&&isGl sc x&&nmB x&&T.cms.contains (x,m,f)&&(q.2.2.1.endLine==q.2.2.2.2.line)&&decide (q.2.2.2.1.length<29)&&!q.2.2.2.1.isEmpty&&zc4 T es N sc q.2.2.2.1|.clr a=>(zbG e).any λq=>(q.2.1==("clear":Str))&&za3 q.1&&(q.2.2.1.endLine==q.2.2.2.2.line)&&q.2.2.2.1.isEmpty&&chkE T a N sc q.1|.ix a b=>(zib e).any λq=>ze0 q.2&&chkE T a N sc q.1&&chkE T b N sc q.2|.call f j es=>(za6 e).any λq=>isGl sc q.1&&nmB q.1&&fnB T f j q.1&&(!q.2.isEmpty||zoH es)&&zc4 T es N sc q.2|.callW f j es=>(za6 e).any λq=>isGl sc q.1&&nmB q.1&&fnB T f j q.1&&!q.2.isEmpty&&zc4 T es N sc q.2
 |.bi b es=>(za6 e).any λq=>bltB T sc q.1&&nmB q.1&&(match zsJ b with
  |some t=>(two q.2).any λz=>(zbt z.2).any λy=>(q.1==("isinstance":Str))&&tyB t y&&bltB T sc y&&nmB y&&zoE es&&zc4 T es N sc [z.1]|none=>biB b q.1 q.2.length&&!q.2.isEmpty&&zc4 T es N sc q.2)
 |.mt m o es=>(zek e).any λq=>mtN m q.2.1&&za3 q.1&&(q.2.2.1.endLine==q.2.2.2.2.line)&&zoE es&&chkE T o N sc q.1&&zc4 T es N sc [q.2.2.2.1]
 |.mkL l=>if zgO l then((rdLC e).isSome&&chkL T l N sc e)
  else(zbn e).any λq=>(q.1==("list":Str))&&bltB T sc q.1&&zan q.2&&(!(zoX l)||isR1 l)&&chkL T l N sc q.2
 |.all l=>(zbn e).any λq=>(q.1==("all":Str))&&bltB T sc q.1&&zan q.2&&!(zoX l)&&chkL T l N sc q.2|.srt a=>(zbn e).any λq=>(q.1==("sorted":Str))&&bltB T sc q.1&&zan q.2&&chkE T a N sc q.2
noncomputable def zc4(T:Tab)(e₀:CEs)(N:List Str)(sc:Scope)(es:List Expr):Bool:=match e₀ with|.nil=>es.isEmpty|.cons a r=>(match es with | []=>Δ|e::es=>zan e&&chkE T a N sc e&&zc4 T r N sc es)
noncomputable def chkT(T:Tab)(e₀:CE)(N:List Str)(sc:Scope)(e:Expr):Bool:=match e₀ with
 |.cmp op a b=>(zgr e).any λq=>decide (q.2.1=[op])&&(one q.2.2).any λr=>zaY r&&chkE T a N sc q.1&&chkE T b N sc r|.cmp2 op op' a b c=>(zgr e).any λq=>decide (q.2.1=[op,op'])&&(two q.2.2).any λr=>zaY r.1&&zaY r.2&&chkE T a N sc q.1&&chkE T b N sc r.1&&chkE T c N sc r.2|.nt a=>(rdUn e).any λq=>decide (q.1=.Not)&&chkT T a N sc q.2
 |.and a b=>(zdJ e).any λq=>decide (q.1=.And)&&(match q.2.1 with
  |x::y::rest=>chkT T a N sc x&&(if rest.isEmpty then chkT T b N sc y else chkT T b N sc (.BoolOp .And (y::rest) q.2.2))|_=>Δ)
 |.or a b=>(zdJ e).any λq=>decide (q.1=.Or)&&(match q.2.1 with
  |x::y::rest=>chkT T a N sc x&&(if rest.isEmpty then chkT T b N sc y else chkT T b N sc (.BoolOp .Or (y::rest) q.2.2))|_=>Δ)
 |.tst a=>zht e&&chkE T a N sc e|_=>Δ
noncomputable def chkL(T:Tab):CL->List Str->Scope->Expr->Bool
 |.val a,N,sc,e=>zaY e&&chkE T a N sc e|.rng1 a,N,sc,e=>(zbn e).any λq=>(q.1==("range":Str))&&bltB T sc q.1&&zan q.2&&chkE T a N sc q.2|.rng2 a b,N,sc,e=>(za6 e).any λq=>(two q.2).any λz=>(q.1==("range":Str))&&bltB T sc q.1&&zan z.1&&zan z.2&&chkE T a N sc z.1&&chkE T b N sc z.2|.enum a,N,sc,e=>(zbn e).any λq=>(q.1==("enumerate":Str))&&bltB T sc q.1&&zan q.2&&chkE T a N sc q.2
 |.comp nt js g it c e,N,sc,ex=>(rdLC ex).any λq=>(one q.2.1).any λz=>decide (z.is_async=0)&&zpd sc q.2.2.1 N js&&(zaY z.iter&&(zkj z.target||!(zki it)))&&chkL T it N sc z.iter&&decide ((zbO z.target).length=nt)&&decide ((capN N (zbO z.target) js).Nodup/\capN N (zbO z.target) js≠T.lam)
  && tgB q.2.2.1 (capN N (zbO z.target) js) g z.target
  && (if z.ifs.isEmpty then zkk c else(one z.ifs).any λt=>chkT T c (capN N (zbO z.target) js) q.2.2.1 t)
  && chkE T e (capN N (zbO z.target) js) q.2.2.1 q.1
end
abbrev zif:Stmt->Option (Expr×Expr×Pos)|.Assign tgs v p=>(one tgs).map λt=>(t,v,p)|_=>Ψ
abbrev zqx:Stmt->Option (Expr×List Stmt×List Stmt)|.If e a b _=>Φ (e,a,b)|_=>Ψ
abbrev zn6:Stmt->Option (Expr×Expr×List Stmt)|.For tg it b els _=>if els.isEmpty then Φ (tg,it,b) else Ψ|_=>Ψ
abbrev zn5:Stmt->Option Expr|.Return v _=>v|_=>Ψ
abbrev zqy:Stmt->Option Expr|.Expr v _=>Φ v|_=>Ψ
abbrev zmS:Stmt->Bool|.Return Ψ _=>Γ|_=>Δ
section
variable{s:Stmt}{e v tg it:Expr}{a b:List Stmt}{p:Pos}
def zcB(h:zif s=Φ (tg,v,p)):s=.Assign [tg] v p:=by
 cases s with
 |Assign tgs v p=>
  simp only[zif]at h;cases q:one tgs with
  |none=>rw[q]at h;exact nS h
  |some t=>rw[q]at h;cases h;rw[zbp q]
 |_=>exact nS h
def zju(h:zqx s=Φ (e,a,b)):∃p,s=.If e a b p:=by cases s<;>first|(cases h;exact⟨_,rfl⟩)|exact nS h
def zjv(h:zn6 s=Φ (tg,it,b)):∃p,s=.For tg it b [] p:=by
 cases s with
 |For tg it b els p=>simp only[zn6]at h;cases els with|nil=>cases h;exact⟨_,rfl⟩|cons _ _=>exact nS h
 |_=>exact nS h
def zjt(h:zn5 s=Φ e):∃p,s=.Return (Φ e) p:=by cases s with|Return v p=>simp only[zn5]at h;subst h;exact⟨_,rfl⟩|_=>exact nS h
def zjw(h:zqy s=Φ e):∃p,s=.Expr e p:=by cases s<;>first|(cases h;exact⟨_,rfl⟩)|exact nS h
def zid(h:zmS s=Γ):∃p,s=.Return Ψ p:=by
 cases s with
 |Return v p=>cases v with|none=>exact⟨_,rfl⟩|some _=>exact nB h
 |_=>exact nB h
end
abbrev chkS(T:Tab)(e₀:CS)(N:List Str)(sc:Scope)(st:List Stmt):Bool:=match e₀ with|.nil=>st.isEmpty|.stop=>Γ|.asg i e r=>(match st with | []=>Δ|s::rest=>(zif s).any λq=>(zbt q.1).any λx=>(N[i]?==Φ x)&&zfT sc x&&chkE T e N sc q.2.1&&chkS T r N sc rest)|.asgT g e r=>(match st with | []=>Δ|s::rest=>(zif s).any λq=>(zia q.1).any λes=>((zbt q.2.1).isSome||(za6 q.2.1).isSome)&&decide (2<=g.length)&&zcj sc N g es&&chkE T e N sc q.2.1&&chkS T r N sc rest)|.setF a f e r=>(match st with | []=>Δ|s::rest=>(zif s).any λq=>(zcA q.1).any λz=>decide (z.2.1=f)&&T.flds.contains f&&zbr q.2.1&&chkE T a N sc z.1&&chkE T e N sc q.2.1&&chkS T r N sc rest)|.setIx a b e r=>(match st with | []=>Δ|s::rest=>(zif s).any λq=>(zib q.1).any λz=>zbr q.2.1&&chkE T a N sc z.1&&chkE T b N sc z.2&&chkE T e N sc q.2.1&&chkS T r N sc rest)|.ifS c t u r=>(match st with | []=>Δ|s::rest=>(zqx s).any λq=>chkT T c N sc q.1&&chkS T t N sc q.2.1&&chkS T u N sc q.2.2&&chkS T r N sc rest)|.forS g l b r=>(match st with | []=>Δ|s::rest=>(zn6 s).any λq=>zaY q.2.1&&chkL T l N sc q.2.1&&chkS T b N sc q.2.2&&chkS T r N sc rest&&(tgB sc N g q.1&&(zkj q.1||!(zki l))))|.retN r=>(match st with | []=>Δ|s::rest=>zmS s&&chkS T r N sc rest)|.ret e r=>(match st with | []=>Δ|s::rest=>(zn5 s).any λv=>chkE T e N sc v&&chkS T r N sc rest)|.expr e r=>(match st with | []=>Δ|s::rest=>(zqy s).any λv=>zbr v&&chkE T e N sc v&&chkS T r N sc rest)
end R
section
set_option maxHeartbeats 8000000
namespace R
open PySem PySem.Spec PyProof.Rows L2
variable[Mks]
section
variable{T:Tab}{cf:CF}{k:Nat}{N:List Str}{sc:Scope}{X:Cx}
def zbW(env)(x):∀{names:List (Str×NameKind)}{k0:NameKind},names.lookup x=Φ k0->k0≠.free->(names.map (zci env)).lookup x=Φ k0
 | [],_,h,_=>by simp at h| y::r,k0,h,hk=>by
  rw[Μ];have f1:=zdE env y;have f2:=zdD env y;obtain⟨n,k1⟩:=y;generalize hz:zci env (n,k1)=z at *;obtain⟨zn,zk⟩:=z;simp only at f1 f2;subst f1;rw[ϓ]at h⊢;cases hx:x==zn with
  |true=>rw[hx]at h;have e:k1=k0:=Option.some.inj h;subst e;rcases f2 with f2|⟨q,_⟩;show Φ zk=_;rw[f2];exact absurd q hk
  |false=>rw[hx]at h;exact zbW env x h hk
def zhT(G:Gd T cf k N sc X)(h:zpd sc scope N js=Γ):CompOk X.env.scope scope X.N js:=by unfold zpd at h;simp only[Ξ,all_eq_true,decide_eq_true_eq,Ϝ]at h;obtain⟨⟨⟨⟨h1,h2⟩,h3⟩,h4⟩,h5⟩:=h;refine⟨h1,h2,λy hy e=>?_,λy hy e=>?_,λj hj=>?_⟩;rcases h3 y hy with z|z;exact absurd e z;exact z;rcases h4 y hy with (z|z)|z;exact absurd e z;exact .inl (G.cell _ z);exact(G.free _ z).symm;rw[G.nm];exact h5 j hj
def zky(G:Gd T cf k N sc X)(ok:CompOk X.env.scope scope X.N js)(hn:(capN N tgs js).Nodup/\capN N tgs js≠T.lam)(cl)(C)(fp)(s)(H)(pn):
  Gd T cf k (capN N tgs js) scope (zaz X (capN X.N tgs js) scope cl C fp s H pn):=by
 have names:(zaz X (capN X.N tgs js) scope cl C fp s H pn).env.scope.names=scope.names.map (zci X.env):=zbE scope X.env;have noc:∀x,scope.names.lookup x≠Φ .cell:=λx e=>ok.nocell _ (PySem.mem_of_lookup e) rfl;refine⟨by rw[<-G.nm],hn.1,λx e=>?_,λx e=>absurd e (noc x),λx e=>?_,λx e=>?_,.inr noc,G.calm,rfl,G.room',G.tab,λz=>absurd z hn.2⟩;rw[names];exact zbW _ _ e (by decide);rw[names];exact zbF _ _ _ e;rw[names];exact zbW _ _ e (by decide)
def zcI(h:nmB x=Γ):(x==("__debug__":Str))=Δ/\(x==("__classdict__":Str))=Δ/\x≠("__name__":Str):=by unfold nmB at h;simp only[Ξ,not_eq_true']at h;exact⟨h.1.1,h.1.2,λe=>by rw[e]at h;simp at h⟩
def zpI(h:tyB t y=Γ):t∈["bool","int","str","list","tuple","dict"]/\bootBuiltins y=Φ (.type t):=by unfold tyB at h;simp only[Ϝ,Ξ,beq_iff_eq]at h;rcases h with ((((⟨rfl,rfl⟩|⟨rfl,rfl⟩)|⟨rfl,rfl⟩)|⟨rfl,rfl⟩)|⟨rfl,rfl⟩)|⟨rfl,rfl⟩;exact⟨by simp,zpl⟩;exact⟨by simp,zne⟩;exact⟨by simp,zrM⟩;exact⟨by simp,zg1⟩;exact⟨by simp,zms⟩;exact⟨by simp,zpk⟩
def zkz(h:fnB T f j x=Γ):∃ps nd,T.fns[f]?=Φ (x,ps,nd)/\j<=nd:=by
 unfold fnB at h;cases e:T.fns[f]? with
 |none=>rw[e]at h;exact nB h
 |some q=>obtain⟨y,ps,nd⟩:=q;rw[e]at h;simp only[Ξ,beq_iff_eq,decide_eq_true_eq]at h;obtain⟨rfl,h2⟩:=h;exact⟨ps,nd,rfl,h2⟩
def zaF:∀{ces:CEs}{N:List Str}{sc:Scope}{es:List Expr},zc4 T ces N sc es=Γ->es.all zan=Γ
 |.nil,N,sc,es,h=>by obtain rfl:=isEmpty_iff.mp h;rfl| .cons a r,N,sc,es,h=>by
  cases es with
  |nil=>exact nB h
  |cons e es=>replace h:=(Ξ _ _).mp h;simp[((Ξ _ _).mp h.1).1,zaF h.2]
def zhV(h:zoE es=Γ):∃a,es=.cons a .nil:=by
 cases es with
 |nil=>exact nB h
 |cons a r=>cases r with|nil=>exact⟨a,rfl⟩|cons _ _=>exact nB h
def ziQ(G:Gd T cf k N sc X)(h:biB b x n=Γ):∃id,zbC X (.builtin id) (rB X.K λS ds=>R.bi S b ds)/\bootBuiltins x=Φ (.builtin id):=by cases b with|len=>simp only[biB,Ξ,beq_iff_eq]at h;rw[h.1];exact⟨_,zrg,zrP⟩|abs=>simp only[biB,Ξ,beq_iff_eq]at h;rw[h.1];exact⟨_,zrX,zrR⟩|max2=>simp only[biB,Ξ,beq_iff_eq]at h;rw[h.1];exact⟨_,zra G.calm,zrO⟩|min2=>simp only[biB,Ξ,beq_iff_eq]at h;rw[h.1];exact⟨_,zq8 G.calm,zrN⟩|isin t=>simp[biB]at h
abbrev LOk(T:Tab)(cf:CF)(k:Nat)(cl:CL)(X:Cx)(e:Expr):Prop:=(zoX cl=Δ->PE X e (tL X.K cf cl))/\(zrr cl=Γ->PE X e (tLt X.K cf cl))/\(∀tg,(zkj tg||!(zki cl))=Γ->PI X tg e (tI X.K cf cl))/\
 ∀a,cl=.rng1 a->∃a' p2 p,e=.Call (.Name "range" p2) [a'] [] p/\(Gl X "range"/\X.mg "range"=Ψ)/\PE X a' (tE X.K cf a)/\zan a'=Γ
abbrev EsOk(cf:CF)(ces:CEs)(X:Cx)(es:List Expr):Prop:=PA X es (tAs X.K cf ces)/\∀a r e es',ces=.cons a r->es=e::es'->PE X e (tE X.K cf a)
def zns(G:Gd T cf k N sc X)(h:tgB sc N g tg=Γ):PG X tg (tG X.K g):=by unfold tgB at h;split at h;rename_i x q;obtain⟨p,rfl⟩:=zaE q;split at h;rename_i i q2;rw[zbp q2];simp only[Ξ,beq_iff_eq]at h;exact znJ G h.1 h.2;exact nB h;replace h:=zac h;obtain⟨es,q,h⟩:=h;obtain⟨j,p,rfl⟩:=zdF q;simp only[Ξ,decide_eq_true_eq]at h;exact zmM G h.2 h.1
def zhb(h:zkk c=Γ):PTs X [] (tT X.K cf c):=by
 have hc:c=.tst (.con (.bl Γ)):=by
  cases c with
  |tst a=>
   cases a with
   |con d=>
    cases d with
    |bl b=>cases b with|true=>rfl|false=>exact nB h
    |_=>exact nB h
   |_=>exact nB h
  |_=>exact nB h
 subst hc;intro pins s' σ H' Qv I q;refine zoe pins s' σ H' Qv I ?_;obtain⟨δ,ι,S,Q,hs,hh,w,q⟩:=q;exact q _ _ ⟨ι,S,Ext.refl _ _,hh,w⟩
def zbe{x y:Str}(h:(x==y)=Γ):x=y:=by simpa using h
mutual
theorem zae:∀(ce:CE){N:List Str}{sc:Scope}{e:Expr}{X:Cx},Gd T cf k N sc X->chkE T ce N sc e=Γ->PE X e (tE X.K cf ce)
 |.loc i,N,sc,e,X,G,h=>by replace h:=zac h;obtain⟨x,q,h⟩:=h;obtain⟨p,rfl⟩:=zaE q;simp only[Ξ,beq_iff_eq]at h;obtain⟨h1,h2,_⟩:=zcI h.2;exact zqd G h.1.1 h.1.2 h1 h2| .con d,N,sc,e,X,G,h=>by replace h:=(Ϝ _ _).mp h;rcases h with h|h;replace h:=zac h;obtain⟨c,q,h⟩:=h;obtain⟨j,p,rfl⟩:=zdH q;exact zmO h;replace h:=zac h;obtain⟨x,q,h⟩:=h;obtain⟨p,rfl⟩:=zaE q;simp only[Ξ]at h;obtain⟨h1,h2,_⟩:=zcI h.2;have h3:=h.1.2;unfold conG at h3;split at h3;rename_i d' e';exact znS G h.1.1 e' h3 h1;exact nB h3
 |.tst a,N,sc,e,X,G,h=>by exact nB h| .bin op a b,N,sc,e,X,G,h=>by replace h:=zac h;obtain⟨⟨l,o,r⟩,q,h⟩:=h;obtain⟨p,rfl⟩:=zjy q;simp only[Ξ,decide_eq_true_eq]at h;obtain⟨⟨rfl,h1⟩,h2⟩:=h;exact zqi (zae a G h1) (zae b G h2)| .neg a,N,sc,e,X,G,h=>by replace h:=zac h;obtain⟨⟨o,x⟩,q,h⟩:=h;obtain⟨p,rfl⟩:=zeN q;simp only[Ξ,decide_eq_true_eq]at h;obtain⟨rfl,h1⟩:=h;exact zp9 (zae a G h1)| .nt a,N,sc,e,X,G,h=>by replace h:=zac h;obtain⟨⟨o,x⟩,q,h⟩:=h;obtain⟨p,rfl⟩:=zeN q;simp only[Ξ,decide_eq_true_eq]at h;obtain⟨rfl,h1⟩:=h;exact zsi (zae a G h1)| .cmp op a b,N,sc,e,X,G,h=>by replace h:=zac h;obtain⟨⟨l,os,rs⟩,q,h⟩:=h;obtain⟨p,rfl⟩:=zcy q;rw[Ξ,decide_eq_true_eq]at h;obtain⟨e1,h⟩:=h;replace h:=zac h;obtain⟨r,q2,h⟩:=h;cases zbp q2;cases e1;simp only[Ξ]at h;exact zqg G (zae a G h.1.2) (zae b G h.2) h.1.1| .cmp2 op op' a b c,N,sc,e,X,G,h=>by replace h:=zac h;obtain⟨⟨l,os,rs⟩,q,h⟩:=h;obtain⟨p,rfl⟩:=zcy q;rw[Ξ,decide_eq_true_eq]at h;obtain⟨e1,h⟩:=h;replace h:=zac h;obtain⟨⟨r,r'⟩,q2,h⟩:=h;cases two_inv q2;cases e1;simp only[Ξ]at h;obtain⟨⟨⟨⟨h1,h2⟩,h3⟩,h4⟩,h5⟩:=h;exact znV G (zae a G h3) (zae b G h4) (zae c G h5) h1 h2| .and a b,N,sc,e,X,G,h=>by replace h:=zac h;obtain⟨⟨o,vs,p⟩,q,h⟩:=h;cases zb7 q;rw[Ξ,decide_eq_true_eq]at h;obtain⟨e1,h⟩:=h;cases e1;dsimp only at h;split at h;rename_i x y rest;rw[Ξ]at h;obtain⟨h1,h2⟩:=h;split at h2;rename_i c;cases isEmpty_iff.mp c;exact zmP (zae a G h1) (zmW (zae b G h2));exact zmP (zae a G h1) (zae b G h2);exact nB h
 |.or a b,N,sc,e,X,G,h=>by replace h:=zac h;obtain⟨⟨o,vs,p⟩,q,h⟩:=h;cases zb7 q;rw[Ξ,decide_eq_true_eq]at h;obtain⟨e1,h⟩:=h;cases e1;dsimp only at h;split at h;rename_i x y rest;rw[Ξ]at h;obtain⟨h1,h2⟩:=h;split at h2;rename_i c;cases isEmpty_iff.mp c;exact zp8 (zae a G h1) (zmW (zae b G h2));exact zp8 (zae a G h1) (zae b G h2);exact nB h
 |.ite c a b,N,sc,e,X,G,h=>by replace h:=zac h;obtain⟨⟨t,x,y⟩,q,h⟩:=h;obtain⟨p,rfl⟩:=zlv q;simp only[Ξ]at h;exact zqe (za1 c G h.1.1).1 (zae a G h.1.2) (zae b G h.2)| .tup es,N,sc,e,X,G,h=>by replace h:=zac h;obtain⟨xs,q,h⟩:=h;obtain⟨j,p,rfl⟩:=zdF q;exact zp6 (zaV es G h).1| .lst es,N,sc,e,X,G,h=>by replace h:=zac h;obtain⟨xs,q,h⟩:=h;obtain⟨p,rfl⟩:=zie q;exact zqc (zaV es G h).1| .dnew,N,sc,e,X,G,h=>by obtain⟨p,rfl⟩:=zgq h;exact znU| .dgetI a b c,N,sc,e,X,G,h=>by replace h:=zac h;obtain⟨⟨oe,x,ap,as,cp⟩,q,h⟩:=h;cases zbf q;replace h:=zac h;obtain⟨⟨e1,e2⟩,q2,h⟩:=h;cases two_inv q2;simp only[Ξ]at h;obtain⟨⟨⟨⟨⟨⟨⟨hx,h1⟩,h2⟩,h3⟩,h4⟩,h5⟩,h6⟩,h7⟩:=h;cases zbe hx;exact zlj G (zae a G h5) (zae b G h6) (zae c G h7) h1 h2 h3 h4| .dsetI a b c,N,sc,e,X,G,h=>by replace h:=zac h;obtain⟨⟨oe,x,ap,as,cp⟩,q,h⟩:=h;cases zbf q;replace h:=zac h;obtain⟨⟨e1,e2⟩,q2,h⟩:=h;cases two_inv q2;simp only[Ξ]at h;obtain⟨⟨⟨⟨⟨⟨⟨hx,h1⟩,h2⟩,h3⟩,h4⟩,h5⟩,h6⟩,h7⟩:=h;cases zbe hx;exact zli G (zae a G h5) (zae b G h6) (zae c G h7) h1 h2 h3 h4| .intb a,N,sc,e,X,G,h=>by replace h:=zac h;obtain⟨⟨x,e1⟩,q,h⟩:=h;obtain⟨p2,p,rfl⟩:=za0 q;simp only[Ξ]at h;obtain⟨⟨⟨hx,h1⟩,h2⟩,h3⟩:=h;cases zbe hx;exact znR (zbm G h1) (zae a G h3) h2| .extv a b,N,sc,e,X,G,h=>by replace h:=zac h;obtain⟨⟨oe,x,ap,e1,cp⟩,q,h⟩:=h;cases zej q;simp only[Ξ]at h;obtain⟨⟨⟨⟨⟨hx,h1⟩,h2⟩,h3⟩,h4⟩,h5⟩:=h;cases zbe hx;exact znT (zae a G h4) (zae b G h5) h1 h2 h3| .ix a b,N,sc,e,X,G,h=>by replace h:=zac h;obtain⟨⟨x,i⟩,q,h⟩:=h;obtain⟨p,rfl⟩:=zdG q;simp only[Ξ]at h;exact zsk (zae a G h.1.2) (zae b G h.2) h.1.1| .fld a f,N,sc,e,X,G,h=>by replace h:=zac h;obtain⟨⟨o,f',p⟩,q,h⟩:=h;cases zb8 q;simp only[Ξ,decide_eq_true_eq]at h;obtain⟨⟨⟨rfl,h2⟩,h3⟩,h4⟩:=h;exact zqf G (zae a G h4) h2 h3| .mk c f x j es,N,sc,e,X,G,h=>by
  replace h:=zac h;obtain⟨⟨x',args⟩,q,h⟩:=h;obtain⟨p2,p,rfl⟩:=zaO q;simp only[Ξ,Ϝ,decide_eq_true_eq]at h;obtain⟨⟨⟨⟨⟨⟨rfl,h1⟩,h2⟩,h3⟩,h4⟩,h5⟩,h6⟩:=h;obtain⟨n1,n2,n3⟩:=zcI h2;have ha:=(zaV es G h6).1;cases args with
  |nil=>
   have:es=.nil:=by cases es with|nil=>rfl|cons _ _=>rcases h5 with z|z<;>exact nB z
   rw[this];exact zqb G h4 h3 h1 n1
  |cons a as=>exact zsj G h4 h3 h1 n1 ha (zaF h6)
 |.meth m tb o es,N,sc,e,X,G,h=>by
  replace h:=zac h;obtain⟨⟨oe,m',ap,args,cp⟩,q,h⟩:=h;cases zbf q;simp only[Ξ,Ϝ,decide_eq_true_eq]at h;obtain⟨⟨⟨⟨⟨⟨⟨rfl,h1⟩,h2⟩,h3⟩,h4⟩,h5⟩,h6⟩,h7⟩:=h;have ho:=zae o G h6;have ha:=(zaV es G h7).1;cases args with
  |nil=>
   have:es=.nil:=by cases es with|nil=>rfl|cons _ _=>rcases h5 with z|z<;>exact nB z
   rw[this];exact zlh G h1 ho h2 h3
  |cons a as=>exact znP G h1 ho ha (zaF h7) h2 h3 h4
 |.callC f x m es,N,sc,e,X,G,h=>by
  replace h:=zac h;obtain⟨⟨oe,m',ap,args,cp⟩,q,h⟩:=h;cases zbf q;replace h:=zac h;obtain⟨y,q3,h⟩:=h;obtain⟨p3,rfl⟩:=zaE q3;simp only[Ξ,decide_eq_true_eq]at h;obtain⟨⟨⟨⟨⟨⟨⟨⟨rfl,rfl⟩,h1⟩,h2⟩,h3⟩,h4⟩,h5⟩,h6⟩,h7⟩:=h;cases args with
  |nil=>exact nB h6
  |cons a as=>exact zll G h3 h1 (zcI h2).1 rfl (zaV es G h7).1 (zaF h7) h5 h4
 |.clr a,N,sc,e,X,G,h=>by replace h:=zac h;obtain⟨⟨oe,m',ap,args,cp⟩,q,h⟩:=h;cases zbf q;simp only[Ξ,isEmpty_iff]at h;obtain⟨⟨⟨⟨h0,h1⟩,h2⟩,rfl⟩,h4⟩:=h;cases zbe h0;exact zqh (zae a G h4) h1 h2| .call f j es,N,sc,e,X,G,h=>by
  replace h:=zac h;obtain⟨⟨x,args⟩,q,h⟩:=h;obtain⟨p2,p,rfl⟩:=zaO q;simp only[Ξ,Ϝ]at h;obtain⟨⟨⟨⟨h1,h2⟩,h3⟩,h4⟩,h5⟩:=h;obtain⟨n1,n2,n3⟩:=zcI h2;obtain⟨ps,nd,hf,hj⟩:=zkz h3;have ha:=(zaV es G h5).1;cases args with
  |nil=>
   have:es=.nil:=by cases es with|nil=>rfl|cons _ _=>rcases h4 with z|z<;>exact nB z
   rw[this];exact zlm G hf hj h1 n1
  |cons a as=>exact znW G hf hj h1 n1 ha (zaF h5)
 |.callW f j es,N,sc,e,X,G,h=>by
  replace h:=zac h;obtain⟨⟨x,args⟩,q,h⟩:=h;obtain⟨p2,p,rfl⟩:=zaO q;simp only[Ξ]at h;obtain⟨⟨⟨⟨h1,h2⟩,h3⟩,h4⟩,h5⟩:=h;obtain⟨n1,n2,n3⟩:=zcI h2;obtain⟨ps,nd,hf,hj⟩:=zkz h3;have ha:=(zaV es G h5).1;cases args with
  |nil=>exact nB h4
  |cons a as=>exact zlk G hf hj h1 n1 ha (zaF h5)
 |.bi b es,N,sc,e,X,G,h=>by
  replace h:=zac h;obtain⟨⟨x,args⟩,q,h⟩:=h;obtain⟨p2,p,rfl⟩:=zaO q;rw[Ξ,Ξ]at h;obtain⟨⟨h1,h2⟩,h3⟩:=h;obtain⟨n1,n2,n3⟩:=zcI h2;split at h3;rename_i t qt;replace h3:=zac h3;obtain⟨⟨e1,e2⟩,q2,h3⟩:=h3;cases two_inv q2;replace h3:=zac h3;obtain⟨y,q3,h3⟩:=h3;obtain⟨p3,rfl⟩:=zaE q3;simp only[Ξ]at h3;obtain⟨⟨⟨⟨⟨hx,h4⟩,h5⟩,h6⟩,h7⟩,h8⟩:=h3;cases zbe hx;obtain⟨m1,m2,m3⟩:=zcI h6;obtain⟨t1,t2⟩:=zpI h4;obtain⟨a,ea⟩:=zhV h7;have he:=(zaV es G h8).2 a .nil e1 [] ea rfl;have hst:=zaF h8;have eb:b=.isin t:=by cases b with|isin _=>cases qt;rfl|_=>exact nS qt
  rw[ea,eb];exact znQ G (zbm G h1) (zbm G h5) t2 t1 m3 m1 he (by simpa using hst);rw[Ξ,Ξ]at h3;cases args with
  |nil=>cases h3.1.2
  |cons a as=>obtain⟨id,hc,hv⟩:=ziQ G h3.1.1;exact zsl hc (zbm G h1) hv (zaV es G h3.2).1 (zaF h3.2) n3 n1
 |.mt m o es,N,sc,e,X,G,h=>by
  replace h:=zac h;obtain⟨⟨oe,x,ap,e1,cp⟩,q,h⟩:=h;cases zej q;simp only[Ξ]at h;obtain⟨⟨⟨⟨⟨h1,h2⟩,h3⟩,h4⟩,h5⟩,h6⟩:=h;obtain⟨a,ea⟩:=zhV h4;have he:=(zaV es G h6).2 a .nil e1 [] ea rfl;have hst:zan e1=Γ:=by simpa using zaF h6
  rw[ea];cases m with| append=>cases zbe h1;exact znN PySem.F.slot_list_append PySem.F.type_list_append zk1 (zae o G h5) he hst h2 h3| popAt=>cases zbe h1;exact znN PySem.F.slot_list_pop PySem.F.type_list_pop zlD (zae o G h5) he hst h2 h3| count=>cases zbe h1;exact znN PySem.F.slot_list_count PySem.F.type_list_count zmo (zae o G h5) he hst h2 h3
 |.mkL l,N,sc,e,X,G,h=>by
  replace h:ite (zgO l=Γ) _ _=Γ:=h;split at h;rename_i c;have ht:zrr l=Γ:=by cases l with|comp=>rfl|_=>exact nB c
  exact PE.imp ((zc3 l G ((Ξ _ _).mp h).2).2.1 ht) λσ H Qv q=>zjU q;replace h:=zac h;obtain⟨⟨x,e1⟩,q,h⟩:=h;obtain⟨p2,p,rfl⟩:=za0 q;simp only[Ξ,Ϝ,not_eq_true']at h;obtain⟨⟨⟨⟨hx,h1⟩,h2⟩,h3⟩,h4⟩:=h;cases zbe hx;have hl:=zc3 l G h4;rcases h3 with h3|h3;exact zqa G (zbm G h1) (hl.1 h3) h2;have:∃a,l=.rng1 a:=by cases l with|rng1 a=>exact⟨a,rfl⟩|_=>exact nB h3
  obtain⟨a,ea⟩:=this;obtain⟨a',p3,p4,rfl,hr,ha,hs⟩:=hl.2.2.2 a ea;rw[ea];exact znO G (zbm G h1) hr ha hs
 |.all l,N,sc,e,X,G,h=>by replace h:=zac h;obtain⟨⟨x,e1⟩,q,h⟩:=h;obtain⟨p2,p,rfl⟩:=za0 q;simp only[Ξ,not_eq_true']at h;obtain⟨⟨⟨⟨hx,h1⟩,h2⟩,h3⟩,h4⟩:=h;cases zbe hx;exact zqj G (zbm G h1) ((zc3 l G h4).1 h3) h2| .srtK a,N,sc,e,X,G,h=>by replace h:=zac h;obtain⟨⟨o,le⟩,q,h⟩:=h;obtain⟨p1,p2,p3,rfl⟩:=zfw q;simp only[Ξ,decide_eq_true_eq]at h;obtain⟨⟨⟨⟨h1,h2⟩,h3⟩,h4⟩,h5⟩:=h;exact znM G h4 (zbm G h1) (zae a G h5) h2 h3| .srtN j a,N,sc,e,X,G,h=>by replace h:=zac h;obtain⟨⟨o,le⟩,q,h⟩:=h;obtain⟨p1,p2,p3,rfl⟩:=zfw q;replace h:=zac h;obtain⟨x,q2,h⟩:=h;obtain⟨p4,rfl⟩:=zaE q2;simp only[Ξ]at h;obtain⟨⟨⟨⟨h1,h2⟩,h3,h4⟩,h5⟩,h6⟩:=h;obtain⟨n1,n2,_⟩:=zcI h4;obtain⟨ps,nd,hf,hj⟩:=zkz h5;exact znL G hf h3 n1 (zbm G h1) (zae a G h6) h2| .sl a n,N,sc,e,X,G,h=>by
  replace h:=zac h;obtain⟨⟨x,i⟩,q,h⟩:=h;obtain⟨p,rfl⟩:=zdG q;replace h:=zac h;obtain⟨⟨l,u⟩,q2,h⟩:=h;obtain⟨p2,rfl⟩:=zlu q2;rw[Ξ]at h;obtain⟨h0,h⟩:=h;replace h:=zac h;obtain⟨z,rfl,h⟩:=h;rw[Ξ]at h;obtain⟨h1,h2⟩:=h;replace h1:=zac h1;obtain⟨c,q3,h1⟩:=h1;obtain⟨j,p3,rfl⟩:=zdH q3;cases l with
  |some _=>exact nB h0
  |none=>exact zsh (zae a G h2) (zmO h1)
 |.srt a,N,sc,e,X,G,h=>by replace h:=zac h;obtain⟨⟨x,e1⟩,q,h⟩:=h;obtain⟨p2,p,rfl⟩:=za0 q;simp only[Ξ]at h;obtain⟨⟨⟨hx,h1⟩,h3⟩,h5⟩:=h;cases zbe hx;exact zp7 G (zbm G h1) (zae a G h5) h3
theorem zaV:∀(ces:CEs){N:List Str}{sc:Scope}{es:List Expr}{X:Cx},Gd T cf k N sc X->zc4 T ces N sc es=Γ->EsOk cf ces X es
 |.nil,N,sc,es,X,G,h=>by obtain rfl:=isEmpty_iff.mp h;exact⟨zmQ,λa r e es' z=>by cases z⟩| .cons a r,N,sc,es,X,G,h=>by
  cases es with
  |nil=>exact nB h
  |cons e es=>replace h:=(Ξ _ _).mp h;have he:=zae a G ((Ξ _ _).mp h.1).2;exact⟨zjk he (zaV r G h.2).1 ((Ξ _ _).mp h.1).1,λa' r' e' es' z1 z2=>by cases z1;cases z2;exact he⟩
theorem za1(ce:CE){N:List Str}{sc:Scope}{e:Expr}{X:Cx}(G:Gd T cf k N sc X)(h:chkT T ce N sc e=Γ):PT X e (tT X.K cf ce)/\((∃op v r p,e=.BoolOp op (v::r) p)->PW X e (tT X.K cf ce)):=by
 cases ce with
 |cmp op a b=>replace h:=zac h;obtain⟨⟨l,os,rs⟩,q,h⟩:=h;obtain⟨p,rfl⟩:=zcy q;rw[Ξ,decide_eq_true_eq]at h;obtain⟨e1,h⟩:=h;replace h:=zac h;obtain⟨r,q2,h⟩:=h;cases zbp q2;cases e1;simp only[Ξ]at h;exact⟨zpW G (zae a G h.1.2) (zae b G h.2) h.1.1,λ⟨_,_,_,_,z⟩=>by cases z⟩| cmp2 op op' a b c=>replace h:=zac h;obtain⟨⟨l,os,rs⟩,q,h⟩:=h;obtain⟨p,rfl⟩:=zcy q;rw[Ξ,decide_eq_true_eq]at h;obtain⟨e1,h⟩:=h;replace h:=zac h;obtain⟨⟨r,r'⟩,q2,h⟩:=h;cases two_inv q2;cases e1;simp only[Ξ]at h;obtain⟨⟨⟨⟨h1,h2⟩,h3⟩,h4⟩,h5⟩:=h;exact⟨zny G (zae a G h3) (zae b G h4) (zae c G h5) h1 h2,λ⟨_,_,_,_,z⟩=>by cases z⟩| nt a=>replace h:=zac h;obtain⟨⟨o,x⟩,q,h⟩:=h;obtain⟨p,rfl⟩:=zeN q;simp only[Ξ,decide_eq_true_eq]at h;obtain⟨rfl,h1⟩:=h;exact⟨zsf (za1 a G h1).1,λ⟨_,_,_,_,z⟩=>by cases z⟩| and a b=>replace h:=zac h;obtain⟨⟨o,vs,p⟩,q,h⟩:=h;cases zb7 q;rw[Ξ,decide_eq_true_eq]at h;obtain⟨e1,h⟩:=h;cases e1;dsimp only at h;split at h;rename_i x y rest;rw[Ξ]at h;obtain⟨h1,h2⟩:=h;split at h2;rename_i c;cases isEmpty_iff.mp c;have w:=zmI (pos:=p) (za1 a G h1).1 (zob (za1 b G h2).1);exact⟨w.pt,λ_=>w⟩;have w:=zmI (za1 a G h1).1 ((za1 b G h2).2 ⟨_,_,_,_,rfl⟩);exact⟨w.pt,λ_=>w⟩;exact nB h
 |or a b=>replace h:=zac h;obtain⟨⟨o,vs,p⟩,q,h⟩:=h;cases zb7 q;rw[Ξ,decide_eq_true_eq]at h;obtain⟨e1,h⟩:=h;cases e1;dsimp only at h;split at h;rename_i x y rest;rw[Ξ]at h;obtain⟨h1,h2⟩:=h;split at h2;rename_i c;cases isEmpty_iff.mp c;have w:=zpV (pos:=p) (za1 a G h1).1 (zmT (za1 b G h2).1);exact⟨w.pt,λ_=>w⟩;have w:=zpV (za1 a G h1).1 ((za1 b G h2).2 ⟨_,_,_,_,rfl⟩);exact⟨w.pt,λ_=>w⟩;exact nB h
 |tst a=>replace h:=(Ξ _ _).mp h;exact⟨zpU (zae a G h.2) h.1,λ⟨_,_,_,_,z⟩=>by rw[z]at h;simp[zht]at h⟩|_=>exact absurd h Ζ
theorem zc3:∀(cl:CL){N:List Str}{sc:Scope}{e:Expr}{X:Cx},Gd T cf k N sc X->chkL T cl N sc e=Γ->LOk T cf k cl X e
 |.val a,N,sc,e,X,G,h=>by replace h:=(Ξ _ _).mp h;have hp:=zp4 (zae a G h.2);exact⟨λ_=>hp,λz=>(by exact nB z),λtg _=>zmL hp zre,λa z=>by cases z⟩| .rng1 a,N,sc,e,X,G,h=>by replace h:=zac h;obtain⟨⟨x,e1⟩,q,h⟩:=h;obtain⟨p2,p,rfl⟩:=za0 q;simp only[Ξ]at h;obtain⟨⟨⟨hx,h1⟩,h2⟩,h3⟩:=h;cases zbe hx;have he:=zae a G h3;exact⟨λz=>(by cases z),λz=>(by exact nB z),λtg _=>znH (zbm G h1) he h2,λa z=>by cases z;exact⟨e1,p2,p,rfl,zbm G h1,he,h2⟩⟩| .rng2 a b,N,sc,e,X,G,h=>by replace h:=zac h;obtain⟨⟨x,args⟩,q,h⟩:=h;obtain⟨p2,p,rfl⟩:=zaO q;replace h:=zac h;obtain⟨⟨e1,e2⟩,q2,h⟩:=h;cases two_inv q2;simp only[Ξ]at h;obtain⟨⟨⟨⟨⟨hx,h1⟩,h2⟩,h3⟩,h4⟩,h5⟩:=h;cases zbe hx;exact⟨λz=>(by cases z),λz=>(by exact nB z),λtg _=>znG (zbm G h1) (zae a G h4) (zae b G h5) h2 h3,λa z=>by cases z⟩| .enum a,N,sc,e,X,G,h=>by replace h:=zac h;obtain⟨⟨x,e1⟩,q,h⟩:=h;obtain⟨p2,p,rfl⟩:=za0 q;simp only[Ξ]at h;obtain⟨⟨⟨hx,h1⟩,h2⟩,h3⟩:=h;cases zbe hx;refine⟨λz=>(by cases z),λz=>(by exact nB z),λtg ht=>?_,λa z=>by cases z⟩;cases tg with|Tuple es j pt=>exact znI (zbm G h1) (zae a G h3) h2|_=>exact nB ht
 |.comp nt js g it c e,N,sc,ex,X,G,h=>by
  replace h:=zac h;obtain⟨⟨elt,gs,scope,p⟩,q,h⟩:=h;cases zhp q;replace h:=zac h;obtain⟨⟨tg,iter,ifs,asy⟩,q2,h⟩:=h;cases zbp q2;rw[Ξ,Ξ,Ξ,Ξ,Ξ,Ξ,Ξ,Ξ,decide_eq_true_eq,decide_eq_true_eq,decide_eq_true_eq]at h;obtain⟨⟨⟨⟨⟨⟨⟨⟨h1,h2⟩,h3⟩,h4⟩,h5⟩,h6⟩,h7⟩,h8⟩,h9⟩:=h;dsimp only at h1 h2 h3 h4 h5 h6 h7 h8 h9;rw[Ξ]at h3;subst h1 h5;have ok:=zhT G h2;have G':=zky G (tgs:=zbO tg) ok h6;have ht:∀cl C fp s H pn,PTs (zaz X (capN X.N (zbO tg) js) scope cl C fp s H pn) ifs (tT X.K cf c):=λcl C fp s H pn=>by split at h8;rename_i ce;cases isEmpty_iff.mp ce;exact zhb (X:=zaz X (capN X.N (zbO tg) js) scope cl C fp s H pn) h8;replace h8:=zac h8;obtain⟨t,q3,h8⟩:=h8;cases zbp q3;exact zjD (za1 c (G' cl C fp s H pn) h8).1
  have hp:PE X (.ListComp elt [⟨tg,iter,ifs,0⟩] scope p) (tLt X.K cf (.comp (zbO tg).length js g it c e)):=PE.imp (zlK X.env.scope (zbO tg) js G.calm rfl ok ((zc3 it G h4).2.2.1 tg h3.2) (λcl C fp s H pn=>zns (G' cl C fp s H pn) h7) ht (λcl C fp s H pn=>zae e (G' cl C fp s H pn) h9) (zgR h3.1 X.env)) λσ H Qv q=>zhS G.tab.frm q;exact⟨λ_=>(PE.ofT hp),λ_=>hp,λtg _=>zmL (PE.ofT hp) zoO,λa z=>by cases z⟩
end
end
end R
end
namespace R
open PySem PySem.Spec PyProof.Rows L2
variable[Mks]
section
variable{T:Tab}{cf:CF}{k:Nat}
def znC{rest}(G:Gd T cf k N sc X)(hi:N[i]?=Φ x)(hl:zfT sc x=Γ)(h:chkE T (.mkL l) N sc (.ListComp elt gs scope p2)=Γ)(hr:PSs X rest (tS X.K cf r)):
  PSs X (.Assign [.Name x p] (.ListComp elt gs scope p2) pos::rest) (tS X.K cf (.asg i (.mkL l) r)):=by
 have hw:∃b,swapsWith (.ListComp elt gs scope p2) (Φ (.Name x p)) pos.line X.env=pure b:=⟨_,rfl⟩;obtain⟨b,hw⟩:=hw;cases b with
 |false=>refine PSs.imp (zaB (zjE (i:=i) (by rw[G.nm];exact G.nd) (by rw[G.nm];exact hi) (G.lc hl).1 (zae (.mkL l) G h) hw (G.lc hl).2) hr) λE σ H z=>?_;obtain⟨δ,ι,S,Q,hs,hh,w,lf⟩:=z;change W (Out.bind _ _) _ at w;simp only[zab] at w;refine tE.run hs hh w λd v ι1 H1 S1 x1 hs1 hh1 r1 w1=>?_;exact⟨δ.set i (Φ d),ι1,S1,Q,hs1.set r1 i,hh1,w1,lf.up x1⟩| true=>
  replace h:ite (zgO l=Γ) _ _=Γ:=h;split at h;rename_i c0;replace h:=((Ξ _ _).mp h).2;cases l with
  |comp nt js g it c e=>
   replace h:=zac h;obtain⟨⟨elt',gs',scope',p'⟩,q,h⟩:=h;cases zhp q;replace h:=zac h;obtain⟨⟨tg,iter,ifs,asy⟩,q2,h⟩:=h;cases zbp q2;rw[Ξ,Ξ,Ξ,Ξ,Ξ,Ξ,Ξ,Ξ,decide_eq_true_eq,decide_eq_true_eq,decide_eq_true_eq]at h;obtain⟨⟨⟨⟨⟨⟨⟨⟨h1,h2⟩,h3⟩,h4⟩,h5⟩,h6⟩,h7⟩,h8⟩,h9⟩:=h;dsimp only at h1 h2 h3 h4 h5 h6 h7 h8 h9;rw[Ξ]at h3;subst h1 h5;have ok:=zhT G h2;have G':=zky G (tgs:=zbO tg) ok h6;have ht:∀cl C fp s H pn,PTs (zaz X (capN X.N (zbO tg) js) scope cl C fp s H pn) ifs (tT X.K cf c):=λcl C fp s H pn=>by split at h8;rename_i ce;cases isEmpty_iff.mp ce;exact zhb (X:=zaz X (capN X.N (zbO tg) js) scope cl C fp s H pn) h8;replace h8:=zac h8;obtain⟨t,q3,h8⟩:=h8;cases zbp q3;exact zjD (za1 c (G' cl C fp s H pn) h8).1
   have he:∀cl C fp s H pn,PE (zaz X (capN X.N (zbO tg) js) scope cl C fp s H pn) elt (tE X.K cf e):=λcl C fp s H pn=>zae e (G' cl C fp s H pn) h9;have hg:∀cl C fp s H pn,PG (zaz X (capN X.N (zbO tg) js) scope cl C fp s H pn) tg (tG X.K g):=λcl C fp s H pn=>zns (G' cl C fp s H pn) h7;have hps:=zof (spos:=pos) (py:=p) (pos:=p2) X.env.scope (zbO tg) js (i:=i) (y:=x) (by rw[G.nm];exact G.nd) (by rw[G.nm];exact hi) (G.lc hl).1 G.calm rfl ok ((zc3 it G h4).2.2.1 tg h3.2) hg ht he hw (zgR h3.1 X.env) (G.lc hl).2;exact znE G hi ⟨_,hps,λσ H Qv q=>zhS G.tab.frm (zjU q)⟩ hr
  |_=>exact nB c0
  exact nB h
def zpc(h:zbr v=Δ)(hc:chkE T e N sc v=Γ):∃l elt gs scope p,v=.ListComp elt gs scope p/\e=.mkL l:=by
 cases v with
 |ListComp elt gs scope p=>cases e with|mkL l=>exact⟨l,elt,gs,scope,p,rfl,rfl⟩|_=>exact absurd hc Ζ
 |SetComp=>cases e<;>(first|exact nB hc|(rename_i l;cases l<;>exact nB hc))|DictComp=>cases e<;>(first|exact nB hc|(rename_i l;cases l<;>exact nB hc))|_=>cases h
def zaU:∀(cs:CS){N:List Str}{sc:Scope}{st:List Stmt}{X:Cx},Gd T cf k N sc X->chkS T cs N sc st=Γ->PSs X st (tS X.K cf cs)
 |.nil,N,sc,st,X,G,h=>by obtain rfl:=isEmpty_iff.mp h;exact zpY|.stop,N,sc,st,X,G,h=>λpins s σ H E I z=>(by obtain⟨δ,ι,S,Q,hs,hh,w,l⟩:=z;exact (by exact w.elim))| .asg i e r,N,sc,st,X,G,h=>by
  cases st with
  |nil=>exact nB h
  |cons s rest=>replace h:=zac h;obtain⟨⟨tg,v,pos⟩,q,h⟩:=h;cases zcB q;replace h:=zac h;obtain⟨x,q2,h⟩:=h;obtain⟨p,hx⟩:=zaE q2;dsimp only at hx;subst hx;simp only[Ξ,beq_iff_eq]at h;obtain⟨⟨⟨h1,h2⟩,h3⟩,h4⟩:=h;have hr:=zaU r G h4;cases hn:zbr v with|true=>exact zp0 G h1 h2 (zae e G h3) hn hr| false=>obtain⟨l,elt,gs,scope,p2,rfl,rfl⟩:=zpc hn h3;exact znC G h1 h2 h3 hr
 |.asgT g e r,N,sc,st,X,G,h=>by
  cases st with
  |nil=>exact nB h
  |cons s rest=>replace h:=zac h;obtain⟨⟨tg,v,pos⟩,q,h⟩:=h;cases zcB q;replace h:=zac h;obtain⟨es,q2,h⟩:=h;obtain⟨j,p,hx⟩:=zdF q2;dsimp only at hx;subst hx;simp only[Ξ,decide_eq_true_eq]at h;obtain⟨⟨⟨⟨h1,h2⟩,h3⟩,h4⟩,h5⟩:=h;refine znD G h3 h2 (zae e G h4) ?_ (zaU r G h5);rw[Ϝ]at h1;rcases h1 with h1|h1;obtain⟨x,hx⟩:=Option.isSome_iff_exists.mp h1;obtain⟨p2,hv⟩:=zaE hx;exact .inl ⟨x,p2,hv⟩;obtain⟨⟨x,as⟩,hx⟩:=Option.isSome_iff_exists.mp h1;obtain⟨p2,p3,hv⟩:=zaO hx;exact .inr ⟨_,_,_,_,hv⟩
 |.setF a f e r,N,sc,st,X,G,h=>by
  cases st with
  |nil=>exact nB h
  |cons s rest=>replace h:=zac h;obtain⟨⟨tg,v,pos⟩,q,h⟩:=h;cases zcB q;replace h:=zac h;obtain⟨⟨o,f',p⟩,q2,h⟩:=h;have hx:=zb8 q2;dsimp only at hx;subst hx;simp only[Ξ,decide_eq_true_eq]at h;obtain⟨⟨⟨⟨⟨h1,h2⟩,h3⟩,h4⟩,h5⟩,h6⟩:=h;subst h1;exact znz G h2 (zae a G h4) (zae e G h5) h3 (zaU r G h6)
 |.retN r,N,sc,st,X,G,h=>by
  cases st with
  |nil=>exact nB h
  |cons s rest=>replace h:=(Ξ _ _).mp h;obtain⟨p,rfl⟩:=zid h.1;exact znA (zaU r G h.2)
 |.setIx a b e r,N,sc,st,X,G,h=>by
  cases st with
  |nil=>exact nB h
  |cons s rest=>replace h:=zac h;obtain⟨⟨tg,v,pos⟩,q,h⟩:=h;cases zcB q;replace h:=zac h;obtain⟨⟨o,i⟩,q2,h⟩:=h;obtain⟨p,hx⟩:=zdG q2;dsimp only at hx;subst hx;simp only[Ξ]at h;obtain⟨⟨⟨⟨h1,h2⟩,h3⟩,h4⟩,h5⟩:=h;exact zld G (zae a G h2) (zae b G h3) (zae e G h4) h1 (zaU r G h5)
 |.ifS c t u r,N,sc,st,X,G,h=>by
  cases st with
  |nil=>exact nB h
  |cons s rest=>replace h:=zac h;obtain⟨⟨e,a,b⟩,q,h⟩:=h;obtain⟨p,rfl⟩:=zju q;simp only[Ξ]at h;exact zsg (za1 c G h.1.1.1).1 (zaU t G h.1.1.2) (zaU u G h.1.2) (zaU r G h.2)
 |.forS g l b r,N,sc,st,X,G,h=>by
  cases st with
  |nil=>exact nB h
  |cons s rest=>replace h:=zac h;obtain⟨⟨tg,it,body⟩,q,h⟩:=h;obtain⟨p,rfl⟩:=zjv q;simp only[Ξ]at h;obtain⟨⟨⟨⟨h1,h2⟩,h3⟩,h4⟩,h5⟩:=h;exact zpZ G ((zc3 l G h2).2.2.1 tg h5.2) (zns G h5.1) (zaU b G h3) h1 (zaU r G h4)
 |.ret e r,N,sc,st,X,G,h=>by
  cases st with
  |nil=>exact nB h
  |cons s rest=>replace h:=zac h;obtain⟨v,q,h⟩:=h;obtain⟨p,rfl⟩:=zjt q;simp only[Ξ]at h;exact zpX (zae e G h.1) (zaU r G h.2)
 |.expr e r,N,sc,st,X,G,h=>by
  cases st with
  |nil=>exact nB h
  |cons s rest=>replace h:=zac h;obtain⟨v,q,h⟩:=h;obtain⟨p,rfl⟩:=zjw q;simp only[Ξ]at h;exact znB (zae e G h.1.2) h.1.1 (zaU r G h.2)
def RS.start{K}(r:RVs K ι H ds vs)(c:ds.length=F.np)(f:F.nn=N.length):RS K ι H (zaG F ds) (L2.start N vs):=by
 have a:=r.length;refine⟨by simp[zaG,L2.start,a,c,f],λi d e=>?_⟩;unfold zaG at e;unfold L2.start;by_cases b:i<ds.length;rw[getElem?_append_left (by simpa using b),getElem?_map]at e;rw[getElem?_append_left (by simpa[a]using b),getElem?_map];cases z:ds[i]? with
 |none=>rw[z]at e;exact nS e
 |some j=>rw[z]at e;simp only[Option.map_some,Option.some.injEq]at e;subst e;obtain⟨v,g,h⟩:=r.get z;exact⟨v,by rw[g];rfl,h⟩
 . rw[getElem?_append_right (by simpa using b),List.getElem?_replicate]at e;split at e<;>cases e
abbrev ChkD(T:Tab)(b:CS)(N:List Str)(sc:Scope)(st:List Stmt):Prop:=chkS T b N sc st=Γ/\N≠T.lam
structure DefOk(K:Frag)(mg:Str->Option Θ)(T:Tab)(Pg:List Fn)(fi:Nat)(x:Str)(ps:List Str)(nd:Nat):Prop where
 ex:∃(F:Fn) (qual:Str) (st:Stmt) (dV:Θ) (f:Addr) (fd:FuncData) (N:List Str),Pg[fi]?=Φ F/\F.prim=Ψ/\FunV K x qual st dV f fd/\FnScope N ps (zaa st)/\ChkD T F.body N (zaa st) (zam st)/\F.np=ps.length/\F.nn=N.length/\
  mg x=Φ (.ref f)/\∀j,j<=nd->Binds K fd ps (List.replicate j Θ.none)
def zol:Fr S (prm S p ds):=by
 unfold prm
 repeat' first
 |exact .bad
 |exact .ok
 |exact .of (.push _ _)
 |split
def zfZ(Pg)(n):CFok (callF Pg n):=by
 induction n with
 |zero=>exact λ_ _ _ _ _ e=>by cases e| succ n ih=>
  intro f ds S;show Fr S _;unfold callF
  repeat' first
  |exact .bad
  |exact .ok
  |exact frS ih _ _ _
  |exact zol
  |refine Fr.bind ?_ λ_ _=>?_
  |split
variable{P:ϊ}{w:ύ}{K:Frag}{mg:Str->Option Θ}{base:Heap}{Pg:List Fn}
def zbP{ps:List Str}(hP:Pg[fi]?=Φ F)(hp:F.np=ps.length)(h:spF K (callF Pg n) fi vs H Q E):vs.length=ps.length:=by obtain⟨ι,S,ds,r,hh,w⟩:=h;rw[r.length];cases n with|zero=>exact w.elim| succ n=>simp only[callF,hP]at w;split at w;rename_i c;rw[c,hp];exact w.elim
def zkK{st}(tab:TabOk T (callF Pg n) m P w K mg base)(FV:FunV K x qual st dV f fd)(hP:Pg[fi]?=Φ F)(S:FnScope N ps (zaa st))(ck:ChkD T F.body N (zaa st) (zam st))(hp:F.np=ps.length)(hn:F.nn=N.length)(hq:F.prim=Ψ:=by rfl):
  FnOk P w K mg base CX0 (m+2) f fd ps (spF K (callF Pg (n+1)) fi):=by
 refine FV.ok S (λvs H Q E h=>zbP hP hp h) λcdv A outer s H vs Q E hr h=>?_;obtain⟨ι,S0,ds,r,hh,hw⟩:=h;have G:Gd T (callF Pg n) m N (zaa st) (cxOf CX0 P w K mg base N qual (zaa st) f cdv A outer s H E).nox:=⟨rfl,S.nd,λx e=>e,λx e=>e,λx e=>.inl e,λx e=>e,.inl λ_=>rfl,rfl,rfl,hr,tab,λz=>absurd z ck.2⟩;refine⟨_,zaU F.body G ck.1,?_⟩;simp only[callF,hP,hq]at hw;split at hw;rename_i c;rw[zab]at hw;refine⟨zaG F ds,ι,S0,_,RS.start r c hn,hh,hw,?_⟩;intro fl ι' H' S' x' hh' q;cases fl with|nx δ'=>exact λσ' hs'=>q .non H' ι' x' rfl hh'|rt d=>exact λv rv=>q v H' ι' x' rv hh'
 exact hw.elim
structure MOk(K:Frag)(T:Tab)(Pg:List Fn)(fi j:Nat)(Ex:Addr->Prop):Prop where
 ex:∃(F:Fn) (x qual:Str) (st:Stmt) (dV:Θ) (f:Addr) (fd:FuncData) (N ps:List Str),Pg[fi]?=Φ F/\F.prim=Ψ/\FunV K x qual st dV f fd/\FnScope N ps (zaa st)/\ChkD T F.body N (zaa st) (zam st)/\F.np=ps.length/\F.nn=N.length/\
  Binds K fd ps (List.replicate j Θ.none)/\Ex f
def ze2(z:MOk K T Pg fi j Ex):∃f fd ps,Ex f/\keepIn K (.ref f)=Γ/\Binds K fd ps (List.replicate j Θ.none)/\FnOk P w K mg base CX0 0 f fd ps (spF K (callF Pg 0) fi):=by obtain⟨F,x,qual,st,dV,f,fd,N,ps,hP,hq,FV,S,ck,hp,hn,hb,e⟩:=z.ex;refine⟨f,fd,ps,e,FV.kp,hb,⟨λvs H Q E h=>zbP hP hp h,λA outer s H args us vs Q E hr e0 b v h=>?_⟩⟩;obtain⟨ι,S,ds,r,hh,w⟩:=h;exact w.elim
def ze3(tab:TabOk T (callF Pg n) m P w K mg base)(z:MOk K T Pg fi j Ex):∃f fd ps,Ex f/\keepIn K (.ref f)=Γ/\Binds K fd ps (List.replicate j Θ.none)/\FnOk P w K mg base CX0 (m+2) f fd ps (spF K (callF Pg (n+1)) fi):=by obtain⟨F,x,qual,st,dV,f,fd,N,ps,hP,hq,FV,S,ck,hp,hn,hb,e⟩:=z.ex;exact⟨f,fd,ps,e,FV.kp,hb,zkK tab FV hP S ck hp hn hq⟩
abbrev ExM(K:Frag)(c:Nat)(m:Str)(f:Addr):Prop:=∃C,Mks.cl[c]?=Φ C/\Cls K C/\Meth K C m f
abbrev ExI(K:Frag)(c:Nat)(f:Addr):Prop:=∃C,Mks.cl[c]?=Φ C/\Mk K C f
abbrev ExC(K:Frag)(mg:Str->Option Θ)(x m:Str)(f:Addr):Prop:=∃(C:Addr) (mc:Θ),mg x=Φ (.ref C)/\specialIn K (.ref C) "__getattribute__"=Φ (Φ (.builtin "type.__getattribute__"))/\readsIn K C mc=Γ/\findCls K (.ref C) mc m=Φ (.val (.ref f))
structure ClsOk(T:Tab)(K:Frag)(mg:Str->Option Θ)(Pg:List Fn):Prop where
 cls:∀(c:Nat)(x:Str),T.cls[c]?=Φ x->∃C,Mks.cl[c]?=Φ C/\Cls K C/\mg x=Φ (.ref C)/\∀f,T.flds.contains f=Γ->NoAttr K C f
 mth:∀(c:Nat)(m:Str)(fi:Nat),T.mts.contains (c,m,fi)=Γ->MOk K T Pg fi 0 (ExM K c m)
 ini:∀(c fi j:Nat),T.inits.contains (c,fi,j)=Γ->MOk K T Pg fi j (ExI K c)
 cmd:∀(x m:Str)(fi:Nat),T.cms.contains (x,m,fi)=Γ->MOk K T Pg fi 0 (ExC K mg x m)
 cln:Mks.cl.length<=T.cls.length
 isa:∀(x:Str)(cs:List Nat),T.isas.contains (x,cs)=Γ->∃D,mg x=Φ (.ref D)/\∀c C,Mks.cl[c]?=Φ C->IsaOk K C/\kitOne K (.ref C) (.ref D)=Φ (cs.contains c)
def zkt(h:∃f fd ps,ExM K c m f/\keepIn K (.ref f)=Γ/\Binds K fd ps []/\FnOk P w K mg base CX0 k f fd ps (spF K cf fi)):HasM P w K mg base k c m (spF K cf fi):=by obtain⟨f,fd,ps,⟨C,h1,h2,h3⟩,_,h4,h5⟩:=h;exact⟨C,f,fd,ps,h1,h2,h3,h5,h4⟩
def zku(h:∃f fd ps,ExI K c f/\keepIn K (.ref f)=Γ/\Binds K fd ps (List.replicate j Θ.none)/\FnOk P w K mg base CX0 k f fd ps (spF K cf fi)):HasI P w K mg base k c j (spF K cf fi):=by obtain⟨f,fd,ps,⟨C,h1,h2⟩,_,h4,h5⟩:=h;exact⟨C,f,fd,ps,h1,h2,h5,h4⟩
def zkv(h:∃f fd ps,ExC K mg x m f/\keepIn K (.ref f)=Γ/\Binds K fd ps []/\FnOk P w K mg base CX0 k f fd ps (spF K cf fi)):HasC P w K mg base k x m (spF K cf fi):=by obtain⟨f,fd,ps,⟨C,mc,h1,h2,h3,h6⟩,h7,h4,h5⟩:=h;exact⟨C,f,fd,ps,mc,h1,h2,h3,h6,h7,h5,h4⟩
structure PrimOk(P:ϊ)(w:ύ)(K:Frag)(mg:Str->Option Θ)(base:Heap)(T:Tab)(Pg:List Fn)(fi:Nat)(x:Str)(ps:List Str)(nd:Nat):Prop where
 ex:∃(F:Fn) (p:Prim) (f:Addr) (fd:FuncData),Pg[fi]?=Φ F/\F.prim=Φ p/\F.np=ps.length/\mg x=Φ (.ref f)/\keepIn K (.ref f)=Γ/\(∀j,j<=nd->Binds K fd ps (List.replicate j Θ.none))/\
  ∀n,3<=n->TabOk T (callF Pg n) (2*n) P w K mg base->FnOk P w K mg base CX0 (2*n+2) f fd ps (spF K (callF Pg (n+1)) fi)
def zpQ(hb:∀x,T.blt.contains x=Γ->mg x=Ψ)(hc:∀x d,T.cons.lookup x=Φ d->znX d=Γ/\∃u,mg x=Φ u/\RelV (sV d) u)(hd:∀fi x ps nd,T.fns[fi]?=Φ (x,ps,nd)->DefOk K mg T Pg fi x ps nd\/PrimOk P w K mg base T Pg fi x ps nd)(hk:ClsOk T K mg Pg) :
  ∀n,TabOk T (callF Pg n) (2*n) P w K mg base:=by
 intro n;induction n with
 |zero=>refine⟨hb,hc,λfi x ps nd hf j hj=>?_,zfZ Pg 0,hk.cls,λc m fi h=>zkt (ze2 (hk.mth c m fi h)),λc fi j h=>zku (ze2 (hk.ini c fi j h)),λx m fi h=>zkv (ze2 (hk.cmd x m fi h)),λ_=>hk.cln,hk.isa⟩;rcases hd fi x ps nd hf with z|z;obtain⟨F,qual,st,dV,f,fd,N,hP,hq,FV,S,ck,hp,hn,hm,hbd⟩:=z.ex;refine⟨f,fd,_,⟨λvs H Q E h=>zbP hP hp h,λA outer s H args us vs Q E hr e0 b v h=>?_⟩,hm,FV.kp,hbd j hj,Vals.nons j⟩;obtain⟨ι,S,ds,r,hh,w⟩:=h;exact w.elim;obtain⟨F,p,f,fd,hP,hq,hp,hm,kp,hbd,ok⟩:=z.ex;refine⟨f,fd,_,⟨λvs H Q E h=>zbP hP hp h,λA outer s H args us vs Q E hr e0 b v h=>?_⟩,hm,kp,hbd j hj,Vals.nons j⟩;obtain⟨ι,S,ds,r,hh,w⟩:=h;exact w.elim
 |succ n ih=>
  refine⟨hb,hc,λfi x ps nd hf j hj=>?_,zfZ Pg (n+1),hk.cls,λc m fi h=>zkt (ze3 ih (hk.mth c m fi h)),λc fi j h=>zku (ze3 ih (hk.ini c fi j h)),λx m fi h=>zkv (ze3 ih (hk.cmd x m fi h)),λ_=>hk.cln,hk.isa⟩;rcases hd fi x ps nd hf with z|z;obtain⟨F,qual,st,dV,f,fd,N,hP,hq,FV,S,ck,hp,hn,hm,hbd⟩:=z.ex;refine⟨f,fd,_,?_,hm,FV.kp,hbd j hj,Vals.nons j⟩;exact zkK ih FV hP S ck hp hn hq;obtain⟨F,p,f,fd,hP,hq,hp,hm,kp,hbd,ok⟩:=z.ex;refine⟨f,fd,_,?_,hm,kp,hbd j hj,Vals.nons j⟩;by_cases c:3<=n;exact(ok n c ih).mono (by lia)
  . refine⟨λvs H Q E h=>zbP hP hp h,λA outer s H args us vs Q E hr e0 b v h=>?_⟩;obtain⟨ι,S,ds,r,hh,w⟩:=h;cases p<;>(simp only[callF,hP,hq,c,if_false]at w;split at w<;>exact w.elim)
abbrev AllAtG{α:Type}(P:Nat->α->Prop):Nat->List α->Prop
 |_,[]=>True|k,a::r=>P k a/\AllAtG P (k+1) r
def zng{P}:∀{l:List α}{k:Nat},AllAtG P k l->∀(i:Nat)(a:α),l[i]?=Φ a->P (k+i) a
 | [],_,_,i,a,h=>by simp at h|b::r,k,q,0,a,h=>by cases h;exact q.1| b::r,k,q,i+1,a,h=>by
  have:=zng q.2 i a (by simpa using h)
  rwa [Nat.add_right_comm]at this
def AllAt.get{P:Nat->α->Prop}{l:List α}(q:AllAtG P 0 l)(i)(a)(h:l[i]?=Φ a):P i a:=zero_add i▸zng q i a h
abbrev AllInG{α:Type}(P:α->Prop):List α->Prop
 | []=>True|a::r=>P a/\AllInG P r
def AllIn.get[BEq c][LawfulBEq c]{P}:∀{l:List c},AllInG P l->∀a,l.contains a=Γ->P a
 | [],_,a,h=>by simp at h| b::r,q,a,h=>by rw[contains_cons,Ϝ]at h;rcases h with h|h;rw[eq_of_beq h];exact q.1;exact AllIn.get q.2 a h
def law_spT{ns:List Int}(c:FixL K H a (ns.map V.int))(f:TB H)(b:W (callF Pg k g [.fix (ns.map .int)] ⟨[],[],[]⟩) λd _=>d=.bl Γ):spF K (callF Pg k) g [.ref a] H (λv _=>v=.bl Γ) λ_ _ _=>False:=by
 refine⟨[],⟨[],[],[]⟩,[.fix (ns.map .int)],⟨.ref a,[],rfl,⟨a,_,rfl,c,RVs.ints ns⟩,rfl⟩,⟨rfl,List.nodup_nil,λl o e=>(by simp[St.get]at e),f⟩,?_⟩;obtain⟨d,h,e,q⟩:=zgm b;rw[e];intro v H' ι' x r i;subst q;exact r
end
abbrev okD(T:Tab)(F:Fn)(N ps:List Str)(st:Stmt):Bool:=
 decide ((zaa st).kind=.function)&&(!(zaa st).isCoroutine&&(!(zaa st).isGenerator&&(decide N.Nodup&&(decide (N.take ps.length=ps)&&(ps.all (λx=>decide ((zaa st).names.lookup x=Φ .local)||decide ((zaa st).names.lookup x=Φ .cell)) &&
  ((zaa st).names.all (λy=>decide (y.2≠.free))&&(chkS T F.body N (zaa st) (zam st)&&(decide (F.np=ps.length)&&(decide (F.nn=N.length)&&(F.prim.isNone&&decide (N≠T.lam)))))))))))
structure OkD(T:Tab)(Pg:List Fn)(fi:Nat)(x q:Str)(ps:List Str)(st:Stmt):Prop where
 ex:∃(F:Fn) (N:List Str),Pg[fi]?=Φ F/\F.prim=Ψ/\FnScope N ps (zaa st)/\ChkD T F.body N (zaa st) (zam st)/\F.np=ps.length/\F.nn=N.length
 bd:∀(kV doc pm:Θ)(an:Option Addr)(cdv ct:Θ)(us:List Θ),us.length=ps.length->bindArgs (fnOf x q (zaq st) (zam st) (zaa st) .none kV doc pm an cdv ct) ⟨us,[]⟩=pure (ps.zip us)
def zao{st}(N)(e:Pg[fi]?=Φ F)(h:okD T F N ps st=Γ)(b:∀(kV doc pm:Θ)(an:Option Addr)(cdv ct:Θ)(us:List Θ),us.length=ps.length->bindArgs (fnOf x q (zaq st) (zam st) (zaa st) .none kV doc pm an cdv ct) ⟨us,[]⟩=pure (ps.zip us)):OkD T Pg fi x q ps st:=by
 simp only[okD,Ξ,not_eq_true',decide_eq_true_eq,all_eq_true,Ϝ,Option.isNone_iff_eq_none]at h;obtain⟨h1,h2,h3,h4,h5,h6,h7,h8,h9,h10,h11,h12⟩:=h;exact⟨⟨F,N,e,h11,⟨h1,h2,h3,h4,h5,h6,h7⟩,⟨h8,h12⟩,h9,h10⟩,b⟩
def AllInG.cons{b:Type}{P:b->Prop}{a:b}{r:List b}(h:P a)(t:AllInG P r):AllInG P (a::r):=⟨h,t⟩
def AllAtG.cons{b:Type}{P:Nat->b->Prop}{k:Nat}{a:b}{r:List b}(h:P k a)(t:AllAtG P (k+1) r):AllAtG P k (a::r):=⟨h,t⟩
def AllInG.mem:∀{l:List c},AllInG P l->∀a∈l,P a
 |b::r,q,a,h=>by rcases mem_cons.mp h with rfl|h;exact q.1;exact AllInG.mem q.2 a h
section
variable{P:ϊ}{w:ύ}{K:Frag}{h base:Heap}{mg:Str->Option Θ}{T:Tab}{Pg:List Fn}{fi c:Nat}{x q m:Str}{ps:List Str}{st:Stmt}{f C:Addr}{oc kV dc pm cd ct:Θ}{od an:Option Addr}{sl:Array (Option Θ)}
def dOk(X:K.In h)(G:h.Ns mainGlobals mg)(o:OkD T Pg fi x x ps st)(a:nsIn K mainGlobals x=Φ (Φ (.ref f)))(l:K.lookup f=Φ ⟨oc,od,.func (fnOf x x (zaq st) (zam st) (zaa st) .none kV dc pm an cd ct),sl⟩)(c:codeIn K cd x=Γ)
  (k:keepIn K (.ref f)=Γ):DefOk K mg T Pg fi x ps 0\/PrimOk P w K mg base T Pg fi x ps 0:=by
 obtain⟨F,N,h1,h2,h3,h4,h5,h6⟩:=o.ex;have FV:=zc1 (st:=st) l c k;exact .inl ⟨⟨F,x,st,_,f,_,N,h1,h2,FV,h3,h4,h5,h6,mg_of X G a,λj hj=>(Nat.le_zero.mp hj).symm▸FV.binds o.bd⟩⟩
abbrev ClAt(K:Frag)(mg:Str->Option Θ)(T:Tab)(c:Nat)(x:Str):Prop:=∃C,Mks.cl[c]?=Φ C/\Cls K C/\mg x=Φ (.ref C)/\∀f,T.flds.contains f=Γ->NoAttr K C f
def clOk(X:K.In h)(G:h.Ns mainGlobals mg)(e:Mks.cl[c]?=Φ C)(a:nsIn K mainGlobals x=Φ (Φ (.ref C)))(b:plainGet K C Str.empty=Γ)(hd:hasDictIn K C=Γ)(d:plainOver K C=Γ)
  (g:findIn K (.ref C) "__setattr__"=Φ (Φ (.builtin "object.__setattr__"))) (n:AllInG (λf=>findIn K (.ref C) f=Φ Ψ) T.flds):ClAt K mg T c x:=
 ⟨C,e,⟨b,hd,d,g⟩,mg_of X G a,AllIn.get n⟩
def mOk0(o:OkD T Pg fi m q ps st)(l:K.lookup f=Φ ⟨oc,od,.func (fnOf m q (zaq st) (zam st) (zaa st) .none kV dc pm an cd ct),sl⟩)(cc:codeIn K cd q=Γ)(k:keepIn K (.ref f)=Γ)(e:Ex f):MOk K T Pg fi 0 Ex:=by obtain⟨F,N,h1,h2,h3,h4,h5,h6⟩:=o.ex;have FV:=zc1 (st:=st) l cc k;exact⟨⟨F,m,q,st,_,f,_,N,ps,h1,h2,FV,h3,h4,h5,h6,FV.binds o.bd,e⟩⟩
def mOk(b:AllAtG (ClAt K mg T) 0 T.cls)(o:OkD T Pg fi m q ps st)(e:Mks.cl[c]?=Φ C)(ex:T.cls[c]?=Φ x)(t:findIn K (.ref C) m=Φ (Φ (.ref f)))(l:K.lookup f=Φ ⟨oc,od,.func (fnOf m q (zaq st) (zam st) (zaa st) .none kV dc pm an cd ct),sl⟩)
  (d:codeIn K cd q=Γ) (k:keepIn K (.ref f)=Γ) (i:isFn K (.ref f)=Γ):MOk K T Pg fi 0 (ExM K c m):=by
 obtain⟨g,a,j,_⟩:=AllAt.get b c x ex;exact mOk0 o l d k ⟨g,a,j,by rw[e]at a;cases a;exact⟨t,i,k⟩⟩
def iOk(o:OkD T Pg fi "__init__" q ps st)(e:Mks.cl[c]?=Φ C)(mk:makesIn K C=Γ)(t:findIn K (.ref C) "__init__"=Φ (Φ (.ref f)))(a:keepIn K (.ref C)=Γ)(l:K.lookup f=Φ ⟨oc,od,.func (fnOf "__init__" q (zaq st) (zam st) (zaa st) .none kV dc pm an cd ct),sl⟩)
 (b:codeIn K cd q=Γ) (k:keepIn K (.ref f)=Γ) (i:isFn K (.ref f)=Γ):MOk K T Pg fi 0 (ExI K c):=mOk0 o l b k ⟨C,e,mk,t,i,a⟩
def cOk(X:K.In h)(G:h.Ns mainGlobals mg)(o:OkD T Pg fi m q ps st)(a:nsIn K mainGlobals x=Φ (Φ (.ref C)))(g:specialIn K (.ref C) "__getattribute__"=Φ (Φ (.builtin "type.__getattribute__")))(r:readsIn K C (.type "type")=Γ)
  (t:findCls K (.ref C) (.type "type") m=Φ (.val (.ref f))) (l:K.lookup f=Φ ⟨oc,od,.func (fnOf m q (zaq st) (zam st) (zaa st) .none kV dc pm an cd ct),sl⟩) (b:codeIn K cd q=Γ) (k:keepIn K (.ref f)=Γ):MOk K T Pg fi 0 (ExC K mg x m):=
 mOk0 o l b k ⟨C,_,mg_of X G a,g,r,t⟩
abbrev IsAt(K:Frag)(mg:Str->Option Θ)(z:Str×List Nat):Prop:=∃D,mg z.1=Φ (.ref D)/\∀c C,Mks.cl[c]?=Φ C->IsaOk K C/\kitOne K (.ref C) (.ref D)=Φ (z.2.contains c)
abbrev CoAt(K:Frag)(z:Str×D):Prop:=∃i t,z.2=.int i/\nsIn K mainGlobals z.1=Φ (Φ (.int i t))
def coOk(a:nsIn K mainGlobals x=Φ (Φ (.int i t))):CoAt K (x,.int i):=⟨i,t,rfl,a⟩
end
abbrev okL(T:Tab)(F:Fn)(ps:List Str)(st:Stmt):Bool:=
 decide ((zaa st).kind=.function)&&(!(zaa st).isCoroutine&&(!(zaa st).isGenerator&&(decide T.lam.Nodup&&(decide (T.lam.take ps.length=ps)&&(ps.all (λx=>decide ((zaa st).names.lookup x=Φ .local)||decide ((zaa st).names.lookup x=Φ .cell)) &&
  ((zaa st).names.all (λy=>decide (y.2≠.free))&&(chkS T F.body T.lam (zaa st) (zam st)&&(decide (F.np=ps.length)&&decide (F.nn=T.lam.length)))))))))
structure OkL(T:Tab)(Pg:List Fn)(fi:Nat)(x:Str)(ps:List Str)(nd:Nat)(st:Stmt):Prop where
 ex:∃F:Fn,Pg[fi]?=Φ F/\F.prim=Φ .lam/\FnScope T.lam ps (zaa st)/\chkS T F.body T.lam (zaa st) (zam st)=Γ/\F.np=ps.length/\F.nn=T.lam.length
def zq6{st}(e:Pg[fi]?=Φ F)(hp:F.prim=Φ .lam)(h:okL T F ps st=Γ):OkL T Pg fi x ps nd st:=by simp only[okL,Ξ,not_eq_true',decide_eq_true_eq,all_eq_true,Ϝ]at h;obtain⟨h1,h2,h3,h4,h5,h6,h7,h8,h9,h10⟩:=h;exact⟨F,e,hp,⟨h1,h2,h3,h4,h5,h6,h7⟩,h8,h9,h10⟩
def zrh{K}{st}{dV kV doc pm ct}(lk:K.lookup f=Φ ⟨oc,od,.func (fnOf x qual (zaq st) (zam st) (zaa st) dV kV doc pm an (.ref c) ct),osl⟩)(hcd:codeIn K (.ref c) qual=Γ)(hC:codeHdIn K c T.lamP=Γ)(bm:BM mg base)(mem:(T.lamP,qual ++ ".<locals>." ++ "<lambda>")∈Mks.ts)(one:∀p∈Mks.ts,p.1=T.lamP->p.2=qual ++ ".<locals>." ++ "<lambda>")(S:FnScope T.lam ps (zaa st))(ck:chkS T F.body T.lam (zaa st) (zam st)=Γ)(hP:Pg[fi]?=Φ F)(hq:F.prim=Φ .lam)(hp:F.np=ps.length)(hn:F.nn=T.lam.length)(h3:3<=n)(hm:3<=m)(tab:TabOk T (callF Pg n) m P w K mg base):
  FnOk P w K mg base CX0 (m+2) f (fnOf x qual (zaq st) (zam st) (zaa st) dV kV doc pm an (.ref c) ct) ps (spF K (callF Pg (n+1)) fi):=by
 refine zmj lk hcd S (λvs H Q E h=>zbP hP hp h) λA outer s H vs Q E hr h=>?_;obtain⟨ι,S0,ds,r,hh,hw⟩:=h;have G:Gd T (callF Pg n) m T.lam (zaa st) (cxOf CX0 P w K mg base T.lam qual (zaa st) f (.ref c) A outer s H E).nox:=⟨rfl,S.nd,λx e=>e,λx e=>e,λx e=>.inl e,λx e=>e,.inl λ_=>rfl,rfl,rfl,hr,tab,λ_=>⟨hm,c,⟨bm,rfl,hC,mem,one⟩⟩⟩;refine⟨_,(zaU F.body G ck).nox,?_⟩;simp only[callF,hP,hq,h3,if_true]at hw;split at hw;rename_i c;rw[zab]at hw;refine⟨zaG F ds,ι,S0,_,RS.start r c hn,hh,hw,?_⟩;intro fl ι' H' S' x' hh' q;cases fl with|nx δ'=>exact λσ' hs'=>q .non H' ι' x' rfl hh'|rt d=>exact λv rv=>q v H' ι' x' rv hh'
 exact hw.elim
def lOk{K}{st}{oc dV kV doc pm ct}(X:K.In h)(G:h.Ns mainGlobals mg)(bm:BM mg base)(o:OkL T Pg fi x ps nd st)(mem:(T.lamP,x ++ ".<locals>." ++ "<lambda>")∈Mks.ts)(one:∀p∈Mks.ts,p.1=T.lamP->p.2=x ++ ".<locals>." ++ "<lambda>")(bd:∀j,j<=nd->Binds K (fnOf x x (zaq st) (zam st) (zaa st) dV kV doc pm an (.ref c) ct) ps (List.replicate j Θ.none))(a:nsIn K mainGlobals x=Φ (Φ (.ref f)))(l:K.lookup f=Φ ⟨oc,od,.func (fnOf x x (zaq st) (zam st) (zaa st) dV kV doc pm an (.ref c) ct),sl⟩)(cc:codeIn K (.ref c) x=Γ)(k:keepIn K (.ref f)=Γ)(e:codeHdIn K c T.lamP=Γ):DefOk K mg T Pg fi x ps nd\/PrimOk P w K mg base T Pg fi x ps nd:=by
 obtain⟨F,h1,h2,h3,h4,h5,h6⟩:=o.ex;exact .inr ⟨⟨F,.lam,f,_,h1,h2,h5,mg_of X G a,k,bd,λn hn tab=>zrh l cc e bm mem one h3 h4 h1 h2 h5 h6 hn (by lia) tab⟩⟩
structure OkE(T:Tab)(Pg:List Fn)(fi:Nat)(ps:List Str)(st:Stmt):Prop where
 ex:∃(F:Fn) (N:List Str),Pg[fi]?=Φ F/\F.prim=Ψ/\FnScope N ps (zaa st)/\ChkD T F.body N (zaa st) (zam st)/\F.np=ps.length/\F.nn=N.length
def lOkD{K}{st}{oc kV doc pm ct xc}(X:K.In h)(G:h.Ns mainGlobals mg)(bm:BM mg base)(o:OkL T Pg fi x ps nd st)(mem:(T.lamP,x ++ ".<locals>." ++ "<lambda>")∈Mks.ts)(one:∀p∈Mks.ts,p.1=T.lamP->p.2=x ++ ".<locals>." ++ "<lambda>")(hb:∀j,j<=nd->∃n,ps.length=n+j/\∀(d:Addr)(kV doc pm:Θ)(an:Option Addr)(cdv ct:Θ)(us:List Θ),us.length=n->∃k,bindArgs (fnOf x x (zaq st) (zam st) (zaa st) (.ref d) kV doc pm an cdv ct) ⟨us,[]⟩=seqItems? (.ref d)>>=k/\k (Φ items)=pure (ps.zip (us++List.replicate j Θ.none)))(a:nsIn K mainGlobals x=Φ (Φ (.ref f)))(l:K.lookup f=Φ ⟨oc,od,.func (fnOf x x (zaq st) (zam st) (zaa st) (.ref d) kV doc pm an (.ref c) ct),sl⟩)(cc:codeIn K (.ref c) x=Γ)(k:keepIn K (.ref f)=Γ)(e:codeHdIn K c T.lamP=Γ)(ed:K.lookup d=Φ ⟨xc,xd,.seq items xn,xs⟩):DefOk K mg T Pg fi x ps nd\/PrimOk P w K mg base T Pg fi x ps nd:=
 lOk X G bm o mem one (λj hj=>by obtain⟨n,hn,q⟩:=hb j hj;exact zrK (ds:=List.replicate j Θ.none) n (by rw[length_replicate];exact hn) (zc1 (st:=st) l cc k) ed (q d)) a l cc k e
def all_of{l:PySem.W.OpenLaw}{K}{st}{oc kV dc pm cd ct}(X:K.In h)(G:h.Ns mainGlobals mg)(hfa:mg "law"=Φ (.ref fa))(o:OkD T Pg fi "law" "law" [sn] st)(ln:Mks.cl.length<=T.cls.length)(hcl:AllAtG (ClAt K mg T) 0 T.cls)(hb:AllInG (λx=>nsIn K mainGlobals x=Φ Ψ) T.blt)(hc:AllInG (CoAt K) T.cons)(hd:∀base:Heap,BM mg base->AllAtG (λfi q=>DefOk K mg T Pg fi q.1 q.2.1 q.2.2\/PrimOk l.prog w K mg base T Pg fi q.1 q.2.1 q.2.2) 0 T.fns)(hm:AllAtG (ClAt K mg T) 0 T.cls->AllInG (λq=>MOk K T Pg q.2.2 0 (ExM K q.1 q.2.1)) T.mts)(hi:AllInG (λq=>MOk K T Pg q.2.1 q.2.2 (ExI K q.1)) T.inits)(hx:AllInG (λq=>MOk K T Pg q.2.2 0 (ExC K mg q.1 q.2.1)) T.cms)(hs:AllInG (IsAt K mg) T.isas)(a:nsIn K mainGlobals "law"=Φ (Φ (.ref f)))(l0:K.lookup f=Φ ⟨oc,od,.func (fnOf "law" "law" (zaq st) (zam st) (zaa st) .none kV dc pm an cd ct),sl⟩)(c:codeIn K cd "law"=Γ)(k:keepIn K (.ref f)=Γ):
  ∃fd:FuncData,(∀(s:Β)(v:Θ),BindsTo s fd ⟨[v],[]⟩ [(sn,v)])/\∀base:Heap,K.In base->base.Ns mainGlobals mg->BM mg base->FnOk l.prog w K mg base CX0 (2*n+2) fa fd [sn] (spF K (callF Pg (n+1)) fi):=by
 have e:=hfa.symm.trans (mg_of X G a);cases e;obtain⟨F,N,h1,h2,h3,h4,h5,h6⟩:=o.ex;refine⟨fnOf "law" "law" (zaq st) (zam st) (zaa st) .none kV dc pm an cd ct,λs v=>.of_eq (o.bd _ _ _ _ _ _ [v] rfl),λbase _ _ bm=>?_⟩;refine zkK (zpQ (λx hx=>PySem.W.mg_none_of X G (AllIn.get hb x hx)) (λx d hx=>?_) (λfi x ps nd hf=>AllAt.get (hd base bm) fi _ hf)
  ⟨AllAt.get hcl,λc m fi hx=>AllIn.get (hm hcl) (c,m,fi) hx,λc fi j hx=>AllIn.get hi (c,fi,j) hx,λx m fi h=>AllIn.get hx (x,m,fi) h,ln,λx cs hx=>AllIn.get hs (x,cs) hx⟩ n) (zc1 (st:=st) l0 c k) h1 h3 h4 h5 h6 h2
 obtain⟨i,t,e,q⟩:=hc.mem (x,d) (PySem.mem_of_lookup hx);cases(show d=.int i from e);exact⟨rfl,_,mg_of X G q,⟨_,rfl⟩⟩
abbrev H0(K:Frag)(a:Addr)(o:Obj)(xs:List V):Hp:=λb=>if b∈Mks.ts.map (·.1) then Φ (.tbl #[]) else if b=a then(match K.lookup a with|some _=>Ψ|none=>Φ (.frz o (.lst xs))) else Ψ
def zj8{K}(KX:K.In s₁.heap)(hns:s₁.heap.Ns mainGlobals mg)(hb:s₁.heap.Ns builtinsNs mb)(hbb:∀x:Str,x≠"__name__"->mb x=bootBuiltins x)(hlim:s₁.heap.NoLimit)(hg:s₁.gens = #[])(bm:BM mg s₁.heap)(ha:s₁.heap.get? a=Φ {cls:=.type "list",data:=.seq vs.toArray})(hi:IntsAre vs ns)(hl:ns.length<=sizeLine)(hr:Room k callerA)(tabs:∀p∈Mks.ts,s₁.heap.get? p.1=Φ (tabObj #[])/\K.lookup p.1=Ψ/\isCodeTable s₁.heap p.1)(F:∀base:Heap,K.In base->base.Ns mainGlobals mg->BM mg base->FnOk P w K mg base CX0 k fa fd [x] sp)(hbind:∀(s:Β)(u:Θ),BindsTo s fd ⟨[u],[]⟩ [(x,u)])(hsp:∀H:Hp,FixL K H a (ns.map V.int)->TB H->sp [.ref a] H (λv _=>v=.bl Γ) λ_ _ _=>False):
  codeAny (model P w) callerA (.call (.ref fa) ⟨[.ref a],[]⟩) (λr s'=>r=.ok (.ret (.bool Γ))/\OldK s₁.heap s'.heap/\s'.os=s₁.os/\AllBare s'.gens) s₁:=by
 have rv:=zdx hi;have lenV:=hi.length;generalize hH:H0 K a {cls:=.type "list",data:=.seq vs.toArray} (ns.map V.int)=H;have cs:∀b,H b=Ψ\/((∃p∈Mks.ts,p.1=b)/\H b=Φ (.tbl #[]))\/(b=a/\K.lookup a=Ψ/\H b=Φ (.frz {cls:=.type "list",data:=.seq vs.toArray} (.lst (ns.map V.int)))):=λb=>by
  rw[<-hH];unfold H0;by_cases h1:b∈Mks.ts.map (·.1);obtain⟨p,hp,e⟩:=mem_map.mp h1;exact .inr (.inl ⟨⟨p,hp,e⟩,if_pos h1⟩);rw[if_neg h1];by_cases h2:b=a;rw[if_pos h2];cases e:K.lookup a with|some o=>exact .inl rfl|none=>exact .inr (.inr ⟨h2,rfl,rfl⟩)
  rw[if_neg h2];exact .inl rfl
 have tb:TB H:=λp hp=>⟨#[],by rw[<-hH];unfold H0;exact if_pos (mem_map.mpr ⟨p,hp,rfl⟩),trivial,λpos v e=>by simp[codeAmong]at e⟩;have na:a∉Mks.ts.map (·.1):=λz=>by obtain⟨p,hp,e⟩:=mem_map.mp z;have:=(tabs p hp).1;rw[e,ha]at this;cases this
 have hx:FixL K H a (ns.map V.int):=by cases e:K.lookup a with| some o=>have e':=KX a o e;rw[ha]at e';cases e';exact .inr ⟨_,vs.toArray,_,e,rfl,rfl,rfl,by rw[size_toArray,lenV];exact hl,by simpa using rv⟩| none=>refine .inl ⟨{cls:=.type "list",data:=.seq vs.toArray},?_⟩;rw[<-hH];unfold H0;rw[if_neg na,if_pos rfl,e]
 have hok:HOk P w H s₁.heap:=λb u e=>by rcases cs b with z|⟨⟨p,hp,rfl⟩,z⟩|⟨rfl,_,z⟩;rw[z]at e;exact nS e;rw[z]at e;cases e;exact(tabs p hp).1;rw[z]at e;cases e;exact⟨ha,by rw[length_map];exact hl,vs,_,rv,ha⟩
 have noD:∀{b:Addr}{o:Obj},s₁.heap.get? b=Φ o->(∀xs n,o.data≠.seq xs n)->(∀fs,o.data≠.fields fs)->H b=Ψ:=λ{b o} e n1 n2=>by rcases cs b with z|⟨⟨p,hp,rfl⟩,_⟩|⟨rfl,_,_⟩;exact z;rw[(tabs p hp).1]at e;cases e;exact absurd rfl (n2 _);rw[ha]at e;cases e;exact absurd rfl (n1 _ _)
 have base_of:∀{b:Addr}{o:Obj},s₁.heap.get? b=Φ o->H b=Ψ->(hidT s₁.heap H).get? b=Φ o:=λe n=>zmd e n;have nsK:∀{b:Addr}{m:Str->Option Θ},s₁.heap.Ns b m->(hidT s₁.heap H).Ns b m:=λ{b m} ⟨o,es,ep,e,d,r⟩=>⟨o,es,ep,base_of e (noD e (λ_ _ z=>by rw[d]at z;cases z) λ_ z=>by rw[d]at z;cases z),d,r⟩;have hKb:K.In (hidT s₁.heap H):=λb o e=>base_of (KX b o e) (by
  rcases cs b with z|⟨⟨p,hp,rfl⟩,_⟩|⟨rfl,z,_⟩;exact z;rw[(tabs p hp).2.1]at e;exact nS e;rw[z]at e;exact nS e)
 have hbm:BM mg (hidT s₁.heap H):=by obtain⟨m,o,h1,h2,h3,h4,h5,h6,h7⟩:=bm;exact⟨m,o,h1,h2,h3,base_of h4 (noD h4 (λ_ _ z=>by rw[h7]at z;cases z) λ_ z=>by rw[h7]at z;cases z),h5,h6,h7⟩
 have hM:Mod K mg (hidT s₁.heap H):=⟨hKb,nsK hns,⟨mb,nsK hb,hbb⟩,let ⟨mc,h1,h2⟩:=hlim;⟨mc,nsK h1,h2⟩⟩;have e0:Env0 P w K mg (hidT s₁.heap H) callerA [] s₁ H:=⟨rfl,hM,λb o e=>zoF e,Nat.le_of_eq (zkr _ _),trivial,λb hb=>absurd (show b∈([]:List Addr) from hb) (by simp),hok,.of_eq hg⟩;refine codeAny_mono ((F _ hKb (nsK hns) hbm).run callerA [] s₁ H ⟨[.ref a],[]⟩ [.ref a] [.ref a] _ _ hr e0 (hbind s₁ (.ref a)) (.cons rfl .nil) (hsp H hx tb)) λr s' h=>?_;cases r with
 |error e=>exact False.elim h| ok fl=>
  cases fl with
  |ret u=>
   obtain⟨v,H',os,bare,un,hok',r',q⟩:=h;have q':v=.bl Γ:=q;subst q';obtain rfl:u=Θ.bool Γ:=r';have old:∀b o,s₁.heap.get? b=Φ o->asItWas s₁.heap s'.heap b o/\∃o',s'.heap.get? b=Φ o':=λb o e=>by rcases cs b with z|⟨⟨p,hp,rfl⟩,z⟩|⟨rfl,_,z⟩;have k:=un.keep b o e z (by intro y;exact absurd (show b∈([]:List Addr) from y) (by simp)) (by simp);exact⟨.inl k,_,k⟩;obtain⟨more,z2⟩:=un.tbls _ _ z;have k:s'.heap.get? p.1=Φ (tabObj (#[]++more)):=hok' _ _ z2;have e':=(tabs p hp).1;rw[e']at e;cases e;exact⟨.inr (.inl ⟨(tabs p hp).2.2,rfl,#[],more,rfl,k⟩),_,k⟩;have z2:=un.frzs _ _ _ z;have k:=(hok' _ _ z2).1;rw[ha]at e;cases e;exact⟨.inl k,_,k⟩
   exact⟨rfl,⟨λb o e=>(old b o e).1,λb o e=>(old b o e).2⟩,os,bare⟩
  |_=>exact False.elim h
def walk_ofT{l:PySem.W.OpenLaw}{K:Params->Frag}{sp:ύ->Sp}(hn:l.most=Φ n)(hn2:n<=sizeLine)(hdf:d.params.defaults=[])(hr:Room k callerA)(hY:∀(w:ύ)(h:Heap),YP w h->(K w.params).In h)(hT:∀(w:ύ)(h:Heap),YP w h->∀p∈Mks.ts,h.get? p.1=Φ (tabObj #[]))(hK:∀(w:ύ),∀p∈Mks.ts,(K w.params).lookup p.1=Ψ/\∃c,codeHdIn (K w.params) c p.1=Γ)(F:∀(w:ύ)(mg:Str->Option Θ)(fa:Addr)(h:Heap),(K w.params).In h->h.Ns mainGlobals mg->mg d.name=Φ (.ref fa)->
   ∃fd:FuncData,(∀(s:Β)(u:Θ),BindsTo s fd ⟨[u],[]⟩ [(x,u)])/\
    ∀base:Heap,(K w.params).In base->base.Ns mainGlobals mg->BM mg base->FnOk l.prog w (K w.params) mg base CX0 k fa fd [x] (sp w))(hsp:∀(w:ύ)(H:Hp)(a:Addr)(ns:List Int),ns.length<=n->FixL (K w.params) H a (ns.map V.int)->TB H->sp w [.ref a] H (λv _=>v=.bl Γ) λ_ _ _=>False):
  PySem.W.WalkO q loose XP YP l.row.toRowW d [] (λf vs=>PySem.call f vs):=by
 refine Att.attach_call hn hdf λw s₀ s₁ mg mb fa o pm cd doc a vs ns G Y ho hd hcd hmg hobj hints hlen hg=>?_;have KX:=hY w _ Y;obtain⟨fd,hb,hF⟩:=F w mg fa _ KX G.T.g hmg;obtain⟨bm,ob,b1,b2,b3,b4,b5,b6⟩:=G.T.bmain;have hbG:bm≠mainGlobals:=λz=>by obtain⟨o,es,ep,e,hd,_⟩:=G.T.g;rw[z,e]at b3;cases b3;rw[hd]at b6;cases b6
 refine zj8 KX G.T.g G.T.b G.T.builtins G.T.nolimit hg ⟨bm,ob,b1,b2,hbG,b3,b4,b5,b6⟩ hobj hints (le_trans hlen hn2) hr (λp hp=>?_) hF hb λH hx tb=>hsp w H a ns hlen hx tb;obtain⟨k1,c,k2⟩:=hK w p hp;have e:=hT w _ Y p hp;exact⟨e,k1,((PySem.W.codeHd_of_K KX k2).tab e).isCodeTable⟩
abbrev zed:CE:=.tup (.cons (.neg (.ix (.loc 0) (.con (.int 1)))) (.cons (.ix (.loc 0) (.con (.int 0))) .nil))
def zrB(S)(k v):evE noCF zed [Φ (.tup [.int k,.int v])] S=.ok (.tup [.int (-v),.int k]) S:=by show Out.ok _ _=_;simp[zed,evEs,lift,Out.bind,zbQ,atI,ixN]
def zl7(I:Inv X pins σ H s)(hr:Room 2 A')(e0:Env0 X.prog X.w X.K X.mg X.base A' X.stack s H)(L:LamAt H f name qual params body scope)(hs:FnScope ["row"] ["row"] scope)(hb:∀(pm cd ct:Θ),bindArgs (kla_fn name qual params body scope [] pm cd ct) ⟨[u],[]⟩=pure [(("row":Str),u)])(ck:chkE noTab zed ["row"] scope body=Γ)(tb:TB H)(ha:H a=Φ (.tup [.int k,.int v]))(hu:L2.RelV (.ref a) u):
  wpAny (model X.prog X.w) A' (call (.ref f) [u]) (λy s'=>∃b H',y=.ref b/\Inv X pins σ H' s'/\H' b=Φ (.tup [.int (-v),.int k])/\Ext [] H [] H'/\Un (frs X.stack) [] H H' s.heap s'.heap) (λ_ _=>False) s:=by
 obtain⟨pm,ct,c',oc,vs,t,h1,h2,h3,h4⟩:=L.ex;have of:=(I.hok f _ h1).1;have oo:=(I.hok c' _ h2).1;refine wpAny_call (codeAny_mono (zj9 (CX:=CX0) (E:=λ_ _ _=>False) (Q:=λw H'=>∃b,w=V.ref b/\H' b=Φ (.tup [.int (-v),.int k])/\Ext [] H [] H') (vs:=[V.ref a]) (us:=[u]) (t:=tE X.K noCF zed) hs hr e0 of ⟨c',oc,vs,t,rfl,oo,h3,h4⟩
  (.of_eq (hb pm _ ct)) (.cons hu .nil) rfl (λhr'=>PE.nox (zae zed (T:=noTab) (k:=0) ⟨rfl,hs.nd,λx e=>e,λx e=>e,λx e=>.inl e,λx e=>e,.inl λ_=>rfl,rfl,rfl,hr',zlT,λz=>absurd (show(["row"]:List Str)=noTab.lam from z) (by decide)⟩ ck)) ?_) λr s' q=>?_)
 refine⟨[Φ (.tup [.int k,.int v])],[],⟨[],[],[]⟩,λd S=>d=.tup [.int (-v),.int k],⟨rfl,λi d hi=>?_⟩,zqt tb,by rw[zrB];exact rfl,?_⟩
 . match i,hi with|0,hi=>cases hi;exact⟨.ref a,rfl,a,_,rfl,ha,_,_,rfl,rfl,_,_,rfl,rfl,rfl⟩|j+1,hi=>simp at hi
 rintro w H' ⟨d,ι',S',x,rv,hh,rfl⟩;obtain⟨b,xs,rfl,hx,p1,p2,rfl,q1,p3,p4,rfl,q3,q4⟩:=rv;cases q1;cases q3;cases q4;exact⟨b,rfl,hx,x.cut⟩;cases r with
 |error e=>exact q.elim| ok fl=>
  cases fl with
  |ret y=>
   obtain⟨w,H',os,bare,un,hok,rv,b,rfl,hb',x⟩:=q;cases y with
   |ref z=>
    have:z=b:=by simpa[L2.RelV]using rv
    exact⟨b,H',by rw[this],I.call' os un hok bare (λb z=>absurd z (by simp)),hb',x,un⟩
   |_=>simp[L2.RelV]at rv
  |_=>exact q.elim
def zlb(f:out.Perm rows)(g:out.Pairwise λa b=>zcV a b=Γ):out=zaQ rows:=by
 refine List.Perm.eq_of_pairwise (le:=λa b=>zcV a b=Γ) (λa b _ _ d e=>?_) g (List.pairwise_mergeSort (λa b c d e=>?_) (λa b=>?_) rows) (f.trans (List.mergeSort_perm rows zcV).symm);obtain⟨h,i⟩:=a;obtain⟨b1,b2⟩:=b;simp only[zcV,decide_eq_true_eq]at d e;have j:h=b1:=by lia
 have k:i=b2:=by lia
 rw[j,k];simp only[zcV,decide_eq_true_eq]at d e⊢;lia;simp only[zcV,Ϝ,decide_eq_true_eq];lia
def zlG{a:Type}{xs:List a}{p:List Nat}(d)(b:p.Perm (List.range xs.length)):(p.map λi=>xs.getD i d).Perm xs:=by have h:=b.map λi=>xs.getD i d;refine h.trans (List.Perm.of_eq ?_);apply List.ext_getElem;simp;intro i e c;simp[c]
section
variable{X:Cx}{pins:List (Addr×Obj)}{σ:L2.St}{H:Hp}{s:Β}{A':ϔ}{D kS:Addr}{rows:List (Int×Int)}
def zgL(ok:HOk P w H h)(e:H b=Φ (.tup [.int x,.int y])):∃(o:Obj) (t u:Tok) (n:Nat),h.get? b=Φ o/\o.cls=.type "tuple"/\o.data=.seq #[.int x t,.int y u] n:=by obtain⟨_,its,r,o,h1,h2,n,h3⟩:=ok b _ e;cases r with| cons r1 r=>cases r with| cons r2 r=>cases r with| nil=>obtain⟨t,rfl⟩:=r1;obtain⟨u,rfl⟩:=r2;exact⟨o,t,u,n,h1,h2,h3⟩
def zrm(ok:HOk X.prog X.w H s.heap)(e:H b=Φ (.tup [.int x,.int y]))(e':H c=Φ (.tup [.int x',.int y']))(q:Q (decide (x<x'\/(x=x'/\y<y'))) s):wpAny (model X.prog X.w) A' (keyLt' (tuples' Γ) (.ref b) (.ref c)) Q E s:=by
 obtain⟨o,t,u,n,h1,_,h3⟩:=zgL ok e;obtain⟨o',t',u',n',h1',_,h3'⟩:=zgL ok e';refine PySem.W.kat_lt h1 h3 h1' h3' (kat_cons (wpAny_eqBool_int ?_));by_cases d:x=x';have ed:(x==x')=Γ:=by simpa using d
 rw[ed];refine PySem.W.kat_yes (kat_cons (wpAny_eqBool_int ?_));by_cases d2:y=y';have ed2:(y==y')=Γ:=by simpa using d2
 rw[ed2];refine PySem.W.kat_yes (PySem.W.kat_nil ?_);have:decide (x<x'\/(x=x'/\y<y'))=decide ((#[Θ.int x t,Θ.int y u]:Array Θ).size<(#[Θ.int x' t',Θ.int y' u']:Array Θ).size):=by rw[decide_eq_false (by lia)];rfl
 rw[this]at q;exact q;have ed2:(y==y')=Δ:=by simpa using d2
 rw[ed2];refine kat_no (kat_one _ _ (wpAny_lt_int ?_));have:decide (x<x'\/(x=x'/\y<y'))=decide (y<y'):=by by_cases z:y<y';rw[decide_eq_true z,decide_eq_true (.inr ⟨d,z⟩)];rw[decide_eq_false z,decide_eq_false (by lia)]
 rw[this]at q;exact q;have ed:(x==x')=Δ:=by simpa using d
 rw[ed];refine kat_no (oneLt_int ?_);have:decide (x<x'\/(x=x'/\y<y'))=decide (x<x'):=by by_cases z:x<x';rw[decide_eq_true z,decide_eq_true (.inl z)];rw[decide_eq_false z,decide_eq_false (by lia)]
 rw[this]at q;exact q
def zhG(ok:HOk P w H h):∀(ks:List Θ),(∀k∈ks,∃b x y,k=Θ.ref b/\H b=Φ (.tup [.int x,.int y]))->∃fs:List Θ,KatTups h ks fs/\fs.length=ks.length/\∀v∈fs,∃n t,v=Θ.int n t
 | [],_=>⟨[],KatTups.nil,rfl,λv h=>by cases h⟩| k::ks,hk=>by obtain⟨fs,h1,h2,h3⟩:=zhG ok ks λk h=>hk k (Ο _ h);obtain⟨b,x,y,rfl,e⟩:=hk k ϋ;obtain⟨o,t,u,n,g1,g2,g3⟩:=zgL ok e;refine⟨.int x t::fs,KatTups.cons g1 g2 g3 rfl h1,by simp[h2],λv hv=>?_⟩;rcases mem_cons.mp hv with rfl|hv;exact⟨x,t,rfl⟩;exact h3 v hv
def zl6{ks:List Θ}(ok:HOk X.prog X.w H s.heap)(hk:∀k∈ks,∃b x y,k=Θ.ref b/\H b=Φ (.tup [.int x,.int y]))(h1:1<=ks.length)(q:Q (tuples' Γ) s):
  wpAny (model X.prog X.w) A' (keyKind' ks.toArray) Q E s:=by
 obtain⟨fs,t1,t2,t3⟩:=zhG ok ks hk;refine PySem.W.kat_kind (T:=.type "int") t1 (by lia) (λv hv=>?_) rfl q;obtain⟨n,t,rfl⟩:=t3 v hv;exact .now
end
abbrev LtR(a b:Int×Int):Prop:=-a.2 < -b.2\/(-a.2 = -b.2/\a.1<b.1)
noncomputable instance:DecidableRel LtR:=λa b=>inferInstanceAs (Decidable (-a.2 < -b.2\/(-a.2 = -b.2/\a.1<b.1)))
abbrev RowA(H:Hp)(a:Addr)(r:Int×Int):Prop:=H a=Φ (.tup [.int r.1,.int r.2])
abbrev KeyA(H:Hp)(b:Addr)(r:Int×Int):Prop:=H b=Φ (.tup [.int (-r.2),.int r.1])
def ordR:Ord LtR:=by refine⟨λr=>by unfold LtR;lia,λ{a b c} h k=>by unfold LtR at *;lia,λ{a b} h=>?_⟩;obtain⟨x,y⟩:=a;obtain⟨u,v⟩:=b;unfold LtR;dsimp only;by_cases e:y=v;subst e;have:x≠u:=λz=>h (by rw[z]);lia;lia
def zp1{X:Cx}{pins:List (Addr×Obj)}{σ:L2.St}{H:Hp}{A':ϔ}{f:Addr}{name qual:Str}{params:Arguments}{body:Expr}{scope:Scope}(hr:Room 2 A')(e0:∀H s,Inv X pins σ H s->Env0 X.prog X.w X.K X.mg X.base A' X.stack s H)(L:LamAt H f name qual params body scope)(hs:FnScope ["row"] ["row"] scope)
  (hb:∀(pm cd ct u:Θ),bindArgs (kla_fn name qual params body scope [] pm cd ct) ⟨[u],[]⟩=pure [(("row":Str),u)]) (ck:chkE noTab zed ["row"] scope body=Γ) (tb:TB H):SortK X pins σ A' H f RowA KeyA (tuples' Γ) LtR where
 upR:=λk h=>k.tups _ _ h
 upK:=λk h=>k.tups _ _ h
 call:=λI x ha=>zl7 I hr (e0 _ _ I) (L.up x.kp) hs (λ_ _ _=>hb _ _ _ _) ck (x.kp.tab tb) ha rfl
 kind:=λI hk h1 q=>zl6 I.hok (λk hm=>(hk k hm).elim λb z=>z.elim λr z=>⟨b,_,_,z.1,z.2⟩) h1 q
 less:=λI h1 h2 q=>zrm I.hok h1 h2 q
 ord:=ordR
 fn:=λ{_ _ r r'} p q=>by unfold KeyA at p q;rw[p]at q;injection q with q;injection q with q;simp only[List.cons.injEq,V.int.injEq,and_true]at q;exact Prod.ext q.2 (by lia)
def PlcG.tally(h:PlcG LtR rows p):(p.map λi=>rows.getD i (0,0))=zaQ rows:=zlb (zlG _ h.perm) (h.asc.imp λ{a b} z=>by simp only[zcV,decide_eq_true_eq];unfold LtR at z;lia)
section
variable{X:Cx}{pins:List (Addr×Obj)}{σ:L2.St}{H H':Hp}{s:Β}{b:Addr}{o:HO}
def zef:∀(as:List Addr)(rows:List (Int×Int)){H:Hp},Inv X pins σ H s->as.length=rows.length->as.Pairwise (· < ·)->(∀a∈as,Own X pins a/\H a=Ψ)->
  (∀(j:Nat)(a:Addr),as[j]?=Φ a->∃(r:Int×Int) (t u:Tok),rows[j]?=Φ r/\s.heap.get? a=Φ {cls:=.type "tuple",data:=.seq #[.int r.1 t,.int r.2 u]})->
  ∃H',Inv X pins σ H' s/\Ext [] H [] H'/\(∀c,c∉as->H' c=H c)/\∀(j:Nat)(a:Addr),as[j]?=Φ a->∃r:Int×Int,rows[j]?=Φ r/\H' a=Φ (.tup [.int r.1,.int r.2])
 | [],rows,H,I,hl,_,_,_=>⟨H,I,Ext.refl _ _,λc _=>rfl,λj a e=>by simp at e⟩|a::as,[],H,I,hl,_,_,_=>by simp at hl| a::as,r::rows,H,I,hl,hp,ho,hq=>by
  obtain⟨oa,na⟩:=ho a ϋ;obtain⟨r',t,u,e1,e2⟩:=hq 0 a rfl;cases e1;have hp':=ϣ.mp hp;have I1:Inv X pins σ (upd H a (.tup [.int r.1,.int r.2])) s:=zbX I oa na ⟨by simp[Τ],[.int r.1 t,.int r.2 u],.cons ⟨t,rfl⟩ (.cons ⟨u,rfl⟩ .nil),_,e2,rfl,_,rfl⟩;obtain⟨H',J,x,k,q⟩:=zef as rows I1 (by simpa using hl) hp'.2 (λc hc=>⟨(ho c (Ο _ hc)).1,by
   rw[zah (ne_of_gt (hp'.1 c hc))];exact(ho c (Ο _ hc)).2⟩) λj c e=>hq (j+1) c (by simpa using e)
  refine⟨H',J,(zfi na).trans x,λc hc=>?_,λj c e=>?_⟩;rw[k c (λz=>hc (Ο _ z)),zah (λz=>hc (by rw[z];exact ϋ))];cases j with|zero=>cases e;exact⟨r,rfl,x.kp.tups _ _ zak⟩|succ j=>exact q j c (by simpa using e)
end
abbrev zbs(rows:List (Int×Int)):List (Key×V):=rows.map λr=>(.inl r.1,.int r.2)
def zkb:∀{rows:List (Int×Int)}{vs:List (Key×Θ)},KV (zbs rows) vs->vs.length=rows.length/\∀(j:Nat) k v,vs[j]?=Φ (k,v)->∃(r:Int×Int) (t:Tok),rows[j]?=Φ r/\k=.inl r.1/\v=.int r.2 t
 | [],vs,h=>by cases h;exact⟨rfl,λj k v e=>by simp at e⟩| r::rows,vs,h=>by cases h with| cons h1 h2=>rename_i q vs;obtain⟨a,c⟩:=zkb h2;refine⟨by simp[a],λj k v e=>?_⟩;cases j with| zero=>cases e;obtain⟨e1,t,e2⟩:=h1;exact⟨r,t,rfl,e1.symm,e2⟩|succ j=>exact c j k v (by simpa using e)
section
variable{X:Cx}{pins:List (Addr×Obj)}{σ:L2.St}{H:Hp}{s:Β}{d r f:Addr}{rows:List (Int×Int)}{name qual:Str}{params:Arguments}{body:Expr}{scope:Scope}
structure Tld(X:Cx)(pins:List (Addr×Obj))(σ:L2.St)(H:Hp)(rows:List (Int×Int))(D:Addr)(s':Β):Prop where
 ex:∃(H':Hp) (ts:List Addr),Inv X pins σ H' s'/\Ext [] H [] H'/\H D=Ψ/\H' D=Φ (.lst (ts.map V.ref))/\ts.length=rows.length/\∀(j:Nat)(t:Addr),ts[j]?=Φ t->∃q:Int×Int,(zaQ rows)[j]?=Φ q/\H' t=Φ (.tup [.int q.1,.int q.2])
def zjh(I:Inv X pins σ H s)(hh:X.A.handled=Ψ)(hr:Room 2 X.A.in1.in1)(L:LamAt H f name qual params body scope)(hs:FnScope ["row"] ["row"] scope)(hb:∀(pm cd ct u:Θ),bindArgs (kla_fn name qual params body scope [] pm cd ct) ⟨[u],[]⟩=pure [(("row":Str),u)])(ck:chkE noTab zed ["row"] scope body=Γ)(tb:TB H)(hd:H d=Φ (.dK (zbs rows)))(hv:s.heap.IsItemsView r d)(h64:rows.length<64)(q:∀D s',Tld X pins σ H rows D s'->Q (.ref D) s'):
  wpAny (model X.prog X.w) X.A (call (.builtin "sorted") [.ref r] [(Str.ofString "key",.ref f)]) Q E s:=by
 obtain⟨_,hsys,vs,kv,od,es,ep,ho,hex,hda,hko,hpr,hnd⟩:=I.hok d _ hd;obtain⟨vlen,vat⟩:=zkb kv;have hm:s.heap.DictAt (zar X.prog X.w) d vs ep:=⟨od,es,ho,hex,hda,hko,hpr,hnd⟩;refine call_function_entry_kw kind_sorted plain_sorted entry_sorted (ksk_s1 _ _) ?_;unfold Builtin.«sorted»;refine Α (m:=checkCount "sorted" 1 1 _) (Ν (Α ?_));refine PySem.W.kdx_collect (A:=X.A.in1) (knd:=zar X.prog X.w) (kvs:=vs) (ep:=ep) hh hv hm (by rw[vlen,Τ];lia) λh1 tk as keep alen kg=>?_;have I1:Inv X pins σ H {s with heap:=h1,toks:=tk}:=zaD (g':=s.gens) (t':=tk) (d':=s.drawn) (ch:=[]) I (λb hb=>by cases hb) (λb hb=>by cases hb) (λb o _ e=>keep b o e) I.bare;have pairs:∀(j:Nat)(a:Addr),as[j]?=Φ a->∃(p:Int×Int) (t u:Tok),rows[j]?=Φ p/\h1.get? a=Φ {cls:=.type "tuple",data:=.seq #[.int p.1 t,.int p.2 u]}:=λj a ha=>by obtain⟨key,k,x,e1,e2,e3⟩:=kg.pairs j a ha;obtain⟨p,t,p1,p2,p3⟩:=vat j k x e1;subst p2 p3;rw[zit]at e2;rcases zau e2 with⟨i,u,z1,z2⟩|⟨x',u,z1,z2⟩;cases z1;subst z2;exact⟨p,u,t,p1,e3⟩;cases z1
 obtain⟨H1,I2,x1,out1,rowsAt⟩:=zef (s:={s with heap:=h1,toks:=tk}) as rows I1 (by rw[alen,vlen]) kg.rise (λa ha=>⟨Own.fresh I (le_of_lt (kg.above a ha)),I.hok.fresh (le_of_lt (kg.above a ha))⟩) pairs;have alen':as.length=rows.length:=by rw[alen,vlen]
 refine Α (wpAny_newList ?_ (by rw[length_map,alen',Τ];lia));have I3:Inv X pins σ H1 {s with heap:=h1.push (seqObj "list" (as.map Θ.ref).toArray 0),toks:=tk}:=zaD (s:={s with heap:=h1,toks:=tk}) (g':=s.gens) (t':=tk) (d':=s.drawn) (ch:=[]) I2 (λb hb=>by cases hb) (λb hb=>by cases hb) (λb o _ e=>Λ _ e) I.bare;have lD:zfm {s with heap:=h1.push (seqObj "list" (as.map Θ.ref).toArray 0),toks:=tk} h1.objs.size (as.map Θ.ref) 0:=Κ _ rfl;have oD:Own X pins h1.objs.size:=Own.fresh I2 (le_refl _);have dN:H1 h1.objs.size=Ψ:=I2.hok.fresh (le_refl _);have dN0:H h1.objs.size=Ψ:=I1.hok.fresh (le_refl _);refine Α (wpAny_holding (wpAny_call_entry_kw slot_list_sort ⟨_,lD,rfl⟩ entry_list_sort ?_ (ksk_l1 _ _)));refine zpN (D:=h1.objs.size) (as:=as) (rows:=rows) I3 (zp1 hr (λH s J=>J.env0.in1.in1) (L.up x1.kp) hs hb ck (x1.kp.tab tb)) alen' (lt_trans h64 (by decide)) ?_ oD dN lD rowsAt λp s' pl ke=>⟨_,rfl,?_⟩;have hn:(vs.map (·.1)).Nodup:=hnd;have e:(vs.map (·.1))=(rows.map (·.1)).map Sum.inl:=by
  apply List.ext_getElem;simp[vlen];intro i g1 g2;have gi:i<vs.length:=by simpa using g1
  obtain⟨p,t,p1,p2,p3⟩:=vat i vs[i].1 vs[i].2 (by rw[getElem?_eq_getElem gi]);have gr:i<rows.length:=by lia
  rw[getElem?_eq_getElem gr]at p1;cases p1;simpa using p2
 rw[e]at hn;rw[List.nodup_iff_pairwise_ne,Ϙ,Ϙ]at hn;rw[List.nodup_iff_pairwise_ne];exact hn.imp λh z=>h (by rw[z]);refine Ν ⟨_,rfl,q _ s' ?_⟩;obtain⟨H2,e,J,x2,dN2,lst⟩:=ke.ex;have eo:(p.map λi=>(as.map Θ.ref).getD i Θ.none)=(p.map λi=>as.getD i 0).map Θ.ref:=by
  rw[map_map];refine Ρ λi hi=>?_;have:=pl.lt' i hi;have gi:i<as.length:=by lia
  simp[gi]
 rw[eo]at lst;have plen:p.length=rows.length:=by rw[pl.perm.length_eq];simp
 have tup2:∀(j:Nat)(t:Addr),(p.map λi=>as.getD i 0)[j]?=Φ t->∃q:Int×Int,(zaQ rows)[j]?=Φ q/\H2 t=Φ (.tup [.int q.1,.int q.2]):=λj t hj=>by
  rw[getElem?_map]at hj;cases ej:p[j]? with
  |none=>rw[ej]at hj;exact nS hj
  |some i=>rw[ej]at hj;cases hj;have hi:=pl.lt' i (mem_of_getElem? ej);obtain⟨w,w1,w2⟩:=rowsAt i (as.getD i 0) (getD_mem 0 (by lia));refine⟨w,?_,x2.kp.tups _ _ w2⟩;rw[<-pl.tally,getElem?_map,ej];show Φ (rows.getD i (0,0))=Φ w;rw[Υ,w1];rfl
 have dne:∀t o,H2 t=Φ o->t≠h1.objs.size:=λt o h=>zai h dN2;refine⟨upd H2 h1.objs.size (.lst ((p.map λi=>as.getD i 0).map V.ref)),p.map λi=>as.getD i 0,zbX J oD dN2 ⟨by simp[plen,Τ];lia,_,e,?_,lst⟩,(x1.trans x2).trans (zfi dN2),dN0,zak,by simp[plen],λj t hj=>?_⟩;generalize(p.map λi=>as.getD i 0)=ts;induction ts with|nil=>exact .nil|cons t ts ih=>exact .cons rfl ih
 obtain⟨w,w1,w2⟩:=tup2 j t hj;exact⟨w,w1,by rw[zah (dne t _ w2)];exact w2⟩
end
structure M0(X:Cx)(o:Expr)(m:Str)(apos cpos:Pos):Prop where
 base:attributeBase o m X.env (eval o X.env)=eval o X.env
 few:((backTo cpos (starEach [] X.env)).all (λx=>!x.1)&&(backToKw cpos (keywordEach [] X.env)).all (λx=>x.1.isSome)&&decide (([]:List Expr).length+([]:List Keyword).length+(if([]:List Keyword).isEmpty then 0 else 1)<30))=Γ
 line:(apos.endLine==cpos.line)=Γ
noncomputable abbrev zdw(d:Addr):Obj:={cls:=.type "dict_items",data:=.fields #[.ref d]}
abbrev zjf(td:TE):TE:=λσ H Q=>td σ H λx H1=>∃d rows,x=.ref d/\H1 d=Φ (.dK (zbs rows))/\∀v,H1 v=Ψ->Q (.ref v) (upd H1 v (.frz (zdw d) (.own 0)))
def zlL(ho:PE X o td)(m:M0 X o "items" apos cpos):PE X (.Call (.Attribute o "items" apos) [] [] cpos) (zjf td):=by intro pins s σ H Q I h;refine wpAny_Call_method m.base m.few m.line PySem.F.plainAttrs_dict PySem.F.slot_dict_items PySem.F.type_dict_items (thn (ho pins s σ H _ I h) λu s1 z=>?_);obtain⟨x,H1,I1,rx,d,rows,ex,hd,q1⟩:=z;subst ex;obtain rfl:u=Θ.ref d:=rx;obtain⟨t1,t2,t3⟩:=zkp I1 (.inl ⟨_,.inl hd⟩);obtain⟨_,_,vs,_,hD⟩:=I1.hok d _ hd;refine⟨t1,t2,?_⟩;refine Calls.callWith_builtin rfl (PyProof.Rows.evalArgs_none ?_);refine PySem.call_meetsIn PySem.F.slot_dict_items hD.typeIs PySem.F.entry_dict_items (PySem.F.args_dict_items_1 _) (meets_dict_items (zar X.prog X.w) d t3) ⟨⟨vs,hD⟩,?_⟩;have hn:H1 s1.heap.objs.size=Ψ:=I1.hok.fresh (le_refl _);have I2:Inv X pins σ H1 {s1 with heap:=s1.heap.push (zdw d)}:=zaD (g':=s1.gens) (t':=s1.toks) (d':=s1.drawn) (ch:=[]) I1 (λb hb=>by cases hb) (λb hb=>by cases hb) (λb o _ e=>Λ _ e) I1.bare;have I3:=zbX (o:=.frz (zdw d) (.own 0)) I2 (Own.fresh I1 (le_refl _)) hn ⟨Κ _ rfl,_,Κ _ rfl⟩;exact⟨.ref s1.heap.objs.size,_,I3,rfl,q1 _ hn⟩
abbrev zni(Q:VK)(w:V)(H1:Hp):Prop:=∃v d rows,w=.ref v/\H1 v=Φ (.frz (zdw d) (.own 0))/\H1 d=Φ (.dK (zbs rows))/\rows.length<64/\TB H1/\
 ∀(D:Addr)(H2:Hp)(ts:List Addr),Ext [] H1 [] H2->H1 D=Ψ->H2 D=Φ (.lst (ts.map V.ref))->ts.length=rows.length->
  (∀(j:Nat)(t:Addr),ts[j]?=Φ t->∃r:Int×Int,(zaQ rows)[j]?=Φ r/\H2 t=Φ (.tup [.int r.1,.int r.2]))->Q (.ref D) H2
abbrev zpR(td:TE):TE:=λσ H Q=>zjf td σ H (zni Q)
def zjd(I2:Inv X pins σ H2 s2)(hu:Room 2 X.A.in1.in1)(hs:FnScope ["row"] ["row"] scope)(hb:∀(pm cd ct u:Θ),bindArgs (kla_fn "<lambda>" q params body scope [] pm cd ct) ⟨[u],[]⟩=pure [(("row":Str),u)])(ck:chkE noTab zed ["row"] scope body=Γ)(L:LamAt H2 f "<lambda>" q params body scope)(tb:TB H1)(x2:Ext [] H1 [] H2)(hv:H1 v=Φ (.frz (zdw d) (.own 0)))(hd:H1 d=Φ (.dK (zbs rows)))(h64:rows.length<64)(q1:∀(D:Addr)(H2:Hp)(ts:List Addr),Ext [] H1 [] H2->H1 D=Ψ->H2 D=Φ (.lst (ts.map V.ref))->ts.length=rows.length->(∀(j:Nat)(t:Addr),ts[j]?=Φ t->∃r:Int×Int,(zaQ rows)[j]?=Φ r/\H2 t=Φ (.tup [.int r.1,.int r.2]))->Q (.ref D) H2):
  wpAny (model X.prog X.w) X.A (call (.builtin "sorted") [.ref v] [(Str.ofString "key",.ref f)]) (EP X pins σ Q) X.xe s2:=by
 have hv2:=x2.keep (by simp) hv (by simp);have hd2:=x2.keep (by simp) hd (by simp);have vw:s2.heap.IsItemsView v d:=⟨_,(I2.hok v _ hv2).1,rfl,rfl⟩;refine zjh I2 hu.hd hu L hs hb ck (x2.kp.tab tb) hd2 vw h64 λD s3 tl=>?_;obtain⟨H3,ts,I3,x3,dn,dl,tl,tt⟩:=tl.ex;refine⟨.ref D,H3,I3,rfl,q1 D H3 ts (x2.trans x3) ?_ dl tl tt⟩;cases e:H1 D with|none=>rfl| some o=>exfalso;have:=(x2.rest D o (by simp) e).1;rw[dn]at this;rcases this with z|⟨_,_,z⟩<;>exact nS z
section
variable{X:Cx}{o:Expr}{p apos cpos kpos lpos pos:Pos}{td:TE}{c P:Addr}{params:Arguments}{body:Expr}{scope:Scope}
def zlH(ho:PE X o td)(m:M0 X o "items" apos cpos)(hg:Gl X "sorted")(hm:X.mg "sorted"=Ψ)(hu:Room 2 X.A.in1.in1)(mk:Maker X c P)(hdef:defaultsOf params X.env=([],[]))(hcl:closureFor scope X.env=pure [])(hs:FnScope ["row"] ["row"] scope)
  (hb:∀(pm cd ct u:Θ),bindArgs (kla_fn "<lambda>" (X.env.qual ++ "<lambda>") params body scope [] pm cd ct) ⟨[u],[]⟩=pure [(("row":Str),u)]) (ck:chkE noTab zed ["row"] scope body=Γ) :
  PE X (.Call (.Name "sorted" p) [.Call (.Attribute o "items" apos) [] [] cpos] [⟨Φ "key",.Lambda params body scope lpos,kpos⟩] pos) (zpR td):=by
 intro pins s σ H Q I h;refine ϕ (zcL I hg hm (by rfl:bootBuiltins "sorted"=Φ (.builtin "sorted")) ?_ (by decide) (by decide));have ha:PA X [.Call (.Attribute o "items" apos) [] [] cpos] (zeI (zjf td) tNil):=zbo (zlL ho m) zdO;have hk:PK X [⟨Φ "key",.Lambda params body scope lpos,kpos⟩] (zeI (tLam (X.env.qual ++ "<lambda>") params body scope) tNil):=zgB (zmY mk hdef hcl) zjJ;refine PyProof.Rows.callWith_builtin_kwB rfl rfl (PyProof.Rows.evalArgs_kw2 rfl (thn (ha pos pins s σ H (oneK (zni Q)) I h) λus s1 z=>?_));obtain⟨vs,H1,I1,r1,k1⟩:=z;obtain⟨w,rfl,v,d,rows,ew,hv,hd,h64,tb,q1⟩:=zcH k1;subst ew;obtain⟨u,rfl,ru⟩:=Vals.one r1;obtain rfl:u=Θ.ref v:=ru;refine thn (hk pos pins s1 σ H1 (oneK λw2 H2=>∃f,w2=.ref f/\LamAt H2 f "<lambda>" (X.env.qual ++ "<lambda>") params body scope/\Ext [] H1 [] H2) I1 ⟨tb,λf H2 L S=>⟨f,rfl,L,S⟩⟩) λws s2 z=>?_;obtain⟨zs,H2,I2,r2,k2⟩:=z;obtain⟨w2,rfl,f,ef,L,st⟩:=zcH k2;subst ef;obtain⟨u2,rfl,ru2⟩:=Vals.one r2;obtain rfl:u2=Θ.ref f:=ru2;exact zjd I2 hu hs hb ck L tb st hv hd h64 q1
end
def zod[DecidableEq κ]{x:κ×V}{r:List (κ×V)}{k:κ}(h:x.1≠k):putK (x::r) k v=x::putK r k v:=by unfold putK;have:decide (x.1=k)=Δ:=decide_eq_false h;simp only[any_cons,this,Bool.false_or];split;rw[Μ,if_neg h];rfl
def zhs:∀(rows:List (Int×Int))(w:Int),(rows.map (·.1)).Nodup->∃c:Int,(valV (zbs rows) (.inl w)).getD (.int 0)=.int c/\putK (zbs rows) (.inl w) (.int (c+1))=zbs (bump rows w)
 | [],w,_=>⟨0,rfl,rfl⟩| (k,c)::r,w,nd=>by
  simp only[Μ,nodup_cons]at nd;by_cases e:k=w;subst e;refine⟨c,by simp[zbs,valV],?_⟩;have hm:(zbs r).map (λkv=>if kv.1=(Sum.inl k:Key) then(kv.1,V.int (c+1)) else kv)=zbs r:=by rw[Ρ (g:=id),List.map_id];intro kv hkv;unfold zbs at hkv;obtain⟨q,hq,rfl⟩:=mem_map.mp hkv;have:q.1≠k:=λz=>nd.1 (z▸mem_map.mpr ⟨q,hq,rfl⟩);simp[this]
  have hd:zbs ((k,c)::r)=(.inl k,.int c)::zbs r:=rfl;unfold bump;rw[if_pos rfl,hd];unfold putK;have:(((Sum.inl k:Key),V.int c)::zbs r).any (λkv=>decide (kv.1=Sum.inl k))=Γ:=by simp
  rw[if_pos this,Μ,hm,if_pos rfl];rfl;obtain⟨d,h1,h2⟩:=zhs r w nd.2;have hne:(Sum.inl k:Key)≠Sum.inl w:=λz=>e (Sum.inl.inj z);have hd:zbs ((k,c)::r)=(.inl k,.int c)::zbs r:=rfl;refine⟨d,?_,?_⟩;rw[hd,<-h1];unfold valV;rw[List.find?_cons_of_neg (by simpa using e)];rw[hd,zod hne,h2];have hb:bump ((k,c)::r) w=(k,c)::bump r w:=by rw[bump,if_neg e]
  rw[hb];rfl
section
variable{X:Cx}{p1 p2 p3 p4 p5 p6 p7 p8 p9 p10 p11 p12 p13 p14 p15 p16 p17 p18 p19 p20 p21 p22 p23 p24 p25 p26 p27 p28 p29:Pos}{k7 k15 k17:Nat}{params:Arguments}{body:Expr}{scope:Scope}
abbrev zmD(p1 p2 p3 p4 p5 p6 p7 p8 p9 p10 p11 p12 p13 p14 p15 p16 p17 p18 p19 p20 p21 p22 p23 p24 p25 p26 p27 p28 p29:Pos)(params:Arguments)(body:Expr)(scope:Scope):List Stmt:=
 [.Assign [.Name "counts" p1] (.Dict [] [] p2) p3,
  .For (.Name "word" p4) (.Name "words" p5) [.If (.Compare (.Name "word" p6) [.IsNot] [.Constant .none 0 p7] p8)
   [.Assign [.Subscript (.Name "counts" p9) (.Name "word" p10) p11] (.BinOp (.Call (.Attribute (.Name "counts" p12) "get" p13) [.Name "word" p14,.Constant (.int 0) 0 p15] [] p16) .Add (.Constant (.int 1) 0 p17) p18) p19] [] p20] [] p21,
  .Return (Φ (.Call (.Name "sorted" p22) [.Call (.Attribute (.Name "counts" p23) "items" p24) [] [] p25] [⟨Φ "key",.Lambda params body scope p26,p27⟩] p28)) p29]
abbrev znu(K:Frag):TS:=tIfS (znt (tOp (λx y H Q=>y=.non/\Q (.bl (!decide (x=.non))) H) (tVar 2) (tC .non))) (zqr (tVar 1) (tVar 2) (tOp (rI0 λi j=>.int (i+j)) (zmF (tVar 1) (tVar 2) (tC (.int 0))) (tC (.int 1)))) zpS
def zlC(hN:X.N=[("words":Str),"counts","word"])(h0:X.env.scope.names.lookup ("words":Str)=Φ .local)(h1:X.env.scope.names.lookup ("counts":Str)=Φ .local)(h2:X.env.scope.names.lookup ("word":Str)=Φ .local)(hc:X.calm=Γ)(hx:X.xe=λ_ _=>False)(hu:X.A.units+1<cLine)(m2:M2 X (.Name "counts" p12) "get" p13 (.Name "word" p14) (.Constant (.int 0) 0 p15) p16)(hs:swapsWith (.BinOp (.Call (.Attribute (.Name "counts" p12) "get" p13) [.Name "word" p14,.Constant (.int 0) 0 p15] [] p16) .Add (.Constant (.int 1) 0 p17) p18) (Φ (.Subscript (.Name "counts" p9) (.Name "word" p10) p11)) p19.line X.env=pure Δ)(hw:swapsWith (.Dict [] [] p2) (Φ (.Name "counts" p1)) p3.line X.env=pure Δ)(hr:PE X (.Call (.Name "sorted" p22) [.Call (.Attribute (.Name "counts" p23) "items" p24) [] [] p25] [⟨Φ "key",.Lambda params body scope p26,p27⟩] p28) tr):
  PSs X (zmD p1 p2 p3 p4 p5 p6 p7 p8 p9 p10 p11 p12 p13 p14 p15 p16 p17 p18 p19 p20 p21 p22 p23 p24 p25 p26 p27 p28 p29 params body scope)
   (tSeq (tAsg zjg (zff 1)) (tSeq (tFor (zo0 X.K (tVar 0)) (zff 2) (znu X.K)) (tRet tr))):=by
 have n0:X.N[0]?=Φ ("words":Str):=by rw[hN];rfl
 have n1:X.N[1]?=Φ ("counts":Str):=by rw[hN];rfl
 have n2:X.N[2]?=Φ ("word":Str):=by rw[hN];rfl
 have nd:X.N.Nodup:=by rw[hN];decide
 have v0:∀{p:Pos},PE X (.Name "words" p) (tVar 0):=zdN n0 (.inl h0);have v1:∀{p:Pos},PE X (.Name "counts" p) (tVar 1):=zdN n1 (.inl h1);have v2:∀{p:Pos},PE X (.Name "word" p) (tVar 2):=zdN n2 (.inl h2);have hp:PassesOwn (model X.prog X.w) X.A X.env X.xe:=by rw[hx];exact PassesOwn.never
 refine zaB (zjE nd n1 (.inl h1) zhv hw (.inr h1)) (zaB (zmV hp hc (zos v0) (zgC nd n2 (.inl h2) (.inr h2)) (zeW (zoi (zgx zoB v2 zmX (zm1 _)) (zeW (zok hu v1 v2 (zqO zm0 (zhw hu v1 v2 zfF m2) zfF) hs)) zgy))) (zeW (zjF hr)))
def zeH{os:List (Option Int)}(h:os[i]?=Φ o):os.take (i+1)=os.take i++[o]:=by rw[List.take_add_one,h];rfl
def zgW(kvs)(os)(o):zad kvs (os++[o])=match o with|some x=>bump (zad kvs os) x|none=>zad kvs os:=by unfold zad;rw[List.foldl_append];cases o<;>rfl
def zjq{K}{os}(hD:D0.rt=Q)(ha:H a=Φ (.lst (os.map wV)))(hl:os.length<=sizeLine)(fin:∀(p:Addr)(σ:L2.St),H p=Ψ->σ[1]?=Φ (Φ (.ref p))->tr σ (upd H p (.dK (zbs (zad [] os)))) Q):
  (tSeq (tAsg zjg (zff 1)) (tSeq (tFor (zo0 K (tVar 0)) (zff 2) (znu K)) (tRet tr))) D0 (start ["words","counts","word"] [.ref a]) H:=by
 intro p hp;have nap:a≠p:=zai ha hp;refine⟨.ref a,rfl,a,rfl,⟨_,SqL.of ((zah nap).trans ha)⟩,?_⟩;refine zmi (xs:=os.map wV) (λi σ H'=>(∃z,σ=[Φ (.ref a),Φ (.ref p),z])/\H'=upd H p (.dK (zbs (zad [] (os.take i))))) ⟨⟨Ψ,rfl⟩,rfl⟩ (λi σ H' _ h=>?_) (λi x σ H' hx h=>?_) λσ H' h=>?_;rw[h.2];exact SqL.of ((zah nap).trans ha);obtain⟨⟨z,rfl⟩,rfl⟩:=h;rw[getElem?_map]at hx;cases e:os[i]? with
 |none=>rw[e]at hx;exact nS hx
 |some o=>
  rw[e]at hx;cases hx;have hi:i<os.length:=(Ω.mp e).1;show znu K _ [Φ (.ref a),Φ (.ref p),Φ (wV o)] _;refine⟨wV o,rfl,rfl,_,rfl,?_⟩;rw[zeH e,zgW];cases o with
  |none=>exact⟨⟨_,rfl⟩,rfl⟩| some w=>
   obtain⟨c,c1,c2⟩:=zhs (zad [] (os.take i)) w (zaA _ List.nodup_nil);have hlen:(zbs (zad [] (os.take i))).length<sizeLine:=by have:=zeu (os.take i);rw[length_take]at this;unfold zbs;rw[length_map];lia
   refine⟨.ref p,rfl,p,rfl,.inl ⟨_,.inl zak⟩,.int w,rfl,_,DGet.k (k:=.inl w) zak,c,1,c1,rfl,.ref p,rfl,.int w,rfl,p,_,rfl,DPut.k (k:=.inl w) zak hlen,⟨⟨_,rfl⟩,?_⟩⟩;rw[zno,c2]
 obtain⟨⟨z,rfl⟩,rfl⟩:=h;rw[length_map,List.take_length];show tr _ _ D0.rt;rw[hD];exact fin p _ hp rfl
def zh5{K}{os}{ts:List Addr}(hh:RH K ι H S)(hp:H p=Ψ)(hv:upd H p o1 v=Ψ)(x:Ext [] (upd (upd H p o1) v o2) [] H2)(hD:upd (upd H p o1) v o2 D0=Ψ)(h2:H2 D0=Φ (.lst (ts.map V.ref)))(hl:ts.length=(zad [] os).length)(ht:∀(j:Nat)(t:Addr),ts[j]?=Φ t->∃r:Int×Int,(zaQ (zad [] os))[j]?=Φ r/\H2 t=Φ (.tup [.int r.1,.int r.2])):
  Ext ι H (ι++[D0]) H2/\RH K (ι++[D0]) H2 (S.push (.lst (talD os))):=by
 have k1:Kp H (upd (upd H p o1) v o2):=(Kp.new hp o1).trans (Kp.new hv o2);have up:∀a o,H a=Φ o->upd (upd H p o1) v o2 a=Φ o:=λa o e=>by have e1:upd H p o1 a=Φ o:=(zah (zai e hp)).trans e;exact(zah (zai e1 hv)).trans e1
 have hDn:H D0=Ψ:=by cases e:H D0 with|none=>rfl|some o=>rw[up _ _ e]at hD;cases hD
 have hDi:D0∉ι:=hh.fresh hDn;have ex:Ext ι H (ι++[D0]) H2:=⟨ϖ _ _,k1.trans x.kp,λa o h e=>⟨(x.rest a o (by simp) (up a o e)).1,λz=>by rcases mem_append.mp z with z|z;exact h z;simp at z;exact zai e hDn z⟩⟩;refine⟨ex,hh.add ex (λa hm=>?_) hDi ⟨_,h2,RVs.ofGet ?_ λi d w e1 e2=>?_⟩⟩;obtain⟨o,e,_,_,nt⟩:=hh.live hm;rw[e];exact x.keep (by simp) (up a o e) nt;unfold talD;rw[length_map,length_map,hl];unfold zaQ;rw[List.length_mergeSort];rw[getElem?_map]at e2;unfold talD at e1;rw[getElem?_map]at e1;cases z:ts[i]? with
 |none=>rw[z]at e2;exact nS e2
 |some t=>rw[z]at e2;cases e2;obtain⟨r,r1,r2⟩:=ht i t z;rw[r1]at e1;cases e1;exact⟨t,_,rfl,r2,_,_,rfl,rfl,_,_,rfl,rfl,rfl⟩
end
def zeX(h:W (prm S .tally ds) Q):∃l ws os,ds=[.ref l]/\S.get l=Φ (.lst ws)/\za5 ws=Φ os/\(zad [] os).length<64/\os.length<=16777216/\Q (.ref S.len) (S.push (.lst (talD os))):=by unfold prm at h;split at h;rename_i l _;split at h;rename_i ws e;split at h;rename_i os e2;split at h;rename_i c;exact⟨l,ws,os,rfl,e,e2,c.1,c.2,h⟩;exact h.elim;exact h.elim;exact h.elim;rename_i e;cases e;exact h.elim
structure TallySt(st:Stmt):Prop where
 ex:∃(p1 p2 p3 p4 p5 p6 p7 p8 p9 p10 p11 p12 p13 p14 p15 p16 p17 p18 p19 p20 p21 p22 p23 p24 p25 p26 p27 p28 p29:Pos) (params:Arguments) (body:Expr) (scope:Scope),zam st=zmD p1 p2 p3 p4 p5 p6 p7 p8 p9 p10 p11 p12 p13 p14 p15 p16 p17 p18 p19 p20 p21 p22 p23 p24 p25 p26 p27 p28 p29 params body scope/\
  (p13.endLine==p16.line)=Γ/\(p24.endLine==p25.line)=Γ/\(∀env,defaultsOf params env=([],[]))/\(∀env,closureFor scope env=pure [])/\FnScope ["row"] ["row"] scope/\chkE noTab zed ["row"] scope body=Γ/\
  ∀(q:Str)(pm cd ct u:Θ),bindArgs (kla_fn "<lambda>" q params body scope [] pm cd ct) ⟨[u],[]⟩=pure [(("row":Str),u)]
 sc:FnScope ["words","counts","word"] ["words"] (zaa st)
 h0:(zaa st).names.lookup ("words":Str)=Φ .local
 h1:(zaa st).names.lookup ("counts":Str)=Φ .local
 h2:(zaa st).names.lookup ("word":Str)=Φ .local
 hg:(zaa st).names.lookup ("sorted":Str)=Φ .globalImplicit
def zla{K}{st}{dV kV doc pm ct}(lk:K.lookup f=Φ ⟨oc,od,.func (fnOf x qual (zaq st) (zam st) (zaa st) dV kV doc pm an (.ref c) ct),osl⟩)(hcd:codeIn K (.ref c) qual=Γ)(hC:codeHdIn K c Tb=Γ)(T:TallySt st)(bm:BM mg base)(mem:(Tb,qual ++ ".<locals>." ++ "<lambda>")∈Mks.ts)(one:∀p∈Mks.ts,p.1=Tb->p.2=qual ++ ".<locals>." ++ "<lambda>")(hm:mg "sorted"=Ψ)(hP:Pg[fi]?=Φ F)(hq:F.prim=Φ .tally)(hp:F.np=1)(hn:3<=n):
  FnOk P w K mg base CX0 (n+2) f (fnOf x qual (zaq st) (zam st) (zaa st) dV kV doc pm an (.ref c) ct) ["words"] (spF K (callF Pg (n+1)) fi):=by
 obtain⟨p1,p2,p3,p4,p5,p6,p7,p8,p9,p10,p11,p12,p13,p14,p15,p16,p17,p18,p19,p20,p21,p22,p23,p24,p25,p26,p27,p28,p29,params,body,scope,eb,l1,l2,hdef,hcl,hs,ck,hb⟩:=T.ex;refine zmj lk hcd T.sc (λvs H Q E h=>zbP (ps:=["words"]) hP hp h) λA outer s H vs Q E hr h=>?_;obtain⟨ι,S0,ds,r,hh,hw⟩:=h;simp only[callF,hP,hq,hn,if_true]at hw;split at hw;obtain⟨l,ws,os,rfl,hg,ho,c64,cl,q⟩:=zeX hw;have room:Room 2 ((cxOf CX0 P w K mg base ["words","counts","word"] qual (zaa st) f (.ref c) A outer s H E).nox).A.in1.in1:=((hr.mono (Nat.succ_le_succ hn)).in1).in1;have hu:((cxOf CX0 P w K mg base ["words","counts","word"] qual (zaa st) f (.ref c) A outer s H E).nox).A.units+1<cLine:=by have:=hr.un;show(A.deeper _).units+1<_;lia
 have mk:Maker ((cxOf CX0 P w K mg base ["words","counts","word"] qual (zaa st) f (.ref c) A outer s H E).nox) c Tb:=⟨bm,rfl,hC,mem,one⟩;have hpe:=zlH (X:=(cxOf CX0 P w K mg base ["words","counts","word"] qual (zaa st) f (.ref c) A outer s H E).nox) (p:=p22) (lpos:=p26) (kpos:=p27) (pos:=p28) (zdN (pos:=p23) (i:=1) (x:="counts") rfl (.inl T.h1)) (apos:=p24) (cpos:=p25) ⟨rfl,rfl,l2⟩ T.hg hm room mk (hdef _) (hcl _) hs (hb _) ck;have ht:=zlC (X:=(cxOf CX0 P w K mg base ["words","counts","word"] qual (zaa st) f (.ref c) A outer s H E).nox) (p1:=p1) (p2:=p2) (p3:=p3) (p4:=p4) (p5:=p5) (p6:=p6) (p7:=p7) (p8:=p8) (p9:=p9) (p10:=p10) (p11:=p11) (p12:=p12) (p13:=p13) (p14:=p14) (p15:=p15) (p16:=p16) (p17:=p17) (p18:=p18) (p19:=p19) (p20:=p20) (p21:=p21) (p29:=p29)
  rfl T.h0 T.h1 T.h2 rfl rfl hu ⟨rfl,rfl,l1,rfl⟩ rfl rfl hpe
 refine⟨_,by rw[eb];exact ht.nox,?_⟩;obtain⟨v,r0,rfl,rv,rn⟩:=r;cases(show r0=[] from rn);obtain⟨a,ia,rfl⟩:=rv;obtain⟨b,ib,xs,hb2,rr⟩:=hh.obj l _ hg;rw[ia]at ib;cases ib;rw[zdv ho]at rr;cases zdn rr;refine zjq rfl hb2 (by rw[Τ];exact cl) λp σ hp1 hσ=>?_;refine⟨.ref p,hσ,p,_,rfl,zak,λv hv=>⟨v,p,_,rfl,zak,?_,c64,?_,λD0 H2 ts x hD h2 hl ht=>?_⟩⟩;rw[zah (zai zak hv)];exact zak;exact(Kp.new hv _).tab ((Kp.new hp1 _).tab hh.tab);obtain⟨ex,rh⟩:=zh5 hh hp1 hv x hD h2 hl ht;exact q _ _ (ι++[D0]) ex ⟨D0,hh.last D0,rfl⟩ rh;exact hw.elim
end R
namespace R
abbrev oD:Option Int->D|some i=>.int i|none=>.non
def zeB:∀os:List (Option Int),za5 (os.map oD)=Φ os
 | []=>rfl| o::os=>by unfold za5;rw[Μ,ϛ,show(os.map oD).mapM zg6=Φ os from zeB os];cases o<;>rfl
def zkA(n)(os):flats n (talD os)=Γ:=by rw[zby];intro d hd;obtain⟨r,_,rfl⟩:=mem_map.mp hd;simp[rowD]
def zk2(hP:P[f]?=Φ F)(hq:F.prim=Φ .tally)(hn:F.np=1)(h:S.get l=Φ (.lst (os.map oD)))(hc:(zad [] os).length<64)(hl:os.length<=16777216):app (callF P (n+4)) f [.ref l] S=.ok (.ref S.len) (S.push (.lst (talD os))):=by
 have e:callF P (n+4) f [.ref l] S.enter=.ok (.ref S.len) (S.enter.push (.lst (talD os))):=by
  have h3:3<=n+3:=by lia
  simp only[callF,hP,hq,hn,Χ,Ϥ,zero_add,if_true,h3];unfold prm;dsimp only;rw[za4,h];dsimp only;rw[zeB];dsimp only;rw[if_pos ⟨hc,hl⟩,enter_len]
 unfold app;rw[e,zaw];unfold zc0;have hg:(S.enter.push (.lst (talD os))).get S.len=Φ (.lst (talD os)):=by have:=zmg (S.frz++S.new) [.lst (talD os)] [];rw[zfa]at this;exact this
 rw[if_neg (by simp[flat])];dsimp only;rw[hg];dsimp only;rw[if_pos (zkA _ _)]
def zhc(rows):(zaQ rows).Perm rows:=List.mergeSort_perm rows zcV
def tal_mem:r∈zaQ rows↔r∈rows:=(zhc rows).mem_iff
def zh7(rows):(zaQ rows).Pairwise λa b=>zcV a b=Γ:=by refine List.pairwise_mergeSort (λa b c h1 h2=>?_) (λa b=>?_) rows;simp only[zcV,decide_eq_true_eq]at h1 h2⊢;lia;simp only[zcV,Ϝ,decide_eq_true_eq];lia
open PySem (PyData)
def ze8{α β:Type}{f}:∀{xs:List α}{ys:List β},xs.mapM f=Φ ys->∀y∈ys,∃x∈xs,f x=Φ y
 | [],ys,h,y,hy=>by simp at h;subst h;cases hy
 |x::xs,ys,h,y,hy=>by
  rw[ϛ]at h;cases e:f x with
  |none=>rw[e]at h;exact nS h
  |some z=>
   rw[e]at h;cases e2:xs.mapM f with
   |none=>rw[e2]at h;exact nS h
   |some zs=>rw[e2]at h;injection h with h;subst h;rcases mem_cons.mp hy with rfl|hy;exact⟨x,by simp,e⟩;obtain⟨u,hu,eu⟩:=ze8 e2 y hy;exact⟨u,by simp[hu],eu⟩
def zct:∀{xs:List PyData},(∀x∈xs,PyData.eqv x x=Γ)->PyData.eqvAll xs xs=Γ
 | [],_=>by simp[PyData.eqvAll]|x::xs,h=>by simp[PyData.eqvAll,h x (by simp),zct (xs:=xs) λy hy=>h y (by simp[hy])]
def zoA:∀{n:Nat}{d:D}{a:PyData},pd S n d=Φ a->PyData.eqv a a=Γ:=by
 intro n;induction n with
 |zero=>
  intro d a h;cases d<;>simp only[pd]at h
  cases h;simp[PyData.eqv];cases h;simp[PyData.eqv];cases h;simp[PyData.eqv];split at h;cases h;simp[PyData.eqv];exact nS h;exact nS h;exact nS h;exact nS h
 |succ n ih=>
  intro d a h;cases d<;>simp only[pd]at h
  cases h;simp[PyData.eqv];cases h;simp[PyData.eqv];cases h;simp[PyData.eqv];split at h;cases h;simp[PyData.eqv];exact nS h;rename_i ds;cases e:ds.mapM (pd S n) with
  |none=>rw[e]at h;exact nS h
  |some xs=>rw[e]at h;cases h;rw[PyData.eqv];exact zct λx hx=>let ⟨d,_,hd⟩:=ze8 e x hx;ih hd
  split at h;rename_i ds _;cases e:ds.mapM (pd S n) with
  |none=>rw[e]at h;exact nS h
  |some xs=>rw[e]at h;cases h;rw[PyData.eqv];exact zct λx hx=>let ⟨d,_,hd⟩:=ze8 e x hx;ih hd
  exact nS h;exact nS h
def zna(h1:pd S 60 x=Φ a)(h2:pd S 60 y=Φ a):eqD S x y=Φ Γ:=by unfold eqD;rw[h1,h2];exact congrArg Φ (zoA h1)
def zcY(h:S.get l=Φ (.lst ds))(e:ds.mapM (pd S n)=Φ xs):pd S (n+1) (.ref l)=Φ (.list xs):=by simp only[pd,h,e];rfl
def zgY(h1:S.get a=Φ (.lst ds))(h2:S.get b=Φ (.lst ds))(e:ds.mapM (pd S 59)=Φ xs):cmpO S .Eq (.ref a) (.ref b)=Φ Γ:=(zna (zcY h1 e) (zcY h2 e))
def zgX(h1:S.get a=Φ (.lst ds))(h2:S.get b=Φ (.lst ds))(e:ds.mapM (pd S 59)=Φ xs):cmpO S .NotEq (.ref a) (.ref b)=Φ Δ:=by show(eqD S (.ref a) (.ref b)).map (!·)=_;rw[zna (zcY h1 e) (zcY h2 e)];rfl
def zag(S:St)(o):(S.push o).get S.len=Φ o:=by
 have h:¬S.len<S.frz.length:=by unfold St.len;lia
 unfold St.get St.push;simp only[h,if_false];unfold St.len;simp
def zaj{S:St}(e:S.get l=Φ u):(S.push o).get l=Φ u:=by have h:=get_lt e;unfold St.len at h;unfold St.get at e⊢;unfold St.push;simp only;split;rename_i c;rw[if_pos c]at e;exact e;rename_i c;rw[if_neg c]at e;rw[getElem?_append_left (by omega)];exact e
def zeU{S:St}(o)(h1:S.frz.length<=l)(h2:S.lk.contains l=Δ):∃S',S.put l o=Φ S'/\S'.frz=S.frz/\S'.lk=S.lk/\S'.len=S.len/\(∀m,m≠l->S'.get m=S.get m)/\(l<S.len->S'.get l=Φ o):=by refine⟨{S with new:=S.new.set (l-S.frz.length) o},?_,rfl,rfl,by simp[St.len],λm hm=>?_,λhl=>?_⟩;unfold St.put;rw[if_neg (by lia),h2];rfl;unfold St.get;simp only;split;rfl;rw[getElem?_set_ne (by lia)];unfold St.len at hl;unfold St.get;simp only[show ¬l<S.frz.length by lia,if_false];rw[getElem?_set_self (by lia)]
def zo8(S)(i j):eqD S (.int i) (.int j)=Φ (i==j):=by unfold eqD;have e:∀k,pd S 60 (.int k)=Φ (.int k):=λk=>rfl;rw[e,e];show Φ (PyData.eqv (.int i) (.int j))=_;rw[L2.eqv_int]
def zmc(S)(x):∀ks:List Int,inD S (.int x) (ks.map .int)=Φ (decide (x∈ks)):=by
 intro ks;have e:(ks.map D.int).mapM (λz=>eqD S z (.int x))=Φ (ks.map λk=>k==x):=by induction ks with|nil=>rfl|cons k ks ih=>rw[Μ,ϛ,zo8,ih];rfl
 have f:∀ks:List Int,((ks.map λk=>k==x).any id)=decide (x∈ks):=by intro ks;induction ks with|nil=>rfl| cons k ks ih=>rw[Μ,any_cons,ih];by_cases c:k=x;subst c;simp;have c':¬x=k:=λz=>c z.symm;have b:(k==x)=Δ:=beq_eq_false_iff_ne.mpr c;simp only[b,id,Bool.false_or,mem_cons,c',false_or]
 unfold inD;rw[e];exact congrArg Φ (f ks)
def zrs{ks:List Int}(h:S.get l=Φ (.lst (ks.map .int)))(x):cmpO S .In (.int x) (.ref l)=Φ (decide (x∈ks)):=by show((match S.get l with|some (.lst ds)=>Φ ds|_=>Ψ).bind λys=>inD S (.int x) ys)=_;rw[h];exact zmc S x ks
def zjR{ks:List Int}(h:S.get l=Φ (.lst (ks.map .int)))(x):cmpO S .NotIn (.int x) (.ref l)=Φ (!decide (x∈ks)):=by show(cmpO S .In (.int x) (.ref l)).map (!·)=_;rw[zrs h];rfl
abbrev cntZ(os:List (Option Int)):Option Int->Int
 |some w=>(os.count (Φ w):Nat)|none=>0
def zfq{α:Type}{os:List α}{o}(h:os[i]?=Φ o):os.take (i+1)=os.take i++[o]:=by rw[List.take_add_one,h];rfl
def zb5{xs:List α}{k:Nat}{x:α}(h:xs[k]?=Φ x):R.atI xs (k:Int)=Φ x:=by
 have hl:=(Ω.mp h).1;have e:R.ixN xs.length (k:Int)=Φ k:=by simp[R.ixN,hl]
 unfold R.atI;rw[e];exact h
def ziU:R.atI (x::xs) 0=Φ x:=by
 have:R.ixN (x::xs).length 0=Φ 0:=by simp[R.ixN]
 unfold R.atI;rw[this];rfl
def zrS:R.atI (x::y::xs) 1=Φ y:=by
 have:R.ixN (x::y::xs).length 1=Φ 1:=by simp[R.ixN];lia
 unfold R.atI;rw[this];rfl
abbrev zbz(ns:List Int)(k:Nat):Int:=match ns[k]? with|some v=>v%10^64|none=>0
def zbj(ns)(k):0<=zbz ns k:=by unfold zbz;split;exact Int.emod_nonneg _ (by decide);exact Int.le_refl 0
def zdW:∀ks:List Int,zaH (ks.map D.int)=Φ ks
 | []=>rfl| k::ks=>by unfold zaH;rw[Μ,ϛ,show(ks.map D.int).mapM zcq=Φ ks from zdW ks];rfl
def zh6(os):(zaQ (zad [] os)).Pairwise λa b=>b.2<a.2\/(a.2=b.2/\a.1<b.1):=by have nd:((zaQ (zad [] os)).map (·.1)).Nodup:=((zhc _).map (·.1)).nodup_iff.mpr (zaA os (by simp));have so:=zh7 (zad [] os);rw[List.Nodup,Ϙ]at nd;refine(nd.and so).imp λ{a b} h=>?_;have h2:=h.2;simp only[zcV,decide_eq_true_eq]at h2;have:=h.1;lia
end R
namespace R
open PySem PySem.Spec PyProof.Rows L2
variable[Mks]
abbrev wayB(p1 p2 p3 p4 p5 p6 p7 p8 p9 p10 p11 p12:Pos)(ra:List Stmt):List Stmt:=[.If (.BoolOp .Or [.UnaryOp .Not (.Call (.Name "isinstance" p1) [.Name "thing" p2,.Name "str" p3] [] p4) p5,.Compare (.Name "thing" p6) [.NotIn] [.Name "WAYS" p7] p8] p9) ra [] p10,.Return (Φ (.Name "thing" p11)) p12]
structure WaySt(st:Stmt):Prop where
 ex:∃(p1 p2 p3 p4 p5 p6 p7 p8 p9 p10 p11 p12:Pos) (ra:List Stmt),zam st=wayB p1 p2 p3 p4 p5 p6 p7 p8 p9 p10 p11 p12 ra
 sc:FnScope ["thing"] ["thing"] (zaa st)
 h0:(zaa st).names.lookup ("thing":Str)=Φ .local
 h1:(zaa st).names.lookup ("isinstance":Str)=Φ .globalImplicit
 h2:(zaa st).names.lookup ("str":Str)=Φ .globalImplicit
 h3:(zaa st).names.lookup ("WAYS":Str)=Φ .globalImplicit
def zgz(h:W (prm S .way ds) Q):∃x,ds=[.str x]/\(x=("oral":Str)\/x=("kings":Str))/\Q (.str x) S:=by unfold prm at h;split at h;rename_i e;cases e;rename_i x _;split at h;rename_i c;exact⟨x,rfl,c,h⟩;exact h.elim;exact h.elim
def zpy{K}{st}{dV kV doc pm ct}(lk:K.lookup f=Φ ⟨oc,od,.func (fnOf x qual (zaq st) (zam st) (zaa st) dV kV doc pm an cd ct),osl⟩)(hcd:codeIn K cd qual=Γ)(T:WaySt st)(hi:mg "isinstance"=Ψ)(hs:mg "str"=Ψ)(hw:mg "WAYS"=Φ (.ref wA))(lw:K.lookup wA=Φ ⟨.type "tuple",wd,.seq (List.toArray [.str "oral" t1,.str "kings" t2]) wn,ws⟩)(hP:Pg[fi]?=Φ F)(hq:F.prim=Φ .way)(hp:F.np=1)(hn:3<=n):
  FnOk P w K mg base CX0 (n+2) f (fnOf x qual (zaq st) (zam st) (zaa st) dV kV doc pm an cd ct) ["thing"] (spF K (callF Pg (n+1)) fi):=by
 obtain⟨p1,p2,p3,p4,p5,p6,p7,p8,p9,p10,p11,p12,ra,eb⟩:=T.ex;refine zmj lk hcd T.sc (λvs H Q E h=>zbP (ps:=["thing"]) hP hp h) λA outer s H vs Q E hr h=>?_;obtain⟨ι,S0,ds,r,hh,hw'⟩:=h;simp only[callF,hP,hq,hn,if_true]at hw';split at hw';obtain⟨z,rfl,hz,q⟩:=zgz hw';generalize hX:cxOf CX0 P w K mg base ["thing"] qual (zaa st) f cd A outer s H E=X;have v0:∀{p:Pos},PE X (.Name "thing" p) (tVar 0):=by subst hX;exact zdN (i:=0) (x:="thing") rfl (.inl T.h0)
 have g1:Gl X "isinstance":=by subst hX;exact T.h1
 have g2:Gl X "str":=by subst hX;exact T.h2
 have g3:Gl X "WAYS":=by subst hX;exact T.h3
 have e1:X.mg "isinstance"=Ψ:=by subst hX;exact hi
 have e2:X.mg "str"=Ψ:=by subst hX;exact hs
 have e3:X.mg "WAYS"=Φ (.ref wA):=by subst hX;exact hw
 have eK:X.K=K:=by subst hX;rfl
 have c1:=zcG (p:=p1) (pos:=p4) zd3 g1 e1 zcQ (zbo (v0 (p:=p2)) (zbo (zjP (pos:=p3) (v:=.ty "str") g2 e2 (u:=.type "str") rfl rfl (by decide) (by decide)) zdO) (zal rfl _ X.env)) (by decide) (by decide) (zal rfl _ X.env);have c2:=zgx (pos:=p8) zfG (v0 (p:=p6)) (zeY (pos:=p7) (v:=.ref wA) g3 e3 rfl) rfl;have c3:=(zqD (pos:=p9) (zmU (pos:=p5) (zqF c1)) (zmT c2)).pt;have fa:PSs X ra (λ_ _ _=>False):=λ_ _ _ _ _ _ z=>z.elim;have c4:=zaB (zoi (pos:=p10) c3 fa zgy) (zeW (zjF (pos:=p12) (v0 (p:=p11))));refine⟨_,by rw[eb];exact c4,?_⟩;obtain⟨v,r0,rfl,rv,rn⟩:=r;cases(show r0=[] from rn);cases(show v=.str z from rv);refine⟨.str z,rfl,.str z,"str","str",rfl,rfl,by decide,Γ,rfl,?_⟩;show(if(!Γ)=Γ then _ else _);rw[if_neg (by decide)];have fin:inV (.str z) [V.str "oral",V.str "kings"]=Γ:=by rcases hz with rfl|rfl<;>decide +kernel
 refine⟨.str z,rfl,wA,[V.str "oral",V.str "kings"],rfl,.inr (.inr ⟨_,_,_,by rw[eK];exact lw,rfl,rfl,by rw[Τ];exact(show 2<=16777216 by decide),.cons ⟨_,rfl⟩ (.cons ⟨_,rfl⟩ .nil)⟩),rfl,rfl,Δ,by rw[fin];rfl,?_⟩;show ∃v,_/\_;refine⟨.str z,rfl,?_⟩;exact q _ _ ι (Ext.refl _ _) rfl hh;exact hw'.elim
end R
section
namespace Kz
local macro_rules|`(#[$x])=>`(.cons $x .nil)|`(#[$x,$y,*])=>`(.cons $x #[$y,*])
local macro_rules|`($x:ident)=>let s:=x.getId.toString;let n:=Lean.Syntax.mkNumLit (s.drop 1).toString;if s.length<2||!(s.drop 1).all Char.isDigit then Lean.Macro.throwUnsupported else if s.front=='J' then `(.loc $n) else if s.front=='Y' then `(.con (.int $n)) else Lean.Macro.throwUnsupported
local macro_rules | `(tactic| exists $e)=>`(tactic| refine R.wOpt_of $e ?_)
local macro_rules | `(tactic| change $e)=>`(tactic| refine R.wNeed_of $e ?_)
local macro_rules | `(tactic| specialize $e)=>`(tactic| refine R.wOut_of $e ?_)
local macro_rules | `(tactic| left)=>`(tactic| conv=>whnf)
local macro_rules | `(tactic| right)=>`(tactic| refine R.wNeed_of (by first|decide|lia|(simp;done)|(simp;lia)) ?_)
section
open PySem R L2
abbrev zey:Fn:=⟨1,1,(.ret (.and (.bi (.isin "int") #[J0]) (.nt (.bi (.isin "bool") #[J0]))) .nil),Ψ⟩
abbrev zgf:Fn:=⟨2,2,(.ret (.and (.call 0 0 #[J0]) (.cmp2 .LtE .Lt Y0 J0 J1)) .nil),Ψ⟩
abbrev zge:Fn:=⟨1,1,(.ret (.and (.call 0 0 #[J0]) (.cmp .Lt (.bi .abs #[J0]) (.bin .Pow Y10 Y60))) .nil),Ψ⟩
abbrev zez:Fn:=⟨3,3,(.ifS (.or (.nt (.tst (.call 0 0 #[J0]))) (.nt (.cmp2 .LtE .LtE J1 J0 J2)))
 .stop .nil (.ret J0 .nil)),Ψ⟩
abbrev zgg:Fn:=⟨2,2,(.ifS (.nt (.tst (.call 1 0 #[J0,J1])))
 .stop .nil (.ret J0 .nil)),Ψ⟩
abbrev zgc:Fn:=⟨1,1,(.ifS (.nt (.tst (.call 2 0 #[J0])))
 .stop .nil (.ret J0 .nil)),Ψ⟩
abbrev zkU:Fn:=⟨2,2,(.ret (.mt .count J0 #[J1]) .nil),Ψ⟩
abbrev zg0:Fn:=⟨1,3,.nil,Φ .tally⟩
abbrev zhY:Fn:=⟨2,3,(.asg 2 (.call 7 0 #[J0]) (.ret (.ite (.and (.tst J2) (.cmp .GtE (.ix (.ix J2 Y0) Y1) J1)) (.ix (.ix J2 Y0) Y0) (.con D.non)) .nil)),Ψ⟩
abbrev c_run:Fn:=⟨3,6,(.asg 3 (.lst .nil) (.forS [4] (.rng2 Y1 (.bin .Add J1 Y1)) (.asg 5 (.srtK (.call 10 0 #[J4,J0,J2])) (.expr (.callW 11 0 #[J4,J0,J5]) (.expr (.extv J3 J5) .nil))) (.ret J3 .nil))),Φ .lam⟩
abbrev c_said_in:Fn:=⟨3,9,(.asg 3 (.lst .nil) (.forS [4,5] (.enum J1) (.forS [6,7,8] (.val (.meth "say" [(0,35)] J5 #[J0])) (.expr (.mt .append J3 #[.tup #[J0,J6,.ite (.cmp .Is J2 (.con D.non)) J7 (.ix (.ix J2 J4) J7),J8]]) .nil) .nil) (.ret J3 .nil))),Ψ⟩
abbrev c_deliver:Fn:=⟨3,7,(.asg 3 .dnew (.forS [4] (.val J2) (.expr (.mt .append (.dsetI J3 (.ix J4 Y2) (.lst .nil)) #[.tup #[.ix J4 Y1,.ix J4 Y3]]) .nil) (.forS [5,6] (.enum J1) (.expr (.meth "hear" [(0,30)] J6 #[J0,.dgetI J3 J5 (.lst .nil)]) .nil) .nil))),Ψ⟩
abbrev zdf:Fn:=⟨4,4,(.ret (.mkL (.comp 1 [0,1,2,3] [0] (.rng1 J0) (.tst (.con (D.bl Γ))) (.mk 0 28 "KingHand" 0 #[J0,J1,J2,J3,.ite (.cmp .Eq J0 J3) J4 (.con D.non)]))) .nil),Ψ⟩
abbrev zdc:Fn:=⟨1,1,(.ret (.bin .Add Y1 (.bin .Mult Y3 (.bin .Add J0 Y1))) .nil),Ψ⟩
abbrev zgd:Fn:=⟨1,1,(.ret (.bin .Mod (.bin .Sub J0 Y2) Y3) .nil),Ψ⟩
abbrev zd4:Fn:=⟨2,4,(.forS [2,3] (.val J1) (.ifS (.and (.cmp .Eq J2 (.tup #[J0])) (.cmp .IsNot J3 (.con D.non))) (.ret J3 .nil) .nil .nil) (.ret Y0 .nil)),Ψ⟩
abbrev zhX:Fn:=⟨1,1,.nil,Φ .way⟩
abbrev zcO:Fn:=⟨2,2,(.ifS (.cmp .Lt J1 (.bi .len #[J0])) (.ret (.bin .Mod (.ix J0 J1) (.bin .Pow Y10 Y64)) .nil) .nil (.ret Y0 .nil)),Ψ⟩
abbrev zc5:Fn:=⟨1,1,(.ifS (.cmp .Eq (.bin .Mod J0 Y3) Y0) (.ret (.bin .Sub (.bin .Mod (.bin .FloorDiv J0 Y3) Y5) Y2) .nil) .nil (.ret (.bin .Sub (.bin .Mod (.bin .FloorDiv J0 Y3) (.bin .Sub (.bin .Mult Y2 (.bin .Pow Y10 Y60)) Y1)) (.bin .Sub (.bin .Pow Y10 Y60) Y1)) .nil)),Ψ⟩
abbrev zcu:Fn:=⟨1,6,(.asg 1 (.call 17 0 #[J0,Y0]) (.asg 2 (.bin .Add Y1 (.bin .Mod J1 Y2)) (.asg 3 (.bin .Add Y3 (.bin .Mod (.bin .FloorDiv J1 Y2) (.bin .Sub (.bin .Mult Y3 J2) Y2))) (.asg 4 (.call 18 0 #[.call 17 0 #[J0,Y2]]) (.asg 5 (.call 18 0 #[.call 17 0 #[J0,Y3]]) (.ifS (.cmp .Eq J5 J4) (.asg 5 (.bin .Sub (.bin .Add J4 Y1) (.bin .Mult Y2 (.intb (.cmp .Gt J4 Y0)))) .nil) .nil (.ret (.tup #[.ix (.lst #[.con (D.str "oral"),.con (D.str "kings")]) (.bin .Mod (.bin .FloorDiv J1 Y8) Y2),J3,J2,.bin .Mod (.call 17 0 #[J0,Y1]) J3,J4,J5]) .nil))))))),Ψ⟩
abbrev zd6:Fn:=⟨3,3,(.ret (.bin .Mod (.bin .Mod (.bin .Sub (.bin .Add J2 J0) J1) J0) Y3) .nil),Ψ⟩
abbrev zex:Fn:=⟨4,5,(.asg 4 (.lst #[.call 20 0 #[J0,J1,.bin .Mod J2 J0],.call 20 0 #[J0,J1,J3]]) (.ifS (.or (.cmp .Eq J4 (.lst #[Y1,Y2])) (.cmp .Eq J4 (.lst #[Y2,Y1]))) (.ret (.bin .Add (.bin .Mult (.bin .Sub Y1 (.bin .FloorDiv J2 J0)) J0) J3) .nil) .nil (.ret (.bin .Add (.bin .Mult (.bin .FloorDiv J2 J0) J0) J3) .nil))),Ψ⟩
abbrev zde:Fn:=⟨2,6,(.asg 2 (.con D.non) (.asg 3 Y0 (.forS [4] (.val J0) (.asg 5 (.bi .len #[.mkL (.comp 1 [4] [0] (.val J0) (.cmp .Eq J0 J1) J0)]) (.ifS (.and (.cmp .IsNot J4 (.con D.non)) (.or (.cmp .Gt J5 J3) (.and (.cmp .Eq J5 J3) (.cmp .Lt J4 J2)))) (.asg 2 J4 (.asg 3 J5 .nil)) .nil .nil)) (.ifS (.cmp .Lt J3 J1) (.ret (.tup #[.con D.non,Y0]) .nil) .nil (.ret (.tup #[J2,J3]) .nil))))),Ψ⟩
abbrev zdd:Fn:=⟨4,4,(.ifS (.cmp .Eq J0 Y1) (.ret (.cmp .Eq J3 J2) .nil) .nil (.ret (.or (.cmp .NotEq (.bin .Mod J0 Y3) Y1) (.cmp .Eq J3 (.bin .Mod (.bin .FloorDiv (.bin .Sub J0 Y2) Y3) J1))) .nil)),Ψ⟩
abbrev c_law_due:Fn:=⟨4,7,(.asg 4 (.lst .nil) (.forS [5] (.rng1 (.bin .Mult Y2 J1)) (.ifS (.tst (.call 23 0 #[J0,J1,J2,.bin .Mod J5 J1])) (.forS [6] (.rng1 J1) (.ifS (.cmp .NotEq J6 (.bin .Mod J5 J1)) (.expr (.mt .append J4 #[.tup #[J0,.tup #[.bin .Mod J5 J1],.call 21 0 #[J1,J2,J5,J6],.ix J3 J5]]) .nil) .nil .nil) .nil) .nil .nil) (.ret (.srtN 25 J4) .nil))),Ψ⟩
abbrev zd5:Fn:=⟨1,1,(.ret (.sl J0 3) .nil),Ψ⟩
abbrev zew:Fn:=⟨7,10,(.asgT [7,8] J4 (.ifS (.cmp .Eq J0 Y1) (.ret (.tup #[J7,Y0]) .nil) .nil (.ifS (.cmp .Eq (.bin .Mod J0 Y3) Y2) (.ret (.tup #[.ix (.call 22 0 #[.bin .Add (.lst #[J7]) J6,.bin .Sub J1 J2]) Y0,Y0]) .nil) .nil (.ifS (.cmp .Eq (.bin .Mod J0 Y3) Y0) (.ret (.call 22 0 #[.bin .Add (.lst #[J7]) J6,.bin .Add J2 Y1]) .nil) .nil (.ifS (.and (.cmp .IsNot J7 (.con D.non)) (.cmp .GtE J8 (.bin .Sub J1 J2))) (.ret (.tup #[J7,J8]) .nil) .nil (.asg 9 J7 (.ifS (.cmp .NotEq J5 (.bin .Mod (.bin .FloorDiv (.bin .Sub J0 Y2) Y3) J1)) (.asg 9 (.ix J6 Y0) .nil) .nil (.ifS (.cmp .Is J9 (.con D.non)) (.asg 9 Y0 .nil) .nil (.ret (.tup #[J9,J8]) .nil))))))))),Ψ⟩
abbrev c_law:Fn:=⟨1,15,(.asgT [1,2,3,4,5,6] (.call 19 0 #[J0]) (.asg 7 (.mk 1 37 "Ring" 0 #[.con (D.str "kings"),J2,J3,J4,J5,J6]) (.asg 8 (.meth "letters" [(1,40)] J7 .nil) (.asg 9 (.mkL (.comp 1 [] [0] (.rng1 (.bin .Mult Y2 J2)) (.tst (.con (D.bl Γ))) (.tup #[.con D.non,Y0]))) (.setIx J9 J4 (.tup #[J5,Y0]) (.setIx J9 (.bin .Add J2 J4) (.tup #[J6,Y0]) (.asg 10 (.lst .nil) (.forS [11] (.rng2 Y1 (.bin .Add Y5 (.bin .Mult Y3 J3))) (.asg 12 (.call 24 0 #[J11,J2,J4,.mkL (.comp 1 [] [0] (.val J9) (.tst (.con (D.bl Γ))) (.ix J0 Y0))]) (.expr (.extv J10 J12) (.forS [13] (.rng1 (.bin .Mult Y2 J2)) (.asg 14 (.mkL (.comp 1 [13] [0] (.val J12) (.cmp .Eq (.ix J0 Y2) J1) (.ix J0 Y3))) (.ifS (.and (.cmp .Eq J11 Y1) (.cmp .NotEq (.bin .Mod J13 J2) J4)) (.setIx J9 J13 (.tup #[.ix J14 Y0,Y0]) .nil) (.setIx J9 J13 (.call 26 0 #[J11,J2,J3,J4,.ix J9 J13,.bin .Mod J13 J2,J14]) .nil) .nil)) .nil))) (.ifS (.or (.nt (.tst (.bi (.isin "list") #[J8]))) (.nt (.tst (.all (.comp 1 [] [0] (.val J8) (.tst (.con (D.bl Γ))) (.bi (.isin "tuple") #[J0])))))) (.ret (.con (D.bl Δ)) .nil) .nil (.ifS (.nt (.tst (.all (.comp 1 [] [0] (.val J8) (.tst (.con (D.bl Γ))) (.or (.cmp .Is (.ix J0 Y3) (.con D.non)) (.nt (.bi (.isin "bool") #[.ix J0 Y3]))))))) (.ret (.con (D.bl Δ)) .nil) .nil (.ifS (.cmp .NotEq J8 J10) (.ret (.con (D.bl Δ)) .nil) .nil (.expr (.clr J8) (.ret (.cmp .Eq (.meth "letters" [(1,40)] J7 .nil) J10) .nil))))))))))))),Ψ⟩
abbrev zb3:Fn:=⟨6,6,(.expr (.callC 44 "Hand" "__init__" #[J0,J1,J2,.call 13 0 #[J3]]) (.setF J0 "bound" J3 (.setF J0 "sender" J4 (.setF J0 "word" J5 (.setF J0 "held" J5 (.setF J0 "backing" Y0 (.setF J0 "holdings" (.lst .nil) .nil))))))),Ψ⟩
abbrev zba:Fn:=⟨2,2,(.ret (.bin .Add (.lst #[.fld J0 "held"]) (.mkL (.comp 2 [] [0,1] (.val J1) (.tst (.con (D.bl Γ))) J1))) .nil),Ψ⟩
abbrev zb4:Fn:=⟨3,3,(.ifS (.cmp .Eq J1 Y1) (.expr (.meth "hear_sender" [(0,33)] J0 #[J2]) .nil) (.ifS (.cmp .Eq (.call 14 0 #[J1]) Y0) (.setF J0 "held" (.call 8 0 #[.meth "all_words" [(0,29)] J0 #[J2],.bi .max2 #[.bin .Sub (.fld J0 "many") (.fld J0 "bound"),Y1]]) .nil) (.ifS (.cmp .Eq (.call 14 0 #[J1]) Y1) (.expr (.meth "hear_backing" [(0,31)] J0 #[J2]) .nil) (.expr (.meth "hear_king" [(0,32)] J0 #[J1,J2]) .nil) .nil) .nil) (.expr (.mt .append (.fld J0 "holdings") #[.fld J0 "held"]) .nil)),Ψ⟩
abbrev zaW:Fn:=⟨2,3,(.asg 2 (.meth "all_words" [(0,29)] J0 #[J1]) (.setF J0 "held" (.call 8 0 #[J2,.bin .Add (.fld J0 "bound") Y1]) (.setF J0 "backing" (.ite (.cmp .Is (.fld J0 "held") (.con D.non)) Y0 (.call 6 0 #[J2,.fld J0 "held"])) .nil))),Ψ⟩
abbrev za9:Fn:=⟨3,4,(.ifS (.and (.cmp .IsNot (.fld J0 "held") (.con D.non)) (.cmp .GtE (.fld J0 "backing") (.bin .Sub (.fld J0 "many") (.fld J0 "bound")))) (.retN .nil) .nil (.asg 3 (.meth "king_of" [(0,34)] J0 #[J1]) (.ifS (.cmp .NotEq (.fld J0 "number") J3) (.setF J0 "held" (.call 15 0 #[J3,J2]) .nil) (.ifS (.cmp .Is (.fld J0 "held") (.con D.non)) (.setF J0 "held" Y0 .nil) .nil .nil) .nil))),Ψ⟩
abbrev zaZ:Fn:=⟨2,2,(.ifS (.cmp .NotEq (.fld J0 "number") (.fld J0 "sender")) (.setF J0 "held" (.call 15 0 #[.fld J0 "sender",J1]) .nil) .nil .nil),Ψ⟩
abbrev zbl:Fn:=⟨2,2,(.ret (.bin .Mod (.bin .FloorDiv (.bin .Sub J1 Y2) Y3) (.fld J0 "many")) .nil),Ψ⟩
abbrev zcl:Fn:=⟨2,2,(.ifS (.cmp .NotIn (.fld J0 "number") (.meth "writers" [(0,36)] J0 #[J1])) (.ret (.lst .nil) .nil) .nil (.ret (.mkL (.comp 1 [0] [0] (.rng1 (.fld J0 "many")) (.cmp .NotEq J0 (.fld J1 "number")) (.tup #[.tup #[.fld J1 "number"],J0,.fld J1 "held"]))) .nil)),Ψ⟩
abbrev zbk:Fn:=⟨2,2,(.ifS (.cmp .Eq J1 Y1) (.ret (.lst #[.fld J0 "sender"]) .nil) .nil (.ifS (.cmp .Eq (.call 14 0 #[J1]) Y2) (.ret (.lst #[.meth "king_of" [(0,34)] J0 #[J1]]) .nil) .nil (.ret (.mkL (.rng1 (.fld J0 "many"))) .nil))),Ψ⟩
abbrev c_Ring_init:Fn:=⟨7,8,(.setF J0 "way" (.call 16 0 #[J1]) (.setF J0 "bound" (.call 3 0 #[J3,Y1,Y2]) (.setF J0 "many" (.call 3 0 #[J2,Y3,.bin .Mult Y3 J3]) (.setF J0 "sender" (.call 4 0 #[J4,J2]) (.setF J0 "one" (.call 5 0 #[J5]) (.setF J0 "other" (.call 5 0 #[J6]) (.ifS (.cmp .Eq J6 J5)
 .stop .nil (.asg 7 (.bin .Add (.meth "hands_with" [(1,39)] J0 #[J5]) (.meth "hands_with" [(1,39)] J0 #[J6])) (.setF J0 "sent" (.callW 9 0 #[J7,.fld (.ix J7 Y0) "rounds",.meth "wires" [(1,42)] J0 .nil]) .nil))))))))),Ψ⟩
abbrev zb2:Fn:=⟨2,2,(.ret (.bin .Mod (.bin .Mod (.bin .Sub J1 (.fld J0 "sender")) (.fld J0 "many")) Y3) .nil),Ψ⟩
abbrev zbA:Fn:=⟨2,2,(.ifS (.cmp .Eq (.fld J0 "way") (.con (D.str "oral")))
 .stop .nil (.ret (.call 12 0 #[.fld J0 "many",.fld J0 "bound",.fld J0 "sender",J1]) .nil)),Ψ⟩
abbrev zck:Fn:=⟨1,1,(.ret (.mkL (.val (.fld J0 "sent"))) .nil),Ψ⟩
abbrev zbL:Fn:=⟨3,5,(.asg 3 (.bin .FloorDiv J1 (.fld J0 "many")) (.asg 4 (.srt (.lst #[.meth "group_of" [(1,38)] J0 #[.bin .Mod J1 (.fld J0 "many")],.meth "group_of" [(1,38)] J0 #[J2]])) (.ifS (.cmp .Eq J4 (.lst #[Y1,Y2])) (.asg 3 (.bin .Sub Y1 J3) .nil) .nil (.ret (.bin .Add (.bin .Mult J3 (.fld J0 "many")) J2) .nil)))),Ψ⟩
abbrev zdg:Fn:=⟨1,1,(.ret (.mkL (.comp 1 [0] [0] (.rng1 (.bin .Mult Y2 (.fld J0 "many"))) (.tst (.con (D.bl Γ))) (.meth "wires_at" [(1,43)] J1 #[J0]))) .nil),Ψ⟩
abbrev zb1:Fn:=⟨2,2,(.ret (.mkL (.comp 1 [1,0] [0] (.rng1 (.fld J0 "many")) (.tst (.con (D.bl Γ))) (.meth "place_for" [(1,41)] J2 #[J1,J0]))) .nil),Ψ⟩
abbrev zd7:Fn:=⟨4,4,(.setF J0 "number" J1 (.setF J0 "many" J2 (.setF J0 "rounds" J3 .nil))),Ψ⟩
abbrev prog:List Fn:=[zey,zgf,zge,zez,zgg,zgc,zkU,zg0,zhY,c_run,c_said_in,c_deliver,zdf,zdc,zgd,zd4,zhX,zcO,zc5,zcu,zd6,zex,zde,zdd,c_law_due,zd5,zew,c_law,zb3,zba,zb4,zaW,za9,zaZ,zbl,zcl,zbk,c_Ring_init,zb2,zbA,zck,zbL,zdg,zb1,zd7]
abbrev top(i:Nat):Stmt:=PySem.Challenge.pw_traitorround_k74_kings_rings.main.body.getD i (.Pass ⟨0,0,0,0⟩)
noncomputable abbrev zgv:Stmt:=top 12
noncomputable abbrev zil:Stmt:=top 13
noncomputable abbrev zik:Stmt:=top 14
noncomputable abbrev zgw:Stmt:=top 15
noncomputable abbrev zim:Stmt:=top 16
noncomputable abbrev zig:Stmt:=top 17
noncomputable abbrev zly:Stmt:=top 18
noncomputable abbrev zcC:Stmt:=top 19
noncomputable abbrev zjA:Stmt:=top 20
noncomputable abbrev zhr:Stmt:=top 26
noncomputable abbrev zii:Stmt:=top 27
noncomputable abbrev zin:Stmt:=top 28
noncomputable abbrev zeS:Stmt:=top 34
noncomputable abbrev zeP:Stmt:=top 35
noncomputable abbrev zih:Stmt:=top 36
noncomputable abbrev zfx:Stmt:=top 37
noncomputable abbrev zbS:Stmt:=top 63
noncomputable abbrev zea:Stmt:=top 66
noncomputable abbrev zgs:Stmt:=top 67
noncomputable abbrev zfA:Stmt:=top 68
noncomputable abbrev zfz:Stmt:=top 69
noncomputable abbrev zgu:Stmt:=top 70
noncomputable abbrev zeR:Stmt:=top 71
noncomputable abbrev zeQ:Stmt:=top 72
noncomputable abbrev zij:Stmt:=top 73
noncomputable abbrev zfy:Stmt:=top 74
noncomputable abbrev zgt:Stmt:=top 75
noncomputable abbrev zqC:Stmt:=top 76
abbrev zbZ(s:Stmt)(j:Nat):Stmt:=match s with|.ClassDef _ _ _ b _ _ _ _ _ _ _=>b.getD j (.Pass ⟨0,0,0,0⟩)|s=>s
noncomputable abbrev zdl:Stmt:=zbZ (top 32) 0
noncomputable abbrev zbU:Stmt:=zbZ (top 32) 5
noncomputable abbrev zdm:Stmt:=zbZ (top 32) 4
noncomputable abbrev zbu:Stmt:=zbZ (top 32) 7
noncomputable abbrev zbT:Stmt:=zbZ (top 32) 8
noncomputable abbrev zbH:Stmt:=zbZ (top 32) 6
noncomputable abbrev zco:Stmt:=zbZ (top 32) 3
noncomputable abbrev zdL:Stmt:=zbZ (top 32) 1
noncomputable abbrev zcn:Stmt:=zbZ (top 32) 2
noncomputable abbrev zfB:Stmt:=zbZ (top 62) 0
noncomputable abbrev zdk:Stmt:=zbZ (top 62) 2
noncomputable abbrev zcD:Stmt:=zbZ (top 62) 1
noncomputable abbrev zdK:Stmt:=zbZ (top 62) 8
noncomputable abbrev zcX:Stmt:=zbZ (top 62) 7
noncomputable abbrev zeT:Stmt:=zbZ (top 62) 5
noncomputable abbrev zdj:Stmt:=zbZ (top 62) 6
noncomputable abbrev zfC:Stmt:=zbZ (top 22) 0
noncomputable instance mks:R.Mks:={ts:=[(187,"tally.<locals>.<lambda>"),(287,"run.<locals>.<lambda>")],cl:=[438,770]}
abbrev tab:Tab:=⟨["abs","all","bool","enumerate","int","isinstance","len","list","max","range","sorted","tuple"],[("STILL",(D.int 0)),("LONGEST",(D.int 7)),("MOST_HANDS",(D.int 7)),("GREATEST_BOUND",(D.int 5)),("LAST_TURN",(D.int 30)),("MOST_ROUNDS",(D.int 8)),("LAST_PLAY",(D.int 2))],("is_whole",["thing"],0)::("is_hand",["thing","many"],0)::("is_word",["thing"],0)::("count_of",["thing","least","greatest"],0)::("hand_of",["thing","many"],0)::("word_of",["thing"],0)::("times",["words","word"],0)::("tally",["words"],0)::("strong",["words","least"],0)::("run",["hands","rounds","wires"],1)::("said_in",["turn","hands","wires"],0)::("deliver",["turn","hands","said"],0)::("king_hands",["many","bound","sender","word"],0)::("rounds_for",["bound"],0)::("step_of",["turn"],0)::("word_from",["writer","letters"],0)::("way_of",["thing"],0)::("_law_cell_at",["_law_script","_law_k"],0)::("_law_word",["_law_cell"],0)::("_law_drawn",["_law_script"],0)::("_law_group",["_law_many","_law_sender","_law_hand"],0)::("_law_goes",["_law_many","_law_sender","_law_place","_law_hand"],0)::("_law_strong",["_law_row","_law_least"],0)::("_law_writes",["_law_turn","_law_many","_law_sender","_law_hand"],0)::("_law_due",["_law_turn","_law_many","_law_sender","_law_held"],0)::("_law_three",["_law_letter"],0)::("_law_next",["_law_turn","_law_many","_law_bound","_law_sender","_law_here","_law_own","_law_came"],0)::("law",["_law_script"],0)::[],["KingHand","Ring"],["number","many","rounds","bound","sender","word","held","backing","holdings","way","one","other","sent"],[(0,"all_words",29),(1,"group_of",38),(1,"hands_with",39),(0,"hear",30),(0,"hear_backing",31),(0,"hear_king",32),(0,"hear_sender",33),(0,"king_of",34),(1,"letters",40),(1,"place_for",41),(0,"say",35),(1,"wires",42),(1,"wires_at",43),(0,"writers",36)],[(0,28,0),(1,37,0)],[("Hand","__init__",44)],[],["hands","rounds","wires","letters","turn","said"],287⟩
def zk8:TallySt zcC:=⟨⟨_,_,_,_,_,_,_,_,_,_,_,_,_,_,_,_,_,_,_,_,_,_,_,_,_,_,_,_,_,_,_,_,rfl,rfl,rfl,λ_=>rfl,λ_=>rfl,⟨rfl,rfl,rfl,by decide +kernel,rfl,by decide +kernel,by decide +kernel⟩,by decide +kernel,λ_ _ _ _ _=>rfl⟩,⟨rfl,rfl,rfl,by decide +kernel,rfl,by decide +kernel,by decide +kernel⟩,rfl,rfl,rfl,rfl⟩
def zpu:WaySt zbS:=⟨⟨_,_,_,_,_,_,_,_,_,_,_,_,_,rfl⟩,⟨rfl,rfl,rfl,by decide +kernel,rfl,by decide +kernel,by decide +kernel⟩,rfl,rfl,rfl,rfl⟩
def O26:OkD tab prog 0 "is_whole" "is_whole" ["thing"] zgv:=zao ["thing"] rfl (by decide +kernel) λ_ _ _ _ _ _=>usS λ_=>usZ rfl
def O31:OkD tab prog 1 "is_hand" "is_hand" ["thing","many"] zil:=zao ["thing","many"] rfl (by decide +kernel) λ_ _ _ _ _ _=>usS λ_=>usS λ_=>usZ rfl
def O36:OkD tab prog 2 "is_word" "is_word" ["thing"] zik:=zao ["thing"] rfl (by decide +kernel) λ_ _ _ _ _ _=>usS λ_=>usZ rfl
def O27:OkD tab prog 3 "count_of" "count_of" ["thing","least","greatest"] zgw:=zao ["thing","least","greatest"] rfl (by decide +kernel) λ_ _ _ _ _ _=>usS λ_=>usS λ_=>usS λ_=>usZ rfl
def O38:OkD tab prog 4 "hand_of" "hand_of" ["thing","many"] zim:=zao ["thing","many"] rfl (by decide +kernel) λ_ _ _ _ _ _=>usS λ_=>usS λ_=>usZ rfl
def O37:OkD tab prog 5 "word_of" "word_of" ["thing"] zig:=zao ["thing"] rfl (by decide +kernel) λ_ _ _ _ _ _=>usS λ_=>usZ rfl
def O40:OkD tab prog 6 "times" "times" ["words","word"] zly:=zao ["words","word"] rfl (by decide +kernel) λ_ _ _ _ _ _=>usS λ_=>usS λ_=>usZ rfl
def O39:OkD tab prog 8 "strong" "strong" ["words","least"] zjA:=zao ["words","least","rows"] rfl (by decide +kernel) λ_ _ _ _ _ _=>usS λ_=>usS λ_=>usZ rfl
def O42:OkL tab prog 9 "run" ["hands","rounds","wires"] 1 zhr:=zq6 (F:=c_run) rfl rfl (by decide +kernel)
def O35:OkD tab prog 10 "said_in" "said_in" ["turn","hands","wires"] zii:=zao ["turn","hands","wires","said","place","hand","path","to","word"] rfl (by decide +kernel) λ_ _ _ _ _ _=>usS λ_=>usS λ_=>usS λ_=>usZ rfl
def O32:OkD tab prog 11 "deliver" "deliver" ["turn","hands","said"] zin:=zao ["turn","hands","said","boxes","letter","place","hand"] rfl (by decide +kernel) λ_ _ _ _ _ _=>usS λ_=>usS λ_=>usS λ_=>usZ rfl
def O19:OkD tab prog 12 "king_hands" "king_hands" ["many","bound","sender","word"] zeS:=zao ["many","bound","sender","word"] rfl (by decide +kernel) λ_ _ _ _ _ _=>usS λ_=>usS λ_=>usS λ_=>usS λ_=>usZ rfl
def O17:OkD tab prog 13 "rounds_for" "rounds_for" ["bound"] zeP:=zao ["bound"] rfl (by decide +kernel) λ_ _ _ _ _ _=>usS λ_=>usZ rfl
def O34:OkD tab prog 14 "step_of" "step_of" ["turn"] zih:=zao ["turn"] rfl (by decide +kernel) λ_ _ _ _ _ _=>usS λ_=>usZ rfl
def O22:OkD tab prog 15 "word_from" "word_from" ["writer","letters"] zfx:=zao ["writer","letters","path","word"] rfl (by decide +kernel) λ_ _ _ _ _ _=>usS λ_=>usS λ_=>usZ rfl
def O14:OkD tab prog 17 "_law_cell_at" "_law_cell_at" ["_law_script","_law_k"] zea:=zao ["_law_script","_law_k"] rfl (by decide +kernel) λ_ _ _ _ _ _=>usS λ_=>usS λ_=>usZ rfl
def O30:OkD tab prog 18 "_law_word" "_law_word" ["_law_cell"] zgs:=zao ["_law_cell"] rfl (by decide +kernel) λ_ _ _ _ _ _=>usS λ_=>usZ rfl
def O25:OkD tab prog 19 "_law_drawn" "_law_drawn" ["_law_script"] zfA:=zao ["_law_script","_law_cell","_law_bound","_law_many","_law_one","_law_other"] rfl (by decide +kernel) λ_ _ _ _ _ _=>usS λ_=>usZ rfl
def O21:OkD tab prog 20 "_law_group" "_law_group" ["_law_many","_law_sender","_law_hand"] zfz:=zao ["_law_many","_law_sender","_law_hand"] rfl (by decide +kernel) λ_ _ _ _ _ _=>usS λ_=>usS λ_=>usS λ_=>usZ rfl
def O28:OkD tab prog 21 "_law_goes" "_law_goes" ["_law_many","_law_sender","_law_place","_law_hand"] zgu:=zao ["_law_many","_law_sender","_law_place","_law_hand","_law_both"] rfl (by decide +kernel) λ_ _ _ _ _ _=>usS λ_=>usS λ_=>usS λ_=>usS λ_=>usZ rfl
def O15:OkD tab prog 22 "_law_strong" "_law_strong" ["_law_row","_law_least"] zeR:=zao ["_law_row","_law_least","_law_found","_law_best","_law_word_here","_law_often"] rfl (by decide +kernel) λ_ _ _ _ _ _=>usS λ_=>usS λ_=>usZ rfl
def O18:OkD tab prog 23 "_law_writes" "_law_writes" ["_law_turn","_law_many","_law_sender","_law_hand"] zeQ:=zao ["_law_turn","_law_many","_law_sender","_law_hand"] rfl (by decide +kernel) λ_ _ _ _ _ _=>usS λ_=>usS λ_=>usS λ_=>usS λ_=>usZ rfl
def O33:OkD tab prog 24 "_law_due" "_law_due" ["_law_turn","_law_many","_law_sender","_law_held"] zij:=zao ["_law_turn","_law_many","_law_sender","_law_held","_law_due_here","_law_place","_law_hand"] rfl (by decide +kernel) λ_ _ _ _ _ _=>usS λ_=>usS λ_=>usS λ_=>usS λ_=>usZ rfl
def O24:OkD tab prog 25 "_law_three" "_law_three" ["_law_letter"] zfy:=zao ["_law_letter"] rfl (by decide +kernel) λ_ _ _ _ _ _=>usS λ_=>usZ rfl
def O29:OkD tab prog 26 "_law_next" "_law_next" ["_law_turn","_law_many","_law_bound","_law_sender","_law_here","_law_own","_law_came"] zgt:=zao ["_law_turn","_law_many","_law_bound","_law_sender","_law_here","_law_own","_law_came","_law_held","_law_backing","_law_word_here"] rfl (by decide +kernel) λ_ _ _ _ _ _=>usS λ_=>usS λ_=>usS λ_=>usS λ_=>usS λ_=>usS λ_=>usS λ_=>usZ rfl
def O41:OkD tab prog 27 "law" "law" ["_law_script"] zqC:=zao ["_law_script","_law_way","_law_many","_law_bound","_law_sender","_law_one","_law_other","_law_ring","_law_letters","_law_states","_law_due_here","_law_turn","_law_some","_law_place","_law_came"] rfl (by decide +kernel) λ_ _ _ _ _ _=>usS λ_=>usZ rfl
def O9:OkD tab prog 28 "__init__" "KingHand.__init__" ["self","number","many","bound","sender","word"] zdl:=zao ["self","number","many","bound","sender","word"] rfl (by decide +kernel) λ_ _ _ _ _ _=>usS λ_=>usS λ_=>usS λ_=>usS λ_=>usS λ_=>usS λ_=>usZ rfl
def O3:OkD tab prog 29 "all_words" "KingHand.all_words" ["self","letters"] zbU:=zao ["self","letters"] rfl (by decide +kernel) λ_ _ _ _ _ _=>usS λ_=>usS λ_=>usZ rfl
def O10:OkD tab prog 30 "hear" "KingHand.hear" ["self","turn","letters"] zdm:=zao ["self","turn","letters"] rfl (by decide +kernel) λ_ _ _ _ _ _=>usS λ_=>usS λ_=>usS λ_=>usZ rfl
def O0:OkD tab prog 31 "hear_backing" "KingHand.hear_backing" ["self","letters"] zbu:=zao ["self","letters","words"] rfl (by decide +kernel) λ_ _ _ _ _ _=>usS λ_=>usS λ_=>usZ rfl
def O2:OkD tab prog 32 "hear_king" "KingHand.hear_king" ["self","turn","letters"] zbT:=zao ["self","turn","letters","king"] rfl (by decide +kernel) λ_ _ _ _ _ _=>usS λ_=>usS λ_=>usS λ_=>usZ rfl
def O1:OkD tab prog 33 "hear_sender" "KingHand.hear_sender" ["self","letters"] zbH:=zao ["self","letters"] rfl (by decide +kernel) λ_ _ _ _ _ _=>usS λ_=>usS λ_=>usZ rfl
def O4:OkD tab prog 34 "king_of" "KingHand.king_of" ["self","turn"] zco:=zao ["self","turn"] rfl (by decide +kernel) λ_ _ _ _ _ _=>usS λ_=>usS λ_=>usZ rfl
def O12:OkD tab prog 35 "say" "KingHand.say" ["self","turn"] zdL:=zao ["self","turn"] rfl (by decide +kernel) λ_ _ _ _ _ _=>usS λ_=>usS λ_=>usZ rfl
def O5:OkD tab prog 36 "writers" "KingHand.writers" ["self","turn"] zcn:=zao ["self","turn"] rfl (by decide +kernel) λ_ _ _ _ _ _=>usS λ_=>usS λ_=>usZ rfl
def O20:OkD tab prog 37 "__init__" "Ring.__init__" ["self","way","many","bound","sender","one","other"] zfB:=zao ["self","way","many","bound","sender","one","other","hands"] rfl (by decide +kernel) λ_ _ _ _ _ _=>usS λ_=>usS λ_=>usS λ_=>usS λ_=>usS λ_=>usS λ_=>usS λ_=>usZ rfl
def O11:OkD tab prog 38 "group_of" "Ring.group_of" ["self","hand"] zdk:=zao ["self","hand"] rfl (by decide +kernel) λ_ _ _ _ _ _=>usS λ_=>usS λ_=>usZ rfl
def O6:OkD tab prog 39 "hands_with" "Ring.hands_with" ["self","word"] zcD:=zao ["self","word"] rfl (by decide +kernel) λ_ _ _ _ _ _=>usS λ_=>usS λ_=>usZ rfl
def O13:OkD tab prog 40 "letters" "Ring.letters" ["self"] zdK:=zao ["self"] rfl (by decide +kernel) λ_ _ _ _ _ _=>usS λ_=>usZ rfl
def O7:OkD tab prog 41 "place_for" "Ring.place_for" ["self","place","reader"] zcX:=zao ["self","place","reader","double","apart"] rfl (by decide +kernel) λ_ _ _ _ _ _=>usS λ_=>usS λ_=>usS λ_=>usZ rfl
def O16:OkD tab prog 42 "wires" "Ring.wires" ["self"] zeT:=zao ["self"] rfl (by decide +kernel) λ_ _ _ _ _ _=>usS λ_=>usZ rfl
def O8:OkD tab prog 43 "wires_at" "Ring.wires_at" ["self","place"] zdj:=zao ["self","place"] rfl (by decide +kernel) λ_ _ _ _ _ _=>usS λ_=>usS λ_=>usZ rfl
def O23:OkD tab prog 44 "__init__" "Hand.__init__" ["self","number","many","rounds"] zfC:=zao ["self","number","many","rounds"] rfl (by decide +kernel) λ_ _ _ _ _ _=>usS λ_=>usS λ_=>usS λ_=>usS λ_=>usZ rfl
end
section
open R
def plen(S:R.St)(o:MO):(S.push o).len=S.len+1:=by simp[St.push,St.len];lia
noncomputable abbrev pD(p:List Int):D:=.tup (p.map .int)
def zrT{P:List Fn}{F:Fn}{f n:Nat}{ds:List D}{S S':R.St}{d:D}(h:P[f]?=Φ F)(hl:ds.length=F.np)(w:W (exS (callF P n) F.body (zaG F ds) S.enter) λr T=>wFin S r T λa T'=>a=d/\T'=S')(hp:F.prim=Ψ:=by rfl) :
  app (callF P (n+1)) f ds S=.ok d S':=by
 refine W.eq ?_;rw[znf h hl hp,zab];refine w.mono λr T q=>?_;unfold wFin at q;exact q
def zcM{cf:CF}{g:List Nat}{l:CL}{b r:CS}{δ:Ev}{S S1:R.St}{xs:List D}{ls:List Nat}{Q:Fl->R.St->Prop}(h:evL cf l δ S=.ok (xs,ls) S1)
  (w:W (zaI g (exS cf b) xs δ {S1 with lk:=ls++S1.lk}) λf T=>match f with|.nx δ'=>W (exS cf r δ' {T with lk:=S1.lk}) Q|.rt d=>Q (.rt d) {T with lk:=S1.lk}):W (exS cf (.forS g l b r) δ S) Q:=by
 show W (Out.bind _ _) _;rw[h,zaw];unfold zbg;dsimp only;rw[zab,zab];refine w.mono λf T hf=>?_;rw[W_ok];cases f with|nx δ'=>exact hf|rt d=>exact hf
def zdC{n:Nat}{S:R.St}{ns:List Int}{k:Nat}:app (callF prog (n+1)) 17 [.fix (ns.map .int),.int k] S=.ok (.int (zbz ns k)) S:=by
 refine zaL (F:=zcO) rfl rfl ?_;left;refine zch (λc=>?_) (λc=>?_);have c:k<ns.length:=by simpa using c
 left;exists zb5 (x:=D.int ns[k]) (by simp[c]);left;change by decide
 left;change by decide
 left;refine zaf rfl ⟨?_,rfl⟩;unfold zbz;rw[getElem?_eq_getElem c];rfl;have c:¬k<ns.length:=by simpa using c
 left;refine zaf rfl ⟨?_,rfl⟩;unfold zbz;rw[List.getElem?_eq_none (by lia)]
def zkB(N:Nat)(p:List Int):flat N (pD p)=Γ:=by simp[zby]
def zo5(N:Nat)(o:Option Int):flat N (oD o)=Γ:=by cases o<;>rfl
def zeM{n:Nat}{S:R.St}{i:Int}:app (callF prog (n+1)) 0 [.int i] S=.ok (.bl Γ) S:=by refine zaL (F:=zey) rfl rfl ?_;left;exists(show tyOf S.enter (.int i)=Φ "int" from rfl);left;exists(show tyOf S.enter (.int i)=Φ "int" from rfl);left;exact zaf rfl ⟨rfl,rfl⟩
def zqp{n:Nat}{S:R.St}{i m:Int}(h:0<=i/\i<m):app (callF prog (n+2)) 1 [.int i,.int m] S=.ok (.bl Γ) S:=by refine zaL (F:=zgf) rfl rfl ?_;left;specialize zeM (n:=n);left;refine zi4 (by simpa using h.1) ?_;left;exact zaf rfl ⟨by simp[h.2],rfl⟩
def zql{n:Nat}{S:R.St}{i:Int}(h:-10^60<i/\i<10^60):app (callF prog (n+2)) 2 [.int i] S=.ok (.bl Γ) S:=by
 refine zaL (F:=zge) rfl rfl ?_;left;specialize zeM (n:=n);left;right;left;refine zaf rfl ⟨?_,rfl⟩;have:(if i<0 then -i else i)<(10:Int)^60:=by have h1:=h.1;have h2:=h.2;split<;>omega
 rw[show Int.toNat 60=60 from rfl,decide_eq_true this]
def zjp{n:Nat}{S:R.St}{i lo hi:Int}(h1:lo<=i)(h2:i<=hi):app (callF prog (n+2)) 3 [.int i,.int lo,.int hi] S=.ok (.int i) S:=by refine zaL (F:=zez) rfl rfl ?_;left;specialize zeM (n:=n);left;refine zi4 (by simpa using h1) ?_;left;refine zi5 (by simpa using h2) ?_;left;exact zaf rfl ⟨rfl,rfl⟩
def zlp{n:Nat}{S:R.St}{i m:Int}(h:0<=i/\i<m):app (callF prog (n+3)) 4 [.int i,.int m] S=.ok (.int i) S:=by refine zaL (F:=zgg) rfl rfl ?_;left;specialize zqp (n:=n) h;left;exact zaf rfl ⟨rfl,rfl⟩
def zoM{S:R.St}{l:Nat}{ks:List Int}(h:S.get l=Φ (.lst (ks.map .int))):lstI S (.ref l)=Φ ks:=by unfold lstI;dsimp only;rw[h];exact zdW ks
def zhh{n:Nat}{S:R.St}{i:Int}(h:-10^60<i/\i<10^60):app (callF prog (n+3)) 5 [.int i] S=.ok (.int i) S:=by refine zaL (F:=zgc) rfl rfl ?_;left;specialize zql (n:=n) h;left;exact zaf rfl ⟨rfl,rfl⟩
abbrev hD(m b i s:Int)(w h:Option Int)(k:Int)(l:Nat):MO:=.ins 0 [("number",.int i),("many",.int m),("rounds",.int (1+3*(b+1))),("bound",.int b),("sender",.int s),("word",oD w),("held",oD h),("backing",.int k),("holdings",.ref l)]
section
variable{S:R.St}{a l:Nat}{m b i s k:Int}{w h:Option Int}
def zas{c:Nat}{fs:List (PySem.Str×D)}(e:S.get a=Φ (.ins c fs)):zbY S (.ref a)=Φ (c,fs):=by unfold zbY;dsimp only;rw[e]
def zaK{c:Nat}{fs:List (PySem.Str×D)}{f:PySem.Str}{v:D}(e:S.get a=Φ (.ins c fs))(g:fs.lookup f=Φ v):((zbY S (.ref a)).bind λp=>p.2.lookup f)=Φ v:=by rw[zas e];exact g
def zcN(e:S.get a=Φ (hD m b i s w h k l)):((zbY S (.ref a)).bind λp=>p.2.lookup ("number":PySem.Str))=Φ (.int i):=zaK e rfl
def zf4(e:S.get a=Φ (hD m b i s w h k l)):((zbY S (.ref a)).bind λp=>p.2.lookup ("many":PySem.Str))=Φ (.int m):=zaK e rfl
def zgS(e:S.get a=Φ (hD m b i s w h k l)):((zbY S (.ref a)).bind λp=>p.2.lookup ("bound":PySem.Str))=Φ (.int b):=zaK e rfl
def zfg(e:S.get a=Φ (hD m b i s w h k l)):((zbY S (.ref a)).bind λp=>p.2.lookup ("sender":PySem.Str))=Φ (.int s):=zaK e rfl
def zdb(e:S.get a=Φ (hD m b i s w h k l)):((zbY S (.ref a)).bind λp=>p.2.lookup ("held":PySem.Str))=Φ (oD h):=zaK e rfl
def zkE(e:S.get a=Φ (hD m b i s w h k l)):((zbY S (.ref a)).bind λp=>p.2.lookup ("backing":PySem.Str))=Φ (.int k):=zaK e rfl
def ziN(e:S.get a=Φ (hD m b i s w h k l)):((zbY S (.ref a)).bind λp=>p.2.lookup ("holdings":PySem.Str))=Φ (.ref l):=zaK e rfl
def zbB{P:List Fn}{F:Fn}{f n:Nat}{ds:List D}{S:R.St}{Q:D->R.St->Prop}(h:P[f]?=Φ F)(hl:ds.length=F.np)(w:W (exS (callF P n) F.body (zaG F ds) S) λr T=>match r with|.nx _=>Q .non T|.rt d=>Q d T)(hp:F.prim=Ψ:=by rfl):W (appW (callF P (n+1)) f ds S) Q:=by unfold appW;simp only[callF,h,hl,hp,if_true,zab];refine w.mono λr T q=>?_;cases r<;>exact q
def zc6{P:List Fn}{F:Fn}{f n:Nat}{ds:List D}{S S':R.St}{d:D}(h:P[f]?=Φ F)(hl:ds.length=F.np)(w:wS (callF P n) F.body (zaG F ds) S λr T=>match r with|.nx _=>D.non=d/\T=S'|.rt z=>z=d/\T=S')(hp:F.prim=Ψ:=by rfl):appW (callF P (n+1)) f ds S=.ok d S':=by refine W.eq (zbB h hl ((wS_W _ w).mono λr T q=>?_) hp);cases r<;>exact q
abbrev zaS(m t:Int):Int:=(t-2)/3%m
def zm2{n:Nat}{t:Int}(e:S.get a=Φ (hD m b i s w h k l))(hm:0<m):appW (callF prog (n+1)) 34 [.ref a,.int t] S=.ok (.int (zaS m t)) S:=by
 refine zc6 (F:=zbl) rfl rfl ?_;left
 repeat (first|(right;conv=>whnf)|(refine zcv rfl ?_;conv=>whnf)|(refine wPut_new rfl ?_;conv=>whnf)|(refine zbb (by assumption) ?_;conv=>whnf))
 exists zf4 e;left;change hm;left;exact⟨rfl,rfl⟩
def zjl{n:Nat}{t:Int}:app (callF prog (n+1)) 14 [.int t] S=.ok (.int ((t-2)%3)) S:=by
 refine zaL (F:=zgd) rfl rfl ?_;left
 repeat (first|(right;conv=>whnf)|(refine zcv rfl ?_;conv=>whnf)|(refine wPut_new rfl ?_;conv=>whnf)|(refine zbb (by assumption) ?_;conv=>whnf))
 exact zaf rfl ⟨rfl,rfl⟩
abbrev wrZ(m s t:Int):List Int:=if t=1 then [s] else if(t-2)%3=2 then [zaS m t] else(List.range m.toNat).map λ(k:Nat)=>(k:Int)
def zjW{n:Nat}{t:Int}(e:S.get a=Φ (hD m b i s w h k l))(hm:0<m)(hm7:m<=7):appW (callF prog (n+2)) 36 [.ref a,.int t] S=.ok (.ref S.len) (S.push (.lst ((wrZ m s t).map .int))):=by
 refine zc6 (F:=zbk) rfl rfl ?_;unfold wrZ;left;refine zch (λc1=>?_) (λc1=>?_);left;exists zfg e;left;right;left;rw[if_pos c1];exact⟨rfl,rfl⟩;rw[if_neg c1];left;specialize zjl (n:=n);left;refine zch (λc2=>?_) (λc2=>?_);rw[if_pos c2];left;exists zas e;left;exists rfl;left;change rfl;left;specialize zm2 (n:=n) e hm;left;right;left;exact⟨rfl,rfl⟩;rw[if_neg c2];left;exists zf4 e;left;change by lia
 left;change by simp;lia
 left;rw[map_map];exact⟨rfl,rfl⟩
abbrev rwD(i:Int)(h:Option Int)(o:Int):D:=.tup [.tup [.int i],.int o,oD h]
abbrev rg(m:Int):List Int:=(List.range m.toNat).map λ(k:Nat)=>(k:Int)
abbrev sayL(m i:Int)(h:Option Int)(y:Bool):List D:=if y then((rg m).filter λo=>!decide (o=i)).map (rwD i h) else []
abbrev sayS(S:R.St)(m i s t:Int):R.St:=S.push (.lst ((wrZ m s t).map .int))
def zcs(p:Int->Bool)(f:Int->D)(q:D->Bool)(g:D->D)(h1:∀o,q (.int o)=p o)(h2:∀o,g (.int o)=f o):∀xs:List Int,((xs.map D.int).filter q).map g=(xs.filter p).map f
 | []=>rfl| x::xs=>by rw[Μ,List.filter_cons,List.filter_cons,h1];cases p x with|true=>simp only[if_true,Μ,h2];rw[zcs p f q g h1 h2 xs]|false=>simpa using zcs p f q g h1 h2 xs
def zsG{n:Nat}{t:Int}(e:S.get a=Φ (hD m b i s w h k l))(hm:0<m)(hm7:m<=7):appW (callF prog (n+3)) 35 [.ref a,.int t] S=.ok (.ref (sayS S m i s t).len) ((sayS S m i s t).push (.lst (sayL m i h (decide (i∈wrZ m s t))))):=by
 refine zc6 (F:=zcl) rfl rfl ?_;have e1:(sayS S m i s t).get a=Φ (hD m b i s w h k l):=zaj e;left;exists zcN e;left;exists zas e;left;exists rfl;left;change rfl;left;specialize zjW (n:=n) e hm hm7;left;exists zjR (zag _ _) i;left;unfold sayL;refine zdh (λc=>?_) (λc=>?_);rw[not_eq_true']at c;rw[c];left;right;left;exact⟨rfl,rfl⟩;rw[Bool.not_eq_false']at c;rw[c];left;exists zf4 e1;left;change by lia
 left;refine zay ?_;refine W.of (zdy (λd=>match d with|.int o=>!decide (o=i)|_=>Δ) (λd=>match d with|.int o=>rwD i h o|d=>d) _ Ψ (λz hz=>?_) (λz hz _=>?_)) ?_;obtain⟨o,_,rfl⟩:=mem_map.mp hz;refine W.eq (wT_W _ ?_);left;exists zcN e1;left;exact⟨rfl,rfl⟩;obtain⟨o,_,rfl⟩:=mem_map.mp hz;refine W.eq (wE_W _ ?_);left;exists zcN e1;left;right;left;exists zdb e1;left;right;left;exact⟨rfl,rfl⟩;have hx:((List.range m.toNat).map λ(k:Nat)=>D.int (k:Int))=(rg m).map .int:=by unfold rg;rw[map_map];rfl
 rw[hx,zcs (λo=>!decide (o=i)) (rwD i h) _ _ (λo=>rfl) (λo=>rfl)];have hl:(((rg m).filter λo=>!decide (o=i)).map (rwD i h)).length<=7:=by rw[length_map];refine le_trans (length_filter_le _ _) ?_;unfold rg;rw[length_map,ϡ];lia
 change le_trans hl (by decide);left;change le_trans hl (by decide);left;exact⟨rfl,rfl⟩
abbrev ltD(x:Int×Option Int):D:=.tup [.tup [.int x.1],oD x.2]
def zc9{cf:CF}{T:R.St}:∀(Ls:List (Int×Option Int))(u v:Option D),zat [0,1] (evT cf (.tst (.con (.bl Γ)))) (evE cf J1) (Ls.map ltD) [u,v] T=.ok ((Ls.map (·.2)).map oD) T
 | [],u,v=>rfl| x::Ls,u,v=>by have ih:=zc9 (cf:=cf) (T:=T) Ls (Φ (.tup [.int x.1])) (Φ (oD x.2));simp only[Μ,ltD,zat,asgG,zd8,Χ,Ϥ,if_true,List.set_cons_zero,List.set_cons_succ];show Out.bind (.ok Γ T) _=_;rw[zaw,if_pos rfl];show Out.bind (.ok (oD x.2) T) _=_;rw[zaw,ih,zaw]
abbrev wsZ(h:Option Int)(Ls:List (Int×Option Int)):List (Option Int):=h::Ls.map (·.2)
abbrev awS(S:R.St)(h:Option Int)(Ls:List (Int×Option Int)):R.St:=(S.push (.lst [oD h])).push (.lst ((Ls.map (·.2)).map oD))
def zjX{n q:Nat}{Ls:List (Int×Option Int)}(e:S.get a=Φ (hD m b i s w h k l))(eq:S.get q=Φ (.lst (Ls.map ltD)))(hl:Ls.length<=60):appW (callF prog (n+1)) 29 [.ref a,.ref q] S=.ok (.ref (awS S h Ls).len) ((awS S h Ls).push (.lst ((wsZ h Ls).map oD))):=by
 refine zc6 (F:=zba) rfl rfl ?_;left;exists zdb e;left;right;left;exists zaj eq;left;refine zay ?_;refine W.of (zc9 Ls Ψ Ψ) ?_;change by simp only[length_map];lia
 left;change by simp only[length_map];lia
 left;exists zaj (zag _ _);left;exists zag _ _;left;change by simp only[length_append,length_map,Χ,Ϥ];lia
 left;exact⟨rfl,rfl⟩
end
abbrev strR(os:List (Option Int))(k:Int):D:=match zaQ (zad [] os) with|r::_=>if k<=r.2 then .int r.1 else .non | []=>.non
def zhi{n l:Nat}{S:R.St}{os:List (Option Int)}{k:Int}(h:S.get l=Φ (.lst (os.map oD)))(hc:(zad [] os).length<64)(hl:os.length<=16777216):app (callF prog (n+5)) 8 [.ref l,.int k] S=.ok (strR os k) S:=by
 refine zaL (F:=zhY) rfl rfl ?_;left;specialize zk2 (n:=n) (f:=7) (F:=zg0) (S:=S.enter) rfl rfl rfl (by rw[za4];exact h) hc hl;left;unfold talD strR;generalize zaQ (zad [] os)=rows;cases rows with
 |nil=>
  left
  repeat (first|(right;conv=>whnf)|(refine zcv rfl ?_;conv=>whnf)|(refine wPut_new rfl ?_;conv=>whnf)|(refine zbb (by assumption) ?_;conv=>whnf))
  exact zaf rfl ⟨rfl,rfl⟩
 |cons r rows=>
  left
  repeat (first|(right;conv=>whnf)|(refine zcv rfl ?_;conv=>whnf)|(refine wPut_new rfl ?_;conv=>whnf)|(refine zbb (by assumption) ?_;conv=>whnf))
  exists(ziU (x:=rowD r));left;exists zrS;left;refine zch (λc=>?_) (λc=>?_)
  . left
    repeat (first|(right;conv=>whnf)|(refine zcv rfl ?_;conv=>whnf)|(refine wPut_new rfl ?_;conv=>whnf)|(refine zbb (by assumption) ?_;conv=>whnf))
    exists(ziU (x:=rowD r));left;exists ziU;left;exact zaf rfl ⟨by dsimp only;rw[if_pos c],rfl⟩
  left;exact zaf rfl ⟨by dsimp only;rw[if_neg c],rfl⟩
abbrev stZ(os:List (Option Int))(k:Int):Option Int:=match zaQ (zad [] os) with|r::_=>if k<=r.2 then Φ r.1 else Ψ | []=>Ψ
def zmH{os:List (Option Int)}{k:Int}(hk:1<=k):strR os k=oD (stZ os k):=by
 unfold strR stZ;split
 . split<;>rfl
 rfl
def znZ{n l:Nat}{S:R.St}{os:List (Option Int)}{v:Int}(h:S.get l=Φ (.lst (os.map oD))):app (callF prog (n+1)) 6 [.ref l,.int v] S=.ok (.int (cntZ os (Φ v))) S:=by refine zaL (F:=zkU) rfl rfl ?_;left;refine zbb h ?_;left;refine zbb h ?_;left;exists zeB os;left;exact zaf rfl ⟨rfl,rfl⟩
def drop_at{α:Type}{xs:List α}{i:Nat}{x:α}(h:xs[i]?=Φ x):xs.drop i=x::xs.drop (i+1):=by obtain⟨hl,rfl⟩:=Ω.mp h;exact List.drop_eq_getElem_cons hl
structure Mv(A:List Nat)(S T:R.St):Prop where
 frz:T.frz=S.frz
 lk:T.lk=S.lk
 len:S.len<=T.len
 old:∀m o,m∉A->S.get m=Φ o->T.get m=Φ o
def Mv.refl(A:List Nat)(S:R.St):Mv A S S:=⟨rfl,rfl,le_refl _,λ_ _ _ h=>h⟩
def Mv.trans{A:List Nat}{S T U:R.St}(a:Mv A S T)(b:Mv A T U):Mv A S U:=⟨b.frz.trans a.frz,b.lk.trans a.lk,le_trans a.len b.len,λm o h e=>b.old m o h (a.old m o h e)⟩
def Mv.push(A:List Nat)(S:R.St)(o:MO):Mv A S (S.push o):=⟨rfl,rfl,by rw[plen];lia,λ_ _ _ e=>zaj e⟩
def Mv.up{A B:List Nat}{S T:R.St}(h:Mv A S T)(s:∀m,m∈A->m∈B):Mv B S T:=⟨h.frz,h.lk,h.len,λm o hm e=>h.old m o (λz=>hm (s m z)) e⟩
def get_lt{S:R.St}(h:S.get l=Φ o):l<S.len:=by unfold St.get at h;unfold St.len;split at h;lia;have:=(Ω.mp h).1;lia
structure Fr(S:R.St)(a:Nat):Prop where
 f:S.frz.length<=a
 k:S.lk.contains a=Δ
def Fr.mv{A:List Nat}{S T:R.St}{a:Nat}(h:Fr S a)(v:Mv A S T):Fr T a:=⟨by rw[v.frz];exact h.f,by rw[v.lk];exact h.k⟩
def zaX{S:R.St}{a c:Nat}{fs gs:List (PySem.Str×D)}{f:PySem.Str}{v:D}(e:S.get a=Φ (.ins c fs))(hf:Fr S a)(hl:fs.length<1000)(hg:zjC f v fs=gs):∃T,zbJ S (.ref a) f v=Φ T/\Mv [a] S T/\T.get a=Φ (.ins c gs):=by obtain⟨T,h1,h2,h3,h4,h5,h6⟩:=zeU (S:=S) (l:=a) (.ins c gs) hf.f hf.k;refine⟨T,?_,⟨h2,h3,by lia,λm o hm e=>by rw[h5 m (by simpa using hm)];exact e⟩,h6 (get_lt e)⟩;unfold zbJ;dsimp only;rw[e];dsimp only;rw[if_pos hl,hg,h1]
section
variable{S:R.St}{a l:Nat}{m b i s k:Int}{w h:Option Int}
def zcx{h':Option Int}(e:S.get a=Φ (hD m b i s w h k l))(hf:Fr S a):∃T,zbJ S (.ref a) "held" (oD h')=Φ T/\Mv [a] S T/\T.get a=Φ (hD m b i s w h' k l):=zaX e hf (by simp) rfl
def zdB{k':Int}(e:S.get a=Φ (hD m b i s w h k l))(hf:Fr S a):∃T,zbJ S (.ref a) "backing" (.int k')=Φ T/\Mv [a] S T/\T.get a=Φ (hD m b i s w h k' l):=zaX e hf (by simp) rfl
def zo6(S:R.St)(x y:Int):cmpO S .Eq (.tup [.int x]) (.tup [.int y])=Φ (x==y):=by show eqD S (.tup [.int x]) (.tup [.int y])=_;show Φ (PySem.PyData.eqv (.tuple [.int x]) (.tuple [.int y]))=_;simp[PySem.PyData.eqv,PySem.PyData.eqvAll,L2.eqv_int]
end
abbrev wfZ(s:Int):List (Int×Option Int)->Int
 | []=>0|x::r=>match x.2 with|some v=>if x.1=s then v else wfZ s r|none=>wfZ s r
def s_wf{n q:Nat}{S:R.St}{s:Int}{Ls:List (Int×Option Int)}(h:S.get q=Φ (.lst (Ls.map ltD))):app (callF prog (n+1)) 15 [.int s,.ref q] S=.ok (.int (wfZ s Ls)) S:=by
 refine zaL (F:=zd4) rfl rfl ?_;left;refine zbb h ?_;left;refine zay ?_;refine W.mono (zcS (λi δ T=>T=⟨S.frz++S.new,[],[q]⟩/\wfZ s (Ls.drop i)=wfZ s Ls/\∃v3 v4,δ=[Φ (.int s),Φ (.ref q),v3,v4]) (λd _=>d=.int (wfZ s Ls)) _ 0 _ _ ⟨rfl,rfl,Ψ,Ψ,rfl⟩ ?_) ?_;rintro i z δ T hz ⟨rfl,hw,v3,v4,rfl⟩;rw[zero_add];rw[getElem?_map]at hz;cases e:Ls[i]? with
 |none=>rw[e]at hz;exact nS hz
 |some x=>
  rw[e]at hz;cases hz;rw[zero_add,drop_at e]at hw;refine⟨_,rfl,wS_W _ ?_⟩;left;right;left;exists zo6 _ _ _;left;refine zdh (λc=>?_) (λc=>?_);have c:x.1=s:=by simpa using c
  cases e2:x.2 with| none=>left;refine⟨rfl,?_,_,_,rfl⟩;rw[<-hw];simp[wfZ,e2]| some v=>left;rw[<-hw];simp[wfZ,e2,c,oD]
  . have c:x.1≠s:=by simpa using c
    left;refine⟨rfl,?_,_,_,rfl⟩;rw[<-hw];cases e2:x.2<;>simp[wfZ,e2,c]
 intro f T hf;cases f with| nx δ=>obtain⟨rfl,hw,v3,v4,rfl⟩:=hf;left;refine zaf rfl ⟨?_,rfl⟩;rw[<-hw];simp[wfZ]| rt d=>subst hf;exact zaf rfl ⟨rfl,rfl⟩
abbrev lst1(m b:Int):Int:=if 1>m-b then 1 else m-b
def zlX(m b:Int):1<=lst1 m b:=by unfold lst1;split<;>lia
abbrev bkZ(os:List (Option Int))(b:Int):Int:=match stZ os (b+1) with|none=>0|some v=>cntZ os (Φ v)
abbrev kgZ(m b i t:Int)(h:Option Int)(k:Int)(Ls:List (Int×Option Int)):Option Int:=if(h.isSome&&decide (m-b<=k))=Γ then h else if i≠zaS m t then Φ (wfZ (zaS m t) Ls) else Φ (h.getD 0)
abbrev hrZ(m b i s t:Int)(h:Option Int)(k:Int)(Ls:List (Int×Option Int)):Option Int×Int:=if t=1 then(if i≠s then Φ (wfZ s Ls) else h,k) else if(t-2)%3=0 then(stZ (wsZ h Ls) (lst1 m b),k) else if(t-2)%3=1 then(stZ (wsZ h Ls) (b+1),bkZ (wsZ h Ls) b) else(kgZ m b i t h k Ls,k)
section
variable{S:R.St}{a l:Nat}{m b i s k:Int}{w h:Option Int}
def zmZ{Ls:List (Int×Option Int)}(hl:Ls.length<=60):(zad [] (wsZ h Ls)).length<64/\(wsZ h Ls).length<=16777216:=by
 have:=zeu (wsZ h Ls);have e:(wsZ h Ls).length=Ls.length+1:=by simp[wsZ]
 lia
def m_hs{n q:Nat}{Ls:List (Int×Option Int)}(e:S.get a=Φ (hD m b i s w h k l))(hf:Fr S a)(eq:S.get q=Φ (.lst (Ls.map ltD))):W (appW (callF prog (n+2)) 33 [.ref a,.ref q] S) λd T=>Mv [a] S T/\T.get a=Φ (hD m b i s w (if i≠s then Φ (wfZ s Ls) else h) k l):=by
 refine zbB (F:=zaZ) rfl rfl (wS_W _ ?_);left;exists zcN e;left;exists zfg e;left;refine zdh (λc=>?_) (λc=>?_);have c:i≠s:=by simpa using c
 left;exists zfg e;left;specialize(s_wf (n:=n) (s:=s) eq);left;obtain⟨T,h1,h2,h3⟩:=zcx (h':=Φ (wfZ s Ls)) e hf;exists h1;left;rw[if_pos c];exact⟨h2,h3⟩;have c:¬i≠s:=by simpa using c
 left;rw[if_neg c];exact⟨Mv.refl _ _,e⟩
def m_hb{n q:Nat}{Ls:List (Int×Option Int)}(e:S.get a=Φ (hD m b i s w h k l))(hf:Fr S a)(eq:S.get q=Φ (.lst (Ls.map ltD)))(hl:Ls.length<=60)(hb:0<=b):W (appW (callF prog (n+6)) 31 [.ref a,.ref q] S) λd T=>Mv [a] S T/\T.get a=Φ (hD m b i s w (stZ (wsZ h Ls) (b+1)) (bkZ (wsZ h Ls) b) l):=by
 refine zbB (F:=zaW) rfl rfl (wS_W _ ?_);obtain⟨c1,c2⟩:=zmZ (h:=h) hl;have v1:Mv [a] S ((awS S h Ls).push (.lst ((wsZ h Ls).map oD))):=((Mv.push _ _ _).trans (Mv.push _ _ _)).trans (Mv.push _ _ _);have e1:((awS S h Ls).push (.lst ((wsZ h Ls).map oD))).get a=Φ (hD m b i s w h k l):=zaj (zaj (zaj e));have f1:=hf.mv v1;have ew:((awS S h Ls).push (.lst ((wsZ h Ls).map oD))).get (awS S h Ls).len=Φ (.lst ((wsZ h Ls).map oD)):=zag _ _;left;exists zas e;left;exists rfl;left;change rfl;left;specialize zjX (n:=n+4) e eq hl;left;generalize hS1:(awS S h Ls).push (.lst ((wsZ h Ls).map oD))=S1 at *;left;exists zgS e1;left;specialize(zhi (n:=n) (k:=b+1) ew c1 c2).trans (by rw[zmH (by lia)]);left;obtain⟨S2,h1,h2,h3⟩:=zcx (h':=stZ (wsZ h Ls) (b+1)) e1 f1;exists h1;left;exists zdb h3;left;have f2:=f1.mv h2;have ew2:S2.get (awS S h Ls).len=Φ (.lst ((wsZ h Ls).map oD)):=h2.old _ _ (by
  have:=get_lt e;simp only[mem_singleton];unfold awS;rw[plen,plen];lia) ew
 unfold bkZ;cases es:stZ (wsZ h Ls) (b+1) with| none=>rw[es]at h3;left;obtain⟨S3,g1,g2,g3⟩:=zdB (k':=0) h3 f2;exists g1;left;exact⟨(v1.trans h2).trans g2,g3⟩| some v=>rw[es]at h3;left;exists zdb h3;left;specialize znZ (n:=n+4) (v:=v) ew2;left;obtain⟨S3,g1,g2,g3⟩:=zdB (k':=cntZ (wsZ h Ls) (Φ v)) h3 f2;exists g1;left;exact⟨(v1.trans h2).trans g2,g3⟩
def m_hk{n q:Nat}{t:Int}{Ls:List (Int×Option Int)}(e:S.get a=Φ (hD m b i s w h k l))(hf:Fr S a)(eq:S.get q=Φ (.lst (Ls.map ltD)))(hm:0<m):W (appW (callF prog (n+2)) 32 [.ref a,.int t,.ref q] S) λd T=>Mv [a] S T/\T.get a=Φ (hD m b i s w (kgZ m b i t h k Ls) k l):=by
 refine zbB (F:=za9) rfl rfl (wS_W _ ?_);have fin':wS (callF prog (n+1)) (.asg 3 (.meth "king_of" [(0,34)] J0 #[J1]) (.ifS (.cmp .NotEq (.fld J0 "number") J3) (.setF J0 "held" (.call 15 0 #[J3,J2]) .nil) (.ifS (.cmp .Is (.fld J0 "held") (.con D.non)) (.setF J0 "held" Y0 .nil) .nil .nil) .nil)) [Φ (.ref a),Φ (.int t),Φ (.ref q),Ψ] S λr T=>match r with|.nx _=>Mv [a] S T/\T.get a=Φ (hD m b i s w (if i≠zaS m t then Φ (wfZ (zaS m t) Ls) else Φ (h.getD 0)) k l)|.rt _=>Mv [a] S T/\T.get a=Φ (hD m b i s w (if i≠zaS m t then Φ (wfZ (zaS m t) Ls) else Φ (h.getD 0)) k l):=by
  left;exists zas e;left;exists rfl;left;change rfl;left;specialize zm2 (n:=n) e hm;left;exists zcN e;left;refine zdh (λc=>?_) (λc=>?_);have c:i≠zaS m t:=by simpa using c
  left;specialize(s_wf (n:=n) (s:=zaS m t) eq);left;obtain⟨T,h1,h2,h3⟩:=zcx (h':=Φ (wfZ (zaS m t) Ls)) e hf;exists h1;left;rw[if_pos c];exact⟨h2,h3⟩;have c:¬i≠zaS m t:=by simpa using c
  rw[if_neg c];left;exists zdb e;left;cases h with| none=>left;obtain⟨T,h1,h2,h3⟩:=zcx (h':=Φ 0) e hf;exists h1;left;exact⟨h2,h3⟩| some v=>left;exact⟨Mv.refl _ _,e⟩
 unfold kgZ;cases h with| none=>left;exists zdb e;left;rw[if_neg (by simp)];exact fin'| some v=>left;exists zdb e;left;exists zkE e;left;exists zf4 e;left;exists zgS e;left;refine zch (λc=>?_) (λc=>?_);left;rw[if_pos (by simpa using c)];exact⟨Mv.refl _ _,e⟩;rw[if_neg (by simpa using c)];exact fin'
def zrw{n:Nat}{d1 d2:Option D}{ws:List (Option Int)}{Q:Fl->R.St->Prop}(e:S.get a=Φ (hD m b i s w h k l))(el:S.get l=Φ (.lst (ws.map oD)))(fl:Fr S l)(hl:ws.length<=1000)
  (q:∀U,Mv [l] S U->U.get l=Φ (.lst ((ws++[h]).map oD))->Q (.nx [Φ (.ref a),d1,d2]) U):wS (callF prog n) (.expr (.mt .append (.fld J0 "holdings") #[.fld J0 "held"]) .nil) [Φ (.ref a),d1,d2] S Q:=by
 obtain⟨U,h1,h2,h3,h4,h5,h6⟩:=zeU (S:=S) (l:=l) (.lst ((ws++[h]).map oD)) fl.f fl.k;have hx:ws.map oD++[oD h]=(ws++[h]).map oD:=by simp
 left;exists ziN e;left;exists el;left;exists zdb e;left;exists el;left;change by simp only[length_append,length_map,Χ,Ϥ];lia
 left;exists by rw[hx];exact h1
 exact q U ⟨h2,h3,by lia,λm o hm e=>by rw[h5 m (by simpa using hm)];exact e⟩ (h6 (get_lt el))
def zrb{n q:Nat}{t:Int}{ws:List (Option Int)}{Ls:List (Int×Option Int)}(e:S.get a=Φ (hD m b i s w h k l))(hf:Fr S a)(eq:S.get q=Φ (.lst (Ls.map ltD)))(el:S.get l=Φ (.lst (ws.map oD)))(fl:Fr S l)(hal:l≠a)(hws:ws.length<=1000)(hl:Ls.length<=60)(hb:0<=b)(hm:0<m) :
  W (appW (callF prog (n+7)) 30 [.ref a,.int t,.ref q] S) λd T=>d=.non/\Mv [a,l] S T/\T.get a=Φ (hD m b i s w (hrZ m b i s t h k Ls).1 (hrZ m b i s t h k Ls).2 l)/\T.get l=Φ (.lst ((ws++[(hrZ m b i s t h k Ls).1]).map oD)):=by
 refine zbB (F:=zb4) rfl rfl (wS_W _ ?_);obtain⟨c64,c16⟩:=zmZ (h:=h) hl;have end':∀(T:R.St)(h':Option Int)(k':Int),Mv [a] S T->T.get a=Φ (hD m b i s w h' k' l)->hrZ m b i s t h k Ls=(h',k')->
   wS (callF prog (n+6)) (.expr (.mt .append (.fld J0 "holdings") #[.fld J0 "held"]) .nil) [Φ (.ref a),Φ (.int t),Φ (.ref q)] T λr T=>match r with|.nx _=>D.non=.non/\Mv [a,l] S T/\T.get a=Φ (hD m b i s w (hrZ m b i s t h k Ls).1 (hrZ m b i s t h k Ls).2 l)/\T.get l=Φ (.lst ((ws++[(hrZ m b i s t h k Ls).1]).map oD))|.rt d=>d=.non/\Mv [a,l] S T/\T.get a=Φ (hD m b i s w (hrZ m b i s t h k Ls).1 (hrZ m b i s t h k Ls).2 l)/\T.get l=Φ (.lst ((ws++[(hrZ m b i s t h k Ls).1]).map oD))
    :=by
  intro T h' k' v e' hz;rw[hz];refine zrw e' (v.old _ _ (by simpa using hal) el) (fl.mv v) hws λU v2 g=>⟨rfl,(v.up (by simp)).trans (v2.up (by simp)),v2.old _ _ (by simpa using hal.symm) e',g⟩
 unfold hrZ at end'⊢;left;refine zch (λc1=>?_) (λc1=>?_);rw[if_pos c1]at end'⊢;left;exists zas e;left;exists rfl;left;change rfl;left;refine za8 ((m_hs (n:=n+4) e hf eq).mono λd T hT=>?_);exact end' T _ _ hT.1 hT.2 rfl;rw[if_neg c1]at end'⊢;left;specialize zjl (n:=n+5);left;refine zch (λc2=>?_) (λc2=>?_);rw[if_pos c2]at end'⊢;left;exists zas e;left;exists rfl;left;change rfl;left;specialize zjX (n:=n+5) e eq hl;left;have v1:Mv [a] S ((awS S h Ls).push (.lst ((wsZ h Ls).map oD))):=((Mv.push _ _ _).trans (Mv.push _ _ _)).trans (Mv.push _ _ _);have e1:((awS S h Ls).push (.lst ((wsZ h Ls).map oD))).get a=Φ (hD m b i s w h k l):=zaj (zaj (zaj e));have f1:=hf.mv v1;have ew:((awS S h Ls).push (.lst ((wsZ h Ls).map oD))).get (awS S h Ls).len=Φ (.lst ((wsZ h Ls).map oD)):=zag _ _;generalize hS1:(awS S h Ls).push (.lst ((wsZ h Ls).map oD))=S1 at *;left;exists zf4 e1;left;exists zgS e1;left;specialize(zhi (n:=n+1) (k:=lst1 m b) ew c64 c16).trans (by rw[zmH (zlX m b)]);left;obtain⟨S2,h1,h2,h3⟩:=zcx (h':=stZ (wsZ h Ls) (lst1 m b)) e1 f1;exists h1;left;exact end' S2 _ _ (v1.trans h2) h3 rfl;rw[if_neg c2]at end'⊢;left;specialize zjl (n:=n+5);left;refine zch (λc3=>?_) (λc3=>?_);rw[if_pos c3]at end'⊢;left;exists zas e;left;exists rfl;left;change rfl;left;refine za8 ((m_hb (n:=n) e hf eq hl hb).mono λd T hT=>?_);exact end' T _ _ hT.1 hT.2 rfl;rw[if_neg c3]at end'⊢;left;exists zas e;left;exists rfl;left;change rfl;left;refine za8 ((m_hk (n:=n+4) (t:=t) e hf eq hm).mono λd T hT=>?_);exact end' T _ _ hT.1 hT.2 rfl
end
def zlo{n:Nat}{S:R.St}{b:Int}(hb:0<=b)(hb5:b<=5):app (callF prog (n+1)) 13 [.int b] S=.ok (.int (1+3*(b+1))) S:=by
 refine zaL (F:=zdc) rfl rfl ?_;left;change by unfold zbM;simp
 left;exact zaf rfl ⟨rfl,rfl⟩
def zds{T:R.St}{N:Nat}(hk:∀l∈T.lk,l<N)(hN:N<=T.len):T.lk.contains T.len=Δ:=by rw[Bool.eq_false_iff];intro z;have:=hk _ (List.contains_iff_mem.mp z);lia
structure Row where
 p:List Int
 to:Int
 w:D
abbrev rD(r:Row):D:=.tup [pD r.p,.int r.to,r.w]
abbrev leD(t:Int)(r:Row):D:=.tup [.int t,pD r.p,.int r.to,r.w]
noncomputable abbrev Bxl:=List Int×D
abbrev bxD(x:Bxl):D:=.tup [pD x.1,x.2]
abbrev key(r:Row):K3:=(0,r.p,r.to)
structure Town where
 H:Type
 m:Nat
 who:Nat->Nat
 adr:Nat->List Nat
 ok:R.St->Nat->Nat->H->Prop
 say:Nat->Int->H->List Row
 hear:Nat->Int->H->List Bxl->H
 lt:Bxl->Prop
 tt:Int->Prop
 wr:Nat
 la:Nat->Nat
 nh:Nat
 rt:Nat->Int->Int
 mx:Nat
abbrev Town.go(V:Town)(k:Nat)(r:Row):Row:=⟨r.p,V.rt k r.to,r.w⟩
structure Town.wok(V:Town)(S:R.St):Prop where
 w:S.get V.wr=Φ (.lst ((List.range V.m).map λj=>.ref (V.la j)))
 l:∀j,j<V.m->S.get (V.la j)=Φ (.lst ((List.range V.nh).map λ(o:Nat)=>.int (V.rt j o)))
def Town.wok.up{V:Town}{S T:R.St}(h:V.wok S)(u:∀o,S.get V.wr=Φ o->T.get V.wr=Φ o)(v:∀j,j<V.m->∀o,S.get (V.la j)=Φ o->T.get (V.la j)=Φ o):V.wok T:=⟨u _ h.w,λj hj=>v j hj _ (h.l j hj)⟩
abbrev saT:List (Nat×Nat):=[(0,35)]
abbrev heT:List (Nat×Nat):=[(0,30)]
abbrev Town.said(V:Town)(t:Int):Nat->List V.H->List Row
 |_,[]=>[]|k,h::hs=>(V.say k t h).map (V.go k)++V.said t (k+1) hs
structure TownOk(V:Town)(q:Nat):Prop where
 dep:∀{S T:R.St}{d j:Nat}{h:V.H},V.ok S d j h->(∀z∈V.adr j,∀o,S.get z=Φ o->T.get z=Φ o)->V.ok T d j h
 has:∀{S:R.St}{d j:Nat}{h:V.H},V.ok S d j h->∀z∈V.adr j,∃o,S.get z=Φ o
 say:∀{S:R.St}{d j:Nat}{h:V.H}(t:Int)(n:Nat),V.tt t->(∀l∈S.lk,l<S.len)->j<V.m->V.ok S d j h->∃c fs f,S.get (V.who j)=Φ (.ins c fs)/\saT.lookup c=Φ f/\fs.lookup ("say":PySem.Str)=Ψ/\
  W (appW (callF prog (n+q)) f [.ref (V.who j),.int t] S) λx T=>∃l,x=.ref l/\S.len<=l/\Mv [] S T/\T.get l=Φ (.lst ((V.say j t h).map rD))
 rto:∀(j:Nat)(t:Int)(h:V.H),∀r∈V.say j t h,∃o:Nat,o<V.nh/\r.to=(o:Nat)
 slt:∀(j:Nat)(t:Int)(h:V.H),∀r∈V.say j t h,V.lt (r.p,r.w)
 wa:∀j,V.who j∈V.adr j
 flt:∀x,V.lt x->∀N,flat N x.2=Γ
 hear:∀{S:R.St}{d j b:Nat}{h:V.H}{B:List Bxl}(t:Int)(n:Nat),j<V.m->d<=40->V.ok S d j h->(∀z∈V.adr j,Fr S z)->S.get b=Φ (.lst (B.map bxD))->b∉V.adr j->B.length<=V.mx->(∀x∈B,V.lt x)->
  ∃c fs f,S.get (V.who j)=Φ (.ins c fs)/\heT.lookup c=Φ f/\fs.lookup ("hear":PySem.Str)=Ψ/\
  W (appW (callF prog (n+q)) f [.ref (V.who j),.int t,.ref b] S) λx T=>x=.non/\Mv (V.adr j) S T/\V.ok T (d+1) j (V.hear j t h B)
 unl:∀(t:Int)(hs:List V.H),V.tt t->hs.length=V.m->((V.said t 0 hs).map key).Nodup
 few:∀(t:Int)(hs:List V.H),V.tt t->hs.length=V.m->(V.said t 0 hs).length<=V.mx
 mx:V.mx<=450
def Mv.lock{A:List Nat}{S T:R.St}{l:List Nat}(h:Mv A {S with lk:=l} T):Mv A S {T with lk:=S.lk}:=⟨h.frz,rfl,h.len,λm o hm e=>h.old m o hm e⟩
def zoN{T:R.St}{l:List Nat}(h:T.lk=l):({T with lk:=l}:R.St)=T:=by subst h;rfl
def zcE{T:R.St}{l:Nat}{o u:MO}(hf:Fr T l)(e:T.get l=Φ o):∃U,T.put l u=Φ U/\Mv [l] T U/\U.get l=Φ u:=by obtain⟨U,h1,h2,h3,h4,h5,h6⟩:=zeU (S:=T) (l:=l) u hf.f hf.k;exact⟨U,h1,⟨h2,h3,by lia,λm x hm e=>by rw[h5 m (by simpa using hm)];exact e⟩,h6 (get_lt e)⟩
noncomputable abbrev Es(t:Int)(x:D)(wr l:Nat)(c d e f g:Option D):Ev:=[Φ (.int t),Φ x,Φ (.ref wr),Φ (.ref l),c,d,e,f,g]
abbrev sIn:CS:=.expr (.mt .append J3 #[.tup #[J0,J6,.ite (.cmp .Is J2 (.con D.non)) J7 (.ix (.ix J2 J4) J7),J8]]) .nil
def zpn{k m:Nat}{la:Nat->Nat}(h:k<m):R.atI ((List.range m).map λj=>D.ref (la j)) (k:Nat)=Φ (.ref (la k)):=zb5 (by simp[h])
def zm5{cf:CF}{V:Town}{t:Int}{x:D}{l k:Nat}{d:Option D}(hk:k<V.m)(n1:V.wr≠l)(n2:V.la k≠l):∀(rs:List Row)(acc:List D)(T:R.St)(e f g:Option D),V.wok T->(∀r∈rs,∃o:Nat,o<V.nh/\r.to=(o:Nat))->T.get l=Φ (.lst acc)->Fr T l->(∀j,j<V.m->V.la j≠l)->acc.length+rs.length<=1000->
  W (zaI [6,7,8] (exS cf sIn) (rs.map rD) (Es t x V.wr l (Φ (.int k)) d e f g) T) λfl U=>(∃e f g,fl=.nx (Es t x V.wr l (Φ (.int k)) d e f g))/\U.get l=Φ (.lst (acc++(rs.map (V.go k)).map (leD t)))/\Mv [l] T U
 | [],acc,T,e,f,g,w,hr,h,hf,n3,hl=>by show W (Out.ok (Fl.nx _) T) _;rw[W_ok];exact⟨⟨e,f,g,rfl⟩,by simpa using h,Mv.refl _ _⟩| r::rs,acc,T,e,f,g,w,hr,h,hf,n3,hl=>by
  simp only[Χ]at hl;obtain⟨o,ho,er⟩:=hr r (by simp);show W (Out.bind (exS cf sIn (Es t x V.wr l (Φ (.int k)) d (Φ (pD r.p)) (Φ (.int r.to)) (Φ r.w)) T) _) _;rw[zab];refine wS_W _ ?_;left;exists h;left;exists w.w;left;exists zpn hk;left;exists w.l k hk;left;have ea:R.atI ((List.range V.nh).map λ(o:Nat)=>D.int (V.rt k o)) r.to=Φ (.int (V.rt k r.to)):=by rw[er];exact zb5 (by simp[ho])
  exists ea;left;change show 4<=16777216 by decide
  left;exists h;left;change by simp;lia
  left;obtain⟨U,hU,mU,gU⟩:=zcE (u:=.lst (acc++[leD t (V.go k r)])) hf h;exists hU;left;refine(zm5 hk n1 n2 rs (acc++[leD t (V.go k r)]) U _ _ _ (w.up (λ_ e=>mU.old _ _ (by simpa using n1) e) λj hj _ e=>mU.old _ _ (by simpa using n3 j hj) e) (λr hr'=>hr r (by simp[hr'])) gU (hf.mv mU) n3 (by simp;lia)).mono λfl V hV=>?_;obtain⟨h1,h2,h3⟩:=hV;exact⟨h1,by rw[h2,append_assoc];rfl,mU.trans h3⟩
abbrev sayC:CL:=.val (.meth "say" saT J5 #[J0])
def znY{V:Town}{q:Nat}(X:TownOk V q){S:R.St}{n d j:Nat}{t:Int}{h:V.H}{x:D}{l:Nat}{c e f g:Option D}(tt:V.tt t)(hk:∀l∈S.lk,l<S.len)(hj:j<V.m)(o:V.ok S d j h) :
  W (evL (callF prog (n+q)) sayC (Es t x V.wr l c (Φ (.ref (V.who j))) e f g) S) λr T=>∃l',r=((V.say j t h).map rD,[l'])/\S.len<=l'/\Mv [] S T:=by
 obtain⟨c',fs,k,g1,g2,g3,w⟩:=X.say t n tt hk hj o;refine wL_W _ ?_;unfold sayC;left;exists zas g1;left;exists g2;left;change by rw[g3];rfl
 left;refine za8 (w.mono λy T hT=>?_);obtain⟨l',rfl,hl,v,gl⟩:=hT;left;exists gl;left;exact⟨_,rfl,hl,v⟩
abbrev sOut:CS:=.forS [6,7,8] sayC sIn .nil
abbrev enW(V:Town):Nat->Nat->List D
 |_,0=>[]|k,c+1=>zis (.int (k:Nat)) (.ref (V.who k))::enW V (k+1) c
abbrev whoL(V:Town):Nat->Nat->List D
 |_,0=>[]|k,c+1=>.ref (V.who k)::whoL V (k+1) c
def zln{V:Town}{q:Nat}(X:TownOk V q){S:R.St}{n d j:Nat}{t:Int}{h:V.H}{x:D}{l:Nat}{e f g:Option D}{acc:List D}(tt:V.tt t)(hk:∀l∈S.lk,l<S.len)(hj:j<V.m)(o:V.ok S d j h)(gl:S.get l=Φ (.lst acc))(hf:Fr S l)(ha:acc.length+(V.say j t h).length<=1000)(w:V.wok S)(n1:V.wr≠l)(n3:∀j,j<V.m->V.la j≠l) :
  W (exS (callF prog (n+q)) sOut (Es t x V.wr l (Φ (.int j)) (Φ (.ref (V.who j))) e f g) S) λfl U=>(∃e f g,fl=.nx (Es t x V.wr l (Φ (.int j)) (Φ (.ref (V.who j))) e f g))/\U.get l=Φ (.lst (acc++((V.say j t h).map (V.go j)).map (leD t)))/\Mv [l] S U:=by
 unfold sOut;show W (Out.bind _ _) _;rw[zab];refine(znY X (n:=n) tt hk hj o).mono λr T hq=>?_;obtain⟨l',rfl,hl,v⟩:=hq;have nl:l≠l':=by have:=get_lt gl;lia
 rw[zab];unfold zbg;rw[zab];have g1:({T with lk:=[l']++T.lk}:R.St).get l=Φ (.lst acc):=v.old _ _ (by simp) gl;have f1:Fr ({T with lk:=[l']++T.lk}:R.St) l:=⟨by show T.frz.length<=l;rw[v.frz];exact hf.f,by
  show(l'::T.lk).contains l=Δ;rw[contains_cons,v.lk,hf.k,Bool.or_false];simpa using nl⟩
 have w1:V.wok ({T with lk:=[l']++T.lk}:R.St):=w.up (λ_ e=>v.old _ _ (by simp) e) λj hj _ e=>v.old _ _ (by simp) e;refine(zm5 (cf:=callF prog (n+q)) (V:=V) (k:=j) hj n1 (n3 j hj) (V.say j t h) acc _ e f g w1 (X.rto j t h) g1 f1 n3 ha).mono λfl U hU=>?_;obtain⟨⟨e',f',g',rfl⟩,h2,h3⟩:=hU;rw[W_ok];show W (exS (callF prog (n+q)) .nil _ _) _;(conv=>lhs;whnf);rw[W_ok];refine⟨⟨e',f',g',rfl⟩,h2,?_⟩;have h3':=h3.lock;exact(v.up (by simp)).trans h3'
def zft{V:Town}{q:Nat}(X:TownOk V q){n d:Nat}{t:Int}{x:D}{l:Nat}(tt:V.tt t)(n1:V.wr≠l)(n3:∀j,j<V.m->V.la j≠l):∀(hs:List V.H)(k:Nat)(acc:List D)(T:R.St)(c e f g z:Option D),(∀l∈T.lk,l<T.len)->k+hs.length<=V.m->
  (∀i h,hs[i]?=Φ h->V.ok T d (k+i) h/\l∉V.adr (k+i))->T.get l=Φ (.lst acc)->Fr T l->acc.length+(V.said t k hs).length<=1000->V.wok T->
  W (zaI [4,5] (exS (callF prog (n+q)) sOut) (enW V k hs.length) (Es t x V.wr l c e f g z) T) λfl U=>(∃c d e f g,fl=.nx (Es t x V.wr l c d e f g))/\U.get l=Φ (.lst (acc++(V.said t k hs).map (leD t)))/\Mv [l] T U
 | [],k,acc,T,c,e,f,g,z,_,_,_,h2,h3,h4,w=>by show W (Out.ok (Fl.nx _) T) _;rw[W_ok];exact⟨⟨c,e,f,g,z,rfl⟩,by simpa[Town.said]using h2,Mv.refl _ _⟩| h::hs,k,acc,T,c,e,f,g,z,hk,h0,h1,h2,h3,h4,w=>by simp only[Χ]at h0;simp only[Town.said,length_append,length_map]at h4;obtain⟨x1,nr⟩:=h1 0 h rfl;show W (Out.bind (exS (callF prog (n+q)) sOut (Es t x V.wr l (Φ (.int k)) (Φ (.ref (V.who k))) f g z) T) _) _;rw[zab];refine(zln X (n:=n) (j:=k) tt hk (by lia) x1 h2 h3 (by lia) w n1 n3).mono λfl U hU=>?_;obtain⟨⟨e',f',g',rfl⟩,g2,v⟩:=hU;refine(zft X (d:=d) tt n1 n3 hs (k+1) (acc++((V.say k t h).map (V.go k)).map (leD t)) U _ _ _ _ _ (by rw[v.lk];exact λx hx=>lt_of_lt_of_le (hk x hx) v.len) (by lia) (λi h' e2=>?_) g2 (h3.mv v) (by rw[length_append,length_map,length_map];lia) (w.up (λ_ e=>v.old _ _ (by simpa using n1) e) λj hj _ e=>v.old _ _ (by simpa using n3 j hj) e)).mono λfl W' hV=>?_;obtain⟨y1,ny⟩:=h1 (i+1) h' (by simpa using e2);rw[show k+1+i=k+(i+1) by lia];refine⟨X.dep y1 λz hz o e=>v.old _ _ ?_ e,ny⟩;simp only[mem_singleton];intro zz;exact ny (zz▸hz);obtain⟨a1,a2,a3⟩:=hV;exact⟨a1,by rw[a2,append_assoc,Town.said,map_append],v.trans a3⟩
def zkI(V:Town):∀(c k:Nat),(whoL V k c).mapIdx (λi d=>zis (.int ((i+k:Nat):Int)) d)=enW V k c
 |0,_=>rfl| c+1,k=>by rw[whoL,List.mapIdx_cons,enW,<-zkI V c (k+1),zero_add];congr 2;funext i d;rw[show i+1+k=i+(k+1) by lia]
def zjj:c_said_in.body=.asg 3 (.lst .nil) (.forS [4,5] (.enum J1) sOut (.ret J3 .nil)):=rfl
def zgp{V:Town}{q:Nat}(X:TownOk V q)(t:Int):∀(hs:List V.H)(k:Nat),∀r∈V.said t k hs,V.lt (r.p,r.w)
 | [],_,r,hr=>by cases hr
 |h::hs,k,r,hr=>by rw[Town.said]at hr;rcases mem_append.mp hr with hr|hr;obtain⟨r',hr',rfl⟩:=mem_map.mp hr;exact X.slt k t h r' hr';exact zgp X t hs (k+1) r hr
def ziL{V:Town}{q:Nat}(X:TownOk V q)(N:Nat)(t:Int)(hs:List V.H)(k:Nat):flats N ((V.said t k hs).map (leD t))=Γ:=by rw[zby];intro d hd;obtain⟨r,hr,rfl⟩:=mem_map.mp hd;have:=X.flt _ (zgp X t hs k r hr) N;unfold leD;rw[zhL];have hp:=zkB N r.p;rw[zhL]at hp;simp only[flats,flat,hp,Bool.true_and,Bool.and_true];exact this
def zhO{V:Town}{T:R.St}{th:Nat}(hg:T.get th=Φ (.lst (whoL V 0 V.m))):zet T (.ref th)=Φ (enW V 0 V.m,[th]):=by unfold zet;dsimp only;rw[hg];dsimp only;rw[<-zkI V V.m 0];rfl
def zqm{V:Town}{q:Nat}(X:TownOk V q){S:R.St}{n d:Nat}{t:Int}{th:Nat}{hs:List V.H}(tt:V.tt t)(hh:hs.length=V.m)(hg:S.get th=Φ (.lst (whoL V 0 V.m)))(h1:∀(i:Nat) h,hs[i]?=Φ h->V.ok S d i h)(w:V.wok S) :
  app (callF prog (n+q+1)) 10 [.int t,.ref th,.ref V.wr] S=.ok (.ref S.len) (S.push (.lst ((V.said t 0 hs).map (leD t)))):=by
 refine zrT (F:=c_said_in) rfl rfl ?_;rw[zjj];show W (Out.bind _ _) _;rw[zab];have e3:evE (callF prog (n+q)) (.lst .nil) (zaG c_said_in [.int t,.ref th,.ref V.wr]) S.enter=.ok (.ref S.enter.len) (S.enter.push (.lst [])):=by rfl
 rw[e3,W_ok];have up:∀l o,S.get l=Φ o->(S.enter.push (.lst [])).get l=Φ o:=λl o e=>zaj (by rw[za4];exact e);have el:evL (callF prog (n+q)) (.enum J1) (Es t (.ref th) V.wr S.enter.len Ψ Ψ Ψ Ψ Ψ) (S.enter.push (.lst []))=.ok (enW V 0 V.m,[th]) (S.enter.push (.lst [])):=by show Out.bind (lift (S.enter.push (.lst [])) (Φ (D.ref th))) _=_;rw[zcJ,zaw,zhO (up _ _ hg)];rfl
 refine zcM (δ:=Es t (.ref th) V.wr S.enter.len Ψ Ψ Ψ Ψ Ψ) el ?_;have lt:=get_lt hg;have f1:Fr ({S.enter.push (.lst []) with lk:=[th]++(S.enter.push (.lst [])).lk}:R.St) S.enter.len:=⟨by show(S.frz++S.new).length<=_;rw[zfa,R.enter_len];exact le_refl _,by
  show([th]:List Nat).contains _=Δ;rw[R.enter_len];simp;lia⟩
 have few:=X.few t hs tt hh;have mx:=X.mx;have nw:∀x o,S.get x=Φ o->x≠S.enter.len:=λx o e=>by have:=get_lt e;rw[R.enter_len];lia
 rw[<-hh];refine(zft X (n:=n) (d:=d) tt (nw _ _ w.w) (λj hj=>nw _ _ (w.l j hj)) hs 0 [] {S.enter.push (.lst []) with lk:=[th]++(S.enter.push (.lst [])).lk} Ψ Ψ Ψ Ψ Ψ (λl hl=>by
  have:l=th:=by simpa[St.enter,St.push]using hl
  subst this;show _<(S.enter.push (.lst [])).len;rw[plen,R.enter_len];lia) (by lia) (λi h e2=>?_) (zag _ _) f1 (by simp;lia) (w.up (λ_ e=>up _ _ e) λj hj _ e=>up _ _ e)).mono λfl U hU=>?_
 have o:=h1 i h e2;rw[zero_add];refine⟨X.dep o λz _ o' e=>up _ _ e,λhz=>?_⟩;obtain⟨o',e⟩:=X.has o _ hz;have:=get_lt e;rw[R.enter_len]at this;lia;obtain⟨⟨c,d,e,f,g,rfl⟩,g2,v⟩:=hU;dsimp only;refine W.mono (wS_W (.ret J3 .nil) (Q:=λr T=>wFin S r T λa T'=>a=.ref S.len/\T'=S.push (.lst ((V.said t 0 hs).map (leD t)))) ?_) λr T z=>z;left;refine zfo (by rw[R.enter_len];exact le_refl _) (show({U with lk:=_}:R.St).get _=_ from g2) (by rw[List.nil_append];exact ziL X _ _ _ _) ⟨rfl,by rw[List.nil_append]⟩
def zcf:∀p:List Int,zaH (p.map .int)=Φ p
 | []=>rfl| i::p=>by have:=zcf p;unfold zaH at this⊢;rw[Μ,ϛ,this];rfl
def zoP(t:Int)(r:Row):zj4 (leD t r)=Φ (key r):=by show(zaH (r.p.map .int)).map _=_;rw[zcf];rfl
def zkd(t:Int):∀rs:List Row,(rs.map (leD t)).mapM zj4=Φ (rs.map key)
 | []=>rfl|r::rs=>by rw[Μ,ϛ,zoP,zkd t rs];rfl
def zg4{α:Type}{z:α}:∀{ks:List K3}{ds:List α},ks.Nodup->ks.length=ds.length->(ks.map λk=>((ks.zip ds).lookup k).getD z)=ds
 | [],[],_,_=>rfl| k::ks,d::ds,nd,hl=>by
  rw[nodup_cons]at nd;have ih:=zg4 (z:=z) (ks:=ks) (ds:=ds) nd.2 (by simpa using hl);rw[Μ,ϐ,ϓ,beq_self_eq_true];refine congrArg (d::·) (Eq.trans (Ρ λx hx=>?_) ih);have:(x==k)=Δ:=by rw[beq_eq_false_iff_ne];intro z;exact nd.1 (z▸hx)
  rw[ϓ,this]
def zhD{α β:Type}(f:α->β)(k:K3):∀(ks:List K3)(rs:List α),(ks.zip (rs.map f)).lookup k=((ks.zip rs).lookup k).map f
 | [],_=>rfl|_::_,[]=>rfl| j::ks,r::rs=>by rw[Μ,ϐ,ϐ,ϓ,ϓ,zhD f k ks rs];cases k==j<;>rfl
def zfL{α:Type}{k:K3}:∀{ks:List K3}{rs:List α},ks.length=rs.length->k∈ks->∃r,(ks.zip rs).lookup k=Φ r
 |j::ks,r::rs,hl,h=>by rw[ϐ,ϓ];by_cases e:k=j;subst e;rw[beq_self_eq_true];exact⟨_,rfl⟩;rw[beq_eq_false_iff_ne.mpr e];exact zfL (by simpa using hl) ((mem_cons.mp h).resolve_left e)
abbrev srtR(rs:List Row):List Row:=(zeL (rs.map key)).map λk=>(((rs.map key).zip rs).lookup k).getD ⟨[],0,.non⟩
def zaC{rs:List Row}(nd:(rs.map key).Nodup):(srtR rs).Perm rs:=((zaP _).map _).trans (List.Perm.of_eq (zg4 nd (by rw[length_map])))
def zhe{t:Int}{rs:List Row}(nd:(rs.map key).Nodup):srtD (rs.map (leD t)) (rs.map key)=(srtR rs).map (leD t):=by unfold srtD srtR;rw[map_map];refine Ρ λk hk=>?_;obtain⟨r,hr⟩:=zfL (rs:=rs) (by rw[length_map]) ((zaP _).mem_iff.mp hk);simp only[Function.comp,zhD,hr];rfl
def zj3{T:R.St}{l:Nat}{t:Int}{rs:List Row}(h:T.get l=Φ (.lst (rs.map (leD t)))):zhE T (.ref l)=Φ (rs.map (leD t),rs.map key):=by unfold zhE ziE;dsimp only;rw[h];dsimp only;rw[zkd];rfl
structure Kn(N:Nat)(S T:R.St):Prop where
 frz:T.frz=S.frz
 lk:T.lk=S.lk
 len:S.len<=T.len
 old:∀l o,l<N->S.get l=Φ o->T.get l=Φ o
def Kn.refl(N:Nat)(S:R.St):Kn N S S:=⟨rfl,rfl,le_refl _,λ_ _ _ h=>h⟩
def Kn.trans{N:Nat}{S T U:R.St}(a:Kn N S T)(b:Kn N T U):Kn N S U:=⟨b.frz.trans a.frz,b.lk.trans a.lk,le_trans a.len b.len,λl o h e=>b.old l o h (a.old l o h e)⟩
def Kn.of{N:Nat}{A:List Nat}{S T:R.St}(v:Mv A S T)(h:∀a∈A,N<=a):Kn N S T:=⟨v.frz,v.lk,v.len,λl o hl e=>v.old l o (λz=>by have:=h l z;lia) e⟩
abbrev box(Ls:List Row)(o:Int):List Bxl:=(Ls.filter λx=>decide (x.to=o)).map λx=>(x.p,x.w)
def zcg(Ls:List Row)(x:Row)(o:Int):box (Ls++[x]) o=if x.to=o then box Ls o++[(x.p,x.w)] else box Ls o:=by unfold box;rw[List.filter_append,map_append];by_cases h:x.to=o<;>simp[h]
def zpi(Ls:List Row)(o:Int):(box Ls o).length<=Ls.length:=by unfold box;rw[length_map];exact length_filter_le _ _
def zph{Ls:List Row}{o:Int}{x:Bxl}(h:x∈box Ls o):∃r∈Ls,x=(r.p,r.w):=by obtain⟨r,hr,rfl⟩:=mem_map.mp h;exact⟨r,(mem_filter.mp hr).1,rfl⟩
structure Bx(N:Nat)(T:R.St)(bx:Nat)(Ls:List Row)(kvs:List (Int×D)):Prop where
 at_:T.get bx=Φ (.dic kvs)
 fr:Fr T bx
 nw:N<=bx
 no_:∀o,valI kvs o=Ψ->box Ls o=[]
 so_:∀o d,valI kvs o=Φ d->∃b,d=.ref b/\N<=b/\Fr T b/\T.get b=Φ (.lst ((box Ls o).map bxD))
 inj:∀o o' b,valI kvs o=Φ (.ref b)->valI kvs o'=Φ (.ref b)->o=o'
 len:kvs.length<=Ls.length
def zeE(kvs:List (Int×D))(k j:Int)(v:D):valI (putI kvs k v) j=if j=k then Φ v else valI kvs j:=by
 induction kvs with
 |nil=>by_cases c:j=k;subst c;simp[putI,valI];have c':¬k=j:=λz=>c z.symm;simp[putI,valI,c,c']| cons a r ih=>
  obtain⟨i,d⟩:=a;unfold putI;by_cases e:i=k;subst e;rw[if_pos rfl];by_cases c:j=i;subst c;simp[valI];have c':¬i=j:=λz=>c z.symm;simp[valI,c,c'];rw[if_neg e];by_cases c:i=j;subst c;simp[valI,e];have h1:valI ((i,d)::putI r k v) j=valI (putI r k v) j:=by simp[valI,c]
  have h2:valI ((i,d)::r) j=valI r j:=by simp[valI,c]
  rw[h1,h2,ih]
def zlz(kvs:List (Int×D))(k:Int)(v:D):(putI kvs k v).length<=kvs.length+1:=by induction kvs with|nil=>simp[putI]| cons a r ih=>obtain⟨i,d⟩:=a;unfold putI;split;simp;simp;omega
noncomputable abbrev Ed(t:Int)(x y:D)(bx:Nat)(a b c:Option D):Ev:=[Φ (.int t),Φ x,Φ y,Φ (.ref bx),a,b,c]
abbrev dIn:CS:=.expr (.mt .append (.dsetI J3 (.ix J4 Y2) (.lst .nil)) #[.tup #[.ix J4 Y1,.ix J4 Y3]]) .nil
def zko{T:R.St}{l:Nat}{kvs:List (Int×D)}(h:T.get l=Φ (.dic kvs)):isDi T (.ref l)=Γ:=by unfold isDi;dsimp only;rw[h]
def zfk{T:R.St}{l:Nat}{kvs:List (Int×D)}{o:Int}(h:T.get l=Φ (.dic kvs)):zf9 T (.ref l) (.int o)=Φ (valI kvs o):=by unfold zf9;dsimp only;rw[h];rfl
def zmr{cf:CF}{N:Nat}{T:R.St}{bx:Nat}{Ls:List Row}{kvs:List (Int×D)}{x:Row}{t tt:Int}{u y:D}{b c:Option D}(B:Bx N T bx Ls kvs)(hN:N<=T.len)(hl:Ls.length<=500)(hlk:T.lk.contains T.len=Δ) :
  W (exS cf dIn (Ed t u y bx (Φ (leD tt x)) b c) T) λf U=>f=.nx (Ed t u y bx (Φ (leD tt x)) b c)/\(∃kvs',Bx N U bx (Ls++[x]) kvs')/\Kn N T U:=by
 obtain⟨p,o,w⟩:=x;refine wS_W _ ?_;left;change zko B.at_;left;exists show R.atI [D.int tt,pD p,.int o,w] 2=Φ (.int o) from rfl;left;change show 0<=16777216 by decide
 left;have lb:=get_lt B.at_;have hbl:(box Ls o).length<=Ls.length:=by unfold box;rw[length_map];exact length_filter_le _ _
 have gB:=zaj (o:=.lst []) B.at_;have hlen:=B.len;cases hv:valI kvs o with
 |none=>
  have fT:Fr (T.push (.lst [])) bx:=⟨B.fr.f,B.fr.k⟩;obtain⟨U,hU,mU,gU⟩:=zcE (u:=.dic (putI kvs o (.ref T.len))) fT gB;have es:zfj (T.push (.lst [])) (.ref bx) (.int o) (.ref T.len)=Φ (.ref T.len,U):=by unfold zfj;rw[zfk gB,hv];dsimp only;unfold dPut;dsimp only;rw[gB];dsimp only[zcq,Ϟ];rw[if_pos (by lia),hU];rfl
  exists es;left;have nb:T.len≠bx:=by lia
  have gL:U.get T.len=Φ (.lst []):=mU.old _ _ (by simpa using nb) (zag T (.lst []));have fL:Fr U T.len:=⟨by rw[mU.frz];show T.frz.length<=T.len;unfold St.len;lia,by rw[mU.lk];exact hlk⟩;exists gL;left;exists show R.atI [D.int tt,pD p,.int o,w] 1=Φ (pD p) from rfl;left;exists show R.atI [D.int tt,pD p,.int o,w] 3=Φ w from rfl;left;change show 2<=16777216 by decide
  left;exists gL;left;change show 1<=16777216 by decide
  left;obtain⟨V,hV,mV,gV⟩:=zcE (u:=.lst ([]++[bxD (p,w)])) fL gL;exists hV;left;have mP:=Mv.push [] T (.lst []);refine⟨rfl,⟨putI kvs o (.ref T.len),?_⟩,?_⟩;have oldV:∀l q,l≠bx->l≠T.len->T.get l=Φ q->V.get l=Φ q:=λl q h1 h2 e=>mV.old _ _ (by simpa using h2) (mU.old _ _ (by simpa using h1) (mP.old _ _ (by simp) e));have frV:∀l,Fr T l->Fr V l:=λl h=>((h.mv mP).mv mU).mv mV;refine⟨mV.old _ _ (by simpa using nb.symm) gU,frV _ B.fr,B.nw,λo' h'=>?_,λo' d h'=>?_,λo1 o2 b h1 h2=>?_,?_⟩;rw[zeE]at h';split at h';cases h';rename_i ne;rw[zcg,if_neg (λz=>ne z.symm)];exact B.no_ o' h';rw[zeE]at h';split at h';rename_i ee;cases h';subst ee;refine⟨T.len,rfl,hN,fL.mv mV,?_⟩;rw[zcg,if_pos rfl,B.no_ _ hv];exact gV;rename_i ne;obtain⟨b,rfl,h2,h3,h4⟩:=B.so_ o' d h';refine⟨b,rfl,h2,frV _ h3,?_⟩;rw[zcg,if_neg (λz=>ne z.symm)];refine oldV _ _ (λz=>?_) (by have:=get_lt h4;lia) h4;rw[z,B.at_]at h4;cases h4
  . rw[zeE]at h1 h2;split at h1<;>split at h2
    rename_i a1 a2;rw[a1,a2];cases h1;obtain⟨b,e1,_,_,h4⟩:=B.so_ o2 _ h2;cases e1;have:=get_lt h4;lia;cases h2;obtain⟨b,e1,_,_,h4⟩:=B.so_ o1 _ h1;cases e1;have:=get_lt h4;lia;exact B.inj o1 o2 b h1 h2
  have:=zlz kvs o (.ref T.len);rw[length_append];simp only[Χ,Ϥ];lia;refine(Kn.of mP (by simp)).trans ((Kn.of mU ?_).trans (Kn.of mV ?_));intro a ha;rw[mem_singleton.mp ha];exact B.nw;intro a ha;rw[mem_singleton.mp ha];exact hN
 |some d=>
  obtain⟨b0,rfl,nb0,fb,gb⟩:=B.so_ o d hv;have mP:=Mv.push [] T (.lst []);have es:zfj (T.push (.lst [])) (.ref bx) (.int o) (.ref T.len)=Φ (.ref b0,T.push (.lst [])):=by unfold zfj;rw[zfk gB,hv]
  exists es;left;have gL:(T.push (.lst [])).get b0=Φ (.lst ((box Ls o).map bxD)):=zaj gb;exists gL;left;exists show R.atI [D.int tt,pD p,.int o,w] 1=Φ (pD p) from rfl;left;exists show R.atI [D.int tt,pD p,.int o,w] 3=Φ w from rfl;left;change show 2<=16777216 by decide
  left;exists gL;left;change by rw[length_append,length_map];simp only[Χ,Ϥ];lia
  obtain⟨V,hV,mV,gV⟩:=zcE (u:=.lst ((box Ls o).map bxD++[bxD (p,w)])) (fb.mv mP) gL;exists hV;left;have frV:∀l,Fr T l->Fr V l:=λl h=>(h.mv mP).mv mV;have nbx:bx≠b0:=λz=>by rw[<-z,B.at_]at gb;cases gb
  refine⟨rfl,⟨kvs,?_⟩,(Kn.of mP (by simp)).trans (Kn.of mV (by intro a ha;rw[mem_singleton.mp ha];exact nb0))⟩;refine⟨mV.old _ _ (by simpa using nbx) gB,frV _ B.fr,B.nw,λo' h'=>?_,λo' d h'=>?_,B.inj,by rw[length_append];lia⟩;rw[zcg,if_neg (λz=>by rw[<-z]at h';rw[show(Row.mk p o w).to=o from rfl,hv]at h';cases h')];exact B.no_ o' h';by_cases ee:o=o';subst ee;rw[hv]at h';cases h';refine⟨b0,rfl,nb0,frV _ fb,?_⟩;rw[zcg,if_pos rfl,map_append];exact gV;obtain⟨b,rfl,h2,h3,h4⟩:=B.so_ o' d h';refine⟨b,rfl,h2,frV _ h3,?_⟩;rw[zcg,if_neg (λz=>ee z)];refine mV.old _ _ (λz=>?_) (mP.old _ _ (by simp) h4);have z:b=b0:=by simpa using z
  subst z;exact ee (B.inj o o' b hv h')
def zhZ{cf:CF}{N:Nat}{bx:Nat}{t tt:Int}{u y:D}{b c:Option D}:∀(rest Ls:List Row)(kvs:List (Int×D))(T:R.St)(a:Option D),Bx N T bx Ls kvs->N<=T.len->(∀l∈T.lk,l<N)->Ls.length+rest.length<=500->
  W (zaI [4] (exS cf dIn) (rest.map (leD tt)) (Ed t u y bx a b c) T) λf U=>(∃a,f=.nx (Ed t u y bx a b c))/\(∃kvs',Bx N U bx (Ls++rest) kvs')/\Kn N T U
 | [],Ls,kvs,T,a,B,_,_,_=>by show W (Out.ok (Fl.nx _) T) _;rw[W_ok];exact⟨⟨a,rfl⟩,⟨kvs,by rw[Ϣ];exact B⟩,Kn.refl _ _⟩| x::rest,Ls,kvs,T,a,B,hN,hk,hl=>by simp only[Χ]at hl;show W (Out.bind (exS cf dIn (Ed t u y bx (Φ (leD tt x)) b c) T) _) _;rw[zab];refine(zmr B hN (by lia) (zds hk hN)).mono λf U hU=>?_;obtain⟨rfl,⟨kvs',B'⟩,v⟩:=hU;refine(zhZ rest (Ls++[x]) kvs' U _ B' (le_trans hN v.len) (by rw[v.lk];exact hk) (by simp;lia)).mono λf V hV=>?_;obtain⟨h1,⟨kvs2,B2⟩,v2⟩:=hV;exact⟨h1,⟨kvs2,by rw[append_assoc]at B2;exact B2⟩,v.trans v2⟩
abbrev zkP:CS:=.expr (.meth "hear" heT J6 #[J0,.dgetI J3 J5 (.lst .nil)]) .nil
structure Pk(V:Town)(S:R.St)(d j:Nat)(h:V.H):Prop where
 ok:V.ok S d j h
 fr:∀z∈V.adr j,Fr S z
def zme{V:Town}{q:Nat}(X:TownOk V q){S:R.St}{N n bx d j:Nat}{t:Int}{h:V.H}{Ls:List Row}{kvs:List (Int×D)}{x y:D}{a:Option D}(hj:j<V.m)(hd:d<=40)(o:Pk V S d j h)(ad:∀z∈V.adr j,z<N)(B:Bx N S bx Ls kvs)(hN:N<=S.len)(hl:Ls.length<=V.mx)(lt:∀r∈Ls,V.lt (r.p,r.w)) :
  W (exS (callF prog (n+q)) zkP (Ed t x y bx a (Φ (.int j)) (Φ (.ref (V.who j)))) S) λf U=>f=.nx (Ed t x y bx a (Φ (.int j)) (Φ (.ref (V.who j))))/\Mv (V.adr j) S U/\Pk V U (d+1) j (V.hear j t h (box Ls j)):=by
 have mP:=Mv.push [] S (.lst []);have hq:∃qq,(valI kvs j).getD (.ref S.len)=.ref qq/\(S.push (.lst [])).get qq=Φ (.lst ((box Ls j).map bxD))/\N<=qq:=by cases hv:valI kvs j with|none=>exact⟨S.len,rfl,by rw[B.no_ _ hv];exact zag _ _,hN⟩| some d=>obtain⟨b,rfl,nb,_,gb⟩:=B.so_ _ _ hv;exact⟨b,rfl,zaj gb,nb⟩
 obtain⟨qq,eq,gq,nq⟩:=hq;have gB:=zaj (o:=.lst []) B.at_;have o1:V.ok (S.push (.lst [])) d j h:=X.dep o.ok λz _ o e=>zaj e;have bl:=zpi Ls j;obtain⟨c,fs,k,g1,g2,g3,w⟩:=X.hear (S:=S.push (.lst [])) (b:=qq) t n hj hd o1 (λz hz=>(o.fr z hz).mv mP) gq (λhm=>by have:=ad _ hm;lia) (by lia) (λx hx=>by obtain⟨r,hr,rfl⟩:=zph hx;exact lt r hr);obtain⟨o0,i1⟩:=X.has o.ok _ (X.wa j);have i2:=zaj (o:=.lst []) i1;rw[g1]at i2;cases i2;refine wS_W _ ?_;left;exists zas i1;left;exists g2;left;change by rw[g3];rfl
 left;change zko B.at_;left;change show 0<=16777216 by decide
 left;exists zfk gB;rw[eq];left;refine za8 (w.mono λu T hT=>?_);obtain⟨_,v,z⟩:=hT;left;exact⟨rfl,(mP.up (by simp)).trans v,z,λy hy=>((o.fr y hy).mv mP).mv v⟩
def Bx.mv{N:Nat}{T U:R.St}{bx:Nat}{Ls:List Row}{kvs:List (Int×D)}{A:List Nat}(B:Bx N T bx Ls kvs)(v:Mv A T U)(h:∀x∈A,x<N):Bx N U bx Ls kvs:=⟨v.old _ _ (λz=>by have:=h _ z;have:=B.nw;lia) B.at_,B.fr.mv v,B.nw,B.no_,λo d e=>let ⟨b,e1,e2,e3,e4⟩:=B.so_ o d e;⟨b,e1,e2,e3.mv v,v.old _ _ (λz=>by have:=h _ z;lia) e4⟩,B.inj,B.len⟩
abbrev adrF(V:Town):Nat->Nat->List Nat
 |_,0=>[]|k,c+1=>V.adr k++adrF V (k+1) c
def ze6(V:Town){z:Nat}:∀(c k:Nat),z∈adrF V k c->∃i,k<=i/\i<k+c/\z∈V.adr i
 |0,_,h=>by cases h
 |c+1,k,h=>by rw[adrF]at h;rcases mem_append.mp h with h|h;exact⟨k,le_refl _,by lia,h⟩;obtain⟨i,h1,h2,h3⟩:=ze6 V c (k+1) h;exact⟨i,by lia,by lia,h3⟩
abbrev Dj(V:Town):Prop:=∀i j,i<V.m->j<V.m->i≠j->∀z∈V.adr i,z∉V.adr j
abbrev zbi(V:Town)(t:Int)(Ls:List Row):Nat->List V.H->List V.H
 |_,[]=>[]|k,h::hs=>V.hear k t h (box Ls (k:Nat))::zbi V t Ls (k+1) hs
def Pk.away{V:Town}{q:Nat}(X:TownOk V q){S T:R.St}{d j:Nat}{h:V.H}{A:List Nat}(o:Pk V S d j h)(v:Mv A S T)(n:∀z∈V.adr j,z∉A):Pk V T d j h:=⟨X.dep o.ok λz hz o e=>v.old _ _ (n z hz) e,λz hz=>(o.fr z hz).mv v⟩
def zfY{V:Town}{q:Nat}(X:TownOk V q){N n bx d:Nat}{t:Int}{Ls:List Row}{kvs:List (Int×D)}{x y:D}{a:Option D}(hd:d<=40)(dj:Dj V)(hl:Ls.length<=V.mx)(lt:∀r∈Ls,V.lt (r.p,r.w))(ad:∀i,i<V.m->∀z∈V.adr i,z<N):∀(hs:List V.H)(k:Nat)(T:R.St)(b c:Option D),k+hs.length<=V.m->Bx N T bx Ls kvs->N<=T.len->
  (∀i h,hs[i]?=Φ h->Pk V T d (k+i) h)->
  W (zaI [5,6] (exS (callF prog (n+q)) zkP) (enW V k hs.length) (Ed t x y bx a b c) T) λf U=>(∃b c,f=.nx (Ed t x y bx a b c))/\Mv (adrF V k hs.length) T U/\∀i h,(zbi V t Ls k hs)[i]?=Φ h->Pk V U (d+1) (k+i) h
 | [],k,T,b,c,_,_,_,_=>by show W (Out.ok (Fl.nx _) T) _;rw[W_ok];exact⟨⟨b,c,rfl⟩,Mv.refl _ _,λi h e=>by simp[zbi]at e⟩| h::hs,k,T,b,c,h0,B,hN,h1=>by
  simp only[Χ]at h0;have x1:Pk V T d k h:=h1 0 h rfl;have hk:k<V.m:=by lia
  show W (Out.bind (exS (callF prog (n+q)) zkP (Ed t x y bx a (Φ (.int k)) (Φ (.ref (V.who k)))) T) _) _;rw[zab];refine(zme X (n:=n) (t:=t) hk hd x1 (ad k hk) B hN hl lt).mono λf U hU=>?_;obtain⟨rfl,v,px⟩:=hU;refine(zfY X hd dj hl lt ad hs (k+1) U _ _ (by lia) (B.mv v (ad k hk)) (le_trans hN v.len) (λi g e2=>?_)).mono λf W' hV=>?_;have y1:=h1 (i+1) g (by simpa using e2);have il:=(Ω.mp e2).1;rw[show k+1+i=k+(i+1) by lia];exact y1.away X v λz hz hm=>dj (k+(i+1)) k (by lia) hk (by lia) z hz hm;obtain⟨hf,w,hp⟩:=hV;refine⟨hf,(v.up (λz hz=>mem_append_left _ hz)).trans (w.up (λz hz=>mem_append_right _ hz)),λi g e1=>?_⟩;cases i with| zero=>cases e1;refine px.away X w λz hz hm=>?_;obtain⟨i,a1,a2,a3⟩:=ze6 V _ _ hm;exact dj k i hk (by lia) (by lia) z hz a3| succ i=>have:=hp i g (by simpa[zbi]using e1);rw[show k+1+i=k+(i+1) by lia]at this;exact this
def zoG{L:List Nat}{N b:Nat}(h:∀l∈L,l<N)(hb:N<=b):L.contains b=Δ:=by rw[Bool.eq_false_iff];intro z;have:=h _ (List.contains_iff_mem.mp z);lia
def Bx.relk{N:Nat}{T:R.St}{bx:Nat}{Ls:List Row}{kvs:List (Int×D)}{L:List Nat}(B:Bx N T bx Ls kvs)(h:∀l∈L,l<N):Bx N ({T with lk:=L}:R.St) bx Ls kvs:=⟨B.at_,⟨B.fr.f,zoG h B.nw⟩,B.nw,B.no_,λo d e=>let ⟨b,e1,e2,e3,e4⟩:=B.so_ o d e;⟨b,e1,e2,⟨e3.f,zoG h e2⟩,e4⟩,B.inj,B.len⟩
def zf7:c_deliver.body=.asg 3 .dnew (.forS [4] (.val J2) dIn (.forS [5,6] (.enum J1) zkP .nil)):=rfl
def zjo{V:Town}{q:Nat}(X:TownOk V q){S:R.St}{n d:Nat}{t tt:Int}{th sd:Nat}{hs:List V.H}{Ls:List Row}(hh:hs.length=V.m)(hd:d<=40)(dj:Dj V)(hl:Ls.length<=V.mx)(lt:∀r∈Ls,V.lt (r.p,r.w))(hg:S.get th=Φ (.lst (whoL V 0 V.m)))(hsd:S.get sd=Φ (.lst (Ls.map (leD tt))))(hk:∀l∈S.lk,l<S.len)
  (h1:∀(i:Nat) h,hs[i]?=Φ h->Pk V S d i h) (nt:∀i,i<V.m->th∉V.adr i) :
  W (appW (callF prog (n+q+1)) 11 [.int t,.ref th,.ref sd] S) λx U=>x=.non/\U.frz=S.frz/\U.lk=S.lk/\S.len<=U.len/\(∀l o,l∉adrF V 0 V.m->S.get l=Φ o->U.get l=Φ o)/\∀(i:Nat) h,(zbi V t Ls 0 hs)[i]?=Φ h->Pk V U (d+1) i h:=by
 have mx:=X.mx;refine zbB (F:=c_deliver) rfl rfl ?_;rw[zf7];show W (Out.bind _ _) _;rw[zab];have e0:evE (callF prog (n+q)) .dnew (zaG c_deliver [.int t,.ref th,.ref sd]) S=.ok (.ref S.len) (S.push (.dic [])):=by (conv=>lhs;whnf)
 rw[e0,W_ok];have up:∀l o,S.get l=Φ o->(S.push (.dic [])).get l=Φ o:=λl o e=>zaj e;have e1:evL (callF prog (n+q)) (.val J2) (Ed t (.ref th) (.ref sd) S.len Ψ Ψ Ψ) (S.push (.dic []))=.ok (Ls.map (leD tt),[sd]) (S.push (.dic [])):=by show Out.bind (lift (S.push (.dic [])) (Φ (D.ref sd))) _=_;rw[zcJ,zaw];unfold zbQ;dsimp only;rw[up _ _ hsd];rfl
 refine zcM (δ:=Ed t (.ref th) (.ref sd) S.len Ψ Ψ Ψ) e1 ?_;have lsd:=get_lt hsd;have lth:=get_lt hg;have fr0:S.frz.length<=S.len:=by unfold St.len;lia
 have ad:∀i,i<V.m->∀z∈V.adr i,z<S.len:=λi hi z hz=>by obtain⟨o,e⟩:=X.has (h1 i hs[i] (by simp[hh,hi])).ok z hz;exact get_lt e
 have B0:Bx S.len ({S.push (.dic []) with lk:=[sd]++(S.push (.dic [])).lk}:R.St) S.len [] []:=by refine⟨zag _ _,⟨fr0,?_⟩,le_refl _,λo _=>rfl,(λo d e=>by exact nS e),(λo o' b e=>by exact nS e),le_refl _⟩;show(sd::S.lk).contains S.len=Δ;rw[contains_cons,zds hk (le_refl _),Bool.or_false];simp;lia
 refine(zhZ (cf:=callF prog (n+q)) (t:=t) (tt:=tt) (u:=.ref th) (y:=.ref sd) (b:=Ψ) (c:=Ψ) Ls [] [] _ Ψ B0 (by show S.len<=(S.push (.dic [])).len;rw[plen];lia) (by
  intro l hl;rcases mem_cons.mp (show l∈sd::S.lk from hl) with rfl|hl;exact lsd;exact hk l hl) (by simp;lia)).mono λf T hT=>?_
 obtain⟨⟨a,rfl⟩,⟨kvs,B⟩,kn⟩:=hT;rw[List.nil_append]at B;show W (exS (callF prog (n+q)) (.forS [5,6] (.enum J1) zkP .nil) (Ed t (.ref th) (.ref sd) S.len a Ψ Ψ) {T with lk:=S.lk}) _;have old:∀l o,S.get l=Φ o->({T with lk:=S.lk}:R.St).get l=Φ o:=λl o e=>kn.old l o (get_lt e) (up l o e);have el:evL (callF prog (n+q)) (.enum J1) (Ed t (.ref th) (.ref sd) S.len a Ψ Ψ) {T with lk:=S.lk}=.ok (enW V 0 V.m,[th]) {T with lk:=S.lk}:=by show Out.bind (lift ({T with lk:=S.lk}:R.St) (Φ (D.ref th))) _=_;rw[zcJ,zaw,zhO (old _ _ hg)];rfl
 refine zcM el ?_;have hk2:∀l∈th::S.lk,l<S.len:=λl hl=>by rcases mem_cons.mp hl with rfl|hl;exact lth;exact hk l hl
 have lenT : S.len ≤ T.len := by have := kn.len; have e : S.len + 1 ≤ T.len := by rw [← plen S (.dic [])]; exact this
                                 lia
 rw[<-hh];refine(zfY X (n:=n) (d:=d) (t:=t) (x:=.ref th) (y:=.ref sd) (a:=a) hd dj hl lt ad hs 0 ({T with lk:=th::S.lk}:R.St) Ψ Ψ (by lia) (B.relk hk2) lenT (λi h e2=>?_)).mono λf U hU=>?_;have o:=h1 i h e2;have il:=(Ω.mp e2).1;rw[zero_add];refine⟨X.dep o.ok λz _ o' e=>old _ _ e,λz hz=>⟨by show T.frz.length<=z;rw[show T.frz=S.frz from kn.frz];exact(o.fr z hz).f,?_⟩⟩;show(th::S.lk).contains z=Δ;rw[contains_cons,(o.fr z hz).k,Bool.or_false];have:z≠th:=λe=>nt i (by lia) (e▸hz);simpa using this;obtain⟨⟨b,c,rfl⟩,v,hP⟩:=hU;dsimp only;(conv=>lhs;whnf);rw[W_ok];dsimp only;refine⟨rfl,v.frz.trans kn.frz,rfl,le_trans lenT v.len,λl o hl e=>v.old l o (by first|exact hl|(rw[hh];exact hl)) (old l o e),λi h e=>?_⟩;have z:=hP i h e;rw[zero_add]at z;have il:=(Ω.mp e).1;have il2:i<hs.length:=by
  have:∀(hs:List V.H)(k:Nat),(zbi V t Ls k hs).length=hs.length:=λhs=>by induction hs with|nil=>intro k;rfl|cons a r ih=>intro k;simp[zbi,ih]
  rw[this]at il;exact il
 exact⟨X.dep z.ok λ_ _ _ e=>e,λy hy=>⟨(z.fr y hy).f,by
  have:=(h1 i hs[i] (by simp[il2])).fr y hy;exact this.k⟩⟩
abbrev rB:CS:=.asg 5 (.srtK (.call 10 0 #[J4,J0,J2])) (.expr (.callW 11 0 #[J4,J0,J5]) (.expr (.extv J3 J5) .nil))
def zlr:c_run.body=.asg 3 (.lst .nil) (.forS [4] (.rng2 Y1 (.bin .Add J1 Y1)) rB (.ret J3 .nil)):=rfl
def zrV{P:List Fn}{F:Fn}{f n:Nat}{ds:List D}{S:R.St}{Q:D->R.St->Prop}(h:P[f]?=Φ F)(hl:ds.length=F.np)(h3:3<=n)(w:W (exS (callF P n) F.body (zaG F ds) S) λr T=>match r with|.nx _=>Q .non T|.rt d=>Q d T)(hp:F.prim=Φ .lam:=by rfl):W (appW (callF P (n+1)) f ds S) Q:=by unfold appW;simp only[callF,h,hl,hp,h3,if_true,zab];refine w.mono λr T q=>?_;cases r<;>exact q
abbrev rnd(V:Town)(t:Int)(hs:List V.H):List V.H:=zbi V t (srtR (V.said t 0 hs)) 0 hs
def zbw(V:Town)(t:Int)(Ls:List Row):∀(hs:List V.H)(k:Nat),(zbi V t Ls k hs).length=hs.length
 | [],_=>rfl|_::hs,k=>by rw[zbi,Χ,Χ,zbw V t Ls hs (k+1)]
structure Tn(V:Town)(T:R.St)(d th lt:Nat)(hs:List V.H)(acc:List D):Prop where
 lh:hs.length=V.m
 hg:T.get th=Φ (.lst (whoL V 0 V.m))
 p1:∀(i:Nat) h,hs[i]?=Φ h->Pk V T d i h
 nt:∀i,i<V.m->th∉V.adr i
 nl:∀i,i<V.m->lt∉V.adr i
 ne:th≠lt
 hk:∀l∈T.lk,l<T.len
 gl:T.get lt=Φ (.lst acc)
 fl:Fr T lt
 w:V.wok T
 w1:∀i,i<V.m->V.wr∉V.adr i
 w2:∀i,i<V.m->∀j,j<V.m->V.la j∉V.adr i
 w3:V.wr≠lt
 w4:∀j,j<V.m->V.la j≠lt
noncomputable abbrev Er(th:Nat)(rr:Int)(wr lt:Nat)(a b:Option D):Ev:=[Φ (.ref th),Φ (.int rr),Φ (.ref wr),Φ (.ref lt),a,b]
def zlq{V:Town}{q:Nat}(X:TownOk V q){T:R.St}{n d:Nat}{t rr:Int}{th lt:Nat}{hs:List V.H}{acc:List D}{b:Option D}(tt:V.tt t)(Y:Tn V T d th lt hs acc)(dj:Dj V)(hd:d<=40)(ha:acc.length<=20000) :
  W (exS (callF prog (n+q+2)) rB (Er th rr V.wr lt (Φ (.int t)) b) T) λf U=>(∃b,f=.nx (Er th rr V.wr lt (Φ (.int t)) b))/\Tn V U (d+1) th lt (rnd V t hs) (acc++(srtR (V.said t 0 hs)).map (leD t))/\U.lk=T.lk/\U.frz=T.frz/\T.len<=U.len/\∀l o,l≠lt->(∀i,i<V.m->l∉V.adr i)->T.get l=Φ o->U.get l=Φ o:=by
 have few:=X.few t hs tt Y.lh;have nd:=X.unl t hs tt Y.lh;have mx:=X.mx;have hsd:=zqm X (n:=n+1) (d:=d) (t:=t) tt Y.lh Y.hg (λi h e=>(Y.p1 i h e).ok) Y.w;rw[show n+1+q+1=n+q+2 by lia]at hsd;have slt:=zgp X t hs 0;have rl:(srtR (V.said t 0 hs)).length=(V.said t 0 hs).length:=(zaC nd).length_eq;have rlt:∀r∈srtR (V.said t 0 hs),V.lt (r.p,r.w):=λr hr=>slt r ((zaC nd).mem_iff.mp hr);refine wS_W _ ?_;left;specialize hsd;left;exists zj3 (zag _ _);left;change⟨by rw[length_map];lia,nd⟩;rw[show srtD ((V.said t 0 hs).map (leD t),(V.said t 0 hs).map key).1 ((V.said t 0 hs).map (leD t),(V.said t 0 hs).map key).2=(srtR (V.said t 0 hs)).map (leD t) from zhe nd];generalize hrr:V.said t 0 hs=ro at *;generalize hrs:srtR ro=rs at *;left;change by rw[length_map];lia
 left;generalize hS2:(T.push (.lst (ro.map (leD t)))).push (.lst (rs.map (leD t)))=S2;have m2:Mv [] T S2:=by rw[<-hS2];exact(Mv.push [] _ _).trans (Mv.push [] _ _)
 have gsd:S2.get (T.push (.lst (ro.map (leD t)))).len=Φ (.lst (rs.map (leD t))):=by rw[<-hS2];exact zag _ _
 generalize hsdl:(T.push (.lst (ro.map (leD t)))).len=sd at *;have lsd:T.len<=sd:=by rw[<-hsdl,plen];lia
 have ltl:=get_lt Y.gl;have lth:=get_lt Y.hg;have dl:=zjo X (S:=S2) (n:=n+1) (d:=d) (t:=t) (tt:=t) (Ls:=rs) Y.lh hd dj (by lia) rlt (m2.old _ _ (by simp) Y.hg) gsd (by rw[m2.lk];exact λl hl=>lt_of_lt_of_le (Y.hk l hl) m2.len) (λi h e=>(Y.p1 i h e).away X m2 (by simp)) Y.nt;rw[show n+1+q+1=n+q+2 by lia]at dl;refine za8 (dl.mono λx U hU=>?_);obtain⟨_,uf,uk,ul,uo,up⟩:=hU;have nfl:∀l,(∀i,i<V.m->l∉V.adr i)->l∉adrF V 0 V.m:=λl hl hm=>by obtain⟨i,_,h2,h3⟩:=ze6 V _ _ hm;exact hl i (by lia) h3
 have lt_adr:∀i,i<V.m->∀z∈V.adr i,z<T.len:=λi hi z hz=>by
  have hil:i<hs.length:=by rw[Y.lh];exact hi
  obtain⟨o,e⟩:=X.has (Y.p1 i hs[i] (by simp[hil])).ok z hz;exact get_lt e
 have gl3:U.get lt=Φ (.lst acc):=uo _ _ (nfl lt Y.nl) (m2.old _ _ (by simp) Y.gl);have gs3:U.get sd=Φ (.lst (rs.map (leD t))):=uo _ _ (nfl sd λi hi hm=>by have:=lt_adr i hi sd hm;lia) gsd;have fl3:Fr U lt:=⟨by rw[uf,m2.frz];exact Y.fl.f,by rw[uk,m2.lk];exact Y.fl.k⟩;left;exists gl3;left;exists show lsts U (.ref lt) (.ref sd)=Φ (lt,acc,rs.map (leD t)) by unfold lsts;dsimp only;rw[gl3,gs3]
 left;change show(acc++rs.map (leD t)).length<=16777216 by rw[length_append,length_map];lia
 obtain⟨U2,hV,mV,gV⟩:=zcE (u:=.lst (acc++rs.map (leD t))) fl3 gl3;exists hV;left;refine⟨⟨_,rfl⟩,⟨by unfold rnd;rw[zbw];exact Y.lh,mV.old _ _ (by simpa using Y.ne) (uo _ _ (nfl th Y.nt) (m2.old _ _ (by simp) Y.hg)),λi g e=>?_,Y.nt,Y.nl,Y.ne,?_,gV,fl3.mv mV,Y.w.up (λ_ e=>mV.old _ _ (by simpa using Y.w3) (uo _ _ (nfl _ Y.w1) (m2.old _ _ (by simp) e))) (λj hj _ e=>mV.old _ _ (by simpa using Y.w4 j hj) (uo _ _ (nfl _ λi hi=>Y.w2 i hi j hj) (m2.old _ _ (by simp) e))),Y.w1,Y.w2,Y.w3,Y.w4⟩,by rw[mV.lk,uk,m2.lk],by rw[mV.frz,uf,m2.frz],le_trans m2.len (le_trans ul mV.len),λl o h1 h2 e=>mV.old _ _ (by simpa using h1) (uo _ _ (nfl l h2) (m2.old _ _ (by simp) e))⟩;have il:=(Ω.mp e).1;unfold rnd at e il;rw[zbw,Y.lh]at il;rw[hrr,hrs]at e;exact(up i g e).away X mV λz hz hm=>Y.nl i il (by rw[<-mem_singleton.mp hm];exact hz);rw[mV.lk,uk,m2.lk];exact λl hl=>lt_of_lt_of_le (Y.hk l hl) (le_trans m2.len (le_trans ul mV.len))
abbrev rnds(V:Town):Nat->Nat->List V.H->List V.H
 |_,0,hs=>hs|t,c+1,hs=>rnds V (t+1) c (rnd V t hs)
abbrev lets(V:Town):Nat->Nat->List V.H->List D
 |_,0,_=>[]|t,c+1,hs=>(srtR (V.said t 0 hs)).map (leD t)++lets V (t+1) c (rnd V t hs)
abbrev zgo:Nat->Nat->List D
 |_,0=>[]|t,c+1=>.int (t:Nat)::zgo (t+1) c
def zhl{V:Town}{q:Nat}(X:TownOk V q){n:Nat}{rr:Int}{th lt:Nat}(dj:Dj V):∀(c t:Nat)(hs:List V.H)(acc:List D)(T:R.St)(a b:Option D)(d:Nat),(∀i:Nat,t<=i->i<t+c->V.tt (i:Nat))->Tn V T d th lt hs acc->d+c<=40->acc.length+450*c<=20000->
  W (zaI [4] (exS (callF prog (n+q+2)) rB) (zgo t c) (Er th rr V.wr lt a b) T) λf U=>(∃a b,f=.nx (Er th rr V.wr lt a b))/\Tn V U (d+c) th lt (rnds V t c hs) (acc++lets V t c hs)/\U.lk=T.lk/\U.frz=T.frz/\T.len<=U.len/\∀l o,l≠lt->(∀i,i<V.m->l∉V.adr i)->T.get l=Φ o->U.get l=Φ o
 |0,t,hs,acc,T,a,b,d,_,Y,_,_=>by show W (Out.ok (Fl.nx _) T) _;rw[W_ok];exact⟨⟨a,b,rfl⟩,by rw[lets,Ϣ];exact Y,rfl,rfl,le_refl _,λl o _ _ e=>e⟩| c+1,t,hs,acc,T,a,b,d,tt,Y,hd,ha=>by show W (Out.bind (exS (callF prog (n+q+2)) rB (Er th rr V.wr lt (Φ (.int (t:Nat))) b) T) _) _;rw[zab];have tt0:V.tt (t:Int):=tt t (le_refl _) (by lia);have sl:=X.few (t:Int) hs tt0 Y.lh;have mx:=X.mx;have rl:(srtR (V.said t 0 hs)).length=(V.said t 0 hs).length:=(zaC (X.unl t hs tt0 Y.lh)).length_eq;refine(zlq X (n:=n) (t:=(t:Int)) (tt t (le_refl _) (by lia)) Y dj (by lia) (by lia)).mono λf U hU=>?_;obtain⟨⟨b',rfl⟩,Z,h1,h2,h4,h3⟩:=hU;refine(zhl X dj c (t+1) (rnd V t hs) (acc++(srtR (V.said t 0 hs)).map (leD t)) U _ _ (d+1) (λi h1 h2=>tt i (by lia) (by lia)) Z (by lia) (by rw[length_append,length_map];lia)).mono λf W' hV=>?_;obtain⟨g1,g2,g3,g4,g6,g5⟩:=hV;refine⟨g1,?_,g3.trans h1,g4.trans h2,le_trans h4 g6,λl o a1 a2 e=>g5 l o a1 a2 (h3 l o a1 a2 e)⟩;rw[lets,<-append_assoc,show d+(c+1)=d+1+c by lia];exact g2
def zdz:∀(c t:Nat),(List.range c).map (λ(k:Nat)=>D.int ((t:Int)+k))=zgo t c
 |0,_=>rfl| c+1,t=>by rw[List.range_succ_eq_map,Μ,map_map,zgo,<-zdz c (t+1)];congr 1;simp;intro a _;lia
def zsn{V:Town}{q:Nat}(X:TownOk V q){S:R.St}{n c:Nat}{z:Int}{th:Nat}{hs:List V.H}(tt:∀i:Nat,1<=i->i<1+c->V.tt (i:Nat))(dj:Dj V)(lh:hs.length=V.m)(hg:S.get th=Φ (.lst (whoL V 0 V.m)))(p1:∀(i:Nat) h,hs[i]?=Φ h->Pk V S 0 i h)(nt:∀i,i<V.m->th∉V.adr i)(hk:∀l∈S.lk,l<S.len)(hc:c<=40)(hz:z=(c:Nat))(h1q:1<=q)(w:V.wok S)(w1:∀i,i<V.m->V.wr∉V.adr i)(w2:∀i,i<V.m->∀j,j<V.m->V.la j∉V.adr i) :
  W (appW (callF prog (n+q+3)) 9 [.ref th,.int z,.ref V.wr] S) λx U=>x=.ref S.len/\Tn V U c th S.len (rnds V 1 c hs) (lets V 1 c hs)/\U.lk=S.lk/\U.frz=S.frz/\S.len<U.len/\∀l o,(∀i,i<V.m->l∉V.adr i)->S.get l=Φ o->U.get l=Φ o:=by
 refine zrV (F:=c_run) rfl rfl (by lia) ?_;rw[zlr];show W (Out.bind _ _) _;rw[zab];have e0:evE (callF prog (n+q+2)) (.lst .nil) (zaG c_run [.ref th,.int z,.ref V.wr]) S=.ok (.ref S.len) (S.push (.lst [])):=by rfl
 rw[e0,W_ok];show W (exS (callF prog (n+q+2)) (.forS [4] (.rng2 Y1 (.bin .Add J1 Y1)) rB (.ret J3 .nil)) (Er th z V.wr S.len Ψ Ψ) (S.push (.lst []))) _;have mP:=Mv.push [] S (.lst []);have el:evL (callF prog (n+q+2)) (.rng2 Y1 (.bin .Add J1 Y1)) (Er th z V.wr S.len Ψ Ψ) (S.push (.lst []))=.ok (zgo 1 c,[]) (S.push (.lst [])):=by generalize hδ:Er th z V.wr S.len Ψ Ψ=δ;refine W.eq (wL_W _ ?_);subst hδ;left;change⟨by decide,by decide,Int.le_trans (by decide) (show(0:Int)<=z+1 by lia),Int.lt_of_le_of_lt (show z+1<=41 by lia) (by decide)⟩;refine⟨?_,rfl⟩;rw[<-zdz c 1,show(z+1-1).toNat=c by lia];rfl
 generalize hδ:Er th z V.wr S.len Ψ Ψ=δ at el⊢;refine zcM el ?_;subst hδ;have Y:Tn V (S.push (.lst [])) 0 th S.len hs []:=by
  have lt_adr:∀i,i<V.m->∀z∈V.adr i,z<S.len:=λi hi z hz=>by
   have hil:i<hs.length:=by rw[lh];exact hi
   obtain⟨o,e⟩:=X.has (p1 i hs[i] (by simp[hil])).ok z hz;exact get_lt e
  have lth:=get_lt hg;exact⟨lh,zaj hg,λi h e=>(p1 i h e).away X mP (by simp),nt,λi hi hm=>by have:=lt_adr i hi _ hm;lia,by lia,λl hl=>by have:=hk l hl;rw[plen];lia,zag _ _,⟨by show S.frz.length<=S.len;unfold St.len;lia,zds hk (le_refl _)⟩,w.up (λ_ e=>zaj e) (λj hj _ e=>zaj e),w1,w2,λe=>by have:=get_lt w.w;lia,λj hj e=>by have:=get_lt (w.l j hj);lia⟩
 refine(zhl X (n:=n) (rr:=z) dj c 1 hs [] _ Ψ Ψ 0 tt Y (by lia) (by simp;lia)).mono λf U hU=>?_;obtain⟨⟨a,b,rfl⟩,Z,h1,h2,h4,h3⟩:=hU;dsimp only;rw[List.nil_append,zero_add]at Z;have eU:({U with lk:=(S.push (.lst [])).lk}:R.St)=U:=zoN (h1.trans rfl);rw[eU];refine wS_W _ ?_;left;exact⟨rfl,Z,h1,h2,by rw[plen]at h4;lia,λl o a1 e=>h3 l o (by have:=get_lt e;lia) a1 (zaj e)⟩
def zaN{S T:R.St}{x:D}{f:PySem.Str}{v:D}(h:zbJ S x f v=Φ T):T.len=S.len:=by unfold zbJ at h;split at h;split at h;split at h;unfold St.put at h;split at h;exact nS h;split at h;exact nS h;cases h;simp[St.len];exact nS h;exact nS h;exact nS h
def zoK{S:R.St}{n a c:Nat}{i m r:Int}(e:S.get a=Φ (.ins c []))(hf:Fr S a):W (appW (callF prog (n+1)) 44 [.ref a,.int i,.int m,.int r] S) λd T=>d=.non/\Mv [a] S T/\T.len=S.len/\T.get a=Φ (.ins c [("number",.int i),("many",.int m),("rounds",.int r)]):=by refine zbB (F:=zd7) rfl rfl (wS_W _ ?_);obtain⟨T1,a1,v1,g1⟩:=zaX (f:="number") (v:=.int i) (gs:=[("number",.int i)]) e hf (by simp) rfl;obtain⟨T2,a2,v2,g2⟩:=zaX (f:="many") (v:=.int m) (gs:=[("number",.int i),("many",.int m)]) g1 (hf.mv v1) (by simp) rfl;obtain⟨T3,a3,v3,g3⟩:=zaX (f:="rounds") (v:=.int r) (gs:=[("number",.int i),("many",.int m),("rounds",.int r)]) g2 ((hf.mv v1).mv v2) (by simp) rfl;left;exists a1;left;exists a2;left;exists a3;left;exact⟨rfl,(v1.trans v2).trans v3,by rw[zaN a3,zaN a2,zaN a1],g3⟩
def zqo{S:R.St}{n a:Nat}{m b i s:Int}{w:Option Int}(e:S.get a=Φ (.ins 0 []))(hf:Fr S a)(hb:0<=b)(hb5:b<=5) :
  W (appW (callF prog (n+2)) 28 [.ref a,.int i,.int m,.int b,.int s,oD w] S) λd T=>d=.non/\Mv [a] S T/\T.len=S.len+1/\T.get a=Φ (hD m b i s w w 0 S.len)/\T.get S.len=Φ (.lst []):=by
 refine zbB (F:=zb3) rfl rfl (wS_W _ ?_);left;specialize zlo (n:=n) hb hb5;left;refine za8 ((zoK (n:=n) (r:=1+3*(b+1)) e hf).mono λd T hT=>?_);obtain⟨_,v,l0,g⟩:=hT;have f:=hf.mv v;obtain⟨T1,a1,v1,g1⟩:=zaX (f:="bound") (v:=.int b) (gs:=[("number",.int i),("many",.int m),("rounds",.int (1+3*(b+1))),("bound",.int b)]) g f (by simp) rfl;obtain⟨T2,a2,v2,g2⟩:=zaX (f:="sender") (v:=.int s) (gs:=[("number",.int i),("many",.int m),("rounds",.int (1+3*(b+1))),("bound",.int b),("sender",.int s)]) g1 (f.mv v1) (by simp) rfl;obtain⟨T3,a3,v3,g3⟩:=zaX (f:="word") (v:=oD w) (gs:=[("number",.int i),("many",.int m),("rounds",.int (1+3*(b+1))),("bound",.int b),("sender",.int s),("word",oD w)]) g2 ((f.mv v1).mv v2) (by simp) rfl;obtain⟨T4,a4,v4,g4⟩:=zaX (f:="held") (v:=oD w) (gs:=[("number",.int i),("many",.int m),("rounds",.int (1+3*(b+1))),("bound",.int b),("sender",.int s),("word",oD w),("held",oD w)]) g3 (((f.mv v1).mv v2).mv v3) (by simp) rfl;obtain⟨T5,a5,v5,g5⟩:=zaX (f:="backing") (v:=.int 0) (gs:=[("number",.int i),("many",.int m),("rounds",.int (1+3*(b+1))),("bound",.int b),("sender",.int s),("word",oD w),("held",oD w),("backing",.int 0)]) g4 ((((f.mv v1).mv v2).mv v3).mv v4) (by simp) rfl;have l5:T5.len=S.len:=by rw[zaN a5,zaN a4,zaN a3,zaN a2,zaN a1,l0]
 have vp:=Mv.push [a] T5 (.lst []);obtain⟨T6,a6,v6,g6⟩:=zaX (S:=T5.push (.lst [])) (f:="holdings") (v:=.ref T5.len) (gs:=[("number",.int i),("many",.int m),("rounds",.int (1+3*(b+1))),("bound",.int b),("sender",.int s),("word",oD w),("held",oD w),("backing",.int 0),("holdings",.ref T5.len)]) (zaj g5) ((((((f.mv v1).mv v2).mv v3).mv v4).mv v5).mv vp) (by simp) rfl;left;exists a1;left;exists a2;left;exists a3;left;exists a4;left;exists a5;left;right;left;exists a6;left;have lt:=get_lt e;refine⟨rfl,((((((v.trans v1).trans v2).trans v3).trans v4).trans v5).trans vp).trans v6,by rw[zaN a6,plen,l5],by rw[l5]at g6;exact g6,?_⟩;rw[<-l5];exact v6.old _ _ (by simp;lia) (zag _ _)
abbrev mkE:CE:=.mk 0 28 "KingHand" 0 #[J0,J1,J2,J3,.ite (.cmp .Eq J0 J3) J4 (.con D.non)]
abbrev wdO(s w i:Int):Option Int:=if i=s then Φ w else Ψ
noncomputable abbrev Eh(o:Option D)(m b s w:Int):Ev:=[o,Φ (.int m),Φ (.int b),Φ (.int s),Φ (.int w)]
def zq7{T:R.St}{n:Nat}{m b s w i:Int}(hb:0<=b)(hb5:b<=5)(hk:∀l∈T.lk,l<T.len) :
  W (evE (callF prog (n+2)) mkE (Eh (Φ (.int i)) m b s w) T) λd U=>d=.ref T.len/\Mv [] T U/\U.len=T.len+2/\U.get T.len=Φ (hD m b i s (wdO s w i) (wdO s w i) 0 (T.len+1))/\U.get (T.len+1)=Φ (.lst []):=by
 have fin:∀o:Option Int,o=wdO s w i->wOut (appW (callF prog (n+2)) 28 [.ref T.len,.int i,.int m,.int b,.int s,oD o] (T.push (.ins 0 []))) λd S2=>za2 (zkl d=Γ) (D.ref T.len=.ref T.len/\Mv [] T S2/\S2.len=T.len+2/\S2.get T.len=Φ (hD m b i s (wdO s w i) (wdO s w i) 0 (T.len+1))/\S2.get (T.len+1)=Φ (.lst [])):=by rintro o rfl;refine za8 ((zqo (n:=n) (zag T (.ins 0 [])) ⟨by show T.frz.length<=T.len;unfold St.len;lia,zds hk (le_refl _)⟩ hb hb5).mono λd U hU=>?_);obtain⟨rfl,v,l,g1,g2⟩:=hU;rw[plen]at g1 g2 l;refine wNeed_of rfl ⟨rfl,⟨v.frz,v.lk,by lia,λm o _ e=>v.old m o (by have:=get_lt e;simp;lia) (zaj e)⟩,by lia,g1,g2⟩
 refine wE_W _ ?_;unfold mkE;left;refine zch (λc=>?_) (λc=>?_);left;exact fin (Φ w) (by unfold wdO;rw[if_pos c]);left;exact fin Ψ (by unfold wdO;rw[if_neg c])
structure Hs(U:R.St)(N k c:Nat)(m b s w:Int):Prop where
 a:∀i,i<c->U.get (N+2*i)=Φ (hD m b ((k+i:Nat):Int) s (wdO s w ((k+i:Nat):Int)) (wdO s w ((k+i:Nat):Int)) 0 (N+2*i+1))/\U.get (N+2*i+1)=Φ (.lst [])
abbrev refs(N:Nat):Nat->List D
 |0=>[]|c+1=>.ref N::refs (N+2) c
abbrev intD(k:Nat):Nat->List D
 |0=>[]|c+1=>.int (k:Nat)::intD (k+1) c
def zjT{n:Nat}{m b s w:Int}(hb:0<=b)(hb5:b<=5):∀(c k:Nat)(T:R.St)(o:Option D),(∀l∈T.lk,l<T.len)->
  W (zat [0] (evT (callF prog (n+2)) (.tst (.con (D.bl Γ)))) (evE (callF prog (n+2)) mkE) (intD k c) (Eh o m b s w) T) λds U=>ds=refs T.len c/\Mv [] T U/\U.len=T.len+2*c/\Hs U T.len k c m b s w
 |0,k,T,o,hk=>by show W (Out.ok [] T) _;rw[W_ok];exact⟨rfl,Mv.refl _ _,rfl,⟨λi hi=>by lia⟩⟩| c+1,k,T,o,hk=>by rw[intD,zat];show W (Out.bind (Out.ok Γ T) _) _;rw[zaw];show W (Out.bind (evE (callF prog (n+2)) mkE (Eh (Φ (.int (k:Nat))) m b s w) T) _) _;rw[zab];refine(zq7 (n:=n) hb hb5 hk).mono λd U hU=>?_;obtain⟨rfl,v,l,g1,g2⟩:=hU;rw[zab];refine(zjT hb hb5 c (k+1) U _ (by rw[v.lk,l];exact λx hx=>by have:=hk x hx;lia)).mono λds W' hV=>?_;obtain⟨rfl,v2,l2,H⟩:=hV;rw[W_ok];rw[l]at H l2⊢;refine⟨rfl,v.trans v2,by lia,⟨λi hi=>?_⟩⟩;cases i with|zero=>exact⟨v2.old _ _ (by simp) g1,v2.old _ _ (by simp) g2⟩| succ i=>have:=H.a i (by lia);rw[show T.len+2+2*i=T.len+2*(i+1) by lia,show k+1+i=k+(i+1) by lia]at this;exact this
def zfb:∀(c k:Nat),(List.range c).map (λ(i:Nat)=>D.int ((i+k:Nat):Int))=intD k c
 |0,_=>rfl| c+1,k=>by rw[List.range_succ_eq_map,Μ,map_map,intD,<-zfb c (k+1),zero_add];congr 1;refine Ρ λi _=>?_;simp only[Function.comp];rw[show Nat.succ i+k=i+(k+1) by lia]
def ziM{N:Nat}:∀{c k:Nat},N<=k->0<c->flats N (refs k c)=Δ
 |c+1,k,h,_=>by simp only[refs,flats,flat];simp;lia
def zhI{S T:R.St}{l:Nat}(hT:T.frz=S.frz++S.new):(R.St.mk S.frz (S.new++T.new) S.lk).get l=T.get l:=by unfold St.get;dsimp only;rw[hT];by_cases h1:l<S.frz.length;rw[if_pos h1,if_pos (by rw[length_append];lia),getElem?_append_left h1];rw[if_neg h1];by_cases h2:l<S.frz.length+S.new.length;rw[if_pos (by rw[length_append];exact h2),getElem?_append_left (by lia),getElem?_append_right (by lia)];rw[if_neg (by rw[length_append];exact h2),getElem?_append_right (by lia),length_append];congr 1;lia
def zhH{S T:R.St}(hT:T.frz=S.frz++S.new):(R.St.mk S.frz (S.new++T.new) S.lk).len=T.len:=by unfold St.len;dsimp only;rw[hT,length_append,length_append];lia
def zoV{S T:R.St}(v:Mv [] S.enter T):Mv [] S ⟨S.frz,S.new++T.new,S.lk⟩:=⟨rfl,rfl,by rw[zhH v.frz];have:=v.len;rw[R.enter_len]at this;exact this,λl o _ e=>by rw[zhI v.frz];exact v.old l o (by simp) (by rw[za4];exact e)⟩
def zn1{S:R.St}{n m:Nat}{b s w:Int}(hb:0<=b)(hb5:b<=5)(m1:1<=m)(m7:m<=7) :
  W (app (callF prog (n+3)) 12 [.int (m:Nat),.int b,.int s,.int w] S) λd U=>d=.ref (S.len+2*m)/\Mv [] S U/\U.get (S.len+2*m)=Φ (.lst (refs S.len m))/\Hs U S.len 0 m (m:Nat) b s w/\U.len=S.len+2*m+1:=by
 refine zrU (F:=zdf) rfl rfl ?_;left;change⟨by lia,by lia⟩;left;refine zay ?_;have e:(List.range ((m:Nat):Int).toNat).map (λ(k:Nat)=>D.int (k:Nat))=intD 0 m:=by rw[<-zfb m 0];rfl
 rw[e];refine(zjT (n:=n) (b:=b) (s:=s) (w:=w) hb hb5 m 0 S.enter Ψ (λl hl=>by cases hl)).mono λds U hU=>?_;obtain⟨rfl,v,l,H⟩:=hU;have lr:∀(c N:Nat),(refs N c).length=c:=λc=>by induction c with|zero=>intro N;rfl|succ c ih=>intro N;rw[refs,Χ,ih]
 change by rw[lr];lia
 left;change by rw[lr];lia
 rw[R.enter_len]at H l⊢;have vl:Mv [] S.enter ({U with lk:=S.enter.lk}:R.St):=⟨v.frz,rfl,v.len,v.old⟩;have vp:=vl.trans (Mv.push [] _ (.lst (refs S.len m)));refine zi6 (l:=U.len) (by rw[l];lia) (zag ({U with lk:=S.enter.lk}:R.St) (.lst (refs S.len m))) (ziM (le_refl _) m1) ?_;have kg:∀x,(R.St.mk S.frz (S.new++(({U with lk:=S.enter.lk}:R.St).push (.lst (refs S.len m))).new) S.lk).get x=(({U with lk:=S.enter.lk}:R.St).push (.lst (refs S.len m))).get x:=λx=>zhI vp.frz;refine⟨by rw[l],zoV vp,?_,⟨λi hi=>?_⟩,?_⟩;rw[kg,<-l];exact zag ({U with lk:=S.enter.lk}:R.St) _;obtain⟨h1,h2⟩:=H.a i hi;rw[kg,kg];exact⟨zaj h1,zaj h2⟩;rw[zhH vp.frz,plen];show U.len+1=_;rw[l]
abbrev unD:D->Option Int|.int i=>Φ i|_=>Ψ
def zja(o:Option Int):unD (oD o)=o:=by cases o<;>rfl
abbrev toL(m i:Int)(y:Bool):List Int:=if y then(rg m).filter λo=>!decide (o=i) else []
def zqk(m i:Int)(h:Option Int)(y:Bool):sayL m i h y=(toL m i y).map (rwD i h):=by cases y<;>rfl
def zqu(m:Int):(rg m).Pairwise (· < ·):=by unfold rg;rw[Ϙ];exact Pairwise.imp (λ{a b} h=>by exact_mod_cast h) List.pairwise_lt_range
def znr(m i:Int)(y:Bool):(toL m i y).Pairwise (· < ·):=by unfold toL;split;exact(zqu m).filter _;exact .nil
def znq{m i:Int}{y:Bool}(hm7:m<=7):(toL m i y).length<=7:=by unfold toL;split;refine le_trans (length_filter_le _ _) ?_;simp[rg];omega;simp
abbrev cvL(B:List Bxl):List (Int×Option Int):=B.map λx=>(x.1.headD 0,unD x.2)
abbrev kLt(x:Bxl):Prop:=∃(i:Int) (o:Option Int),x=([i],oD o)
def cv_D:∀{B:List Bxl},(∀x∈B,kLt x)->B.map bxD=(cvL B).map ltD
 | [],_=>rfl| x::B,h=>by obtain⟨i,o,rfl⟩:=h x (by simp);have ih:=cv_D (B:=B) λy hy=>h y (by simp[hy]);unfold cvL at ih⊢;rw[Μ,Μ,Μ,ih];congr 1;show D.tup [.tup [.int i],oD o]=.tup [.tup [.int i],oD (unD (oD o))];rw[zja]
abbrev gZ(m s h:Int):Int:=(h-s)%m%3
abbrev plZ(m s p o:Int):Int:=(if(gZ m s (p%m)=1/\gZ m s o=2)\/(gZ m s (p%m)=2/\gZ m s o=1) then 1-p/m else p/m)*m+o
def zdM{m s p o:Int}(h0:0<=o)(h1:o<m):plZ m s p o%m=o:=by unfold plZ;rw[Int.add_comm,Int.add_mul_emod_self_right];exact Int.emod_eq_of_lt h0 h1
def zor{m s p q o:Int}(hm:0<m)(e:p%m=q%m)(h:plZ m s p o=plZ m s q o):p=q:=by
 unfold plZ at h;rw[e]at h;have h2:p/m=q/m:=by split at h;have:=Int.eq_of_mul_eq_mul_right (Int.ne_of_gt hm) (show(1-p/m)*m=(1-q/m)*m by lia);lia;exact Int.eq_of_mul_eq_mul_right (Int.ne_of_gt hm) (by lia)
 have a:=Int.mul_ediv_add_emod p m;have b:=Int.mul_ediv_add_emod q m;rw[<-a,<-b,h2,e]
def zhg{V:Town}{t:Int}(h1:∀j h,j<V.m->(((V.say j t h).map (V.go j)).map key).Nodup)(h2:∀j j' h h',j<j'->j'<V.m->∀r∈V.say j t h,∀r'∈V.say j' t h',key (V.go j r)≠key (V.go j' r')) :
  ∀(hs:List V.H)(k:Nat),k+hs.length<=V.m->((V.said t k hs).map key).Nodup/\∀r∈V.said t k hs,∃j h,k<=j/\j<V.m/\∃r0∈V.say j t h,r=V.go j r0
 | [],k,_=>⟨.nil,λr hr=>(by cases hr)⟩| h::hs,k,hl=>by simp only[Χ]at hl;obtain⟨a1,a2⟩:=zhg h1 h2 hs (k+1) (by lia);refine⟨?_,λr hr=>?_⟩;rw[Town.said,map_append,nodup_append];refine⟨h1 k h (by lia),a1,λx hx y hy=>?_⟩;obtain⟨r,hr,rfl⟩:=mem_map.mp hx;obtain⟨r0,hr0,rfl⟩:=mem_map.mp hr;obtain⟨r',hr',rfl⟩:=mem_map.mp hy;obtain⟨j,h',j1,j2,r1,hr1,rfl⟩:=a2 r' hr';exact h2 k j h h' (by lia) j2 r0 hr0 r1 hr1;rw[Town.said]at hr;rcases mem_append.mp hr with hr|hr;obtain⟨r0,hr0,rfl⟩:=mem_map.mp hr;exact⟨k,h,le_refl _,by lia,r0,hr0,rfl⟩;obtain⟨j,h',j1,j2,q⟩:=a2 r hr;exact⟨j,h',by lia,j2,q⟩
def zhf{V:Town}{t:Int}{B:Nat}(h1:∀j h,(V.say j t h).length<=B):∀(hs:List V.H)(k:Nat),(V.said t k hs).length<=B*hs.length
 | [],k=>zero_le _| h::hs,k=>by have ih:=zhf h1 hs (k+1);have:=h1 k h;rw[Town.said,length_append,length_map,Χ,Nat.mul_succ];lia
noncomputable abbrev hnZ(m j:Nat):Int:=((j%m:Nat):Int)
def zoq{m j j':Nat}{s:Int}{p p':List Int}{o o':Nat}(hm:0<m)(ne:j≠j')(ho:o<m)(ho':o'<m)(hp:p=p'->j%m=j'%m):(0,p,plZ m s (j:Nat) (o:Nat))≠((0,p',plZ m s (j':Nat) (o':Nat)):K3):=by intro e;simp only[Prod.mk.injEq,true_and]at e;have e1:=hp e.1;have a:=zdM (m:=(m:Nat)) (s:=s) (p:=(j:Nat)) (o:=(o:Nat)) (by lia) (by lia);have b:=zdM (m:=(m:Nat)) (s:=s) (p:=(j':Nat)) (o:=(o':Nat)) (by lia) (by lia);rw[e.2,b]at a;rw[a]at e;have:=zor (by lia) (by lia) e.2;lia
def zdA{m i o:Int}{y:Bool}(h:o∈toL m i y):∃k:Nat,(k:Int)<m/\o=(k:Nat)/\o≠i:=by unfold toL at h;split at h;obtain⟨h1,h2⟩:=mem_filter.mp h;unfold rg at h1;obtain⟨k,hk,rfl⟩:=mem_map.mp h1;have:=mem_range.mp hk;exact⟨k,by lia,rfl,by simpa using h2⟩;cases h
noncomputable abbrev Kh:=Option Int×Int×List (Option Int)
abbrev wdP(m:Nat)(s w1 w2:Int)(j:Nat):Option Int:=if j%m=s.toNat then Φ (if j<m then w1 else w2) else Ψ
abbrev whP(N m j:Nat):Nat:=N+2*j+j/m
abbrev kr(m:Nat)(b s w1 w2:Int)(N wr:Nat)(la:Nat->Nat):Town where
 H:=Kh
 m:=2*m
 who j:=whP N m j
 adr j:=[whP N m j,whP N m j+1]
 ok S d j h:=S.get (whP N m j)=Φ (hD (m:Nat) b (hnZ m j) s (wdP m s w1 w2 j) h.1 h.2.1 (whP N m j+1))/\S.get (whP N m j+1)=Φ (.lst (h.2.2.map oD))/\h.2.2.length<=d
 say j t h:=(toL (m:Nat) (hnZ m j) (decide (hnZ m j∈wrZ (m:Nat) s t))).map λo=>⟨[hnZ m j],o,oD h.1⟩
 hear j t h B:=((hrZ (m:Nat) b (hnZ m j) s t h.1 h.2.1 (cvL B)).1,(hrZ (m:Nat) b (hnZ m j) s t h.1 h.2.1 (cvL B)).2,h.2.2++[(hrZ (m:Nat) b (hnZ m j) s t h.1 h.2.1 (cvL B)).1])
 lt:=kLt
 tt _:=True
 wr:=wr
 la:=la
 nh:=m
 rt j o:=plZ (m:Nat) s (j:Nat) o
 mx:=60
def zpO{m i:Int}{y:Bool}(hm:1<=m)(h6:m<=6)(h0:0<=i)(h1:i<m):(toL m i y).length<=5:=by
 unfold toL;split
 . have:m=1\/m=2\/m=3\/m=4\/m=5\/m=6:=by lia
   have hi:i=0\/i=1\/i=2\/i=3\/i=4\/i=5:=by lia
   rcases this with rfl|rfl|rfl|rfl|rfl|rfl<;>rcases hi with rfl|rfl|rfl|rfl|rfl|rfl<;>first|decide|(exfalso;lia)
 simp
def zkc{m:Nat}{b s w1 w2:Int}{N wr:Nat}{la:Nat->Nat}(m1:1<=m)(m6:m<=6)(hb:0<=b):TownOk (kr m b s w1 w2 N wr la) 7:=by
 have hlt:∀j,j%m<m:=λj=>Nat.mod_lt _ m1;refine⟨λ{S T d j h} o g=>?_,λ{S d j h} o z hz=>?_,λ{S d j h} t n _ hk hj o=>?_,λj t h r hr=>?_,λj t h r hr=>?_,λj=>by simp[kr],λx hx M=>?_,λ{S d j bx h B} t n hj hd o fr gb nb hl lt=>?_,λt hs _ hh=>?_,λt hs _ hh=>?_,by simp[kr]⟩;exact⟨g _ (by simp[kr]) _ o.1,g _ (by simp[kr]) _ o.2.1,o.2.2⟩;rcases mem_cons.mp hz with rfl|hz;exact⟨_,o.1⟩;cases mem_singleton.mp hz;exact⟨_,o.2.1⟩;refine⟨_,_,35,o.1,rfl,rfl,?_⟩;show W (appW (callF prog (n+4+3)) 35 [.ref (whP N m j),.int t] S) _;rw[zsG (t:=t) o.1 (by lia) (by lia),W_ok];refine⟨_,rfl,?_,(Mv.push _ _ _).trans (Mv.push _ _ _),?_⟩;unfold sayS;rw[plen];lia;rw[zag,zqk];show _=Φ (MO.lst ((List.map _ (toL _ _ _)).map rD));rw[map_map];rfl;obtain⟨o,ho,rfl⟩:=mem_map.mp hr;obtain⟨k,hk,e,_⟩:=zdA ho;exact⟨k,by show k<m;lia,e⟩;obtain⟨o,_,rfl⟩:=mem_map.mp hr;exact⟨_,_,rfl⟩
 . obtain⟨i,o,rfl⟩:=hx;cases o<;>rfl
 refine⟨_,_,30,o.1,rfl,rfl,?_⟩;have gq:S.get bx=Φ (.lst ((cvL B).map ltD)):=by rw[gb,cv_D lt]
 have cl:(cvL B).length<=60:=by unfold cvL;rw[length_map];exact hl
 refine(zrb (n:=n) (t:=t) o.1 (fr _ (by simp[kr])) gq o.2.1 (fr _ (by simp[kr])) (by lia) (by have:=o.2.2;lia) cl hb (by lia)).mono λx T hT=>?_;obtain⟨rfl,v,g1,g2⟩:=hT;refine⟨rfl,v,g1,g2,?_⟩;show(h.2.2++[_]).length<=d+1;rw[length_append];have:=o.2.2;simp;lia;refine(zhg (λj h hj=>?_) (λj j' h h' hjj hj' r hr r' hr'=>?_) hs 0 (by rw[zero_add,hh];exact le_refl _)).1;show(((List.map _ (toL _ _ _)).map _).map key).Nodup;rw[map_map,map_map,List.nodup_iff_pairwise_ne,Ϙ];refine(znr _ _ _).imp_of_mem λ{a c} ha hc q e=>?_;obtain⟨x,hx,rfl,_⟩:=zdA ha;obtain⟨y,hy,rfl,_⟩:=zdA hc;have e:plZ (m:Nat) s (j:Nat) (x:Nat)=plZ (m:Nat) s (j:Nat) (y:Nat):=by simp only[Function.comp,key,Town.go,Prod.mk.injEq]at e;exact e.2.2
 have h1:=zdM (m:=(m:Nat)) (s:=s) (p:=(j:Nat)) (o:=(x:Nat)) (by lia) hx;have h2:=zdM (m:=(m:Nat)) (s:=s) (p:=(j:Nat)) (o:=(y:Nat)) (by lia) hy;rw[e,h2]at h1;lia;obtain⟨o,ho,rfl⟩:=mem_map.mp hr;obtain⟨o',ho',rfl⟩:=mem_map.mp hr';obtain⟨x,hx,rfl,_⟩:=zdA ho;obtain⟨y,hy,rfl,_⟩:=zdA ho';exact zoq (by lia) (by lia) (by lia) (by lia) λe=>by have e:[hnZ m j]=[hnZ m j']:=e;have e:=(List.cons.inj e).1;unfold hnZ at e;lia
 have h2:List.length hs=2*m:=hh;have:=zhf (V:=kr m b s w1 w2 N wr la) (t:=t) (B:=5) (λj h=>by show(List.map _ (toL _ _ _)).length<=5;rw[length_map];exact zpO (by lia) (by lia) (by unfold hnZ;lia) (by have:=hlt j;unfold hnZ;lia)) hs 0;show _<=60;have h3:5*List.length hs<=60:=by rw[h2];lia
 exact le_trans this h3
structure Rg(S:R.St)(a:Nat)(m:Nat)(s:Int):Prop where
 ex:∃fs,S.get a=Φ (.ins 1 fs)/\fs.lookup ("many":PySem.Str)=Φ (.int (m:Nat))/\fs.lookup ("sender":PySem.Str)=Φ (.int s)/\fs.lookup ("group_of":PySem.Str)=Ψ/\fs.lookup ("place_for":PySem.Str)=Ψ/\fs.lookup ("wires_at":PySem.Str)=Ψ/\fs.lookup ("hands_in":PySem.Str)=Ψ/\fs.lookup ("groups":PySem.Str)=Ψ/\fs.lookup ("wires":PySem.Str)=Ψ
def Rg.mv{S T:R.St}{a m:Nat}{s:Int}{A:List Nat}(h:Rg S a m s)(v:Mv A S T)(n:a∉A):Rg T a m s:=by obtain⟨fs,e,r⟩:=h.ex;exact⟨fs,v.old _ _ n e,r⟩
def zjY{S:R.St}{n a m:Nat}{s h:Int}(r:Rg S a m s)(hm:0<m):appW (callF prog (n+1)) 38 [.ref a,.int h] S=.ok (.int (gZ (m:Nat) s h)) S:=by
 obtain⟨fs,e,f1,f2,_⟩:=r.ex;refine zc6 (F:=zb2) rfl rfl ?_;left;exists zaK e f2;left;exists zaK e f1;left;change by lia
 left;right;left;exact⟨rfl,rfl⟩
def zhM:∀xs ys:List Int,PySem.PyData.eqvAll (xs.map PySem.PyData.int) (ys.map PySem.PyData.int)=decide (xs=ys)
 | [],[]=>by simp[PySem.PyData.eqvAll]| [],_::_=>by simp[PySem.PyData.eqvAll]|_::_,[]=>by simp[PySem.PyData.eqvAll]| x::xs,y::ys=>by rw[Μ,Μ,PySem.PyData.eqvAll,zhM xs ys,L2.eqv_int];by_cases h:x=y<;>simp[h]
def zeZ(S:R.St)(n:Nat):∀xs:List Int,(xs.map D.int).mapM (pd S n)=Φ (xs.map PySem.PyData.int)
 | []=>rfl|x::xs=>by rw[Μ,ϛ,zeZ S n xs];cases n<;>rfl
def zgT{S:R.St}{x y:Nat}{xs ys:List Int}(h1:S.get x=Φ (.lst (xs.map .int)))(h2:S.get y=Φ (.lst (ys.map .int))):cmpO S .Eq (.ref x) (.ref y)=Φ (decide (xs=ys)):=by show eqD S (.ref x) (.ref y)=_;unfold eqD;rw[zcY h1 (zeZ S 59 xs),zcY h2 (zeZ S 59 ys)];simp only[Ϟ,Option.map_some,PySem.PyData.eqv,zhM]
def zle(a c:Int):decide (zcU [a,c]=[1,2])=decide ((a=1/\c=2)\/(a=2/\c=1)):=by apply ϙ.mpr;simp only[decide_eq_true_eq,zcU,insZ];split<;>simp<;>lia
def zoJ{S:R.St}{n a m:Nat}{s p o:Int}(r:Rg S a m s)(hm:0<m)(h7:m<=7):W (appW (callF prog (n+2)) 41 [.ref a,.int p,.int o] S) λd T=>d=.int (plZ (m:Nat) s p o)/\Mv [] S T:=by
 obtain⟨fs,e,f1,f2,f3,f4,f5,f6⟩:=r.ex;refine zbB (F:=zbL) rfl rfl (wS_W _ ?_);left;exists zaK e f1;left;change by omega
 left;exists zas e;left;exists rfl;left;change by rw[f3];rfl
 left;exists zaK e f1;left;change by omega
 left;specialize zjY (n:=n) r hm;left;exists zas e;left;exists rfl;left;change by rw[f3];rfl
 left;specialize zjY (n:=n) r hm;left;right;left;exists zoM (ks:=[gZ (m:Nat) s (p%(m:Nat)),gZ (m:Nat) s o]) (zag _ _);left;right;left;change by rw[length_map,(zb6 _).length_eq];simp
 left;right;left;have g1:=zag ((S.push (.lst [D.int (gZ (m:Nat) s (p%(m:Nat))),D.int (gZ (m:Nat) s o)]))) (.lst ((zcU [gZ (m:Nat) s (p%(m:Nat)),gZ (m:Nat) s o]).map .int));exists zgT (xs:=zcU [gZ (m:Nat) s (p%(m:Nat)),gZ (m:Nat) s o]) (ys:=[1,2]) (zaj g1) (zag _ _);rw[zle];have v:Mv [] S (((S.push (.lst [D.int (gZ (m:Nat) s (p%(m:Nat))),D.int (gZ (m:Nat) s o)])).push (.lst ((zcU [gZ (m:Nat) s (p%(m:Nat)),gZ (m:Nat) s o]).map .int))).push (.lst ([1,2].map .int))):=((Mv.push [] _ _).trans (Mv.push [] _ _)).trans (Mv.push [] _ _);have ev:=v.old _ _ (by simp) e;unfold plZ;refine zdh (λc=>?_) (λc=>?_);have c:=of_decide_eq_true c;rw[if_pos c];left;exists zaK ev f1;left;change by unfold zbM;simp;omega
 left;exact⟨rfl,v⟩;have c:=of_decide_eq_false c;rw[if_neg c];left;exists zaK ev f1;left;change by unfold zbM;simp;omega
 left;exact⟨rfl,v⟩
abbrev wrow(m:Nat)(s:Int)(p:Int):List D:=(List.range m).map λ(o:Nat)=>.int (plZ (m:Nat) s p (o:Nat))
abbrev pfE:CE:=.meth "place_for" [(1,41)] J2 #[J1,J0]
def zjM{n a m:Nat}{s p:Int}(hm:0<m)(h7:m<=7):∀(c k:Nat)(T:R.St)(o:Option D),Rg T a m s->
  W (zat [0] (evT (callF prog (n+2)) (.tst (.con (D.bl Γ)))) (evE (callF prog (n+2)) pfE) (intD k c) [o,Φ (.int p),Φ (.ref a)] T) λds U=>ds=(List.range' k c).map (λ(o:Nat)=>D.int (plZ (m:Nat) s p (o:Nat)))/\Mv [] T U
 |0,k,T,o,r=>by show W (Out.ok [] T) _;rw[W_ok];exact⟨rfl,Mv.refl _ _⟩| c+1,k,T,o,r=>by
  rw[intD,zat];show W (Out.bind (Out.ok Γ T) _) _;rw[zaw];show W (Out.bind (evE (callF prog (n+2)) pfE [Φ (.int (k:Nat)),Φ (.int p),Φ (.ref a)] T) _) _;rw[zab];obtain⟨fs,e,f1,f2,f3,f4,f5,f6⟩:=r.ex;refine wE_W _ ?_;unfold pfE;left;exists zas e;left;exists rfl;left;change by rw[f4];rfl
  left;refine za8 ((zoJ (n:=n) (p:=p) (o:=(k:Nat)) r hm h7).mono λd U hU=>?_);obtain⟨rfl,v⟩:=hU;rw[zab];refine(zjM hm h7 c (k+1) U _ (r.mv v (by simp))).mono λds V hV=>?_;obtain⟨rfl,v2⟩:=hV;rw[W_ok];exact⟨by rw[List.range'_succ];rfl,v.trans v2⟩
def zdo(m:Nat):(List.range ((m:Nat):Int).toNat).map (λ(k:Nat)=>D.int (k:Nat))=intD 0 m:=by rw[<-zfb m 0];rfl
def zsF{S:R.St}{n a m:Nat}{s p:Int}(r:Rg S a m s)(hm:0<m)(h7:m<=7)(hk:∀l∈S.lk,l<S.len):W (appW (callF prog (n+3)) 43 [.ref a,.int p] S) λd T=>∃l,d=.ref l/\S.len<=l/\T.len=l+1/\T.get l=Φ (.lst (wrow m s p))/\Mv [] S T:=by
 obtain⟨fs,e,f1,f2,f3,f4,f5,f6⟩:=r.ex;refine zbB (F:=zb1) rfl rfl (wS_W _ ?_);left;exists zaK e f1;left;change⟨by lia,by lia⟩;left;refine zay ?_;rw[zdo];refine(zjM (n:=n) (p:=p) hm h7 m 0 S Ψ r).mono λds U hU=>?_;obtain⟨rfl,v⟩:=hU;rw[<-List.range_eq_range'];change by rw[length_map,ϡ];lia
 left;change by rw[length_map,ϡ];lia
 have v':Mv [] S ({U with lk:=S.lk}:R.St):=⟨v.frz,rfl,v.len,v.old⟩;exact⟨_,rfl,v.len,plen _ _,zag ({U with lk:=S.lk}:R.St) _,v'.trans (Mv.push [] _ _)⟩
abbrev waE:CE:=.meth "wires_at" [(1,43)] J1 #[J0]
def ziZ{n a m:Nat}{s:Int}(hm:0<m)(h7:m<=7):∀(c k:Nat)(T:R.St)(o:Option D),Rg T a m s->(∀l∈T.lk,l<T.len)->
  W (zat [0] (evT (callF prog (n+3)) (.tst (.con (D.bl Γ)))) (evE (callF prog (n+3)) waE) (intD k c) [o,Φ (.ref a)] T) λds U=>(∃la:Nat->Nat,ds=(List.range' k c).map (λj=>D.ref (la j))/\∀j,k<=j->j<k+c->T.len<=la j/\la j<U.len/\U.get (la j)=Φ (.lst (wrow m s (j:Nat))))/\Mv [] T U
 |0,k,T,o,r,_=>by show W (Out.ok [] T) _;rw[W_ok];exact⟨⟨λ_=>0,rfl,λj h1 h2=>by lia⟩,Mv.refl _ _⟩| c+1,k,T,o,r,hk=>by
  rw[intD,zat];show W (Out.bind (Out.ok Γ T) _) _;rw[zaw];show W (Out.bind (evE (callF prog (n+3)) waE [Φ (.int (k:Nat)),Φ (.ref a)] T) _) _;rw[zab];obtain⟨fs,e,f1,f2,f3,f4,f5,f6⟩:=r.ex;refine wE_W _ ?_;unfold waE;left;exists zas e;left;exists rfl;left;change by rw[f5];rfl
  left;refine za8 ((zsF (n:=n) (p:=(k:Nat)) r hm h7 hk).mono λd U hU=>?_);obtain⟨l,rfl,h1,h2,h3,v⟩:=hU;rw[zab];refine(ziZ hm h7 c (k+1) U _ (r.mv v (by simp)) (by rw[v.lk];exact λx hx=>lt_of_lt_of_le (hk x hx) v.len)).mono λds V hV=>?_;obtain⟨⟨la,rfl,hla⟩,v2⟩:=hV;rw[W_ok];refine⟨⟨λj=>if j=k then l else la j,?_,λj j1 j2=>?_⟩,v.trans v2⟩;rw[List.range'_succ,Μ];dsimp only;rw[if_pos rfl];congr 1;refine Ρ λj hj=>?_;have:=(List.mem_range'_1.mp hj).1;rw[if_neg (by lia)];by_cases ej:j=k;subst ej;dsimp only;rw[if_pos rfl];exact⟨h1,by have:=v2.len;lia,v2.old _ _ (by simp) h3⟩;dsimp only;rw[if_neg ej];obtain⟨q1,q2,q3⟩:=hla j (by lia) (by lia);exact⟨le_trans v.len q1,q2,q3⟩
structure Wi(T:R.St)(N wr:Nat)(la:Nat->Nat)(m:Nat)(s:Int):Prop where
 w:T.get wr=Φ (.lst ((List.range (2*m)).map λj=>.ref (la j)))
 l:∀j,j<2*m->T.get (la j)=Φ (.lst (wrow m s (j:Nat)))
 n1:N<=wr
 n2:∀j,j<2*m->N<=la j
 n3:∀j,j<2*m->la j<wr
def zoI{S:R.St}{n a m:Nat}{s:Int}(r:Rg S a m s)(hm:0<m)(h7:m<=7)(hk:∀l∈S.lk,l<S.len):W (appW (callF prog (n+4)) 42 [.ref a] S) λd T=>∃wr la,d=.ref wr/\T.len=wr+1/\Wi T S.len wr la m s/\Mv [] S T:=by
 obtain⟨fs,e,f1,f2,f3,f4,f5,f6⟩:=r.ex;refine zbB (F:=zdg) rfl rfl (wS_W _ ?_);left;exists zaK e f1;left;change by unfold zbM;simp
 left;change⟨by lia,by lia⟩;left;refine zay ?_;rw[show((2:Int)*((m:Nat):Int))=((2*m:Nat):Int) by lia,zdo];refine(ziZ (n:=n) hm h7 (2*m) 0 S Ψ r hk).mono λds U hU=>?_;obtain⟨⟨la,rfl,hla⟩,v⟩:=hU;rw[<-List.range_eq_range'];change by rw[length_map,ϡ];lia
 left;change by rw[length_map,ϡ];lia
 have v':Mv [] S ({U with lk:=S.lk}:R.St):=⟨v.frz,rfl,v.len,v.old⟩;refine⟨U.len,la,rfl,plen _ _,⟨zag ({U with lk:=S.lk}:R.St) _,λj hj=>zaj (S:=({U with lk:=S.lk}:R.St)) (hla j (by lia) (by lia)).2.2,v.len,λj hj=>(hla j (by lia) (by lia)).1,λj hj=>(hla j (by lia) (by lia)).2.1⟩,v'.trans (Mv.push [] _ _)⟩
def zsm{S:R.St}{n:Nat}{x:PySem.Str}(h:x=("oral":PySem.Str)\/x=("kings":PySem.Str)):app (callF prog (n+4)) 16 [.str x] S=.ok (.str x) S:=by
 have hp:prm S.enter .way [.str x]=.ok (.str x) S.enter:=by unfold prm;dsimp only;rw[if_pos h]
 have:callF prog (n+4) 16 [.str x] S.enter=.ok (.str x) S.enter:=by show(if([D.str x]:List D).length=1 then(if 3<=n+3 then prm S.enter .way [.str x] else .bad) else .bad)=_;rw[if_pos (show([D.str x]:List D).length=1 from rfl),if_pos (by lia),hp]
 unfold app;rw[this];rfl
def ziX{N m j:Nat}(h:j<m):whP N m j=N+2*j:=by unfold whP;rw[Nat.div_eq_of_lt h,Nat.add_zero]
def ziY{N m j:Nat}(h0:m<=j)(h:j<2*m):whP N m j=N+2*m+1+2*(j-m):=by
 unfold whP;have:j/m=1:=by rw[Nat.div_eq_iff (by lia)];lia
 lia
def zmv{N m i j:Nat}(h:i<j):whP N m i+2<=whP N m j:=by unfold whP;have:=Nat.div_le_div_right (c:=m) (le_of_lt h);lia
def zmw{N m j:Nat}(h:j<2*m):N<=whP N m j/\whP N m j+1<N+4*m+2:=by by_cases c:j<m;rw[ziX c];lia;rw[ziY (by lia) h];lia
def zdp:∀(c N:Nat),refs N c=(List.range c).map λi=>D.ref (N+2*i)
 |0,_=>rfl| c+1,N=>by rw[refs,zdp c (N+2),List.range_succ_eq_map,Μ,map_map];congr 1;refine Ρ λi _=>?_;simp only[Function.comp];congr 1;lia
def zg8(V:Town):∀(c k:Nat),whoL V k c=(List.range' k c).map λj=>D.ref (V.who j)
 |0,_=>rfl|c+1,k=>by rw[whoL,zg8 V c (k+1),List.range'_succ];rfl
def znk{V:Town}{N m:Nat}(hm:V.m=2*m)(hw:V.who=whP N m):whoL V 0 V.m=refs N m++refs (N+2*m+1) m:=by rw[zg8,hm,hw,<-List.range_eq_range',zdp,zdp,show 2*m=m+m by lia,List.range_add,map_append,map_map];congr 1;refine Ρ λi hi=>?_;rw[ziX (mem_range.mp hi)];refine Ρ λi hi=>?_;have:=mem_range.mp hi;simp only[Function.comp];rw[ziY (by lia) (by lia)];congr 1;lia
def zrG{V:Town}{N m:Nat}(ha:∀j,V.adr j=[whP N m j,whP N m j+1]):Dj V:=by intro i j _ _ h z hz hm;rw[ha]at hz hm;simp only[mem_cons,not_mem_nil,or_false]at hz hm;rcases Nat.lt_or_gt_of_ne h with q|q;have:=zmv (N:=N) (m:=m) q;lia;have:=zmv (N:=N) (m:=m) q;lia
def zpw{m j:Nat}{s w1 w2:Int}(hs:0<=s)(h:j<m):wdO s w1 ((0+j:Nat):Int)=wdP m s w1 w2 j:=by unfold wdO wdP;rw[ϝ h,if_pos h,zero_add];by_cases c:(j:Int)=s;rw[if_pos c,if_pos (by lia)];rw[if_neg c,if_neg (by lia)]
def zpx{m j:Nat}{s w1 w2:Int}(hs:0<=s)(h0:m<=j)(h:j<2*m):wdO s w2 ((0+(j-m):Nat):Int)=wdP m s w1 w2 j:=by
 unfold wdO wdP;have e:j%m=j-m:=by rw[Nat.mod_eq_sub_mod h0,ϝ (by lia)]
 rw[e,if_neg (show ¬j<m by lia),zero_add];by_cases c:((j-m:Nat):Int)=s;rw[if_pos c,if_pos (by lia)];rw[if_neg c,if_neg (by lia)]
def zsQ{m j:Nat}(h:j<m):((0+j:Nat):Int)=hnZ m j:=by unfold hnZ;rw[ϝ h,zero_add]
def zsR{m j:Nat}(h0:m<=j)(h:j<2*m):((0+(j-m):Nat):Int)=hnZ m j:=by unfold hnZ;rw[Nat.mod_eq_sub_mod h0,ϝ (by omega),zero_add]
def zlt{V:Town}{m N c n th wr:Nat}{la:Nat->Nat}{s z:Int}{T:R.St}{h0:Nat->V.H}(X:TownOk V 7)(hm:V.m=2*m)(hw:V.who=whP N m)(ha:∀j,V.adr j=[whP N m j,whP N m j+1])(e1:V.wr=wr)(e2:V.la=la)(e3:V.nh=m)(e4:V.rt=λj o=>plZ (m:Nat) s (j:Nat) o)
  (tt:∀i:Nat,1<=i->i<1+c->V.tt (i:Nat)) (hg:T.get th=Φ (.lst (refs N m++refs (N+2*m+1) m))) (pk:∀j,j<2*m->V.ok T 0 j (h0 j)) (nt:N+4*m+2<=th) (wi:Wi T (N+4*m+2) wr la m s) (hf:T.frz.length<=N) (hk:∀l∈T.lk,l<N) (hN:N<=T.len) (hc:c<=40) (hz:z=(c:Nat)) :
  W (appW (callF prog (n+10)) 9 [.ref th,.int z,.ref wr] T) λx U=>x=.ref T.len/\U.get T.len=Φ (.lst (lets V 1 c ((List.range (2*m)).map h0)))/\U.lk=T.lk/\U.frz=T.frz/\T.len<U.len/\∀l o,l<N->T.get l=Φ o->U.get l=Φ o:=by
 have away:∀l,l<N\/N+4*m+2<=l->∀i,i<V.m->l∉V.adr i:=λl h i hi hx=>by rw[ha]at hx;have:=zmw (N:=N) (show i<2*m by lia);simp only[mem_cons,not_mem_nil,or_false]at hx;lia
 have rn:=zsn X (S:=T) (n:=n) (c:=c) (z:=z) (th:=th) (hs:=(List.range (2*m)).map h0) tt (zrG ha) (by rw[length_map,ϡ,hm]) (by rw[znk hm hw];exact hg) (λi h e=>?_) (away th (.inr nt)) (λl hl=>lt_of_lt_of_le (hk l hl) hN) hc hz (by lia)
  ⟨by rw[e1,e2,hm];exact wi.w,λj hj=>by rw[e2,e3,e4];exact wi.l j (by lia)⟩ (by rw[e1];exact away _ (.inr wi.n1)) (λi hi j hj=>by rw[e2];exact away _ (.inr (wi.n2 j (by lia))) i hi)
 rw[e1]at rn;refine rn.mono λx U hU=>?_;obtain⟨rfl,q0,q1,q2,q3,q4⟩:=hU;exact⟨rfl,q0.gl,q1,q2,q3,λl o hl e=>q4 l o (away l (.inl hl)) e⟩;rw[getElem?_map]at e;cases ei:(List.range (2*m))[i]? with
 |none=>rw[ei]at e;exact nS e
 |some x=>
  rw[ei]at e;cases e;obtain⟨hi,rfl⟩:=Ω.mp ei;simp only[ϡ]at hi;rw[List.getElem_range];refine⟨pk i hi,λy hy=>?_⟩;rw[ha]at hy;have:=zmw (N:=N) hi;simp only[mem_cons,not_mem_nil,or_false]at hy;have hy2:N<=y:=by lia
  exact⟨by lia,zoG hk hy2⟩
def zs2(S:R.St){a b:PySem.Str}(ha:PySem.PyData.strOk a=Γ)(hb:PySem.PyData.strOk b=Γ):cmpO S .Eq (.str a) (.str b)=Φ (PySem.PyData.eqv (.str a) (.str b)):=by show(pd S 60 (.str a)).bind (λx=>(pd S 60 (.str b)).map λy=>PySem.PyData.eqv x y)=_;unfold pd;rw[if_pos ha,if_pos hb];rfl
abbrev rf(way:PySem.Str)(b m s one other:Int):List (PySem.Str×D):=[("way",.str way),("bound",.int b),("many",.int m),("sender",.int s),("one",.int one),("other",.int other)]
def zhJ{S:R.St}{n a m b:Nat}{s w one other:Int}(e:S.get a=Φ (.ins 1 (rf "kings" (b:Nat) (m:Nat) s one other)))(m1:1<=m)(m7:m<=7)(b5:b<=5) :
  W (appW (callF prog (n+4)) 39 [.ref a,.int w] S) λd U=>d=.ref (S.len+2*m)/\Mv [] S U/\U.get (S.len+2*m)=Φ (.lst (refs S.len m))/\Hs U S.len 0 m (m:Nat) (b:Nat) s w/\U.len=S.len+2*m+1:=by
 refine zbB (F:=zbA) rfl rfl (wS_W _ ?_);left;exists zaK e rfl;left;exists(zs2 S (by decide +kernel) (by decide +kernel)).trans (show _=Φ Δ from congrArg Φ (by decide +kernel));left;exists zaK e rfl;left;exists zaK e rfl;left;exists zaK e rfl;left;refine za8 ((zn1 (S:=S) (n:=n) (m:=m) (b:=(b:Nat)) (s:=s) (w:=w) (by lia) (by lia) m1 m7).mono λd U hU=>?_);left;exact hU
def zqv{N m:Nat}{xs:List D}(m1:1<=m):R.atI (refs N m++xs) 0=Φ (.ref N):=by cases m with|zero=>lia|succ m=>exact ziU
abbrev iTl:CS:=.setF J0 "sent" (.callW 9 0 #[J7,.fld (.ix J7 Y0) "rounds",.meth "wires" [(1,42)] J0 .nil]) .nil
abbrev iHd:CE:=.bin .Add (.meth "hands_with" [(1,39)] J0 #[J5]) (.meth "hands_with" [(1,39)] J0 #[J6])
noncomputable abbrev Ei(a:Nat)(way:PySem.Str)(m b s one other:Int)(x:Option D):Ev:=[Φ (.ref a),Φ (.str way),Φ (.int m),Φ (.int b),Φ (.int s),Φ (.int one),Φ (.int other),x]
def zsq{S:R.St}{a m:Nat}{way:PySem.Str}{b s one other:Int}(e:S.get a=Φ (.ins 1 (rf way b (m:Nat) s one other))):Rg S a m s:=⟨_,e,rfl,rfl,rfl,rfl,rfl,rfl,rfl,rfl⟩
def zsM{S T:R.St}{n a m b:Nat}{way:PySem.Str}{s one other z:Int}{Ls:Nat->(Nat->Nat)->List D}{Q:Fl->R.St->Prop}(e:S.get a=Φ (.ins 1 (rf way (b:Nat) (m:Nat) s one other)))(hf:Fr S a)(hk:∀l∈S.lk,l<S.len)(m1:1<=m)(m7:m<=7)(v:Mv [] S T)(g:T.get (S.len+4*m+2)=Φ (.lst (refs S.len m++refs (S.len+2*m+1) m)))(lT:T.len=S.len+4*m+3)
  (fr:∃cc fs,T.get S.len=Φ (.ins cc fs)/\fs.lookup ("rounds":PySem.Str)=Φ (.int z))
  (rn:∀U wr la,Mv [] T U->Wi U T.len wr la m s->W (appW (callF prog (n+10)) 9 [.ref (S.len+4*m+2),.int z,.ref wr] U) λx V=>x=.ref U.len/\V.get U.len=Φ (.lst (Ls wr la))/\V.lk=U.lk/\V.frz=U.frz/\U.len<V.len/\∀l o,l<S.len->U.get l=Φ o->V.get l=Φ o) (q:∀δ V l wr la,V.get a=Φ (.ins 1 (rf way (b:Nat) (m:Nat) s one other++([("sent",.ref l)]:List (PySem.Str×D))))->V.get l=Φ (.lst (Ls wr la))->Mv [a] S V->Q (.nx δ) V) :
  wS (callF prog (n+10)) iTl (Ei a way (m:Nat) (b:Nat) s one other (Φ (.ref (S.len+4*m+2)))) T Q:=by
 obtain⟨cc,fs,g0,gr⟩:=fr;have la:=get_lt e;have eT:=v.old _ _ (by simp) e;unfold iTl;left;exists g;left;exists zqv m1;left;exists zaK g0 gr;left;exists zas eT;left;exists rfl;left;change rfl;left;refine za8 ((zoI (n:=n+6) (zsq eT) (by lia) m7 (by rw[v.lk];exact λl hl=>lt_of_lt_of_le (hk l hl) v.len)).mono λd U hU=>?_);obtain⟨wr,la',rfl,lU,wi,v2⟩:=hU;left;refine za8 ((rn U wr la' v2 wi).mono λd V hV=>?_);obtain⟨rfl,q0,q1,q2,q3,q4⟩:=hV;have eV:=q4 _ _ la (v2.old _ _ (by simp) eT);have fV:Fr V a:=⟨by rw[q2,v2.frz,v.frz];exact hf.f,by rw[q1,v2.lk,v.lk];exact hf.k⟩;obtain⟨X,a1,x1,x2⟩:=zaX (f:="sent") (v:=.ref U.len) (gs:=rf way (b:Nat) (m:Nat) s one other++([("sent",.ref U.len)]:List (PySem.Str×D))) eV fV (by simp[rf]) rfl;left;exists a1;left;have h1:=v.len;have h2:=v2.len;refine q _ _ _ wr la' x2 (x1.old _ _ (by simp;lia) q0) ⟨by rw[x1.frz,q2,v2.frz,v.frz],by rw[x1.lk,q1,v2.lk,v.lk],?_,λl o hl e=>x1.old _ _ hl (q4 _ _ (get_lt e) (v2.old _ _ (by simp) (v.old _ _ (by simp) e)))⟩;have:=x1.len;lia
def zkq:c_Ring_init.body=.setF J0 "way" (.call 16 0 #[J1]) (.setF J0 "bound" (.call 3 0 #[J3,Y1,Y2]) (.setF J0 "many" (.call 3 0 #[J2,Y3,.bin .Mult Y3 J3]) (.setF J0 "sender" (.call 4 0 #[J4,J2]) (.setF J0 "one" (.call 5 0 #[J5]) (.setF J0 "other" (.call 5 0 #[J6]) (.ifS (.cmp .Eq J6 J5) .stop .nil (.asg 7 iHd iTl))))))):=rfl
structure Ok6(way:PySem.Str)(m b:Nat)(s one other:Int):Prop where
 w:way=("oral":PySem.Str)\/way=("kings":PySem.Str)
 b1:1<=b
 b2:b<=2
 m3:3<=m
 mb:m<=3*b
 s:0<=s/\s<(m:Nat)
 o1:-10^60<one/\one<10^60
 o2:-10^60<other/\other<10^60
 ne:other≠one
def zsL{S:R.St}{n a m b:Nat}{way:PySem.Str}{s one other:Int}{Q:Fl->R.St->Prop}(k:Ok6 way m b s one other)(e:S.get a=Φ (.ins 1 []))(hf:Fr S a)
  (q:∀T,Mv [a] S T->T.len=S.len->T.get a=Φ (.ins 1 (rf way (b:Nat) (m:Nat) s one other))->wS (callF prog (n+10)) (.asg 7 iHd iTl) (Ei a way (m:Nat) (b:Nat) s one other Ψ) T Q) :
  wS (callF prog (n+10)) c_Ring_init.body (Ei a way (m:Nat) (b:Nat) s one other Ψ) S Q:=by
 have b1:=k.b1;have b2:=k.b2;have m3:=k.m3;have mb:=k.mb;obtain⟨T1,a1,v1,g1⟩:=zaX (f:="way") (v:=.str way) (gs:=[("way",.str way)]) e hf (by simp) rfl;obtain⟨T2,a2,v2,g2⟩:=zaX (f:="bound") (v:=.int (b:Nat)) (gs:=[("way",.str way),("bound",.int (b:Nat))]) g1 (hf.mv v1) (by simp) rfl;obtain⟨T3,a3,v3,g3⟩:=zaX (f:="many") (v:=.int (m:Nat)) (gs:=[("way",.str way),("bound",.int (b:Nat)),("many",.int (m:Nat))]) g2 ((hf.mv v1).mv v2) (by simp) rfl;obtain⟨T4,a4,v4,g4⟩:=zaX (f:="sender") (v:=.int s) (gs:=[("way",.str way),("bound",.int (b:Nat)),("many",.int (m:Nat)),("sender",.int s)]) g3 (((hf.mv v1).mv v2).mv v3) (by simp) rfl;obtain⟨T5,a5,v5,g5⟩:=zaX (f:="one") (v:=.int one) (gs:=[("way",.str way),("bound",.int (b:Nat)),("many",.int (m:Nat)),("sender",.int s),("one",.int one)]) g4 ((((hf.mv v1).mv v2).mv v3).mv v4) (by simp) rfl;obtain⟨T6,a6,v6,g6⟩:=zaX (f:="other") (v:=.int other) (gs:=rf way (b:Nat) (m:Nat) s one other) g5 (((((hf.mv v1).mv v2).mv v3).mv v4).mv v5) (by simp) rfl;have q6:=q T6 (((((v1.trans v2).trans v3).trans v4).trans v5).trans v6) (by rw[zaN a6,zaN a5,zaN a4,zaN a3,zaN a2,zaN a1]) g6;rw[zkq];generalize hr:(CS.asg 7 iHd iTl)=rest at q6⊢;left;specialize(zsm (n:=n+6) k.w);left;exists a1;left;specialize zjp (n:=n+8) (i:=(b:Nat)) (lo:=1) (hi:=2) (by lia) (by lia);left;exists a2;left;change by unfold zbM;simp
 left;specialize zjp (n:=n+8) (i:=(m:Nat)) (lo:=3) (hi:=3*(b:Nat)) (by lia) (by lia);left;exists a3;left;specialize zlp (n:=n+7) k.s;left;exists a4;left;specialize zhh (n:=n+7) k.o1;left;exists a5;left;specialize zhh (n:=n+7) k.o2;left;exists a6;left;refine zi5 (by simpa using k.ne) ?_;exact q6
def ze1{S T:R.St}(v:Mv [] S T){N k c:Nat}{m b s w:Int}(h:Hs S N k c m b s w):Hs T N k c m b s w:=⟨λi hi=>⟨v.old _ _ (by simp) (h.a i hi).1,v.old _ _ (by simp) (h.a i hi).2⟩⟩
def zn7{S:R.St}{n a m b:Nat}{s one other:Int}(k:Ok6 "kings" m b s one other)(e:S.get a=Φ (.ins 1 []))(hf:Fr S a)(hk:∀l∈S.lk,l<S.len) :
  W (appW (callF prog (n+11)) 37 [.ref a,.str "kings",.int (m:Nat),.int (b:Nat),.int s,.int one,.int other] S) λd V=>d=.non/\Mv [a] S V/\∃l N wr la,V.get a=Φ (.ins 1 (rf "kings" (b:Nat) (m:Nat) s one other++([("sent",.ref l)]:List (PySem.Str×D))))/\V.get l=Φ (.lst (lets (kr m (b:Nat) s one other N wr la) 1 (1+3*(b+1)) ((List.range (2*m)).map λj=>(wdP m s one other j,0,[])))):=by
 have b1:=k.b1;have b2:=k.b2;have m3:=k.m3;have mb:=k.mb;have ks:=k.s;refine zbB (F:=c_Ring_init) rfl rfl (wS_W _ ?_);refine zsL k e hf λT v lT g=>?_;have fT:=hf.mv v;have hkT:∀l∈T.lk,l<T.len:=by rw[v.lk,lT];exact hk
 unfold iHd;left;exists zas g;left;exists rfl;left;change rfl;left;refine za8 ((zhJ (n:=n+6) (w:=one) g (by lia) (by lia) (by lia)).mono λd U hU=>?_);obtain⟨rfl,v1,g1,h1,l1⟩:=hU;have gU:=v1.old _ _ (by simp) g;left;exists zas gU;left;exists rfl;left;change rfl;left;refine za8 ((zhJ (n:=n+6) (w:=other) gU (by lia) (by lia) (by lia)).mono λd U2 hU=>?_);obtain⟨rfl,v2,g2,h2,l2⟩:=hU;rw[l1]at g2 h2 l2;have g1':=v2.old _ _ (by simp) g1;have lr:∀(c N:Nat),(refs N c).length=c:=λc N=>by rw[zdp,length_map,ϡ]
 left;exists g1';left;rw[l1];exists g2;left;change by rw[length_append,lr,lr];lia
 have vv:=(v1.trans v2).trans (Mv.push [] U2 (.lst (refs T.len m++refs (T.len+2*m+1) m)));have lU:U2.len=T.len+4*m+2:=by lia
 rw[lU];have H1:=ze1 ((v2).trans (Mv.push [] U2 (.lst (refs T.len m++refs (T.len+2*m+1) m)))) h1;have H2:=ze1 (Mv.push [] U2 (.lst (refs T.len m++refs (T.len+2*m+1) m))) h2;have gp:=zag U2 (.lst (refs T.len m++refs (T.len+2*m+1) m));rw[lU]at gp;have lP:(U2.push (.lst (refs T.len m++refs (T.len+2*m+1) m))).len=T.len+4*m+3:=by rw[plen,lU]
 generalize U2.push (.lst (refs T.len m++refs (T.len+2*m+1) m))=P at vv H1 H2 gp lP⊢;refine zsM (z:=1+3*((b:Nat)+1)) (Ls:=λwr la=>lets (kr m (b:Nat) s one other T.len wr la) 1 (1+3*(b+1)) ((List.range (2*m)).map λj=>(wdP m s one other j,0,[]))) g fT hkT (by lia) (by lia) vv gp lP ⟨_,_,(H1.a 0 (by lia)).1,rfl⟩ (λU wr la vU wi=>?_) λδ V l wr la g1 g2 vV=>⟨rfl,v.trans vV,l,T.len,wr,la,g1,g2⟩;have H1':=ze1 vU H1;have H2':=ze1 vU H2;have fz:T.frz.length<=T.len:=by unfold St.len;lia
 refine zlt (V:=kr m (b:Nat) s one other T.len wr la) (m:=m) (N:=T.len) (c:=1+3*(b+1)) (s:=s) (h0:=λj=>(wdP m s one other j,0,[])) (zkc (by lia) (by lia) (by lia)) rfl rfl (λj=>rfl) rfl rfl rfl rfl (λ_ _ _=>trivial) (vU.old _ _ (by simp) gp) (λj hj=>?_) (le_refl _) ?_ (by rw[vU.frz,vv.frz];exact fz) (by rw[vU.lk,vv.lk];exact hkT) (le_trans vv.len vU.len) (by lia) (by lia);by_cases c:j<m;obtain⟨x,y⟩:=H1'.a j c;rw[zpw (w2:=other) ks.1 c,zsQ c]at x;rw[<-ziX (N:=T.len) c]at x y;exact⟨x,y,le_refl _⟩;obtain⟨x,y⟩:=H2'.a (j-m) (by lia);rw[zpx (w1:=one) ks.1 (by lia) hj,zsR (by lia) hj]at x;rw[<-ziY (N:=T.len) (by lia) hj]at x y;exact⟨x,y,le_refl _⟩;exact⟨wi.w,wi.l,le_trans (by lia) wi.n1,λj hj=>le_trans (by lia) (wi.n2 j hj),wi.n3⟩
def zqn{S:R.St}{n:Nat}{c:Int}(h0:0<=c):∃w:Int,app (callF prog (n+1)) 18 [.int c] S=.ok (.int w) S/\-10^60<w/\w<10^60:=by by_cases c3:c%3=0;refine⟨c/3%5-2,?_,by lia,by lia⟩;refine zaL (F:=zc5) rfl rfl ?_;left;right;left;refine zi4 (by simpa using c3) ?_;left;right;left;right;left;exact zaf rfl ⟨rfl,rfl⟩;refine⟨c/3%(2*10^60-1)-(10^60-1),?_,by lia,by lia⟩;refine zaL (F:=zc5) rfl rfl ?_;left;right;left;refine zi5 (by simpa using c3) ?_;left;right;left;right;left;right;left;right;left;right;left;exact zaf rfl ⟨rfl,rfl⟩
abbrev dTup(way:PySem.Str)(m b:Nat)(s one other:Int):D:=.tup [.str way,.int (m:Nat),.int (b:Nat),.int s,.int one,.int other]
def zn2{S:R.St}{n:Nat}{ns:List Int}:∃way m b s one other,Ok6 way m b s one other/\app (callF prog (n+2)) 19 [.fix (ns.map .int)] S=.ok (dTup way m b s one other) S:=by
 have c0:=zbj ns 0;have c1:=zbj ns 1;obtain⟨w1,e1,l1,u1⟩:=zqn (S:=S.enter) (n:=n) (zbj ns 2);obtain⟨w2,e2,l2,u2⟩:=zqn (S:=S.enter) (n:=n) (zbj ns 3);obtain⟨b,hb⟩:∃b:Nat,(b:Int)=1+zbz ns 0%2:=⟨(1+zbz ns 0%2).toNat,by lia⟩;have q0:0<3*(b:Int)-2:=by lia
 have q1:=Int.emod_nonneg (zbz ns 0/2) (show 3*(b:Int)-2≠0 by lia);have q2:=Int.emod_lt_of_pos (zbz ns 0/2) q0;obtain⟨m,hm⟩:∃m:Nat,(m:Int)=3+zbz ns 0/2%(3*(b:Int)-2):=⟨(3+zbz ns 0/2%(3*(b:Int)-2)).toNat,by lia⟩;have s1:=Int.emod_nonneg (zbz ns 1) (show(m:Int)≠0 by lia);have s2:=Int.emod_lt_of_pos (zbz ns 1) (show 0<(m:Int) by lia);have way:∃way:PySem.Str,(way=("oral":PySem.Str)\/way=("kings":PySem.Str))/\R.atI [D.str "oral",D.str "kings"] (zbz ns 0/8%2)=Φ (.str way):=by
  have:zbz ns 0/8%2=0\/zbz ns 0/8%2=1:=by lia
  rcases this with e|e;exact⟨_,.inl rfl,by rw[e];exact ziU⟩;exact⟨_,.inr rfl,by rw[e];exact zrS⟩
 obtain⟨way,hw,ew⟩:=way;have fin:∀o2:Int,∀δ:Ev,δ=[Φ (.fix (ns.map .int)),Φ (.int (zbz ns 0)),Φ (.int (b:Nat)),Φ (.int (m:Nat)),Φ (.int w1),Φ (.int o2)]->wS (callF prog (n+1)) (.ret (.tup #[.ix (.lst #[.con (D.str "oral"),.con (D.str "kings")]) (.bin .Mod (.bin .FloorDiv J1 Y8) Y2),J3,J2,.bin .Mod (.call 17 0 #[J0,Y1]) J3,J4,J5]) .nil) δ S.enter (λr T=>wFin S r T λa T'=>a=dTup way m b (zbz ns 1%(m:Nat)) w1 o2/\T'=S):=by
  rintro o2 δ rfl;left;right;left;right;left;right;left;exists zag _ _;left;exists ew;left;specialize zdC (n:=n) (ns:=ns) (k:=1);left;change by lia
  left;right;left;refine zaf ?_ ⟨rfl,rfl⟩;rfl
 by_cases c:w2=w1;refine⟨way,m,b,zbz ns 1%(m:Nat),w1,w1+1-2*(if 0<w1 then 1 else 0),⟨hw,by lia,by lia,by lia,by lia,⟨s1,s2⟩,⟨l1,u1⟩,?_,?_⟩,?_⟩
 . split<;>lia
 . split<;>lia
 refine zaL (F:=zcu) rfl rfl ?_;left;specialize zdC (n:=n) (ns:=ns) (k:=0);left;right;left;rw[<-hb];left;right;left;change by unfold zbM;simp
 left;change by lia
 left;rw[<-hm];left;specialize zdC (n:=n) (ns:=ns) (k:=2);left;specialize e1;left;specialize zdC (n:=n) (ns:=ns) (k:=3);left;specialize e2;left;refine zi4 (by simpa using c) ?_;left;have ei:(if decide (0<w1)=Γ then(1:Int) else 0)=if 0<w1 then 1 else 0:=by simp
 change by unfold zbM;simp
 left;exact fin _ _ (by rw[ei];rfl);refine⟨way,m,b,zbz ns 1%(m:Nat),w1,w2,⟨hw,by lia,by lia,by lia,by lia,⟨s1,s2⟩,⟨l1,u1⟩,⟨l2,u2⟩,c⟩,?_⟩;refine zaL (F:=zcu) rfl rfl ?_;left;specialize zdC (n:=n) (ns:=ns) (k:=0);left;right;left;rw[<-hb];left;right;left;change by unfold zbM;simp
 left;change by lia
 left;rw[<-hm];left;specialize zdC (n:=n) (ns:=ns) (k:=2);left;specialize e1;left;specialize zdC (n:=n) (ns:=ns) (k:=3);left;specialize e2;left;refine zi5 (by simpa using c) ?_;left;exact fin _ _ rfl
def zhj{S:R.St}{n m:Nat}{s h:Int}(hm:0<m):app (callF prog (n+1)) 20 [.int (m:Nat),.int s,.int h] S=.ok (.int (gZ (m:Nat) s h)) S:=by
 refine zaL (F:=zd6) rfl rfl ?_;left;change by lia
 left;right;left;refine zaf rfl ⟨?_,rfl⟩;unfold gZ;rw[show h+(m:Nat)-s=h-s+(m:Nat) by lia,Int.add_emod_right]
def zaM{α:Type}{T:R.St}{c:Ev->R.St->Out Bool}{e:Ev->R.St->Out D}{δ:Ev}(g:α->D)(p:α->Bool)(f:α->D)(hc:∀z,c (Φ (g z)::δ) T=.ok (p z) T)(he:∀z,e (Φ (g z)::δ) T=.ok (f z) T) :
  ∀(Zs:List α)(v:Option D),zat [0] c e (Zs.map g) (v::δ) T=.ok ((Zs.filter p).map f) T
 | [],_=>rfl| z::Zs,v=>by rw[Μ,zat];show(c (Φ (g z)::δ) T).bind (λb S1=>if b then(e (Φ (g z)::δ) S1).bind λd S2=>(zat [0] c e (Zs.map g) (Φ (g z)::δ) S2).bind λds S3=>.ok (d::ds) S3 else zat [0] c e (Zs.map g) (Φ (g z)::δ) S1)=_;rw[hc,zaw];cases y:p z with| true=>rw[if_pos rfl,he,zaw,zaM g p f hc he Zs,zaw,List.filter_cons_of_pos (by simpa using y)];rfl| false=>rw[if_neg (by decide),zaM g p f hc he Zs,List.filter_cons_of_neg (by simpa using y)]
def eq_o{cf:CF}{T:R.St}(o:Option Int)(z:Option Int):evT cf (.cmp .Eq J0 J1) [Φ (oD z),Φ (oD o)] T=.ok (decide (z=o)) T:=by
 refine W.eq (wT_W _ ?_);cases z<;>cases o
 all_goals
  left
  first
  |exact⟨by simp,rfl⟩
  |exact wOpt_of rfl ⟨rfl,rfl⟩
abbrev Bst(os:List (Option Int))(i:Nat)(q:Option Int)(c:Nat):Prop:=(q=Ψ/\c=0/\∀u,Φ u∉os.take i)\/∃v,q=Φ v/\c=os.count (Φ v)/\Φ v∈os.take i/\∀u,Φ u∈os.take i->os.count (Φ u)<c\/(os.count (Φ u)=c/\v<=u)
abbrev lsZ(os:List (Option Int))(k:Int):Option Int×Int:=(stZ os k,match stZ os k with|none=>0|some v=>cntZ os (Φ v))
def zpf{os:List (Option Int)}{q:Option Int}{c:Nat}{k:Int}(h:Bst os os.length q c)(hk:1<=k):(if(c:Int)<k then((Ψ,0):Option Int×Int) else(q,(c:Int)))=lsZ os k:=by
 unfold Bst at h;rw[List.take_length]at h;have key:stZ os k=if(c:Int)<k then Ψ else q:=by
  unfold stZ;cases e:zaQ (zad [] os) with
  |nil=>rcases h with⟨rfl,rfl,_⟩|⟨v,_,_,hv,_⟩;simp;have:=tal_mem.mpr (counts_row.mpr ⟨hv,rfl⟩);rw[e]at this;cases this
  |cons r rs=>
   have hr:(r.1,r.2)∈zad [] os:=tal_mem.mp (by rw[e];exact ϋ);obtain⟨r1,r2⟩:=counts_row.mp hr;rcases h with⟨rfl,rfl,hn⟩|⟨v,rfl,rfl,hv,hb⟩;exact absurd r1 (hn _);have row:(v,((os.count (Φ v):Nat):Int))∈zaQ (zad [] os):=tal_mem.mpr (counts_row.mpr ⟨hv,rfl⟩);have e1:r.1=v:=by rw[e]at row;rcases mem_cons.mp row with z|z;rw[<-z];have so:=zh6 os;rw[e]at so;have h1:=(ϣ.mp so).1 _ z;have h2:=hb r.1 r1;dsimp only at h1;lia
   rw[e1]at r2;dsimp only;rw[r2,e1];by_cases c:k<=((os.count (Φ v):Nat):Int);rw[if_pos c,if_neg (by lia)];rw[if_neg c,if_pos (by lia)]
 unfold lsZ;rw[key];by_cases z:(c:Int)<k;rw[if_pos z,if_pos z];rw[if_neg z,if_neg z];rcases h with⟨rfl,rfl,hn⟩|⟨v,rfl,rfl,hv,hb⟩;rfl;rfl
def zkW{os:List (Option Int)}{i:Nat}{q:Option Int}{c:Nat}{o:Option Int}(h:Bst os i q c)(e:os[i]?=Φ o)(hn:∀u,o=Φ u->os.count (Φ u)<c\/(os.count (Φ u)=c/\∀v,q=Φ v->v<=u))(hc:∀u,o=Φ u->q≠Ψ):Bst os (i+1) q c:=by unfold Bst at h⊢;rw[zfq e];rcases h with⟨rfl,rfl,h⟩|⟨v,rfl,e1,h1,h2⟩;refine .inl ⟨rfl,rfl,λu hu=>?_⟩;rcases mem_append.mp hu with hu|hu;exact h u hu;exact hc u (mem_singleton.mp hu).symm rfl;refine .inr ⟨v,rfl,e1,mem_append_left _ h1,λu hu=>?_⟩;rcases mem_append.mp hu with hu|hu;exact h2 u hu;rcases hn u (mem_singleton.mp hu).symm with z|z;exact .inl z;exact .inr ⟨z.1,z.2 v rfl⟩
def zkV{os:List (Option Int)}{i:Nat}{q:Option Int}{c:Nat}{u:Int}(h:Bst os i q c)(e:os[i]?=Φ (Φ u))(hn:c<os.count (Φ u)\/(os.count (Φ u)=c/\∀v,q=Φ v->u<v)):Bst os (i+1) (Φ u) (os.count (Φ u)):=by unfold Bst at h⊢;rw[zfq e];refine .inr ⟨u,rfl,rfl,mem_append_right _ ϋ,λx hx=>?_⟩;rcases mem_append.mp hx with hx|hx;rcases h with⟨rfl,rfl,h⟩|⟨v,rfl,e1,h1,h2⟩;exact absurd hx (h x);have h3:=h2 x hx;rcases hn with z|z;lia;have:=z.2 v rfl;lia;cases mem_singleton.mp hx;exact .inr ⟨rfl,Int.le_refl _⟩
def zfu{n l:Nat}{S:R.St}{os:List (Option Int)}{k:Int}(h:S.get l=Φ (.lst (os.map oD)))(hl:os.length<=1000)(hk:1<=k):app (callF prog (n+1)) 22 [.ref l,.int k] S=.ok (.tup [oD (lsZ os k).1,.int (lsZ os k).2]) S:=by
 refine zaL (F:=zde) rfl rfl ?_;left;refine zbb h ?_;left;refine zay ?_;refine W.mono (zcS (λi δ T=>T.frz=S.frz++S.new/\T.lk=[l]/\∃q c v4 v5,Bst os i q c/\δ=[Φ (.ref l),Φ (.int k),Φ (oD q),Φ (.int (c:Nat)),v4,v5]) (λ_ _=>False) _ 0 _ _ ⟨rfl,rfl,Ψ,0,Ψ,Ψ,.inl ⟨rfl,rfl,by simp⟩,rfl⟩ ?_) ?_;rintro i z δ T hz ⟨t1,t2,q,c,v4,v5,hb,rfl⟩;obtain⟨f0,nw,lk⟩:=T;cases t1;cases t2;rw[zero_add]at hb⊢;rw[getElem?_map]at hz;cases e:os[i]? with
 |none=>rw[e]at hz;exact nS hz
 |some o=>
  rw[e]at hz;cases hz;refine⟨_,rfl,wS_W _ ?_⟩;left;exists zgQ h _ _;left;refine zay ?_;refine W.of (zaM oD (λz=>decide (z=o)) oD (λz=>eq_o o z) (λz=>rfl) os Ψ) ?_;have hn:(((os.filter λz=>decide (z=o)).map oD)).length=os.count o:=by rw[length_map,List.count_eq_length_filter];congr 2;funext z;exact ϙ.mpr (by simp)
  have hle:os.count o<=1000:=le_trans List.count_le_length hl;change by rw[hn];lia
  left;change by rw[hn];lia
  left;exists zag _ _;left;rw[hn];have pos:0<os.count o:=List.count_pos_iff.mpr (mem_of_getElem? e);cases o with
  |none=>left;refine⟨rfl,rfl,q,c,_,_,zkW hb e (λu h=>by exact nS h) (λu h=>by exact nS h),rfl⟩| some u=>
   left;cases z:decide ((c:Int)<((os.count (Φ u):Nat):Int)) with
   |true=>
    have z:(c:Int)<((os.count (Φ u):Nat):Int):=by simpa using z
    left;exact⟨rfl,rfl,Φ u,os.count (Φ u),_,_,zkV hb e (.inl (by lia)),rfl⟩
   |false=>
    have z:¬(c:Int)<((os.count (Φ u):Nat):Int):=by simpa using z
    left;cases y:decide (((os.count (Φ u):Nat):Int)=(c:Int)) with
    |false=>
     have y:¬((os.count (Φ u):Nat):Int)=(c:Int):=by simpa using y
     left;exact⟨rfl,rfl,q,c,_,_,zkW hb e (λx hx=>by cases hx;exact .inl (by lia)) (λx hx hq=>by rcases hb with⟨_,hc,_⟩|⟨v,hv,_⟩;lia;rw[hq]at hv;exact nS hv),rfl⟩
    |true=>
     have y:((os.count (Φ u):Nat):Int)=(c:Int):=by simpa using y
     obtain⟨v,rfl⟩:∃v,q=Φ v:=by rcases hb with⟨_,hc,_⟩|⟨v,hv,_⟩;lia;exact⟨v,hv⟩
     left;cases x:decide (u<v) with
     |true=>
      have x:u<v:=by simpa using x
      left;exact⟨rfl,rfl,Φ u,os.count (Φ u),_,_,zkV hb e (.inr ⟨by lia,λv' hv=>by cases hv;exact x⟩),rfl⟩
     |false=>
      have x:¬u<v:=by simpa using x
      left;exact⟨rfl,rfl,Φ v,c,_,_,zkW hb e (λx hx=>by cases hx;exact .inr ⟨by lia,λv' hv=>by cases hv;lia⟩) (λx hx hq=>by cases hq),rfl⟩
 intro f T hf;cases f with
 |rt d=>exact hf.elim| nx δ=>
  obtain⟨t1,t2,q,c,v4,v5,hb,rfl⟩:=hf;rw[zero_add,length_map]at hb;have fin:=zpf hb hk;left;refine zch (λz=>?_) (λz=>?_);rw[if_pos z]at fin;left;right;left;refine zaf rfl ⟨?_,?_⟩;rw[<-fin];rfl;rfl;rw[if_neg z]at fin;left;right;left;refine zaf ?_ ⟨?_,?_⟩
  . cases q<;>rfl
  rw[<-fin];rfl
def zn0{S:R.St}{n m:Nat}{s o:Int}{p:Nat}(hm:0<m)(h7:m<=7)(hp:p<2*m):app (callF prog (n+2)) 21 [.int (m:Nat),.int s,.int (p:Nat),.int o] S=.ok (.int (plZ (m:Nat) s (p:Nat) o)) S:=by
 refine zaL (F:=zex) rfl rfl ?_;left;change by lia
 left;specialize zhj (n:=n) hm;left;specialize zhj (n:=n) hm;left;right;left;right;left;have g0:=zag S.enter (.lst [D.int (gZ (m:Nat) s ((p:Nat)%(m:Nat))),D.int (gZ (m:Nat) s o)]);exists zgT (xs:=[gZ (m:Nat) s ((p:Nat)%(m:Nat)),gZ (m:Nat) s o]) (ys:=[1,2]) (zaj g0) (zag _ _);have d0:(p:Int)/(m:Nat)=0\/(p:Int)/(m:Nat)=1:=by have h1:(0:Int)<=(p:Int)/(m:Nat):=Int.ediv_nonneg (by lia) (by lia);have h2:(p:Int)/(m:Nat)<2:=Int.ediv_lt_of_lt_mul (by lia) (by lia);lia
 unfold plZ;refine zdh (λc=>?_) (λc=>?_);have c:=of_decide_eq_true c;rw[if_pos (.inl (by simpa using c))];left;change by lia
 left;change by unfold zbM;simp;lia
 left;exact zaf rfl ⟨rfl,rfl⟩;have c:=of_decide_eq_false c;left;right;left;exists zgT (xs:=[gZ (m:Nat) s ((p:Nat)%(m:Nat)),gZ (m:Nat) s o]) (ys:=[2,1]) (zaj (zaj g0)) (zag _ _);refine zdh (λc2=>?_) (λc2=>?_);have c2:=of_decide_eq_true c2;rw[if_pos (.inr (by simpa using c2))];left;change by lia
 left;change by unfold zbM;simp;lia
 left;exact zaf rfl ⟨rfl,rfl⟩;have c2:=of_decide_eq_false c2;rw[if_neg (by simp at c c2⊢;lia)];left;change by lia
 left;change by unfold zbM;simp;lia
 left;exact zaf rfl ⟨rfl,rfl⟩
def zjm{S:R.St}{n m:Nat}{s t h:Int}(hm:0<m)(h0:0<=h)(h1:h<(m:Nat)):app (callF prog (n+1)) 23 [.int t,.int (m:Nat),.int s,.int h] S=.ok (.bl (decide (h∈wrZ (m:Nat) s t))) S:=by
 refine zaL (F:=zdd) rfl rfl ?_;left;unfold wrZ;refine zch (λc=>?_) (λc=>?_);rw[if_pos c];left;exact zaf rfl ⟨by simp,rfl⟩;rw[if_neg c];left;right;left;refine zdh (λd=>?_) (λd=>?_);have d:¬t%3=1:=by simpa using d
 rw[if_neg (by lia)];left;refine zaf rfl ⟨?_,rfl⟩;rw[decide_eq_true];exact mem_map.mpr ⟨h.toNat,mem_range.mpr (by lia),by lia⟩;have d:t%3=1:=by simpa using d
 rw[if_pos (by lia)];left;right;left;change by lia
 left;exact zaf rfl ⟨by simp[zaS],rfl⟩
abbrev rowP(m:Nat)(s t:Int)(j:Nat)(h:Option Int):List Row:=(toL (m:Nat) (hnZ m j) (decide (hnZ m j∈wrZ (m:Nat) s t))).map λo=>⟨[hnZ m j],plZ (m:Nat) s (j:Nat) o,oD h⟩
abbrev dueR(m:Nat)(s t:Int):Nat->List (Option Int)->List Row
 |_,[]=>[]|k,h::hs=>rowP m s t k h++dueR m s t (k+1) hs
def zbD(m:Nat)(b s w1 w2:Int)(N wr:Nat)(la:Nat->Nat)(t:Int):∀(hs:List Kh)(k:Nat),(kr m b s w1 w2 N wr la).said t k hs=dueR m s t k (hs.map (·.1))
 | [],_=>rfl| h::hs,k=>by show((kr m b s w1 w2 N wr la).say k t h).map ((kr m b s w1 w2 N wr la).go k)++(kr m b s w1 w2 N wr la).said t (k+1) hs=_;rw[zbD m b s w1 w2 N wr la t hs (k+1)];show((toL _ _ _).map _).map _++_=rowP m s t k h.1++_;rw[map_map];rfl
noncomputable abbrev Eu(t:Int)(m:Nat)(s:Int)(hl l:Nat)(a b:Option D):Ev:=[Φ (.int t),Φ (.int (m:Nat)),Φ (.int s),Φ (.ref hl),Φ (.ref l),a,b]
abbrev uIn:CS:=.ifS (.cmp .NotEq J6 (.bin .Mod J5 J1)) (.expr (.mt .append J4 #[.tup #[J0,.tup #[.bin .Mod J5 J1],.call 21 0 #[J1,J2,J5,J6],.ix J3 J5]]) .nil) .nil .nil
abbrev uOut:CS:=.ifS (.tst (.call 23 0 #[J0,J1,J2,.bin .Mod J5 J1])) (.forS [6] (.rng1 J1) uIn .nil) .nil .nil
def zml:c_law_due.body=.asg 4 (.lst .nil) (.forS [5] (.rng1 (.bin .Mult Y2 J1)) uOut (.ret (.srtN 25 J4) .nil)):=rfl
def zkJ{n m j hl l:Nat}{s t:Int}{h:Option Int}{Hs:List (Option Int)}(hm:0<m)(h7:m<=7)(hj:j<2*m)(ne:hl≠l)(hh:Hs[j]?=Φ h):∀(os:List Int)(acc:List Row)(T:R.St)(b:Option D),T.get l=Φ (.lst (acc.map (leD t)))->T.get hl=Φ (.lst (Hs.map oD))->Fr T l->acc.length+os.length<=1000->
  W (zaI [6] (exS (callF prog (n+2)) uIn) (os.map D.int) (Eu t m s hl l (Φ (.int (j:Nat))) b) T) λf U=>(∃b,f=.nx (Eu t m s hl l (Φ (.int (j:Nat))) b))/\U.get l=Φ (.lst ((acc++(os.filter λo=>!decide (o=hnZ m j)).map λo=>(⟨[hnZ m j],plZ (m:Nat) s (j:Nat) o,oD h⟩:Row)).map (leD t)))/\Mv [l] T U
 | [],acc,T,b,h1,h2,h3,h4=>by show W (Out.ok (Fl.nx _) T) _;rw[W_ok];exact⟨⟨b,rfl⟩,by simpa using h1,Mv.refl _ _⟩| o::os,acc,T,b,h1,h2,h3,h4=>by
  simp only[Χ]at h4;show W (Out.bind (exS (callF prog (n+2)) uIn (Eu t m s hl l (Φ (.int (j:Nat))) (Φ (.int o))) T) _) _;rw[zab];have eh:((j:Nat):Int)%(m:Nat)=hnZ m j:=by unfold hnZ;lia
  refine wS_W _ ?_;left;change by lia
  left;rw[eh];refine zdh (λc=>?_) (λc=>?_);have c:¬o=hnZ m j:=by simpa using c
  left;exists h1;left;change by lia
  left;rw[eh];right;left;specialize zn0 (n:=n) hm h7 hj;left;exists h2;left;exists zb5 (x:=oD h) (by rw[getElem?_map,hh];rfl);left;right;left;exists h1;left;change by simp;lia
  left;obtain⟨U,hU,mU,gU⟩:=zcE (u:=.lst ((acc++[(⟨[hnZ m j],plZ (m:Nat) s (j:Nat) o,oD h⟩:Row)]).map (leD t))) h3 h1;refine wOpt_of (a:=U) (by rw[<-hU,map_append];rfl) ?_;left;refine(zkJ hm h7 hj ne hh os _ U _ gU (mU.old _ _ (by simpa using ne) h2) (h3.mv mU) (by simp;lia)).mono λf V hV=>?_;obtain⟨g1,g2,g3⟩:=hV;refine⟨g1,?_,mU.trans g3⟩;rw[g2,List.filter_cons_of_pos (by simpa using c),append_assoc];rfl;have c:o=hnZ m j:=by simpa using c
  left;refine(zkJ hm h7 hj ne hh os acc T _ h1 h2 h3 (by lia)).mono λf V hV=>?_;obtain⟨g1,g2,g3⟩:=hV;refine⟨g1,?_,g3⟩;rw[g2,List.filter_cons_of_neg (by simpa using c)]
def zhm(m:Nat)(s t:Int)(j:Nat)(h:Option Int)(m7:m<=7):(rowP m s t j h).length<=7:=by unfold rowP;rw[length_map];exact znq (by lia)
def zhR(m:Nat)(s t:Int)(m7:m<=7):∀(hs:List (Option Int))(k:Nat),(dueR m s t k hs).length<=7*hs.length
 | [],_=>by simp[dueR]| h::hs,k=>by have h1:=zhm m s t k h m7;have h2:=zhR m s t m7 hs (k+1);simp only[dueR,length_append,Χ];lia
def zo9{n m j hl l:Nat}{s t:Int}{h:Option Int}{Hs:List (Option Int)}{acc:List Row}{T:R.St}{b:Option D}(hm:0<m)(h7:m<=7)(hj:j<2*m)(ne:hl≠l)(hh:Hs[j]?=Φ h)(h1:T.get l=Φ (.lst (acc.map (leD t))))(h2:T.get hl=Φ (.lst (Hs.map oD)))(h3:Fr T l)(h4:acc.length<=900) :
  W (exS (callF prog (n+2)) uOut (Eu t m s hl l (Φ (.int (j:Nat))) b) T) λf U=>(∃b,f=.nx (Eu t m s hl l (Φ (.int (j:Nat))) b))/\U.get l=Φ (.lst ((acc++rowP m s t j h).map (leD t)))/\Mv [l] T U:=by
 have eh:((j:Nat):Int)%(m:Nat)=hnZ m j:=by unfold hnZ;lia
 have lt:j%m<m:=Nat.mod_lt _ hm;unfold uOut;refine wS_W _ ?_;left;change by lia
 left;rw[eh];specialize zjm (n:=n+1) (t:=t) (s:=s) hm (by unfold hnZ;lia) (by unfold hnZ;lia);left;unfold rowP toL;cases c:decide (hnZ m j∈wrZ (m:Nat) s t) with
 |true=>
  left;right;left;refine zay ?_;have er:(List.range ((m:Nat):Int).toNat).map (λ(k:Nat)=>D.int k)=(Kz.rg (m:Nat)).map D.int:=by unfold Kz.rg;rw[map_map];rfl
  rw[er];have lr:(Kz.rg (m:Nat)).length<=7:=by unfold Kz.rg;simp;lia
  refine(zkJ (n:=n) hm h7 hj ne hh (Kz.rg (m:Nat)) acc {T with lk:=[]++T.lk} b h1 h2 ⟨h3.f,h3.k⟩ (by lia)).mono λf V hV=>?_;obtain⟨⟨b',rfl⟩,g2,g3⟩:=hV;left;exact⟨⟨b',rfl⟩,g2,g3.lock⟩
 |false=>left;exact⟨⟨b,rfl⟩,by simpa using h1,Mv.refl _ _⟩
def zhQ{n m hl l:Nat}{s t:Int}{Hs:List (Option Int)}(hm:0<m)(h7:m<=7)(ne:hl≠l)(hH:Hs.length=2*m):∀(c k:Nat)(acc:List Row)(T:R.St)(a b:Option D),k+c=2*m->T.get l=Φ (.lst (acc.map (leD t)))->T.get hl=Φ (.lst (Hs.map oD))->Fr T l->acc.length<=7*k->
  W (zaI [5] (exS (callF prog (n+2)) uOut) (intD k c) (Eu t m s hl l a b) T) λf U=>(∃a b,f=.nx (Eu t m s hl l a b))/\U.get l=Φ (.lst ((acc++dueR m s t k (Hs.drop k)).map (leD t)))/\Mv [l] T U
 |0,k,acc,T,a,b,hk,h1,h2,h3,h4=>by show W (Out.ok (Fl.nx _) T) _;rw[W_ok];refine⟨⟨a,b,rfl⟩,?_,Mv.refl _ _⟩;rw[List.drop_eq_nil_of_le (by lia)];simpa[dueR]using h1| c+1,k,acc,T,a,b,hk,h1,h2,h3,h4=>by
  show W (Out.bind (exS (callF prog (n+2)) uOut (Eu t m s hl l (Φ (.int (k:Nat))) b) T) _) _;rw[zab];have hlt:k<Hs.length:=by lia
  have hh:=getElem?_eq_getElem hlt;refine(zo9 (n:=n) hm h7 (by lia) ne hh h1 h2 h3 (by lia)).mono λf U hU=>?_;obtain⟨⟨b',rfl⟩,g2,g3⟩:=hU;have hr:=zhm m s t k Hs[k] h7;refine(zhQ hm h7 ne hH c (k+1) _ U _ _ (by lia) g2 (g3.old _ _ (by simpa using ne) h2) (h3.mv g3) (by rw[length_append];lia)).mono λf V hV=>?_;obtain⟨e1,e2,e3⟩:=hV;refine⟨e1,?_,g3.trans e3⟩;rw[e2,drop_at hh,dueR,append_assoc]
abbrev keyT(t:Int)(r:Row):K3:=(t,r.p,r.to)
def zoW{n:Nat}{t b:Int}{ds:List D}{w:D}{S:R.St}:callF prog (n+1) 25 [.tup [.int t,.tup ds,.int b,w]] S=.ok (.tup [.int t,.tup ds,.int b]) S:=by refine W.eq (zrJ (F:=zd5) rfl rfl ?_);left;right;left;exact⟨rfl,rfl⟩
def zl1{n:Nat}{t:Int}{r:Row}{x:Option Int}(h:r.w=oD x):let3 (callF prog (n+1)) 25 (leD t r)=Φ (keyT t r):=by obtain⟨p,to,w⟩:=r;cases h;unfold let3 leD;dsimp only;rw[if_pos (by cases x<;>rfl),zcf,Ϟ,zoW,if_pos];rfl;unfold key3;dsimp only;exact decide_eq_true ⟨rfl,rfl,zcf p,rfl⟩
def zrj{n:Nat}{t:Int}:∀{rs:List Row},(∀r∈rs,∃x:Option Int,r.w=oD x)->(rs.map (leD t)).mapM (let3 (callF prog (n+1)) 25)=Φ (rs.map (keyT t))
 | [],_=>rfl| r::rs,h=>by obtain⟨x,hx⟩:=h r (by simp);rw[Μ,ϛ,zl1 hx,zrj λr hr=>h r (by simp[hr])];rfl
abbrev shf(t:Int)(k:K3):K3:=(t,k.2.1,k.2.2)
def zp5{t:Int}{x y:K3}(hx:x.1=0)(hy:y.1=0):Lt3 x y->Lt3 (shf t x) (shf t y):=by rintro(h|⟨_,h⟩);rw[hx,hy]at h;exact absurd h (by decide);exact .inr ⟨rfl,h⟩
def zhC{α:Type}{t:Int}{k:K3}(hk:k.1=0):∀{ks:List K3}{ds:List α},(∀x∈ks,x.1=0)->((ks.map (shf t)).zip ds).lookup (shf t k)=(ks.zip ds).lookup k
 | [],ds,_=>rfl|x::ks,[],_=>rfl| x::ks,d::ds,h=>by
  have hx:=h x (by simp);rw[Μ,ϐ,ϐ,ϓ,ϓ,zhC hk λy hy=>h y (by simp[hy])];have:(shf t k==shf t x)=(k==x):=by apply ϙ.mpr;rw[beq_iff_eq,beq_iff_eq];obtain⟨k1,k2,k3⟩:=k;obtain⟨x1,x2,x3⟩:=x;dsimp only at hk hx;subst hk hx;simp[shf]
  rw[this]
def znF{t:Int}{rs:List Row}(nd:(rs.map key).Nodup):srtD (rs.map (leD t)) (rs.map (keyT t))=(srtR rs).map (leD t):=by
 have z:∀x∈rs.map key,x.1=0:=λx hx=>by obtain⟨r,_,rfl⟩:=mem_map.mp hx;rfl
 have ek:rs.map (keyT t)=(rs.map key).map (shf t):=by rw[map_map];rfl
 have z2:∀x∈zeL (rs.map key),x.1=0:=λx hx=>z x ((zaP _).mem_iff.mp hx);have nd2:((rs.map key).map (shf t)).Nodup:=by rw[List.nodup_iff_pairwise_ne,Ϙ];refine nd.imp_of_mem λ{a b} ha hb ne e=>ne ?_;have h1:=z a ha;have h2:=z b hb;unfold shf at e;simp only[Prod.mk.injEq,true_and]at e;exact Prod.ext (h1.trans h2.symm) (Prod.ext e.1 e.2)
 have es:zeL ((rs.map key).map (shf t))=(zeL (rs.map key)).map (shf t):=by refine zcm ((zaP _).trans ((zaP _).map _).symm) (zbh nd2) ?_;rw[Ϙ];exact(zbh nd).imp_of_mem λha hb h=>zp5 (z2 _ ha) (z2 _ hb) h
 rw[<-zhe nd];unfold srtD;rw[ek,es,map_map];refine Ρ λk hk=>?_;exact congrArg (λo:Option D=>o.getD .non) (zhC (z2 k hk) z)
def zmR{m:Nat}{s t:Int}{j:Nat}{h:Option Int}{r:Row}(hr:r∈rowP m s t j h):r.w=oD h/\r.p=[hnZ m j]:=by unfold rowP at hr;obtain⟨o,_,rfl⟩:=mem_map.mp hr;exact⟨rfl,rfl⟩
def zf5{m:Nat}{s t:Int}:∀{hs:List (Option Int)}{k:Nat}{r:Row},r∈dueR m s t k hs->∃x:Option Int,r.w=oD x
 | [],k,r,h=>by cases h| h::hs,k,r,hr=>by rcases mem_append.mp hr with hr|hr;exact⟨h,(zmR hr).1⟩;exact zf5 hr
def zhP{m:Nat}{s t:Int}{Hs:List (Option Int)}(m1:1<=m)(m6:m<=6)(hH:Hs.length=2*m):((dueR m s t 0 Hs).map key).Nodup:=by obtain⟨zs,z1,z2⟩:∃zs:List Kh,zs.length=2*m/\zs.map (·.1)=Hs:=⟨Hs.map λh=>(h,0,[]),by rw[length_map,hH],by rw[map_map];exact List.map_id _⟩;have:=(zkc (m:=m) (b:=0) (s:=s) (w1:=0) (w2:=0) (N:=0) (wr:=0) (la:=λ_=>0) m1 m6 (by decide)).unl t zs trivial z1;rw[zbD,z2]at this;exact this
def zso{S:R.St}{n m hl:Nat}{s t:Int}{Hs:List (Option Int)}(m1:1<=m)(m6:m<=6)(hH:Hs.length=2*m)(h2:S.get hl=Φ (.lst (Hs.map oD))) :
  app (callF prog (n+3)) 24 [.int t,.int (m:Nat),.int s,.ref hl] S=.ok (.ref S.len) (S.push (.lst ((srtR (dueR m s t 0 Hs)).map (leD t)))):=by
 refine zrT (F:=c_law_due) rfl rfl ?_;rw[zml];show W (Out.bind _ _) _;rw[zab];have e3:evE (callF prog (n+2)) (.lst .nil) (zaG c_law_due [.int t,.int (m:Nat),.int s,.ref hl]) S.enter=.ok (.ref S.enter.len) (S.enter.push (.lst [])):=by rfl
 rw[e3,W_ok];have lh:=get_lt h2;have ne:hl≠S.enter.len:=by rw[R.enter_len];lia
 have el:evL (callF prog (n+2)) (.rng1 (.bin .Mult Y2 J1)) (Eu t m s hl S.enter.len Ψ Ψ) (S.enter.push (.lst []))=.ok (intD 0 (2*m),[]) (S.enter.push (.lst [])):=by
  generalize hd:Eu t m s hl S.enter.len Ψ Ψ=δ;refine W.eq (wL_W _ ?_);subst hd;left;change by unfold zbM;simp
  left;right;left;refine⟨?_,rfl⟩;rw[<-zdo (2*m)];rfl
 show W (exS (callF prog (n+2)) (.forS [5] (.rng1 (.bin .Mult Y2 J1)) uOut (.ret (.srtN 25 J4) .nil)) (Eu t m s hl S.enter.len Ψ Ψ) (S.enter.push (.lst []))) _;generalize hd:Eu t m s hl S.enter.len Ψ Ψ=δ at el⊢;refine zcM el ?_;subst hd;have f1:Fr ({S.enter.push (.lst []) with lk:=[]++(S.enter.push (.lst [])).lk}:R.St) S.enter.len:=⟨by show(S.frz++S.new).length<=_;rw[zfa,R.enter_len];exact le_refl _,rfl⟩;refine(zhQ (n:=n) (s:=s) (t:=t) (by lia) (by lia) ne hH (2*m) 0 [] {S.enter.push (.lst []) with lk:=[]++(S.enter.push (.lst [])).lk} Ψ Ψ (by lia) (zag _ _) (zaj (by rw[za4];exact h2)) f1 (by simp)).mono λf U hU=>?_;obtain⟨⟨a,b,rfl⟩,g2,v⟩:=hU;dsimp only;rw[List.nil_append,List.drop_zero]at g2;have nd:=zhP (s:=s) (t:=t) m1 m6 hH;have dl:=zhR m s t (by lia) Hs 0;have sl:=(zaC nd).length_eq;refine W.mono (wS_W (.ret (.srtN 25 J4) .nil) (Q:=λr T=>wFin S r T λa T'=>a=.ref S.len/\T'=S.push (.lst ((srtR (dueR m s t 0 Hs)).map (leD t)))) ?_) λr T z=>z;have ee:zlZ (callF prog (n+2)) 25 ({U with lk:=(S.enter.push (.lst [])).lk}:R.St) (.ref S.enter.len)=Φ ((dueR m s t 0 Hs).map (leD t),(dueR m s t 0 Hs).map (keyT t)):=by unfold zlZ ziE;dsimp only;rw[show({U with lk:=(S.enter.push (.lst [])).lk}:R.St).get S.enter.len=_ from g2];dsimp only;rw[zrj (n:=n+1) λr hr=>zf5 hr];rfl
 left;exists ee;left;have ndt:((dueR m s t 0 Hs).map (keyT t)).Nodup:=by rw[List.nodup_iff_pairwise_ne,Ϙ];have:=nd;rw[List.nodup_iff_pairwise_ne,Ϙ]at this;refine this.imp λ{a b} h e=>h ?_;simp only[keyT,key,Prod.mk.injEq,true_and]at e⊢;exact e
 change⟨by rw[length_map];lia,ndt⟩;left;rw[znF nd];left;change by rw[length_map];lia
 left;refine zfo ?_ (zag _ _) ?_ ⟨rfl,rfl⟩;have:=v.len;rw[show({U with lk:=(S.enter.push (.lst [])).lk}:R.St).len=U.len from rfl];have h9:({S.enter.push (.lst []) with lk:=[]++(S.enter.push (.lst [])).lk}:R.St).len=S.len+1:=by show(S.enter.push (.lst [])).len=_;rw[plen,R.enter_len]
 lia;rw[zby];intro d hd;obtain⟨r,hr,rfl⟩:=mem_map.mp hd;obtain⟨x,hx⟩:=zf5 ((zaC nd).mem_iff.mp hr);unfold leD;rw[hx];have h8:=zkB S.len r.p;have h9:=zo5 S.len x;simp[flat,flats,h8,h9]
abbrev nxZ(m b t:Int)(h:Option Int)(k own:Int)(cs:List (Option Int)):Option Int×Int:=
 if t=1 then(h,0) else if t%3=2 then((lsZ (h::cs) (m-b)).1,0) else if t%3=0 then lsZ (h::cs) (b+1)
 else if(h.isSome&&decide (m-b<=k))=Γ then(h,k) else(Φ ((if own≠zaS m t then(cs[0]?).join else h).getD 0),k)
def zjn{S:R.St}{n lc:Nat}{m b s t k own:Int}{h:Option Int}{cs:List (Option Int)}(hg:S.get lc=Φ (.lst (cs.map oD)))(hl:cs.length<=60)(hm:0<m)(hb:0<=b)(mb:1<=m-b)(hne:t%3=1->t≠1->own≠zaS m t->∃c,cs[0]?=Φ c) :
  app (callF prog (n+2)) 26 [.int t,.int m,.int b,.int s,.tup [oD h,.int k],.int own,.ref lc] S=.ok (.tup [oD (nxZ m b t h k own cs).1,.int (nxZ m b t h k own cs).2]) S:=by
 have ge:S.enter.get lc=Φ (.lst (cs.map oD)):=by rw[za4];exact hg
 have fl:∀(o:Option Int)(i:Int),flat S.len (.tup [oD o,.int i])=Γ:=λo i=>by cases o<;>rfl
 refine zaL (F:=zew) rfl rfl ?_;unfold nxZ;left;exists rfl;left;refine zch (λc1=>?_) (λc1=>?_);rw[if_pos c1];left;right;left;exact zaf (fl _ _) ⟨rfl,rfl⟩;rw[if_neg c1];left;right;left;refine zch (λc2=>?_) (λc2=>?_);rw[if_pos c2];left;right;left;have g1:=zag S.enter (.lst [oD h]);exists g1;left;exists zaj ge;left;change by simp;lia
 left;specialize zfu (n:=n) (os:=h::cs) (k:=m-b) (zag _ _) (by simp;lia) mb;left;exists ziU;left;right;left;exact zaf (fl _ _) ⟨rfl,rfl⟩;rw[if_neg c2];left;right;left;refine zch (λc3=>?_) (λc3=>?_);rw[if_pos c3];left;right;left;have g1:=zag S.enter (.lst [oD h]);exists g1;left;exists zaj ge;left;change by simp;lia
 left;specialize zfu (n:=n) (os:=h::cs) (k:=b+1) (zag _ _) (by simp;lia) (by lia);left;exact zaf (fl _ _) ⟨rfl,rfl⟩;rw[if_neg c3];have fin:∀(x:Option Int)(δ:Ev),δ=[Φ (.int t),Φ (.int m),Φ (.int b),Φ (.int s),Φ (.tup [oD h,.int k]),Φ (.int own),Φ (.ref lc),Φ (oD h),Φ (.int k),Φ (oD x)]->wS (callF prog (n+1)) (.ifS (.cmp .Is J9 (.con D.non)) (.asg 9 Y0 .nil) .nil (.ret (.tup #[J9,J8]) .nil)) δ S.enter (λr T=>wFin S r T λa T'=>a=.tup [oD (Φ (x.getD 0)),.int k]/\T'=S):=by rintro x δ rfl;cases x with| none=>left;right;left;exact zaf rfl ⟨rfl,rfl⟩| some v=>left;right;left;exact zaf rfl ⟨rfl,rfl⟩
 have go:(h.isSome&&decide (m-b<=k))=Δ->wS (callF prog (n+1)) (.asg 9 J7 (.ifS (.cmp .NotEq J5 (.bin .Mod (.bin .FloorDiv (.bin .Sub J0 Y2) Y3) J1)) (.asg 9 (.ix J6 Y0) .nil) .nil (.ifS (.cmp .Is J9 (.con D.non)) (.asg 9 Y0 .nil) .nil (.ret (.tup #[J9,J8]) .nil)))) [Φ (.int t),Φ (.int m),Φ (.int b),Φ (.int s),Φ (.tup [oD h,.int k]),Φ (.int own),Φ (.ref lc),Φ (oD h),Φ (.int k),Ψ] S.enter (λr T=>wFin S r T λa T'=>a=.tup [oD (Φ ((if own≠zaS m t then(cs[0]?).join else h).getD 0)),.int k]/\T'=S):=by
  intro _;generalize hr:(CS.ifS (.cmp .Is J9 (.con D.non)) (.asg 9 Y0 .nil) .nil (.ret (.tup #[J9,J8]) .nil))=rest at fin⊢;left;right;left;change by lia
  left;refine zdh (λc5=>?_) (λc5=>?_);have c5:own≠zaS m t:=by unfold zaS;simpa using c5
  rw[if_pos c5];obtain⟨c,hc⟩:=hne (by lia) c1 c5;left;exists ge;left;exists zb5 (k:=0) (x:=oD c) (by rw[getElem?_map,hc];rfl);left;rw[hc];exact fin c _ rfl;have c5:own=zaS m t:=by unfold zaS;simpa using c5
  rw[if_neg (λz=>z c5)];left;exact fin h _ rfl
 cases h with| none=>rw[if_neg (by simp)];left;exact go rfl| some v=>left;refine zch (λc4=>?_) (λc4=>?_);rw[if_pos (by simpa using c4)];left;right;left;exact zaf (fl _ _) ⟨rfl,rfl⟩;rw[if_neg (by simpa using c4)];left;exact go (by simpa using c4)
def zqJ{m p o:Nat}{s:Int}(hm:0<m)(hp:p<2*m)(ho:o<m):∃q:Nat,q<2*m/\plZ (m:Nat) s (p:Nat) (o:Nat)=(q:Nat)/\plZ (m:Nat) s (q:Nat) ((p:Nat)%(m:Nat))=(p:Nat):=by
 have hd:((p:Nat):Int)/(m:Nat)=0\/((p:Nat):Int)/(m:Nat)=1:=by have h1:=Int.ediv_nonneg (show(0:Int)<=(p:Nat) by lia) (show(0:Int)<=(m:Nat) by lia);have h2:((p:Nat):Int)/(m:Nat)<2:=Int.ediv_lt_of_lt_mul (by lia) (by lia);lia
 have hpm:=Int.mul_ediv_add_emod (p:Nat) (m:Nat);have key:∀d:Nat,d<=1->((d*m+o:Nat):Int)/(m:Nat)=(d:Nat)/\((d*m+o:Nat):Int)%(m:Nat)=(o:Nat):=λd _=>by
  have e:((d*m+o:Nat):Int)=(o:Nat)+(d:Nat)*(m:Nat):=by rw[Int.natCast_add,Int.natCast_mul];lia
  rw[e];exact⟨by rw[Int.add_mul_ediv_right _ _ (by lia),Int.ediv_eq_zero_of_lt (by lia) (by lia)];lia,by rw[Int.add_mul_emod_self_right];exact Int.emod_eq_of_lt (by lia) (by lia)⟩
 have bnd:∀d:Nat,d<=1->d*m+o<2*m:=λd h=>by have:d*m<=1*m:=Nat.mul_le_mul_right m h;lia
 have mk:∀d:Nat,d<=1->plZ (m:Nat) s (p:Nat) (o:Nat)=((d*m+o:Nat):Int)->((if(gZ (m:Nat) s (o:Nat)=1/\gZ (m:Nat) s ((p:Nat)%(m:Nat))=2)\/(gZ (m:Nat) s (o:Nat)=2/\gZ (m:Nat) s ((p:Nat)%(m:Nat))=1) then 1-((d:Nat):Int) else(d:Nat))=((p:Nat):Int)/(m:Nat))->∃q:Nat,q<2*m/\plZ (m:Nat) s (p:Nat) (o:Nat)=(q:Nat)/\plZ (m:Nat) s (q:Nat) ((p:Nat)%(m:Nat))=(p:Nat):=λd hd1 e1 e2=>by refine⟨d*m+o,bnd d hd1,e1,?_⟩;obtain⟨k1,k2⟩:=key d hd1;unfold plZ;rw[k1,k2,e2,Int.mul_comm];exact hpm
 by_cases c:(gZ (m:Nat) s ((p:Nat)%(m:Nat))=1/\gZ (m:Nat) s (o:Nat)=2)\/(gZ (m:Nat) s ((p:Nat)%(m:Nat))=2/\gZ (m:Nat) s (o:Nat)=1);have c':(gZ (m:Nat) s (o:Nat)=1/\gZ (m:Nat) s ((p:Nat)%(m:Nat))=2)\/(gZ (m:Nat) s (o:Nat)=2/\gZ (m:Nat) s ((p:Nat)%(m:Nat))=1):=by lia
 rcases hd with h|h;refine mk 1 (by lia) ?_ (by rw[if_pos c',h];rfl);unfold plZ;rw[if_pos c,h];lia;refine mk 0 (by lia) ?_ (by rw[if_pos c',h];rfl);unfold plZ;rw[if_pos c,h];lia;have c':¬((gZ (m:Nat) s (o:Nat)=1/\gZ (m:Nat) s ((p:Nat)%(m:Nat))=2)\/(gZ (m:Nat) s (o:Nat)=2/\gZ (m:Nat) s ((p:Nat)%(m:Nat))=1)):=by lia
 rcases hd with h|h;refine mk 0 (by lia) ?_ (by rw[if_neg c',h];rfl);unfold plZ;rw[if_neg c,h];lia;refine mk 1 (by lia) ?_ (by rw[if_neg c',h];rfl);unfold plZ;rw[if_neg c,h];lia
def dueR_mem{m:Nat}{s t:Int}{r:Row}:∀{hs:List (Option Int)}{k:Nat},r∈dueR m s t k hs↔∃i h,hs[i]?=Φ h/\r∈rowP m s t (k+i) h
 | [],k=>by simp[dueR]| h::hs,k=>by rw[dueR,mem_append,dueR_mem];constructor;rintro(h1|⟨i,h',e,h1⟩);exact⟨0,h,rfl,h1⟩;exact⟨i+1,h',by simpa using e,by rw[show k+(i+1)=k+1+i by lia];exact h1⟩;rintro⟨i,h',e,h1⟩;cases i with|zero=>cases e;exact .inl h1|succ i=>exact .inr ⟨i,h',by simpa using e,by rw[show k+1+i=k+(i+1) by lia];exact h1⟩
def zq5{α:Type}{l:List α}{f:α->K3}{c:K3}(nd:(l.map f).Nodup)(h:∀x∈l,f x=c){r:α}(hr:r∈l):l=[r]:=by match l,nd,h,hr with| [x],_,_,hr=>rw[mem_singleton.mp hr]| x::y::l,nd,h,_=>rw[Μ,Μ,h x (by simp),h y (by simp)]at nd;exact absurd nd (by simp)
def zpg{m j:Nat}{s t w0:Int}{Hs:List (Option Int)}(m1:1<=m)(m6:m<=6)(hH:Hs.length=2*m)(hw:wrZ (m:Nat) s t=[w0])(h0:0<=w0)(h1:w0<(m:Nat))(hj:j<2*m)(ne:hnZ m j≠w0) :
  ∃i h,Hs[i]?=Φ h/\hnZ m i=w0/\box (srtR (dueR m s t 0 Hs)) (j:Nat)=[([w0],oD h)]:=by
 have lt:j%m<m:=Nat.mod_lt _ m1;obtain⟨q,q1,q2,q3⟩:=zqJ (s:=s) (o:=w0.toNat) (by lia:0<m) hj (by lia);have e1:((w0.toNat:Nat):Int)=w0:=by lia
 rw[e1]at q2;have qm:hnZ m q=w0:=by have:=zdM (m:=(m:Nat)) (s:=s) (p:=(j:Nat)) (o:=w0) h0 h1;rw[q2]at this;unfold hnZ;lia
 obtain⟨h,hh⟩:∃h,Hs[q]?=Φ h:=⟨_,getElem?_eq_getElem (by lia)⟩;have ej:((j:Nat):Int)%(m:Nat)=hnZ m j:=by unfold hnZ;lia
 rw[ej]at q3;have nd:=zhP (s:=s) (t:=t) m1 m6 hH;have mem:(⟨[w0],(j:Nat),oD h⟩:Row)∈dueR m s t 0 Hs:=by refine dueR_mem.mpr ⟨q,h,hh,?_⟩;rw[zero_add];unfold rowP;rw[qm,hw,decide_eq_true (mem_singleton.mpr rfl)];refine mem_map.mpr ⟨hnZ m j,?_,by rw[q3]⟩;unfold toL;rw[if_pos rfl,mem_filter];exact⟨mem_map.mpr ⟨j%m,mem_range.mpr (by lia),rfl⟩,by simpa using ne⟩
 have pm:=zaC nd;have F:=zq5 (l:=(srtR (dueR m s t 0 Hs)).filter λx=>decide (x.to=((j:Nat):Int))) (f:=key) (c:=(0,[w0],(j:Nat))) (r:=⟨[w0],(j:Nat),oD h⟩) ?_ ?_ ?_;refine⟨q,h,hh,qm,?_⟩;unfold box;rw[F];rfl;exact(((pm.map key).nodup_iff).mpr nd).sublist (List.filter_sublist.map key);intro x hx;obtain⟨x1,x2⟩:=mem_filter.mp hx;obtain⟨i,h',e,hr⟩:=dueR_mem.mp (pm.mem_iff.mp x1);have hp:=(zmR hr).2;rw[zero_add]at hp hr;have hi:hnZ m i=w0:=by unfold rowP toL at hr;cases c:decide (hnZ m i∈wrZ (m:Nat) s t) with| true=>have:=of_decide_eq_true c;rw[hw]at this;exact mem_singleton.mp this|false=>rw[c]at hr;simp at hr
 unfold key;rw[hp,hi,of_decide_eq_true x2];exact mem_filter.mpr ⟨pm.mem_iff.mpr mem,by simp⟩
abbrev stpZ(m:Nat)(b s t:Int)(j:Nat)(q:Option Int×Int)(cs:List (Option Int)):Option Int×Int:=if t=1/\hnZ m j≠s then((cs[0]?).join,0) else nxZ (m:Nat) b t q.1 q.2 (hnZ m j) cs
abbrev cmZ(Ls:List Row)(j:Nat):List (Option Int):=(Ls.filter λx=>decide (x.to=((j:Nat):Int))).map λx=>unD x.w
def zrI(Ls:List Row)(j:Nat):(cvL (box Ls (j:Nat))).map (·.2)=cmZ Ls j:=by unfold cvL box cmZ;rw[map_map,map_map];rfl
def ziW{m:Nat}{s t:Int}(hm:0<m)(hs:0<=s/\s<(m:Nat))(h:t%3=1):∃w0,wrZ (m:Nat) s t=[w0]/\0<=w0/\w0<(m:Nat)/\(t=1->w0=s)/\(t≠1->w0=zaS (m:Nat) t):=by unfold wrZ;by_cases c:t=1;exact⟨s,by rw[if_pos c],hs.1,hs.2,λ_=>rfl,λz=>absurd c z⟩;refine⟨zaS (m:Nat) t,by rw[if_neg c,if_pos (by lia)],?_,?_,λz=>absurd z c,λ_=>rfl⟩;unfold zaS;exact Int.emod_nonneg _ (by lia);unfold zaS;exact Int.emod_lt_of_pos _ (by lia)
def zlc{m j:Nat}{b s t k k':Int}{h:Option Int}{Hs:List (Option Int)}(m1:1<=m)(m6:m<=6)(hs:0<=s/\s<(m:Nat))(mb:1<=(m:Nat)-b)(hH:Hs.length=2*m)(hj:j<2*m)(h1:t=1->∀i h,Hs[i]?=Φ h->hnZ m i=s->h.isSome=Γ)(hk:t%3=1->k=k') :
  (stpZ m b s t j (h,k) (cmZ (srtR (dueR m s t 0 Hs)) j)).1=(hrZ (m:Nat) b (hnZ m j) s t h k' (cvL (box (srtR (dueR m s t 0 Hs)) (j:Nat)))).1/\
  (t%3=0->(stpZ m b s t j (h,k) (cmZ (srtR (dueR m s t 0 Hs)) j)).2=(hrZ (m:Nat) b (hnZ m j) s t h k' (cvL (box (srtR (dueR m s t 0 Hs)) (j:Nat)))).2)/\
  (t%3=1->t≠1->hnZ m j≠zaS (m:Nat) t->∃c,(cmZ (srtR (dueR m s t 0 Hs)) j)[0]?=Φ c)/\
  (t=1->hnZ m j≠s->∃c,(cmZ (srtR (dueR m s t 0 Hs)) j)[0]?=Φ c):=by
 have ws:wsZ h (cvL (box (srtR (dueR m s t 0 Hs)) (j:Nat)))=h::cmZ (srtR (dueR m s t 0 Hs)) j:=by unfold wsZ;rw[zrI]
 have one:t%3=1->∀w0,wrZ (m:Nat) s t=[w0]->0<=w0->w0<(m:Nat)->hnZ m j≠w0->∃i x,Hs[i]?=Φ x/\hnZ m i=w0/\cvL (box (srtR (dueR m s t 0 Hs)) (j:Nat))=[(w0,x)]/\cmZ (srtR (dueR m s t 0 Hs)) j=[x]:=λ_ w0 a1 a2 a3 a4=>by obtain⟨i,x,e1,e2,e3⟩:=zpg m1 m6 hH a1 a2 a3 hj a4;refine⟨i,x,e1,e2,?_,?_⟩;rw[e3];unfold cvL;simp[zja];rw[<-zrI,e3];unfold cvL;simp[zja]
 by_cases c1:t=1;subst c1;obtain⟨w0,a1,a2,a3,a4,_⟩:=ziW (t:=1) m1 hs rfl;cases a4 rfl;refine⟨?_,λz=>absurd z (by decide),λ_ z=>absurd rfl z,λ_ ne=>?_⟩;unfold stpZ hrZ;rw[if_pos (show(1:Int)=1 from rfl)];by_cases c:hnZ m j=s;rw[if_neg (λz=>z.2 c),if_neg (λz=>z c)];unfold nxZ;rw[if_pos rfl];obtain⟨i,x,e1,e2,e3,e4⟩:=one rfl s a1 a2 a3 c;rw[if_pos ⟨rfl,c⟩,if_pos c,e3,e4];have:=h1 rfl i x e1 e2;cases x with
 |none=>exact nB this
 |some v=>simp[wfZ]
 obtain⟨i,x,e1,e2,e3,e4⟩:=one rfl s a1 a2 a3 ne;exact⟨x,by rw[e4];rfl⟩;have st:stpZ m b s t j (h,k) (cmZ (srtR (dueR m s t 0 Hs)) j)=nxZ (m:Nat) b t h k (hnZ m j) (cmZ (srtR (dueR m s t 0 Hs)) j):=by unfold stpZ;rw[if_neg (λz=>c1 z.1)]
 rw[st];refine⟨?_,λz=>?_,λz _ ne=>?_,λz=>absurd z c1⟩;unfold nxZ hrZ;rw[if_neg c1,if_neg c1,ws];by_cases c2:t%3=2;rw[if_pos c2,if_pos (show(t-2)%3=0 by lia),show lst1 (m:Nat) b=(m:Nat)-b by unfold lst1;rw[if_neg (by lia)]];rfl;rw[if_neg c2,if_neg (show ¬(t-2)%3=0 by lia)];by_cases c3:t%3=0;rw[if_pos c3,if_pos (show(t-2)%3=1 by lia)];rfl;rw[if_neg c3,if_neg (show ¬(t-2)%3=1 by lia)];have c4:t%3=1:=by lia
 cases hk c4;unfold kgZ;by_cases c5:(h.isSome&&decide ((m:Nat)-b<=k))=Γ;rw[if_pos c5,if_pos c5];rw[if_neg c5,if_neg c5];obtain⟨w0,a1,a2,a3,_,a4⟩:=ziW (s:=s) m1 hs c4;cases a4 c1;by_cases c6:hnZ m j=zaS (m:Nat) t;rw[if_neg (λz=>z c6),if_neg (λz=>z c6)];obtain⟨i,x,e1,e2,e3,e4⟩:=one c4 _ a1 a2 a3 c6;rw[if_pos c6,if_pos c6,e3,e4];cases x with|none=>simp[wfZ]|some v=>simp[wfZ]
 unfold nxZ hrZ;rw[if_neg c1,if_neg c1,ws,if_neg (show ¬t%3=2 by lia),if_pos z,if_neg (show ¬(t-2)%3=0 by lia),if_pos (show(t-2)%3=1 by lia)];rfl;obtain⟨w0,a1,a2,a3,_,a4⟩:=ziW (s:=s) m1 hs z;cases a4 c1;obtain⟨i,x,e1,e2,e3,e4⟩:=one z _ a1 a2 a3 ne;exact⟨x,by rw[e4];rfl⟩
noncomputable abbrev Qs:=Option Int×Int
abbrev qD(q:Qs):D:=.tup [oD q.1,.int q.2]
def zhU{cf:CF}{T:R.St}{t:Int}{j:Nat}:∀(Ls:List Row)(v:Option D),(∀r∈Ls,∃x:Option Int,r.w=oD x)->
  zat [0] (evT cf (.cmp .Eq (.ix J0 Y2) J1)) (evE cf (.ix J0 Y3)) (Ls.map (leD t)) [v,Φ (.int (j:Nat))] T=.ok ((cmZ Ls j).map oD) T
 | [],_,_=>rfl| r::Ls,v,h=>by
  obtain⟨x,hx⟩:=h r (by simp);have ih:=zhU (cf:=cf) (T:=T) (t:=t) (j:=j) Ls (Φ (leD t r)) λr hr=>h r (by simp[hr]);rw[Μ,zat];show(evT cf (.cmp .Eq (.ix J0 Y2) J1) [Φ (leD t r),Φ (.int (j:Nat))] T).bind (λb S1=>if b then(evE cf (.ix J0 Y3) [Φ (leD t r),Φ (.int (j:Nat))] S1).bind λd S2=>(zat [0] (evT cf (.cmp .Eq (.ix J0 Y2) J1)) (evE cf (.ix J0 Y3)) (Ls.map (leD t)) [Φ (leD t r),Φ (.int (j:Nat))] S2).bind λds S3=>.ok (d::ds) S3 else zat [0] (evT cf (.cmp .Eq (.ix J0 Y2) J1)) (evE cf (.ix J0 Y3)) (Ls.map (leD t)) [Φ (leD t r),Φ (.int (j:Nat))] S1)=_;have e1:evT cf (.cmp .Eq (.ix J0 Y2) J1) [Φ (leD t r),Φ (.int (j:Nat))] T=.ok (decide (r.to=((j:Nat):Int))) T:=by refine W.eq (wT_W _ ?_);left;first|exact wOpt_of (a:=(.int r.to:D)) rfl ⟨rfl,rfl⟩|(refine wOpt_of (a:=(.int r.to:D)) rfl ?_;first|exact⟨rfl,rfl⟩|(constructor<;>rfl)|(simp[wCmp,cmpI])|(unfold wCmp;simp[cmpI]))
  have e2:evE cf (.ix J0 Y3) [Φ (leD t r),Φ (.int (j:Nat))] T=.ok r.w T:=by refine W.eq (wE_W _ ?_);left;exact wOpt_of (a:=r.w) rfl ⟨rfl,rfl⟩
  rw[e1,zaw];unfold cmZ at ih⊢;cases c:decide (r.to=((j:Nat):Int)) with| true=>rw[if_pos rfl,e2,zaw,ih,zaw,List.filter_cons_of_pos (by simpa using c),hx,Μ,Μ,hx,zja]|false=>rw[if_neg (by decide),ih,List.filter_cons_of_neg (by simpa using c)]
noncomputable abbrev El(ns:List Int)(way:PySem.Str)(m b:Nat)(s one other:Int)(rg ls st du:Nat)(a c d e:Option D):Ev:=[Φ (.fix (ns.map .int)),Φ (.str way),Φ (.int (m:Nat)),Φ (.int (b:Nat)),Φ (.int s),Φ (.int one),Φ (.int other),Φ (.ref rg),Φ (.ref ls),Φ (.ref st),Φ (.ref du),a,c,d,e]
abbrev plB:CS:=.asg 14 (.mkL (.comp 1 [13] [0] (.val J12) (.cmp .Eq (.ix J0 Y2) J1) (.ix J0 Y3))) (.ifS (.and (.cmp .Eq J11 Y1) (.cmp .NotEq (.bin .Mod J13 J2) J4)) (.setIx J9 J13 (.tup #[.ix J14 Y0,Y0]) .nil) (.setIx J9 J13 (.call 26 0 #[J11,J2,J3,J4,.ix J9 J13,.bin .Mod J13 J2,J14]) .nil) .nil)
def zgJ{T:R.St}{l k:Nat}{ds:List D}{v:D}(hf:Fr T l)(e:T.get l=Φ (.lst ds))(hk:k<ds.length):∃U,lPut T (.ref l) (.int (k:Nat)) v=Φ U/\Mv [l] T U/\U.get l=Φ (.lst (ds.set k v)):=by obtain⟨U,h1,h2,h3⟩:=zcE (u:=.lst (ds.set k v)) hf e;refine⟨U,?_,h2,h3⟩;unfold lPut;dsimp only;rw[e];dsimp only[zcq,Ϟ];rw[show R.ixN ds.length ((k:Nat):Int)=Φ k by unfold R.ixN;rw[if_pos (by lia),if_pos (by lia)];rfl,Ϟ];exact h1
def zqI{ns:List Int}{way:PySem.Str}{n m b:Nat}{s one other t:Int}{rg ls st du sm j:Nat}{e:Option D}{T:R.St}{qs:List Qs}{q:Qs}{Ls:List Row}(m1:1<=m)(mb:1<=((m:Nat):Int)-(b:Nat))(hj:j<2*m)(lq:qs.length=2*m)(hq:qs[j]?=Φ q)(g1:T.get st=Φ (.lst (qs.map qD)))(g2:T.get sm=Φ (.lst (Ls.map (leD t))))(hL:∀r∈Ls,∃x:Option Int,r.w=oD x)(l6:Ls.length<=60)(f1:Fr T st)(ne:st≠sm)
  (x1:t%3=1->t≠1->hnZ m j≠zaS (m:Nat) t->∃c,(cmZ Ls j)[0]?=Φ c) (x2:t=1->hnZ m j≠s->∃c,(cmZ Ls j)[0]?=Φ c) :
  W (exS (callF prog (n+2)) plB (El ns way m b s one other rg ls st du (Φ (.int t)) (Φ (.ref sm)) (Φ (.int (j:Nat))) e) T) λf U=>(∃e,f=.nx (El ns way m b s one other rg ls st du (Φ (.int t)) (Φ (.ref sm)) (Φ (.int (j:Nat))) e))/\U.get st=Φ (.lst ((qs.set j (stpZ m (b:Nat) s t j q (cmZ Ls j))).map qD))/\Mv [st] T U:=by
 have eh:((j:Nat):Int)%(m:Nat)=hnZ m j:=by unfold hnZ;lia
 have cl:(cmZ Ls j).length<=60:=by unfold cmZ;rw[length_map];exact le_trans (length_filter_le _ _) l6
 unfold plB;generalize hr:(CS.ifS (.and (.cmp .Eq J11 Y1) (.cmp .NotEq (.bin .Mod J13 J2) J4)) (.setIx J9 J13 (.tup #[.ix J14 Y0,Y0]) .nil) (.setIx J9 J13 (.call 26 0 #[J11,J2,J3,J4,.ix J9 J13,.bin .Mod J13 J2,J14]) .nil) .nil)=rest;refine wS_W _ ?_;left;exists g2;left;refine zay ?_;refine W.of (zhU (cf:=callF prog (n+2)) (t:=t) (j:=j) Ls Ψ hL) ?_;change by rw[length_map];lia
 left;change by rw[length_map];lia
 left;subst hr;have v0:=Mv.push [] T (.lst ((cmZ Ls j).map oD));have gc:=zag T (.lst ((cmZ Ls j).map oD));have gs:=v0.old _ _ (by simp) g1;have fs:=f1.mv v0;generalize hT:T.push (.lst ((cmZ Ls j).map oD))=T1 at v0 gc gs fs⊢;have len:j<(qs.map qD).length:=by rw[length_map];lia
 have fin:∀z:Qs,z=stpZ m (b:Nat) s t j q (cmZ Ls j)->∃U,lPut T1 (.ref st) (.int (j:Nat)) (qD z)=Φ U/\(U.get st=Φ (.lst ((qs.set j (stpZ m (b:Nat) s t j q (cmZ Ls j))).map qD))/\Mv [st] T U):=λz hz=>by obtain⟨U,h1,h2,h3⟩:=zgJ (v:=qD z) fs gs len;refine⟨U,h1,?_,(v0.up (by simp)).trans h2⟩;rw[h3,hz,List.map_set]
 left;refine zch (λc1=>?_) (λc1=>?_);left;change by lia
 left;rw[eh];refine zdh (λc2=>?_) (λc2=>?_);have c2:hnZ m j≠s:=by simpa using c2
 obtain⟨c,hc⟩:=x2 c1 c2;left;exists gc;left;exists zb5 (k:=0) (x:=oD c) (by rw[getElem?_map,hc];rfl);left;right;left;obtain⟨U,h1,h2⟩:=fin (c,0) (by unfold stpZ;rw[if_pos ⟨c1,c2⟩,hc];rfl);exists h1;left;exact⟨⟨_,rfl⟩,h2⟩;have c2:hnZ m j=s:=by simpa using c2
 left;exists gs;left;exists zb5 (x:=qD q) (by rw[getElem?_map,hq];rfl);left;change by lia
 left;rw[eh];specialize zjn (n:=n) (h:=q.1) (k:=q.2) (cs:=cmZ Ls j) gc cl (by lia) (by lia) mb x1;left;obtain⟨U,h1,h2⟩:=fin (nxZ (m:Nat) (b:Nat) t q.1 q.2 (hnZ m j) (cmZ Ls j)) (by unfold stpZ;rw[if_neg (λz=>z.2 c2)]);exists h1;left;exact⟨⟨_,rfl⟩,h2⟩;left;exists gs;left;exists zb5 (x:=qD q) (by rw[getElem?_map,hq];rfl);left;change by lia
 left;rw[eh];specialize zjn (n:=n) (h:=q.1) (k:=q.2) (cs:=cmZ Ls j) gc cl (by lia) (by lia) mb x1;left;obtain⟨U,h1,h2⟩:=fin (nxZ (m:Nat) (b:Nat) t q.1 q.2 (hnZ m j) (cmZ Ls j)) (by unfold stpZ;rw[if_neg (λz=>c1 z.1)]);exists h1;left;exact⟨⟨_,rfl⟩,h2⟩
abbrev updF(f:Nat->Qs->Qs):Nat->Nat->List Qs->List Qs
 |_,0,qs=>qs|k,c+1,qs=>updF f (k+1) c (qs.set k (f k (qs.getD k (Ψ,0))))
def zi9(f:Nat->Qs->Qs)(i:Nat):∀(c k:Nat)(qs:List Qs),k+c=qs.length->(updF f k c qs)[i]?=if k<=i then(qs[i]?).map (f i) else qs[i]?
 |0,k,qs,h=>by rw[updF];split;rw[List.getElem?_eq_none (by lia)];rfl;rfl| c+1,k,qs,h=>by
  have hk:k<qs.length:=by lia
  rw[updF,zi9 f i c (k+1) _ (by rw[List.length_set];lia)];by_cases e:i=k;subst e;rw[if_neg (by lia),if_pos (le_refl _),getElem?_set_self hk,Υ,getElem?_eq_getElem hk];rfl;rw[getElem?_set_ne (by lia)];by_cases c:k<=i;rw[if_pos c,if_pos (by lia)];rw[if_neg c,if_neg (by lia)]
def zha(f:Nat->Qs->Qs):∀(c k:Nat)(qs:List Qs),(updF f k c qs).length=qs.length
 |0,_,_=>rfl|c+1,k,qs=>by rw[updF,zha f c,List.length_set]
def zjI{ns:List Int}{way:PySem.Str}{n m b:Nat}{s one other t:Int}{rg ls st du sm:Nat}{Ls:List Row}(m1:1<=m)(mb:1<=((m:Nat):Int)-(b:Nat))(hL:∀r∈Ls,∃x:Option Int,r.w=oD x)(l6:Ls.length<=60)(ne:st≠sm)
  (x1:∀j,j<2*m->t%3=1->t≠1->hnZ m j≠zaS (m:Nat) t->∃c,(cmZ Ls j)[0]?=Φ c) (x2:∀j,j<2*m->t=1->hnZ m j≠s->∃c,(cmZ Ls j)[0]?=Φ c) :
  ∀(c k:Nat)(qs:List Qs)(T:R.St)(d e:Option D),k+c=2*m->qs.length=2*m->T.get st=Φ (.lst (qs.map qD))->T.get sm=Φ (.lst (Ls.map (leD t)))->Fr T st->
  W (zaI [13] (exS (callF prog (n+2)) plB) (intD k c) (El ns way m b s one other rg ls st du (Φ (.int t)) (Φ (.ref sm)) d e) T) λf U=>(∃d e,f=.nx (El ns way m b s one other rg ls st du (Φ (.int t)) (Φ (.ref sm)) d e))/\U.get st=Φ (.lst ((updF (λj q=>stpZ m (b:Nat) s t j q (cmZ Ls j)) k c qs).map qD))/\Mv [st] T U
 |0,k,qs,T,d,e,hk,lq,g1,g2,f1=>by show W (Out.ok (Fl.nx _) T) _;rw[W_ok];exact⟨⟨d,e,rfl⟩,g1,Mv.refl _ _⟩| c+1,k,qs,T,d,e,hk,lq,g1,g2,f1=>by
  show W (Out.bind (exS (callF prog (n+2)) plB (El ns way m b s one other rg ls st du (Φ (.int t)) (Φ (.ref sm)) (Φ (.int (k:Nat))) e) T) _) _;rw[zab];have hlt:k<qs.length:=by lia
  have hq:=getElem?_eq_getElem hlt;refine(zqI (n:=n) m1 mb (by lia) lq hq g1 g2 hL l6 f1 ne (x1 k (by lia)) (x2 k (by lia))).mono λf U hU=>?_;obtain⟨⟨e',rfl⟩,u1,u2⟩:=hU;refine(zjI m1 mb hL l6 ne x1 x2 c (k+1) _ U _ _ (by lia) (by rw[List.length_set];exact lq) u1 (u2.old _ _ (by simpa using Ne.symm ne) g2) (f1.mv u2)).mono λf V hV=>?_;obtain⟨v1,v2,v3⟩:=hV;refine⟨v1,?_,u2.trans v3⟩;rw[v2,updF,Υ,hq];rfl
structure Rl(m:Nat)(s:Int)(t:Nat)(hs:List Kh)(qs:List Qs):Prop where
 lh:hs.length=2*m
 lq:qs.length=2*m
 eq:∀(i:Nat) h q,hs[i]?=Φ h->qs[i]?=Φ q->q.1=h.1/\(t%3=0->q.2=h.2.1)
 z:t=0->∀(i:Nat) q,qs[i]?=Φ q->hnZ m i=s->q.1.isSome=Γ
def Rl.held{m:Nat}{s:Int}{t:Nat}{hs:List Kh}{qs:List Qs}(R:Rl m s t hs qs):hs.map (·.1)=qs.map (·.1):=by apply List.ext_getElem?;intro i;rw[getElem?_map,getElem?_map];by_cases c:i<2*m;have h1:=getElem?_eq_getElem (show i<hs.length by have:=R.lh;lia);have h2:=getElem?_eq_getElem (show i<qs.length by have:=R.lq;lia);rw[h1,h2];exact congrArg Φ (R.eq i _ _ h1 h2).1.symm;rw[List.getElem?_eq_none (by have:=R.lh;lia),List.getElem?_eq_none (by have:=R.lq;lia)];rfl
def zfX(V:Town)(t:Int)(Ls:List Row):∀(hs:List V.H)(k i:Nat),(zbi V t Ls k hs)[i]?=(hs[i]?).map λh=>V.hear (k+i) t h (box Ls ((k+i:Nat):Int))
 | [],k,i=>by simp[zbi]|h::hs,k,0=>rfl| h::hs,k,i+1=>by rw[zbi,List.getElem?_cons_succ,zfX V t Ls hs (k+1) i,List.getElem?_cons_succ,show k+1+i=k+(i+1) by lia]
def zqs{m:Nat}{b s w1 w2 t:Int}{N wr:Nat}{la:Nat->Nat}{hs:List Kh}{i:Nat}{h':Kh}(e:(rnd (kr m b s w1 w2 N wr la) t hs:List Kh)[i]?=Φ h') :
  ∃h:Kh,hs[i]?=Φ h/\h'.1=(hrZ (m:Nat) b (hnZ m i) s t h.1 h.2.1 (cvL (box (srtR (dueR m s t 0 (hs.map (·.1)))) (i:Nat)))).1/\h'.2.1=(hrZ (m:Nat) b (hnZ m i) s t h.1 h.2.1 (cvL (box (srtR (dueR m s t 0 (hs.map (·.1)))) (i:Nat)))).2:=by
 have e0:rnd (kr m b s w1 w2 N wr la) t hs=zbi (kr m b s w1 w2 N wr la) t (srtR (dueR m s t 0 (hs.map (·.1)))) 0 hs:=by unfold rnd;rw[zbD]
 have e1:=(zfX (kr m b s w1 w2 N wr la) t (srtR (dueR m s t 0 (hs.map (·.1)))) hs 0 i).symm.trans ((congrArg (λl:List (kr m b s w1 w2 N wr la).H=>l[i]?) e0).symm.trans e);rw[zero_add]at e1;have e2:(hs[i]?).map (λh:Kh=>(((hrZ (m:Nat) b (hnZ m i) s t h.1 h.2.1 (cvL (box (srtR (dueR m s t 0 (hs.map (·.1)))) (i:Nat)))).1,(hrZ (m:Nat) b (hnZ m i) s t h.1 h.2.1 (cvL (box (srtR (dueR m s t 0 (hs.map (·.1)))) (i:Nat)))).2,h.2.2++[(hrZ (m:Nat) b (hnZ m i) s t h.1 h.2.1 (cvL (box (srtR (dueR m s t 0 (hs.map (·.1)))) (i:Nat)))).1]):Kh))=Φ h':=e1;cases a1:hs[i]? with
 |none=>rw[a1]at e2;exact nS e2
 |some h=>rw[a1]at e2;cases e2;exact⟨h,rfl,rfl,rfl⟩
def zn3{m b:Nat}{s w1 w2:Int}{N wr:Nat}{la:Nat->Nat}{t:Nat}{hs:List Kh}{qs:List Qs}(m1:1<=m)(m6:m<=6)(hS:0<=s/\s<(m:Nat))(mb:1<=((m:Nat):Int)-(b:Nat))(R:Rl m s t hs qs) :
  Rl m s (t+1) (rnd (kr m (b:Nat) s w1 w2 N wr la) ((t+1:Nat):Int) hs) (updF (λj q=>stpZ m (b:Nat) s ((t+1:Nat):Int) j q (cmZ (srtR (dueR m s ((t+1:Nat):Int) 0 (qs.map (·.1)))) j)) 0 (2*m) qs)/\
  (∀j,j<2*m->((t+1:Nat):Int)%3=1->((t+1:Nat):Int)≠1->hnZ m j≠zaS (m:Nat) ((t+1:Nat):Int)->∃c,(cmZ (srtR (dueR m s ((t+1:Nat):Int) 0 (qs.map (·.1)))) j)[0]?=Φ c)/\
  (∀j,j<2*m->((t+1:Nat):Int)=1->hnZ m j≠s->∃c,(cmZ (srtR (dueR m s ((t+1:Nat):Int) 0 (qs.map (·.1)))) j)[0]?=Φ c):=by
 have lH:(qs.map (·.1)).length=2*m:=by rw[length_map,R.lq]
 have h1:((t+1:Nat):Int)=1->∀i h,(qs.map (·.1))[i]?=Φ h->hnZ m i=s->h.isSome=Γ:=λe i h hh hi=>by
  rw[getElem?_map]at hh;cases eq:qs[i]? with
  |none=>rw[eq]at hh;exact nS hh
  |some q=>rw[eq]at hh;cases hh;exact R.z (by lia) i q eq hi
 have key:∀(j:Nat) h q,hs[j]?=Φ h->qs[j]?=Φ q->_:=λj h q e1 e2=>zlc (b:=(b:Nat)) (s:=s) (t:=((t+1:Nat):Int)) (k:=q.2) (k':=h.2.1) (h:=q.1) (Hs:=qs.map (·.1)) m1 m6 hS mb lH (show j<2*m by have:=(Ω.mp e2).1;have:=R.lq;lia) h1 (λz=>(R.eq j h q e1 e2).2 (by lia));refine⟨⟨?_,?_,λi h' q' e1 e2=>?_,λz=>absurd z (by lia)⟩,λj hj=>?_,λj hj=>?_⟩;exact(zbw _ _ _ _ _).trans R.lh;rw[zha,R.lq];obtain⟨h,a1,p1,p2⟩:=zqs e1;rw[R.held]at p1 p2;rw[zi9 _ _ _ _ _ (by rw[R.lq];lia),if_pos (zero_le _)]at e2;cases a2:qs[i]? with
 |none=>rw[a2]at e2;exact nS e2
 |some q=>rw[a2]at e2;cases e2;have k:=key i h q a1 a2;have q1:=(R.eq i h q a1 a2).1;rw[q1]at k;refine⟨?_,λz=>?_⟩;rw[p1,<-k.1,<-q1];rw[p2,<-k.2.1 (by lia),<-q1]
 have a1:=getElem?_eq_getElem (show j<hs.length by have:=R.lh;lia);have a2:=getElem?_eq_getElem (show j<qs.length by have:=R.lq;lia);exact(key j _ _ a1 a2).2.2.1;have a1:=getElem?_eq_getElem (show j<hs.length by have:=R.lh;lia);have a2:=getElem?_eq_getElem (show j<qs.length by have:=R.lq;lia);exact(key j _ _ a1 a2).2.2.2
def zoL{S:R.St}{x y:Nat}{xs ys:List D}(h1:S.get x=Φ (.lst xs))(h2:S.get y=Φ (.lst ys)):lsts S (.ref x) (.ref y)=Φ (x,xs,ys):=by unfold lsts;dsimp only;rw[h1,h2]
def ziI{cf:CF}{T:R.St}(qs:List Qs)(v:Option D):zat [0] (evT cf (.tst (.con (D.bl Γ)))) (evE cf (.ix J0 Y0)) (qs.map qD) [v] T=.ok ((qs.map (·.1)).map oD) T:=by have:=zaM (T:=T) (c:=evT cf (.tst (.con (D.bl Γ)))) (e:=evE cf (.ix J0 Y0)) (δ:=[]) qD (λ_=>Γ) (λq=>oD q.1) (λz=>rfl) (λz=>rfl) qs v;rw[this,map_map,List.filter_eq_self.mpr λ_ _=>rfl];rfl
abbrev tB:CS:=.asg 12 (.call 24 0 #[J11,J2,J4,.mkL (.comp 1 [] [0] (.val J9) (.tst (.con (D.bl Γ))) (.ix J0 Y0))]) (.expr (.extv J10 J12) (.forS [13] (.rng1 (.bin .Mult Y2 J2)) plB .nil))
def zkD{m:Nat}{s t:Int}{Hs:List (Option Int)}(m1:1<=m)(m6:m<=6)(hH:Hs.length=2*m):(dueR m s t 0 Hs).length<=60:=by obtain⟨zs,z1,z2⟩:∃zs:List Kh,zs.length=2*m/\zs.map (·.1)=Hs:=⟨Hs.map λh=>(h,0,[]),by rw[length_map,hH],by rw[map_map];exact List.map_id _⟩;have:=(zkc (m:=m) (b:=0) (s:=s) (w1:=0) (w2:=0) (N:=0) (wr:=0) (la:=λ_=>0) m1 m6 (by decide)).few t zs trivial z1;rw[zbD,z2]at this;exact this
def zr9{ns:List Int}{way:PySem.Str}{n m b:Nat}{s one other w1 w2:Int}{N wr:Nat}{la:Nat->Nat}{rg ls st du t:Nat}{c d e:Option D}{T:R.St}{hs:List Kh}{qs:List Qs}{acc:List D}(m1:1<=m)(m6:m<=6)(hS:0<=s/\s<(m:Nat))(mb:1<=((m:Nat):Int)-(b:Nat))(R:Rl m s t hs qs)(g1:T.get st=Φ (.lst (qs.map qD)))(g2:T.get du=Φ (.lst acc))(f1:Fr T st)(f2:Fr T du)(ne:st≠du)(ha:acc.length<=10000) :
  W (exS (callF prog (n+3)) tB (El ns way m b s one other rg ls st du (Φ (.int ((t+1:Nat):Int))) c d e) T) λf U=>(∃c d e,f=.nx (El ns way m b s one other rg ls st du (Φ (.int ((t+1:Nat):Int))) c d e))/\
   ∃qs',U.get st=Φ (.lst (qs'.map qD))/\Rl m s (t+1) (rnd (kr m (b:Nat) s w1 w2 N wr la) ((t+1:Nat):Int) hs) qs'/\U.get du=Φ (.lst (acc++(srtR ((kr m (b:Nat) s w1 w2 N wr la).said ((t+1:Nat):Int) 0 hs)).map (leD ((t+1:Nat):Int))))/\Mv [st,du] T U:=by
 obtain⟨R',x1,x2⟩:=zn3 (w1:=w1) (w2:=w2) (N:=N) (wr:=wr) (la:=la) m1 m6 hS mb R;rw[zbD,R.held];have lH:(qs.map (·.1)).length=2*m:=by rw[length_map,R.lq]
 have nd:=zhP (s:=s) (t:=((t+1:Nat):Int)) m1 m6 lH;have few:=zkD (s:=s) (t:=((t+1:Nat):Int)) m1 m6 lH;have sl:=(zaC nd).length_eq;have lq:=R.lq;generalize((t+1:Nat):Int)=tt at R' x1 x2 nd few sl⊢;unfold tB;generalize hr:(CS.forS [13] (.rng1 (.bin .Mult Y2 J2)) plB .nil)=rest;refine wS_W _ ?_;left;exists g1;left;refine zay ?_;refine W.of (ziI (cf:=callF prog (n+3)) qs Ψ) ?_;change by simp only[length_map];lia
 left;change by simp only[length_map];lia
 left;have v0:=Mv.push [] T (.lst ((qs.map (·.1)).map oD));have gh:=zag T (.lst ((qs.map (·.1)).map oD));specialize(zso (n:=n) (s:=s) (t:=tt) m1 m6 lH gh);generalize T.push (.lst ((qs.map (·.1)).map oD))=T1 at v0 gh⊢;have v1:=Mv.push [] T1 (.lst ((srtR (dueR m s tt 0 (qs.map (·.1)))).map (leD tt)));have gm:=zag T1 (.lst ((srtR (dueR m s tt 0 (qs.map (·.1)))).map (leD tt)));generalize hT2:T1.push (.lst ((srtR (dueR m s tt 0 (qs.map (·.1)))).map (leD tt)))=T2 at v1 gm⊢;have v01:=v0.trans v1;have g12:=v01.old _ _ (by simp) g1;have g22:=v01.old _ _ (by simp) g2;have n1:st≠T1.len:=by have:=get_lt g1;have:=v0.len;lia
 have n2:du≠T1.len:=by have:=get_lt g2;have:=v0.len;lia
 left;exists g22;left;exists zoL g22 gm;left;change by dsimp only;rw[length_append,length_map];lia
 left;obtain⟨U,hU,mU,gU⟩:=zcE (u:=.lst (acc++(srtR (dueR m s tt 0 (qs.map (·.1)))).map (leD tt))) (f2.mv v01) g22;exists hU;left;subst hr;have gsU:=mU.old _ _ (by simpa using ne) g12;have gmU:=mU.old _ _ (by simpa using Ne.symm n2) gm;have fsU:=(f1.mv v01).mv mU;left;change by unfold zbM;simp
 left;right;left;refine zay ?_;have er:(List.range ((2:Int)*((m:Nat):Int)).toNat).map (λ(k:Nat)=>D.int k)=intD 0 (2*m):=by rw[<-zdo (2*m)];rfl
 rw[er];refine(zjI (n:=n+1) (ns:=ns) (way:=way) (one:=one) (other:=other) (rg:=rg) (ls:=ls) (du:=du) m1 mb (λr hr=>zf5 ((zaC nd).mem_iff.mp hr)) (by lia) n1 x1 x2 (2*m) 0 qs {U with lk:=[]++U.lk} d e (by lia) lq gsU gmU ⟨fsU.f,fsU.k⟩).mono λf V hV=>?_;obtain⟨⟨d',e',rfl⟩,a1,a2⟩:=hV;have a2:=a2.lock;left;refine⟨⟨_,_,_,rfl⟩,_,a1,R',a2.old _ _ (by simpa using Ne.symm ne) gU,?_⟩;exact((v01.up (by simp)).trans (mU.up (by simp))).trans (a2.up (by simp))
def zmE{ns:List Int}{way:PySem.Str}{n m b:Nat}{s one other w1 w2:Int}{N wr:Nat}{la:Nat->Nat}{rg ls st du:Nat}(m1:1<=m)(m6:m<=6)(hS:0<=s/\s<(m:Nat))(mb:1<=((m:Nat):Int)-(b:Nat))(ne:st≠du) :
  ∀(cc t:Nat)(hs:List Kh)(qs:List Qs)(acc:List D)(T:R.St)(a c d e:Option D),Rl m s t hs qs->T.get st=Φ (.lst (qs.map qD))->T.get du=Φ (.lst acc)->Fr T st->Fr T du->acc.length+60*cc<=10000->
  W (zaI [11] (exS (callF prog (n+3)) tB) (zgo (t+1) cc) (El ns way m b s one other rg ls st du a c d e) T) λf U=>(∃a c d e,f=.nx (El ns way m b s one other rg ls st du a c d e))/\U.get du=Φ (.lst (acc++lets (kr m (b:Nat) s w1 w2 N wr la) (t+1) cc hs))/\Mv [st,du] T U
 |0,t,hs,qs,acc,T,a,c,d,e,R,g1,g2,f1,f2,ha=>by show W (Out.ok (Fl.nx _) T) _;rw[W_ok];exact⟨⟨a,c,d,e,rfl⟩,g2.trans (congrArg (λl=>Φ (MO.lst l)) (Ϣ acc).symm),Mv.refl _ _⟩| cc+1,t,hs,qs,acc,T,a,c,d,e,R,g1,g2,f1,f2,ha=>by
  show W (Out.bind (exS (callF prog (n+3)) tB (El ns way m b s one other rg ls st du (Φ (.int ((t+1:Nat):Int))) c d e) T) _) _;rw[zab];refine(zr9 (n:=n) (w1:=w1) (w2:=w2) (N:=N) (wr:=wr) (la:=la) m1 m6 hS mb R g1 g2 f1 f2 ne (by lia)).mono λf U hU=>?_;obtain⟨⟨c',d',e',rfl⟩,qs',u1,R',u2,u3⟩:=hU;have lb:(srtR ((kr m (b:Nat) s w1 w2 N wr la).said ((t+1:Nat):Int) 0 hs)).length<=60:=by
   have lH:(hs.map (·.1)).length=2*m:=by rw[length_map,R.lh]
   rw[zbD,(zaC (zhP m1 m6 lH)).length_eq];exact zkD m1 m6 lH
  refine(zmE (w1:=w1) (w2:=w2) (N:=N) (wr:=wr) (la:=la) m1 m6 hS mb ne cc (t+1) _ qs' _ U _ _ _ _ R' u1 u2 (f1.mv u3) (f2.mv u3) (by rw[length_append,length_map];lia)).mono λf V hV=>?_;obtain⟨v1,v2,v3⟩:=hV;exact⟨v1,v2.trans (congrArg (λl=>Φ (MO.lst l)) (append_assoc _ _ _)),u3.trans v3⟩
noncomputable abbrev Zl:=Int×List Int×Int×Option Int
abbrev zD(z:Zl):D:=.tup [.int z.1,pD z.2.1,.int z.2.2.1,oD z.2.2.2]
def zfO{V:Town}(hV:∀(t:Int)(hs:List V.H),hs.length=V.m->((V.said t 0 hs).map key).Nodup/\(V.said t 0 hs).length<=60/\∀r∈V.said t 0 hs,∃x:Option Int,r.w=oD x):∀(c t:Nat)(hs:List V.H),hs.length=V.m->∃zs:List Zl,lets V t c hs=zs.map zD/\zs.length<=60*c
 |0,_,_,_=>⟨[],rfl,le_refl _⟩| c+1,t,hs,hl=>by obtain⟨nd,fw,hw⟩:=hV (t:Nat) hs hl;obtain⟨zs,e,el⟩:=zfO hV c (t+1) (rnd V (t:Nat) hs) ((zbw _ _ _ _ _).trans hl);refine⟨(srtR (V.said (t:Nat) 0 hs)).map (λr=>(((t:Nat):Int),r.p,r.to,unD r.w))++zs,?_,by rw[length_append,length_map,(zaC nd).length_eq];lia⟩;show(srtR (V.said (t:Nat) 0 hs)).map (leD (t:Nat))++lets V (t+1) c (rnd V (t:Nat) hs)=_;rw[e,map_append,map_map];congr 1;refine Ρ λr hr=>?_;obtain⟨x,hx⟩:=hw r ((zaC nd).mem_iff.mp hr);show leD _ r=zD _;unfold leD zD;dsimp only;rw[hx,zja]
def zoR{m b:Nat}{s w1 w2:Int}{N wr:Nat}{la:Nat->Nat}(m1:1<=m)(m6:m<=6)(c t:Nat)(hs:List Kh)(hl:hs.length=2*m):∃zs:List Zl,lets (kr m (b:Nat) s w1 w2 N wr la) t c hs=zs.map zD/\zs.length<=60*c:=by refine zfO (V:=kr m (b:Nat) s w1 w2 N wr la) (λt hs hl=>⟨?_,?_,λr hr=>?_⟩) c t hs hl;exact(zkc m1 m6 (by lia)).unl t hs trivial hl;exact(zkc m1 m6 (by lia)).few t hs trivial hl;have hr:r∈dueR m s t 0 (List.map (λx:Kh=>x.1) hs):=(zbD m (b:Nat) s w1 w2 N wr la t hs 0)▸hr;exact zf5 hr
def zr5(S:R.St)(z:Zl):∃x,pd S 59 (zD z)=Φ x:=by obtain⟨a,p,c,o⟩:=z;refine⟨.tuple [.int a,.tuple (p.map PySem.PyData.int),.int c,match o with|none=>.none|some v=>.int v],?_⟩;unfold zD;simp only[pd,ϛ,List.mapM_nil];have e:=zeZ S 57 p;cases o<;>simp[pd,oD,e]
def zpt(S:R.St):∀zs:List Zl,∃xs,(zs.map zD).mapM (pd S 59)=Φ xs
 | []=>⟨[],rfl⟩| z::zs=>by obtain⟨x,hx⟩:=zr5 S z;obtain⟨xs,hxs⟩:=zpt S zs;exact⟨x::xs,by rw[Μ,ϛ,hx,hxs];rfl⟩
def zm8{S:R.St}{a b:Nat}{zs:List Zl}(h1:S.get a=Φ (.lst (zs.map zD)))(h2:S.get b=Φ (.lst (zs.map zD))):cmpO S .Eq (.ref a) (.ref b)=Φ Γ/\cmpO S .NotEq (.ref a) (.ref b)=Φ Δ:=by obtain⟨xs,e⟩:=zpt S zs;exact⟨zgY h1 h2 e,zgX h1 h2 e⟩
def zk4{α:Type}(zs:List α):allD (zs.map λ_=>D.bl Γ)=Φ Γ:=by
 unfold allD;have:(zs.map λ_=>D.bl Γ).mapM zgh=Φ (zs.map λ_=>Γ):=by induction zs with|nil=>rfl|cons q qs ih=>rw[Μ,ϛ,ih];rfl
 rw[this];simp
def zpo{cf:CF}{T:R.St}(zs:List Zl)(v:Option D):zat [0] (evT cf (.tst (.con (D.bl Γ)))) (evE cf (.bi (.isin "tuple") #[J0])) (zs.map zD) [v] T=.ok (zs.map λ_=>D.bl Γ) T:=by have:=zaM (T:=T) (c:=evT cf (.tst (.con (D.bl Γ)))) (e:=evE cf (.bi (.isin "tuple") #[J0])) (δ:=[]) zD (λ_=>Γ) (λ_=>D.bl Γ) (λz=>rfl) (λz=>rfl) zs v;rw[this,List.filter_eq_self.mpr λ_ _=>rfl]
def zrW{cf:CF}{T:R.St}(zs:List Zl)(v:Option D):zat [0] (evT cf (.tst (.con (D.bl Γ)))) (evE cf (.or (.cmp .Is (.ix J0 Y3) (.con D.non)) (.nt (.bi (.isin "bool") #[.ix J0 Y3])))) (zs.map zD) [v] T=.ok (zs.map λ_=>D.bl Γ) T:=by have:=zaM (T:=T) (c:=evT cf (.tst (.con (D.bl Γ)))) (e:=evE cf (.or (.cmp .Is (.ix J0 Y3) (.con D.non)) (.nt (.bi (.isin "bool") #[.ix J0 Y3])))) (δ:=[]) zD (λ_=>Γ) (λ_=>D.bl Γ) (λz=>rfl) (λz=>by obtain⟨a,p,c,o⟩:=z;cases o<;>rfl) zs v;rw[this,List.filter_eq_self.mpr λ_ _=>rfl]
abbrev lTl:CS:=.ifS (.or (.nt (.tst (.bi (.isin "list") #[J8]))) (.nt (.tst (.all (.comp 1 [] [0] (.val J8) (.tst (.con (D.bl Γ))) (.bi (.isin "tuple") #[J0])))))) (.ret (.con (D.bl Δ)) .nil) .nil (.ifS (.nt (.tst (.all (.comp 1 [] [0] (.val J8) (.tst (.con (D.bl Γ))) (.or (.cmp .Is (.ix J0 Y3) (.con D.non)) (.nt (.bi (.isin "bool") #[.ix J0 Y3]))))))) (.ret (.con (D.bl Δ)) .nil) .nil (.ifS (.cmp .NotEq J8 J10) (.ret (.con (D.bl Δ)) .nil) .nil (.expr (.clr J8) (.ret (.cmp .Eq (.meth "letters" [(1,40)] J7 .nil) J10) .nil))))
def zfJ{S:R.St}{n a l:Nat}{fs:List (PySem.Str×D)}{ds:List D}(e:S.get a=Φ (.ins 1 fs))(h1:fs.lookup ("sent":PySem.Str)=Φ (.ref l))(h2:S.get l=Φ (.lst ds))(hl:ds.length<=16777216):appW (callF prog (n+1)) 40 [.ref a] S=.ok (.ref S.len) (S.push (.lst ds)):=by refine zc6 (F:=zck) rfl rfl ?_;left;exists zaK e h1;left;exists h2;left;change hl;left;exact⟨rfl,rfl⟩
def zpH{S:R.St}{l:Nat}{ds:List D}(h:S.get l=Φ (.lst ds)):tyOf S (.ref l)=Φ "list":=by unfold tyOf;dsimp only;rw[h]
def zri{T:R.St}{ns:List Int}{way:PySem.Str}{n m b:Nat}{s one other:Int}{rg ls st du l:Nat}{a c d e:Option D}{zs:List Zl}{fs:List (PySem.Str×D)}(g1:T.get rg=Φ (.ins 1 fs))(h1:fs.lookup ("sent":PySem.Str)=Φ (.ref l))(hm:fs.lookup ("letters":PySem.Str)=Ψ)(g2:T.get l=Φ (.lst (zs.map zD)))(g3:T.get ls=Φ (.lst (zs.map zD)))(g4:T.get du=Φ (.lst (zs.map zD)))(f:Fr T ls)(n1:l≠ls)(n2:du≠ls)(n3:rg≠ls)(hl:zs.length<=10000) :
  wS (callF prog (n+1)) lTl (El ns way m b s one other rg ls st du a c d e) T λr _=>r=.rt (.bl Γ):=by
 unfold lTl;left;exists zpH g3;left;exists g3;left;refine zay ?_;refine W.of (zpo (cf:=callF prog (n+1)) zs Ψ) ?_;change by rw[length_map];lia
 left;exists zk4 zs;left;exists g3;left;refine zay ?_;refine W.of (zrW (cf:=callF prog (n+1)) zs Ψ) ?_;change by rw[length_map];lia
 left;exists zk4 zs;left;exists(zm8 g3 g4).2;left;exists g3;left;right;left;obtain⟨U,hU,mU,gU⟩:=zcE (u:=.lst []) f g3;exists hU;left;have k1:=mU.old _ _ (by simpa using n3) g1;have k2:=mU.old _ _ (by simpa using n1) g2;have k4:=mU.old _ _ (by simpa using n2) g4;exists zas k1;left;exists rfl;left;change by rw[hm];rfl
 left;specialize zfJ (n:=n) k1 h1 k2 (by rw[length_map];lia);left;exists(zm8 (zag _ _) (zaj k4)).1;left
abbrev q0(m:Nat)(s one other:Int):List Qs:=((List.replicate (2*m) ((Ψ,0):Qs)).set s.toNat (Φ one,0)).set (m+s.toNat) (Φ other,0)
def zqB{m i:Nat}{s one other:Int}(hs:0<=s/\s<(m:Nat))(hi:i<2*m):(q0 m s one other)[i]?=Φ (wdP m s one other i,0):=by
 have hS:s.toNat<m:=by lia
 unfold q0 wdP;by_cases c1:i=m+s.toNat;subst c1;rw[getElem?_set_self (by simp;lia),Nat.add_mod_left,if_pos (ϝ hS),if_neg (by lia)];rw[getElem?_set_ne (by lia)];by_cases c2:i=s.toNat;subst c2;rw[getElem?_set_self (by simp;lia),if_pos (ϝ hS),if_pos hS];rw[getElem?_set_ne (by lia),List.getElem?_replicate,if_pos hi,if_neg];intro z;by_cases c3:i<m;rw[ϝ c3]at z;exact c2 z;have:i=m+(i-m):=by lia
 rw[this,Nat.add_mod_left,ϝ (by lia)]at z;lia
def rl_0{m:Nat}{s one other:Int}(m1:1<=m)(hs:0<=s/\s<(m:Nat)):Rl m s 0 ((List.range (2*m)).map λj=>(wdP m s one other j,0,[])) (q0 m s one other):=by
 refine⟨by simp,by simp[q0],λi h q e1 e2=>?_,λ_ i q e hi=>?_⟩;have hi:i<2*m:=by have:=(Ω.mp e1).1;simpa using this
 rw[zqB hs hi]at e2;rw[getElem?_map,List.getElem?_range hi]at e1;cases e1;cases e2;exact⟨rfl,λ_=>rfl⟩;have hi2:i<2*m:=by have:=(Ω.mp e).1;simpa[q0]using this
 rw[zqB hs hi2]at e;cases e;unfold wdP;unfold hnZ at hi;rw[if_pos (by lia)];rfl
def zjs{cf:CF}{T:R.St}(c:Nat)(v:Option D):zat [0] (evT cf (.tst (.con (D.bl Γ)))) (evE cf (.tup #[.con D.non,Y0])) ((List.range c).map λ(k:Nat)=>D.int k) [v] T=.ok ((List.replicate c ((Ψ,0):Qs)).map qD) T:=by have:=zaM (T:=T) (c:=evT cf (.tst (.con (D.bl Γ)))) (e:=evE cf (.tup #[.con D.non,Y0])) (δ:=[]) (λk:Nat=>D.int k) (λ_=>Γ) (λ_=>qD (Ψ,0)) (λz=>rfl) (λz=>rfl) (List.range c) v;rw[this,List.filter_eq_self.mpr λ_ _=>rfl];congr 1;apply List.ext_getElem;simp;intro i g1 g2;simp
def zl2:c_law.body=.asgT [1,2,3,4,5,6] (.call 19 0 #[J0]) (.asg 7 (.mk 1 37 "Ring" 0 #[.con (D.str "kings"),J2,J3,J4,J5,J6]) (.asg 8 (.meth "letters" [(1,40)] J7 .nil) (.asg 9 (.mkL (.comp 1 [] [0] (.rng1 (.bin .Mult Y2 J2)) (.tst (.con (D.bl Γ))) (.tup #[.con D.non,Y0]))) (.setIx J9 J4 (.tup #[J5,Y0]) (.setIx J9 (.bin .Add J2 J4) (.tup #[J6,Y0]) (.asg 10 (.lst .nil) (.forS [11] (.rng2 Y1 (.bin .Add Y5 (.bin .Mult Y3 J3))) tB lTl))))))):=rfl
def law_true(ns:List Int)(hn:ns.length<=63):W (callF prog 12 27 [.fix (ns.map .int)] ⟨[],[],[]⟩) λd _=>d=.bl Γ:=by
 have key:W (exS (callF prog 11) c_law.body (zaG c_law [.fix (ns.map .int)]) ⟨[],[],[]⟩) λf _=>f=.rt (.bl Γ):=by
  obtain⟨way,m,b,s,one,other,k,ed⟩:=zn2 (n:=9) (S:=⟨[],[],[]⟩) (ns:=ns);have b1:=k.b1;have b2:=k.b2;have m3:=k.m3;have mb:=k.mb;have ks:=k.s;have kk:Ok6 "kings" m b s one other:=⟨.inr rfl,b1,b2,m3,mb,ks,k.o1,k.o2,k.ne⟩;have er:(R.St.push ⟨[],[],[]⟩ (.ins 1 [])).get 0=Φ (.ins 1 []):=rfl;have fr:Fr (R.St.push ⟨[],[],[]⟩ (.ins 1 [])) 0:=⟨le_refl _,rfl⟩;have rk:=zn7 (n:=0) kk er fr (λl hl=>by cases hl);rw[zl2];generalize hlp:(CS.forS [11] (.rng2 Y1 (.bin .Add Y5 (.bin .Mult Y3 J3))) tB lTl)=loop;refine wS_W _ ?_;left;specialize ed;left;exists show asgG [1,2,3,4,5,6] (dTup way m b s one other) (zaG c_law [.fix (ns.map .int)])=Φ [Φ (.fix (ns.map .int)),Φ (.str way),Φ (.int (m:Nat)),Φ (.int (b:Nat)),Φ (.int s),Φ (.int one),Φ (.int other),Ψ,Ψ,Ψ,Ψ,Ψ,Ψ,Ψ,Ψ] from rfl;left;refine za8 (rk.mono λd V hV=>?_);obtain⟨rfl,v,l,N,wr,la,g1,g2⟩:=hV;obtain⟨zs,ez,zl⟩:=zoR (b:=b) (s:=s) (w1:=one) (w2:=other) (N:=N) (wr:=wr) (la:=la) (show 1<=m by lia) (show m<=6 by lia) (1+3*(b+1)) 1 ((List.range (2*m)).map λj=>(wdP m s one other j,0,[])) (by simp);have g2:V.get l=Φ (.lst (zs.map zD)):=g2.trans (congrArg (λl=>Φ (MO.lst l)) ez);have gl:(rf "kings" (b:Nat) (m:Nat) s one other++([("sent",.ref l)]:List (PySem.Str×D))).lookup ("sent":PySem.Str)=Φ (.ref l):=rfl;have gm:(rf "kings" (b:Nat) (m:Nat) s one other++([("sent",.ref l)]:List (PySem.Str×D))).lookup ("letters":PySem.Str)=Ψ:=rfl;have hz:(zs.map zD).length<=16777216:=by rw[length_map];lia
  have fz:V.frz=[]:=v.frz;have lz:V.lk=[]:=v.lk;left;change rfl;left;exists zas g1;left;exists rfl;left;change by rw[gm];rfl
  left;specialize zfJ (n:=10) g1 gl g2 hz;left;have v1:=Mv.push [] V (.lst (zs.map zD));have p1:=zag V (.lst (zs.map zD));have l1:(V.push (.lst (zs.map zD))).len=V.len+1:=plen _ _;have l0:=get_lt g2;have r0:=get_lt g1;generalize V.push (.lst (zs.map zD))=V1 at v1 p1 l1⊢;change by unfold zbM;simp
  left;right;left;refine zay ?_;refine W.of (zjs (cf:=callF prog 11) (2*m) Ψ) ?_;change by simp;lia
  left;change by simp;lia
  left;have v2:=Mv.push [] V1 (.lst ((List.replicate (2*m) ((Ψ,0):Qs)).map qD));have p2:=zag V1 (.lst ((List.replicate (2*m) ((Ψ,0):Qs)).map qD));have l2:(V1.push (.lst ((List.replicate (2*m) ((Ψ,0):Qs)).map qD))).len=V1.len+1:=plen _ _;generalize V1.push (.lst ((List.replicate (2*m) ((Ψ,0):Qs)).map qD))=V2 at v2 p2 l2⊢;have e1:s=((s.toNat:Nat):Int):=by lia
  have fst:Fr V2 V1.len:=⟨by rw[v2.frz,v1.frz,fz];exact zero_le _,by rw[v2.lk,v1.lk,lz];rfl⟩;obtain⟨V3,h3,m3',p3⟩:=zgJ (k:=s.toNat) (v:=qD (Φ one,0)) fst p2 (by simp;lia);rw[<-e1]at h3;right;left;exists h3;left;rw[<-List.map_set]at p3;obtain⟨V4,h4,m4,p4⟩:=zgJ (k:=m+s.toNat) (v:=qD (Φ other,0)) (fst.mv m3') p3 (by simp;lia);rw[show((m+s.toNat:Nat):Int)=(m:Nat)+s by lia]at h4;right;left;exists h4;left;rw[<-List.map_set]at p4;right;left;have v5:=Mv.push [] V4 (.lst []);have p5:=zag V4 (.lst []);have l5:(V4.push (.lst [])).len=V4.len+1:=plen _ _;generalize V4.push (.lst [])=V5 at v5 p5 l5⊢;have q5:V5.get V1.len=Φ (.lst ((q0 m s one other).map qD)):=v5.old _ _ (by simp) p4;have c34:=m3'.trans m4;have a5:∀x o,x≠V1.len->V2.get x=Φ o->V5.get x=Φ o:=λx o hx e=>v5.old _ _ (by simp) (c34.old _ _ (by simpa using hx) e);have fr5:V5.frz=[]:=by rw[v5.frz,c34.frz,v2.frz,v1.frz,fz]
  have lk5:V5.lk=[]:=by rw[v5.lk,c34.lk,v2.lk,v1.lk,lz]
  have l4:=c34.len;have b1':V5.get 0=_:=a5 0 _ (by lia) (v2.old _ _ (by simp) (v1.old _ _ (by simp) g1));have b2':V5.get l=_:=a5 l _ (by lia) (v2.old _ _ (by simp) (v1.old _ _ (by simp) g2));have b3':V5.get V.len=_:=a5 V.len _ (by lia) (v2.old _ _ (by simp) p1);subst hlp;generalize hlt:lTl=tl;left;change by unfold zbM;simp
  left;right;left;refine zay ?_;have er:(List.range ((5:Int)+3*((b:Nat):Int)-1).toNat).map (λ(k:Nat)=>D.int (1+(k:Int)))=zgo 1 (1+3*(b+1)):=by rw[<-zdz,show((5:Int)+3*((b:Nat):Int)-1).toNat=1+3*(b+1) by lia];rfl
  rw[er];refine(zmE (n:=8) (ns:=ns) (way:=way) (one:=one) (other:=other) (w1:=one) (w2:=other) (N:=N) (wr:=wr) (la:=la) (rg:=0) (ls:=V.len) (st:=V1.len) (du:=V4.len) (by lia) (by lia) ks (by lia) (by lia) (1+3*(b+1)) 0 _ _ [] {V5 with lk:=[]++V5.lk} Ψ Ψ Ψ Ψ (rl_0 (one:=one) (other:=other) (by lia) ks) q5 p5 ⟨by show V5.frz.length<=_;rw[fr5];exact zero_le _,by show([]++V5.lk).contains _=Δ;rw[lk5];rfl⟩ ⟨by show V5.frz.length<=_;rw[fr5];exact zero_le _,by show([]++V5.lk).contains _=Δ;rw[lk5];rfl⟩ (by simp;lia)).mono λf U hU=>?_;obtain⟨⟨a,c,d,e,rfl⟩,u1,u2⟩:=hU;subst hlt;have u2:=u2.lock;have u1:({U with lk:=V5.lk}:R.St).get V4.len=Φ (.lst (zs.map zD)):=u1.trans (congrArg (λl=>Φ (MO.lst l)) ((List.nil_append _).trans ez));generalize({U with lk:=V5.lk}:R.St)=X at u1 u2⊢;exact zri (n:=10) (u2.old _ _ (by simp;lia) b1') gl gm (u2.old _ _ (by simp;lia) b2') (u2.old _ _ (by simp;lia) b3') u1 ⟨by rw[u2.frz,fr5];exact zero_le _,by rw[u2.lk,lk5];rfl⟩ (by lia) (by lia) (by lia) (by lia)
 show W (callF prog (11+1) 27 _ _) _;simp only[callF,show prog[27]?=Φ c_law from rfl,show([D.fix (ns.map .int)]:List D).length=c_law.np from rfl,show c_law.prim=Ψ from rfl,if_true,zab];refine key.mono λf T hf=>?_;subst hf;rfl
end
section
open PySem R L2
def p_way_of{P:ϊ}{w:ύ}{K:Frag}{h base:Heap}{mg:Str->Option Θ}{f wA:Addr}{oc kV dc pm ct cd:Θ}{od an wd:Option Addr}{sl ws:Array (Option Θ)}{t1 t2:Tok}{wn:Nat}(X:K.In h)(G:h.Ns mainGlobals mg)(bm:BM mg base)(a:nsIn K mainGlobals "way_of"=Φ (Φ (.ref f)))(l:K.lookup f=Φ ⟨oc,od,.func (fnOf "way_of" "way_of" (zaq zbS) (zam zbS) (zaa zbS) .none kV dc pm an cd ct),sl⟩)(c:codeIn K cd "way_of"=Γ)(k:keepIn K (.ref f)=Γ)(zi:nsIn K mainGlobals "isinstance"=Φ Ψ)(zs:nsIn K mainGlobals "str"=Φ Ψ)(zw:nsIn K mainGlobals "WAYS"=Φ (Φ (.ref wA)))(lw:K.lookup wA=Φ ⟨.type "tuple",wd,.seq (List.toArray [.str "oral" t1,.str "kings" t2]) wn,ws⟩):DefOk K mg tab prog 16 "way_of" ["thing"] 0\/PrimOk P w K mg base tab prog 16 "way_of" ["thing"] 0:=.inr ⟨⟨zhX,.way,_,_,rfl,rfl,rfl,mg_of X G a,k,(λj hj=>(Nat.le_zero.mp hj).symm▸(zc1 (st:=zbS) l c k).binds λ_ _ _ _ _ _=>usS λ_=>usZ rfl),λn hn _=>(zpy l c zpu (PySem.W.mg_none_of X G zi) (PySem.W.mg_none_of X G zs) (mg_of X G zw) lw rfl rfl rfl hn).mono (by lia)⟩⟩
def p_tally{P:ϊ}{w:ύ}{K:Frag}{h base:Heap}{mg:Str->Option Θ}{f cc:Addr}{oc kV dc pm ct:Θ}{od an:Option Addr}{sl:Array (Option Θ)}(X:K.In h)(G:h.Ns mainGlobals mg)(bm:BM mg base)(a:nsIn K mainGlobals "tally"=Φ (Φ (.ref f)))(l:K.lookup f=Φ ⟨oc,od,.func (fnOf "tally" "tally" (zaq zcC) (zam zcC) (zaa zcC) .none kV dc pm an (.ref cc) ct),sl⟩)(c:codeIn K (.ref cc) "tally"=Γ)(k:keepIn K (.ref f)=Γ)(e:codeHdIn K cc 187=Γ)(z:nsIn K mainGlobals "sorted"=Φ Ψ):DefOk K mg tab prog 7 "tally" ["words"] 0\/PrimOk P w K mg base tab prog 7 "tally" ["words"] 0:=.inr ⟨⟨zg0,.tally,_,_,rfl,rfl,rfl,mg_of X G a,k,(λj hj=>(Nat.le_zero.mp hj).symm▸(zc1 (st:=zcC) l c k).binds λ_ _ _ _ _ _=>usS λ_=>usZ rfl),λn hn _=>(zla l c e zk8 bm (by decide +kernel) (λp hp z=>by simp only[Mks.ts,mks,mem_cons,not_mem_nil,or_false]at hp;rcases hp with rfl|rfl<;>first|decide +kernel|exact absurd z (by decide)) (PySem.W.mg_none_of X G z) rfl rfl rfl hn).mono (by lia)⟩⟩
def lam_mem:(tab.lamP,("run":Str) ++ ".<locals>." ++ "<lambda>")∈Mks.ts:=by decide +kernel
def lam_one:∀p∈Mks.ts,p.1=tab.lamP->p.2=("run":Str) ++ ".<locals>." ++ "<lambda>":=by intro p hp z;simp only[Mks.ts,mks,mem_cons,not_mem_nil,or_false]at hp;rcases hp with rfl|rfl<;>first|decide +kernel|exact absurd z (by decide +kernel)
def lam_b:∀j,j<=1->∃n,(["hands","rounds","wires"]:List Str).length=n+j/\∀(d:Addr)(kV doc pm:Θ)(an:Option Addr)(cdv ct:Θ)(us:List Θ),us.length=n->∃k,bindArgs (fnOf "run" "run" (zaq zhr) (zam zhr) (zaa zhr) (.ref d) kV doc pm an cdv ct) ⟨us,[]⟩=seqItems? (.ref d)>>=k/\k (Φ [Θ.none].toArray)=pure ((["hands","rounds","wires"]:List Str).zip (us++List.replicate j Θ.none))
 |0,_=>⟨3,rfl,λ_ _ _ _ _ _ _=>usS λ_=>usS λ_=>usS λ_=>usZ ⟨_,rfl,rfl⟩⟩|1,_=>⟨2,rfl,λ_ _ _ _ _ _ _=>usS λ_=>usS λ_=>usZ ⟨_,rfl,rfl⟩⟩
end
end Kz
open PySem PySem.W PyProof.Rows
set_option maxRecDepth 100000 in
set_option maxHeartbeats 0 in
theorem PySem.Challenge.cw_traitorround_k74_kings_rings_holds : PySem.Challenge.rw_traitorround_k74_kings_rings.Holds := by
 w_on;o_law;k_head;(case hw=>w_witness2)
 k_fill
 refine R.walk_ofT (l:=PySem.Challenge.rw_traitorround_k74_kings_rings) (n:=63) (k:=24) (x:="_law_script") (sp:=λw=>R.spF _ (R.callF Kz.prog 12) 27) rfl (by decide) rfl ⟨rfl,by decide,by decide⟩ (λw h Y=>PySem.W.km_in_of Y) ?hT ?hK ?F (λ_ _ a ns hl hx tb=>R.law_spT hx tb (Kz.law_true ns hl))
 case hT=>intro w h Y p hp;simp only[R.Mks.ts,Kz.mks,mem_cons,not_mem_nil,or_false]at hp;rcases hp with rfl|rfl;exact PySem.W.km_tabs_of Y 187 (by simp);exact PySem.W.km_tabs_of Y 287 (by simp)
 case hK=>intro w p hp;simp only[R.Mks.ts,Kz.mks,mem_cons,not_mem_nil,or_false]at hp;rcases hp with rfl|rfl;exact⟨by with_unfolding_all rfl,191,by with_unfolding_all rfl⟩;exact⟨by with_unfolding_all rfl,291,by with_unfolding_all rfl⟩
 case F=>
  intro w mg fa h KX G hmg;apply R.all_of (n:=11) KX G hmg Kz.O41 (le_refl _)
  . (repeat' (first|exact trivial|apply R.AllAtG.cons|apply R.AllInG.cons))
    . apply R.clOk (c:=0) KX G rfl<;>first|k_is|((repeat' (first|exact trivial|apply R.AllAtG.cons|apply R.AllInG.cons))<;>k_is)
    . apply R.clOk (c:=1) KX G rfl<;>first|k_is|((repeat' (first|exact trivial|apply R.AllAtG.cons|apply R.AllInG.cons))<;>k_is)
  . (repeat' (first|exact trivial|apply R.AllAtG.cons|apply R.AllInG.cons))<;>k_is
  . (repeat' (first|exact trivial|apply R.AllAtG.cons|apply R.AllInG.cons))<;>(apply R.coOk;k_is)
  . intro base bm
    (repeat' (first|exact trivial|apply R.AllAtG.cons|apply R.AllInG.cons))
    . apply R.dOk KX G Kz.O26<;>k_is
    . apply R.dOk KX G Kz.O31<;>k_is
    . apply R.dOk KX G Kz.O36<;>k_is
    . apply R.dOk KX G Kz.O27<;>k_is
    . apply R.dOk KX G Kz.O38<;>k_is
    . apply R.dOk KX G Kz.O37<;>k_is
    . apply R.dOk KX G Kz.O40<;>k_is
    . apply Kz.p_tally KX G bm<;>first|k_is|with_unfolding_all rfl
    . apply R.dOk KX G Kz.O39<;>k_is
    . apply R.lOkD KX G bm Kz.O42 Kz.lam_mem Kz.lam_one Kz.lam_b<;>first|k_is|with_unfolding_all rfl
    . apply R.dOk KX G Kz.O35<;>k_is
    . apply R.dOk KX G Kz.O32<;>k_is
    . apply R.dOk KX G Kz.O19<;>k_is
    . apply R.dOk KX G Kz.O17<;>k_is
    . apply R.dOk KX G Kz.O34<;>k_is
    . apply R.dOk KX G Kz.O22<;>k_is
    . apply Kz.p_way_of KX G bm<;>first|k_is|with_unfolding_all rfl
    . apply R.dOk KX G Kz.O14<;>k_is
    . apply R.dOk KX G Kz.O30<;>k_is
    . apply R.dOk KX G Kz.O25<;>k_is
    . apply R.dOk KX G Kz.O21<;>k_is
    . apply R.dOk KX G Kz.O28<;>k_is
    . apply R.dOk KX G Kz.O15<;>k_is
    . apply R.dOk KX G Kz.O18<;>k_is
    . apply R.dOk KX G Kz.O33<;>k_is
    . apply R.dOk KX G Kz.O24<;>k_is
    . apply R.dOk KX G Kz.O29<;>k_is
    . apply R.dOk KX G Kz.O41<;>k_is
  . intro hc
    (repeat' (first|exact trivial|apply R.AllAtG.cons|apply R.AllInG.cons))
    . apply R.mOk (c:=0) hc Kz.O3 rfl rfl<;>k_is
    . apply R.mOk (c:=1) hc Kz.O11 rfl rfl<;>k_is
    . apply R.mOk (c:=1) hc Kz.O6 rfl rfl<;>k_is
    . apply R.mOk (c:=0) hc Kz.O10 rfl rfl<;>k_is
    . apply R.mOk (c:=0) hc Kz.O0 rfl rfl<;>k_is
    . apply R.mOk (c:=0) hc Kz.O2 rfl rfl<;>k_is
    . apply R.mOk (c:=0) hc Kz.O1 rfl rfl<;>k_is
    . apply R.mOk (c:=0) hc Kz.O4 rfl rfl<;>k_is
    . apply R.mOk (c:=1) hc Kz.O13 rfl rfl<;>k_is
    . apply R.mOk (c:=1) hc Kz.O7 rfl rfl<;>k_is
    . apply R.mOk (c:=0) hc Kz.O12 rfl rfl<;>k_is
    . apply R.mOk (c:=1) hc Kz.O16 rfl rfl<;>k_is
    . apply R.mOk (c:=1) hc Kz.O8 rfl rfl<;>k_is
    . apply R.mOk (c:=0) hc Kz.O5 rfl rfl<;>k_is
  . (repeat' (first|exact trivial|apply R.AllAtG.cons|apply R.AllInG.cons))
    . apply R.iOk (c:=0) Kz.O9 rfl<;>k_is
    . apply R.iOk (c:=1) Kz.O20 rfl<;>k_is
  . (repeat' (first|exact trivial|apply R.AllAtG.cons|apply R.AllInG.cons))
    . apply R.cOk KX G Kz.O23<;>k_is
  . (repeat' (first|exact trivial|apply R.AllAtG.cons|apply R.AllInG.cons))
  all_goals k_is
end

import PyProof.Rows.All
import Wide.All
import OpenK.AllK
import Wide.FinOn
import Lean
import PyProof.EqAt
import PyProof.EqKinds
import PyProof.TupleCall
import PyProof.P3Statements
import PySem.Syntax
import PyProof.Dict
import PyProof.Rows.SortRuns
import PySem.Challenge.RW_traitorround_k73_oral_rings
set_option Elab.async false
set_option linter.all false
set_option linter.deprecated false
set_option maxHeartbeats 4000000
set_option maxRecDepth 100000
set_option tactic.hygienic false
set_option bootstrap.genMatcherCode false
set_option genInjectivity false
set_option genSizeOf false
set_option genSizeOfSpec false
open Option renaming some→Φ,none→Ψ,bind_some→Ϛ
open Bool renaming true→Γ,false→Δ,and_eq_true→Λ,false_ne_true→Ε,false_eq_true→Ρ,not_true→Ϝ,or_eq_true→ϟ
open PySem renaming Value→Θ,wpAny_bind→Ξ,wpAny_pure→Β,Shared→Ζ,Program→Υ,sizeLine_eq→ϋ,World→ύ,Around→ϑ,wpAny_truthy_bool→ϒ,wpAny_mono→ϕ,wpAny_forIn_list→Ϡ,wpAny_call_entry→ϡ,wpAny_holding→Ϥ,wpAny_rule→ϧ
open PySem.Heap renaming get?_push_of_some→Ω,lt_size→Ι,get?_push_size→Μ
open List renaming getElem?_eq_some_iff→Α,map_cons→Ν,map_congr_left→Ο,mem_cons_of_mem→Τ,length_cons→Χ,mem_cons_self→ϊ,getD_eq_getElem?_getD→ό,zip_cons_cons→ϐ,find?_cons→ϖ,lookup_cons→ϗ,prefix_append→Ϙ,mapM_cons→Ϣ,length_take→ϣ,prefix_refl→Ϧ,length_range→Ϩ,length_nil→ϩ
open PyProof.Rows renaming wpS_bind→Η,wpS_pure→Κ,wpS_forRange→ϙ,wpS_mono→Ϟ,wpS_modify→ϥ
open Array renaming toList_append→ώ,getElem_toList→ϓ,getElem?_toList→ϔ
open PySem.Calls renaming spliced_cons→ϛ
open Int renaming toNat_natCast→ϝ
open PySem.W (Frag KatTups callWith_K callWith_K0 cellsFrom_some codeHdIn codeIn emptyDict findCls findIn fnOf handedIn hasDictIn instObj isFn kat_cons kat_no kat_one keepIn kia_one kitOne kitx_dict kitx_list kla_fn kla_obj lookIn makesIn methodObj mg_of mroIn nsIn plainGet plainGet_of plainOver readsIn specialIn tabObj takerIn takesIn)
open Bool (and_eq_true not_eq_true' or_eq_true)
open Nat (le_of_lt le_refl le_succ le_trans lt_irrefl lt_of_lt_of_le lt_trans ne_of_gt ne_of_lt zero_add zero_le)
open List (Pairwise all_cons all_eq_true any_cons append_assoc append_nil contains_cons getElem?_append_left getElem?_append_right getElem?_eq_getElem getElem?_map getElem?_set_ne getElem?_set_self isEmpty_iff length_append length_cons length_filter_le length_map length_nil length_range length_replicate length_take lookup_cons mapM_cons map_append map_cons map_map map_nil mem_append mem_append_left mem_append_right mem_cons mem_cons_of_mem mem_cons_self mem_filter mem_map mem_of_getElem? mem_range mem_singleton nodup_append nodup_cons not_mem_nil of_mem_zip pairwise_cons pairwise_map prefix_append prefix_refl size_toArray)
open Option (bind_some)
open Array (length_toList)
local macro_rules|`(tactic|lia)=>`(tactic|first|assumption|exact Nat.le_of_lt ‹_›|exact Nat.le_refl _|exact Nat.zero_le _|exact Nat.lt_of_lt_of_le ‹_› ‹_›|exact Nat.lt_of_le_of_lt ‹_› ‹_›|exact Nat.le_trans ‹_› ‹_›|exact Nat.lt_succ_of_le ‹_›|exact Nat.lt_succ_self _|exact Nat.le_succ _|exact Nat.le_succ_of_le ‹_›|exact Nat.add_sub_cancel' ‹_›|exact Nat.le_of_not_lt ‹_›|exact Nat.lt_of_not_le ‹_›|exact Nat.le_add_right _ _|exact Nat.le_add_left _ _|exact Nat.pos_of_ne_zero ‹_›|exact Nat.lt_of_succ_lt ‹_›|exact Nat.ne_of_gt ‹_›|exact Nat.sub_le _ _|exact Nat.lt_add_right _ ‹_›|exact Nat.le_trans (Nat.le_add_right _ _) ‹_›|exact Int.le_trans ‹_› ‹_›|exact Int.lt_of_lt_of_le ‹_› ‹_›|exact Int.lt_of_le_of_lt ‹_› ‹_›|exact Int.le_of_lt ‹_›|exact Int.natCast_nonneg _|cutsat)
structure PySem.W.Fast:Prop where(tw10051696281689541563 tw10225564799959746189 tw10242569517921892428 tw10275410307755305489 tw10299284384118896245 tw10461616412552669319 tw10475926622733060849 tw10515308304783524785 tw10706919855153526769 tw10737259722247663272 tw10741494629457861826 tw10780368971204447657 tw10895620304279147106 tw1095989046678112641 tw11008487480881189006 tw11170971868997774179 tw11361050316961589684 tw11398536814413211060 tw11521932276616433221 tw11700260414503556215 tw11851125685850042826 tw1185169576876401483 tw11955407483707902142 tw12124506737402645477 tw12161934536585824691 tw12223941782875997683 tw122594264769744442 tw12265138102992894513 tw12282779070779420249 tw12312952087227259652 tw12326361635514275813 tw12459676253830401637 tw12571407596910813279 tw12834269474237470568 tw12904472405630175777 tw12915521775394330704 tw12941180276193884021 tw12957086983654736518 tw12994567010553517205 tw13016559871895798662 tw13148232780173916218 tw13217291058091105855 tw13218256258538807027 tw13292901009129121265 tw13343625181339123298 tw1335102183561714369 tw13428327777863534770 tw13454899912694066493 tw1359962410480013758 tw13642853758786040828 tw1367565047718033432 tw13826322561828664576 tw13862382199573029057 tw1387619932537172965 tw13950390517471697074 tw14094216471298739095 tw14132005618002434664 tw14176131656719984765 tw14187594410101216961 tw14231647642818689118 tw14231833521265724816 tw14266710545416737003 tw14353974254984803447 tw14381356179820808206 tw14414451281847826227 tw14569299709912304365 tw1473051982095834867 tw14749001064660628076 tw15098787457507285809 tw15329782711032987822 tw15591479921565215699 tw15605600887799409611 tw15613413293077491634 tw15627374105163936318 tw15861110452003820823 tw15873049770124035645 tw1610877299428254089 tw16171992147102984952 tw16197159342855516049 tw16200983803211018522 tw166529278402512695 tw1669173682501223368 tw16770418831704003752 tw16874558121727381090 tw16894814555642357827 tw1709818801234570109 tw17423247348964185084 tw17430243811866954132 tw17459999602001872657 tw17463010611931636809 tw17490288368715419906 tw17521036673370757406 tw17567416954565165082 tw17579839578298568530 tw17651802655591419420 tw17710597934065433110 tw17731815884016932925 tw17756552994637710925 tw17822804382747217979 tw17824167740773867426 tw17874505182478857804 tw17930084571256000008 tw17966138269545090166 tw18127840567900298069 tw18195477714287011736 tw18197101769551238867 tw1824870043564625936 tw18257549399178113421 tw1832184406165439696 tw18360612467231572519 tw18427327425703205321 tw2005307414841774859 tw2015852314064369862 tw2129780708547576291 tw2177105404270410002 tw2197325163540442237 tw2300716969652320309 tw2317269242722056985 tw2417363280329303878 tw2537318107205013486 tw2755316204155053697 tw2813751041561025411 tw285583442631260167 tw2954167196495328817 tw320845725314002699 tw3303782369431647095 tw3346497702297446699 tw342429867045610818 tw3439921624506330280 tw3444717220439296798 tw3472315256842128472 tw3474191520145799934 tw352399663626431750 tw3663008354833180010 tw3809149073701159846 tw3822758044848098323 tw385618568377103620 tw3924435974816138123 tw3960123025034359236 tw4009897776466449586 tw4121629727204137805 tw4384997535980823508 tw4421831408113681305 tw4489802645042838706 tw4495486014969247159 tw4570814877307399343 tw4647522343757121097 tw4662344326535978775 tw4696287206382711994 tw4727917122721137699 tw4870136813510192439 tw4938866519222256866 tw4971670491947655068 tw5002157847517476683 tw5090532027618460698 tw5170809657383904052 tw5245094441175065520 tw529791881134921493 tw5424565792639483435 tw5460674478583548522 tw5561071387577516112 tw5564297620039321804 tw5601880652627191036 tw5722101856901148528 tw6200693058400743245 tw6203271818540266087 tw6284061165198405364 tw6432445571954108411 tw6452453812513601971 tw6573322552480125751 tw666918170662575667 tw6715588414832532377 tw6719214725132035934 tw6722017082111422058 tw6743699165101128043 tw6748658270147869574 tw6832374849973151930 tw68493319697529176 tw6874819146170347943 tw6928057926876322194 tw6929984153655040974 tw6960710186532930361 tw7058994928622539614 tw7139037269581043227 tw7284498084427250327 tw7284755521676835977 tw729181709996983978 tw7437541009506508008 tw7471228894840898969 tw7487390688376555931 tw7583172531790946916 tw7720687725807352525 tw7798873195628024706 tw7845986063647636069 tw7899685944050733879 tw7975791388425211704 tw8044224544343581737 tw8118215944817618879 tw837110128803080258 tw8403288224450002956 tw8454994305621713940 tw8525122851162927879 tw852552907967126835 tw8567876123333600194 tw8651612464375338860 tw8794531125650901326 tw9223397448388392885 tw9424236543432493765 tw9473050474931131159 tw9565250195276684528 tw9585404971723435177 tw9652744247485663544 tw9666393427572745912 tw9756801955502641612 tw9852391119743034230 tw9854806673643529995 tw9856124266036217441 tw9909378977805024415 tw9995363144660700412 tw12279321790283918382 tw1704040805583442591 tw3007898039645973362 tw11638231304906208698 tw10911986166596500589 tw1202778949829747617 tw14059266906649193701 tw14114666770765225838 tw14629346112973917330 tw15998674165109144380 tw16438364780588146063 tw17199001225552974333 tw2295723254762037707 tw2891168025788806260 tw4993395564161606087 tw5009735846462778967 tw5739652914749501398 tw5969780560533320279 tw6492521081105257411 tw11171774393669052577 tw11880175548455751080 tw12367119694126526479 tw13210270426550351939 tw1624430415567432767 tw17884762993718957942 tw1824617045011628953 tw3909253400979143542 tw9387641304724377754 tw9521800258254783639 tw6476010353652851202 tw1079160846249312809 tw10829565538980749788 tw11105202553489779690 tw1119452369731032038 tw11462055723911558567 tw13737455359257926318 tw14579380107231485582 tw16183668356154924638 tw16886263220264949180 tw2798782301155597824 tw5001846519215328311 tw6779966043577349023 tw761038449775182056 tw7843202219968999379 tw8715204150324675404 tw9653015908822376487 tw5043805255196105791 tw7004937742746171756 tw13875324560798238957 tw10317361553850989684 tw11329777554767052495 tw11479235597786358057 tw1152248436111939895 tw12970725886018564519 tw14798896036857247546 tw17754541473255466173 tw18406921055701945009 tw2370736178141334161 tw4475306815392754578 tw4947273454566437789 tw5345126834578364703 tw58076042266544413 tw6218540484453930140 tw8770669000828980191 tw9187606447456168879 tw15372279514199139940 tw2992545563019512406 tw16108645100160728027 tw10224789766621389903 tw13915929498002357074 tw17053606746395751039 tw2211203537481195191 tw265361955964123797 tw2923030475599098270 tw3617880500286201600 tw3765694816246060232 tw3869476771445011466 tw4694342397590577623 tw5185308906686191636 tw5231732237485451814 tw6003178104923770763 tw7680358346688473835 tw7948136346721480175 tw7964633756605784370 tw8642655620142409431 tw9650283625307330833 tw9979948131375804323 tw18399007716767855085 tw2354409204339779549 tw5221214558538221261 tw704376330928088389 tw7451924313476452720 tw859850692729341798 tw886117557297111068 tw10555479862435853702 tw13513513223150676353 tw17295634074325311992 tw18077419925482711426 tw1428457071789724964 tw1428369912349053377 tw17156109823003052662 tw16058853953904188045 tw18087280964770658812 tw3645969679877010144 tw4977053894565258485 tw9671008863694712697 tw15049028412833803309 tw280523204811547338 tw7524080572650620972 tw10697221359112196768 tw15602275824168164151 tw17911425894656057541 tw18257526639661987945 tw6457759741478996868 tw11047783116283404694 tw11321576339938100258 tw11580594775744049350 tw11768809750312875518 tw12959585759875772002 tw14066341232397131814 tw16650400698051471217 tw18235637282003363457 tw18296735522128231471 tw3938614574917792751 tw7782377559829777494 tw9870022856405386679 tw4918032567963183114 tw616028150006917045 tw6418272402363619720 tw12687120155006361781 tw14802995180346930983 tw3903851372403759647 tw4730324858931830083 tw7302802014996857993 tw7339426868945322798 tw2135576414345912883 tw10865112198018309394 tw13874507809436825728 tw5210414290841344512 tw11972980307782638344 tw13387991423944524847 tw5054889669637837578 tw7106752156261111799 tw17057189048131066227 tw6282792738329002042 tw17959897295224934943 tw1987331929865621518 tw2708137390668170289 tw693380807035427950 tw14771648327296078423 tw2918941133831096409 tw14583071258634543880 tw2219855891498412540 tw393400040036347927 tw11482868776228335127 tw12467921145657256468 tw16188926577220097878 tw16632172112230752994 tw17096486517237475085 tw11714688033938304702 tw16204154472869743678 tw13991977927973322314 tw4184682153848874405 tw14427273859086105404 tw3837101700042927483 tw2423974538323864674 tw5615061254308990921 tw5704851950244268496 tw13201855722105294182 tw17527417744740208806 tw12074211320291938114 tw18146448098578081331 tw11823137557949429500 tw2868733356940149018 tw17117655982041301803 tw2432240423287082556 tw14642872284462653073 tw12247567206057299104 tw3397965427433883935 tw506829606597124360 tw12734849430131207400 tw17888915395868605404 tw12034078463591666492 tw15726317435663424852 tw1749872801258648643 tw6765718317983187469 tw15002793115514618680 tw13452136636472754120 tw5379896893687008922 tw3868475381073867606 tw13602666327431552192 tw8926113033168464540 tw11443310368016989529 tw2604753059919600492 tw4387876411021114117 tw5701156621572101151 tw11443846010915856758 tw6107076499472315313 tw6483865038218449909 tw7387071259041640132 tw9945552247281398625 tw1004169490388587221 tw13478830465970110738 tw16177400957857120340 tw5752815915576370706 tw17727613238326478152 tw15437616724167394609 tw12235316271873578166 tw4118791073232611029 tw12069555547872346753 tw17845565280712917923 tw9947064044971160361 tw15581197666606299925 tw2928109277549328411 tw9532072006124487752 tw17053317919179652331 tw12228995958945375640 tw10566636643822178644 tw16160686161339099225 tw17264526667838313307 tw18003836194268702199 tw3158164589963256623 tw1765497886424610125 tw10523490211738932286 tw6604164363199776408 tw3968444643419705087 tw1644490085109789551 tw16858372559910105823 tw10303286173441137178 tw13352466880544289314 tw12251242977342151650 tw15668372672249056058 tw2824738616364415062 tw6695718360755802814 tw4217839156605656587 tw7187966189949499386 tw11574794596708651530 tw14837905391292386193 tw6060244143931465356 tw14331612016778532104 tw2615875100842919186 tw435647122439289587 tw4854737818057674221 tw10779051870849671362 tw13956143736336563566 tw7165583737375212482 tw9840536288562579638 tw1183754559963091488 tw12495637919562638614 tw6827308679687035993 tw9748385870028001883 tw17704420665452613458 tw14048208950834837449 tw16713996073790654664 tw9335939432724174449 tw13503045552781810573 tw4394350837896949557 tw4859579082107097219 tw11716148228055505232 tw1692219885854505665 tw5553585963027874738 tw7207719598696513289 tw15450728732939584628 tw11742832793880863690 tw1383768894234857645 tw2743678301801754263 tw18258097363981107883 tw4025733085978055339 tw12315147193547707127 tw13999165930818879746 tw2249012351612938080 tw3722393730172247510 tw3934507948402869509 tw4493425540501154837 tw611873929599152863 tw8770368163742475408 tw958003361802483192 tw16187740666030377241 tw8347449686123957569 tw2552871276873479548 tw13051534733969973429 tw11139504355796771115 tw13747974055606045654 tw15337589673000560345 tw7068755430702867783 tw8025611333318212252 tw6437539862091694557 tw12377856361995036247 tw15065413297577444375 tw5157451640785096476 tw7532918465382528480 tw17789066040049378702 tw6273786487323490306 tw2941232443526429315 tw8467997677846127410 tw10442979438399019113 tw104900883648872470 tw7837799894249889539 tw1097057053344802777 tw17233639694142546916 tw18226193341788215300 tw14600756445096389111 tw17861244862645693281 tw8979930961845217035 tw9405034406341240562 tw9762425945590734517 tw4358785940381483817 tw10081519047999859987 tw1745635583833615517 tw3296622936540697894 tw12168991129218628477 tw12823247037782754854 tw14009579752457521008 tw17082756734331284848 tw6801019437411519215 tw6822791588052485815 tw7453045647818171145 tw5220281365493788874 tw4643471532212842572 tw12672185354099069393 tw13584235846545448054 tw18110277296556173726 tw3036414061112830681 tw5323084887553266920 tw5490593169740250967 tw6085726851677282478 tw16130848227046308991 tw9478126644552939895 tw12813785327778859552 tw5585292663465588220 tw7029024119289646943 tw5328434423118498210 tw14130350485417032560 tw11112818593158867642 tw7885903394487151122 tw12076163108869834481 tw11187615858868504143 tw4665455153382704292 tw17697146836600589006 tw12707720425790880720 tw1752288031074336866 tw3698013102123482734 tw17100086653624716395 tw8237345265913539058 tw15552148527342281695 tw10245926462553517600 tw14734554544836971785 tw11933685873967989511 tw1738612500761370747 tw13732566617441488320 tw9666334521006717049 tw6989133996714114213 tw11378901574704568212 tw4591400950893616346 tw10263785159180953964 tw14442392764056246818 tw11284585844690229089 tw15479259615228971117 tw10720038451168777646 tw14994938568925623476 tw1660491273603868844 tw4014825981730435330 tw6013615467552511176 tw6642101050067670245 tw15783968924901996406 tw10250674471205926357 tw10798739722561109920 tw9273757420327369004 tw11458592384524382035 tw14127186230065254513 tw15052369648006976772 tw15548066881654938508 tw373998654955314962 tw2967870636057261459 tw5968853217923243375 tw17001501589296533339 tw7938309583472123393 tw4386019605452092359 tw4005312168776259854 tw5233512622342083977 tw11614964947278719557 tw9436584145220005154 tw14658449229330417103 tw10805987658125377632 tw8957794807143217429 tw12289105396688899464 tw353059488757400748 tw4723193302770915315 tw2884147794720498191 tw1237672244867914146 tw1323253759431478957 tw14484263988908642670 tw13381615337540388086 tw1335151708377758979 tw15696253622449016091 tw18126438256108635243 tw5089579746628724186 tw2778139217593272515 tw6056156407962462962 tw11956497298857865184 tw5833264014981012358 tw10137258935258740598 tw18239071071312779770 tw10157702455559540375 tw9328054086633471300 tw10228595176449212075 tw16924420184718022608 tw14537087479936464969 tw57103712974792505 tw2320973151495878318 tw11580873518869966132 tw15524363724748633465 tw15123795100854333896 tw11842558704281374703 tw2620779617819309340 tw3967722593150718499 tw1203404717494938965 tw17126366667166398656 tw3266671108513193260 tw3700555401514833576 tw7729368839149802342 tw11557629032356437228 tw3330395688712486944 tw5937804996564335977 tw8924783018388752188 tw291404659094908175 tw11382762121081033370 tw6947526831506021036 tw8335623317833229260 tw13038311998311428284 tw8326896941395805236 tw9896306909717920744 tw6651850728602489631 tw521717098682994878 tw16719661091767358145 tw4151279768564531257 tw14661930737576313284 tw10069471720828034796 tw17083957208751076937 tw8728958253384392743 tw3475762656409342162 tw16393070370761293851 tw7678529031388667851 tw654574315436717760 tw15016607653778806733 tw16816750085439272555 tw13724591589301713684 tw4176636278071171606 tw7234710135606196479 tw12705082527392688560 tw10592386785799690210 tw16945558062667917265 tw12153504283935071603 tw11157524753460435104 tw4041530671094847542 tw11476884308155476342 tw4068377893592323829 tw7689696405749629127 tw16455533615637607721 tw6917390872956969373 tw5800171843378264190 tw10985105269608838483 tw13513331395882137331 tw18132476249546748339 tw10122725194466643045 tw677373663621754462 tw9304797895066025057 tw9393270816989681613 tw9877510861725854609 tw12907912306486590383 tw3755977360211863176 tw10549089015326388479 tw3226776743560613938 tw1494507271872792288 tw7838076466018928820 tw3792064142250164397 tw14683669214718755955 tw6385856822801813501 tw331373677709950432 tw1988419119596981488 tw17658660285658058022 tw7288316008477669145 tw8920499685132548361 tw13301795717758822407 tw9808582364464536198 tw6886826472463658244 tw12642948412748041990 tw11750259332931018698 tw8532543603802764697 tw1511331855343244589 tw714688976170774898 tw639320834100907009 tw2373343334955695187 tw8267807163466373660 tw11088257245808635595 tw11293231873589118487 tw8113897075105391089 tw9129888495623054941 tw15318354316830389729 tw4331324441638492041 tw6451263522704747953 tw4413352481898809031 tw1005346472354399222 tw15704400261900478123 tw16109387867393527589 tw14497197672351522058 tw2324838586379792359 tw9884930685538036228 tw5438619992330117577 tw11852630392536472724 tw5189723183662898096 tw13733293155813312496 tw17438338895334107077 tw7505964543255225934 tw8895661442469554837 tw13424394729798422802 tw12410505459540824500 tw7814912390019051112 tw762393337006983575 tw14050566049313187419 tw918323055593428498 tw11953645137841502671 tw2112694863130058092 tw13576369882857919696 tw13581009995633163846 tw6827736948796414735 tw1192697753021327398 tw15239273491814934978 tw2066392791960637716 tw9854000610897484074 tw1092586491996921995 tw7073096003682789941 tw12641543322829828469 tw16173427101355549502 tw5498562994142683157 tw5902814760047236510 tw4397529733537747833 tw13186562962872527164 tw14915398407511236931 tw11792307011963304738 tw14327621679330771693 tw13079216148442301428 tw15945860888526543538 tw15324556461048666651 tw15164442845825341473 tw10680422896143823343 tw9755523762639204001 tw13240031879607039430 tw1421329402796095457 tw6620130967469356331 tw5776932112466397650 tw16605514609614082323 tw7564810936101550695 tw5577327636637995512 tw7533835201945221783 tw11797649184348997957 tw14206765638750670181 tw9648174453314829704 tw16357740477300930128 tw10202804637928058041 tw11230303137536186608 tw17988154656371765626 tw17474134833675457047 tw8581938995832339073 tw2374713156217001482 tw9720688463630153256 tw7960532532614101104 tw11346219982205525325 tw16325318933513517294 tw3749711800379007756 tw4772663462229373648 tw2806562957640444217 tw16497642495890073986 tw3209850569987208257 tw17527585473139599038 tw10936751589227774982 tw10617763359816954287 tw10026584259137046442 tw8348422687197900601 tw3882351126195055220 tw6800344782290134463 tw6085196978005250637 tw4921959624327867620 tw849161400527686968 tw14961640554871342168 tw1606124466227242294 tw5649480109561978509 tw3586199612325616061 tw9080501688067522823 tw1973383437418623903 tw10540385495669176688 tw13471856891310871435 tw10071086238763510179 tw11023441945811587078 tw9763707832136656108 tw10376061590073652941 tw6964750903427082074 tw9976774090667391488 tw10364179874920553525 tw5158630476372807425 tw13300496951048663813 tw17321825095231985327 tw12641936535828709803 tw7463544813548299822 tw7529157103630914872 tw16371500306005417756 tw13566419488216018439 tw4954145107786380194 tw4007605746372148855 tw2095802592623317271 tw16217967351215037208 tw1326670126079279447 tw7628922869414925698 tw16751418190582331950 tw14532606390475403584 tw8694821716428857495 tw10248835883791799543 tw3490176883703627235 tw16323970141539401643 tw4784907570535635704 tw17835276226642166152 tw1667084716880048271 tw17442614075659712983 tw7036163811467540328 tw7073042090875307524 tw6001406901282676139 tw18423601868590442643 tw11799914320498971470 tw117849262937068690 tw14461198332809714000 tw387230776030024977 tw13744359231916738769 tw11811989732475544216 tw11874167891024157325 tw2296035969783039234 tw3367882091286044266 tw12987490986905122317 tw16324691990553171203 tw4922523076684061770 tw16460658955070942681 tw17381449732124563054 tw13961994298183943207 tw6299522646202206227 tw10358805516310537061 tw4561565651615237287 tw14199669958964520213 tw4178045859396033688 tw2415739046648414258 tw2595019737213958705 tw15037339288703279352 tw5759873765140894473 tw22953437924062082 tw4129275683950328448 tw15188914762558582316:True)
theorem nS{b:Type _}{a:b}{P:Prop}(h:Ψ=Φ a):P:=by cases h
theorem nB{P:Prop}(h:Δ=Γ):P:=by cases h
theorem usS{b:Type}{P:List b->Prop}(h:∀a,∀us:List b,us.length=n->P (a::us)):∀us:List b,us.length=n+1->P us:=λus e=>by cases us with|nil=>cases e|cons a us=>exact h a us (Nat.succ.inj e)
theorem usZ{a:Type}{P:List a->Prop}(h:P []):∀us:List a,us.length=0->P us:=λus e=>by cases us with|nil=>exact h|cons=>cases e
theorem eY{c d:Type _}{p q r:c->d->Prop}{P:Prop}(h:∃a b,p a b/\q a b/\r a b)(k:∀a b,p a b->q a b->r a b->P):P:=h.elim λa h=>h.elim λb h=>k a b h.1 h.2.1 h.2.2
namespace L2
open PySem PySem.Spec PyProof.Rows
abbrev Key:=Sum Int Str
noncomputable def zgS:Key->Θ->Bool
 |.inl k,v=>Θ.isInt k v|.inr x,v=>Θ.isStrOf x v
noncomputable def keyH(w:ύ):Key->Int
 |.inl k=>hashInt k|.inr x=>hashStr w x
theorem zat:∀{k:Key}{v:Θ},zgS k v=Γ->(∃i t,k=Sum.inl i/\v=Θ.int i t)\/(∃x t,k=Sum.inr x/\v=Θ.str x t)
 |.inl i,v,h=>by obtain⟨t,e⟩:=Θ.isInt_shape (k:=i) (v:=v) h;exact .inl ⟨i,t,rfl,e⟩| .inr x,v,h=>by obtain⟨t,e⟩:=Θ.isStrOf_shape (x:=x) (v:=v) h;exact .inr ⟨x,t,rfl,e⟩
theorem zkc(i)(t):zgS (.inl i) (.int i t)=Γ:=by simp[zgS,Θ.isInt]
theorem zkb(x)(t):zgS (.inr x) (.str x t)=Γ:=by simp[zgS,Θ.isStrOf]
theorem zrx(a b):decide ((Sum.inl a:Key)=Sum.inl b)=(a==b):=by by_cases e:a=b;subst e;simp;have h:¬(Sum.inl a:Key)=Sum.inl b:=λq=>e (Sum.inl.inj q);rw[decide_eq_false h];exact(beq_eq_false_iff_ne.mpr e).symm
theorem zru(a b):decide ((Sum.inr a:Key)=Sum.inr b)=decide (a=b):=by by_cases e:a=b;simp;have h:¬(Sum.inr a:Key)=Sum.inr b:=λq=>e (Sum.inr.inj q);rw[decide_eq_false h,decide_eq_false e]
theorem zrw(a)(b):decide ((Sum.inl a:Key)=Sum.inr b)=Δ:=decide_eq_false (λq=>by cases q)
theorem zrv(a)(b):decide ((Sum.inr a:Key)=Sum.inl b)=Δ:=decide_eq_false (λq=>by cases q)
noncomputable def zam(prog:Υ)(w:ύ):PySem.KeyKind prog w Key where
 is:=zgS
 hash:=keyH w
 inj:=λv a b ha hb=>by rcases zat ha with⟨i,t,rfl,rfl⟩|⟨x,t,rfl,rfl⟩;rcases zat hb with⟨j,u,rfl,e⟩|⟨y,u,rfl,e⟩;injection e with e1 _;rw[e1];exact nomatch e;rcases zat hb with⟨j,u,rfl,e⟩|⟨y,u,rfl,e⟩;exact nomatch e;injection e with e1 _;rw[e1]
 byValue:=λk v h=>by rcases zat h with⟨i,t,rfl,rfl⟩|⟨x,t,rfl,rfl⟩<;>rfl
 pyHash:=λhv h=>by rcases zat hv with⟨i,t,rfl,rfl⟩|⟨x,t,rfl,rfl⟩;exact wpAny_pyHash_int h;exact wpAny_pyHash_str h
 eqBool:=λhu hv h=>by rcases zat hu with⟨i,t,rfl,rfl⟩|⟨x,t,rfl,rfl⟩;rcases zat hv with⟨j,u,rfl,rfl⟩|⟨y,u,rfl,rfl⟩;rw[zrx]at h;exact wpAny_eqBool_int h;rw[zrw]at h;exact SeqAt.EqAt.int_str i t y u _ _ _ _ h;rcases zat hv with⟨j,u,rfl,rfl⟩|⟨y,u,rfl,rfl⟩;rw[zrv]at h;exact SeqAt.EqAt.str_int x t j u _ _ _ _ h;rw[zru]at h;exact wpAny_eqBool_str h
 «strs»:=λk x t v h=>by
  rcases zat h with⟨i,u,rfl,e⟩|⟨y,u,rfl,e⟩;exact nomatch e
  . injection e with e1 _;subst e1;cases v<;>rfl
theorem zgM(prog)(w)(i)(t):(zam prog w).is (.inl i) (.int i t)=Γ:=zkc i t
theorem zgL(prog)(w)(x)(t):(zam prog w).is (.inr x) (.str x t)=Γ:=zkb x t
set_option genInjectivity true in
inductive V where
 |non|bl (b:Bool)|int (i:Int)|str (x:Str)|byt (b:Array UInt8)|flt (b:UInt64)|ref (a:Addr)|ty (n:String)
 deriving DecidableEq
def RelV:V->Θ->Prop
 |.non,u=>u=Θ.none|.bl b,u=>u=Θ.bool b|.int i,u=>∃t,u=Θ.int i t|.str x,u=>∃t,u=Θ.str x t|.byt b,u=>∃t,u=Θ.bytes b t|.flt b,u=>∃t,u=Θ.float b t|.ref a,u=>u=Θ.ref a|.ty n,u=>u=Θ.type n
abbrev Vals:List V->List Θ->Prop:=Paired RelV
theorem Vals.length(r:Vals xs us):xs.length=us.length:=Paired.length r
theorem Vals.get:∀{xs:List V}{us:List Θ}{i:Nat}{x:V},Vals xs us->xs[i]?=Φ x->∃u,us[i]?=Φ u/\RelV x u
 |_,_,_,_,.nil,e=>by simp at e|_,_,0,_,.cons r _,e=>by simp at e;subst e;exact⟨_,rfl,r⟩| _,_,i+1,x,.cons _ t,e=>by obtain⟨u,a,b⟩:=Vals.get (i:=i) (x:=x) t (by simpa using e);exact⟨u,by simpa using a,b⟩
theorem Vals.set(r:RelV x u):∀{xs:List V}{us:List Θ}(i:Nat),Vals xs us->Vals (xs.set i x) (us.set i u)
 |_,_,_,.nil=>.nil|_,_,0,.cons _ t=>.cons r t|_,_,i+1,.cons q t=>.cons q (Vals.set r i t)
theorem Vals.append:∀{xs ys:List V}{us a:List Θ},Vals xs us->Vals ys a->Vals (xs++ys) (us++a)
 |_,_,_,_,.nil,s=>s|_,_,_,_,.cons r t,s=>.cons r (Vals.append t s)
theorem Vals.take:∀{xs:List V}{us:List Θ}(n:Nat),Vals xs us->Vals (xs.take n) (us.take n)
 |_,_,0,_=>.nil|_,_,_+1,.nil=>.nil|_,_,n+1,.cons r t=>.cons r (Vals.take n t)
theorem Vals.drop:∀{xs:List V}{us:List Θ}(n:Nat),Vals xs us->Vals (xs.drop n) (us.drop n)
 |_,_,0,r=>r|_,_,_+1,.nil=>.nil|_,_,n+1,.cons _ t=>Vals.drop n t
def RelO:Option V->Option Θ->Prop
 |some v,Φ u=>RelV v u|none,Ψ=>True|_,_=>False
def KV{κ:Type}:List (κ×V)->List (κ×Θ)->Prop:=Paired λ(p:κ×V) (q:κ×Θ)=>p.1=q.1/\RelV p.2 q.2
noncomputable def kV:Key->V
 |.inl i=>.int i|.inr x=>.str x
inductive HO where
 |lst (xs:List V)
 |tup (xs:List V)
 |dK (kvs:List (Key×V))|dT (kvs:List (List Key×V))
 |set (S:Int->Bool) (n:Nat)
 |ins (C dx:Addr) (fs:List (Str×V))
 |own (x:Addr)
 |xd (fs:List (Str×V))
 |met (f x:Addr)
 |rng (lo hi:Int)
 |frz (o:Obj) (u:HO)
 |tbl (ps:Array Θ)
 |ext (φ:Heap->Prop)
abbrev Hp:=Addr->Option HO
noncomputable def upd(H:Hp)(a:Addr)(o:HO):Hp:=λb=>if b=a then Φ o else H b
theorem zaj:upd H a o a=Φ o:=by unfold upd;rw[if_pos rfl]
theorem zai(h:b≠a):upd H a o b=H b:=by unfold upd;rw[if_neg h]
theorem ne_of{H:Hp}(h:H a=Φ o)(h':H b=Φ u)(d:o≠u):a≠b:=by intro e;subst e;rw[h]at h';exact d (Option.some.inj h')
theorem zal{H:Hp}(h:H a=Φ o)(h':H b=Ψ):a≠b:=by intro e;subst e;rw[h]at h';cases h'
section
variable(P:Υ)(w:ύ)
def ObjOk(H:Hp)(h:Heap)(a:Addr):HO->Prop
 |.lst d=>d.length<=sizeLine/\∃(b:List Θ) (n:Nat),Vals d b/\h.get? a=Φ {cls:=.type "list",data:=.seq b.toArray n}|.tup d=>d.length<=sizeLine/\∃b:List Θ,Vals d b/\IsTup h a b.toArray|.dK c=>c.length<=sizeLine/\(a==sysModules)=Δ/\∃k,KV c k/\h.DictOf (zam P w) a k
 |.dT c=>c.length<=sizeLine/\(a==sysModules)=Δ/\∃d:List (List Key×Addr×Θ),
  Paired (λ(p:List Key×V) (q:List Key×Addr×Θ)=>p.1=q.1/\H q.2.1=Φ (.tup (p.1.map kV))/\RelV p.2 q.2.2) c d/\
  ∃o l s,h.get? a=Φ o/\o.ExactDict/\o.data=.dict l s/\l.toList=d.map (entryOfKey (tupleKind (zam P w)))/\(d.map (·.1)).Nodup
 |.set S n=>h.SetOf (intKind P w) a S n
 |.ins C i g=>H i=Φ (.own a)/\g.length<=1000/\i≠a/\h.get? a=Φ (instObj C i)/\
  ∃e,h.Ns1 i e/\(∀f,RelO (g.lookup f) (e f))/\PySem.Within e (g.map (·.1))
 |.own _=>∃o,h.get? a=Φ o|.xd g=>∃e,h.Ns1 a e/\∀f,RelO (g.lookup f) (e f)|.rng lo y=>∃t u v,h.get? a=Φ {cls:=.type "range",data:=.fields #[.int lo t,.int y u,.int 1 v]}|.frz o u=>h.get? a=Φ o/\ObjOk H h a u|.tbl z=>h.get? a=Φ {cls:=.none,data:=.fields z}|.met f x=>h.get? a=Φ (methodObj (.ref f) (.ref x))|.ext j=>j h/\(∃o,h.get? a=Φ o)/\∀m r:Heap,j m->(∀o,m.get? a=Φ o->r.get? a=Φ o)->j r
def HOk(H:Hp)(h:Heap):Prop:=∀a o,H a=Φ o->ObjOk P w H h a o
end
section
variable{P:Υ}{w:ύ}{H H':Hp}{h h':Heap}{a:Addr}{o:HO}
theorem ObjOk.lt(x:ObjOk P w H h a o):a<h.objs.size:=by cases o with|lst c=>obtain⟨_,_,_,_,e⟩:=x;exact Ι e|tup c=>obtain⟨_,_,_,p⟩:=x;exact p.lt|dK b=>obtain⟨_,_,_,_,o,_,_,e,_⟩:=x;exact Ι e|dT b=>obtain⟨_,_,_,_,o,_,_,e,_⟩:=x;exact Ι e|set S n=>obtain⟨o,_,_,_,e,_⟩:=x;exact Ι e|ins C g d=>obtain⟨_,_,_,e,_⟩:=x;exact Ι e|own y=>obtain⟨_,e⟩:=x;exact Ι e|xd d=>obtain⟨_,⟨_,_,_,e,_⟩,_⟩:=x;exact Ι e|rng lo i=>obtain⟨_,_,_,e⟩:=x;exact Ι e|frz j u=>obtain⟨e,_⟩:=x;exact Ι e|tbl k=>exact Ι (show h.get? a=Φ _ from x)|met f y=>exact Ι (show h.get? a=Φ _ from x)|ext l=>obtain⟨_,⟨_,e⟩,_⟩:=x;exact Ι e
theorem Paired.mapP{c:List e}{d:List g}(h:Paired F c d)(f:∀a b,F a b->G a b):Paired G c d:=by induction h with|nil=>exact .nil|cons r _ i=>exact .cons (f _ _ r) i
theorem ObjOk.stay(x:ObjOk P w H h a o)(k:∀b u,(b=a\/H b=Φ (.own a))->h.get? b=Φ u->h'.get? b=Φ u)
  (E:∀b,H b=Φ (.own a)->H' b=Φ (.own a)) (G:∀b xs,H b=Φ (.tup xs)->H' b=Φ (.tup xs)):ObjOk P w H' h' a o:=by
 induction o with|lst xs=>obtain⟨z,l,n,r,e⟩:=x;exact⟨z,l,n,r,k _ _ (.inl rfl) e⟩|tup xs=>obtain⟨z,l,r,g,e,c⟩:=x;exact⟨z,l,r,g,k _ _ (.inl rfl) e,c⟩|dK m=>obtain⟨z,y,I,r,g,i,j,e,c⟩:=x;exact⟨z,y,I,r,g,i,j,k _ _ (.inl rfl) e,c⟩| dT m=>obtain⟨z,y,xs,r,g,i,j,e,c⟩:=x;exact⟨z,y,xs,Paired.mapP r λp q z=>⟨z.1,G _ _ z.2.1,z.2.2⟩,g,i,j,k _ _ (.inl rfl) e,c⟩|set S n=>obtain⟨g,i,j,t,e,c⟩:=x;exact⟨g,i,j,t,k _ _ (.inl rfl) e,c⟩| ins C O J=>obtain⟨d,z,L,e,s,⟨A,i,j,M,c⟩,r⟩:=x;exact⟨E _ d,z,L,k _ _ (.inl rfl) e,s,⟨A,i,j,k _ _ (.inr d) M,c⟩,r⟩|own y=>obtain⟨g,e⟩:=x;exact⟨g,k _ _ (.inl rfl) e⟩|xd J=>obtain⟨s,⟨A,i,j,e,c⟩,r⟩:=x;exact⟨s,⟨A,i,j,k _ _ (.inl rfl) e,c⟩,r⟩|rng lo Q=>obtain⟨t,u,v,e⟩:=x;exact⟨t,u,v,k _ _ (.inl rfl) e⟩|frz g u N=>obtain⟨e,q⟩:=x;exact⟨k _ _ (.inl rfl) e,N q⟩| tbl B=>have e:h.get? a=Φ {cls:=.none,data:=.fields B}:=x;show h'.get? a=Φ {cls:=.none,data:=.fields B};exact k a _ (.inl rfl) e| met f y=>have e:h.get? a=Φ (methodObj (.ref f) (.ref y)):=x;show h'.get? a=Φ (methodObj (.ref f) (.ref y));exact k a _ (.inl rfl) e|ext T=>obtain⟨p,⟨o,e⟩,st⟩:=x;exact⟨st _ _ p λo q=>k _ _ (.inl rfl) q,⟨o,k _ _ (.inl rfl) e⟩,st⟩
theorem HOk.lt(x:HOk P w H h)(e:H a=Φ o):a<h.objs.size:=(x a o e).lt
theorem HOk.fresh(x:HOk P w H h)(e:h.objs.size<=a):H a=Ψ:=by cases q:H a with|none=>rfl|some u=>exact absurd (lt_of_lt_of_le (x.lt q) e) (lt_irrefl _)
theorem HOk.kept(x:HOk P w H h)(k:∀b u,h.get? b=Φ u->h'.get? b=Φ u):HOk P w H h':=λa o e=>(x a o e).stay (λb u _ q=>k b u q) (λ_ q=>q) λ_ _ q=>q
theorem HOk.laid(x:HOk P w H h)(k:∀b u,h.get? b=Φ u->h'.get? b=Φ u)(g:h.objs.size<=a)(new:ObjOk P w (upd H a o) h' a o):HOk P w (upd H a o) h':=λb u e=>by have d:=x.fresh g;by_cases f:b=a;subst f;rw[zaj]at e;cases e;exact new;rw[zai f]at e;exact(x b u e).stay (λc v _ q=>k c v q) (λc q=>by rw[zai (zal q d)];exact q) λc i q=>by rw[zai (zal q d)];exact q
end
def Rd(H:Hp)(a:Addr)(u:HO):Prop:=H a=Φ u\/∃o,H a=Φ (.frz o u)
theorem Rd.of(h:H a=Φ u):Rd H a u:=.inl h
theorem Rd.ok(r:Rd H a u)(x:HOk P w H h):ObjOk P w H h a u:=by rcases r with r|⟨o,r⟩;exact x a u r;obtain⟨_,q⟩:=x a _ r;exact q
def Mut:Option HO->Prop
 |some (.lst _)=>True|some (.dK _)=>True|some (.dT _)=>True|some (.set _ _)=>True|some (.ins _ _ _)=>True|some (.ext _)=>True|_=>False
section
variable{P:Υ}{w:ύ}{H:Hp}{h h':Heap}{x e:Addr}{o':HO}
theorem HOk.write(ok:HOk P w H h)(g:Mut (H x))(n:e=x\/H e=Φ (.own x))(k:∀b u,b≠e->h.get? b=Φ u->h'.get? b=Φ u)(m:∃u,h'.get? e=Φ u)
  (new:ObjOk P w (upd H x o') h' x o'):HOk P w (upd H x o') h':=λb u q=>by
 have d:∀c y,H c=Φ (.own y)->c≠x:=λc y r z=>by subst z;rw[r]at g;exact g
 have f:∀c i,H c=Φ (.tup i)->c≠x:=λc i r z=>by subst z;rw[r]at g;exact g
 by_cases j:b=x;subst j;rw[zaj]at q;cases q;exact new;rw[zai j]at q;by_cases a:b=e;have o:H b=Φ (.own x):=by rcases n with z|z;exact absurd (a.trans z) j;rw[a];exact z
 rw[q]at o;cases o;obtain⟨v,p⟩:=m;exact⟨v,by rw[a];exact p⟩;refine(ok b u q).stay (λc v l r=>k c v ?_ r) (λc r=>by rw[zai (d c b r)];exact r) λc i r=>by rw[zai (f c i r)];exact r
 rcases l with rfl|l;exact a;rintro rfl;rcases n with z|z;exact d c b l z;rw[l]at z;cases z;exact j rfl
end
structure Un(fs ex:List Addr)(H H':Hp)(h h':Heap):Prop where
 keep:∀b o,h.get? b=Φ o->H b=Ψ->b∉fs->b∉ex->h'.get? b=Φ o
 slot:∀b o,h.get? b=Φ o->H b=Ψ->b∈fs->b∉ex->∃sl,h'.get? b=Φ {o with slots:=sl}
 free:∀b o,h.get? b=Φ o->H b=Ψ->b∉ex->H' b=Ψ
 there:∀b o,h.get? b=Φ o->b∉ex->∃o',h'.get? b=Φ o'
 tups:∀b xs,H b=Φ (.tup xs)->H' b=Φ (.tup xs)
 frzs:∀b o u,H b=Φ (.frz o u)->H' b=Φ (.frz o u)
 tbls:∀b ps,H b=Φ (.tbl ps)->∃more,H' b=Φ (.tbl (ps++more))
section
variable{fs fs' ex ex':List Addr}{H H1 H2:Hp}{h h1 h2 h':Heap}{a x e:Addr}{o:HO}
theorem Un.any(u:Un fs ex H H1 h h1)(q:h.get? b=Φ c)(n:H b=Ψ)(d:b∉ex):∃g,h1.get? b=Φ {c with slots:=g}:=by by_cases f:b∈fs;exact u.slot b c q n f d;exact⟨c.slots,u.keep b c q n f d⟩
theorem Un.kept(k:∀b u,h.get? b=Φ u->h'.get? b=Φ u):Un fs ex H H h h':=⟨λb c q _ _ _=>k b c q,λb c q _ _ _=>⟨c.slots,k b c q⟩,λ_ _ _ n _=>n,λb c q _=>⟨c,k b c q⟩,λ_ _ q=>q,λ_ _ _ q=>q,λ_ d q=>⟨#[],by rw[q];simp⟩⟩
theorem Un.refl:Un fs ex H H h h:=Un.kept λ_ _ q=>q
theorem Un.laid(k:∀b u,h.get? b=Φ u->h'.get? b=Φ u)(d:h.objs.size<=a)(c:H a=Ψ):Un fs ex H (upd H a o) h h' where
 keep:=λb u q _ _ _=>k b u q
 slot:=λb u q _ _ _=>⟨u.slots,k b u q⟩
 free:=λb u q n _=>by rw[zai (ne_of_lt (lt_of_lt_of_le (Ι q) d))];exact n
 there:=λb u q _=>⟨u,k b u q⟩
 tups:=λb f q=>by rw[zai (zal q c)];exact q
 frzs:=λb u f q=>by rw[zai (zal q c)];exact q
 tbls:=λb g q=>⟨#[],by rw[zai (zal q c),q];simp⟩
theorem Un.write(d:Mut (H x))(l:e=x\/H e=Φ (.own x))(k:∀b u,b≠e->h.get? b=Φ u->h'.get? b=Φ u)(f:∃u,h'.get? e=Φ u):Un fs ex H (upd H x o) h h':=by
 have i:∀b,H b=Ψ->b≠x:=λb n z=>by subst z;rw[n]at d;exact d
 have j:∀b,H b=Ψ->b≠e:=λb n z=>by subst z;rcases l with r|r;exact i b n r;rw[n]at r;exact nS r
 have g:∀b u,H b=Φ u->¬Mut (Φ u)->b≠x:=λb u q m z=>by subst z;rw[q]at d;exact m d
 refine⟨λb u q n _ _=>k b u (j b n) q,λb u q n _ _=>⟨u.slots,k b u (j b n) q⟩,λb u q n _=>by rw[zai (i b n)];exact n,λb u q _=>?_,
  λb p q=>by rw[zai (g b _ q λz=>z)];exact q,λb u p q=>by rw[zai (g b _ q λz=>z)];exact q,λb s q=>⟨#[],by rw[zai (g b _ q λz=>z),q];simp⟩⟩
 by_cases c:b=e;subst c;exact f;exact⟨u,k b u c q⟩
end
noncomputable def trk(h:Heap)(H:Hp):List Addr:=(List.range h.objs.size).filter λa=>(H a).isSome
noncomputable def hidT(h:Heap)(H:Hp):Heap:=PySem.W.hideAll h (trk h H)
theorem zks(h)(H):(hidT h H).objs.size=h.objs.size:=PySem.W.hideAll_size _ _
theorem zml(e:h.get? b=Φ o)(n:H b=Ψ):(hidT h H).get? b=Φ o:=PySem.W.hideAll_get _ e λa=>by have q:(H b).isSome=Γ:=(mem_filter.mp a).2;rw[n]at q;simp at q
theorem zoG(e:(hidT h H).get? b=Φ o):h.get? b=Φ o/\H b=Ψ:=by have a:h.get? b=Φ o:=PySem.W.of_hideAll (trk h H) e;refine⟨a,?_⟩;cases q:H b with|none=>rfl| some x=>have c:b∈trk h H:=mem_filter.mpr ⟨mem_range.mpr (Ι a),by simp[q]⟩;have z:(hidT h H).get? b=Ψ:=PySem.W.hideAll_none (trk h H) c;rw[z]at e;exact nS e
structure Mod(K:Frag)(mg:Str->Option Θ)(base:Heap):Prop where
 kin:K.In base
 glob:base.Ns mainGlobals mg
 blt:∃mb,base.Ns builtinsNs mb/\∀x:Str,x≠"__name__"->mb x=bootBuiltins x
 nolimit:base.NoLimit
structure Cx where
 prog:Υ
 w:ύ
 K:Frag
 mg:Str->Option Θ
 base:Heap
 A:ϑ
 N:List Str
 s₀:Ζ
 H₀:Hp
 env:Env
 outer:List Env
 stack:List Env
 ex:List Addr
 fn:Str->Bool
 calm:Bool
 pn:List (Addr×Obj)
 xe:Θ->Ζ->Prop
noncomputable def frs(l:List Env):List Addr:=l.filterMap (·.frame)
noncomputable abbrev Cx.fs(X:Cx):List Addr:=frs X.outer
def Vis(a:Scope)(x:Str):Prop:=a.names.lookup x=Φ .local\/a.names.lookup x=Φ .cell\/a.names.lookup x=Φ .free
def Loc(a:Scope)(x:Str):Prop:=a.names.lookup x=Φ .local\/a.names.lookup x=Φ .cell
def Look(env:Env)(h:Heap)(m:Str->Option Θ)(x:Str)(u:Θ):Prop:=(env.kindOf x=Φ .local/\m x=Φ u)\/((env.kindOf x=Φ .cell\/env.kindOf x=Φ .free)/\∃c,env.cells.lookup x=Φ c/\h.IsCell c (Φ u))
structure Cx.Ok(X:Cx):Prop where
 mod:Mod X.K X.mg X.base
 kind:X.env.scope.kind=.function
 glob:X.env.globals=mainGlobals
 blt:X.env.builtins=builtinsNs
 above:X.s₀.heap.objs.size<=X.env.locals
 inj:∀x y c,X.env.cells.lookup x=Φ c->X.env.cells.lookup y=Φ c->x=y
 has:∀x,(X.env.kindOf x=Φ .cell\/X.env.kindOf x=Φ .free)->∃c,X.env.cells.lookup x=Φ c
 cab:∀x c,X.fn x=Γ->X.env.cells.lookup x=Φ c->X.s₀.heap.objs.size<=c
 hd:X.calm=Γ->X.A.handled=Ψ
 frames:X.A.frames=Φ X.stack
 stk:X.stack=X.outer\/(X.stack=X.env::X.outer/\X.env.frame=Φ X.env.locals)
 exf:∀b∈X.ex,b≠X.env.locals/\∀x c,X.env.cells.lookup x=Φ c->c≠b
 bs:∀b o,X.base.get? b=Φ o->X.s₀.heap.get? b=Φ o/\X.H₀ b=Ψ
 bsz:X.base.objs.size<=X.s₀.heap.objs.size
 noex:∀b o,X.base.get? b=Φ o->b∉X.ex
 exfs:∀b∈X.ex,b∉X.fs
 funs:X.s₀.heap.FunFrames X.base X.outer
 frf:∀b∈X.fs,X.H₀ b=Ψ
structure Inv(X:Cx)(pins:List (Addr×Obj))(σ:List (Option V))(H:Hp)(s:Ζ):Prop where
 ok:X.Ok
 os:s.os=X.s₀.os
 bare:AllBare s.gens
 base:Un X.fs X.ex X.H₀ H X.s₀.heap s.heap
 loc:∃m,s.heap.Ns X.env.locals m/\∀(i:Nat)(x:Str)(v:V),X.N[i]?=Φ x->σ[i]?=Φ (Φ v)->Vis X.env.scope x->∃u,RelV v u/\Look X.env s.heap m x u
 cell:∀x c,X.env.cells.lookup x=Φ c->∃v,s.heap.IsCell c v
 free:H X.env.locals=Ψ
 freeC:∀x c,X.env.cells.lookup x=Φ c->H c=Ψ
 pin:∀p∈X.pn++pins,s.heap.get? p.1=Φ p.2/\H p.1=Ψ/\p.1≠X.env.locals/\p.1∉X.fs/\∀v,p.2.data≠.cell v
 hok:HOk X.prog X.w H s.heap
 len:σ.length=X.N.length
section
variable{X:Cx}{pins:List (Addr×Obj)}{σ:List (Option V)}{H H':Hp}{s:Ζ}{h':Heap}
theorem Cx.Ok.nofr(ok:X.Ok)(e:X.base.get? b=Φ o):b∉X.fs:=λa=>by have:=(ok.funs.mem a).1;rw[e]at this;cases this
theorem Inv.bs(I:Inv X pins σ H s):∀b o,X.base.get? b=Φ o->s.heap.get? b=Φ o/\H b=Ψ:=λb o e=>⟨I.base.keep b o (I.ok.bs b o e).1 (I.ok.bs b o e).2 (I.ok.nofr e) (I.ok.noex b o e),I.base.free b o (I.ok.bs b o e).1 (I.ok.bs b o e).2 (I.ok.noex b o e)⟩
theorem Inv.bk(I:Inv X pins σ H s):∀b o,X.base.get? b=Φ o->s.heap.get? b=Φ o:=λb o e=>(I.bs b o e).1
theorem Inv.mod(I:Inv X pins σ H s):Mod X.K X.mg X.base:=I.ok.mod
theorem Inv.kIn(I:Inv X pins σ H s):X.K.In s.heap:=I.ok.mod.kin.keeps I.bk
theorem Inv.lt(I:Inv X pins σ H s):X.env.locals<s.heap.objs.size:=let ⟨_,a,_⟩:=I.loc;a.lt
theorem Inv.sz(I:Inv X pins σ H s):X.s₀.heap.objs.size<=s.heap.objs.size:=le_trans I.ok.above (le_of_lt I.lt)
theorem Inv.nofs(I:Inv X pins σ H s)(h:s.heap.objs.size<=a):a∉X.fs:=λb=>by obtain⟨_,o,c,_⟩:=I.ok.funs.mem b;exact absurd (lt_of_lt_of_le (Ι c) (le_trans I.sz h)) (lt_irrefl _)
theorem Inv.cne(I:Inv X pins σ H s):∀x c,X.env.cells.lookup x=Φ c->c≠X.env.locals:=λx c e z=>by obtain⟨v,o,d,f⟩:=I.cell x c e;obtain⟨m,⟨g,h,i,a,b,_⟩,_⟩:=I.loc;rw[z,a]at d;cases d;rw[b]at f;cases f
theorem Inv.funs(I:Inv X pins σ H s):s.heap.FunFrames X.base X.outer:=by
 have a:∀(l:List Env),(∀b∈frs l,b∈X.fs)->X.s₀.heap.FunFrames X.base l->s.heap.FunFrames X.base l:=by intro l;induction l with|nil=>intro _ _;trivial| cons h r i=>intro g j;obtain⟨k,⟨L,o,c,m,n,p⟩,q⟩:=j;have d:=g L (by unfold frs;rw[List.filterMap_cons,c];exact ϊ);obtain⟨t,e⟩:=I.base.slot L o n (I.ok.frf L d) d λz=>I.ok.exfs L z d;exact⟨k,⟨L,_,c,m,e,p⟩,i (λb f=>g b (by unfold frs;rw[List.filterMap_cons,c];exact Τ _ f)) q⟩
 exact a X.outer (λ_ f=>f) I.ok.funs
theorem Inv.stack(I:Inv X pins σ H s):s.heap.FunFrames X.base X.stack:=by rcases I.ok.stk with e|⟨e,a⟩;rw[e];exact I.funs;rw[e];obtain⟨m,b,_⟩:=I.loc;refine .cons (by rw[I.ok.kind];decide) a b ?_ I.funs;exact Heap.get?_none_of_le (le_trans I.ok.bsz I.ok.above)
theorem Inv.stkSub(I:Inv X pins σ H s):∀b∈frs X.stack,b∈X.env.locals::X.fs:=λb a=>by rcases I.ok.stk with e|⟨e,c⟩;rw[e]at a;exact Τ _ a;rw[e]at a;unfold frs at a;rw[List.filterMap_cons,c]at a;exact a
theorem Inv.stkFree(I:Inv X pins σ H s):∀b∈frs X.stack,H b=Ψ:=λb a=>by rcases mem_cons.mp (I.stkSub b a) with e|a;rw[e];exact I.free;obtain⟨_,o,c,_⟩:=I.ok.funs.mem a;exact I.base.free b o c (I.ok.frf b a) λz=>I.ok.exfs b z a
theorem Inv.step{ch:List Addr}(I:Inv X pins σ H s)(f:∀b∈ch,(b∈X.ex\/X.s₀.heap.objs.size<=b)/\b≠X.env.locals/\(∀x c,X.env.cells.lookup x=Φ c->c≠b)/\∀p∈X.pn++pins,p.1≠b)(g:∀b o,b≠X.env.locals->b∉X.fs->b∉ch->s.heap.get? b=Φ o->H b=Ψ->h'.get? b=Φ o)(A:∀b o,b≠X.env.locals->b∈X.fs->b∉ch->s.heap.get? b=Φ o->H b=Ψ->∃T,h'.get? b=Φ {o with slots:=T})(free:∀b o,b∉ch->s.heap.get? b=Φ o->H b=Ψ->H' b=Ψ)(B:∀b o,b∉ch->s.heap.get? b=Φ o->∃G,h'.get? b=Φ G)(J:∀b xs,H b=Φ (.tup xs)->H' b=Φ (.tup xs))(L:∀b o u,H b=Φ (.frz o u)->H' b=Φ (.frz o u))(M:∀b ps,H b=Φ (.tbl ps)->∃N,H' b=Φ (.tbl (ps++N)))(ns:∀m,s.heap.Ns X.env.locals m->h'.Ns X.env.locals m)(hok:HOk X.prog X.w H' h')(hg:AllBare g'):
  Inv X pins σ H' {s with heap:=h',gens:=g',drawn:=d',toks:=t'}:=by
 have O:∀b o,X.s₀.heap.get? b=Φ o->b≠X.env.locals:=λb o e=>ne_of_lt (lt_of_lt_of_le (Ι e) I.ok.above);have t:∀b o,X.s₀.heap.get? b=Φ o->b∉X.ex->b∉ch:=λb o e a C=>by rcases(f b C).1 with z|z;exact a z;exact absurd (lt_of_lt_of_le (Ι e) z) (lt_irrefl _)
 have h:∀x c,X.env.cells.lookup x=Φ c->∀v,s.heap.IsCell c v->h'.IsCell c v:=λx c e v y=>by obtain⟨o,E,U⟩:=y;have j:c∉ch:=λz=>(f c z).2.2.1 x c e rfl;by_cases hc:c∈X.fs;obtain⟨T,q⟩:=A c o (I.cne x c e) hc j E (I.freeC x c e);exact⟨_,q,U⟩;exact⟨o,g c o (I.cne x c e) hc j E (I.freeC x c e),U⟩
 refine⟨I.ok,I.os,hg,⟨λb o e n C a=>?_,λb o e n C a=>?_,λb o e n a=>?_,λb o e a=>?_,λb xs e=>J b xs (I.base.tups b xs e),λb o xs e=>L b o xs (I.base.frzs b o xs e),λb ps e=>?_⟩,?_,λx c e=>?_,?_,λx c e=>?_,λp hp=>?_,hok,I.len⟩;exact g b o (O b o e) C (t b o e a) (I.base.keep b o e n C a) (I.base.free b o e n a);obtain⟨T,w⟩:=I.base.slot b o e n C a;obtain⟨Y,Q⟩:=A b _ (O b o e) C (t b o e a) w (I.base.free b o e n a);exact⟨Y,Q⟩;obtain⟨G,w⟩:=I.base.there b o e a;exact free b G (t b o e a) w (I.base.free b o e n a);obtain⟨G,w⟩:=I.base.there b o e a;exact B b G (t b o e a) w;obtain⟨m1,w⟩:=I.base.tbls b ps e;obtain⟨m2,Q⟩:=M b _ w;exact⟨m1++m2,by rw[Q,Array.append_assoc]⟩;obtain⟨m,hn,hl⟩:=I.loc;refine⟨m,ns m hn,λi x v w Q e3=>?_⟩;obtain⟨u,r,l⟩:=hl i x v w Q e3;refine⟨u,r,?_⟩;rcases l with l|⟨k,c,e,z⟩;exact .inl l;exact .inr ⟨k,c,e,h x c e _ z⟩;obtain⟨v,z⟩:=I.cell x c e;exact⟨v,h x c e v z⟩;obtain⟨m,⟨o,_,_,E,_⟩,_⟩:=I.loc;exact free _ o (λz=>(f _ z).2.1 rfl) E I.free;obtain⟨v,o,E,U⟩:=I.cell x c e;exact free c o (λz=>(f c z).2.2.1 x c e rfl) E (I.freeC x c e);obtain⟨e,n,ne,nf,d⟩:=I.pin p hp;have j:p.1∉ch:=λz=>(f p.1 z).2.2.2 p hp rfl;exact⟨g p.1 p.2 ne nf j e n,free p.1 p.2 j e n,ne,nf,d⟩
theorem Inv.un(I:Inv X pins σ H s)(u:Un X.fs [] H H' s.heap h')(hok:HOk X.prog X.w H' h'):Inv X pins σ H' {s with heap:=h',toks:=t'}:=by obtain⟨m,⟨o,k,l,g,r⟩,_⟩:=id I.loc;obtain⟨p,h⟩:=u.any g I.free (by simp);exact I.step (g':=s.gens) (d':=s.drawn) (ch:=[]) (λ_ z=>by cases z) (λb o _ c _ e n=>u.keep b o e n c (by simp)) (λb o _ c _ e n=>u.slot b o e n c (by simp)) (λb o _ e n=>u.free b o e n (by simp)) (λb o _ e=>u.there b o e (by simp)) u.tups u.frzs u.tbls (λq i=>by obtain⟨t,d,f,a,j⟩:=i;rw[g]at a;cases a;exact⟨_,d,f,h,j⟩) hok I.bare
theorem Inv.call(I:Inv X pins σ H s)(u:Un (frs X.stack) ch H H' s.heap h')(hok:HOk X.prog X.w H' h')(k:AllBare g')(d:∀b∈ch,(b∈X.ex\/X.s₀.heap.objs.size<=b)/\b≠X.env.locals/\(∀x c,X.env.cells.lookup x=Φ c->c≠b)/\∀p∈X.pn++pins,p.1≠b):
  Inv X pins σ H' {s with heap:=h',gens:=g',drawn:=d',toks:=t'}:=by
 obtain⟨m,⟨o,v,w,j,r⟩,_⟩:=id I.loc;obtain⟨y,g⟩:=u.any j I.free λz=>(d _ z).2.1 rfl;exact I.step (ch:=ch) d (λb o g l a e n=>u.keep b o e n (λz=>(mem_cons.mp (I.stkSub b z)).elim g l) a) (λb o _ _ a e n=>u.any e n a) (λb o a e n=>u.free b o e n a) (λb o a e=>u.there b o e a) u.tups u.frzs u.tbls (λA q=>by obtain⟨B,h,i,f,t⟩:=q;rw[j]at f;cases f;exact⟨_,h,i,g,t⟩) hok k
theorem Inv.turned(I:Inv X pins σ H s)(k:∀b o,b≠it->s.heap.get? b=Φ o->h'.get? b=Φ o)(g:H it=Ψ)(f:it≠X.env.locals)(h:it∈X.ex\/X.s₀.heap.objs.size<=it)(i:∀x c,X.env.cells.lookup x=Φ c->c≠it)(j:∀p∈X.pn++pins,p.1≠it):Inv X pins σ H {s with heap:=h',toks:=t'}:=by
 have d:∀b u,H b=Φ u->b≠it:=λb u e z=>by rw[z,g]at e;exact nS e
 refine I.step (g':=s.gens) (d':=s.drawn) (ch:=[it]) (λb l=>?_) (λb o _ _ a e _=>k b o (λz=>a (by simp[z])) e) (λb o _ _ a e _=>⟨o.slots,k b o (λz=>a (by simp[z])) e⟩) (λ_ _ _ _ n=>n)
  (λb o a e=>⟨o,k b o (λz=>a (by simp[z])) e⟩) (λ_ _ e=>e) (λ_ _ _ e=>e) (λb B e=>⟨#[],by rw[e];simp⟩) (λm t=>?_) (λb u e=>?_) I.bare
 have e:b=it:=by simpa using l
 subst e;exact⟨h,f,i,j⟩;obtain⟨o,w,y,A,r⟩:=t;exact⟨o,w,y,k _ o (Ne.symm f) A,r⟩;refine(I.hok b u e).stay (λc v a q=>k c v ?_ q) (λ_ q=>q) λ_ _ q=>q;rcases a with z|z;rw[z];exact d b u e;exact d c _ z
theorem Inv.tok(I:Inv X pins σ H s)(t):Inv X pins σ H {s with toks:=t}:=I.un (h':=s.heap) (t':=t) Un.refl I.hok
theorem Inv.kept(I:Inv X pins σ H s)(k:∀b u,s.heap.get? b=Φ u->h'.get? b=Φ u):Inv X pins σ H {s with heap:=h',toks:=t'}:=I.un (Un.kept k) (I.hok.kept k)
theorem Inv.laid(I:Inv X pins σ H s)(k:∀b u,s.heap.get? b=Φ u->h'.get? b=Φ u)(c:s.heap.objs.size<=a)(new:ObjOk X.prog X.w (upd H a o) h' a o):
 Inv X pins σ (upd H a o) {s with heap:=h',toks:=t'}:=I.un (Un.laid k c (I.hok.fresh c)) (I.hok.laid k c new)
theorem Inv.write(I:Inv X pins σ H s)(c:Mut (H x))(d:e=x\/H e=Φ (.own x))(k:∀b u,b≠e->s.heap.get? b=Φ u->h'.get? b=Φ u)(a:∃u,h'.get? e=Φ u)(new:ObjOk X.prog X.w (upd H x o) h' x o):Inv X pins σ (upd H x o) {s with heap:=h',toks:=t'}:=I.un (Un.write c d k a) (I.hok.write c d k a new)
theorem Inv.pins_of(I:Inv X pins σ H s)(h:∀p∈a,s.heap.get? p.1=Φ p.2/\H p.1=Ψ/\p.1≠X.env.locals/\p.1∉X.fs/\∀v,p.2.data≠.cell v):Inv X a σ H s:=⟨I.ok,I.os,I.bare,I.base,I.loc,I.cell,I.free,I.freeC,λp b=>(mem_append.mp b).elim (λz=>I.pin p (mem_append_left _ z)) (h p),I.hok,I.len⟩
theorem zhI{N:List Str}(c:N.Nodup){i j:Nat}(a:N[i]?=Φ x)(b:N[j]?=Φ x):i=j:=by obtain⟨f,d⟩:=Α.mp a;obtain⟨g,e⟩:=Α.mp b;exact(List.getElem_inj c).mp (d.trans e.symm)
theorem zfo(I:Inv X pins σ H s)(hN:X.N.Nodup)(hi:X.N[i]?=Φ x)(w:Loc X.env.scope x)(r:RelV v u)(h:∀s',Inv X pins (σ.set i (Φ v)) H s'->(∃a,Heap.SameBut a s.heap s'.heap/\(a=X.env.locals\/X.env.cells.lookup x=Φ a))->Q () s')(hf:X.fn x=Γ\/X.env.scope.names.lookup x=Φ .local:=by first|exact .inl rfl|exact .inr rfl|assumption):wpAny M A (storeName X.env x u) Q E s:=by
 obtain⟨m,hn,hl⟩:=id I.loc;have U:(X.env.scope.kind==.class||(X.env.scope.kind==.module&&X.env.locals != X.env.globals))=Δ:=by rw[I.ok.kind];rfl
 have G:i<σ.length:=by rw[I.len];exact(Α.mp hi).1
 have L:=I.cne;have g:∀{a:Addr}{h':Heap},(∃o,s.heap.get? a=Φ o/\H a=Ψ)->Heap.SameBut a s.heap h'->HOk X.prog X.w H h':=λ{a h'} ha f b ob e=>by obtain⟨_,_,B⟩:=ha;refine(I.hok b ob e).stay (λc w' t q=>(f.2 c ?_).trans q) (λ_ q=>q) λ_ _ q=>q;rintro rfl;rcases t with rfl|t;rw[B]at e;exact nS e;rw[B]at t;exact nS t
 rcases w with J|J;refine wpAny_storeName_local J hn (λh' hn' f=>?_) U;obtain⟨oL,_,_,hoL,_⟩:=id hn;refine h _ ⟨I.ok,I.os,I.bare,⟨λb o e n N w=>?_,λb o e n N w=>?_,I.base.free,λb o e w=>?_,I.base.tups,I.base.frzs,I.base.tbls⟩,⟨_,hn',λj y v' l C e3=>?_⟩,λy c e=>?_,I.free,I.freeC,λp hp=>?_,g ⟨oL,hoL,I.free⟩ f,by simpa using I.len⟩ ⟨_,f,.inl rfl⟩;exact(f.2 b (ne_of_lt (lt_of_lt_of_le (Ι e) I.ok.above))).trans (I.base.keep b o e n N w);obtain⟨sl,l⟩:=I.base.slot b o e n N w;exact⟨sl,(f.2 b (ne_of_lt (lt_of_lt_of_le (Ι e) I.ok.above))).trans l⟩;obtain⟨o',l⟩:=I.base.there b o e w;exact⟨o',(f.2 b (ne_of_lt (lt_of_lt_of_le (Ι e) I.ok.above))).trans l⟩;by_cases O:j=i;subst O;rw[hi]at l;cases l;rw[getElem?_set_self G]at C;cases C;exact⟨u,r,.inl ⟨J,by simp⟩⟩;rw[getElem?_set_ne (Ne.symm O)]at C;obtain⟨u',r',q⟩:=hl j y v' l C e3;refine⟨u',r',?_⟩;rcases q with⟨k,e⟩|⟨k,c,e,z⟩;refine .inl ⟨k,?_⟩;have:y≠x:=λe=>O (zhI hN l (e▸hi));simp[this,e];exact .inr ⟨k,c,e,z.sameBut f (L y c e)⟩;obtain⟨w',z⟩:=I.cell y c e;exact⟨w',z.sameBut f (L y c e)⟩;obtain⟨e,n,ne,nf,d⟩:=I.pin p hp;exact⟨(f.2 p.1 ne).trans e,n,ne,nf,d⟩;have T:X.fn x=Γ:=by rcases hf with z|z;exact z;rw[z]at J;cases J
 obtain⟨c,t⟩:=I.ok.has x (.inl J);obtain⟨w',z⟩:=I.cell x c t;refine wpAny_storeName_cell I.ok.kind J t z (λh' Y f=>?_);obtain⟨oc,hoc,hocd⟩:=id z;refine h {s with heap:=h'} ⟨I.ok,I.os,I.bare,⟨λb o e n N w=>?_,λb o e n N w=>?_,I.base.free,λb o e w=>?_,I.base.tups,I.base.frzs,I.base.tbls⟩,⟨m,hn.sameBut f (Ne.symm (L x c t)),λj y v' l C e3=>?_⟩,λy c' e=>?_,I.free,I.freeC,λp hp=>?_,g ⟨oc,hoc,I.freeC x c t⟩ f,by simpa using I.len⟩ ⟨c,f,.inr t⟩;exact(f.2 b (ne_of_lt (lt_of_lt_of_le (Ι e) (I.ok.cab x c T t)))).trans (I.base.keep b o e n N w);obtain⟨sl,l⟩:=I.base.slot b o e n N w;exact⟨sl,(f.2 b (ne_of_lt (lt_of_lt_of_le (Ι e) (I.ok.cab x c T t)))).trans l⟩;obtain⟨o',l⟩:=I.base.there b o e w;exact⟨o',(f.2 b (ne_of_lt (lt_of_lt_of_le (Ι e) (I.ok.cab x c T t)))).trans l⟩;by_cases O:j=i;subst O;rw[hi]at l;cases l;rw[getElem?_set_self G]at C;cases C;exact⟨u,r,.inr ⟨.inl J,c,t,Y⟩⟩;rw[getElem?_set_ne (Ne.symm O)]at C;obtain⟨u',r',q⟩:=hl j y v' l C e3;refine⟨u',r',?_⟩;rcases q with q|⟨k,c',e,z'⟩;exact .inl q;refine .inr ⟨k,c',e,z'.sameBut f ?_⟩;rintro rfl;exact O (zhI hN l (I.ok.inj _ _ _ e t▸hi));by_cases hcc:c'=c;subst hcc;exact⟨_,Y⟩;obtain⟨w2,z2⟩:=I.cell y c' e;exact⟨w2,z2.sameBut f hcc⟩;obtain⟨e,n,ne,nf,d⟩:=I.pin p hp;refine⟨(f.2 p.1 ?_).trans e,n,ne,nf,d⟩;intro q;rw[q,hoc]at e;have q':=Option.some.inj e;exact d w' (by rw[<-q'];exact hocd)
theorem zhk(I:Inv X pins σ H s)(b:X.N.Nodup)(hi:X.N[i]?=Φ x)(c:Loc X.env.scope x)(r:RelV v u)(h:∀a,Inv X pins (σ.set i (Φ v)) H a->Q () a)(d:X.fn x=Γ\/X.env.scope.names.lookup x=Φ .local:=by first|exact .inl rfl|exact .inr rfl|assumption):wpAny M A (storeName X.env x u) Q E s:=
 zfo I b hi c r (λa e _=>h a e) d
theorem Inv.call'(I:Inv X pins σ H s)(d:h.os=s.os)(u:Un (frs X.stack) ch H H' s.heap h.heap)(hok:HOk X.prog X.w H' h.heap)(f:AllBare h.gens)(a:∀b∈ch,(b∈X.ex\/X.s₀.heap.objs.size<=b)/\b≠X.env.locals/\(∀x c,X.env.cells.lookup x=Φ c->c≠b)/\∀p∈X.pn++pins,p.1≠b):Inv X pins σ H' h:=by
 obtain⟨h',i,j,k,g⟩:=h;have e:=d;subst e;exact I.call u hok f a
end
abbrev XK:=Θ->Option Addr->Hp->Prop
abbrev St:=List (Option V)
abbrev VK:=V->Hp->Prop
abbrev TE:=St->Hp->VK->Prop
abbrev TT:=St->Hp->(Bool->Hp->Prop)->Prop
abbrev TA:=St->Hp->(List V->Hp->Prop)->Prop
structure Ends where
 nx:St->Hp->Prop
 rt:VK
 bk:St->Hp->Prop:=λ_ _=>False
 ct:St->Hp->Prop:=λ_ _=>False
abbrev TS:=Ends->St->Hp->Prop
def EP(X:Cx)(a:List (Addr×Obj))(σ:St)(Q:VK)(u:Θ)(c:Ζ):Prop:=∃v b,Inv X a σ b c/\RelV v u/\Q v b
def TP(X:Cx)(a:List (Addr×Obj))(σ:St)(Q:Bool->Hp->Prop)(b:Bool)(d:Ζ):Prop:=∃c,Inv X a σ c d/\Q b c
def AP(X:Cx)(a:List (Addr×Obj))(σ:St)(Q:List V->Hp->Prop)(us:List Θ)(d:Ζ):Prop:=∃b c,Inv X a σ c d/\Vals b us/\Q b c
def SP(X:Cx)(b:List (Addr×Obj))(D:Ends)(f:Flow)(d:Ζ):Prop:=match f with|.next=>∃a c,Inv X b a c d/\D.nx a c|.brk=>∃a c,Inv X b a c d/\D.bk a c|.cont=>∃a c,Inv X b a c d/\D.ct a c|.ret u=>∃v a c,Inv X b a c d/\RelV v u/\D.rt v c
def PE(X:Cx)(e:Expr)(t:TE):Prop:=∀(a:List (Addr×Obj))(s:Ζ)(b:St)(H:Hp)(Q:VK),Inv X a b H s->t b H Q->wpAny (model X.prog X.w) X.A (eval e X.env) (EP X a b Q) X.xe s
def PT(X:Cx)(e:Expr)(t:TT):Prop:=∀(a:List (Addr×Obj))(s:Ζ)(b:St)(H:Hp)(Q:Bool->Hp->Prop),Inv X a b H s->t b H Q->wpAny (model X.prog X.w) X.A (isTrue e X.env (eval e X.env)) (TP X a b Q) X.xe s
def PW(X:Cx)(e:Expr)(t:TT):Prop:=∀(b:Sem Θ)(a:List (Addr×Obj))(s:Ζ)(c:St)(H:Hp)(Q:Bool->Hp->Prop),Inv X a c H s->t c H Q->wpAny (model X.prog X.w) X.A (isTrue e X.env b) (TP X a c Q) X.xe s
theorem PW.pt(h:PW X e t):PT X e t:=h _
def PA(X:Cx)(es:List Expr)(t:TA):Prop:=∀(pos:Pos)(a:List (Addr×Obj))(s:Ζ)(b:St)(H:Hp)(Q:List V->Hp->Prop),Inv X a b H s->t b H Q->wpAny (model X.prog X.w) X.A (spliced (backTo pos (starEach es X.env))) (AP X a b Q) X.xe s
def PS(X:Cx)(st:Stmt)(t:TS):Prop:=∀(a:List (Addr×Obj))(s:Ζ)(b:St)(H:Hp)(D:Ends),Inv X a b H s->t D b H->wpAny (model X.prog X.w) X.A (exec st X.env) (SP X a D) X.xe s
def PSs(X:Cx)(st:List Stmt)(t:TS):Prop:=∀(a:List (Addr×Obj))(s:Ζ)(b:St)(H:Hp)(D:Ends),Inv X a b H s->t D b H->wpAny (model X.prog X.w) X.A (execs st X.env) (SP X a D) X.xe s
theorem thn(h:wpAny M A t Q E s)(b:∀a s,Q a s->c a s):wpAny M A t c E s:=ϕ h b λ_ _ x=>x
section
variable{X:Cx}
theorem bin(l:PE X a m)(n:PE X b o){R:V->V->Hp->Prop}(I:Inv X c e H s)(h:m e H λx k=>o e k λy d=>R x y d){Q}{f:Θ->Θ->Sem E}(p:∀v u j x y d,Inv X c e d j->RelV x v->RelV y u->R x y d->wpAny (model X.prog X.w) X.A (f v u) Q X.xe j):
  wpAny (model X.prog X.w) X.A (eval a X.env) (λv g=>wpAny (model X.prog X.w) X.A (eval b X.env) (λu i=>wpAny (model X.prog X.w) X.A (f v u) Q X.xe i) X.xe g) X.xe s:=by
 refine thn (l c s e H _ I h) λv q z=>?_;obtain⟨x,k,r,t,w⟩:=z;refine thn (n c q e k _ r w) λu j z=>?_;obtain⟨y,d,A,B,C⟩:=z;exact p v u j x y d A t B C
def tVar(i:Nat):TE:=λa H Q=>∃v,a[i]?=Φ (Φ v)/\Q v H
def tC(v:V):TE:=λ_ H Q=>Q v H
theorem zjQ(j:X.N[i]?=Φ x)(k:Vis X.env.scope x)(hd:(x==("__debug__":Str))=Δ:=by decide)(f:(x==("__classdict__":Str))=Δ:=by decide):PE X (.Name x pos) (tVar i):=by intro d s n H Q I h;obtain⟨v,e,h⟩:=h;obtain⟨m,o,p⟩:=I.loc;obtain⟨u,r,l⟩:=p i x v j e k;have fin:EP X d n Q u s:=⟨v,H,I,r,h⟩;rcases l with⟨b,q⟩|⟨b,c,g,a⟩;exact wpAny_Name (wpAny_loadName_local I.ok.kind b o q fin) hd;rcases b with b|b;exact wpAny_Name (wpAny_loadName_cell I.ok.kind b g a fin) hd;exact wpAny_Name (wpAny_loadName_free I.ok.kind b g a fin f) hd
theorem zjS:PE X (.Constant (.int i) j pos) (tC (.int i)):=λ_ _ _ H _ I h=>wpAny_Constant_int ⟨.int i,H,I.tok _,⟨_,rfl⟩,h⟩
theorem zsJ:PE X (.Constant (.bool b) j pos) (tC (.bl b)):=λ_ _ _ H _ I h=>Constant_bool ⟨.bl b,H,I,rfl,h⟩
theorem zqU:PE X (.Constant .none j pos) (tC .non):=λ_ _ _ H _ I h=>Constant_none ⟨.non,H,I,rfl,h⟩
theorem zqS:PE X (.Constant (.str x) j pos) (tC (.str x)):=λ_ _ _ H _ I h=>Calls.Constant_str ⟨.str x,H,I.tok _,⟨_,rfl⟩,h⟩
def Gl(X:Cx)(x:Str):Prop:=X.env.kindOf x=Φ .globalImplicit
theorem zdL(I:Inv X a σ H s)(b:Gl X x)(c:X.mg x=Φ u)(h:Q u s)(hd:(x==("__debug__":Str))=Δ:=by decide):wpAny (model X.prog X.w) X.A (eval (.Name x pos) X.env) Q E s:=
 Calls.Name_function_global I.ok.kind b (Calls.loadGlobal_global (by rw[I.ok.glob];exact I.mod.glob.keeps I.bk) c h) hd
theorem zdM(I:Inv X a σ H s)(b:Gl X x)(c:X.mg x=Ψ)(d:bootBuiltins x=Φ u)(h:Q u s)(e:x≠"__name__":=by decide)(hd:(x==("__debug__":Str))=Δ:=by decide):wpAny (model X.prog X.w) X.A (eval (.Name x pos) X.env) Q E s:=by
 obtain⟨i,f,g⟩:=I.mod.blt;exact Calls.Name_function_global I.ok.kind b (Calls.loadGlobal_builtin (by rw[I.ok.glob];exact I.mod.glob.keeps I.bk) c (by rw[I.ok.blt];exact f.keeps I.bk) ((g x e).trans d) h) hd
theorem zgG(a:Gl X x)(b:X.mg x=Φ u)(r:RelV v u)(hd:(x==("__debug__":Str))=Δ:=by decide):PE X (.Name x pos) (tC v):=λ_ _ _ H _ I h=>zdL I a b ⟨v,H,I,r,h⟩ hd
theorem zjT(a:Gl X x)(b:X.mg x=Ψ)(c:bootBuiltins x=Φ u)(r:RelV v u)(d:x≠"__name__":=by decide)(hd:(x==("__debug__":Str))=Δ:=by decide):PE X (.Name x pos) (tC v):=λ_ _ _ H _ I h=>zdM I a b c ⟨v,H,I,r,h⟩ d hd
variable{a b:Expr}{ta tb:TE}{pos:Pos}
theorem RelV.none_iff(r:RelV x v):(v==Θ.none)=decide (x=.non):=by cases x with|non=>cases r;rfl|bl _=>cases r;rfl|int _=>obtain⟨t,rfl⟩:=r;rfl|str _=>obtain⟨t,rfl⟩:=r;rfl|byt _=>obtain⟨t,rfl⟩:=r;rfl|flt _=>obtain⟨t,rfl⟩:=r;rfl|ref _=>cases r;rfl|ty _=>cases r;rfl
def tB(t:TE):TT:=λd H Q=>t d H λx e=>∃c,x=.bl c/\Q c e
theorem zqH(h:PE X e t)(g:∀c,isTrue e X.env c=(do let v <-c;standAt e.pos;holding [v] (truthy v)):=by intro _;rfl):PT X e (tB t):=by intro f s i H Q I j;refine isTrue_plain (thn (h f s i H _ I j) λv o z=>?_) (g _);obtain⟨x,k,l,m,n⟩:=z;obtain⟨d,rfl,q⟩:=n;cases m;exact ϒ ⟨k,l,q⟩
variable{tA tB':TT}{rest:List Expr}
def tAnd(t u:TT):TT:=λd H Q=>t d H λc e=>if c=Γ then u d e Q else Q Δ e
def tOr(t u:TT):TT:=λd H Q=>t d H λc e=>if c=Γ then Q Γ e else u d e Q
def tNot(t:TT):TT:=λd H Q=>t d H λc e=>Q (!c) e
theorem zoe(f:PT X a tA):PW X (.BoolOp .And [a] pos) tA:=by intro i d s g H Q I h;refine isTrue_and (thn (f d s g H Q I h) λc j e=>?_);cases c with|true=>exact isTrue_and_nil e|false=>exact e
theorem zm5(f:PT X a tA):PW X (.BoolOp .Or [a] pos) tA:=by intro i d s g H Q I h;refine isTrue_or (thn (f d s g H Q I h) λc j e=>?_);cases c with|false=>exact isTrue_or_nil e|true=>exact e
theorem zqG(j:PT X a tA)(k:PW X (.BoolOp .And (b::rest) pos) tB'):PW X (.BoolOp .And (a::b::rest) pos) (tAnd tA tB'):=by intro l d s e H Q I h;refine isTrue_and (thn (j d s e H _ I h) λc m z=>?_);obtain⟨f,g,i⟩:=z;cases c with|true=>exact k l d m e f Q g i|false=>exact⟨f,g,i⟩
theorem zqF(j:PT X a tA)(k:PW X (.BoolOp .Or (b::rest) pos) tB'):PW X (.BoolOp .Or (a::b::rest) pos) (tOr tA tB'):=by intro l d s e H Q I h;refine isTrue_or (thn (j d s e H _ I h) λc m z=>?_);obtain⟨f,g,i⟩:=z;cases c with|true=>exact⟨f,g,i⟩|false=>exact k l d m e f Q g i
theorem zm6(e:PT X a tA):PT X (.UnaryOp .Not a pos) (tNot tA):=by intro d s f H Q I h;exact isTrue_not (e d s f H (λc g=>Q (!c) g) I h)
def zsn(ta tb:TE):TE:=λd H Q=>ta d H λx e=>∃c,x=.bl c/\if c=Γ then tb d e Q else Q (.bl Δ) e
def tOrV(ta tb:TE):TE:=λd H Q=>ta d H λx e=>∃c,x=.bl c/\if c=Γ then Q (.bl Γ) e else tb d e Q
def zsk(ta:TE):TE:=λd H Q=>ta d H λx e=>∃c,x=.bl c/\Q (.bl (!c)) e
theorem zm9(h:PE X a t):PE X (.BoolOp op [a] pos) t:=λc s d H Q I e=>BoolOp_one (h c s d H Q I e)
theorem zq1(j:PE X a ta)(k:PE X (.BoolOp .And (b::rest) pos) tb):PE X (.BoolOp .And (a::b::rest) pos) (zsn ta tb):=by intro d s f H Q I h;refine BoolOp_and (thn (j d s f H _ I h) λv l z=>?_);obtain⟨x,g,i,m,e⟩:=z;obtain⟨c,rfl,e⟩:=e;cases m;refine ϒ ?_;cases c with|true=>exact k d l f g Q i e|false=>exact⟨.bl Δ,g,i,rfl,e⟩
theorem zsG(j:PE X a ta)(k:PE X (.BoolOp .Or (b::rest) pos) tb):PE X (.BoolOp .Or (a::b::rest) pos) (tOrV ta tb):=by intro d s f H Q I h;refine BoolOp_or (thn (j d s f H _ I h) λv l z=>?_);obtain⟨x,g,i,m,e⟩:=z;obtain⟨c,rfl,e⟩:=e;cases m;refine ϒ ?_;cases c with|false=>exact k d l f g Q i e|true=>exact⟨.bl Γ,g,i,rfl,e⟩
theorem zqT(f:PE X a ta):PE X (.UnaryOp .Not a pos) (zsk ta):=by intro d s g H Q I h;refine UnaryOp_ (thn (f d s g H _ I h) λv l z=>?_);obtain⟨x,i,j,k,e⟩:=z;obtain⟨c,rfl,e⟩:=e;cases k;exact not_of (ϒ ⟨.bl (!c),i,j,rfl,e⟩)
def tIf(t:TT)(ta tb:TE):TE:=λd H Q=>t d H λc e=>if c=Γ then ta d e Q else tb d e Q
theorem zlW(l:PT X c tA)(m:PE X a ta)(n:PE X b tb):PE X (.IfExp c a b pos) (tIf tA ta tb):=by intro e s f H Q I h;refine wpAny_IfExp (thn (l e s f H _ I h) λd g z=>?_);obtain⟨i,j,k⟩:=z;cases d with|true=>exact m e g f i Q j k|false=>exact n e g f i Q j k
end
def SqL(K:Frag)(H:Hp)(a:Addr)(xs:List V):Prop:=
 Rd H a (.lst xs)\/
  ∃(o:Obj) (b:Array Θ) (n:Nat),K.lookup a=Φ o/\o.cls=.type "list"/\o.dict=Ψ/\o.data=.seq b n/\b.size<=sizeLine/\Vals xs b.toList
def SqT(K:Frag)(H:Hp)(a:Addr)(xs:List V):Prop:=
 Rd H a (.tup xs)\/
  ∃(o:Obj) (b:Array Θ) (n:Nat),K.lookup a=Φ o/\o.cls=.type "tuple"/\o.data=.seq b n/\b.size<=sizeLine/\Vals xs b.toList
noncomputable def absV:Θ->Option V
 |.none=>Φ .non|.bool b=>Φ (.bl b)|.int i _=>Φ (.int i)|.str x _=>Φ (.str x)|.bytes b _=>Φ (.byt b)|.float b _=>Φ (.flt b)|.ref a=>Φ (.ref a)|.type n=>Φ (.ty n)|_=>Ψ
theorem RelV.abs(r:RelV x u):absV u=Φ x:=by cases x with|non=>cases r;rfl|bl _=>cases r;rfl|int _=>obtain⟨t,rfl⟩:=r;rfl|str _=>obtain⟨t,rfl⟩:=r;rfl|byt _=>obtain⟨t,rfl⟩:=r;rfl|flt _=>obtain⟨t,rfl⟩:=r;rfl|ref _=>cases r;rfl|ty _=>cases r;rfl
theorem RelV.inj(r:RelV x u)(q:RelV y u):x=y:=Option.some.inj (r.abs.symm.trans q.abs)
theorem Vals.inj{xs ys:List V}{us:List Θ}(h:Vals xs us)(k:Vals ys us):xs=ys:=by induction h generalizing ys with|nil=>cases k;rfl|cons r t i=>cases k with|cons a b=>rw[r.inj a,i b]
section
variable{X:Cx}{pins:List (Addr×Obj)}{σ:St}{H:Hp}{s:Ζ}{a:Addr}{xs ys:List V}
theorem SqL.of{K}(h:H a=Φ (.lst xs)):SqL K H a xs:=.inl (.inl h)
theorem SqT.of{K}(h:H a=Φ (.tup xs)):SqT K H a xs:=.inl (.inl h)
theorem Inv.list(I:Inv X pins σ H s)(h:SqL X.K H a xs):∃its:List Θ,Vals xs its/\PlainL s.heap a its.toArray/\xs.length<=sizeLine:=by rcases h with h|⟨o,its,n,b,c,d,f,g,r⟩;obtain⟨z,its,n,r,e⟩:=h.ok I.hok;exact⟨its,r,⟨_,n,e,rfl,rfl,rfl⟩,z⟩;refine⟨its.toList,r,⟨o,n,I.kIn a o b,c,d,by simpa using f⟩,?_⟩;have e:=r.length;simp only[length_toList]at e;lia
theorem Inv.tuple(I:Inv X pins σ H s)(h:SqT X.K H a xs):∃its:List Θ,Vals xs its/\IsTup s.heap a its.toArray/\xs.length<=sizeLine:=by rcases h with h|⟨o,its,n,b,c,d,f,r⟩;obtain⟨z,its,r,p⟩:=h.ok I.hok;exact⟨its,r,p,z⟩;refine⟨its.toList,r,⟨o,I.kIn a o b,c,n,by simpa using d⟩,?_⟩;have e:=r.length;simp only[length_toList]at e;lia
theorem Inv.list_inj(I:Inv X pins σ H s)(h:SqL X.K H a xs)(h':SqL X.K H a ys):xs=ys:=by
 obtain⟨c,r,⟨o,n,e,_,_,d⟩,_⟩:=I.list h;obtain⟨b,i,⟨k,l,f,_,_,g⟩,_⟩:=I.list h';rw[e]at f;cases f;rw[d]at g;injection g with j _;have:c=b:=by simpa using congrArg Array.toList j
 subst this;exact r.inj i
theorem Inv.tuple_inj(I:Inv X pins σ H s)(h:SqT X.K H a xs)(h':SqT X.K H a ys):xs=ys:=by
 obtain⟨c,r,⟨o,e,_,n,d⟩,_⟩:=I.tuple h;obtain⟨b,i,⟨k,f,_,l,g⟩,_⟩:=I.tuple h';rw[e]at f;cases f;rw[d]at g;injection g with j _;have:c=b:=by simpa using congrArg Array.toList j
 subst this;exact r.inj i
end
noncomputable abbrev Cx.wish(X:Cx)(E:Θ->Ζ->Prop):Cx:={X with xe:=E}
noncomputable abbrev Cx.nox(X:Cx):Cx:=X.wish λ_ _=>False
theorem Cx.Ok.wish{X:Cx}(ok:X.Ok)(E):(X.wish E).Ok:=⟨ok.mod,ok.kind,ok.glob,ok.blt,ok.above,ok.inj,ok.has,ok.cab,ok.hd,ok.frames,ok.stk,ok.exf,ok.bs,ok.bsz,ok.noex,ok.exfs,ok.funs,ok.frf⟩
theorem Cx.Ok.unwish{X:Cx}(ok:(X.wish E).Ok):X.Ok:=⟨ok.mod,ok.kind,ok.glob,ok.blt,ok.above,ok.inj,ok.has,ok.cab,ok.hd,ok.frames,ok.stk,ok.exf,ok.bs,ok.bsz,ok.noex,ok.exfs,ok.funs,ok.frf⟩
section
variable{X:Cx}{pins:List (Addr×Obj)}{σ:St}{H:Hp}{s:Ζ}{E:Θ->Ζ->Prop}
theorem Inv.wish(I:Inv X pins σ H s)(E):Inv (X.wish E) pins σ H s:=⟨I.ok.wish E,I.os,I.bare,I.base,I.loc,I.cell,I.free,I.freeC,I.pin,I.hok,I.len⟩
theorem Inv.unwish(I:Inv (X.wish E) pins σ H s):Inv X pins σ H s:=⟨I.ok.unwish,I.os,I.bare,I.base,I.loc,I.cell,I.free,I.freeC,I.pin,I.hok,I.len⟩
theorem SP.unwish(h:SP (X.wish E) pins D f c):SP X pins D f c:=by cases f with|next=>obtain⟨a,b,I,q⟩:=h;exact⟨a,b,I.unwish,q⟩|brk=>obtain⟨a,b,I,q⟩:=h;exact⟨a,b,I.unwish,q⟩|cont=>obtain⟨a,b,I,q⟩:=h;exact⟨a,b,I.unwish,q⟩|ret u=>obtain⟨v,a,b,I,r,q⟩:=h;exact⟨v,a,b,I.unwish,r,q⟩
theorem PSs.nox{st}(h:PSs X.nox st t):PSs X st t:=λpins s σ H D I a=>ϕ (h pins s σ H D (I.wish _) a) (λ_ _ q=>q.unwish) λ_ _ z=>False.elim z
end
section
variable{X:Cx}{st:Stmt}{rest:List Stmt}{t u:TS}{e:Expr}{te:TE}{pos:Pos}
def zsl:TS:=λD a H=>D.nx a H
def tSeq(t u:TS):TS:=λD a H=>t {D with nx:=u D} a H
theorem zjI:PSs X [] zsl:=λ_ _ a H _ I h=>wpAny_execs_nil ⟨a,H,I,h⟩
theorem zaJ(c:PS X st t)(d:PSs X rest u):PSs X (st::rest) (tSeq t u):=by intro a s g H D I h;refine wpAny_execs_cons (thn (c a s g H {D with nx:=u D} I h) λf i q=>?_);cases f with| next=>obtain⟨b,j,k,q⟩:=q;exact d a i b j D k q|ret v=>exact q|brk=>exact q|cont=>exact q
theorem zoj(b:PS X st t):PSs X [st] t:=by intro a s c H D I h;refine wpAny_execs_cons (thn (b a s c H D I h) λf d q=>?_);cases f with|next=>exact wpAny_execs_nil q|ret v=>exact q|brk=>exact q|cont=>exact q
theorem Inv.quiet(I:Inv X a b H s):interactive X.env=Δ:=by simp[interactive,I.ok.kind]
def zsm(te:TE):TS:=λD a H=>te a H λ_ b=>D.nx a b
theorem zol(he:PE X e te)(hs:swapsWith e Ψ pos.line X.env=pure Δ:=by rfl):PS X (.Expr e pos) (zsm te):=by intro pins s σ H D I h;exact wpAny_Expr_any (thn (he pins s σ H _ I h) λv s1 z=>(by obtain⟨x,H1,I1,r1,q1⟩:=z;exact ⟨σ,H1,I1,q1⟩)) I.quiet hs
def tRet(te:TE):TS:=λD a H=>te a H D.rt
theorem zm8(c:PE X e te):PS X (.Return (Φ e) pos) (tRet te):=by intro a s b H D I h;exact wpAny_Return_some (thn (c a s b H _ I h) λv j z=>(by obtain⟨x,d,f,g,i⟩:=z;exact ⟨x,b,d,f,g,i⟩))
def tIfS(c:TT)(t u:TS):TS:=λD a H=>c a H λb d=>if b=Γ then t D a d else u D a d
theorem zqI(m:PT X c n)(o:PSs X a t)(p:PSs X b u):PS X (.If c a b pos) (tIfS n t u):=by intro f s g H D I h;refine wpAny_If (thn (m f s g H _ I h) λd i z=>?_);obtain⟨j,k,l⟩:=z;cases d with|true=>exact o f i g j D k l|false=>exact p f i g j D k l
end
abbrev TG:=V->St->Hp->(St->Hp->Prop)->Prop
abbrev TGs:=List V->St->Hp->(St->Hp->Prop)->Prop
def PG(X:Cx)(a:Expr)(t:TG):Prop:=
 ∀(b:List (Addr×Obj))(s:Ζ)(d:St)(H:Hp)(v:V)(u:Θ)(Q:St->Hp->Prop),Inv X b d H s->RelV v u->t v d H Q->
  wpAny (model X.prog X.w) X.A (assign a X.env u) (λ_ f=>∃c e,Inv X b c e f/\Q c e) X.xe s
def PGs(X:Cx)(ts:List Expr)(t:TGs):Prop:=
 ∀(a:List (Addr×Obj))(s:Ζ)(c:St)(H:Hp)(d:List V)(e:List Θ)(Q:St->Hp->Prop),Inv X a c H s->Vals d e->t d c H Q->
  wpAny (model X.prog X.w) X.A (assignInOrder ((assignEach ts X.env).map (·.2)) e) (λ_ g=>∃b f,Inv X a b f g/\Q b f) X.xe s
abbrev TSet:=V->V->V->Hp->(Hp->Prop)->Prop
def PSet(X:Cx)(t:TSet):Prop:=
 ∀(a:List (Addr×Obj))(s:Ζ)(b:St)(H:Hp)(o i v:V)(c d u:Θ)(Q:Hp->Prop),Inv X a b H s->RelV o c->RelV i d->RelV v u->t o i v H Q->
  wpAny (model X.prog X.w) X.A (setItem c d u) (λ_ f=>∃e,Inv X a b e f/\Q e) X.xe s
section
variable{X:Cx}{pos:Pos}
def zkB(i:Nat):TG:=λv a H Q=>Q (a.set i (Φ v)) H
theorem zjN(b:X.N.Nodup)(c:X.N[i]?=Φ x)(d:Loc X.env.scope x)(e:X.fn x=Γ\/X.env.scope.names.lookup x=Φ .local:=by first|exact .inl rfl|exact .inr rfl|assumption):PG X (.Name x pos) (zkB i):=by intro a s g H v u Q I r h;exact wpAny_assign_Name (zhk I b c d r (λj f=>⟨_,H,f,h⟩) e)
def gNil:TGs:=λa b H Q=>a=[]/\Q b H
def zs6(t:TG)(u:TGs):TGs:=λb c H Q=>∃v r,b=v::r/\t v c H λa d=>u r a d Q
theorem zov:PGs X [] gNil:=by intro a s b H c d Q I r h;obtain⟨e,h⟩:=h;subst e;cases r;exact assignInOrder_nil ⟨b,H,I,h⟩
theorem zlS(c:PG X e t)(d:PGs X es u)(f:(assignEach (e::es) X.env).map (·.2)=assign e X.env::(assignEach es X.env).map (·.2):=by rfl):PGs X (e::es) (zs6 t u):=by
 intro a s g H o p Q I r h;obtain⟨v,q,i,h⟩:=h;subst i;cases r with| cons r j=>rw[f];refine assignInOrder_cons (thn (c a s g H _ _ _ I r h) λ_ k z=>?_);obtain⟨b,l,m,n⟩:=z;exact d a k b l _ _ Q m j n
def gTup(K:Frag)(n:Nat)(t:TGs):TG:=λv c H Q=>∃a b,v=.ref a/\SqT K H a b/\b.length=n/\t b c H Q
theorem zqQ(j:X.calm=Γ)(h:PGs X es t)(l:(assignEach es X.env).length=n:=by rfl)(d:(assignEach es X.env).findIdx? (·.1)=Ψ:=by rfl):PG X (.Tuple es k pos) (gTup X.K n t):=by
 intro c s g H v u Q I r f;obtain⟨a,m,p,q,w,f⟩:=f;subst p;cases r;obtain⟨x,i,y,C⟩:=I.tuple q;refine assign_Tuple_tuple (I.ok.hd j) y (by simp[l,<-w,i.length]) d λz A=>?_;have B:Inv X c g H {s with heap:=z}:=I.kept (t':=s.toks) λb o e=>A b o (ne_of_lt (Ι e)) e;exact h c _ g H m _ Q B (by simpa using i) f
def tAsg(b:TE)(g:TG):TS:=λD a H=>b a H λx c=>g x a c D.nx
theorem zqL(he:PE X e te)(hg:PG X tg g)(hs:swapsWithSole [tg] e pos.line X.env=pure Δ:=by rfl)(hw:swappedStores [tg] e X.env=pure Ψ:=by rfl)(h1:(assignEach [tg] X.env).map (·.2)=[assign tg X.env]:=by rfl):PS X (.Assign [tg] e pos) (tAsg te g):=by
 intro pins s σ H D I h;refine wpAny_Assign_stores (thn (he pins s σ H _ I h) λv s1 z=>?_) hs hw;obtain⟨x,H1,I1,r1,q1⟩:=z;rw[h1];exact thn (hg pins s1 σ H1 x v _ I1 r1 q1) λ_ s2 q=>q
theorem zm7(hN:X.N.Nodup)(hi:X.N[i]?=Φ x)(hx:Loc X.env.scope x)(he:PE X e te)(hs:swapsWith e (Φ (.Name x pos')) pos.line X.env=pure Δ:=by rfl)(hf:X.fn x=Γ\/X.env.scope.names.lookup x=Φ .local:=by first|exact .inl rfl|exact .inr rfl|assumption):
  PS X (.Assign [.Name x pos'] e pos) (tAsg te (zkB i)):=by
 intro pins s σ H D I h;refine wpAny_Assign_Name (thn (he pins s σ H _ I h) λv s1 z=>?_) hs;obtain⟨y,H1,I1,r1,q1⟩:=z;exact zhk I1 hN hi hx r1 (λs2 I2=>⟨_,H1,I2,q1⟩) hf
end
structure It where
 go:Nat->Hp->Prop
 yld:Nat->Hp->V->Hp->Prop
 stop:Nat->Hp->Prop
def FpOk(X:Cx)(a:List (Addr×Obj))(H:Hp)(b:Addr):Prop:=H b=Ψ/\b≠X.env.locals/\b∉X.fs/\(b∈X.ex\/X.s₀.heap.objs.size<=b)/\(∀x c,X.env.cells.lookup x=Φ c->c≠b)/\∀p∈X.pn++a,p.1≠b
theorem Inv.fpOk(I:Inv X a h H s)(d:s.heap.objs.size<=b)(f:H' b=Ψ):FpOk X a H' b:=by refine⟨f,ne_of_gt (lt_of_lt_of_le I.lt d),I.nofs d,.inr (le_trans I.sz d),λx c e z=>?_,λp g z=>?_⟩;obtain⟨v,q⟩:=I.cell x c e;exact absurd (lt_of_lt_of_le q.lt (by rw[z];exact d)) (lt_irrefl _);exact absurd (lt_of_lt_of_le (Ι (I.pin p g).1) (by rw[z];exact d)) (lt_irrefl _)
structure Turn(P:Υ)(w:ύ)(K:Frag)(tg:Expr)(J:It)(fp:List Addr)(it:Addr)(tn:Nat->Heap->Prop):Prop where
 mem:it∈fp
 obj:∀i h,tn i h->∀b∈fp,∃o,h.get? b=Φ o/\∀v,o.data≠.cell v
 keep:∀i h h',tn i h->(∀b∈fp,∀o,h.get? b=Φ o->h'.get? b=Φ o)->tn i h'
 item:∀(X:Cx),X.prog=P->X.w=w->X.K=K->X.calm=Γ->∀(i:Nat)(pins:List (Addr×Obj))(s:Ζ)(σ:St)(H:Hp)(E:Θ->Ζ->Prop),Inv X pins σ H s->(∀b∈fp,FpOk X pins H b)->tn i s.heap->J.go i H->
  wpAny (model P w) X.A (pyNext (.ref it)) (λr s1=>∃u,r=Φ u/\
   wpAny (model P w) X.A (letOwnedTupleGo tg (.ref it) u) (λ_ s2=>∃x H',Inv X pins σ H' s2/\RelV x u/\J.yld i H x H'/\tn (i+1) s2.heap/\∀b∈fp,H' b=Ψ) E s1) E s
 done:∀(X:Cx),X.prog=P->X.w=w->X.K=K->X.calm=Γ->∀(i:Nat)(pins:List (Addr×Obj))(s:Ζ)(σ:St)(H:Hp)(E:Θ->Ζ->Prop),Inv X pins σ H s->(∀b∈fp,FpOk X pins H b)->tn i s.heap->J.stop i H->
  wpAny (model P w) X.A (pyNext (.ref it)) (λr s1=>r=Ψ/\Inv X pins σ H s1) E s
 self:∀(A:ϑ)(i:Nat)(s:Ζ)(Q:Θ->Ζ->Prop)(E:Θ->Ζ->Prop),tn i s.heap->Q (.ref it) s->wpAny (model P w) A (pyIter (.ref it)) Q E s
abbrev TI:=St->Hp->(It->Hp->Prop)->Prop
def PIE(X:Cx)(a:List (Addr×Obj))(σ:St)(i:Expr)(R:It->Hp->Prop)(c:Θ)(e:Ζ):Prop:=∃(f:Addr) (g:List Addr) (h:Nat->Heap->Prop) (J:It) (d:Hp),c=.ref f/\Inv X a σ d e/\Turn X.prog X.w X.K i J g f h/\h 0 e.heap/\(∀b∈g,FpOk X a d b)/\R J d
def PI(X:Cx)(d b:Expr)(e:TI):Prop:=
 ∀(a:List (Addr×Obj))(s:Ζ)(c:St)(H:Hp)(R:It->Hp->Prop),Inv X a c H s->e c H R->
  wpAny (model X.prog X.w) X.A (eval b X.env) (λv f=>wpAny (model X.prog X.w) X.A (pyIter v) (PIE X a c d R) X.xe f) X.xe s
theorem zo1(b:s.heap.get? it=Φ o)(c:o.cls=.type n)(hd:o.data=.fields vs)(d:["enumerate","zip","dict_itemiterator","dict_reverseitemiterator","odict_iterator","itertools.zip_longest","itertools.pairwise"].contains n=Δ)(a:Q () s):wpAny M A (letOwnedTupleGo e (.ref it) u) Q E s:=by
 cases e<;>first
  |exact Β a
  |(cases u<;>first
   |exact Β a
   | (refine Ξ (wpAny_load b ?_)
      rw[c,hd];show wpAny M A (if(["enumerate","zip","dict_itemiterator","dict_reverseitemiterator","odict_iterator","itertools.zip_longest","itertools.pairwise"].contains n&&vs[0]?==Φ (rawInt _))=Γ then _ else _) Q E s;rw[if_neg (by intro h;rw[d]at h;exact nB h)];exact Β a))
noncomputable def Itl(K:Frag)(a:Addr):It:=⟨λi H=>∃b x,SqL K H a b/\b[i]?=Φ x,λi H x c=>c=H/\∀b,SqL K H a b->b[i]?=Φ x,λi H=>∃b,SqL K H a b/\b.length<=i⟩
noncomputable def Itt(K:Frag)(a:Addr):It:=⟨λi H=>∃b x,SqT K H a b/\b[i]?=Φ x,λi H x c=>c=H/\∀b,SqT K H a b->b[i]?=Φ x,λi H=>∃b,SqT K H a b/\b.length<=i⟩
noncomputable def Itr(lo:Int)(n:Nat):It:=⟨λi _=>i<n,λi H x a=>a=H/\x=.int (lo+i),λi _=>n<=i⟩
theorem zjf{P:Υ}{w:ύ}{K:Frag}{tg:Expr}(a it:Addr):Turn P w K tg (Itl K a) [it] it (λi h=>h.IsListIter it a i) where
 mem:=by simp
 obj:=λi h st b hb=>by
  have e:b=it:=by simpa using hb
  subst e;obtain⟨o,e,c,d⟩:=st;exact⟨o,e,λv z=>by rw[d]at z;cases z⟩
 keep:=λi h h' st k=>st.at λo e=>k it (by simp) o e
 item:=by intro X hP hw hK hc i pins s σ H E I hf st hg;subst hP hw hK;obtain⟨xs,x,hq,hx⟩:=hg;obtain⟨its,rv,p,hz⟩:=I.list hq;obtain⟨u,hu,ru⟩:=rv.get hx;obtain⟨f0,f1,f2,f3,f4,f5⟩:=hf it (by simp);refine wpAny_pyNext_list_item st p.isList (x:=u) (by simpa using hu) λh' st' sb=>?_;have I1:Inv X pins σ H {s with heap:=h'}:=I.turned (t':=s.toks) (λb o hb e=>(sb.2 b hb).trans e) f0 f1 f3 f4 f5;obtain⟨o,e,c,d⟩:=id st';exact⟨u,rfl,zo1 (s:={s with heap:=h'}) e c d (by decide) ⟨x,H,I1,ru,⟨rfl,λys hy=>by rw[I.list_inj hy hq];exact hx⟩,st',λb hb=>(hf b hb).1⟩⟩
 done:=by intro X hP hw hK hc i pins s σ H E I hf st hg;subst hP hw hK;obtain⟨xs,hq,hx⟩:=hg;obtain⟨its,rv,p,hz⟩:=I.list hq;obtain⟨f0,f1,f2,f3,f4,f5⟩:=hf it (by simp);have hl:=rv.length;exact wpAny_pyNext_list_end (I.ok.hd hc) st p.isList (by simp;lia) λh' eb=>⟨rfl,I.turned (t':=s.toks) (λb o hb e=>eb b o hb e) f0 f1 f3 f4 f5⟩
 self:=λ_ _ _ _ _ st h=>wpAny_pyIter_listiter st h
theorem zie{P:Υ}{w:ύ}{K:Frag}{tg:Expr}(a it:Addr):Turn P w K tg (Itt K a) [it] it (λi h=>h.IsTupleIter it a i) where
 mem:=by simp
 obj:=λi h st b hb=>by
  have e:b=it:=by simpa using hb
  subst e;obtain⟨o,e,c,d⟩:=st;exact⟨o,e,λv z=>by rw[d]at z;cases z⟩
 keep:=λi h h' st k=>st.at λo e=>k it (by simp) o e
 item:=by intro X hP hw hK hc i pins s σ H E I hf st hg;subst hP hw hK;obtain⟨xs,x,hq,hx⟩:=hg;obtain⟨its,rv,p,hz⟩:=I.tuple hq;obtain⟨u,hu,ru⟩:=rv.get hx;obtain⟨f0,f1,f2,f3,f4,f5⟩:=hf it (by simp);refine wpAny_pyNext_tuple_item st (show s.heap.IsTuple a its.toArray from p) (x:=u) (by simpa using hu) λh' st' sb=>?_;have I1:Inv X pins σ H {s with heap:=h'}:=I.turned (t':=s.toks) (λb o hb e=>(sb.2 b hb).trans e) f0 f1 f3 f4 f5;obtain⟨o,e,c,d⟩:=id st';exact⟨u,rfl,zo1 (s:={s with heap:=h'}) e c d (by decide) ⟨x,H,I1,ru,⟨rfl,λys hy=>by rw[I.tuple_inj hy hq];exact hx⟩,st',λb hb=>(hf b hb).1⟩⟩
 done:=by intro X hP hw hK hc i pins s σ H E I hf st hg;subst hP hw hK;obtain⟨xs,hq,hx⟩:=hg;obtain⟨its,rv,p,hz⟩:=I.tuple hq;obtain⟨f0,f1,f2,f3,f4,f5⟩:=hf it (by simp);have hl:=rv.length;exact wpAny_pyNext_tuple_end (I.ok.hd hc) st (show s.heap.IsTuple a its.toArray from p) (by simp;lia) λh' eb=>⟨rfl,I.turned (t':=s.toks) (λb o hb e=>eb b o hb e) f0 f1 f3 f4 f5⟩
 self:=λ_ _ _ _ _ st h=>wpAny_pyIter_tupleiter st h
theorem zif{P:Υ}{w:ύ}{K:Frag}{tg:Expr}(it:Addr)(lo:Int)(n:Nat):Turn P w K tg (Itr lo n) [it] it (λi h=>IsRangeIter h it (lo+(i:Nat)*1) ((n:Int)-(i:Nat)) 1) where
 mem:=by simp
 obj:=λi h st b hb=>by
  have e:b=it:=by simpa using hb
  subst e;exact⟨_,st,λv z=>by have z':Data.fields _=Data.cell v:=z;cases z'⟩
 keep:=λi h h' st k=>k it (by simp) _ st
 item:=by intro X hP hw hK hc i pins s σ H E I hf st hg;subst hP hw hK;obtain⟨f0,f1,f2,f3,f4,f5⟩:=hf it (by simp);have W:=Walks.range (prog:=X.prog) (w:=X.w) (I.ok.hd hc) it lo 1 n;refine W.item i s _ _ hg st λv h' tk hv st' kk=>?_;obtain⟨t,rfl⟩:=hv;have I1:Inv X pins σ H {s with heap:=h',toks:=tk}:=I.turned (λb o hb e=>kk b o (by simpa using hb) e) f0 f1 f3 f4 f5;refine⟨_,rfl,zo1 (s:={s with heap:=h',toks:=tk}) (n:="range_iterator") st' rfl rfl (by decide) ⟨.int (lo+i),H,I1,⟨t,?_⟩,⟨rfl,rfl⟩,st',λb hb=>(hf b hb).1⟩⟩;rw[Int.mul_one]
 done:=by intro X hP hw hK hc i pins s σ H E I hf st hg;subst hP hw hK;obtain⟨f0,f1,f2,f3,f4,f5⟩:=hf it (by simp);exact wpAny_pyNext_range_end (I.ok.hd hc) st (by have:n<=i:=hg;lia) λh' eb=>⟨rfl,I.turned (t':=s.toks) (λb o hb e=>eb b o hb e) f0 f1 f3 f4 f5⟩
 self:=λ_ _ _ _ _ st h=>wpAny_pyIter_rangeiter st h
section
variable{X:Cx}{tg:Expr}
theorem zhB{lo hi}(I:Inv X a σ H s)(f:-(2^62)<=lo)(g:lo<2^62)(h:-(2^62)<=hi)(i:hi<2^62)(q:R (Itr lo (hi-lo).toNat) H):wpAny (model X.prog X.w) X.A (pyIter (.ref s.heap.objs.size)) (PIE X a σ tg R) E {s with heap:=s.heap.push {cls:=.type "range",data:=.fields #[.int lo t,.int hi u,.int 1 v]},toks:=d}:=by
 refine wpAny_pyIter_range (IsRange.new ..) (small_one f g h i) ?_;have c:Inv X a σ H {s with heap:=s.heap.push {cls:=.type "range",data:=.fields #[.int lo t,.int hi u,.int 1 v]},toks:=d}:=I.kept λb o e=>Ω _ e;refine⟨(s.heap.push {cls:=.type "range",data:=.fields #[.int lo t,.int hi u,.int 1 v]}).objs.size,[(s.heap.push {cls:=.type "range",data:=.fields #[.int lo t,.int hi u,.int 1 v]}).objs.size],_,_,H,rfl,
  c.kept (t':=d) λb o e=>Ω _ e,zif _ lo (hi-lo).toNat,?_,λb j=>?_,q⟩
 have k:lo+((0:Nat):Int)*1=lo:=by simp
 have l:(((hi-lo).toNat:Nat):Int)-((0:Nat):Int)=Builtin.Range.rangeSize lo hi 1:=by rw[rangeSize_one];split<;>lia
 show IsRangeIter _ _ (lo+((0:Nat):Int)*1) ((((hi-lo).toNat:Nat):Int)-((0:Nat):Int)) 1;rw[k,l];exact Μ _ rfl;have e:b=(s.heap.push {cls:=.type "range",data:=.fields #[.int lo t,.int hi u,.int 1 v]}).objs.size:=by simpa using j
 subst e;exact c.fpOk (le_refl _) (c.hok.fresh (le_refl _))
def zs1(a:TA):TI:=λb H R=>a b H λc d=>∃j:Int,c=[.int j]/\-(2^62)<=j/\j<2^62/\R (Itr 0 j.toNat) d
def zs0(a:TA):TI:=λb H R=>a b H λc d=>∃i j:Int,c=[.int i,.int j]/\(-(2^62)<=i/\i<2^62/\-(2^62)<=j/\j<2^62)/\R (Itr i (j-i).toNat) d
theorem zjM(d:Gl X "range")(f:X.mg "range"=Ψ)(g:PA X [a] i)(hs:starEach [a] X.env=[(Δ,eval a X.env)]:=by rfl):PI X tg (.Call (.Name "range" p) [a] [] pos) (zs1 i):=by intro b s k H R I h;refine Call_ (zdM I d f boot_range (PyProof.Rows.callWith_type1 (thn (g pos b s k H _ I h) λu v z=>?_) hs rfl));obtain⟨w,x,l,m,c⟩:=z;obtain⟨j,e,c,n,q⟩:=c;subst e;cases m with| cons r o=>cases o;obtain⟨t,rfl⟩:=r;exact call_range_1 (zhB l (by lia) (by lia) c n (by simpa using q))
theorem zjL(k:Gl X "range")(l:X.mg "range"=Ψ)(m:PA X [a,b] n)(hs:starEach [a,b] X.env=[(Δ,eval a X.env),(Δ,eval b X.env)]:=by rfl)(c:starEach [b] X.env=[(Δ,eval b X.env)]:=by rfl):
  PI X tg (.Call (.Name "range" p) [a,b] [] pos) (zs0 n):=by
 intro d s o H R I h;refine Call_ (zdM I k l boot_range (PyProof.Rows.callWith_type1 (thn (m pos d s o H _ I h) λB C z=>eY z λE G u v f=>?_) (by rw[hs,c]) (by rw[c];rfl)));obtain⟨i,j,e,⟨f,w,x,y⟩,q⟩:=f;subst e;cases v with| cons r g=>cases g with| cons A g=>cases g;obtain⟨t,rfl⟩:=r;obtain⟨J,rfl⟩:=A;exact call_range_2 (zhB u f w x y q)
def tFor(f:TI)(g:TG)(h:TS):TS:=λD a H=>f a H λJ j=>∃W:Nat->Nat->St->Hp->Prop,(∃m,W 0 m a j)/\∀i m a H,W i m a H->
 (J.stop i H/\D.nx a H)\/(J.go i H/\∃N:St->Hp->Prop,(∀b c,N b c->∃e,e<m/\W (i+1) e b c)/\∀x c,J.yld i H x c->g x a c λd k=>h {D with nx:=N,ct:=N,bk:=D.nx} d k)
noncomputable def zfD(a:List Addr)(h:Heap):List (Addr×Obj):=a.filterMap λb=>(h.get? b).map λo=>(b,o)
theorem zb2(a:b∈c)(e:h.get? b=Φ o):(b,o)∈zfD c h:=List.mem_filterMap.mpr ⟨b,a,by rw[e];rfl⟩
theorem zjV(a:p∈zfD c h):p.1∈c/\h.get? p.1=Φ p.2:=by
 obtain⟨b,d,e⟩:=List.mem_filterMap.mp a;cases q:h.get? b with
 |none=>rw[q]at e;exact nS e
 |some o=>rw[q]at e;have f:=Option.some.inj e;subst f;exact⟨d,q⟩
theorem Inv.pinned(I:Inv X a σ H s)(h:∀b∈c,FpOk X a H b)(i:∀b∈c,∃o,s.heap.get? b=Φ o/\∀v,o.data≠.cell v):Inv X (a++zfD c s.heap) σ H s:=I.pins_of λp j=>(mem_append.mp j).elim (λz=>I.pin p (mem_append_right _ z)) λz=>by obtain⟨f,e⟩:=zjV z;obtain⟨k,l,m,_⟩:=h p.1 f;obtain⟨o,g,d⟩:=i p.1 f;rw[e]at g;cases g;exact⟨e,k,l,m,d⟩
theorem Inv.unpinned(I:Inv X (a++d) b H s):Inv X a b H s:=I.pins_of λp c=>I.pin p (mem_append_right _ (mem_append_left _ c))
theorem zqJ(G:PassesOwn (model X.prog X.w) X.A X.env X.xe)(hc:X.calm=Γ)(hi:PI X tg A wi)(hg:PG X tg g)(j:PSs X L tb)(hs:∀x,foldedSetIterable A X.env x=pure x:=by intro _;rfl):PS X (.For tg A L [] pos) (tFor wi g tb):=by
 intro a s σ H D I h;refine wpAny_For (thn (hi a s σ H _ I h) λv s1 h1=>thn h1 λitv s2 h2=>?_) hs;obtain⟨it,M,tn,J,H2,e,I2,T,st2,f2,W,⟨m0,w0⟩,O⟩:=h2;subst e
 -- what stays Γ of the B Q through the loop
 have l:∀{y:Hp},(∀b∈M,y b=Ψ)->∀b∈M,FpOk X a y b:=λhn b j=>⟨hn b j,(f2 b j).2⟩;refine codeAny_forLoop_any (λn s'=>∃i p y,Inv X a p y s'/\tn i s'.heap/\(∀b∈M,y b=Ψ)/\W i n p y) ?_ m0 ⟨0,σ,H2,I2,st2,λb j=>(f2 b j).1,w0⟩;rintro n s3 ⟨i,q,H3,I3,U,Y,w3⟩;rcases O i n q H3 w3 with⟨stop,qn⟩|⟨go,N,hN,step⟩;refine wpAny_passesOwn G (thn (T.done X rfl rfl rfl hc i a s3 q H3 X.xe I3 (l Y) U stop) λr s4 k=>?_);obtain⟨hr,I4⟩:=k;subst hr;exact wpAny_execs_nil ⟨q,H3,I4,qn⟩;refine wpAny_passesOwn G (thn (T.item X rfl rfl rfl hc i a s3 q H3 X.xe I3 (l Y) U go) λr s4 z=>?_);obtain⟨u,hr,h4⟩:=z;subst hr;refine wpAny_passesOwn G (thn h4 λ_ s5 z=>?_);obtain⟨x,H5,I5,r5,y5,E,fr5⟩:=z;have I5':=I5.pinned (l fr5) (T.obj _ _ E);refine wpAny_passesOwn G (thn (hg _ s5 q H5 x u _ I5' r5 (step x H5 y5)) λ_ s6 z=>?_);obtain⟨σ6,H6,I6,q6⟩:=z;refine wpAny_passesOwn G (thn (j _ s6 σ6 H6 _ I6 q6) λf s7 C=>?_);have again:∀{c:St}{t:Hp},Inv X (a++zfD M s5.heap) c t s7->N c t->∃m,m<n/\∃i p y,Inv X a p y s7/\tn i s7.heap/\(∀b∈M,y b=Ψ)/\W i m p y:=λ{c t} w n7=>by obtain⟨m',hm,w7⟩:=hN c t n7;refine⟨m',hm,i+1,c,t,w.unpinned,T.keep _ _ _ E λb j o e=>(w.pin (b,o) (mem_append_right _ (mem_append_right _ (zb2 j e)))).1,λb j=>?_,w7⟩;obtain⟨o,e,d⟩:=T.obj _ _ E b j;exact(w.pin (b,o) (mem_append_right _ (mem_append_right _ (zb2 j e)))).2.1
 cases f with|next=>obtain⟨c,t,w,n7⟩:=C;exact again w n7|cont=>obtain⟨c,t,w,n7⟩:=C;exact again w n7|brk=>obtain⟨c,t,w,C⟩:=C;exact⟨c,t,w.unpinned,C⟩|ret v=>obtain⟨x7,c,t,w,r7,C⟩:=C;exact⟨x7,c,t,w.unpinned,r7,C⟩
end
abbrev R2:=V->V->Hp->VK->Prop
def OpR(X:Cx)(f:Θ->Θ->Sem Θ)(r:R2):Prop:=
 ∀(a:List (Addr×Obj))(s:Ζ)(b:St)(H:Hp)(x y:V)(v u:Θ)(Q:VK),Inv X a b H s->RelV x v->RelV y u->r x y H Q->
  wpAny (model X.prog X.w) X.A (f v u) (EP X a b Q) X.xe s
def UnR(X:Cx)(f:Θ->Sem Θ)(r:V->Hp->VK->Prop):Prop:=
 ∀(a:List (Addr×Obj))(s:Ζ)(b:St)(H:Hp)(x:V)(v:Θ)(Q:VK),Inv X a b H s->RelV x v->r x H Q->
  wpAny (model X.prog X.w) X.A (f v) (EP X a b Q) X.xe s
def zba(X:Cx)(f:Θ)(r:List V->Hp->VK->Prop):Prop:=
 ∀(a:List (Addr×Obj))(s:Ζ)(b:St)(H:Hp)(c:List V)(d:List Θ)(Q:VK),Inv X a b H s->Vals c d->r c H Q->
  wpAny (model X.prog X.w) X.A (call f d) (EP X a b Q) X.xe s
def TruR(X:Cx)(r:V->Hp->(Bool->Hp->Prop)->Prop):Prop:=
 ∀(a:List (Addr×Obj))(s:Ζ)(b:St)(H:Hp)(x:V)(v:Θ)(Q:Bool->Hp->Prop),Inv X a b H s->RelV x v->r x H Q->
  wpAny (model X.prog X.w) X.A (truthy v) (TP X a b Q) X.xe s
def tOp(r:R2)(b c:TE):TE:=λa H Q=>b a H λx d=>c a d λy e=>r x y e Q
def tUn(r:V->Hp->VK->Prop)(a:TE):TE:=λb H Q=>a b H λx c=>r x c Q
def rI(C:Int->Int->Prop)(g:Int->Int->V):R2:=λx y H Q=>∃i j,x=.int i/\y=.int j/\C i j/\Q (g i j) H
def rI0(g:Int->Int->V):R2:=λx y H Q=>∃i j,x=.int i/\y=.int j/\Q (g i j) H
def rU(g:Int->V):V->Hp->VK->Prop:=λx H Q=>∃i,x=.int i/\Q (g i) H
section
variable{X:Cx}{a b c:Expr}{ta tb tc:TE}{pos:Pos}
theorem binT(m:PE X a ta)(n:PE X b tb){R:V->V->Hp->Prop}(I:Inv X d g H s)(h:ta g H λx l=>tb g l λy e=>R x y e){f:Θ->Θ->Sem Θ}(o:∀v u k x y e,Inv X d g e k->RelV x v->RelV y u->R x y e->wpAny (model X.prog X.w) X.A (f v u) Q X.xe k):
  wpAny (model X.prog X.w) X.A (eval a X.env) (λv i=>wpAny (model X.prog X.w) X.A (eval b X.env) (λu j=>wpAny (model X.prog X.w) X.A (f v u) Q X.xe j) X.xe i) X.xe s:=by
 refine thn (m d s g H _ I h) λv p z=>?_;obtain⟨x,l,q,r,t⟩:=z;refine thn (n d p g l _ q t) λu k z=>?_;obtain⟨y,e,w,A,B⟩:=z;exact o v u k x y e w r A B
theorem zsH(e:OpR X (binaryOp op) r)(f:PE X a ta)(g:PE X b tb):PE X (.BinOp a op b pos) (tOp r ta tb):=by intro d s i H Q I h;exact wpAny_BinOp (binT f g I h λv u j x y k l m n q=>e d j i k x y v u Q l m n q)
theorem zsF(f:UnR X (unaryOp op) r)(g:PE X a ta):PE X (.UnaryOp op a pos) (tUn r ta):=by intro d s e H Q I h;exact UnaryOp_ (thn (g d s e H _ I h) λv i z=>(by obtain⟨x,j,k,l,m⟩:=z;exact f d i e j x v Q k l m))
theorem opI{g:Int->Int->Int}(rule:∀(i j:Int)(t u:Tok)(s:Ζ)(Q:Θ->Ζ->Prop)(E:Θ->Ζ->Prop),C i j->Q (.int (g i j) s.toks) {s with toks:=s.toks+1}->wpAny (model X.prog X.w) X.A (f (.int i t) (.int j u)) Q E s):
  OpR X f (rI C λi j=>.int (g i j)):=by
 intro d s n H x y v u Q I e k h;obtain⟨i,j,rfl,rfl,l,q⟩:=h;obtain⟨t,rfl⟩:=e;obtain⟨m,rfl⟩:=k;exact rule i j t m s _ _ l ⟨.int (g i j),H,I.tok _,⟨_,rfl⟩,q⟩
theorem opI0{g:Int->Int->Int}(rule:∀(i j:Int)(t u:Tok)(s:Ζ)(Q:Θ->Ζ->Prop)(E:Θ->Ζ->Prop),Q (.int (g i j) s.toks) {s with toks:=s.toks+1}->wpAny (model X.prog X.w) X.A (f (.int i t) (.int j u)) Q E s):
  OpR X f (rI0 λi j=>.int (g i j)):=by
 intro d s m H x y v u Q I e k h;obtain⟨i,j,rfl,rfl,q⟩:=h;obtain⟨t,rfl⟩:=e;obtain⟨l,rfl⟩:=k;exact rule i j t l s _ _ ⟨.int (g i j),H,I.tok _,⟨_,rfl⟩,q⟩
theorem opB0{g:Int->Int->Bool}(rule:∀(i j:Int)(t u:Tok)(s:Ζ)(Q:Θ->Ζ->Prop)(E:Θ->Ζ->Prop),Q (.bool (g i j)) s->wpAny (model X.prog X.w) X.A (f (.int i t) (.int j u)) Q E s):
  OpR X f (rI0 λi j=>.bl (g i j)):=by
 intro d s m H x y v u Q I e k h;obtain⟨i,j,rfl,rfl,q⟩:=h;obtain⟨t,rfl⟩:=e;obtain⟨l,rfl⟩:=k;exact rule i j t l s _ _ ⟨.bl (g i j),H,I,rfl,q⟩
def CDiv(i j:Int):Prop:=0<j/\j<1073741824
def CPow(i j:Int):Prop:=0<=j/\j<=1000000/\i.natAbs<2^64
def CMul(i j:Int):Prop:=(-(2^64)<i/\i<2^64)\/(-(2^64)<j/\j<2^64)
theorem CMul.ok(h:CMul i j):IntMulOk i j:=by rcases h with⟨d,e⟩|⟨d,e⟩;exact .of_left (intBits_le_64 d e);exact .of_right (intBits_le_64 d e)
theorem zrd:OpR X (binaryOp .Add) (rI0 λi j=>.int (i+j)):=opI0 λ_ _ _ _ _ _ _ q=>add_int q
theorem zq5:OpR X (binaryOp .Sub) (rI0 λi j=>.int (i-j)):=opI0 λ_ _ _ _ _ _ _ q=>sub_int q
theorem zq8:OpR X (binaryOp .Mult) (rI CMul λi j=>.int (i*j)):=opI λ_ _ _ _ _ _ _ d q=>mul_int q d.ok
theorem zoD:OpR X (binaryOp .FloorDiv) (rI CDiv λi j=>.int (i/j)):=opI λi j _ _ _ _ _ d q=>by have e:=d.1;have f:=d.2;exact floordiv_int (by lia) (by rw[Int.fdiv_eq_ediv_of_nonneg i (by lia)];exact q) (.inl (PyProof.noPylong_small (by lia)))
theorem zq9:OpR X (binaryOp .Mod) (rI (λ_ j=>0<j) λi j=>.int (i%j)):=opI λi j _ _ _ _ _ d q=>by exact mod_int' (by lia) (by rw[Int.fmod_eq_emod_of_nonneg i (by lia)];exact q)
theorem zq6:OpR X (binaryOp .Pow) (rI CPow λi j=>.int (i^j.toNat)):=opI λ_ _ _ _ _ _ _ d q=>pow_int_small d.1 d.2.1 d.2.2 q
theorem unI{g:Int->Int}(rule:∀(i:Int)(t:Tok)(s:Ζ)(Q:Θ->Ζ->Prop)(E:Θ->Ζ->Prop),Q (.int (g i) s.toks) {s with toks:=s.toks+1}->wpAny (model X.prog X.w) X.A (f (.int i t)) Q E s):
  UnR X f (rU λi=>.int (g i)):=by
 intro d s j H x v Q I e h;obtain⟨i,rfl,q⟩:=h;obtain⟨t,rfl⟩:=e;exact rule i t s _ _ ⟨.int (g i),H,I.tok _,⟨_,rfl⟩,q⟩
theorem zpF:UnR X (unaryOp .USub) (rU λi=>.int (-i)):=unI λ_ _ _ _ _ q=>neg_int q
end
noncomputable def scal:V->V->Bool
 |.non,.non=>Γ|.non,.int _=>Γ|.int _,.non=>Γ|.non,.bl _=>Γ|.bl _,.non=>Γ|.non,.str _=>Γ|.str _,.non=>Γ
 |.int _,.int _=>Γ|.bl _,.bl _=>Γ|.str _,.str _=>Γ|.byt _,.byt _=>Γ
 |.int _,.str _=>Γ|.str _,.int _=>Γ|.bl _,.str _=>Γ|.str _,.bl _=>Γ
 |_,_=>Δ
def rEq:R2:=λx y H Q=>scal x y=Γ/\Q (.bl (decide (x=y))) H
def rNe:R2:=λx y H Q=>scal x y=Γ/\Q (.bl (!decide (x=y))) H
theorem zkP:decide (V.int i=V.int j)=(i==j):=by rw[Bool.eq_iff_iff];simp
theorem znm:decide (V.bl i=V.bl j)=(i==j):=by rw[Bool.eq_iff_iff];simp
theorem zkO:decide (V.str i=V.str j)=(i==j):=by rw[Bool.eq_iff_iff];simp
theorem zkQ:decide (V.byt i=V.byt j)=(i.toList==j.toList):=by rw[Bool.eq_iff_iff];cases i;cases j;simp
section
variable{X:Cx}{a b c:Expr}{ta tb tc:TE}{pos:Pos}
theorem zap(I:Inv X d σ H s)(q:Q (.bl k) H)(e:k=f):EP X d σ Q (.bool f) s:=by subst e;exact⟨.bl k,H,I,rfl,q⟩
theorem zsP:OpR X (compareOp .Eq) rEq:=by
 intro k s l H x y v u Q I g d h;obtain⟨f,q⟩:=h;cases x with
 |non=>cases g;cases y with|non=>cases d;exact PySem.EqNone.eq_none_none (zap I q (by simp))|bl j=>cases d;exact PySem.EqNone.eq_none_bool (zap I q (by simp))|int j=>obtain⟨e,rfl⟩:=d;exact PySem.EqNone.eq_none_int (zap I q (by simp))|str j=>obtain⟨e,rfl⟩:=d;exact PySem.EqNone.eq_none_str (zap I q (by simp))|_=>exact absurd (show Δ=Γ from f) Ε
 |bl i=>cases g;cases y with|non=>cases d;exact PySem.EqNone.eq_bool_none (zap I q (by simp))|bl j=>cases d;exact eq_bool (zap I q znm)|str j=>obtain⟨e,rfl⟩:=d;exact PySem.EqMixed.eq_bool_str (zap I q (by simp))|_=>exact absurd (show Δ=Γ from f) Ε
 |int i=>obtain⟨t,rfl⟩:=g;cases y with|non=>cases d;exact PySem.EqNone.eq_int_none (zap I q (by simp))|int j=>obtain⟨e,rfl⟩:=d;exact eq_int (zap I q zkP)|str j=>obtain⟨e,rfl⟩:=d;exact PySem.EqMixed.eq_int_str (zap I q (by simp))|_=>exact absurd (show Δ=Γ from f) Ε
 |str i=>obtain⟨t,rfl⟩:=g;cases y with|non=>cases d;exact PySem.EqNone.eq_str_none (zap I q (by simp))|bl j=>cases d;exact PySem.EqMixed.eq_str_bool (zap I q (by simp))|int j=>obtain⟨e,rfl⟩:=d;exact PySem.EqMixed.eq_str_int (zap I q (by simp))|str j=>obtain⟨e,rfl⟩:=d;exact eq_str (zap I q zkO)|_=>exact absurd (show Δ=Γ from f) Ε
 |byt i=>obtain⟨t,rfl⟩:=g;cases y with|byt j=>obtain⟨e,rfl⟩:=d;exact PySem.W.eq_bytes (zap I q zkQ)|_=>exact absurd (show Δ=Γ from f) Ε
 |_=>cases y<;>exact absurd (show Δ=Γ from f) Ε
theorem zsK:OpR X (compareOp .NotEq) rNe:=by
 intro pins s σ H x y v u Q I rx ry h;obtain⟨hs,q⟩:=h;cases x with
 |non=>cases rx;cases y with|non=>cases ry;exact PySem.EqNone.ne_none_none (zap I q (by simp))|bl j=>cases ry;exact PySem.EqNone.ne_none_bool (zap I q (by simp))|int j=>obtain⟨t',rfl⟩:=ry;exact PySem.EqNone.ne_none_int (zap I q (by simp))|str j=>obtain⟨t',rfl⟩:=ry;exact PySem.EqNone.ne_none_str (zap I q (by simp))|_=>exact absurd (show Δ=Γ from hs) Ε
 |bl i=>cases rx;cases y with|non=>cases ry;exact PySem.EqNone.ne_bool_none (zap I q (by simp))|bl j=>cases ry;exact ne_bool (zap I q (congrArg not znm))|str j=>obtain⟨t',rfl⟩:=ry;exact PySem.EqMixed.ne_bool_str (zap I q (by simp))|_=>exact absurd (show Δ=Γ from hs) Ε
 |int i=>obtain⟨t,rfl⟩:=rx;cases y with|non=>cases ry;exact PySem.EqNone.ne_int_none (zap I q (by simp))|int j=>obtain⟨t',rfl⟩:=ry;exact ne_int (zap I q (congrArg not zkP))|str j=>obtain⟨t',rfl⟩:=ry;exact PySem.EqMixed.ne_int_str (zap I q (by simp))|_=>exact absurd (show Δ=Γ from hs) Ε
 |str i=>obtain⟨t,rfl⟩:=rx;cases y with|non=>cases ry;exact PySem.EqNone.ne_str_none (zap I q (by simp))|bl j=>cases ry;exact PySem.EqMixed.ne_str_bool (zap I q (by simp))|int j=>obtain⟨t',rfl⟩:=ry;exact PySem.EqMixed.ne_str_int (zap I q (by simp))|str j=>obtain⟨t',rfl⟩:=ry;exact ne_str (zap I q (congrArg not zkO))|_=>exact absurd (show Δ=Γ from hs) Ε
 |byt i=>obtain⟨t,rfl⟩:=rx;cases y with|byt j=>obtain⟨t',rfl⟩:=ry;exact PySem.W.ne_bytes (zap I q (congrArg not zkQ))|_=>exact absurd (show Δ=Γ from hs) Ε
 |_=>cases y<;>exact absurd (show Δ=Γ from hs) Ε
theorem zsL:OpR X (compareOp .Lt) (rI0 λi j=>.bl (decide (i<j))):=opB0 λ_ _ _ _ _ _ _ q=>lt_int q
theorem zsM:OpR X (compareOp .LtE) (rI0 λi j=>.bl (decide (i<=j))):=opB0 λ_ _ _ _ _ _ _ q=>le_int q
theorem zsN:OpR X (compareOp .Gt) (rI0 λi j=>.bl (decide (j<i))):=opB0 λ_ _ _ _ _ _ _ q=>gt_int q
theorem zsO:OpR X (compareOp .GtE) (rI0 λi j=>.bl (decide (j<=i))):=opB0 λ_ _ _ _ _ _ _ q=>ge_int q
theorem zoy(e:OpR X (compareOp op) r)(f:PE X a ta)(g:PE X b tb)(i:behindInMarks op b=Δ):PE X (.Compare a [op] [b] pos) (tOp r ta tb):=by intro d s j H Q I h;exact wpAny_Compare1 (binT f g I h λv u k x y l m n o q=>e d k j l x y v u Q m n o q) i
def zpQ(t:TE):TT:=λd H Q=>t d H λx e=>∃k,x=.bl k/\Q k e
theorem zjH(g:OpR X (compareOp op) r)(i:PE X a ta)(l:PE X b tb)(m:behindInMarks op b=Δ):PT X (.Compare a [op] [b] pos) (zpQ (tOp r ta tb)):=by intro d s f H Q I h;refine wpAny_isTrue_Compare1 (thn (i d s f H _ I h) λv n z=>eY z λx o p q t=>thn (l d n f o _ p t) λu w z=>eY z λy A B C E=>thn (g d w f A x y v u _ B q C E) λc N j=>?_) m;obtain⟨z,G,J,L,k,e,M⟩:=j;subst e;cases L;exact ϒ ⟨G,J,M⟩
def zmV(r f:R2)(ta tb tc:TE):TE:=λd H Q=>ta d H λx g=>tb d g λy h=>r x y h λz e=>∃k,z=.bl k/\
 (if k=Γ then tc d e λi j=>f y i j Q else Q (.bl Δ) e)
theorem zl3(t:OpR X (compareOp op) r)(l:OpR X (compareOp g) w)(A:PE X a ta)(B:PE X b tb)(C:PE X c tc)(E:lastMarks [op,g] [b,c]=Δ:=by with_unfolding_all rfl):PE X (.Compare a [op,g] [b,c] pos) (zmV r w ta tb tc):=by
 intro f s i H Q I h;refine Compare_chain (thn (A f s i H _ I h) λv G z=>eY z λx J L M N=>chain_link (thn (B f G i J _ L N) λu O z=>eY z λy T U m Y=>thn (t f O i T x y v u _ U M m Y) λd s3 j=>?_)) E;obtain⟨z,n,o,r3,k,e,q⟩:=j;subst e;cases r3;refine ϒ ?_;cases k with|false=>exact ite_ff ⟨.bl Δ,n,o,rfl,q⟩|true=>exact ite_tt (chain_last (thn (C f s3 i n _ o q) λw' s4 p=>(by obtain⟨z',H4,I4,r4,q4⟩:=p;exact l f s4 i H4 y z' u w' Q I4 m r4 q4)))
theorem zlO(q:OpR X (compareOp op) r)(l:OpR X (compareOp g) t)(w:PE X a ta)(A:PE X b tb)(B:PE X c tc)(C:lastMarks [op,g] [b,c]=Δ:=by with_unfolding_all rfl):PT X (.Compare a [op,g] [b,c] pos) (zpQ (zmV r t ta tb tc)):=by
 intro f s i H Q I h;refine isTrue_chain (thn (w f s i H _ I h) λv E z=>eY z λx G J L M=>test_link (thn (A f E i G _ J M) λu N z=>eY z λy O T m U=>thn (q f N i O x y v u _ T L m U) λd Y j=>?_)) C;obtain⟨z,n,o,r3,k,e,p⟩:=j;subst e;cases r3;refine ϒ ?_;cases k with| false=>obtain⟨k',e',q'⟩:=p;cases e';exact ite_ff ⟨n,o,q'⟩| true=>refine ite_tt (test_last (thn (B f Y i n _ o p) λw' s4 z=>eY z λz' H4 I4 r4 q4=>thn (l f s4 i H4 y z' u w' _ I4 m r4 q4) λd' s5 j=>?_));obtain⟨z2,H5,I5,r5,k2,e2,q5⟩:=j;subst e2;cases r5;exact ϒ ⟨H5,I5,q5⟩
def TruV(K:Frag)(x:V)(H:Hp)(k:Bool):Prop:=match x with|.non=>k=Δ|.bl b=>k=b|.int i=>k=(i != 0)|.str y=>y.length<=sizeLine/\k=((y.length:Int) != 0)|.byt y=>y.size<=sizeLine/\k=((y.size:Int) != 0)|.ref p=>(∃d,SqL K H p d/\k = !d.isEmpty)\/(∃d,SqT K H p d/\k = !d.isEmpty)\/∃e,H p=Φ (.dK e)/\k = !e.isEmpty|_=>False
theorem ziL(r:KV d vs):(!vs.isEmpty) = !d.isEmpty:=by cases r<;>rfl
theorem zek(r:Vals xs its):(!its.toArray.isEmpty) = !xs.isEmpty:=by cases r<;>simp
theorem zeh:(sizeLine:Nat)<2^63:=by decide
theorem zpJ:TruR X (λx H Q=>∃k,TruV X.K x H k/\Q k H):=by
 intro w s E H x v Q I g h;obtain⟨k,e,q⟩:=h;have G:=ϋ;cases x with
 |non=>cases g;have d:=e;subst d;exact truthy_none ⟨H,I,q⟩| bl b=>cases g;have d:=e;subst d;exact ϒ ⟨H,I,q⟩| int i=>obtain⟨t,rfl⟩:=g;have d:=e;subst d;exact PySem.P.truthy_int ⟨H,I,q⟩| str y=>obtain⟨t,rfl⟩:=g;obtain⟨A,d⟩:y.length<=sizeLine/\k=((y.length:Int) != 0):=e;subst d;exact PySem.P.truthy_str (by cutsat) ⟨H,I.tok _,q⟩| byt y=>obtain⟨t,rfl⟩:=g;obtain⟨A,d⟩:y.size<=sizeLine/\k=((y.size:Int) != 0):=e;subst d;exact PySem.W.truthy_bytes (by cutsat) ⟨H,I.tok _,q⟩| ref p=>cases g;have d:=e;rcases d with⟨B,j,d⟩|⟨B,j,d⟩|⟨l,j,d⟩;subst d;obtain⟨n,r,o,z⟩:=I.list j;have f:=r.length;exact wpAny_truthy_list o.isList (by simp only[size_toArray];cutsat) ⟨H,I.tok _,by rw[zek r];exact q⟩;subst d;obtain⟨n,r,o,z⟩:=I.tuple j;have f:=r.length;exact truthy_tuple o (by simp only[size_toArray];cutsat) ⟨H,I.tok _,by rw[zek r];exact q⟩;subst d;obtain⟨z,C,u,r,m⟩:l.length<=sizeLine/\(p==sysModules)=Δ/\∃u,KV l u/\s.heap.DictOf (zam X.prog X.w) p u:=I.hok p _ j;have f:=Paired.length r;exact wpAny_truthy_dict C m (by cutsat) ⟨H,I.tok _,by rw[ziL r];exact q⟩
 |_=>exact(show False from e).elim
theorem zlN(f:PE X a ta)(g:∀d,isTrue a X.env d=(do let v <-d;standAt a.pos;holding [v] (truthy v))) :
  PT X a (λσ H Q=>ta σ H λx H'=>∃k,TruV X.K x H' k/\Q k H'):=by
 intro e s σ H Q I h;exact isTrue_plain (thn (f e s σ H _ I h) λv i z=>(by obtain⟨x,j,l,m,n⟩:=z;exact zpJ e i σ j x v Q l m n)) (g _)
theorem znz(r:Vals [x] us):∃u,us=[u]/\RelV x u:=by cases r with|cons d e=>cases e;exact⟨_,rfl,d⟩
theorem zny(r:Vals [x,y] us):∃u d,us=[u,d]/\RelV x u/\RelV y d:=by cases r with| cons e f=>cases f with|cons g h=>cases h;exact⟨_,_,rfl,e,g⟩
theorem zmD:zba X (.builtin "abs") (λxs H Q=>∃i,xs=[.int i]/\Q (.int (if i<0 then -i else i)) H):=by intro d s e H xs f Q I r h;obtain⟨i,rfl,q⟩:=h;obtain⟨u,rfl,t,rfl⟩:=znz r;exact call_abs_int λu g=>⟨.int (if i<0 then -i else i),H,I.tok _,⟨_,rfl⟩,q⟩
theorem zkY(f:X.calm=Γ):zba X (.builtin "max") (λxs H Q=>∃i j,xs=[.int i,.int j]/\Q (.int (if j>i then j else i)) H):=by intro e s g H xs l Q I r h;obtain⟨i,j,rfl,q⟩:=h;obtain⟨u,m,rfl,⟨t,rfl⟩,⟨n,rfl⟩⟩:=zny r;refine max_two_ints (I.ok.hd f) λo p k=>⟨_,H,I.kept k,?_,q⟩;by_cases d:j>i;rw[if_pos d,if_pos d];exact⟨_,rfl⟩;rw[if_neg d,if_neg d];exact⟨_,rfl⟩
theorem zkX(f:X.calm=Γ):zba X (.builtin "min") (λxs H Q=>∃i j,xs=[.int i,.int j]/\Q (.int (if j<i then j else i)) H):=by intro e s g H xs l Q I r h;obtain⟨i,j,rfl,q⟩:=h;obtain⟨u,m,rfl,⟨t,rfl⟩,⟨n,rfl⟩⟩:=zny r;refine min_two_ints (I.ok.hd f) λo p k=>⟨_,H,I.kept k,?_,q⟩;by_cases d:j<i;rw[if_pos d,if_pos d];exact⟨_,rfl⟩;rw[if_neg d,if_neg d];exact⟨_,rfl⟩
end
structure ObjM(h:Heap)(x dx C:Addr)(mA:Str->Option Θ):Prop where
 obj:h.get? x=Φ (instObj C dx)
 ns:h.Ns1 dx mA
 ne:dx≠x
set_option tactic.hygienic true in
theorem zj2{h:Heap}(n:h.Ns1 f g):∃c,h.get? f=Φ c/\∀name,lookIn name c=Φ (g name):=by
 obtain⟨o,d,r,i,j,k,_,l⟩:=n;refine⟨o,i,λname=>?_⟩;have e:=l name;unfold nsFind findBy at e;rw[<-Array.find?_toList]at e;unfold lookIn;rw[j];dsimp only;split;rename_i y q;rw[q]at e;exact congrArg Φ e;rename_i q;rw[q]at e;have a:d.toList.any (·.refKey)=Δ:=by rw[List.any_eq_false];intro y m;obtain⟨z,t,b⟩:=k y (Array.mem_toList_iff.mp m);simp[DictEntry.refKey,b]
 have p:¬d.toList.any (·.refKey)=Γ:=by rw[a];exact Ε
 rw[if_neg p];exact congrArg Φ e
theorem ObjM.look(I:ObjM h x b C c):∃a,PySem.W.InstAt h x (instObj C b) C (Φ a)/\∀name,lookIn name a=Φ (c name):=
 let ⟨a,d,e⟩:=zj2 I.ns
 ⟨a,⟨I.obj,rfl,rfl,d⟩,e⟩
section
variable{prog:Υ}{w:ύ}{A:ϑ}{E:Θ->Ζ->Prop}{s:Ζ}{K:Frag}{x dx C f:Addr}{mA:Str->Option Θ}{name:Str}{v:Θ}
theorem zo2(X:K.In s.heap)(I:ObjM s.heap x dx C mA)(c:plainGet K C name=Γ)(d:hasDictIn K C=Γ)(e:findIn K (.ref C) name=Φ Ψ)(g:mA name=Φ v)(a:handedIn v=Γ)(h:Q v {s with toks:=s.toks+1}):
  wpAny (model prog w) A (getAttr (.ref x) name b) Q E s:=by
 obtain⟨j,J,i⟩:=I.look;exact PySem.W.get_value X J (plainGet_of c).1 (PySem.W.findObj_own d e rfl (by rw[i,g])) a h
theorem zmq(X:K.In s.heap)(I:ObjM s.heap x dx C mA)(a:plainGet K C name=Γ)(b:findIn K (.ref C) name=Φ (Φ (.ref f)))(c:isFn K (.ref f)=Γ)(d:mA name=Ψ)(h:Q (.ref f,[.ref x]) s):
  wpAny (model prog w) A (getMethod (.ref x) name i) Q E s:=by
 obtain⟨e,J,g⟩:=I.look;exact PySem.W.method_fn X J (plainGet_of a).1 (plainGet_of a).2 b (beq_iff_eq.mp c) (by show(lookIn name e).map (·.isSome)=Φ Δ;rw[g,d];rfl) h
theorem znS(X:K.In s.heap)(I:ObjM s.heap x dx C mA)(hs:findIn K (.ref C) "__setattr__"=Φ (Φ (.builtin "object.__setattr__")))(k:plainOver K C=Γ)(l:takerIn K C name=Φ Ψ)(m:hasDictIn K C=Γ)(n:PySem.Within mA ns)(hsz:ns.length<=sizeLine)(h:∀h',ObjM h' x dx C (λy=>if y=name then Φ v else mA y)->Heap.SameBut dx s.heap h'->Q () {s with heap:=h',toks:=s.toks+2}):
  wpAny (model prog w) A (setAttr (.ref x) name v) Q E s:=by
 obtain⟨u,J,z⟩:=I.look;refine PySem.W.set_plain X J hs (PySem.W.osa_open (s:={s with toks:=s.toks+1}) (r:=Ψ) X J k l λb=>?_);obtain⟨B,o,e⟩:=PySem.W.any_some m;have p:s.heap.get? x=Φ ⟨.ref C,Φ dx,.plain,#[]⟩:=I.obj;refine Ξ (Β (Ξ (Ξ (wpAny_loadPart p (Ξ (PySem.W.Looks.here (s:={s with toks:=s.toks+1}) (PySem.W.looks_clsIn X o) ?_))))));rw[e];refine Β (a:=Φ dx) (Ξ (Β (Ξ ?_)));refine wpAny_nsSet1 (s:={s with toks:=s.toks+1}) I.ns λh' c d=>?_;obtain⟨oD,q,t,g,i,j⟩:=c.count (PySem.Within.cons name v n);refine Ξ (wpAny_lookBehind g (by rw[i];exact pastItsLine_dict (le_trans j (by rw[Χ];lia))) ?_);exact Β (h _ ⟨(d.2 _ (Ne.symm I.ne)).trans I.obj,c,I.ne⟩ d)
theorem zmb(X:K.In s.heap)(b:makesIn K C=Γ)(c:findIn K (.ref C) "__init__"=Φ (Φ (.ref f)))(e:PySem.W.typeIn K (.ref f)=Φ (.type "function"))(h:codeAny (model prog w) (A.under (.builtin "type.__call__" ⟨.ref C::vs,a⟩)) (.call (.ref f) ⟨.ref (s.heap.objs.size+1)::vs,a⟩) (PySem.W.InitBack (s.heap.objs.size+1) R)
   {s with heap:=(s.heap.push emptyDict).push (instObj C s.heap.objs.size)}):
  codeAny (model prog w) A (.call (.ref C) ⟨vs,a⟩) R s:=by
 obtain⟨i,g,d,t,os⟩:=s;exact PySem.W.make_core (PySem.W.makes_of X b) (PySem.W.looks_findIn X c) (λself=>PySem.W.bind_fn X self e) (.inl rfl) h
end
noncomputable def putF(f:Str)(v:V):List (Str×V)->List (Str×V)
 | []=>[(f,v)]|(g,x)::r=>if g=f then(g,v)::r else(g,x)::putF f v r
theorem zdJ(f g)(v):∀c:List (Str×V),(putF f v c).lookup g=if g=f then Φ v else c.lookup g
 | []=>by show List.lookup g [(f,v)]=_;by_cases h:g=f;have a:(g==f)=Γ:=beq_iff_eq.mpr h;simp only[List.lookup,a,if_pos h];have a:(g==f)=Δ:=beq_eq_false_iff_ne.mpr h;simp only[List.lookup,a,if_neg h]| (k,x)::r=>by have d:=zdJ f g v r;rw[show putF f v ((k,x)::r)=(if k=f then(k,v)::r else(k,x)::putF f v r) from rfl];by_cases b:k=f;rw[if_pos b];by_cases h:g=k;have a:(g==k)=Γ:=beq_iff_eq.mpr h;simp only[List.lookup,a,if_pos (h.trans b)];have a:(g==k)=Δ:=beq_eq_false_iff_ne.mpr h;simp only[List.lookup,a,if_neg (λe:g=f=>h (e.trans b.symm))];rw[if_neg b];by_cases h:g=k;have a:(g==k)=Γ:=beq_iff_eq.mpr h;simp only[List.lookup,a,if_neg (λe:g=f=>b (h.symm.trans e))];have a:(g==k)=Δ:=beq_eq_false_iff_ne.mpr h;simp only[List.lookup,a];exact d
theorem zdO(f)(v):∀a:List (Str×V),f∈(putF f v a).map (·.1)/\∀g,g∈a.map (·.1)->g∈(putF f v a).map (·.1)
 | []=>⟨by simp[putF],λg h=>by simp at h⟩| (k,x)::r=>by obtain⟨c,d⟩:=zdO f v r;rw[show putF f v ((k,x)::r)=(if k=f then(k,v)::r else(k,x)::putF f v r) from rfl];by_cases b:k=f;rw[if_pos b];subst b;exact⟨by simp,λg h=>by simpa using h⟩;rw[if_neg b];refine⟨?_,λg h=>?_⟩;rw[Ν];exact Τ _ c;rw[Ν]at h⊢;rcases mem_cons.mp h with e|e;exact mem_cons.mpr (.inl e);exact Τ _ (d g e)
theorem zdK(f)(v):∀a:List (Str×V),(putF f v a).length<=a.length+1
 | []=>by simp[putF]| (k,x)::r=>by have c:=zdK f v r;rw[show putF f v ((k,x)::r)=(if k=f then(k,v)::r else(k,x)::putF f v r) from rfl];by_cases b:k=f;rw[if_pos b];lia;rw[if_neg b];lia
theorem RelO.some_of(r:RelO (Φ v) o):∃u,o=Φ u/\RelV v u:=by cases o with|none=>exact(show False from r).elim|some u=>exact⟨u,rfl,r⟩
theorem RelO.none_of(r:RelO Ψ o):o=Ψ:=by cases o with|none=>rfl|some u=>exact(show False from r).elim
theorem zkx(r:RelV v u):handedIn u=Γ:=by cases v with|non=>cases(show u=Θ.none from r);rfl|bl b=>cases(show u=Θ.bool b from r);rfl|int i=>obtain⟨t,e⟩:=(show ∃t,u=Θ.int i t from r);cases e;rfl|str x=>obtain⟨t,e⟩:=(show ∃t,u=Θ.str x t from r);cases e;rfl|byt b=>obtain⟨t,e⟩:=(show ∃t,u=Θ.bytes b t from r);cases e;rfl|flt b=>obtain⟨t,e⟩:=(show ∃t,u=Θ.float b t from r);cases e;rfl|ref a=>cases(show u=Θ.ref a from r);rfl|ty n=>cases(show u=Θ.type n from r);rfl
section
variable{P:Υ}{w:ύ}{H H':Hp}{h h':Heap}{a C dx:Addr}{fs fs':List (Str×V)}
theorem ze9(hok:HOk P w H h)(e:H a=Φ (.ins C dx fs)):∃b,ObjM h a dx C b/\(∀f,RelO (fs.lookup f) (b f))/\PySem.Within b (fs.map (·.1))/\fs.length<=1000/\H dx=Φ (.own a):=by obtain⟨d,z,c,g,b,n,r,q⟩:=(show ObjOk P w H h a (.ins C dx fs) from hok a _ e);exact⟨b,⟨g,n,c⟩,r,q,z,d⟩
end
structure Cls(K:Frag)(C:Addr):Prop where
 pg:plainGet K C Str.empty=Γ
 hd:hasDictIn K C=Γ
 po:plainOver K C=Γ
 sa:findIn K (.ref C) "__setattr__"=Φ (Φ (.builtin "object.__setattr__"))
theorem Cls.get{K}(c:Cls K C)(f):plainGet K C f=Γ:=c.pg
def NoAttr(K:Frag)(C:Addr)(f:Str):Prop:=findIn K (.ref C) f=Φ Ψ
theorem NoAttr.taker{K}(n:NoAttr K C f):takerIn K C f=Φ Ψ:=by unfold takerIn;rw[show findIn K (.ref C) f=Φ Ψ from n];rfl
structure Con(K:Frag)(C:Addr)(f:Str)(v:V)(u:Θ):Prop where
 at_:findIn K (.ref C) f=Φ (Φ u)
 rel:RelV v u
 get:specialIn K u "__get__"=Φ Ψ
 cp:PySem.W.copiedNames.contains f=Δ
structure Meth(K:Frag)(C:Addr)(m:Str)(f:Addr):Prop where
 at_:findIn K (.ref C) m=Φ (Φ (.ref f))
 fn:isFn K (.ref f)=Γ
 kp:keepIn K (.ref f)=Γ
section
variable{X:Cx}{pins:List (Addr×Obj)}{σ:St}{H:Hp}{s:Ζ}{a C dx:Addr}{fs:List (Str×V)}{f:Str}{v:V}{A:ϑ}{E:Θ->Ζ->Prop}
theorem ziM(I:Inv X pins σ H s)(e:H a=Φ (.ins C dx fs))(c:Cls X.K C)(n:NoAttr X.K C f)(l:fs.lookup f=Φ v)(h:∀u d,Inv X pins σ H d->RelV v u->Q u d):wpAny (model X.prog X.w) A (getAttr (.ref a) f b) Q E s:=by
 obtain⟨j,O,r,_,_,_⟩:=ze9 I.hok e;obtain⟨u,i,g⟩:=RelO.some_of (by rw[<-l];exact r f);exact zo2 I.kIn O (c.get f) c.hd n i (zkx g) (h u _ (I.tok _) g)
theorem zeo(I:Inv X pins σ H s)(e:H a=Φ (.ins C dx fs))(c:Cls X.K C)(k:Meth X.K C m g)(l:fs.lookup m=Ψ)(h:Q (.ref g,[.ref a]) s):wpAny (model X.prog X.w) A (getMethod (.ref a) m i) Q E s:=by
 obtain⟨b,O,r,_,_,_⟩:=ze9 I.hok e;have d:b m=Ψ:=RelO.none_of (by rw[<-l];exact r m);exact zmq I.kIn O (c.get m) k.at_ k.fn d h
theorem zii(I:Inv X pins σ H s)(e:H a=Φ (.ins C dx fs))(c:Cls X.K C)(n:NoAttr X.K C f)(M:fs.length<1000)(m:RelV y u)(h:∀i,Inv X pins σ (upd H a (.ins C dx (putF f y fs))) i->Q () i):wpAny (model X.prog X.w) A (setAttr (.ref a) f u) Q E s:=by
 obtain⟨j,O,r,k,_,l⟩:=ze9 I.hok e;have p:(fs.map (·.1)).length<=sizeLine:=by rw[length_map,ϋ];lia
 refine znS I.kIn O c.sa c.po n.taker c.hd k p λt d w=>h _ ?_;have B:∃o,t.get? dx=Φ o:=let ⟨o,_,_,G,_⟩:=d.ns;⟨o,G⟩;refine I.write (x:=a) (e:=dx) (by rw[e];exact True.intro) (.inr l) (λb q J z=>(w.2 b J).trans z) B ?_;refine⟨by rw[zai O.ne];exact l,?_,O.ne,d.obj,_,d.ns,λg=>?_,λg L=>?_⟩
 have:=zdK f y fs;lia;show RelO ((putF f y fs).lookup g) (if g=f then Φ u else j g);rw[zdJ];by_cases q:g=f;rw[if_pos q,if_pos q];exact m;rw[if_neg q,if_neg q];exact r g;by_cases q:g=f;rw[q];exact(zdO f y fs).1;refine(zdO f y fs).2 g (k g λz=>L ?_);show(if g=f then Φ u else j g)=Ψ;rw[if_neg q];exact z
theorem Inv.made(I:Inv X pins σ H s):Inv X pins σ (upd (upd H s.heap.objs.size (.own (s.heap.objs.size+1))) (s.heap.objs.size+1) (.ins C s.heap.objs.size []))
  {s with heap:=(s.heap.push emptyDict).push (instObj C s.heap.objs.size)}:=by
 have c:(s.heap.push emptyDict).get? s.heap.objs.size=Φ emptyDict:=Μ s.heap rfl;have g:((s.heap.push emptyDict).push (instObj C s.heap.objs.size)).get? (s.heap.objs.size+1)=Φ (instObj C s.heap.objs.size):=by
  have:=Μ (s.heap.push emptyDict) (o:=instObj C s.heap.objs.size) rfl
  rwa [Heap.size_push]at this
 have h:(s.heap.push emptyDict).Ns s.heap.objs.size (λ_=>Ψ):=⟨emptyDict,#[],_,c,rfl,(λe i=>absurd i (by simp)),λ_=>rfl⟩;have j:=I.laid (o:=.own (s.heap.objs.size+1)) (t':=s.toks) (λb u q=>Ω _ q) (le_refl _) ⟨_,c⟩;refine j.laid (λb u q=>Ω _ q) (Nat.le_of_eq (Heap.size_push _ _)) ?_;have d:s.heap.objs.size≠s.heap.objs.size+1:=ne_of_lt (Nat.lt_succ_self _);refine⟨by rw[zai d,zaj],zero_le _,d,g,λ_=>Ψ,(Heap.Ns1.of_empty h).at λo q=>Ω _ q,λ_=>True.intro,λy k=>absurd rfl k⟩
theorem zpm(c:attributeBase e f env (eval e env)=eval e env)(h:wpAny (model prog w) A (eval e env) (λo b=>wpAny (model prog w) A (getAttr o f Γ) Q E b) E s):wpAny (model prog w) A (eval (.Attribute e f pos) env) Q E s:=
 Attribute_any_ h (by rw[arm_eval_Attribute,c])
end
def tFld(K:Frag)(d:TE)(f:Str):TE:=λe H Q=>d e H λx b=>∃a C g c v,x=.ref a/\b a=Φ (.ins C g c)/\Cls K C/\NoAttr K C f/\c.lookup f=Φ v/\Q v b
def sFld(K:Frag)(g h:TE)(f:Str):TS:=λD b H=>h b H λy i=>g b i λx d=>∃a C e c,x=.ref a/\d a=Φ (.ins C e c)/\Cls K C/\NoAttr K C f/\c.length<1000/\
 D.nx b (upd d a (.ins C e (putF f y c)))
section
variable{X:Cx}{o e value:Expr}{f:Str}{pos pos' tpos:Pos}{ta tv:TE}
theorem zqZ(d:PE X e ta)(g:attributeBase e f X.env (eval e X.env)=eval e X.env):PE X (.Attribute e f pos) (tFld X.K ta f):=by intro b s i H Q I h;refine zpm g (thn (d b s i H _ I h) λu y z=>?_);obtain⟨x,j,k,m,a,C,A,B,v,p,r,c,n,l,q⟩:=z;subst p;obtain rfl:u=Θ.ref a:=m;exact ziM k r c n l λE G t w=>⟨v,j,t,w,q⟩
theorem zqK(ha:PE X o ta)(hv:PE X value tv)(hs:swapsWith value (Φ (.Attribute o f pos')) pos.line X.env=pure Δ):PS X (.Assign [.Attribute o f pos'] value pos) (sFld X.K ta tv f):=by intro pins s σ H D I h;refine plainObj_wpAny_Assign_Attribute (thn (hv pins s σ H _ I h) λu s1 z=>eY z λy H1 I1 ry q=>thn (ha pins s1 σ H1 _ I1 q) λov s2 z=>?_) hs;obtain⟨x,H2,I2,rx,a,C,dx,fs,ex,ea,c,n,l,q2⟩:=z;subst ex;obtain rfl:ov=Θ.ref a:=rx;exact zii I2 ea c n l ry λs3 I3=>⟨σ,_,I3,q2⟩
end
section
variable{X:Cx}{pins:List (Addr×Obj)}{σ:St}{H:Hp}{s:Ζ}{A:ϑ}{E:Θ->Ζ->Prop}{Q:Θ->Ζ->Prop}{c:Θ}{b:Bool}
inductive TyOf(K:Frag)(H:Hp):V->Θ->Prop where
 |non:TyOf K H .non (.type "NoneType")
 |bl (x:Bool):TyOf K H (.bl x) (.type "bool")
 |int (i:Int):TyOf K H (.int i) (.type "int")
 |str (x:Str):TyOf K H (.str x) (.type "str")
 |flt (x:UInt64):TyOf K H (.flt x) (.type "float")
 |lst {a:Addr} {xs:List V} (e:H a=Φ (.lst xs)):TyOf K H (.ref a) (.type "list")
 |frz {a:Addr} {o:Obj} {xs:List V} (e:H a=Φ (.frz o (.lst xs))):TyOf K H (.ref a) (.type "list")
 |tup {a:Addr} {xs:List V} (e:H a=Φ (.tup xs)):TyOf K H (.ref a) (.type "tuple")
 |dK {a:Addr} {kvs:List (Key×V)} (e:H a=Φ (.dK kvs)):TyOf K H (.ref a) (.type "dict")
 |dT {a:Addr} {kvs:List (List Key×V)} (e:H a=Φ (.dT kvs)):TyOf K H (.ref a) (.type "dict")
 |ins {a C dx:Addr} {fs:List (Str×V)} (e:H a=Φ (.ins C dx fs)) (cl:Cls K C) (ha:findIn K (.ref C) "__class__"=Φ (Φ (.builtin "object.__class__")))
  (hn:specialIn K (.builtin "object.__class__") "__get__"=Φ (Φ (.builtin "getset_descriptor.__get__"))) (htk:takesIn K (.builtin "object.__class__")=Φ Γ)
  (hm:mroIn K C (.type "object")=Φ Γ):TyOf K H (.ref a) (.ref C)
theorem zkf(I:Inv X pins σ H s)(rx:RelV x u)(ty:TyOf X.K H x t)(e:kitOne X.K t c=Φ b)(h:∀tk,Q (.bool b) {s with toks:=tk}):
  wpAny (model X.prog X.w) A (call (.builtin "isinstance") [u,c]) Q E s:=by
 cases ty with|non=>cases(show u=Θ.none from rx);exact kia_one PySem.W.kitx_none I.kIn True.intro e (λz=>by cases z) h|bl y=>cases(show u=Θ.bool y from rx);exact kia_one PySem.W.kitx_bool I.kIn True.intro e (λz=>by cases z) h|int i=>obtain⟨t,q⟩:=(show ∃t,u=Θ.int i t from rx);cases q;exact kia_one PySem.W.kitx_int I.kIn True.intro e (λz=>by cases z) h|str y=>obtain⟨t,q⟩:=(show ∃t,u=Θ.str y t from rx);cases q;exact kia_one PySem.W.kitx_str I.kIn True.intro e (λz=>by cases z) h|flt y=>obtain⟨t,q⟩:=(show ∃t,u=Θ.float y t from rx);cases q;exact kia_one PySem.W.kitx_float I.kIn True.intro e (λz=>by cases z) h| @lst a xs ea=>cases(show u=Θ.ref a from rx);obtain⟨_,_,n,_,h1⟩:=(show ObjOk X.prog X.w H s.heap a (.lst xs) from I.hok a _ ea);exact kia_one kitx_list I.kIn ⟨_,h1,rfl⟩ e (λz=>by cases z) h| @frz a ob xs ea=>cases(show u=Θ.ref a from rx);obtain⟨_,_,_,n,_,h1⟩:=(show ObjOk X.prog X.w H s.heap a (.frz ob (.lst xs)) from I.hok a _ ea);exact kia_one kitx_list I.kIn ⟨_,h1,rfl⟩ e (λz=>by cases z) h| @tup a xs ea=>cases(show u=Θ.ref a from rx);obtain⟨_,_,_,p⟩:=(show ObjOk X.prog X.w H s.heap a (.tup xs) from I.hok a _ ea);obtain⟨o,h1,h2,_⟩:=p;exact kia_one PySem.W.kitx_tuple I.kIn ⟨o,h1,h2⟩ e (λz=>by cases z) h| @dK a kvs ea=>cases(show u=Θ.ref a from rx);obtain⟨_,_,vs,_,p⟩:=(show ObjOk X.prog X.w H s.heap a (.dK kvs) from I.hok a _ ea);obtain⟨o,es,ep,h1,h2,_⟩:=p;exact kia_one kitx_dict I.kIn ⟨o,h1,h2.1⟩ e (λz=>by cases z) h| @dT a kvs ea=>cases(show u=Θ.ref a from rx);obtain⟨_,_,xs,_,o,es,ep,h1,h2,_⟩:=(show ObjOk X.prog X.w H s.heap a (.dT kvs) from I.hok a _ ea);exact kia_one kitx_dict I.kIn ⟨o,h1,h2.1⟩ e (λz=>by cases z) h| @ins a C dx fs ea cl ha hn htk hm=>cases(show u=Θ.ref a from rx);obtain⟨mA,O,_⟩:=ze9 I.hok ea;obtain⟨od,J,_⟩:=O.look;exact kia_one (PySem.W.kitx_own (cl.get _) cl.hd ha hn htk hm) I.kIn J e (λz=>by cases z) h
end
structure Room(k:Nat)(A:ϑ):Prop where
 hd:A.handled=Ψ
 dp:A.depth+3*k+5<recursionLimit
 un:A.units+16*k+200<cLine
theorem Room.mono(r:Room k A)(h:j<=k):Room j A:=⟨r.hd,by have:=r.dp;lia,by have:=r.un;lia⟩
theorem Room.deeper(r:Room (k+1) A)(env):Room k (A.deeper env):=⟨r.hd,by have:=r.dp;show A.depth+1+3*k+5<_;lia,by have:=r.un;show A.units+3+16*k+200<_;lia⟩
theorem Room.in1(r:Room (k+1) A):Room k A.in1:=⟨r.hd,by have:=r.dp;show A.depth+3*k+5<_;lia,by have:=r.un;show A.units+1+16*k+200<_;lia⟩
theorem ziG{A:ϑ}:(A.under (.builtin "type.__call__" ⟨.ref C::us,a⟩)).depth=A.depth+1:=by first|rfl|simp[Code.weight]
theorem ziF{A:ϑ}:(A.under (.builtin "type.__call__" ⟨.ref C::us,a⟩)).units=A.units+1:=by first|rfl|simp[ϑ.under,Code.cUnits,Code.frames,Code.isFrame]
theorem Room.make(r:Room (k+1) A)(C)(us)(a):Room k (A.under (.builtin "type.__call__" ⟨.ref C::us,a⟩)):=⟨r.hd,by have:=r.dp;rw[ziG];lia,by have:=r.un;rw[ziF];lia⟩
theorem Room.depth(r:Room k A):A.depth<recursionLimit:=by have:=r.dp;lia
def tNil:TA:=λ_ H Q=>Q [] H
def zjk(b:TE)(c:TA):TA:=λa H Q=>b a H λx d=>c a d λe f=>Q (x::e) f
section
variable{X:Cx}{e:Expr}{es:List Expr}{te:TE}{t:TA}{pos:Pos}
theorem zfE:PA X [] tNil:=λ_ _ _ _ H Q I h=>Calls.spliced_nil ⟨[],H,I,.nil,h⟩
theorem zbI(c:PE X e te)(d:PA X es t)(f:starEach (e::es) X.env=(Δ,eval e X.env)::starEach es X.env:=by rfl):PA X (e::es) (zjk te t):=by intro pos a s b H Q I h;rw[f];show wpAny _ _ (spliced ((Δ,eval e X.env)::backTo pos (starEach es X.env))) _ _ s;refine ϛ (thn (c a s b H _ I h) λu g z=>?_);obtain⟨x,i,j,l,m⟩:=z;exact thn (d pos a g b i _ j m) λv w k=>(by obtain⟨n,o,p,q,r⟩:=k;exact ⟨x::n,o,p,.cons l q,r⟩)
def tTup(t:TA):TE:=λc H Q=>t c H λa b=>a.length<=sizeLine/\∀p,b p=Ψ->Q (.ref p) (upd b p (.tup a))
def tLst(t:TA):TE:=λc H Q=>t c H λa b=>a.length<=sizeLine/\∀p,b p=Ψ->Q (.ref p) (upd b p (.lst a))
theorem zqR(h:PA X es t):PE X (.Tuple es m pos) (tTup t):=by intro a s g H Q I i;refine wpAny_Tuple_spliced (thn (h pos a s g H _ I i) λj c ⟨k,d,f,r,z,q⟩=>⟨by rw[<-r.length];exact z,?_⟩);have l:d c.heap.objs.size=Ψ:=f.hok.fresh (le_refl _);refine⟨.ref c.heap.objs.size,upd d c.heap.objs.size (.tup k),f.laid (t':=c.toks) (λb u e=>Ω _ e) (le_refl _) ?_,rfl,q _ l⟩;exact⟨z,j,r,⟨_,Μ _ rfl,rfl,_,rfl⟩⟩
theorem zqV(h:PA X es t):PE X (.List es pos) (tLst t):=by intro a s g H Q I i;refine wpAny_List_spliced (thn (h pos a s g H _ I i) λj c ⟨k,d,f,r,z,q⟩=>⟨by rw[<-r.length];exact z,?_⟩);have l:d c.heap.objs.size=Ψ:=f.hok.fresh (le_refl _);refine⟨.ref c.heap.objs.size,upd d c.heap.objs.size (.lst k),f.laid (t':=c.toks) (λb u e=>Ω _ e) (le_refl _) ?_,rfl,q _ l⟩;exact⟨z,j,0,r,Μ _ rfl⟩
end
abbrev Sp:=List V->Hp->VK->XK->Prop
abbrev CXT:=List Env->Hp->Ζ->XK->Θ->Ζ->Prop
structure Env0(P:Υ)(w:ύ)(K:Frag)(mg:Str->Option Θ)(base:Heap)(A:ϑ)(outer:List Env)(s:Ζ)(H:Hp):Prop where
 frames:A.frames=Φ outer
 mod:Mod K mg base
 bs:∀b o,base.get? b=Φ o->s.heap.get? b=Φ o/\H b=Ψ
 bsz:base.objs.size<=s.heap.objs.size
 funs:s.heap.FunFrames base outer
 frf:∀b∈frs outer,H b=Ψ
 hok:HOk P w H s.heap
 bare:AllBare s.gens
def CE(outer:List Env)(P:Υ)(w:ύ)(H:Hp)(s:Ζ)(Q:VK)(u:Θ)(a:Ζ):Prop:=∃v b,a.os=s.os/\AllBare a.gens/\Un (frs outer) [] H b s.heap a.heap/\HOk P w b a.heap/\RelV v u/\Q v b
def CR(CX:CXT)(outer:List Env)(P:Υ)(w:ύ)(H:Hp)(s:Ζ)(Q:VK)(E:XK)(r:Result)(a:Ζ):Prop:=match r with|.ok (.ret u)=>CE outer P w H s Q u a|.ok _=>False|.error e=>CX outer H s E e a
structure FnOk(P:Υ)(w:ύ)(K:Frag)(mg:Str->Option Θ)(base:Heap)(CX:CXT)(k:Nat)(f:Addr)(fd:FuncData)(ps:List Str)(sp:Sp):Prop where
 len:∀vs H Q E,sp vs H Q E->vs.length=ps.length
 run:∀(A:ϑ)(outer:List Env)(s:Ζ)(H:Hp)(args:Args)(us:List Θ)(vs:List V)(Q:VK)(E:XK),Room k A->Env0 P w K mg base A outer s H->BindsTo s fd args (ps.zip us)->Vals vs us->sp vs H Q E->
  codeAny (model P w) A (.call (.ref f) args) (CR CX outer P w H s Q E) s
theorem FnOk.mono{K}(F:FnOk P w K b base CX j f g i sp)(h:j<=k):
 FnOk P w K b base CX k f g i sp:=⟨F.len,λA a s H args c d Q E e=>F.run A a s H args c d Q E (e.mono h)⟩
theorem Env0.make{K}(e:Env0 P w K a base A outer s H)(C)(us)(b):
 Env0 P w K a base (A.under (.builtin "type.__call__" ⟨.ref C::us,b⟩)) outer s H:=⟨by first|exact e.frames|(simpa[ϑ.under,Code.envs,Code.isFrame,pushEnvs]using e.frames),e.mod,e.bs,e.bsz,e.funs,e.frf,e.hok,e.bare⟩
theorem Env0.in1{K}(e:Env0 P w K a base A outer s H):
 Env0 P w K a base A.in1 outer s H:=⟨e.frames,e.mod,e.bs,e.bsz,e.funs,e.frf,e.hok,e.bare⟩
section
variable{X:Cx}{pins:List (Addr×Obj)}{σ:St}{H:Hp}{s s':Ζ}
theorem Inv.env0(I:Inv X pins σ H s):Env0 X.prog X.w X.K X.mg X.base X.A X.stack s H:=⟨I.ok.frames,I.ok.mod,I.bs,le_trans I.ok.bsz I.sz,I.stack,I.stkFree,I.hok,I.bare⟩
theorem Inv.after(I:Inv X pins σ H s)(h:CE X.stack X.prog X.w H s Q u s'):EP X pins σ Q u s':=by obtain⟨v,f,os,a,i,c,r,q⟩:=h;obtain⟨j,g,d,t,e⟩:=s';obtain rfl:e=s.os:=os;exact⟨v,f,I.call i c a (λb z=>absurd z (by simp)),r,q⟩
end
def zeE(sp:Sp)(a:List V)(E:XK)(t:TA):TE:=λb H Q=>t b H λc d=>sp (c++a) d Q E
def znF(C:Addr)(sp:Sp)(b:List V)(E:XK)(t:TA):TE:=λd H Q=>t d H λe c=>∀x a,c x=Ψ->c a=Ψ->a≠x->
 sp (.ref x::(e++b)) (upd (upd c a (.own x)) x (.ins C a [])) (λv f=>v=.non/\Q (.ref x) f) E
def Binds(K:Frag)(b:FuncData)(ps:List Str)(ds:List Θ):Prop:=∀(s:Ζ)(a:List Θ),K.In s.heap->(a++ds).length=ps.length->BindsTo s b ⟨a,[]⟩ (ps.zip (a++ds))
theorem Binds.all{K}(h:∀us:List Θ,us.length=ps.length->bindArgs fd ⟨us,[]⟩=pure (ps.zip us)):Binds K fd ps []:=λs us _ a=>by rw[append_nil]at a⊢;exact .of_eq (h us a)
def zd6(CX:CXT)(X:Cx)(E:XK):Prop:=∀(a:List (Addr×Obj))(c:St)(H:Hp)(s:Ζ)(e:Θ)(b:Ζ),Inv X a c H s->CX X.stack H s E e b->X.xe e b
section
variable{X:Cx}{CX:CXT}{k:Nat}{f C:Addr}{fd:FuncData}{ps:List Str}{sp:Sp}{dvs:List V}{ds:List Θ}{E:XK}{x m:Str}{p pos apos:Pos}{e o:Expr}{es:List Expr}{ta:TE}{t:TA}
theorem zft(F:FnOk X.prog X.w X.K X.mg X.base CX k f fd ps sp)(d:Room k X.A)(g:Binds X.K fd ps ds)(hd:Vals dvs ds)(i:zd6 CX X E)(I:Inv X a σ H s)(r:Vals vs us)(h:sp (vs++dvs) H Q E):wpAny (model X.prog X.w) X.A (call (.ref f) us) (EP X a σ Q) X.xe s:=by
 have c:=r.append hd;have j:(us++ds).length=ps.length:=by rw[<-c.length];exact F.len _ _ _ _ h
 refine wpAny_call (codeAny_mono (F.run X.A X.stack s H ⟨us,[]⟩ (us++ds) (vs++dvs) Q E d I.env0 (g s us I.kIn j) c h) λr l b=>?_);cases r with|error e=>exact i a σ H s e l I b| ok n=>cases n with|ret u=>exact I.after b|next=>exact False.elim b|brk=>exact False.elim b|cont=>exact False.elim b
theorem zoz(F:FnOk X.prog X.w X.K X.mg X.base CX k f fd ps sp)(g:Room k X.A)(i:Gl X x)(j:X.mg x=Φ (.ref f))(l:keepIn X.K (.ref f)=Γ)(n:Binds X.K fd ps ds)(hd:Vals dvs ds)(u:zd6 CX X E)
  (v:PA X (e::es) t) (b:(x==("__debug__":Str))=Δ:=by decide) (w:starEach (e::es) X.env=(Δ,eval e X.env)::starEach es X.env:=by rfl) (c:(backTo pos (starEach es X.env)).any (·.1)=Δ:=by rfl) :
  PE X (.Call (.Name x p) (e::es) [] pos) (zeE sp dvs E t):=by
 intro a s y H Q I h;refine wpAny_Call_Name_kw (zdL I i j ?_ b);exact callWith_K (h₀:=X.base) I.ok.mod.kin l (thn (v pos a s y H _ I h) λA B z=>eY z λG J d r q=>⟨d.kIn,(zft F g n hd u d r q)⟩) w c
theorem zl5(F:FnOk X.prog X.w X.K X.mg X.base CX k f fd ps sp)(c:Room k X.A)(d:Gl X x)(g:X.mg x=Φ (.ref f))(i:keepIn X.K (.ref f)=Γ)(j:Binds X.K fd ps ds)(hd:Vals dvs ds)(l:zd6 CX X E)
  (a:(x==("__debug__":Str))=Δ:=by decide):PE X (.Call (.Name x p) [] [] pos) (zeE sp dvs E tNil):=by
 intro b s n H Q I h;refine wpAny_Call_Name_kw (zdL I d g ?_ a);exact callWith_K0 I.kIn i (zft (us:=[]) F c j hd l I .nil h)
structure Mk(K:Frag)(C f:Addr):Prop where
 makes:makesIn K C=Γ
 init:findIn K (.ref C) "__init__"=Φ (Φ (.ref f))
 fn:isFn K (.ref f)=Γ
 kp:keepIn K (.ref C)=Γ
theorem zhu(M:Mk X.K C f)(F:FnOk X.prog X.w X.K X.mg X.base CX k f fd ps sp)(j:Room (k+1) X.A)(l:Binds X.K fd ps ds)(hd:Vals dvs ds)(n:zd6 CX X E)(I:Inv X b σ H s)(r:Vals vs us)(h:∀x c,H x=Ψ->H c=Ψ->c≠x->sp (.ref x::(vs++dvs)) (upd (upd H c (.own x)) x (.ins C c [])) (λv q=>v=.non/\Q (.ref x) q) E):
  wpAny (model X.prog X.w) X.A (call (.ref C) us) (EP X b σ Q) X.xe s:=by
 have g:=h (s.heap.objs.size+1) s.heap.objs.size (I.hok.fresh (le_succ _)) (I.hok.fresh (le_refl _)) (ne_of_lt (Nat.lt_succ_self _));have d:=Inv.made (C:=C) I;have i:Vals (V.ref (s.heap.objs.size+1)::(vs++dvs)) (Θ.ref (s.heap.objs.size+1)::(us++ds)):=.cons rfl (r.append hd);have w:(Θ.ref (s.heap.objs.size+1)::us++ds).length=ps.length:=by have e:=i.length;rw[F.len _ _ _ _ g]at e;exact e.symm
 refine wpAny_call (zmb I.kIn M.makes M.init (beq_iff_eq.mp M.fn) (codeAny_mono (F.run _ X.stack _ _ ⟨Θ.ref (s.heap.objs.size+1)::us,[]⟩ (Θ.ref (s.heap.objs.size+1)::(us++ds)) _ _ E (j.make C us [])
  (d.env0.make C us []) (l _ (Θ.ref (s.heap.objs.size+1)::us) d.kIn w) i g) λr y a=>?_))
 cases r with|error e=>exact n b σ _ _ e y d a| ok z=>cases z with| ret u=>obtain⟨v,A,B,G,J,L⟩:=d.after a;subst J;exact⟨G,⟨V.ref (s.heap.objs.size+1),A,B,rfl,L⟩⟩|next=>exact False.elim a|brk=>exact False.elim a|cont=>exact False.elim a
theorem zox(M:Mk X.K C f)(F:FnOk X.prog X.w X.K X.mg X.base CX k f fd ps sp)(g:Room (k+1) X.A)(i:Gl X x)(j:X.mg x=Φ (.ref C))(l:Binds X.K fd ps ds)(hd:Vals dvs ds)(n:zd6 CX X E)
  (u:PA X (e::es) t) (b:(x==("__debug__":Str))=Δ:=by decide) (v:starEach (e::es) X.env=(Δ,eval e X.env)::starEach es X.env:=by rfl) (c:(backTo pos (starEach es X.env)).any (·.1)=Δ:=by rfl) :
  PE X (.Call (.Name x p) (e::es) [] pos) (znF C sp dvs E t):=by
 intro a s w H Q I h;refine wpAny_Call_Name_kw (zdL I i j ?_ b);exact callWith_K (h₀:=X.base) I.ok.mod.kin M.kp (thn (u pos a s w H _ I h) λy A z=>eY z λB G d r q=>⟨d.kIn,(zhu M F g l hd n d r q)⟩) v c
theorem zlU(M:Mk X.K C f)(F:FnOk X.prog X.w X.K X.mg X.base CX k f fd ps sp)(c:Room (k+1) X.A)(d:Gl X x)(g:X.mg x=Φ (.ref C))(i:Binds X.K fd ps ds)(hd:Vals dvs ds)(j:zd6 CX X E)
  (a:(x==("__debug__":Str))=Δ:=by decide):PE X (.Call (.Name x p) [] [] pos) (znF C sp dvs E tNil):=by
 intro b s l H Q I h;exact wpAny_Call_Name_kw (zdL I d g (callWith_K0 I.kIn M.kp (zhu (us:=[]) M F c i hd j I .nil h)) a)
end
def PK(X:Cx)(b:List Keyword)(t:TA):Prop:=∀(pos:Pos)(a:List (Addr×Obj))(s:Ζ)(c:St)(H:Hp)(Q:List V->Hp->Prop),Inv X a c H s->t c H Q->wpAny (model X.prog X.w) X.A (evalAll ((backToKw pos (keywordEach b X.env)).map (·.2))) (AP X a c Q) X.xe s
section
variable{X:Cx}{CX:CXT}{k:Nat}{f C:Addr}{fd:FuncData}{ps ks:List Str}{sp:Sp}{E:XK}{x m:Str}{p pos apos kpos:Pos}{e o:Expr}{es:List Expr}{kws:List Keyword}{te ta:TE}{t tk:TA}{nm:Option Str}
theorem zqO:PK X [] tNil:=λ_ _ _ _ H Q I h=>wpAny_evalAll_nil ⟨[],H,I,.nil,h⟩
theorem zot(ha:PE X e te)(hr:PK X kws t):PK X (⟨nm,e,kpos⟩::kws) (zjk te t):=by intro pos pins s σ H Q I h;show wpAny _ _ (evalAll ((do let v <-eval e X.env;standAt pos;pure v)::(backToKw pos (keywordEach kws X.env)).map (·.2))) _ _ s;refine wpAny_evalAll_cons (Ξ (thn (ha pins s σ H _ I h) λu s1 z=>eY z λx H1 I1 r1 q1=>Ξ (wpAny_standAt (Β ?_))));exact thn (hr pos pins s1 σ H1 _ I1 q1) λus s2 z=>(by obtain⟨xs,H2,I2,r2,q2⟩:=z;exact ⟨x::xs,H2,I2,.cons r1 r2,q2⟩)
structure KBinds(K:Frag)(fd:FuncData)(ps ks:List Str)(g:List Θ->List Θ->List Θ)(gV:List V->List V->List V):Prop where
 to:∀(s:Ζ)(us ws:List Θ),K.In s.heap->(g us ws).length=ps.length->BindsTo s fd ⟨us,ks.zip ws⟩ (ps.zip (g us ws))
 rel:∀{vs:List V}{us:List Θ}{zs:List V}{ws:List Θ},Vals vs us->Vals zs ws->Vals (gV vs zs) (g us ws)
end
structure FnScope(N P:List Str)(sc:Scope):Prop where
 kind:sc.kind=.function
 co:sc.isCoroutine=Δ
 gen:sc.isGenerator=Δ
 nd:N.Nodup
 pre:N.take P.length=P
 par:∀x∈P,sc.names.lookup x=Φ .local\/sc.names.lookup x=Φ .cell
 nofree:∀y∈sc.names,y.2≠.free
theorem zgj{kindOf}:∀{a:List (Str×Θ)}{m:Str->Option Θ},(∀v,(x,v)∉a)->bindL kindOf a m x=m x
 | [],_,_=>rfl| (n,v)::r,m,h=>by
  unfold bindL;rw[zgj λw b=>h w (Τ _ b)];split;have:x≠n:=by rintro rfl;exact h v ϊ
  simp[this];rfl
theorem zgl{kindOf}:∀{a:List (Str×Θ)}{m:Str->Option Θ},(∀v,(x,v)∉a)->bindC kindOf a m x=m x
 | [],_,_=>rfl| (n,v)::r,m,h=>by
  unfold bindC;rw[zgl λw b=>h w (Τ _ b)];split;rfl;have:x≠n:=by rintro rfl;exact h v ϊ
  simp[this]
theorem zgk{kindOf}:∀{P:List Str}{vs:List Θ}{i:Nat}{m:Str->Option Θ},P.Nodup->P[i]?=Φ x->vs[i]?=Φ v->kindOf x=Φ .local->
  bindL kindOf (P.zip vs) m x=Φ v
 | [],_,_,_,_,h,_,_=>by simp at h|_::_,[],_,_,_,_,h,_=>by simp at h| p::P,w::vs,0,m,c,a,b,d=>by simp at a b;subst a;subst b;show bindL kindOf ((p,w)::P.zip vs) m p=_;unfold bindL;rw[zgj λv e=>(nodup_cons.mp c).1 (of_mem_zip e).1,if_pos d];simp| p::P,w::vs,i+1,m,c,a,b,d=>by show bindL kindOf ((p,w)::P.zip vs) m x=_;unfold bindL;exact zgk (i:=i) (nodup_cons.mp c).2 (by simpa using a) (by simpa using b) d
theorem zgm{kindOf}:∀{P:List Str}{vs:List Θ}{i:Nat}{m:Str->Option Θ},P.Nodup->P[i]?=Φ x->vs[i]?=Φ v->kindOf x≠Φ .local->
  bindC kindOf (P.zip vs) m x=Φ v
 | [],_,_,_,_,h,_,_=>by simp at h|_::_,[],_,_,_,_,h,_=>by simp at h| p::P,w::vs,0,m,c,a,b,d=>by simp at a b;subst a;subst b;show bindC kindOf ((p,w)::P.zip vs) m p=_;unfold bindC;rw[zgl λv e=>(nodup_cons.mp c).1 (of_mem_zip e).1,if_neg d];simp| p::P,w::vs,i+1,m,c,a,b,d=>by show bindC kindOf ((p,w)::P.zip vs) m x=_;unfold bindC;exact zgm (i:=i) (nodup_cons.mp c).2 (by simpa using a) (by simpa using b) d
noncomputable def start(N:List Str)(vs:List V):St:=vs.map Φ++List.replicate (N.length-vs.length) Ψ
noncomputable def cxOf(CX:CXT)(P:Υ)(w:ύ)(K:Frag)(mg:Str->Option Θ)(base:Heap)(N:List Str)(qual:Str)(scope:Scope)(f:Addr)(cd:Θ)(A:ϑ)(outer:List Env)(s:Ζ)(H:Hp)(E:XK):Cx where
 prog:=P
 w:=w
 K:=K
 mg:=mg
 base:=base
 A:=A.deeper (envOfC qual scope s.heap.objs.size f cd)
 N:=N
 s₀:=s
 H₀:=H
 env:=envOfC qual scope s.heap.objs.size f cd
 outer:=outer
 stack:=envOfC qual scope s.heap.objs.size f cd::outer
 ex:=[]
 calm:=Γ
 fn:=λ_=>Γ
 pn:=[]
 xe:=λe s'=>wpAny (model P w) (A.deeper (envOfC qual scope s.heap.objs.size f cd)) (leaving (envOfC qual scope s.heap.objs.size f cd) e) (λ_ s''=>CX outer H s E e s'') (λe' s''=>CX outer H s E e' s'') s'
theorem zh9{a:Scope}(h:a.names.lookup x=Φ .cell):∃c,(cellsFrom n a.names []).lookup x=Φ c:=by have q:=cellsFrom_some a.names n [] (.inl h);exact Option.isSome_iff_exists.mp q
theorem zfU{K}(S:FnScope N ps scope)(hd:A.handled=Ψ)(j:Env0 P w K I base A outer s H)(U:vs.length=ps.length)(r:Vals vs us)(x:InCallC s s.heap.objs.size (bindL (envOfC g scope s.heap.objs.size f G).kindOf (ps.zip us) λ_=>Ψ) (cellsFrom (s.heap.objs.size+1) scope.names []) (bindC (envOfC g scope s.heap.objs.size f G).kindOf (ps.zip us) λ_=>Ψ) M):
  Inv (cxOf CX P w K I base N g scope f G A outer s H E) [] (start N vs) H M:=by
 have O:ps.length<=N.length:=by have:=congrArg List.length S.pre;rw[ϣ]at this;lia
 obtain⟨B,Y,rfl,J⟩:=x.done;have l:∀b:Addr,b∉(cxOf CX P w K I base N g scope f G A outer s H E).ex:=λb z=>absurd (show b∈([]:List Addr) from z) (by simp);refine⟨⟨j.mod,S.kind,rfl,rfl,le_refl _,λy z c B d=>?_,λy m=>?_,λy c _ h=>?_,λ_=>hd,ϑ.frames_deeper j.frames,.inr ⟨rfl,rfl⟩,λb z=>absurd z (l b),j.bs,j.bsz,λb _ _=>l b,λb z=>absurd z (l b),j.funs,j.frf⟩,
  rfl,j.bare,Un.kept J,⟨_,x.toInCall.ns,λi y v B d h3=>?_⟩,λy c h=>⟨_,x.cell y c h⟩,j.hok.fresh (le_refl _),λy c h=>?_,λp o=>absurd (show p∈([]:List (Addr×Obj)) from o) (by simp),j.hok.kept J,?_⟩
 exact name_of_addr x.apart (PySem.mem_of_lookup B) (PySem.mem_of_lookup d);have m:scope.names.lookup y=Φ .cell\/scope.names.lookup y=Φ .free:=m;rcases m with m|m;exact zh9 m;exact absurd rfl (S.nofree _ (PySem.mem_of_lookup m));exact le_of_lt (x.above y c (PySem.mem_of_lookup h));have C:i<vs.length:=by
  unfold start at d;by_cases C:i<vs.length;exact C
  . rw[getElem?_append_right (by simpa using C)]at d;rw[List.getElem?_replicate]at d;split at d<;>cases d
 have Q:vs[i]?=Φ v:=by
  unfold start at d;rw[getElem?_append_left (by simpa using C),getElem?_map]at d;cases e:vs[i]? with
  |none=>rw[e]at d;exact nS d
  |some a=>rw[e]at d;cases d;rfl
 obtain⟨u,L,T⟩:=r.get Q;have o:ps[i]?=Φ y:=by rw[<-S.pre,List.getElem?_take_of_lt (by lia)];exact B
 have t:ps.Nodup:=by rw[<-S.pre];exact S.nd.sublist (List.take_sublist _ _)
 refine⟨u,T,?_⟩;rcases S.par y (mem_of_getElem? o) with k|k;exact .inl ⟨k,zgk t o L k⟩;obtain⟨c,e⟩:=zh9 (n:=s.heap.objs.size+1) k;refine .inr ⟨.inl k,c,e,?_⟩;have q:=x.cell y c e;rw[zgm t o L (by show scope.names.lookup y≠_;rw[k];decide)]at q;exact q;exact j.hok.fresh (le_of_lt (x.above y c (PySem.mem_of_lookup h)));unfold start;show _=N.length;rw[length_append,length_map,length_replicate];lia
theorem zo6{K}{T kV m U c ct oc}(lk:K.lookup f=Φ ⟨oc,od,.func (fnOf name a d h scope T kV m U an c ct),osl⟩)(B:codeIn K c a=Γ)(S:FnScope N ps scope)(len:∀vs H Q E,sp vs H Q E->vs.length=ps.length)(i:∀(A:ϑ)(outer:List Env)(s:Ζ)(H:Hp)(vs:List V)(Q:VK)(E:XK),Room k (A.deeper (envOfC a scope s.heap.objs.size f c))->sp vs H Q E->
   ∃t,PSs (cxOf CX P w K C base N a scope f c A outer s H E) h t/\t {nx:=λ_ H'=>Q .non H',rt:=Q} (start N vs) H):
  FnOk P w K C base CX (k+1) f (fnOf name a d h scope T kV m U an c ct) ps sp:=by
 refine⟨len,λA outer s H args us vs Q E G p hb r z=>?_⟩;have hl:=len _ _ _ _ z;have Y:K.In s.heap:=p.mod.kin.keeps λb o e=>(p.bs b o e).1;have L:s.heap.NoLimit:=p.mod.nolimit.keeps λb o e=>(p.bs b o e).1;have j:∀y∈ps.zip us,scope.names.lookup y.1=Φ .local\/(scope.names.lookup y.1=Φ .cell/\((cellsFrom (s.heap.objs.size+1) scope.names []).lookup y.1).isSome=Γ):=λ⟨n,v⟩ hy=>by rcases S.par n (of_mem_zip hy).1 with q|q;exact .inl q;exact .inr ⟨q,cellsFrom_some _ _ _ (.inl q)⟩
 refine codeAny_call_function G.depth (Y _ _ lk) rfl S.co S.gen rfl (PySem.W.codeRec_of Y B) (hb _ _ _ _ ?_);refine wpAny_newFunctionEnv_cells S.kind j λenv he s1 x=>?_;subst he;refine⟨L.keeps x.toInCall.keep,codeAny_func ?_⟩;obtain⟨t,ht,hq⟩:=i A outer s H vs Q E (G.deeper _) z;have I:Inv (cxOf CX P w K C base N a scope f c A outer s H E) [] (start N vs) H s1:=zfU S G.hd p hl r x;refine ϕ (ht [] s1 (start N vs) H _ I hq) (λfl M l=>?_) λe M l=>l;have fin:∀{g:St}{H':Hp}{v:V}{u:Θ},Inv (cxOf CX P w K C base N a scope f c A outer s H E) [] g H' M->RelV v u->Q v H'->CE outer P w H s Q u M:=λ{g H' v u} J O q=>⟨v,H',J.os,J.bare,J.base,J.hok,O,q⟩;cases fl with| ret u=>obtain⟨v,g,H',J,O,q⟩:=l;exact fin J O q| next=>obtain⟨g,H',J,q⟩:=l;exact fin (v:=V.non) (u:=Θ.none) J rfl q| brk=>obtain⟨_,_,_,q⟩:=l;exact False.elim q| cont=>obtain⟨_,_,_,q⟩:=l;exact False.elim q
section
variable{X:Cx}{x:Str}{p pos:Pos}{e:Expr}{es:List Expr}{t:TA}{id T:String}{r:List V->Hp->VK->Prop}
def tCB(r:List V->Hp->VK->Prop)(t:TA):TE:=λa H Q=>t a H λb c=>r b c Q
theorem zb1(f:zba X (.builtin id) r)(g:Gl X x)(i:X.mg x=Ψ)(j:bootBuiltins x=Φ (.builtin id))(k:PA X (e::es) t)(l:x≠"__name__":=by decide)(b:(x==("__debug__":Str))=Δ:=by decide)
  (m:starEach (e::es) X.env=(Δ,eval e X.env)::starEach es X.env:=by rfl) (c:(backTo pos (starEach es X.env)).any (·.1)=Δ:=by rfl):PE X (.Call (.Name x p) (e::es) [] pos) (tCB r t):=by
 intro a s d H Q I h;refine wpAny_Call_Name_kw (zdM I g i j ?_ l b);exact PyProof.Rows.callWith_builtin1 (thn (k pos a s d H _ I h) λn o z=>(by obtain⟨q,u,v,w,y⟩:=z;exact f a o d u q n Q v w y)) m c
theorem zbG(f:zba X (.type T) r)(g:Gl X x)(i:X.mg x=Ψ)(j:bootBuiltins x=Φ (.type T))(k:PA X (e::es) t)(l:x≠"__name__":=by decide)(b:(x==("__debug__":Str))=Δ:=by decide)
  (m:starEach (e::es) X.env=(Δ,eval e X.env)::starEach es X.env:=by rfl) (c:(backTo pos (starEach es X.env)).any (·.1)=Δ:=by rfl):PE X (.Call (.Name x p) (e::es) [] pos) (tCB r t):=by
 intro a s d H Q I h;refine wpAny_Call_Name_kw (zdM I g i j ?_ l b);exact PyProof.Rows.callWith_type1 (thn (k pos a s d H _ I h) λn o z=>(by obtain⟨q,u,v,w,y⟩:=z;exact f a o d u q n Q v w y)) m c
end
section
variable{κ:Type}[DecidableEq κ]
noncomputable def valV(a:List (κ×V))(k:κ):Option V:=(a.find? λb=>decide (b.1=k)).map (·.2)
noncomputable def putK(a:List (κ×V))(k:κ)(v:V):List (κ×V):=if(a.any λb=>decide (b.1=k))=Γ then a.map (λb=>if b.1=k then(b.1,v) else b) else a++[(k,v)]
theorem zey{k:κ}(e:p.1=k):valV (p::r) k=Φ p.2:=by simp[valV,e]
theorem zez{k:κ}(e:¬p.1=k):valV (p::r) k=valV r k:=by simp[valV,ϖ,e]
theorem zhi(k):∀a:List (κ×V),(a.any λb=>decide (b.1=k))=(valV a k).isSome
 | []=>rfl| p::r=>by rw[any_cons];by_cases e:p.1=k;simp only[zey e,decide_eq_true e,Bool.true_or,Option.isSome_some];rw[zez e,decide_eq_false e,Bool.false_or];exact zhi k r
theorem zbv(a)(k:κ)(v):(putK a k v).length<=a.length+1:=by unfold putK;split;rw[length_map];lia;rw[length_append,Χ,ϩ];lia
theorem RelO.isSome_eq(r:RelO o u):o.isSome=u.isSome:=by
 cases o with
 |none=>cases u with
  |none=>rfl|some _=>exact(show False from r).elim
 |some _=>cases u with|none=>exact(show False from r).elim|some _=>rfl
theorem RelO.getD(r:RelO o u)(a:RelV d d'):RelV (o.getD d) (u.getD d'):=by
 cases o with
 |none=>cases u with
  |none=>exact a|some _=>exact(show False from r).elim
 |some _=>cases u with|none=>exact(show False from r).elim|some _=>exact r
theorem KV.val(r:KV j vs)(k:κ):RelO (valV j k) (valueAt vs k):=by
 unfold KV at r;induction r with
 |nil=>exact True.intro| @cons p q i a h t f=>
  obtain⟨d,g⟩:=h;by_cases e:p.1=k;have c:q.1=k:=d.symm.trans e;have b:valueAt (q::a) k=Φ q.2:=by simp[valueAt,ϖ,c]
  rw[zey e,b];exact g;have c:¬q.1=k:=λz=>e (d.trans z);have b:valueAt (q::a) k=valueAt a k:=by simp[valueAt,ϖ,c]
  rw[zez e,b];exact f
theorem KV.any(r:KV c vs)(k:κ):(c.any λa=>decide (a.1=k))=vs.any λa=>decide (a.1=k):=by unfold KV at r;induction r with|nil=>rfl|cons h t b=>rw[any_cons,any_cons,b,h.1]
theorem KV.repl(r:KV j vs)(k:κ)(c:RelV y u):
  KV (j.map λa=>if a.1=k then(a.1,y) else a) (vs.map λa=>if a.1=k then(a.1,u) else a):=by
 unfold KV at r⊢;induction r with|nil=>exact .nil| @cons p q g i h t d=>rw[Ν,Ν];refine .cons ?_ d;obtain⟨b,f⟩:=h;by_cases e:p.1=k;rw[if_pos e,if_pos (b.symm.trans e)];exact⟨b,c⟩;rw[if_neg e,if_neg (λz=>e (b.trans z))];exact⟨b,f⟩
theorem KV.put(r:KV c vs)(k:κ)(a:RelV y u):KV (putK c k y) (stored vs k u):=by unfold putK stored;rw[r.any k];by_cases e:(vs.any λb=>decide (b.1=k))=Γ;rw[if_pos e,if_pos e];exact r.repl k a;rw[if_neg e,if_neg e];exact Paired.snoc r ⟨rfl,a⟩
theorem KV.length{vs:List (κ×Θ)}(r:KV a vs):a.length=vs.length:=Paired.length r
end
theorem ziK(r:RelV (kV k) u):(zam P w).is k u=Γ:=by cases k with|inl i=>obtain⟨t,e⟩:=(show ∃t,u=Θ.int i t from r);subst e;exact zgM P w i t|inr x=>obtain⟨t,e⟩:=(show ∃t,u=Θ.str x t from r);subst e;exact zgL P w x t
theorem zfR:∀{ks:List Key}{us:List Θ},Vals (ks.map kV) us->ItemsAre (zam P w) ks us
 | [],_,r=>by rw[map_nil]at r;cases r;exact .nil| k::ks,_,r=>by rw[Ν]at r;cases r with|cons h t=>exact .cons (ziK h) (zfR t)
abbrev KT(H:Hp):List (List Key×V)->List (List Key×Addr×Θ)->Prop:=Paired λp q=>p.1=q.1/\H q.2.1=Φ (.tup (p.1.map kV))/\RelV p.2 q.2.2
theorem KT.val(r:KT H j xs)(k):RelO (valV j k) ((atKey xs k).map (·.2)):=by
 induction r with
 |nil=>exact True.intro| @cons p q i a h t f=>
  obtain⟨d,_,g⟩:=h;by_cases e:p.1=k;have c:q.1=k:=d.symm.trans e;have b:atKey (q::a) k=Φ q.2:=by simp[atKey,ϖ,c]
  rw[zey e,b];exact g;have c:¬q.1=k:=λz=>e (d.trans z);have b:atKey (q::a) k=atKey a k:=by simp[atKey,ϖ,c]
  rw[zez e,b];exact f
theorem KT.repl(r:KT H l xs)(k)(d:RelV y u):
  KT H (l.map λb=>if b.1=k then(b.1,y) else b) (xs.map (putAt k u)):=by
 induction r with|nil=>exact .nil| @cons p q i j h t f=>rw[Ν];refine .cons ?_ f;obtain⟨a,c,g⟩:=h;unfold putAt;by_cases e:p.1=k;rw[if_pos e,if_pos (a.symm.trans e)];exact⟨a,c,d⟩;rw[if_neg e,if_neg (λz=>e (a.trans z))];exact⟨a,c,g⟩
theorem KT.put(r:KT H a xs)(k)(d:H b=Φ (.tup (k.map kV)))(c:RelV y u):
  KT H (putK a k y) (storedH xs k b u):=by
 have e:(a.any λf=>decide (f.1=k))=(atKey xs k).isSome:=by rw[zhi,(r.val k).isSome_eq,Option.isSome_map]
 unfold putK storedH;rw[e];by_cases q:(atKey xs k).isSome=Γ;rw[if_pos q,if_pos q];exact r.repl k c;rw[if_neg q,if_neg q];exact Paired.snoc r ⟨rfl,d,c⟩
theorem KT.keeps(r:KT H c xs)(a:∀b ys,H b=Φ (.tup ys)->H' b=Φ (.tup ys)):KT H' c xs:=Paired.mapP r λ_ _ z=>⟨z.1,a _ _ z.2.1,z.2.2⟩
section
variable{P:Υ}{w:ύ}{H:Hp}{h:Heap}{a:Addr}
theorem zqw(ok:HOk P w H h)(e:Rd H a u):ObjOk P w H h a u:=e.ok ok
theorem zkL(ok:HOk P w H h)(e:Rd H a (.dK b)):b.length<=sizeLine/\(a==sysModules)=Δ/\∃vs,KV b vs/\h.DictOf (zam P w) a vs:=show ObjOk P w H h a (.dK b) from zqw ok e
theorem zrQ(ok:HOk P w H h)(e:H a=Φ (.dK b)):b.length<=sizeLine/\(a==sysModules)=Δ/\∃vs,KV b vs/\h.DictOf (zam P w) a vs:=zkL ok (.inl e)
theorem zc2(ok:HOk P w H h)(e:H a=Φ (.tup (ks.map kV))):(tupleKind (zam P w)).is h ks a:=by obtain⟨_,b,r,o,c,d,n,f⟩:=(show ObjOk P w H h a (.tup (ks.map kV)) from ok a _ e);exact⟨o,b.toArray,n,c,d,f,by simpa using zfR r⟩
theorem zkK(ok:HOk P w H h)(e:Rd H a (.dT b)):b.length<=sizeLine/\(a==sysModules)=Δ/\
  ∃xs,KT H b xs/\h.DictOfH (tupleKind (zam P w)) a xs:=by
 obtain⟨z,y,xs,r,o,g,i,j,k,n,s,u⟩:=(show ObjOk P w H h a (.dT b) from zqw ok e);refine⟨z,y,xs,r,o,g,i,j,k,n,s,λx c=>?_,u⟩;have d:∀{l:List (List Key×V)}{m:List (List Key×Addr×Θ)},KT H l m->∀x∈m,(tupleKind (zam P w)).is h x.1 x.2.1:=by
  intro l m q;induction q with
  |nil=>intro x c;exact by cases c
  | @cons p q A B f t v=>intro x c;rcases mem_cons.mp c with e|c;subst e;exact zc2 ok (by rw[<-f.1];exact f.2.1);exact v x c
 exact d r x c
theorem ziR(ok:HOk P w H h)(e:H a=Φ (.dT b)):b.length<=sizeLine/\(a==sysModules)=Δ/\
 ∃xs,KT H b xs/\h.DictOfH (tupleKind (zam P w)) a xs:=zkK ok (.inl e)
end
def DGet(H:Hp)(a:Addr)(y:V)(r:Option V):Prop:=(∃c k,Rd H a (.dK c)/\y=kV k/\r=valV c k)\/∃c k b,Rd H a (.dT c)/\y=.ref b/\H b=Φ (.tup (k.map kV))/\r=valV c k
def DPut(H:Hp)(a:Addr)(y v:V)(H':Hp):Prop:=
 (∃c k,H a=Φ (.dK c)/\y=kV k/\c.length<sizeLine/\H'=upd H a (.dK (putK c k v)))\/
 ∃c k b,H a=Φ (.dT c)/\y=.ref b/\H b=Φ (.tup (k.map kV))/\c.length<sizeLine/\H'=upd H a (.dT (putK c k v))
theorem DGet.k{k}(e:H a=Φ (.dK b)):DGet H a (kV k) (valV b k):=.inl ⟨b,k,.inl e,rfl,rfl⟩
theorem DGet.t{k}(e:H a=Φ (.dT c))(d:H b=Φ (.tup (k.map kV))):DGet H a (.ref b) (valV c k):=.inr ⟨c,k,b,.inl e,rfl,d,rfl⟩
theorem DPut.k{k}(e:H a=Φ (.dK c))(b:c.length<sizeLine):DPut H a (kV k) v (upd H a (.dK (putK c k v))):=.inl ⟨c,k,e,rfl,b,rfl⟩
theorem DPut.t{k}(e:H a=Φ (.dT c))(d:H b=Φ (.tup (k.map kV)))(f:c.length<sizeLine):
 DPut H a (.ref b) v (upd H a (.dT (putK c k v))):=.inr ⟨c,k,b,e,rfl,d,f,rfl⟩
section
variable{X:Cx}{pins:List (Addr×Obj)}{σ:St}{H:Hp}{s:Ζ}{a:Addr}{y v:V}{u r:Θ}{o:Option V}{A:ϑ}{E:Θ->Ζ->Prop}
theorem Inv.big(I:Inv X pins σ H s):sysModules<s.heap.objs.size:=by have h:=(I.mod.glob.keeps I.bk).lt;exact lt_trans (by decide) h
theorem d_in(p:A.units+1<cLine)(I:Inv X pins σ H s)(g:DGet H a y o)(m:RelV y u)(h:∀n,Inv X pins σ H n->Q (.bool o.isSome) n):
  wpAny (model X.prog X.w) A (compareOp .In u (.ref a)) Q E s:=by
 rcases g with⟨d,k,e,f,l⟩|⟨d,k,b,e,f,t,l⟩;subst f;obtain⟨z,i,w,c,j⟩:=zkL I.hok e;refine wpAny_in_of (ziK m) i j.mapOf ?_;rw[<-(c.val k).isSome_eq,<-l];exact h _ (I.tok _);subst f;cases(show u=Θ.ref b from m);obtain⟨z,i,x,c,j⟩:=zkK I.hok e;refine wpAny_in_heap (tupleKind_room_in1 p) (zc2 I.hok t) i j ?_;have q:=(c.val k).isSome_eq;rw[Option.isSome_map]at q;rw[<-q,<-l];exact h _ (I.tok _)
theorem zpb(p:A.units+1<cLine)(I:Inv X pins σ H s)(g:DGet H a y o)(m:RelV y u)(h:∀n,Inv X pins σ H n->Q (.bool (!o.isSome)) n):
  wpAny (model X.prog X.w) A (compareOp .NotIn u (.ref a)) Q E s:=by
 rcases g with⟨d,k,e,f,l⟩|⟨d,k,b,e,f,t,l⟩;subst f;obtain⟨z,i,w,c,j⟩:=zkL I.hok e;refine wpAny_notIn_of (ziK m) i j.mapOf ?_;rw[<-(c.val k).isSome_eq,<-l];exact h _ (I.tok _);subst f;cases(show u=Θ.ref b from m);obtain⟨z,i,x,c,j⟩:=zkK I.hok e;refine wpAny_notIn_heap (tupleKind_room_in1 p) (zc2 I.hok t) i j ?_;have q:=(c.val k).isSome_eq;rw[Option.isSome_map]at q;rw[<-q,<-l];exact h _ (I.tok _)
theorem zdW(I:Inv X pins σ H s)(c:Mut (H a))(hs:Heap.SameBut a s.heap h')(d:∃q,h'.get? a=Φ q)(new:ObjOk X.prog X.w (upd H a ob) h' a ob):
  Inv X pins σ (upd H a ob) {s with heap:=h',toks:=t'}:=
 I.write (x:=a) (e:=a) c (.inl rfl) (λb q f z=>(hs.2 b f).trans z) d new
theorem znl(z:b.length<=sizeLine)(hd:(a==sysModules)=Δ)(c:KV b vs)(d:h'.DictOf (zam P w) a vs):
 ObjOk P w H' h' a (.dK b):=⟨z,hd,vs,c,d⟩
theorem zkR(O:A.units+1<cLine)(I:Inv X pins σ H s)(g:DPut H a y v H')(C:RelV y u)(G:RelV v r)(h:∀J,Inv X pins σ H' J->Q () J):
  wpAny (model X.prog X.w) A (setItem (.ref a) u r) Q E s:=by
 rcases g with⟨d,k,e,m,l,n⟩|⟨d,k,b,e,m,L,l,n⟩
 . subst m n;obtain⟨z,p,T,f,t⟩:=zrQ I.hok e;have w:T.length<=sizeLine:=by rw[<-f.length];exact z
   have x:(putK d k v).length<=sizeLine:=by have:=zbv d k v;lia
   refine wpAny_setItem_pairs (hsz:=w) (ziK C) t λM i B=>h _ ?_;have U:∃q,M.get? a=Φ q:=let ⟨q,_,_,j,_⟩:=i;⟨q,j⟩;exact zdW I (by rw[e];exact True.intro) B U (znl x p (f.put k G) i)
 subst m n;cases(show u=Θ.ref b from C);obtain⟨z,p,Y,f,t⟩:=ziR I.hok e;have w:Y.length<=sizeLine:=by rw[<-Paired.length f];exact z
 have x:(putK d k v).length<=sizeLine:=by have:=zbv d k v;lia
 refine wpAny_setItem_heap (hsz:=w) (tupleKind_room_in1 O) (zc2 I.hok L) t λM i B=>h _ ?_;obtain⟨q,es,ep,j,h2,h3,h4,_,h5⟩:=i;refine zdW I (by rw[e];exact True.intro) B ⟨q,j⟩ ⟨x,p,_,(f.put k L G).keeps λc ys N=>?_,q,es,ep,j,h2,h3,h4,h5⟩;rw[zai (ne_of N e (λz=>by cases z))];exact N
end
theorem zms(h:Heap)(a:sysModules<h.objs.size):ObjOk P w H (h.push {cls:=.type "dict",data:=.dict #[]}) h.objs.size (.dK []):=⟨zero_le _,beq_eq_false_iff_ne.mpr (Ne.symm (ne_of_lt a)),[],.nil,Heap.DictOf.new h⟩
theorem zmr(h:Heap)(a:sysModules<h.objs.size):ObjOk P w H (h.push {cls:=.type "dict",data:=.dict #[]}) h.objs.size (.dT []):=⟨zero_le _,beq_eq_false_iff_ne.mpr (Ne.symm (ne_of_lt a)),[],.nil,_,#[],0,Μ _ rfl,⟨rfl,rfl,rfl⟩,rfl,rfl,List.nodup_nil⟩
def zpU:TE:=λ_ H Q=>∀p,H p=Ψ->Q (.ref p) (upd H p (.dK []))
def zpT:TE:=λ_ H Q=>∀p,H p=Ψ->Q (.ref p) (upd H p (.dT []))
section
variable{X:Cx}{pos:Pos}
theorem zl0:PE X (.Dict [] [] pos) zpU:=λb s c H Q I h=>wpAny_Dict_empty ⟨.ref s.heap.objs.size,_,I.laid (a:=s.heap.objs.size) (o:=.dK []) (t':=s.toks) (λ_ _ q=>Ω _ q) (le_refl _) (zms s.heap I.big),rfl,h _ (I.hok.fresh (le_refl _))⟩
theorem zlZ:PE X (.Dict [] [] pos) zpT:=λb s c H Q I h=>wpAny_Dict_empty ⟨.ref s.heap.objs.size,_,I.laid (a:=s.heap.objs.size) (o:=.dT []) (t':=s.toks) (λ_ _ q=>Ω _ q) (le_refl _) (zmr s.heap I.big),rfl,h _ (I.hok.fresh (le_refl _))⟩
end
structure M1(X:Cx)(o:Expr)(m:Str)(apos:Pos)(e:Expr)(cpos:Pos):Prop where
 base:attributeBase o m X.env (eval o X.env)=eval o X.env
 few:((backTo cpos (starEach [e] X.env)).all (λx=>!x.1)&&(backToKw cpos (keywordEach [] X.env)).all (λx=>x.1.isSome)
  && decide (([e]:List Expr).length+([]:List Keyword).length+(if([]:List Keyword).isEmpty then 0 else 1)<30))=Γ
 line:(apos.endLine==cpos.line)=Γ
 trees:backTo cpos (starEach [e] X.env)=[(Δ,eval e X.env)]
structure M2(X:Cx)(o:Expr)(m:Str)(apos:Pos)(e f:Expr)(cpos:Pos):Prop where
 base:attributeBase o m X.env (eval o X.env)=eval o X.env
 few:((backTo cpos (starEach [e,f] X.env)).all (λx=>!x.1)&&(backToKw cpos (keywordEach [] X.env)).all (λx=>x.1.isSome)
  && decide (([e,f]:List Expr).length+([]:List Keyword).length+(if([]:List Keyword).isEmpty then 0 else 1)<30))=Γ
 line:(apos.endLine==cpos.line)=Γ
 trees:backTo cpos (starEach [e,f] X.env)=[(Δ,eval e X.env),(Δ,eval f X.env)]
def IsD(H:Hp)(a:Addr):Prop:=(∃b,Rd H a (.dK b))\/∃b,Rd H a (.dT b)
theorem zkn(I:Inv X j σ H s)(d:IsD H a):
  s.TypeIs (.ref a) "dict"/\(∀b,Θ.ref a=.ref b->∃ob,s.heap.get? b=Φ ob/\ob.dict=Ψ)/\(a==sysModules)=Δ:=by
 rcases d with⟨f,e⟩|⟨f,e⟩;obtain⟨_,g,k,_,c⟩:=zkL I.hok e;refine⟨c.typeIs,λb q=>?_,g⟩;cases q;obtain⟨ob,_,_,h,i,_⟩:=c;exact⟨ob,h,i.2.1⟩;obtain⟨_,g,l,_,c⟩:=zkK I.hok e;refine⟨c.typeIs,λb q=>?_,g⟩;cases q;obtain⟨ob,_,_,h,i,_⟩:=c;exact⟨ob,h,i.2.1⟩
section
variable{X:Cx}{pins:List (Addr×Obj)}{σ:St}{H:Hp}{s:Ζ}{a:Addr}{y d:V}{u r:Θ}{o:Option V}{A:ϑ}{E:Θ->Ζ->Prop}
theorem zrS(v:A.units+1<cLine)(I:Inv X pins σ H s)(g:DGet H a y o)(n:RelV y u)(p:RelV d r)(h:∀q t,Inv X pins σ H t->RelV (o.getD d) q->Q q t):
  wpAny (model X.prog X.w) A (call (.builtin "dict.get") [.ref a,u,r]) Q E s:=by
 rcases g with⟨i,k,e,j,l⟩|⟨i,k,b,e,j,w,l⟩;subst j;obtain⟨z,m,B,c,f⟩:=zkL I.hok e;refine call_meetsIn PySem.F.slot_dict_get f.typeIs PySem.F.entry_dict_get (PySem.F.args_dict_get_3 _ _ _) (meets_dict_get_default (zam X.prog X.w) a (ziK n) m r) ⟨_,f.mapOf,h _ _ (I.tok _) ?_⟩;rw[l];exact(c.val k).getD p;subst j;cases(show u=Θ.ref b from n);obtain⟨z,m,x,c,f⟩:=zkK I.hok e;refine call_meetsIn PySem.F.slot_dict_get f.typeIs PySem.F.entry_dict_get (PySem.F.args_dict_get_3 _ _ _) (meetsH_dict_get_default (tupleKind (zam X.prog X.w)) a b m r) ⟨tupleKind_room_in1 v,k,x,zc2 I.hok w,f,h _ _ (I.tok _) ?_⟩;rw[l];exact(c.val k).getD p
end
def zpW(e f g:TE):TE:=λb H Q=>e b H λx c=>∃a,x=.ref a/\IsD c a/\f b c λy h=>g b h λz d=>∃o,DGet d a y o/\Q (o.getD z) d
section
variable{X:Cx}{o e f:Expr}{apos cpos:Pos}{td ty tx:TE}
theorem zhG(l:X.A.units+1<cLine)(n:PE X o td)(p:PE X e ty)(q:PE X f tx)(m:M2 X o "get" apos e f cpos):PE X (.Call (.Attribute o "get" apos) [e,f] [] cpos) (zpW td ty tx):=by intro b s c H Q I h;refine wpAny_Call_method m.base m.few m.line PySem.F.plainAttrs_dict PySem.F.slot_dict_get PySem.F.type_dict_get (thn (n b s c H _ I h) λu r k=>?_);obtain⟨x,t,j,v,a,w,d,A⟩:=k;subst w;obtain rfl:u=Θ.ref a:=v;obtain⟨B,C,_⟩:=zkn j d;refine⟨B,C,?_⟩;rw[m.trees];refine Calls.callWith_builtin rfl (Calls.evalArgs_plain (ϛ (thn (p b r c t _ j A) λiv E z=>eY z λy G J L M=>ϛ (thn (q b E c G _ J M) λfv s3 ⟨z,N,O,T,ov,g,U⟩=>Calls.spliced_nil ?_))));exact zrS l O g L T λw' s4 Y i=>⟨_,N,Y,i,U⟩
end
end L2
namespace HT
open PySem PyProof.Rows
noncomputable def lexLt:List Int->List Int->Bool
 | [],[]=>Δ| [],_::_=>Γ|_::_,[]=>Δ|x::a,y::b=>if x=y then lexLt a b else decide (x<y)
theorem zcN(x y)(xs ys):lexLt (x::xs) (y::ys)=if x=y then lexLt xs ys else decide (x<y):=rfl
theorem zbu:lexLt [] []=Δ:=rfl
theorem zbf(y)(ys):lexLt [] (y::ys)=Γ:=rfl
theorem zbg(x)(xs):lexLt (x::xs) []=Δ:=rfl
theorem zff(A)(s)(a)(t)(c)(u):∃e,SeqAt.EqAt A s (.int a t) (.int c u) e/\(e=Γ↔a=c):=⟨(a==c),SeqAt.EqAt.int_int a t c u,by simp⟩
theorem zlK(A)(s)(a)(t)(c)(u)(prog)(w)(E)(Q)(h:Q (.bool (decide (a<c))) s):
  wpAny (model prog w) A (richCompare .Lt (.int a t) (.int c u)) Q E s:=
 (PyProof.Rows.lt_int h:wpAny (model prog w) A (compareOp .Lt (.int a t) (.int c u)) Q E s)
section
open PySem.SeqAt
open PySem.AutoSeq1 (wpAny_loadPart')
open PySem.MeetsSeq PySem.MeetsSeq2 PySem.MeetsSeq3
theorem zeB(l b)(items f)(n n2)(dd N)(sl O)(ns H)(Y:IntsAre items.toList ns)(hj:IntsAre f.toList H):
  Meets (Builtin.«tuple.__lt__» ⟨[.ref l,.ref b],[]⟩)
   (λ_ R s=>s.heap.get? l=Φ {cls:=.type "tuple",dict:=dd,data:=.seq items n,slots:=sl}/\s.heap.get? b=Φ {cls:=.type "tuple",dict:=N,data:=.seq f n2,slots:=O}/\
    R (.ok (.ret (.bool (lexLt ns H)))) s):=
 .of_wp λprog w A R s h=>by
  obtain⟨I,g,d,J,os⟩:=s;obtain⟨hl,hb,h⟩:=h;have f2:=AutoSeq1.sub_tuple_tuple;have z1:items.size=ns.length:=by rw[<-Y.length];simp
  have z2:f.size=H.length:=by rw[<-hj.length];simp
  wp_walk using wpAny_loadPart' hl,wpAny_loadPart' hb,Ϡ _ (λp b Q=>b.1=Ψ/\Q=⟨I,g,d,J,os⟩/\∃(L M:List Θ) (j k:List Int),p=L.zip M/\
   IntsAre L j/\IntsAre M k/\j.length+f.size=k.length+items.size/\R (.ok (.ret (.bool (lexLt j k)))) ⟨I,g,d,J,os⟩) _
  case turn=>
   rintro⟨y,x⟩ p b Q ⟨z,rfl,L,M,j,k,m,B,o,i,r⟩;cases B with
   |nil=>rw[List.zip_nil_left]at m;cases m
   |cons a t E=>
    cases o with
    |nil=>rw[List.zip_nil_right]at m;cases m
    |cons c u G=>
     rw[ϐ]at m;injection m with T C;injection T with hy hx;subst hy hx;rw[zcN]at r;simp only[Χ]at i;obtain⟨e,he,v⟩:=zff A.in1 ⟨I,g,d,J,os⟩ a t c u;refine Ξ (he prog w _ _ ?_);cases e with
     |true=>
      rw[if_pos (v.mp rfl)]at r
      wp_walk
      exact⟨rfl,rfl,_,_,_,_,C,E,G,by lia,r⟩
     |false=>
      rw[if_neg (λq=>absurd (v.mpr q) Ε)]at r;have U:=zlK A.in1 ⟨I,g,d,J,os⟩ a t c u prog w
      wp_walk using U
      exact⟨_,rfl,by simpa using r⟩
  case fin=>
   rintro⟨b1,b2⟩ Q ⟨z,rfl,L,M,j,k,m,B,o,i,r⟩;simp only at z;subst z;have hv:lexLt j k=decide (items.size<f.size):=by
    cases B with
    |nil=>cases o with| nil=>simp only[ϩ]at i;rw[zbu];exact(decide_eq_false (by lia)).symm| cons c u hw=>simp only[ϩ,Χ]at i;rw[zbf];exact(decide_eq_true (by lia)).symm
    |cons a t hv=>cases o with| nil=>simp only[ϩ,Χ]at i;rw[zbg];exact(decide_eq_false (by lia)).symm| cons c u hw=>rw[ϐ]at m;cases m
   rw[hv]at r
   wp_walk
   exact⟨_,rfl,by simpa[Builtin.Tuple.tupleCompareSizes]using r⟩
  case h=>exact⟨rfl,rfl,items.toList,f.toList,ns,H,rfl,Y,hj,by lia,h⟩
end
section
variable{prog:Υ}{w:ύ}{A:ϑ}{E:Θ->Ζ->Prop}{s:Ζ}
theorem lt_tupInts(o:IsTup s.heap l items)(p:IsTup s.heap b a)(q:IntsAre items.toList ns)(r:IntsAre a.toList d)(t:A.units<cLine)(h:Q (.bool (lexLt ns d)) s):wpAny (model prog w) A (compareOp .Lt (.ref l) (.ref b)) Q E s:=by
 obtain⟨⟨u,v,j,y⟩,k,z,n,B⟩:=id o;obtain⟨⟨m,e,data2,f⟩,c,g,C,i⟩:=id p;subst z B g i;exact richCompare_meets_room (op:=.Lt) ⟨_,k,rfl⟩ ⟨_,c,rfl⟩ PySem.F.slot_tuple_lt PySem.F.entry_tuple_lt (PySem.F.args_tuple_lt_2 _ _) (zeB l b items a n C v e y f ns d q r)
  ⟨k,c,show Θ.bool (lexLt ns d)≠Θ.notImplemented/\Q (.bool (lexLt ns d)) s from⟨(λx=>by cases x),h⟩⟩ t
theorem cat_tup(u:IsTup s.heap t vs.toArray)(v:IsTup s.heap b a.toArray)(k:vs≠[])(x:a=[]->Q (.ref t) s)(y:a≠[]->Q (.ref s.heap.objs.size) {s with heap:=s.heap.push {cls:=.type "tuple",data:=.seq (vs++a).toArray}})(z:vs.length+a.length<=sizeLine):wpAny (model prog w) A (binaryOp .Add (.ref t) (.ref b)) Q E s:=by
 obtain⟨⟨cls,l,data,m⟩,i,o,n,p⟩:=id u;obtain⟨⟨q,d,data2,f⟩,c,g,r,h⟩:=id v;simp only at o p g h;subst o p g h;have e:vs.toArray++a.toArray=(vs++a).toArray:=by simp
 by_cases j:a=[]
 exact concat_meets ⟨_,i,rfl⟩ ⟨_,c,rfl⟩ noFill_tuple_add seq_tuple_add PySem.F.slot_tuple_add PySem.F.entry_tuple_add (PySem.F.args_tuple_add_2 _ _)
  (tuple_addW1 t b vs.toArray a.toArray n r l d m f (by simpa using k) (by simp[j])) ⟨i,c,x j⟩
 refine concat_meets ⟨_,i,rfl⟩ ⟨_,c,rfl⟩ noFill_tuple_add seq_tuple_add PySem.F.slot_tuple_add PySem.F.entry_tuple_add (PySem.F.args_tuple_add_2 _ _)
  (tuple_addW2 t b vs.toArray a.toArray n r l d m f (by simpa using k) (by simpa using j) (by rw[size_toArray,size_toArray];exact z)) ⟨i,c,?_⟩
 rw[e];exact y j
noncomputable def sIx(n d:Nat):Option Int->Nat
 |none=>d|some v=>if v<0 then(v+(n:Int)).toNat else min v.toNat n
theorem zqt(n d)(hd:d<=n)(o):sIx n d o<=n:=by cases o with|none=>exact hd| some v=>show(if v<0 then(v+(n:Int)).toNat else min v.toNat n)<=n;by_cases a:v<0;rw[if_pos a];lia;rw[if_neg a];exact Nat.min_le_right _ _
theorem zkW(v)(n d:Nat):(if v<0 then max (v+(n:Int)) 0 else min v (n:Int))=((sIx n d (Φ v):Nat):Int):=by show(if v<0 then max (v+(n:Int)) 0 else min v (n:Int))=(((if v<0 then(v+(n:Int)).toNat else min v.toNat n):Nat):Int);by_cases a:v<0;simp only[if_pos a];lia;simp only[if_neg a];lia
theorem ziY(lo hi)(n:Nat):Builtin.Slice.sliceAdjust lo hi 1 (n:Int)=(((sIx n 0 lo:Nat):Int),((sIx n n hi:Nat):Int)):=by
 have a:¬((1:Int)<0):=by lia
 unfold Builtin.Slice.sliceAdjust;simp only[a,if_false];refine Prod.ext ?_ ?_;cases lo with|none=>rfl|some v=>exact zkW v n 0
 cases hi with|none=>rfl|some v=>exact zkW v n n
theorem ziw(i j:Nat):Builtin.Slice.slicePlaces (i:Int) (j:Int) 1=j-i:=by
 unfold Builtin.Slice.slicePlaces;have a:(1:Int)>0:=by lia
 simp only[a,if_true,Int.ediv_one];split<;>lia
theorem zeb(p:IsPart v o)(h:Q o s):wpAny (model prog w) A (Builtin.Slice.slicePartIndex v) Q E s:=by cases p with|none=>exact slicePart_none h|int i t=>exact slicePart_int h
theorem sliceApplied_gen{lo hi}{Q:Int×Int×Nat->Ζ->Prop}(hs:s.heap.IsSliceOf sl vl vu .none)(pl:IsPart vl lo)(pu:IsPart vu hi)(h:Q (((sIx n 0 lo:Nat):Int),1,sIx n n hi-sIx n 0 lo) s):wpAny (model prog w) A (Builtin.Slice.sliceApplied (.ref sl) (pure (n:Int))) Q E s:=by
 obtain⟨os,hos,hcs,hds⟩:=id hs;unfold Builtin.Slice.sliceApplied Builtin.Slice.sliceFields;refine Ξ (Ξ (wpAny_field hos hds (x:=vl) rfl (Ξ (wpAny_field hos hds (x:=vu) rfl (Ξ (wpAny_field hos hds (x:=.none) rfl (Β ?_)))))));refine Ξ (slicePart_none ?_);show wpAny _ _ (if((1:Int)==0)=Γ then _ else _) _ _ s;rw[if_neg (by decide)];refine Ξ (zeb pl (Ξ (zeb pu (Ξ (Β ?_)))));show wpAny _ _ (match Builtin.Slice.sliceAdjust lo hi 1 (n:Int) with|(lo,hi)=>pure (lo,(1:Int),Builtin.Slice.slicePlaces lo hi 1)) _ _ s;rw[ziY lo hi n];show wpAny _ _ (pure (((sIx n 0 lo:Nat):Int),(1:Int),Builtin.Slice.slicePlaces ((sIx n 0 lo:Nat):Int) ((sIx n n hi:Nat):Int) 1)) _ _ s;rw[ziw];exact Β h
theorem zlR(xs:Array Θ)(i k:Nat):((List.range k).filterMap λ(m:Nat)=>xs[((i:Int)+(m:Int)*1).toNat]?).toArray=((xs.toList.drop i).take k).toArray:=by
 have e:(λ(m:Nat)=>xs[((i:Int)+(m:Int)*1).toNat]?)=λm=>xs[i+m]?:=by
  funext m;have:((i:Int)+(m:Int)*1).toNat=i+m:=by lia
  rw[this]
 rw[e];have:=pick_run xs i k;rw[List.filterMap_map]at this;have a:((λx=>xs[x]?)∘λx=>i+x)=λm=>xs[i+m]?:=rfl;rw[a]at this;rw[this]
theorem getItem_tuple_cut{lo hi}(ht:IsTup s.heap t items)(hs:s.heap.IsSliceOf sl vl vu .none)(pl:IsPart vl lo)(pu:IsPart vu hi)(hw:¬(sIx items.size 0 lo=0/\sIx items.size items.size hi=items.size))(h:Q (.ref s.heap.objs.size) {s with heap:=s.heap.push {cls:=.type "tuple",data:=.seq ((items.toList.drop (sIx items.size 0 lo)).take (sIx items.size items.size hi-sIx items.size 0 lo)).toArray}})(hsz:items.size<=sizeLine):wpAny (model prog w) A (getItem (.ref t) (.ref sl)) Q E s:=by
 have htake:sizeOk (.seq ((items.toList.drop (sIx items.size 0 lo)).take (sIx items.size items.size hi-sIx items.size 0 lo)).toArray):=by show((items.toList.drop (sIx items.size 0 lo)).take (sIx items.size items.size hi-sIx items.size 0 lo)).toArray.size<=sizeLine;rw[size_toArray,ϣ,List.length_drop,length_toList];omega
 obtain⟨os,hos,hcs,hds⟩:=id hs;have hTs:s.TypeIs (.ref sl) "slice":=⟨os,hos,hcs⟩;unfold getItem
 try with_reducible refine Ϥ ?_
 refine Ξ (wpAny_sequenceKey ht.typeIs (by decide) ?_);refine Ξ (wpAny_callSpecial?_slot ht.typeIs PyProof.Rows.slot_tuple_getitem
  (ϡ PyProof.Rows.slot_tuple_getitem ht.typeIs entry_tuple_getitem ?_ (args_tuple_getitem _ _)))
 show wpAny _ _ (Builtin.Tuple.tupleItemsOf (.ref t)>>=_) _ _ s;refine Ξ (tupleItemsOf_ ht ?_);refine Ξ (wpAny_typeOf hTs ?_);refine Ξ (sliceApplied_gen hs pl pu ?_);have hno:¬((((sIx items.size 0 lo:Nat):Int)==0&&(1:Int)==1&&(sIx items.size items.size hi-sIx items.size 0 lo)==items.size)=Γ):=by intro q;rw[Λ,Λ]at q;have q1:=eq_of_beq q.1.1;have q2:=eq_of_beq q.2;exact hw ⟨by omega,by omega⟩
 show wpAny _ _ (if(((sIx items.size 0 lo:Nat):Int)==0&&(1:Int)==1&&(sIx items.size items.size hi-sIx items.size 0 lo)==items.size)=Γ then _ else _) _ _ s;rw[if_neg hno,zlR]
 first
  |exact Ξ (wpAny_newObj_type (Β ⟨_,rfl,Β h⟩) htake)
  |exact Ξ (wpAny_newObj_type (Ξ (Β (Β ⟨_,rfl,Β h⟩))) htake)
  |exact Ξ (Ξ (wpAny_newObj_type (Β (Β ⟨_,rfl,Β h⟩)) htake))
  |exact Ξ (Ξ (wpAny_newObj_type (Β ⟨_,rfl,Β h⟩) htake))
end
end HT
namespace L2
open PySem PySem.Spec PyProof.Rows
abbrev TO:=St->Hp->(Option Int->Hp->Prop)->Prop
def PO(X:Cx)(e:Option Expr)(t:TO):Prop:=
 ∀(a:List (Addr×Obj))(s:Ζ)(b:St)(H:Hp)(Q:Option Int->Hp->Prop),Inv X a b H s->t b H Q->
  wpAny (model X.prog X.w) X.A (evalPart e X.env) (λu d=>∃o c,Inv X a b c d/\IsPart u o/\Q o c) X.xe s
def znE:TO:=λ_ H Q=>Q Ψ H
def zsj(t:TE):TO:=λa H Q=>t a H λx b=>∃i,x=.int i/\Q (Φ i) b
theorem zcO:∀{us:List Θ},Vals (ns.map V.int) us->IntsAre us ns:=by induction ns with|nil=>intro us r;cases r;exact .nil| cons n ns a=>intro us r;cases r with| cons b c=>obtain⟨t,e⟩:=b;subst e;exact .cons n t (a c)
section
variable{X:Cx}{e:Expr}{te:TE}{lo hi:Option Expr}{tl th:TO}{pos p2:Pos}
theorem zop:PO X Ψ znE:=by intro a s b H Q I h;rw[evalPart_none];exact Β ⟨Ψ,H,I,.none,h⟩
theorem zgF(h:PE X e te):PO X (Φ e) (zsj te):=by intro a s b H Q I c;rw[evalPart_some];refine thn (h a s b H _ I c) λu k z=>?_;obtain⟨x,d,f,g,j⟩:=z;obtain⟨i,rfl,q⟩:=j;obtain⟨t,rfl⟩:=g;exact⟨Φ i,d,f,.int i t,q⟩
def SlR(X:Cx)(r:V->Option Int->Option Int->Hp->VK->Prop):Prop:=
 ∀(pins:List (Addr×Obj))(s:Ζ)(σ:St)(H:Hp)(x:V)(v vl vu:Θ)(lo hi:Option Int)(sl:Addr)(Q:VK),Inv X pins σ H s->RelV x v->s.heap.IsSliceOf sl vl vu .none->IsPart vl lo->IsPart vu hi->r x lo hi H Q->
  ∃T id,typeLookup (.type T) "__getitem__"=pure (Φ (.builtin id))/\s.TypeIs v T/\wpAny (model X.prog X.w) X.A (getItem v (.ref sl)) (EP X pins σ Q) X.xe s
theorem SlR.or(h:SlR X r)(h':SlR X l):SlR X (λx lo hi H Q=>r x lo hi H Q\/l x lo hi H Q):=by intro a s b H x v c d lo hi f Q I g i j k q;rcases q with q|q;exact h a s b H x v c d lo hi f Q I g i j k q;exact h' a s b H x v c d lo hi f Q I g i j k q
def tSl(r:V->Option Int->Option Int->Hp->VK->Prop)(te:TE)(tl th:TO):TE:=λa H Q=>te a H λx b=>tl a b λl c=>th a c λu d=>r x l u d Q
theorem zhF(j:SlR X r)(k:PE X e te)(m:PO X lo tl)(n:PO X hi th):PE X (.Subscript e (.Slice lo hi Ψ p2) pos) (tSl r te tl th):=by intro a s d H Q I h;refine Subscript_ (thn (k a s d H _ I h) λv o z=>?_);obtain⟨x,p,t,w,y⟩:=z;refine wpAny_Slice (thn (m a o d p _ t y) λf A z=>eY z λl B C E G=>thn (n a A d B _ C G) λg c z=>?_);obtain⟨u,i,J,L,M⟩:=z;rw[evalPart_none];refine Β ?_;have N:Inv X a d i {c with heap:=c.heap.push {cls:=.type "slice",data:=.fields #[f,g,.none]}}:=J.kept (t':=c.toks) λb ob q=>Ω _ q;obtain⟨T,id,O,U,Y⟩:=j a {c with heap:=c.heap.push {cls:=.type "slice",data:=.fields #[f,g,.none]}} d i x v f g l u c.heap.objs.size Q N w (Heap.IsSliceOf.new ..) E L M;show wpAny (model X.prog X.w) X.A (subscriptTail e (.Slice lo hi Ψ p2) v (.ref c.heap.objs.size)) (EP X a d Q) X.xe {c with heap:=c.heap.push {cls:=.type "slice",data:=.fields #[f,g,.none]}};exact tail_any (ops:=[.ref c.heap.objs.size,v]) U O Y (by with_unfolding_all rfl)
noncomputable def cutV(xs:List V)(lo hi:Option Int):List V:=(xs.drop (HT.sIx xs.length 0 lo)).take (HT.sIx xs.length xs.length hi-HT.sIx xs.length 0 lo)
theorem zdX(xs)(lo hi):(cutV xs lo hi).length<=xs.length:=by unfold cutV;rw[ϣ,List.length_drop];lia
def rSlT(K:Frag):V->Option Int->Option Int->Hp->VK->Prop:=λx lo hi H Q=>∃a b,x=.ref a/\SqT K H a b/\
 ¬(HT.sIx b.length 0 lo=0/\HT.sIx b.length b.length hi=b.length)/\∀p,H p=Ψ->Q (.ref p) (upd H p (.tup (cutV b lo hi)))
theorem zmX:SlR X (rSlT X.K):=by
 intro g s u H x v w y lo hi z Q I k l m n h;obtain⟨a,d,rfl,p,t,q⟩:=h;cases k;obtain⟨f,r,i,j⟩:=I.tuple p;have c:f.toArray.size=d.length:=by rw[size_toArray];exact r.length.symm
 refine⟨"tuple",_,PyProof.Rows.slot_tuple_getitem.lookup,i.typeIs,?_⟩;refine HT.getItem_tuple_cut i l m n (by rw[c];exact t) ?_ (by rw[c];exact j);rw[c];refine⟨.ref s.heap.objs.size,_,I.laid (t':=s.toks) (o:=.tup (cutV d lo hi)) (λb A q=>Ω _ q) (le_refl _) ?_,rfl,q _ (I.hok.fresh (le_refl _))⟩;exact⟨le_trans (zdX d lo hi) j,_,(r.drop (HT.sIx d.length 0 lo)).take (HT.sIx d.length d.length hi-HT.sIx d.length 0 lo),IsTup.new _ _⟩
def zsC(K:Frag):R2:=λx y H Q=>∃a b d c,x=.ref a/\y=.ref b/\SqT K H a d/\SqT K H b c/\d≠[]/\d.length+c.length<=sizeLine/\
 (c=[]->Q (.ref a) H)/\(c≠[]->∀p,H p=Ψ->Q (.ref p) (upd H p (.tup (d++c))))
theorem Vals.nil_iff(r:Vals xs us):us=[]↔xs=[]:=by cases r with|nil=>simp|cons _ _=>simp
theorem zoE:OpR X (binaryOp .Add) (zsC X.K):=by intro f s A H x y v u Q I j k h;obtain⟨a,b,B,C,rfl,rfl,l,m,n,g,o,p⟩:=h;cases j;cases k;obtain⟨r,d,t,_⟩:=I.tuple l;obtain⟨i,c,p2,_⟩:=I.tuple m;refine HT.cat_tup t p2 (λz=>n (d.nil_iff.mp z)) (λz=>⟨.ref a,H,I,rfl,o (c.nil_iff.mp z)⟩) (λz=>?_) (by rw[<-d.length,<-c.length];exact g);refine⟨.ref s.heap.objs.size,_,I.laid (λb E q=>Ω _ q) (le_refl _) ?_,rfl,p (λw=>z (c.nil_iff.mpr w)) _ (I.hok.fresh (le_refl _))⟩;exact⟨by rw[length_append];exact g,_,d.append c,IsTup.new _ _⟩
end
noncomputable def ixN(n:Nat)(i:Int):Option Nat:=if 0<=i then(if i<n then Φ i.toNat else Ψ) else if -(n:Int)<=i then Φ (i+n).toNat else Ψ
noncomputable def atI{α:Type}(xs:List α)(i:Int):Option α:=(ixN xs.length i).bind λj=>xs[j]?
theorem zke(h:ixN n i=Φ j):seqIndex? i n=Φ j/\j<n/\-(n:Int)<=i/\i<n:=by unfold ixN at h;by_cases h0:0<=i;rw[if_pos h0]at h;by_cases h1:i<n;rw[if_pos h1]at h;have e:i.toNat=j:=Option.some.inj h;exact⟨by rw[seqIndex_of h0 h1,e],by lia,by lia,h1⟩;rw[if_neg h1]at h;exact nS h;rw[if_neg h0]at h;by_cases h1:-(n:Int)<=i;rw[if_pos h1]at h;have e:(i+n).toNat=j:=Option.some.inj h;exact⟨by rw[seqIndex_neg (by lia) h1,e],by lia,h1,by lia⟩;rw[if_neg h1]at h;exact nS h
theorem zg7(h:atI xs i=Φ v):∃j,seqIndex? i xs.length=Φ j/\xs[j]?=Φ v/\j<xs.length/\-(xs.length:Int)<=i/\i<xs.length:=by
 unfold atI at h;cases e:ixN xs.length i with
 |none=>rw[e]at h;exact nS h
 |some j=>rw[e]at h;obtain⟨a,b,c,d⟩:=zke e;exact⟨j,a,h,b,c,d⟩
def zk8(b:Expr):Prop:=∀o i,subscripted b Δ o i=operate [o,i] (getItem o i)
def IxR(X:Cx)(r:R2):Prop:=
 ∀(c a:Expr)(b:List (Addr×Obj))(s:Ζ)(d:St)(H:Hp)(x y:V)(v u:Θ)(Q:VK),Inv X b d H s->RelV x v->RelV y u->r x y H Q->
  subscripted a Δ v u=operate [v,u] (getItem v u)->wpAny (model X.prog X.w) X.A (subscriptTail c a v u) (EP X b d Q) X.xe s
def MtR(X:Cx)(id:String)(r:V->List V->Hp->VK->Prop):Prop:=
 ∀(a:List (Addr×Obj))(s:Ζ)(b:St)(H:Hp)(x:V)(c:List V)(v:Θ)(d:List Θ)(Q:VK),Inv X a b H s->RelV x v->Vals c d->r x c H Q->
  wpAny (model X.prog X.w) X.A (call (.builtin id) (v::d)) (EP X a b Q) X.xe s
section
variable{X:Cx}{a b:Expr}{ta tb:TE}{pos:Pos}
theorem IxR.or(h:IxR X r)(h':IxR X k):IxR X (λx y H Q=>r x y H Q\/k x y H Q):=by intro c d e s f H x y v u Q I g i q j;rcases q with q|q;exact h c d e s f H x y v u Q I g i q j;exact h' c d e s f H x y v u Q I g i q j
theorem zsI(d:IxR X r)(e:PE X a ta)(f:PE X b tb)(g:zk8 b):PE X (.Subscript a b pos) (tOp r ta tb):=by intro c s i H Q I h;exact Subscript_ (binT e f I h λv u j x y k l m n q=>d a b c j i k x y v u Q l m n q (g _ _))
def rIxL(K:Frag):R2:=λx y H Q=>∃p c i v,x=.ref p/\y=.int i/\SqL K H p c/\atI c i=Φ v/\Q v H
def rIxT(K:Frag):R2:=λx y H Q=>∃p c i v,x=.ref p/\y=.int i/\SqT K H p c/\atI c i=Φ v/\Q v H
def rIxS:R2:=λx y H Q=>∃z i c,x=.str z/\y=.int i/\z.length<=sizeLine/\atI z.cps.toList i=Φ c/\Q (.str ⟨#[c]⟩) H
theorem ix_list:IxR X (rIxL X.K):=by
 intro e f c s B H x y v u Q I C E h n;obtain⟨p,T,i,z,rfl,rfl,G,J,q⟩:=h;cases C;obtain⟨t,rfl⟩:=E;obtain⟨g,r,k,U⟩:=I.list G;obtain⟨j,d,L,Y,M,N⟩:=zg7 J;obtain⟨w,o,l⟩:=r.get L;have O:=r.length;have hn:=zeh;have fin:EP X c B Q w s:=⟨z,H,I,l,q⟩;by_cases A:0<=i;have m:i.toNat=j:=by rw[seqIndex_of A N]at d;exact Option.some.inj d
 exact item_listR k.isList A (by lia) (by rw[m];simpa using o) fin n;have m:(i+(g.toArray.size:Int)).toNat=j:=by rw[seqIndex_neg (by lia) M]at d;rw[size_toArray,<-O];exact Option.some.inj d
 exact subscriptTail_builtinR k.isList.typeIs slot_list_getitem.lookup
  (wpAny_getItem_list_neg k.isList (by lia) (by rw[size_toArray]<;>lia) (by lia) (by rw[m];simpa using o) ⟨rfl,fin⟩) n
theorem ix_tup:IxR X (rIxT X.K):=by
 intro d e c s k H x y v u Q I l m h n;obtain⟨p,L,i,z,rfl,rfl,o,A,q⟩:=h;cases l;obtain⟨t,rfl⟩:=m;obtain⟨B,r,g,M⟩:=I.tuple o;obtain⟨j,C,E,N,O,T⟩:=zg7 A;obtain⟨w,G,f⟩:=r.get E;have J:=r.length;have U:=zeh;have fin:EP X c k Q w s:=⟨z,H,I,f,q⟩;exact subscriptTail_builtinR g.typeIs slot_tuple_getitem.lookup
  (getItem_tuple g (by lia) (by lia) (by rw[size_toArray,<-J];exact C) (by simpa using G) ⟨rfl,fin⟩) n
theorem zry:IxR X rIxS:=by
 intro d e f s C H x y v u Q I k l h m;obtain⟨z,i,c,rfl,rfl,E,n,q⟩:=h;obtain⟨t,rfl⟩:=k;obtain⟨G,rfl⟩:=l;obtain⟨j,g,o,J,p,r⟩:=zg7 n;have w:z.cps.toList.length=z.length:=by simp[Str.length]
 rw[w]at g p r;have L:=zeh;exact tail_any (typeIs_str s z t) slot_str_getitem.lookup (getItem_str (c:=c) (by
  have A:decide (i < -(2^63:Int))=Δ:=decide_eq_false (by lia);have B:decide (i≥2^63)=Δ:=decide_eq_false (by lia);rw[A,B,Bool.or_false]) (by rw[g];simpa using o) ⟨.str ⟨#[c]⟩,H,I.tok _,⟨_,rfl⟩,q⟩) m
def rIx(K:Frag):R2:=λx y H Q=>rIxL K x y H Q\/rIxT K x y H Q\/rIxS x y H Q
theorem zrz:IxR X (rIx X.K):=ix_list.or (ix_tup.or zry)
theorem ziE(its:List Θ)(n j)(u):Obj.mapSeq (·.setIfInBounds j u) {cls:=.type "list",data:=.seq its.toArray n}={cls:=.type "list",data:=.seq (its.set j u).toArray n}:=by simp[Obj.mapSeq]
theorem Inv.lst{c:List (Addr×Obj)}{d:St}{H:Hp}{s:Ζ}{p:Addr}{xs:List V}(I:Inv X c d H s)(h:H p=Φ (.lst xs)) :
  ∃(its:List Θ) (n:Nat),Vals xs its/\s.heap.get? p=Φ {cls:=.type "list",data:=.seq its.toArray n}/\xs.length<=sizeLine:=by
 obtain⟨z,its,n,r,e⟩:=I.hok p _ h;exact⟨its,n,r,e,z⟩
theorem Inv.lstUpd{its c:List Θ}(I:Inv X d σ H s)(h:H p=Φ (.lst xs))(j:s.heap.get? p=Φ {cls:=.type "list",data:=.seq its.toArray n})(g:f {cls:=.type "list",data:=.seq its.toArray n}={cls:=.type "list",data:=.seq c.toArray i})(r:Vals ys c)(hz:ys.length<=sizeLine)(t):
  Inv X d σ (upd H p (.lst ys)) {s with heap:=s.heap.update p f,toks:=t}:=by
 have e:(s.heap.update p f).get? p=Φ {cls:=.type "list",data:=.seq c.toArray i}:=by rw[Heap.get?_update_self f j (by rw[g]<;>rfl),g]
 refine I.write (by rw[h];trivial) (.inl rfl) (λb u k q=>(Heap.get?_update_other _ _ (Ne.symm k)).trans q) ⟨_,e⟩ ?_;exact⟨hz,c,i,r,e⟩
def zsB:V->V->V->Hp->(Hp->Prop)->Prop:=λo i v H Q=>∃p c k j,o=.ref p/\i=.int k/\H p=Φ (.lst c)/\ixN c.length k=Φ j/\Q (upd H p (.lst (c.set j v)))
theorem zlj:PSet X zsB:=by
 intro c s A H o i v M N u Q I B C E h;obtain⟨p,G,k,j,rfl,rfl,m,J,q⟩:=h;cases B;obtain⟨t,rfl⟩:=C;obtain⟨d,n,r,f,L⟩:=I.lst m;obtain⟨e,O,w,x⟩:=zke J;have g:=r.length;have T:=zeh;have y:Inv X c A (upd H p (.lst (G.set j v))) {s with heap:=s.heap.update p (Obj.mapSeq (·.setIfInBounds j u))}:=I.lstUpd m f (ziE d n j u) (r.set E j) (by rw[List.length_set];exact L) s.toks;by_cases z:0<=k;have l:k.toNat=j:=by rw[seqIndex_of z x]at e;exact Option.some.inj e
 exact PySem.W.ki_setAt f z (by lia) (by rw[size_toArray,<-g];exact x) (by rw[l];exact⟨_,y,q⟩);have l:(k+(d.toArray.size:Int)).toNat=j:=by rw[seqIndex_neg (by lia) w]at e;rw[size_toArray,<-g];exact Option.some.inj e
 exact PySem.W.ki_setBack f (by lia) (by rw[size_toArray,<-g];exact w) (by lia) (by rw[l];exact⟨_,y,q⟩)
theorem zfp(lo hi)(n):(sliceBounds lo hi Ψ n).1=((HT.sIx n 0 lo:Nat):Int)/\(sliceBounds lo hi Ψ n).2.1=((HT.sIx n n hi:Nat):Int)/\(sliceBounds lo hi Ψ n).2.2=1:=by
 refine⟨?_,?_,rfl⟩;cases lo with
 |none=>simp[sliceBounds,HT.sIx]| some i=>
  simp only[sliceBounds,HT.sIx,Option.getD_none,show(1:Int)>0 by decide,if_true];by_cases h:i<0
  . simp only[h,if_true]<;>lia
  . simp only[h,if_false]<;>lia
 cases hi with
 |none=>simp[sliceBounds,HT.sIx]| some i=>
  simp only[sliceBounds,HT.sIx,Option.getD_none,show(1:Int)>0 by decide,if_true];by_cases h:i<0
  . simp only[h,if_true]<;>lia
  . simp only[h,if_false]<;>lia
theorem zeG(its:List Θ)(lo hi):slicePick its.toArray lo hi Ψ=((its.drop (HT.sIx its.length 0 lo)).take (HT.sIx its.length its.length hi-HT.sIx its.length 0 lo)).toArray:=by obtain⟨c,d,e⟩:=zfp lo hi its.toArray.size;unfold slicePick;rw[c,d,e];simp only[sliceRange_one,pick_run,size_toArray]<;>rfl
def rSlL(K:Frag):V->Option Int->Option Int->Hp->VK->Prop:=λx lo d H Q=>∃a c,x=.ref a/\SqL K H a c/\∀p,H p=Ψ->Q (.ref p) (upd H p (.lst (cutV c lo d)))
theorem znN:SlR X (rSlL X.K):=by intro f s t H x v u w lo e y Q I i j k l h;obtain⟨a,c,rfl,m,q⟩:=h;cases i;obtain⟨n,r,g,p⟩:=I.list m;have d:=r.length;refine⟨"list",_,slot_list_getitem.lookup,g.isList.typeIs,?_⟩;refine wpAny_getItem_list_slice g.isList j k l .none (by simp) ?_ (by rw[size_toArray]<;>lia);rw[zeG,<-d];refine⟨.ref s.heap.objs.size,_,I.laid (t':=s.toks) (o:=.lst (cutV c lo e)) (λb z q=>Ω _ q) (le_refl _) ?_,rfl,q _ (I.hok.fresh (le_refl _))⟩;exact⟨le_trans (zdX c lo e) p,_,0,(r.drop (HT.sIx c.length 0 lo)).take (HT.sIx c.length c.length e-HT.sIx c.length 0 lo),Μ _ rfl⟩
noncomputable def zf2:V->Bool
 |.non=>Γ|.bl _=>Γ|.int _=>Γ|.str _=>Γ|_=>Δ
noncomputable def eqV:V->V->Bool
 |.non,.non=>Γ|.bl a,.bl b=>a==b|.bl a,.int b=>(if a then 1 else 0)==b|.int a,.bl b=>a==(if b then 1 else 0)|.int a,.int b=>a==b|.str a,.str b=>a==b|_,_=>Δ
theorem zrO(e:RelV y u)(c:RelV x v)(g:zf2 y=Γ)(f:zf2 x=Γ):SeqAt.EqAt A s u v (eqV y x):=by
 cases y with
 |non=>cases e;cases x with|non=>cases c;exact SeqAt.EqAt.same _|bl b=>cases c;exact SeqAt.EqAt.none_bool b|int b=>obtain⟨t,rfl⟩:=c;exact SeqAt.EqAt.none_int b t|str b=>obtain⟨t,rfl⟩:=c;exact SeqAt.EqAt.none_str b t|_=>exact absurd (show Δ=Γ from f) Ε
 |bl a=>cases e;cases x with|non=>cases c;exact SeqAt.EqAt.bool_none a|bl b=>cases c;exact SeqAt.EqAt.bool_bool a b|int b=>obtain⟨t,rfl⟩:=c;exact SeqAt.EqAt.bool_int a b t|str b=>obtain⟨t,rfl⟩:=c;exact SeqAt.EqAt.bool_str a b t|_=>exact absurd (show Δ=Γ from f) Ε
 |int a=>obtain⟨d,rfl⟩:=e;cases x with|non=>cases c;exact SeqAt.EqAt.int_none a d|bl b=>cases c;exact SeqAt.EqAt.int_bool a d b|int b=>obtain⟨t,rfl⟩:=c;exact SeqAt.EqAt.int_int a d b t|str b=>obtain⟨t,rfl⟩:=c;exact SeqAt.EqAt.int_str a d b t|_=>exact absurd (show Δ=Γ from f) Ε
 |str a=>obtain⟨d,rfl⟩:=e;cases x with|non=>cases c;exact SeqAt.EqAt.str_none a d|bl b=>cases c;exact SeqAt.EqAt.str_bool a d b|int b=>obtain⟨t,rfl⟩:=c;exact SeqAt.EqAt.str_int a d b t|str b=>obtain⟨t,rfl⟩:=c;exact SeqAt.EqAt.str_str a d b t|_=>exact absurd (show Δ=Γ from f) Ε
 |_=>exact absurd (show Δ=Γ from g) Ε
noncomputable def eqU(x:V)(u:Θ):Bool:=match u with|.none=>eqV .non x|.bool b=>eqV (.bl b) x|.int i _=>eqV (.int i) x|.str z _=>eqV (.str z) x|_=>Δ
theorem znk(r:RelV y u)(f:zf2 y=Γ):eqU x u=eqV y x:=by cases y with|non=>cases r;rfl|bl b=>cases r;rfl|int i=>obtain⟨t,rfl⟩:=r;rfl|str z=>obtain⟨t,rfl⟩:=r;rfl|_=>exact absurd (show Δ=Γ from f) Ε
theorem zg9:∀{xs:List V}{us:List Θ},Vals xs us->xs.all zf2=Γ->us.any (eqU x)=xs.any λy=>eqV y x
 |_,_,.nil,_=>rfl| y::xs,u::us,.cons r t,f=>by rw[all_cons,Λ]at f;rw[any_cons,any_cons,znk r f.1,zg9 t f.2]
theorem ze0(d:RelV x v)(e:zf2 x=Γ):∀{xs:List V}{us:List Θ},Vals xs us->xs.all zf2=Γ->∀u∈us,SeqAt.EqAt A s u v (eqU x u)
 |_,_,.nil,_=>λu c=>by cases c| y::xs,u::us,.cons r t,f=>λg c=>by rw[all_cons,Λ]at f;rcases mem_cons.mp c with rfl|c;rw[znk r f.1];exact zrO r d f.1 e;exact ze0 d e t f.2 g c
noncomputable def inV(x:V)(xs:List V):Bool:=xs.any λy=>eqV y x
def rIn(K:Frag)(neg:Bool):R2:=λx y H Q=>∃p c,y=.ref p/\(SqL K H p c\/SqT K H p c)/\zf2 x=Γ/\c.all zf2=Γ/\Q (.bl (if neg then !inV x c else inV x c)) H
theorem zfF:OpR X (compareOp .NotIn) (rIn X.K Γ):=by intro i s n H x y v u Q I j l h;obtain⟨p,o,rfl,d,k,e,q⟩:=h;cases l;rcases d with d|d;obtain⟨c,r,f,m⟩:=I.list d;refine SeqAt.notIn_listAt (eqU x) f.isList (λw g=>ze0 j k r e w (by simpa using g)) ⟨.bl _,H,I,rfl,?_⟩;rw[show c.toArray.any (eqU x)=c.any (eqU x) by simp,zg9 r e];exact q;obtain⟨c,r,f,m⟩:=I.tuple d;refine SeqAt.notIn_tupleAt (eqU x) f (λw g=>ze0 j k r e w (by simpa using g)) ⟨.bl _,H,I,rfl,?_⟩;rw[show c.toArray.any (eqU x)=c.any (eqU x) by simp,zg9 r e];exact q
theorem zbO:zba X (.builtin "len") (λxs H Q=>∃p ys,xs=[.ref p]/\(SqL X.K H p ys\/SqT X.K H p ys)/\Q (.int ys.length) H):=by intro i s l H xs m Q I r h;obtain⟨p,ys,rfl,d,q⟩:=h;obtain⟨u,rfl,j⟩:=znz r;cases j;have n:=zeh;rcases d with d|d;obtain⟨e,f,g,k⟩:=I.list d;have c:=f.length;exact Calls.call_len_list g.isList (by simp only[size_toArray]<;>cutsat) ⟨.int ys.length,H,I.tok _,⟨s.toks+1,by rw[size_toArray,c]⟩,q⟩;obtain⟨e,f,g,k⟩:=I.tuple d;have c:=f.length;exact len_tuple g (by simp only[size_toArray]<;>cutsat) ⟨.int ys.length,H,I.tok _,⟨s.toks+1,by rw[size_toArray,c]⟩,q⟩
theorem zgd:zba X (.type "list") (λxs H Q=>∃p ys,xs=[.ref p]/\(SqL X.K H p ys\/SqT X.K H p ys)/\∀l,H l=Ψ->Q (.ref l) (upd H l (.lst ys))):=by
 intro i s A H xs C Q I r h;obtain⟨p,ys,rfl,j,q⟩:=h;obtain⟨u,rfl,B⟩:=znz r;cases B;have fin:∀(c:List Θ),Vals ys c->ys.length<=sizeLine->∀(d:Heap)(f:Nat),(∀b z,s.heap.get? b=Φ z->d.get? b=Φ z)->
   d.get? s.heap.objs.size=Φ {cls:=.type "list",dict:=Ψ,data:=.seq c.toArray f,slots:=#[]}->EP X i A Q (.ref s.heap.objs.size) {s with heap:=d}:=λc g k d f m e=>
  ⟨.ref s.heap.objs.size,_,I.laid (t':=s.toks) m (le_refl _) (show ObjOk X.prog X.w _ d _ (.lst ys) from⟨k,c,f,g,e⟩),rfl,q _ (I.hok.fresh (le_refl _))⟩
 rcases j with j|j;obtain⟨c,g,v,k⟩:=I.list j;have t:=g.length;obtain⟨o,w,x,n,y⟩:=v.isList;exact call_list_seq p (.inl rfl) w x y (λd f m e=>fin c g k d f m e) (by simp only[size_toArray]<;>lia);obtain⟨c,g,v,k⟩:=I.tuple j;have t:=g.length;obtain⟨o,w,x,n,y⟩:=v;exact call_list_seq p (.inr rfl) w x y (λd f m e=>fin c g k d f m e) (by simp only[size_toArray]<;>lia)
def tyV(K:Frag)(T:String)(x:V)(H:Hp):Prop:=match x with
 |.str _=>T="str"|.int _=>T="int"
 |.ref p=>(T="list"/\∃d,SqL K H p d)\/(T="tuple"/\∃o,K.lookup p=Φ o/\o.cls=.type "tuple"/\o.dict=Ψ)\/
  (T="dict"/\((∃c,H p=Φ (.dK c))\/∃c,H p=Φ (.dT c)))\/(T="set"/\∃S n,H p=Φ (.set S n))
 |_=>False
theorem zmT(I:Inv X l σ H s)(r:RelV x v)(g:tyV X.K T x H):
  s.TypeIs v T/\∀a,v=.ref a->∃m,s.heap.get? a=Φ m/\m.dict=Ψ:=by
 cases x with
 |str z=>obtain⟨t,rfl⟩:=r;cases(show T="str" from g);exact⟨typeIs_str s z t,λ_ e=>by cases e⟩| int i=>obtain⟨t,rfl⟩:=r;cases(show T="int" from g);exact⟨typeIs_int s i t,λ_ e=>by cases e⟩| ref p=>
  cases r;rcases g with⟨rfl,A,u⟩|⟨rfl,o,d,w,h⟩|⟨rfl,d⟩|⟨rfl,S,n,d⟩;obtain⟨y,_,q,_⟩:=I.list u;refine⟨q.isList.typeIs,λa e=>?_⟩;cases e;obtain⟨o,n,e,c,h,_⟩:=q;exact⟨o,e,h⟩;refine⟨⟨o,I.kIn p o d,w⟩,λa e=>?_⟩;cases e;exact⟨o,I.kIn _ o d,h⟩;have z:∃o,s.heap.get? p=Φ o/\o.ExactDict:=by rcases d with⟨j,d⟩|⟨j,d⟩;obtain⟨_,_,_,_,o,_,_,e,f,_⟩:=I.hok p _ d;exact⟨o,e,f⟩;obtain⟨_,_,_,_,o,_,_,e,f,_⟩:=I.hok p _ d;exact⟨o,e,f⟩
  obtain⟨o,e,f⟩:=z;refine⟨⟨o,e,f.1⟩,λa k=>?_⟩;cases k;exact⟨o,e,f.2.1⟩;obtain⟨o,_,_,_,e,f,_⟩:=I.hok p _ d;refine⟨⟨o,e,f.1⟩,λa k=>?_⟩;cases k;exact⟨o,e,f.2.1⟩
 |_=>exact False.elim g
def tBM0(K:Frag)(T:String)(r:V->List V->Hp->VK->Prop)(d:TE):TE:=λe H Q=>d e H λx c=>tyV K T x c/\r x [] c Q
def tBM(K:Frag)(T:String)(r:V->List V->Hp->VK->Prop)(e:TE)(t:TA):TE:=λc H Q=>e c H λx d=>tyV K T x d/\t c d λf g=>r x f g Q
variable{o e:Expr}{es:List Expr}{to:TE}{t:TA}{name:Str}{apos cpos:Pos}{T id:String}{r:V->List V->Hp->VK->Prop}
theorem zq0(pa:PlainAttrs T)(slot:Slot T name id)(hty:typeOf (.builtin id)=pure (.type "method_descriptor"))(hm:MtR X id r)(ho:PE X o to)
  (hbase:attributeBase o name X.env (eval o X.env)=eval o X.env:=by rfl) (hline:(apos.endLine==cpos.line)=Γ:=by rfl):PE X (.Call (.Attribute o name apos) [] [] cpos) (tBM0 X.K T r to):=by
 intro pins s σ H Q I h;refine wpAny_Call_method0_late hbase hline (thn (ho pins s σ H _ I h) λv s1 z=>?_);obtain⟨x,H1,I1,r1,ty,q1⟩:=z;obtain⟨h1,h2⟩:=zmT I1 r1 ty;exact⟨T,id,pa,slot,hty,h1,h2,Calls.callWith_builtin rfl (PySem.evalArgs_none (hm pins s1 σ H1 x [] v [] Q I1 r1 .nil q1))⟩
theorem zoA(pa:PlainAttrs T)(slot:Slot T name id)(hty:typeOf (.builtin id)=pure (.type "method_descriptor"))(hm:MtR X id r)(ho:PE X o to)(ha:PA X (e::es) t)
  (hbase:attributeBase o name X.env (eval o X.env)=eval o X.env:=by rfl)
  (hfew:((backTo cpos (starEach (e::es) X.env)).all (λx=>!x.1)&&(backToKw cpos (keywordEach [] X.env)).all (λx=>x.1.isSome)
   && decide ((e::es).length+([]:List Keyword).length+(if([]:List Keyword).isEmpty then 0 else 1)<30))=Γ:=by rfl)
  (hline:(apos.endLine==cpos.line)=Γ:=by rfl) (hs:starEach (e::es) X.env=(Δ,eval e X.env)::starEach es X.env:=by rfl) (hplain:(backTo cpos (starEach es X.env)).any (·.1)=Δ:=by rfl) :
  PE X (.Call (.Attribute o name apos) (e::es) [] cpos) (tBM X.K T r to t):=by
 intro pins s σ H Q I h;refine wpAny_Call_method_late hbase hfew hline rfl (thn (ho pins s σ H _ I h) λv s1 z=>?_);obtain⟨x,H1,I1,r1,ty,q1⟩:=z;obtain⟨h1,h2⟩:=zmT I1 r1 ty;refine⟨T,id,pa,slot,hty,h1,h2,?_⟩;have hA:=ha cpos pins s1 σ H1 _ I1 q1;rw[hs]at hA⊢;refine Calls.callWith_builtin (by show(Δ||(backTo cpos (starEach es X.env)).any (·.1))=Δ;rw[hplain]<;>rfl) (Calls.evalArgs_plain ?_);exact thn hA λus s2 k=>(by obtain⟨vs,H2,I2,r2,q2⟩:=k;exact hm pins s2 σ H2 x vs v us Q I2 r1 r2 q2)
end
def MtM(X:Cx)(id:String)(r:V->List V->Hp->VK->Prop):Prop:=
 ∀(a:List (Addr×Obj))(s:Ζ)(b:St)(H:Hp)(x:V)(c:List V)(v:Θ)(d:List Θ)(Q:VK),Inv X a b H s->RelV x v->Vals c d->r x c H Q->
  wpAny (model X.prog X.w) X.A (call (.builtin id) (v::d)) (EP X a b Q) X.xe s
theorem Vals.one{x:V}{us:List Θ}(h:Vals [x] us):∃u,us=[u]/\RelV x u:=by cases h with|cons r t=>cases t;exact⟨_,rfl,r⟩
theorem Vals.zero:∀{us:List Θ},Vals [] us->us=[]
 |_,.nil=>rfl
theorem Vals.eraseIdx:∀{xs:List V}{us:List Θ}(i:Nat),Vals xs us->Vals (xs.eraseIdx i) (us.eraseIdx i)
 |_,_,_,.nil=>.nil|_,_,0,.cons _ t=>t|_,_,i+1,.cons r t=>.cons r (Vals.eraseIdx i t)
theorem zfQ{α:Type}:∀(l:List α)(i:Nat),(l.eraseIdx i).length<=l.length
 | [],_=>le_refl _|_::_,0=>le_succ _|_::r,i+1=>Nat.succ_le_succ (zfQ r i)
section
variable{X:Cx}{pins:List (Addr×Obj)}{σ:St}{H:Hp}{s:Ζ}{l b:Addr}{xs ys zs:List V}
theorem Inv.lset{its its':List Θ}(I:Inv X pins σ H s)(a:H l=Φ (.lst xs))(e:s.heap.get? l=Φ {cls:=.type "list",data:=.seq its.toArray n})(c:f its.toArray=its'.toArray)(d:Vals ys its')(hz:ys.length<=sizeLine):
  Inv X pins σ (upd H l (.lst ys)) {s with heap:=s.heap.update l (Obj.mapSeq f),toks:=t'}:=by
 have q:=PySem.IsL.update e f;rw[c]at q;refine I.write (by rw[a];exact trivial) (.inl rfl) (λi u g h=>(Heap.get?_update_other s.heap (Obj.mapSeq f) (Ne.symm g)).trans h) ⟨_,q⟩ ?_;exact⟨hz,its',_,d,q⟩
theorem Inv.lnew(I:Inv X pins σ H s)(a:Vals ys its)(hz:ys.length<=sizeLine):
  Inv X pins σ (upd H s.heap.objs.size (.lst ys)) {s with heap:=s.heap.push {cls:=.type "list",data:=.seq its.toArray},toks:=t'}:=
 I.laid (λ_ _ q=>Ω _ q) (le_refl _) ⟨hz,its,0,a,Μ _ rfl⟩
theorem Inv.fresh(I:Inv X pins σ H s):H s.heap.objs.size=Ψ:=I.hok.fresh (le_refl _)
theorem Inv.lstM(I:Inv X pins σ H s)(a:H l=Φ (.lst xs)):xs.length<=sizeLine/\∃(its:List Θ) (n:Nat),Vals xs its/\xs.length=its.length/\s.heap.get? l=Φ {cls:=.type "list",data:=.seq its.toArray n}:=by obtain⟨z,its,n,r,e⟩:=I.hok l _ a;exact⟨z,its,n,r,r.length,e⟩
theorem zl7(h:n<=sizeLine):Builtin.List.listTooLong n=Δ:=by exact decide_eq_false (by lia)
end
section
variable{X:Cx}
def zod:V->List V->Hp->VK->Prop:=λx b H Q=>∃l a y,x=.ref l/\b=[y]/\H l=Φ (.lst a)/\a.length<sizeLine/\Q .non (upd H l (.lst (a++[y])))
theorem zfI:MtM X "list.append" zod:=by intro b s i H x j v k Q I d f h;obtain⟨l,m,y,rfl,rfl,c,o,q⟩:=h;cases d;obtain⟨u,rfl,g⟩:=f.one;obtain⟨z,a,n,r,p,e⟩:=I.lstM c;refine call_meets F.slot_list_append ⟨_,e,rfl⟩ F.entry_list_append (F.args_list_append_2 _ _) (PySem.list_append l a.toArray n u (by rw[size_toArray];lia)) ⟨e,?_⟩;refine⟨.non,_,I.lset c e (by simp) (r.append (.cons g .nil)) ?_,rfl,q⟩;rw[length_append,List.length_singleton];lia
def zoc:V->List V->Hp->VK->Prop:=λx d H Q=>∃l b a c,x=.ref l/\d=[.ref b]/\H l=Φ (.lst a)/\H b=Φ (.lst c)/\a.length+c.length<=sizeLine/\Q .non (upd H l (.lst (a++c)))
theorem zfH:MtM X "list.extend" zoc:=by
 intro g s A H x B v C Q I j k h;obtain⟨l,b,E,G,rfl,rfl,i,m,J,q⟩:=h;cases j;obtain⟨u,rfl,o⟩:=k.one;cases o;obtain⟨z,c,n,r,L,e⟩:=I.lstM i;obtain⟨M,a,p,t,w,y⟩:=I.lstM m;have f:c.toArray.size+a.toArray.size<=sizeLine:=by rw[size_toArray,size_toArray];lia
 have d:¬(!c.toArray.isEmpty&&Builtin.List.listTooLong (c.toArray.size+a.toArray.size))=Γ:=by rw[zl7 f,Bool.and_false];exact Ε
 refine call_meets F.slot_list_extend ⟨_,e,rfl⟩ F.entry_list_extend (F.args_list_extend_2 _ _)
  (AutoSeq1.list_extend_list_list_0 l c.toArray n b a.toArray p d (by lia) (by lia)) ⟨e,y,?_⟩
 refine⟨.non,_,I.lset i e (by simp) (r.append t) ?_,rfl,q⟩;rw[length_append];lia
def zqA:V->List V->Hp->VK->Prop:=λx b H Q=>∃l a i k y,x=.ref l/\b=[.int i]/\H l=Φ (.lst a)/\-(2^63)<=i/\i<2^63/\seqIndex? i a.length=Φ k/\a[k]?=Φ y/\Q y (upd H l (.lst (a.eraseIdx k)))
theorem zl9:MtM X "list.pop" zqA:=by
 intro c s G H x J v L Q I f g h;obtain⟨l,j,i,k,y,rfl,rfl,d,m,o,p,A,q⟩:=h;cases f;obtain⟨u,rfl,B⟩:=g.one;obtain⟨t,rfl⟩:=B;obtain⟨z,a,n,r,C,e⟩:=I.lstM d;obtain⟨w,E,b⟩:=r.get A;refine call_meets F.slot_list_pop ⟨_,e,rfl⟩ F.entry_list_pop (F.args_list_pop_2 _ _)
  (MeetsSeq.list_pop_at l a.toArray n i t k w (fitsIndex_both m o) (by rw[size_toArray,<-C];exact p) (by rw[<-ϔ];exact E) (by rw[size_toArray];lia)) ⟨e,?_⟩
 refine⟨y,_,I.lset (its':=a.eraseIdx k) d e ?_ (r.eraseIdx k) ?_,b,q⟩;show a.toArray.eraseIdxIfInBounds k=(a.eraseIdx k).toArray;rw[List.eraseIdxIfInBounds_toArray];have:=zfQ j k;lia
def zqB:V->List V->Hp->VK->Prop:=λx a H Q=>∃l b,x=.ref l/\a=[]/\H l=Φ (.lst b)/\Q .non (upd H l (.lst []))
theorem zma:MtM X "list.clear" zqB:=by intro c s i H x j v k Q I f g h;obtain⟨l,m,rfl,rfl,d,q⟩:=h;cases f;have a:=g.zero;subst a;obtain⟨z,b,n,r,o,e⟩:=I.lstM d;refine call_meets F.slot_list_clear ⟨_,e,rfl⟩ F.entry_list_clear (F.args_list_clear_1 _) (AutoSeq1.list_clear_list_0 l b.toArray n (by rw[size_toArray];lia)) ⟨e,?_⟩;exact⟨.non,_,I.lset (its':=[]) (ys:=[]) d e rfl .nil (zero_le _),rfl,q⟩
def rCat:R2:=λx y H Q=>∃l b a c,x=.ref l/\y=.ref b/\H l=Φ (.lst a)/\H b=Φ (.lst c)/\a.length+c.length<=sizeLine/\∀p,H p=Ψ->Q (.ref p) (upd H p (.lst (a++c)))
theorem zrc:OpR X (binaryOp .Add) rCat:=by
 intro d s t H x y v u Q I f g h;obtain⟨l,b,w,A,rfl,rfl,i,j,B,q⟩:=h;cases f;cases g;obtain⟨z,c,n,r,C,e⟩:=I.lstM i;obtain⟨E,a,G,k,m,o⟩:=I.lstM j;refine PySem.P.add_list e o ?_ (by rw[size_toArray,size_toArray];lia);have p:c.toArray++a.toArray=(c++a).toArray:=by simp
 rw[p];exact⟨.ref _,_,I.lnew (r.append k) (by rw[length_append];lia),rfl,q _ I.fresh⟩
end
end L2
namespace Att
open PySem PySem.W PySem.Calls PyProof.Rows
theorem zdQ:∀(ns:List Int)(vs:List Θ),WellAll P h vs (ns.map WData.int)->IntsAre vs ns:=by intro ns;induction ns with| nil=>intro vs w;rw[map_nil]at w;cases w;exact .nil| cons n ns c=>intro vs w;rw[Ν]at w;cases w with| cons a b=>cases a;exact .cons _ _ (c _ b)
theorem zjn{l:OpenLaw}(o:l.most=Φ n)(b:l.row.toRowW.claim.pre args=Γ)(j:WellAll P h c args):
  ∃a vs ns,c=[Θ.ref a]/\args=[WData.list (ns.map WData.int)]/\h.get? a=Φ {cls:=.type "list",data:=.seq vs.toArray}/\IntsAre vs ns/\ns.length<=n:=by
 have k:WShape.hasAll [] args [.list .int]=Γ:=(pre_splitW b).1;have m:l.pre.holds [] {args:=args}=Γ:=(pre_splitW b).2;obtain⟨d,r,rfl,p,s⟩:=hasAllW_cons k;obtain rfl:=hasAllW_nil s;obtain⟨y,rfl,t⟩:=hasW_list p;obtain⟨ns,rfl⟩:=items_int t;have e:ns.length<=n:=by
  unfold OpenLaw.pre at m;have g:(WTm.not (.lt (.lit (.int (n:Int))) (.len (.arg 0)))).holds [] {args:=[.list (ns.map .int)]}=Γ:=by have g:=(holds_andW m).1;rw[o]at g;exact g
  have i:=condW_of g (w_not (w_lt w_lit (w_len_list (w_arg rfl))));rw[length_map]at i;refine Nat.le_of_not_lt λq=>?_;have u:(n:Int)<((ns.length:Nat):Int):=by omega
  first
   |(rw[decide_eq_true u]at i;exact absurd i (by decide))
   |(simp at i;omega)
 cases j with| cons v w=>cases w;cases v with|list x f=>exact⟨_,_,ns,rfl,rfl,x,zdQ ns _ f,e⟩
theorem zjK(l:OpenLaw)(args):l.row.toRowW.claim.post args (.bool Γ) args=Γ:=
 postW_of (r:=l.row.toRowW) (X:=(Γ==Γ))
  (show WShape.has [] (.bool Γ) .bool=Γ by first|rfl|decide|simp[WShape.has,WShape.arms,WShape.armsAll])
  (show(WTm.eq .res (.lit (.bool Γ))).value [] {args:=args,res:=Φ (.bool Γ),after:=args}=Φ (.bool (Γ==Γ)) from w_eq_bool (w_res rfl) w_lit) rfl
theorem attach_call{l:OpenLaw}(E:l.most=Φ n)(t:d.params.defaults=[])(call:∀(w:ύ)(s₀ b:Ζ)(m u:Str->Option Θ)(h:Addr)(o:Obj)(v p c:Θ)(a:Addr)(vs:List Θ)(ns:List Int),
   Ground q e [] H w s₀ m u b.heap->I w b.heap->
   b.heap.get? h=Φ o->o.data=.func (docDef d.name d.params d.body d.scope v p c)->b.heap.CodeRec p d.name->m d.name=Φ (.ref h)->
   b.heap.get? a=Φ {cls:=.type "list",data:=.seq vs.toArray}->IntsAre vs ns->ns.length<=n->b.gens = #[]->
   codeAny (model l.prog w) callerA (.call (.ref h) ⟨[.ref a],[]⟩) (λr s=>r=.ok (.ret (.bool Γ))/\OldK b.heap s.heap/\s.os=b.os/\AllBare s.gens) b):
  WalkO q e H I l.row.toRowW d [] (λf vs=>PySem.call f vs):=by
 intro w s₀ b m u G Y h o v p c J kV L M x A y N args B as i C O z Q;obtain rfl:J=.none:=Dflts.none A t;obtain rfl:kV=.none:=Dflts.noKw A;obtain⟨a,vs,ns,rfl,rfl,j,g,k⟩:=zjn E i z;refine enter_call (codeAny_mono (call w s₀ b m u h o v p c a vs ns G Y L (fd_plain M) x y j g k N) λr s T=>?_);obtain⟨rfl,U,h3,h4⟩:=T;exact⟨.inl ⟨.bool Γ,.bool Γ,[],rfl,λ_=>rfl,.bool Γ,zjK l _,λ_=>⟨Pairwise.nil,λ_ hm=>(by cases hm)⟩⟩,U,h3,h4⟩
end Att
namespace L2
open PySem PySem.Spec PyProof.Rows
theorem zds:∀{vs:List Θ}{ns:List Int},IntsAre vs ns->Vals (ns.map V.int) vs
 |_,_,.nil=>.nil|_,_,.cons n t h=>.cons ⟨t,rfl⟩ (zds h)
noncomputable def zan(s:Stmt):Arguments:=match s with|.FunctionDef _ a _ _ _ _ _ _ _ _=>a|_=>{posonlyargs:=[],args:=[],vararg:=Ψ,kwonlyargs:=[],kw_defaults:=[],kwarg:=Ψ,defaults:=[]}
noncomputable def zak(s:Stmt):List Stmt:=match s with|.FunctionDef _ _ b _ _ _ _ _ _ _=>b|_=>[]
noncomputable def zab(s:Stmt):Scope:=match s with|.FunctionDef _ _ _ _ _ _ a _ _ _=>a|_=>{kind:=.function,names:=[],isGenerator:=Δ,isCoroutine:=Δ}
abbrev CX0:CXT:=λ_ _ _ _ _ _=>False
abbrev E0:XK:=λ_ _ _=>False
theorem zgH:zd6 CX0 X E0:=λ_ _ _ _ _ _ _ h=>h.elim
structure Fun(K:Frag)(x qual:Str)(st:Stmt)(f:Addr)(fd:FuncData):Prop where
 ex:∃(oc:Θ) (od:Option Addr) (kV doc pm:Θ) (an:Option Addr) (cdv ct:Θ) (osl:Array (Option Θ)),
  fd=fnOf x qual (zan st) (zak st) (zab st) .none kV doc pm an cdv ct/\K.lookup f=Φ ⟨oc,od,.func fd,osl⟩/\codeIn K cdv qual=Γ
 kp:keepIn K (.ref f)=Γ
def Same(H H':Hp):Prop:=∀b o,H b=Φ o->H' b=Φ o
noncomputable def za3(a:List (Str×Addr))(y:Str×NameKind)(b:List (Str×Addr)):List (Str×Addr):=if(y.2==NameKind.free)=Γ then(match a.lookup y.1 with|some c=>(y.1,c)::b|none=>b) else b
noncomputable def zg2(b:List (Str×Addr))(names:List (Str×NameKind))(c:List (Str×Addr)):List (Str×Addr):=names.foldl (λa y=>za3 b y a) c
theorem zdT{α β:Type}(f)(g:α->β->β):∀(l:List α)(b:β),(∀x∈l,∀b,f x b=pure (.yield (g x b)))->forIn l b f=(pure (l.foldl (λb x=>g x b) b):Sem β)
 | [],b,_=>rfl| x::l,b,h=>by rw[List.forIn_cons,h x ϊ,pure_bind];exact zdT f g l _ λy hy=>h y (Τ _ hy)
theorem zby(h:∀y∈scope.names,y.2=.free->∃c,env.cells.lookup y.1=Φ c):
  closureFor scope env=pure (zg2 env.cells scope.names []):=by
 unfold closureFor zg2;dsimp only;rw[zdT _ (λy a=>za3 env.cells y a)];simp;intro y hy a;obtain⟨n,k⟩:=y;by_cases hk:k=.free;obtain⟨c,hc⟩:=h _ hy hk;subst hk;simp at hc;simp[cellOf,hc,za3];have:(k==NameKind.free)=Δ:=by simpa using hk
 simp[this,za3]
set_option tactic.hygienic true in
theorem zgc:∀(names:List (Str×NameKind))(b:List (Str×Addr)),(∀x c,b.lookup x=Φ c->a.lookup x=Φ c)->
  ∀x c,(zg2 a names b).lookup x=Φ c->a.lookup x=Φ c
 | [],b,h=>h| y::r,b,h=>by
  refine zgc r (za3 a y b) ?_;intro x c e;unfold za3 at e;split at e;split at e;rename_i g d;rw[ϗ]at e;cases f:x==y.1 with| true=>rw[f]at e;have q:x=y.1:=beq_iff_eq.mp f;have i:g=c:=Option.some.inj e;rw[q,<-i];exact d|false=>rw[f]at e;exact h x c e
  exact h x c e;exact h x c e
set_option tactic.hygienic true in
theorem zdZ:∀(names:List (Str×NameKind))(a:List (Str×Addr))(x:Str),(∀y∈names,y.2=.free->∃c,b.lookup y.1=Φ c)->
  ((∃c,a.lookup x=Φ c)\/(x,NameKind.free)∈names)->∃c,(zg2 b names a).lookup x=Φ c
 | [],a,x,_,h=>by rcases h with h|h;exact h;cases h
 |y::r,a,x,d,h=>by
  refine zdZ r (za3 b y a) x (λz f=>d z (Τ _ f)) ?_;rcases h with⟨c,h⟩|h;left;unfold za3;split;split;rename_i g i;rw[ϗ];cases j:x==y.1 with|true=>exact⟨g,rfl⟩|false=>exact⟨c,h⟩
  exact⟨c,h⟩;exact⟨c,h⟩;rcases mem_cons.mp h with h|h;left;subst h;obtain⟨c,e⟩:=d _ ϊ rfl;refine⟨c,?_⟩;simp at e;simp[za3,e];exact .inr h
noncomputable def zb8(env:Env)(y:Str×NameKind):Str×NameKind:=if(y.2==.free&&env.scope.kind==.function&&env.kindOf y.1==Φ .cell)=Γ then(y.1,.cell) else y
theorem zbs(scope)(env):(relabel scope env).names=scope.names.map (zb8 env):=by unfold relabel;show scope.names.map _=_;refine Ο λy _=>?_;obtain⟨n,k⟩:=y;rfl
theorem zdA(env)(y):(zb8 env y).1=y.1:=by unfold zb8;split<;>rfl
theorem zdz(env)(y):(zb8 env y).2=y.2\/(y.2=.free/\(zb8 env y).2=.cell):=by unfold zb8;split;rename_i h;simp only[Λ,beq_iff_eq]at h;exact .inr ⟨h.1.1,rfl⟩;exact .inl rfl
theorem zbD(env)(x):∀names:List (Str×NameKind),∀k,(names.map (zb8 env)).lookup x=Φ k->∃a,(x,a)∈names/\names.lookup x=Φ a/\(k=a\/(a=.free/\k=.cell))
 | [],k,h=>by simp at h| y::r,k,h=>by rw[Ν]at h;have c:=zdA env y;have d:=zdz env y;obtain⟨n,f⟩:=y;generalize j:zb8 env (n,f)=z at *;obtain⟨g,i⟩:=z;simp only at c d;subst c;rw[ϗ]at h;rw[ϗ];cases b:x==g with| true=>rw[b]at h;have q:x=g:=beq_iff_eq.mp b;subst q;have e:i=k:=Option.some.inj h;subst e;exact⟨f,ϊ,rfl,d⟩| false=>rw[b]at h;obtain⟨a,m,l,q⟩:=zbD env x r k h;exact⟨a,Τ _ m,l,q⟩
theorem zbt(env)(x):∀names:List (Str×NameKind),names.lookup x=Φ .free->(names.map (zb8 env)).lookup x=Φ .free\/(names.map (zb8 env)).lookup x=Φ .cell
 | [],h=>by simp at h| y::r,h=>by
  rw[Ν];have b:=zdA env y;have a:=zdz env y;obtain⟨n,d⟩:=y;generalize g:zb8 env (n,d)=z at *;obtain⟨f,i⟩:=z;simp only at b a;subst b;rw[ϗ]at h;rw[ϗ];cases c:x==f with
  |true=>rw[c]at h;have e:=Option.some.inj h;subst e;rcases a with a|⟨_,a⟩;left;rw[a];right;rw[a]
  |false=>rw[c]at h;exact zbt env x r h
structure CompOk(sc scope:Scope)(N0:List Str)(js:List Nat):Prop where
 kind:scope.kind=.function
 nocell:∀y∈scope.names,y.2≠.cell
 locs:∀y∈scope.names,y.2=.local->scope.names.lookup y.1=Φ .local
 frees:∀y∈scope.names,y.2=.free->sc.names.lookup y.1=Φ .cell\/sc.names.lookup y.1=Φ .free
 caps:∀j∈js,scope.names.lookup (N0.getD j "")=Φ .free/\j<N0.length
noncomputable abbrev zav(X:Cx)(a:List Str)(scope:Scope)(cl:List (Str×Addr))(C:Addr)(b:List Addr)(s:Ζ)(H:Hp)(pn:List (Addr×Obj)):Cx:={X with N:=a,s₀:=s,H₀:=H,env:=compEnvC scope cl C X.env,outer:=X.stack,stack:=X.stack,ex:=b,fn:=λ_=>Δ,pn:=pn,xe:=λ_ _=>False}
noncomputable def csl(a:Nat)(b:List Nat)(σ:St):St:=List.replicate a Ψ++b.map λj=>(σ[j]?).join
noncomputable abbrev capN(a:List Str)(tgs:List Str)(b:List Nat):List Str:=tgs++b.map λj=>a.getD j ""
def PTs(X:Cx)(ifs:List Expr)(t:TT):Prop:=
 ∀(pins:List (Addr×Obj))(s:Ζ)(σ:St)(H:Hp)(Q:Bool->Hp->Prop),Inv X pins σ H s->t σ H Q->
  wpAny (model X.prog X.w) X.A (forIn ifs Γ λc r=>if r=Γ then do let ok <-isTrue c X.env (eval c X.env);pure (ForInStep.yield ok) else pure (ForInStep.yield r)) (TP X pins σ Q) X.xe s
def tYes:TT:=λ_ H Q=>Q Γ H
theorem zoi:PTs X [] tYes:=λa s b H Q I h=>wpAny_tests_nil ⟨H,I,h⟩
theorem zjG(h:PT X c t):PTs X [c] t:=λa s b H Q I q=>wpAny_tests_one (h a s b H Q I q)
def znG(o:Nat)(q:List Nat)(r:TI)(g:TG)(tt:TT)(s:TE):TE:=λh H Q=>r h H λJ j=>∀p,j p=Ψ->
 ∃W:Nat->Nat->St->Hp->Prop,(∃m,W 0 m (csl o q h) (upd j p (.lst [])))/\∀i m d e,W i m d e->
  (J.stop i e/\Q (.ref p) e)\/(J.go i e/\∃N:St->Hp->Prop,(∀a f,N a f->∃k,k<m/\W (i+1) k a f)/\
   ∀x f,J.yld i e x f->g x d f λa t=>tt a t λb l=>if b=Γ then s a l λv n=>∃c,n p=Φ (.lst c)/\c.length<sizeLine/\N a (upd n p (.lst (c++[v]))) else N a l)
section
variable{prog:Υ}{w:ύ}{A:ϑ}{R:Result->Ζ->Prop}{s:Ζ}
theorem ziU(J:Nat->Ζ->Prop)(turn:∀n s,J n s->wpAny (model prog w) A (pyNext it) (λr s₁=>(r=Ψ/\R (.ok .next) s₁)\/∃v,r=Φ v/\
   wpAny (model prog w) A (letOwnedTupleGo tg it v) (λ_ s₀=>wpAny (model prog w) A (assign tg env v) (λ_ s₂=>
    wpAny (model prog w) A (forIn ifs Γ λc r=>if r=Γ then do let ok <-isTrue c env (eval c env);pure (ForInStep.yield ok) else pure (ForInStep.yield r)) (λok s₃=>
     if ok=Γ then wpAny (model prog w) A (eval elt env) (λx s₄=>wpAny (model prog w) A (call (.builtin "list.append") [acc,x]) (λ_ s₅=>∃m,m<n/\J m s₅) (λ_ _=>False) s₄) (λ_ _=>False) s₃
     else ∃m,m<n/\J m s₃) (λ_ _=>False) s₂) (λ_ _=>False) s₀) (λ_ _=>False) s₁) (λ_ _=>False) s)(n)(h:J n s):codeAny (model prog w) A (.compLoop (.ListComp elt [⟨tg,iter,ifs,0⟩] scope pos) 0 it acc env) R s:=by
 refine codeAny_loop rfl J (λn s hI=>?_) n h;show wpAny _ A ((compTurn (.ListComp elt [⟨tg,iter,ifs,0⟩] scope pos) 0 it acc env).onRaise (λx=>do noteFrame x env;theTreesLotGoes x)) _ _ s;refine wpAny_noted ?_;rw[compTurn_list];refine Ξ (wpAny_standAt (Ξ (ϕ (turn n s hI) (λr s₁ h₁=>?_) λ_ _ f=>f.elim)));rcases h₁ with⟨rfl,h₁⟩|⟨v,rfl,h₁⟩;exact Β h₁;refine Ξ (ϕ h₁ (λ_ s₀ h₀=>?_) λ_ _ f=>f.elim);refine Ξ (ϕ h₀ (λ_ s₂ h₂=>?_) λ_ _ f=>f.elim);refine Ξ (ϕ h₂ (λok s₃ h₃=>?_) λ_ _ f=>f.elim);cases ok with|false=>exact Β ⟨rfl,h₃⟩| true=>refine Ξ (Ξ (ϕ h₃ (λx s₄ h₄=>?_) λ_ _ f=>f.elim));exact Ξ (ϕ h₄ (λ_ s₅ h₅=>Β (Β ⟨rfl,h₅⟩)) λ_ _ f=>f.elim)
end
section
variable{X:Cx}{sc scope:Scope}{tgs:List Str}{js:List Nat}{elt tg iter:Expr}{ifs:List Expr}{pos:Pos}{wi:TI}{g:TG}{tt:TT}{te:TE}
theorem zei(hc:X.calm=Γ)(hsc:X.env.scope=sc)(ok:CompOk sc scope X.N js)(hg:∀cl C A s H pn,PG (zav X (capN X.N tgs js) scope cl C A s H pn) tg g)(ht:∀cl C A s H pn,PTs (zav X (capN X.N tgs js) scope cl C A s H pn) ifs tt)(he:∀cl C A s H pn,PE (zav X (capN X.N tgs js) scope cl C A s H pn) elt te){RR:Θ->Addr->Result->Ζ->Prop}{Q:VK}(I2:Inv X a σ H2 s2)(T:Turn X.prog X.w X.K tg J A it tn)(st2:tn 0 s2.heap)(f2:∀b∈A,FpOk X a H2 b)(rd:∀p,H2 p=Ψ->∃W:Nat->Nat->St->Hp->Prop,(∃m,W 0 m (csl tgs.length js σ) (upd H2 p (.lst [])))/\∀i m G H',W i m G H'->
   (J.stop i H'/\Q (.ref p) H')\/(J.go i H'/\∃N:St->Hp->Prop,(∀O H2,N O H2->∃m',m'<m/\W (i+1) m' O H2)/\
    ∀x H2,J.yld i H' x H2->g x G H2 λO U=>tt O U λb H4=>if b=Γ then te O H4 λv H5=>∃I,H5 p=Φ (.lst I)/\I.length<sizeLine/\N O (upd H5 p (.lst (I++[v]))) else N O H4))(fin:∀p C H' s',Inv X a σ H' s'->(∃m,s'.heap.Ns C m)->s2.heap.objs.size<C->H' C=Ψ->Q (.ref p) H'->RR (.ref p) C (.ok .next) s'):
  wpAny (model X.prog X.w) X.A (newList []) (λI s₃=>wpAny (model X.prog X.w) X.A (newFunctionEnv scope X.env.globals (zg2 X.env.cells scope.names []) [] X.env.qual Ψ .none (Φ X.env)) (λcenv s₄=>codeAny (model X.prog X.w) X.A (.compStart (.ListComp elt [⟨tg,iter,ifs,0⟩] scope pos) 0 (.ref it) I {cenv with scope:=relabel scope X.env}) (RR I cenv.locals) s₄) E s₃) E s2:=by
 subst hsc;refine wpAny_newObj_type (wpAny_newFunctionEnv ok.nocell (by intro y hy;simp at hy) (λB hns₁ hsb₁=>?_) ok.kind);have w:Inv X a σ (upd H2 s2.heap.objs.size (.lst [])) {s2 with heap:=s2.heap.push {cls:=.type "list",data:=.seq ([]:List Θ).toArray}}:=I2.lnew (its:=[]) (ys:=[]) (t':=s2.toks) .nil (zero_le _);obtain⟨W,⟨m0,w0⟩,turn⟩:=rd _ I2.fresh;generalize hp:s2.heap.objs.size=p at *;generalize hs3:({s2 with heap:=s2.heap.push {cls:=.type "list",data:=.seq ([]:List Θ).toArray}}:Ζ)=l at w;have e3:l.heap=s2.heap.push {cls:=.type "list",data:=.seq ([]:List Θ).toArray}:=by rw[<-hs3]
 have sz3:l.heap.objs.size=p+1:=by rw[e3,Heap.size_push,hp]
 generalize hH3:upd H2 p (.lst [])=U at *
 -- the block's frame
 have hns:B.Ns l.heap.objs.size (λx=>([]:List (Str×Θ)).reverse.lookup x):=by rw[e3];exact hns₁
 have hsb:Heap.SameBut l.heap.objs.size (l.heap.push {cls:=.type "dict",data:=.dict #[]}) B:=by rw[e3];exact hsb₁
 have Y:∀b o,l.heap.get? b=Φ o->B.get? b=Φ o:=λb o e=>(hsb.2 b (ne_of_lt (Ι e))).trans (Ω _ e);have frees:∀y∈scope.names,y.2=.free->∃c,X.env.cells.lookup y.1=Φ c:=λy hy hk=>I2.ok.has y.1 (ok.frees y hy hk);have t:∀x c,(zg2 X.env.cells scope.names []).lookup x=Φ c->X.env.cells.lookup x=Φ c:=zgc scope.names [] (λx c e=>by simp at e);generalize hcl:zg2 X.env.cells scope.names []=cl at *;have okX:(zav X (capN X.N tgs js) scope cl l.heap.objs.size A l U (X.pn++a)).Ok:=
  {mod:=w.ok.mod,kind:=ok.kind,glob:=w.ok.glob,blt:=w.ok.blt,above:=le_refl _,
   inj:=λx y c e1 M=>w.ok.inj x y c (t x c e1) (t y c M),
   has:=λx hk=>by
    have hk':(scope.names.map (zb8 X.env)).lookup x=Φ .cell\/(scope.names.map (zb8 X.env)).lookup x=Φ .free:=by rw[<-zbs];exact hk
    rw[<-hcl];refine zdZ scope.names [] x frees (.inr ?_);rcases hk' with q|q;obtain⟨k0,m,_,e⟩:=zbD X.env x _ _ q;rcases e with e|⟨e,_⟩;subst e;exact absurd rfl (ok.nocell _ m);subst e;exact m;obtain⟨k0,m,_,e⟩:=zbD X.env x _ _ q;rcases e with e|⟨e,z⟩;subst e;exact m;exact absurd z (λh=>(by cases h)),
   cab:=λx c e=>absurd e Ε,hd:=w.ok.hd,frames:=w.ok.frames,stk:=.inl rfl,
   exf:=λb f=>⟨ne_of_lt (by
    obtain⟨o,ho,_⟩:=T.obj 0 _ st2 b f;show b<l.heap.objs.size;rw[sz3,<-hp];exact Nat.lt_succ_of_lt (Ι ho)),λx c e=>(f2 b f).2.2.2.2.1 x c (t x c e)⟩,
   bs:=w.bs,bsz:=le_trans w.ok.bsz w.sz,
   noex:=λb o e f=>by rcases(f2 b f).2.2.2.1 with z|z;exact w.ok.noex b o e z;exact absurd (lt_of_lt_of_le (Ι e) (le_trans w.ok.bsz z)) (lt_irrefl _),
   exfs:=λb f hx=>by rcases mem_cons.mp (w.stkSub b hx) with z|z;exact(f2 b f).2.1 z;exact(f2 b f).2.2.1 z,
   funs:=w.stack,frf:=w.stkFree}
 have I4:Inv (zav X (capN X.N tgs js) scope cl l.heap.objs.size A l U (X.pn++a)) [] (csl tgs.length js σ) U {l with heap:=B}:=
  {ok:=okX,os:=rfl,bare:=w.bare,base:=Un.kept Y,
   loc:=⟨_,hns,λi x v e1 M e3=>by
    have e1:(tgs++js.map λj=>X.N.getD j "")[i]?=Φ x:=e1;have M:(List.replicate tgs.length Ψ++js.map λj=>(σ[j]?).join)[i]?=Φ (Φ v):=M;by_cases hi:i<tgs.length;rw[getElem?_append_left (by rw[length_replicate];exact hi),List.getElem?_replicate,if_pos hi]at M;cases M;rw[getElem?_append_right (by lia),getElem?_map]at e1;rw[getElem?_append_right (by rw[length_replicate];lia),length_replicate,getElem?_map]at M;cases hj:js[i-tgs.length]? with
    |none=>rw[hj]at e1;exact nS e1
    |some j=>
     rw[hj]at e1 M;have e1:X.N.getD j ""=x:=Option.some.inj e1;have M:(σ[j]?).join=Φ v:=Option.some.inj M;have hjm:j∈js:=mem_of_getElem? hj;obtain⟨hfr,hjl⟩:=ok.caps j hjm;rw[e1]at hfr;have hNj:X.N[j]?=Φ x:=by rw[getElem?_eq_getElem hjl];rw[ό,getElem?_eq_getElem hjl]at e1;exact congrArg Φ e1
     have hσ:σ[j]?=Φ (Φ v):=by
      cases q:σ[j]? with
      |none=>rw[q]at M;exact nS M
      |some o=>rw[q]at M;have M:o=Φ v:=M;rw[M]
     have hmem:(x,NameKind.free)∈scope.names:=by obtain⟨l1,l2,h3,_⟩:=List.lookup_eq_some_iff.mp hfr;rw[h3];simp
     have hkX:=ok.frees _ hmem rfl;have hvis:Vis X.env.scope x:=hkX.elim (λz=>.inr (.inl z)) λz=>.inr (.inr z);obtain⟨m,hn,hl⟩:=w.loc;obtain⟨u,r,lk⟩:=hl j x v hNj hσ hvis;refine⟨u,r,.inr ⟨?_,?_⟩⟩;have q:=zbt X.env x scope.names hfr;rw[<-zbs]at q;exact q.symm;rcases lk with⟨k,_⟩|⟨_,c,ec,z⟩
     . exfalso;have k:X.env.scope.names.lookup x=Φ .local:=k;rcases hkX with q|q<;>(rw[k]at q;cases q)
     obtain⟨c',hc'⟩:∃c',cl.lookup x=Φ c':=by rw[<-hcl];exact zdZ scope.names [] x frees (.inr hmem)
     have q:=t x c' hc';rw[ec]at q;cases q;obtain⟨o,ho,hd⟩:=z;exact⟨c,hc',o,Y _ _ ho,hd⟩⟩,
   cell:=λx c e=>by obtain⟨v,o,ho,hd⟩:=w.cell x c (t x c e);exact⟨v,o,Y _ _ ho,hd⟩,
   free:=w.fresh,
   freeC:=λx c e=>w.freeC x c (t x c e),
   pin:=λq hq=>by
    have hq:q∈X.pn++a:=by simpa using hq
    obtain⟨e,n,ne,nf,d⟩:=w.pin q hq;refine⟨Y _ _ e,n,ne_of_lt (Ι e),λz=>?_,d⟩;rcases mem_cons.mp (w.stkSub _ z) with z|z;exact ne z;exact nf z,
   hok:=w.hok.kept Y,
   len:=by show(List.replicate tgs.length Ψ++js.map λj=>(σ[j]?).join).length=(tgs++js.map λj=>X.N.getD j "").length;simp}
 have stat:∀{H':Hp},(∀b∈A,H' b=Ψ)->∀b∈A,FpOk (zav X (capN X.N tgs js) scope cl l.heap.objs.size A l U (X.pn++a)) [] H' b:=λhn b f=>
  ⟨hn b f,(okX.exf b f).1,okX.exfs b f,.inl f,(okX.exf b f).2,λq hq=>by
   have hq:q∈X.pn++a:=by simpa using hq
   exact(f2 b f).2.2.2.2.2 q hq⟩
 have fr3:∀b∈A,U b=Ψ:=λb f=>by obtain⟨o,ho,_⟩:=T.obj 0 _ st2 b f;rw[<-hH3,zai (ne_of_lt (hp▸Ι ho))];exact(f2 b f).1
 have st4:tn 0 B:=T.keep 0 _ _ st2 λb f o e=>Y b o (by rw[e3];exact Ω _ e);have loop:codeAny (model X.prog X.w) X.A (.compLoop (.ListComp elt [⟨tg,iter,ifs,0⟩] scope pos) 0 (.ref it) (.ref p) (compEnvC scope cl l.heap.objs.size X.env)) (RR (.ref p) l.heap.objs.size) {l with heap:=B}:=by
  refine ziU (λn s'=>∃i G H',Inv (zav X (capN X.N tgs js) scope cl l.heap.objs.size A l U (X.pn++a)) [] G H' s'/\tn i s'.heap/\(∀b∈A,H' b=Ψ)/\W i n G H') ?_ m0 ⟨0,_,U,I4,st4,fr3,w0⟩;rintro n s4 ⟨i,σ4,H4,J4,st4,fr4,w4⟩;rcases turn i n σ4 H4 w4 with⟨stop,qn⟩|⟨go,N,hN,step⟩;refine thn (T.done (zav X (capN X.N tgs js) scope cl l.heap.objs.size A l U (X.pn++a)) rfl rfl rfl hc i [] s4 σ4 H4 _ J4 (stat fr4) st4 stop) λr s5 ⟨hr,J5⟩=>.inl ⟨hr,?_⟩;have hX:Inv X a σ H4 s5:=w.call' J5.os J5.base J5.hok J5.bare λb f=>⟨(f2 b f).2.2.2.1,(f2 b f).2.1,(f2 b f).2.2.2.2.1,(f2 b f).2.2.2.2.2⟩;obtain⟨m,hm,_⟩:=J5.loc;exact fin p _ H4 s5 hX ⟨m,hm⟩ (by rw[sz3];exact Nat.lt_succ_self _) J5.free qn
  refine thn (T.item (zav X (capN X.N tgs js) scope cl l.heap.objs.size A l U (X.pn++a)) rfl rfl rfl hc i [] s4 σ4 H4 _ J4 (stat fr4) st4 go) λr s5 ⟨u,hr,h5⟩=>.inr ⟨u,hr,?_⟩;refine thn h5 λ_ s6 q'=>?_;obtain⟨x,H6,J6,r6,y6,st6,fr6⟩:=q';have J6':=J6.pinned (stat fr6) (T.obj _ _ st6);refine thn (hg _ _ _ _ _ _ _ s6 σ4 H6 x u _ J6' r6 (step x H6 y6)) λ_ s7 q'=>?_;obtain⟨L,H7,J7,q7⟩:=q';refine thn (ht _ _ _ _ _ _ _ s7 L H7 _ J7 q7) λok8 s8 q'=>?_;obtain⟨H8,J8,q8⟩:=q';have again:∀{s9:Ζ}{H9:Hp},Inv (zav X (capN X.N tgs js) scope cl l.heap.objs.size A l U (X.pn++a)) ([]++zfD A s6.heap) L H9 s9->N L H9->
    ∃m,m<n/\∃i G H',Inv (zav X (capN X.N tgs js) scope cl l.heap.objs.size A l U (X.pn++a)) [] G H' s9/\tn i s9.heap/\(∀b∈A,H' b=Ψ)/\W i m G H':=λ{s9 H9} J9 n9=>by
   obtain⟨m',hm,w9⟩:=hN L H9 n9;refine⟨m',hm,i+1,L,H9,J9.unpinned,T.keep _ _ _ st6 λb f o e=>(J9.pin (b,o) (mem_append_right _ (mem_append_right _ (zb2 f e)))).1,λb f=>?_,w9⟩;obtain⟨o,e,d⟩:=T.obj _ _ st6 b f;exact(J9.pin (b,o) (mem_append_right _ (mem_append_right _ (zb2 f e)))).2.1
  cases ok8 with|false=>exact again J8 q8| true=>refine thn (he _ _ _ _ _ _ _ s8 L H8 _ J8 q8) λy s9 q'=>?_;obtain⟨v,H9,J9,r9,I,ha,hl,q9⟩:=q';refine thn (zfI _ s9 L H9 (.ref p) [v] (.ref p) [y] (λ_ H=>N L H) J9 rfl (.cons r9 .nil) ⟨p,I,v,rfl,rfl,ha,hl,q9⟩) λ_ s10 q'=>?_;obtain⟨_,H10,J10,_,q10⟩:=q';exact again J10 q10
 exact codeAny_compStart_list loop (T.self _ 0 _ _ _ st4 loop)
theorem zlV(sc)(tgs)(js)(hc:X.calm=Γ)(hsc:X.env.scope=sc)(ok:CompOk sc scope X.N js)(hi:PI X tg iter wi)(hg:∀cl C fp s H pn,PG (zav X (capN X.N tgs js) scope cl C fp s H pn) tg g)(ht:∀cl C fp s H pn,PTs (zav X (capN X.N tgs js) scope cl C fp s H pn) ifs tt)(he:∀cl C fp s H pn,PE (zav X (capN X.N tgs js) scope cl C fp s H pn) elt te)(hs:∀x,foldedSetIterable iter X.env x=pure x:=by intro _;rfl):
  PE X (.ListComp elt [⟨tg,iter,ifs,0⟩] scope pos) (znG tgs.length js wi g tt te):=by
 intro pins s σ H Q I h;rw[eval_ListComp];have frees:∀y∈scope.names,y.2=.free->∃c,X.env.cells.lookup y.1=Φ c:=λy hy hk=>I.ok.has y.1 (by
  have q:=ok.frees y hy hk;rw[<-hsc]at q;exact q)
 refine wpAny_comprehension_free (use:=Ψ) rfl hs (zby frees) ok.kind ok.locs (thn (hi pins s σ H _ I h) λv s1 h1=>thn h1 λitv s2 h2=>?_);obtain⟨it,fp,tn,J,H2,e,I2,T,st2,f2,rd⟩:=h2;subst e;refine zei hc hsc ok hg ht he I2 T st2 f2 rd (Q:=Q) λp C H' s' I' hm hC hn q=>?_;obtain⟨m,hm⟩:=hm;refine⟨m,hm,λh' hs'=>⟨.ref p,H',?_,rfl,q⟩⟩;exact I'.turned (t':=s'.toks) (it:=C) (λb o hb e=>(hs'.2 b hb).trans e) hn (ne_of_gt (lt_trans I2.lt hC)) (.inr (le_trans I2.sz (le_of_lt hC))) (λx c e=>by obtain⟨v,o,ho,_⟩:=I2.cell x c e;exact ne_of_lt (lt_trans (Ι ho) hC)) λq hq=>ne_of_lt (lt_trans (Ι (I2.pin q hq).1) hC)
theorem zok(sc)(tgs)(js)(hN:X.N.Nodup)(hi':X.N[i]?=Φ y)(hy:Loc X.env.scope y)(hc:X.calm=Γ)(hsc:X.env.scope=sc)(ok:CompOk sc scope X.N js)(hi:PI X tg iter wi)(hg:∀cl C fp s H pn,PG (zav X (capN X.N tgs js) scope cl C fp s H pn) tg g)(ht:∀cl C fp s H pn,PTs (zav X (capN X.N tgs js) scope cl C fp s H pn) ifs tt)(he:∀cl C fp s H pn,PE (zav X (capN X.N tgs js) scope cl C fp s H pn) elt te)(hsw:swapsWith (.ListComp elt [⟨tg,iter,ifs,0⟩] scope pos) (Φ (.Name y py)) spos.line X.env=pure Γ:=by rfl)(hs:∀x,foldedSetIterable iter X.env x=pure x:=by intro _;rfl)(hf:X.fn y=Γ\/X.env.scope.names.lookup y=Φ .local:=by first|exact .inl rfl|exact .inr rfl|assumption):
  PS X (.Assign [.Name y py] (.ListComp elt [⟨tg,iter,ifs,0⟩] scope pos) spos) (tAsg (znG tgs.length js wi g tt te) (zkB i)):=by
 intro pins s σ H D I h;have frees:∀y∈scope.names,y.2=.free->∃c,X.env.cells.lookup y.1=Φ c:=λy hy hk=>I.ok.has y.1 (by
  have q:=ok.frees y hy hk;rw[<-hsc]at q;exact q)
 rw[exec_Assign_Name_used _ _ _ _ hsw];refine Ξ (wpAny_standAt (Ξ ?_));show wpAny _ X.A (do let _ <-comprehension (.ListComp elt [⟨tg,iter,ifs,0⟩] scope pos) scope X.env _ (newList []) Δ (eval iter X.env) (Φ (assign (.Name y py) X.env))) _ _ s;refine Ξ (ϕ (wpAny_comprehension_free (use:=Φ (assign (.Name y py) X.env)) (Q:=λ_ s'=>SP X pins D .next s') rfl hs (zby frees) ok.kind ok.locs
  (thn (hi pins s σ H _ I h) λv s1 h1=>thn h1 λitv s2 h2=>?_)) (λ_ s' hq=>Β (Β hq)) λ_ _ e=>e)
 obtain⟨it,fp,tn,J,H2,e,I2,T,st2,f2,rd⟩:=h2;subst e;refine zei hc hsc ok hg ht he I2 T st2 f2 rd (Q:=λx H1=>zkB i x σ H1 D.nx) λp C H' s' I' hm hC hn q=>?_;obtain⟨m,hm⟩:=hm;have hL:C≠X.env.locals:=ne_of_gt (lt_trans I2.lt hC);have hCc:∀x c,X.env.cells.lookup x=Φ c->c≠C:=λx c e=>by obtain⟨v,o,ho,_⟩:=I2.cell x c e;exact ne_of_lt (lt_trans (Ι ho) hC)
 show wpAny _ X.A (assign (.Name y py) X.env (.ref p)) _ _ _;refine wpAny_assign_Name (zfo I' hN hi' hy (v:=.ref p) rfl (λs'' I'' hch=>?_) hf);obtain⟨a,hsb,ha⟩:=hch;have hCa:C≠a:=by rcases ha with z|z;rw[z];exact hL;exact λe=>hCc y a z e.symm
 refine⟨m,hm.sameBut hsb hCa,λh' hs'=>⟨σ.set i (Φ (.ref p)),H',?_,q⟩⟩;exact I''.turned (t':=s''.toks) (it:=C) (λb o hb e=>(hs'.2 b hb).trans e) hn hL (.inr (le_trans I2.sz (le_of_lt hC))) hCc λq hq=>ne_of_lt (lt_trans (Ι (I2.pin q hq).1) hC)
end
structure FunV(K:Frag)(x qual:Str)(st:Stmt)(dV:Θ)(f:Addr)(fd:FuncData):Prop where
 ex:∃(oc:Θ) (od:Option Addr) (kV doc pm:Θ) (an:Option Addr) (cdv ct:Θ) (osl:Array (Option Θ)),
  fd=fnOf x qual (zan st) (zak st) (zab st) dV kV doc pm an cdv ct/\K.lookup f=Φ ⟨oc,od,.func fd,osl⟩/\codeIn K cdv qual=Γ
 kp:keepIn K (.ref f)=Γ
theorem zcP{K}{st}{e kV d g b ct}(l:K.lookup f=Φ ⟨j,m,.func (fnOf x a (zan st) (zak st) (zab st) e kV d g i b ct),h⟩)(c:codeIn K b a=Γ)(k:keepIn K (.ref f)=Γ):FunV K x a st e f (fnOf x a (zan st) (zak st) (zab st) e kV d g i b ct):=⟨⟨j,m,kV,d,g,i,b,ct,h,rfl,l,c⟩,k⟩
section
variable{P:Υ}{w:ύ}{K:Frag}{mg:Str->Option Θ}{base:Heap}
theorem FunV.ok{st}(F:FunV K x b st m f g)(S:FnScope N ps (zab st))(len:∀vs H Q E,sp vs H Q E->vs.length=ps.length)(c:∀(a:Θ)(A:ϑ)(outer:List Env)(s:Ζ)(H:Hp)(vs:List V)(Q:VK)(E:XK),Room k (A.deeper (envOfC b (zab st) s.heap.objs.size f a))->sp vs H Q E->
   ∃t,PSs (cxOf CX0 P w K mg base N b (zab st) f a A outer s H E).nox (zak st) t/\t {nx:=λ_ H'=>Q .non H',rt:=Q} (start N vs) H):FnOk P w K mg base CX0 (k+1) f g ps sp:=by
 obtain⟨n,o,kV,i,p,r,a,u,j,rfl,lk,d⟩:=F.ex;refine zo6 lk d S len λA outer s H vs Q E l e=>?_;obtain⟨t,h,q⟩:=c a A outer s H vs Q E l e;exact⟨t,h.nox,q⟩
theorem FunV.binds{st}(F:FunV K x c st g f fd)(h:∀(kV a d:Θ)(e:Option Addr)(b ct:Θ)(us:List Θ),us.length=ps.length->bindArgs (fnOf x c (zan st) (zak st) (zab st) g kV a d e b ct) ⟨us,[]⟩=pure (ps.zip us)):Binds K fd ps []:=by
 obtain⟨k,l,kV,a,d,e,b,ct,i,rfl,lk,j⟩:=F.ex;exact .all (h kV a d e b ct)
structure Has(P:Υ)(w:ύ)(K:Frag)(mg:Str->Option Θ)(base:Heap)(k:Nat)(x:Str)(ps:List Str)(dvs:List V)(sp:Sp):Prop where
 ex:∃(f:Addr) (fd:FuncData) (ds:List Θ),FnOk P w K mg base CX0 k f fd ps sp/\mg x=Φ (.ref f)/\keepIn K (.ref f)=Γ/\Binds K fd ps ds/\Vals dvs ds
end
theorem zqY(G:Has X.prog X.w X.K X.mg X.base k x ps a sp)(d:Room k X.A)(g:PA X (e::es) t)(h:Gl X x:=by rfl)(b:(x==("__debug__":Str))=Δ:=by decide)(i:starEach (e::es) X.env=(Δ,eval e X.env)::starEach es X.env:=by rfl)(c:(backTo pos (starEach es X.env)).any (·.1)=Δ:=by rfl):
  PE X (.Call (.Name x p) (e::es) [] pos) (zeE sp a E0 t):=by
 obtain⟨f,o,q,F,j,l,m,n⟩:=G.ex;exact zoz F d h j l m n zgH g b i c
theorem zqX(G:Has X.prog X.w X.K X.mg X.base k x ps a sp)(c:Room k X.A)(d:Gl X x:=by rfl)(b:(x==("__debug__":Str))=Δ:=by decide):PE X (.Call (.Name x p) [] [] pos) (zeE sp a E0 tNil):=by
 obtain⟨f,j,l,F,e,g,h,i⟩:=G.ex;exact zl5 F c d e g h i zgH b
mutual
def Rep(H:Hp):PyData->V->Prop
 |.none,v=>v=.non|.bool b,v=>v=.bl b|.int i,v=>v=.int i|.str x,v=>v=.str x|.list ds,v=>∃a vs,v=.ref a/\H a=Φ (.lst vs)/\RepAll H ds vs|.tuple ds,v=>∃a vs,v=.ref a/\H a=Φ (.tup vs)/\RepAll H ds vs|.dict _,_=>False
def RepAll(H:Hp):List PyData->List V->Prop
 | [],vs=>vs=[]|d::ds,vs=>∃v r,vs=v::r/\Rep H d v/\RepAll H ds r
end
mutual
noncomputable def imm:PyData->Bool
 |.none=>Γ|.bool _=>Γ|.int _=>Γ|.str _=>Γ|.list _=>Δ|.tuple ds=>zfX ds|.dict _=>Δ
noncomputable def zfX:List PyData->Bool
 | []=>Γ|d::ds=>imm d&&zfX ds
end
def Tups(H H':Hp):Prop:=∀b a,H b=Φ (.tup a)->H' b=Φ (.tup a)
theorem Tups.refl(H):Tups H H:=λ_ _ h=>h
theorem Tups.trans(a:Tups H e)(b:Tups e f):Tups H f:=λc d h=>b c d (a c d h)
theorem Tups.upd{H:Hp}{p:Addr}{o:HO}(h:∀xs,H p≠Φ (.tup xs)):Tups H (upd H p o):=λb xs e=>by
 have hb:b≠p:=λz=>by subst z;exact h xs e
 rw[zai hb];exact e
theorem Tups.upd_lst(h:H p=Φ (.lst xs)):Tups H (L2.upd H p o):=Tups.upd λa e=>by rw[h]at e;cases e
theorem Tups.upd_new(h:H p=Ψ):Tups H (L2.upd H p o):=Tups.upd λa e=>by rw[h]at e;exact nS e
mutual
theorem Rep.same{H H':Hp}(hs:Same H H'):∀{d:PyData}{v:V},Rep H d v->Rep H' d v
 |.none,_,h=>h|.bool _,_,h=>h|.int _,_,h=>h|.str _,_,h=>h| .list ds,v,h=>by obtain⟨a,vs,e,ha,r⟩:=h;exact⟨a,vs,e,hs _ _ ha,RepAll.same hs r⟩| .tuple ds,v,h=>by obtain⟨a,vs,e,ha,r⟩:=h;exact⟨a,vs,e,hs _ _ ha,RepAll.same hs r⟩|.dict _,_,h=>h
theorem RepAll.same{H H':Hp}(hs:Same H H'):∀{ds:List PyData}{vs:List V},RepAll H ds vs->RepAll H' ds vs
 | [],_,h=>h| d::ds,vs,h=>by obtain⟨v,r,e,h1,h2⟩:=h;exact⟨v,r,e,Rep.same hs h1,RepAll.same hs h2⟩
end
mutual
theorem Rep.tups{H H':Hp}(hs:Tups H H'):∀{d:PyData}{v:V},imm d=Γ->Rep H d v->Rep H' d v
 |.none,_,_,h=>h|.bool _,_,_,h=>h|.int _,_,_,h=>h|.str _,_,_,h=>h|.list ds,v,i,h=>by simp[imm]at i| .tuple ds,v,i,h=>by obtain⟨a,vs,e,ha,r⟩:=h;exact⟨a,vs,e,hs _ _ ha,RepAll.tups hs (by simpa[imm]using i) r⟩|.dict _,_,_,h=>h
theorem RepAll.tups{H H':Hp}(hs:Tups H H'):∀{ds:List PyData}{vs:List V},zfX ds=Γ->RepAll H ds vs->RepAll H' ds vs
 | [],_,_,h=>h| d::ds,vs,i,h=>by
  obtain⟨v,r,e,h1,h2⟩:=h;have i':imm d=Γ/\zfX ds=Γ:=by simpa[zfX]using i
  exact⟨v,r,e,Rep.tups hs i'.1 h1,RepAll.tups hs i'.2 h2⟩
end
mutual
theorem Rep.reads{X:Cx}{pins:List (Addr×Obj)}{σ:St}{H:Hp}{s:Ζ}(I:Inv X pins σ H s):∀(d:PyData)(v:V)(u:Θ),Rep H d v->RelV v u->∃as,Reads s.heap u d as
 |.none,v,u,h,r=>by cases(show v=.non from h);cases(show u=Θ.none from r);exact⟨_,.none⟩| .bool b,v,u,h,r=>by cases(show v=.bl b from h);cases(show u=Θ.bool b from r);exact⟨_,.bool b⟩| .int i,v,u,h,r=>by cases(show v=.int i from h);obtain⟨t,rfl⟩:=(show ∃t,u=Θ.int i t from r);exact⟨_,.int i t⟩| .str x,v,u,h,r=>by cases(show v=.str x from h);obtain⟨t,rfl⟩:=(show ∃t,u=Θ.str x t from r);exact⟨_,.str x t⟩| .list ds,v,u,h,r=>by obtain⟨a,vs,rfl,ha,hr⟩:=h;cases(show u=Θ.ref a from r);obtain⟨its,n,rv,e,_⟩:=I.lst ha;obtain⟨as,q⟩:=RepAll.reads I ds vs its hr rv;exact⟨_,.list e rfl rfl q⟩| .tuple ds,v,u,h,r=>by obtain⟨a,vs,rfl,ha,hr⟩:=h;cases(show u=Θ.ref a from r);obtain⟨its,rv,⟨o,e1,e2,n,e3⟩,_⟩:=I.tuple (SqT.of (K:=X.K) ha);obtain⟨as,q⟩:=RepAll.reads I ds vs its hr rv;exact⟨_,.tuple e1 e2 e3 q⟩|.dict _,_,_,h,_=>False.elim h
theorem RepAll.reads{X:Cx}{pins:List (Addr×Obj)}{σ:St}{H:Hp}{s:Ζ}(I:Inv X pins σ H s):∀(ds:List PyData)(vs:List V)(us:List Θ),RepAll H ds vs->Vals vs us->∃as,ReadsAll s.heap us ds as
 | [],vs,us,h,r=>by cases(show vs=[] from h);cases r;exact⟨_,.nil⟩| d::ds,vs,us,h,r=>by obtain⟨v,vr,rfl,h1,h2⟩:=h;cases r with| cons r1 r2=>obtain⟨as,q1⟩:=Rep.reads I d v _ h1 r1;obtain⟨bs,q2⟩:=RepAll.reads I ds vr _ h2 r2;exact⟨_,.cons q1 q2⟩
end
theorem eqv_int(i j):PyData.eqv (.int i) (.int j)=(i==j):=by simp[PyData.eqv]
section
variable{X:Cx}
def rEqD(g:Bool->Bool):R2:=λx y H Q=>∃a b,Rep H a x/\Rep H b y/\a.canLay0=Γ/\b.canLay0=Γ/\min a.depth b.depth<=60/\Q (.bl (g (PyData.eqv a b))) H
theorem zrb(m:X.A.units+64<cLine):OpR X (compareOp .Eq) (rEqD id):=by intro a s n H x y v u Q I b c h;obtain⟨d,e,f,g,i,j,o,q⟩:=h;obtain⟨p,k⟩:=Rep.reads I d x v f b;obtain⟨r,l⟩:=Rep.reads I e y u g c;exact SeqAt.compareEq_reads k l i j (by lia) (zap I q rfl)
theorem zq7(hu:X.A.units+64<cLine):OpR X (compareOp .NotEq) (rEqD not):=by intro pins s σ H x y v u Q I rx ry h;obtain⟨da,db,h1,h2,l1,l2,hd,q⟩:=h;obtain⟨as,r1⟩:=Rep.reads I da x v h1 rx;obtain⟨bs,r2⟩:=Rep.reads I db y u h2 ry;exact SeqAt.compareNe_reads r1 r2 l1 l2 (by lia) (zap I q rfl)
theorem zra:OpR X (compareOp .Is) (λx y H Q=>∃a b,x=.bl a/\y=.bl b/\Q (.bl (a==b)) H):=by intro c s f H x y v u Q I d e h;obtain⟨a,b,rfl,rfl,q⟩:=h;cases d;cases e;refine wpAny_is_plain (by cases a<;>cases b<;>rfl) (zap I q ?_);cases a<;>cases b<;>rfl
noncomputable def zcV(H:Hp):V->Option String
 |.non=>Φ "NoneType"|.bl _=>Φ "bool"|.int _=>Φ "int"|.str _=>Φ "str"
 |.ref a=>match H a with
  |some (.lst _)=>Φ "list"|some (.frz _ (.lst _))=>Φ "list"|some (.tup _)=>Φ "tuple"|some (.dK _)=>Φ "dict"|some (.dT _)=>Φ "dict"|_=>Ψ
 |_=>Ψ
theorem zje{K}(h:zcV H x=Φ a):TyOf K H x (.type a):=by
 cases x with
 |non=>cases h;exact .non|bl b=>cases h;exact .bl b|int i=>cases h;exact .int i|str y=>cases h;exact .str y|byt _=>exact nS h
 |flt _=>exact nS h
 |ty _=>exact nS h
 |ref p=>
  unfold zcV at h;cases e:H p with
  |none=>simp[e]at h| some o=>
   cases o with
   |lst d=>simp[e]at h;subst h;exact .lst e|tup d=>simp[e]at h;subst h;exact .tup e|dK c=>simp[e]at h;subst h;exact .dK e|dT c=>simp[e]at h;subst h;exact .dT e| frz f q=>cases q with|lst d=>simp[e]at h;subst h;exact .frz e|_=>simp[e]at h
   |_=>simp[e]at h
noncomputable def subT(a b:String):Bool:=a==b||(a=="bool"&&b=="int")
theorem zoU(K)(c:a∈["NoneType","bool","int","str","list","tuple","dict"])(d:b∈["bool","int","str","list","tuple","dict"]):kitOne K (.type a) (.type b)=Φ (subT a b):=by simp only[mem_cons,not_mem_nil,or_false]at c d;rcases c with rfl|rfl|rfl|rfl|rfl|rfl|rfl<;>rcases d with rfl|rfl|rfl|rfl|rfl|rfl<;>rfl
theorem zid(h:zcV H x=Φ a):a∈["NoneType","bool","int","str","list","tuple","dict"]:=by
 cases x with
 |non=>cases h;simp|bl b=>cases h;simp|int i=>cases h;simp|str y=>cases h;simp|byt _=>exact nS h
 |flt _=>exact nS h
 |ty _=>exact nS h
 |ref p=>unfold zcV at h;simp only at h;split at h<;>first|(cases h;simp)|exact nS h
theorem zd0:zba X (.builtin "isinstance") (λxs H Q=>∃x c a,xs=[x,.ty c]/\zcV H x=Φ a/\c∈["bool","int","str","list","tuple","dict"]/\Q (.bl (subT a c)) H):=by intro b s k H xs l Q I r h;obtain⟨x,c,a,rfl,d,e,q⟩:=h;obtain⟨u,f,rfl,g,i⟩:=zny r;cases(show f=Θ.type c from i);exact zkf I g (zje d) (zoU X.K (zid d) e) λj=>⟨.bl (subT a c),H,I.tok j,rfl,q⟩
end
section
variable{X:Cx}(K:Frag)(hK:X.K=K)
include hK
end
theorem znq:bootBuiltins "len"=Φ (.builtin "len"):=by decide +kernel
theorem zr0:bootBuiltins "abs"=Φ (.builtin "abs"):=by decide +kernel
theorem zrY:bootBuiltins "max"=Φ (.builtin "max"):=by decide +kernel
theorem zrZ:bootBuiltins "all"=Φ (.builtin "all"):=by decide +kernel
theorem zcD:bootBuiltins "isinstance"=Φ (.builtin "isinstance"):=by decide +kernel
theorem znr:bootBuiltins "int"=Φ (.type "int"):=by decide +kernel
theorem zpl:bootBuiltins "bool"=Φ (.type "bool"):=by decide +kernel
theorem zrV:bootBuiltins "str"=Φ (.type "str"):=by decide +kernel
theorem zg4:bootBuiltins "list"=Φ (.type "list"):=by decide +kernel
theorem zmF:bootBuiltins "tuple"=Φ (.type "tuple"):=by decide +kernel
theorem zpk:bootBuiltins "dict"=Φ (.type "dict"):=by decide +kernel
theorem zrW:bootBuiltins "set"=Φ (.type "set"):=by decide +kernel
theorem zno{K}{st}(n)(hn:ps.length=n+ds.length)(F:FunV K x qual st (.ref d) f fd)(e:K.lookup d=Φ ⟨xc,xd,.seq items xn,xs⟩)(h:∀(kV doc pm:Θ)(an:Option Addr)(cdv ct:Θ)(us:List Θ),us.length=n->∃k,bindArgs (fnOf x qual (zan st) (zak st) (zab st) (.ref d) kV doc pm an cdv ct) ⟨us,[]⟩=seqItems? (.ref d)>>=k/\k (Φ items)=pure (ps.zip (us++ds))):
  Binds K fd ps ds:=by
 obtain⟨oc,od,kV,doc,pm,an,cdv,ct,osl,rfl,lk,hcd⟩:=F.ex;intro s us KX hl;obtain⟨k,h1,h2⟩:=h kV doc pm an cdv ct us (by rw[length_append]at hl;lia);exact BindsTo.of_defaults (T:=d) rfl (KX _ _ e) rfl h1 h2
end L2
namespace R
abbrev K3:=Int×List Int×Int
noncomputable def lexZ:List Int->List Int->Bool
 | [],[]=>Δ| [],_::_=>Γ|_::_,[]=>Δ|x::a,y::b=>if x=y then lexZ a b else decide (x<y)
theorem zcx(x y)(xs ys):lexZ (x::xs) (y::ys)=if x=y then lexZ xs ys else decide (x<y):=rfl
theorem zb4:∀l:List Int,lexZ l l=Δ
 | []=>rfl|x::l=>by rw[zcx,if_pos rfl];exact zb4 l
theorem zfN:∀{a b c:List Int},lexZ a b=Γ->lexZ b c=Γ->lexZ a c=Γ
 | [],[],c,h,k=>by exact nB h| [],y::b,[],h,k=>by exact nB k| [],y::b,z::c,h,k=>rfl|x::a,[],c,h,k=>by exact nB h|x::a,y::b,[],h,k=>by exact nB k| x::a,y::b,z::c,h,k=>by rw[zcx]at h k⊢;split at h;rename_i e;split at k;rename_i d;rw[if_pos (e.trans d)];exact zfN h k;rename_i d;have k:=of_decide_eq_true k;rw[if_neg (by lia)];exact decide_eq_true (by lia);rename_i e;have h:=of_decide_eq_true h;split at k;rename_i d;rw[if_neg (by lia)];exact decide_eq_true (by lia);rename_i d;have k:=of_decide_eq_true k;rw[if_neg (by lia)];exact decide_eq_true (by lia)
theorem zfO:∀{a b:List Int},a≠b->lexZ a b=Γ\/lexZ b a=Γ
 | [],[],h=>absurd rfl h| [],y::b,_=>.inl rfl|x::a,[],_=>.inr rfl| x::a,y::b,h=>by rw[zcx,zcx];by_cases e:x=y;subst e;rw[if_pos rfl,if_pos rfl];exact zfO λz=>h (by rw[z]);rw[if_neg e,if_neg (Ne.symm e)];rcases Int.lt_or_gt_of_ne e with z|z;exact .inl (decide_eq_true z);exact .inr (decide_eq_true z)
def Lt3(a b:K3):Prop:=a.1<b.1\/(a.1=b.1/\(lexZ a.2.1 b.2.1=Γ\/(a.2.1=b.2.1/\a.2.2<b.2.2)))
noncomputable instance(a b:K3):Decidable (Lt3 a b):=by unfold Lt3;infer_instance
theorem zaS(a):¬Lt3 a a:=by unfold Lt3;rw[zb4];simp
theorem zcu(h:Lt3 a b)(k:Lt3 b c):Lt3 a c:=by unfold Lt3 at *;rcases h with h|⟨g,e⟩;rcases k with k|⟨f,d⟩;exact .inl (by lia);exact .inl (by lia);rcases k with k|⟨f,d⟩;exact .inl (by lia);refine .inr ⟨g.trans f,?_⟩;rcases e with e|⟨e,j⟩;rcases d with d|⟨d,i⟩;exact .inl (zfN e d);exact .inl (d▸e);rcases d with d|⟨d,i⟩;exact .inl (e▸d);exact .inr ⟨e.trans d,by lia⟩
theorem zfL(h:a≠b):Lt3 a b\/Lt3 b a:=by unfold Lt3;obtain⟨e,f,g⟩:=a;obtain⟨i,j,k⟩:=b;dsimp only;by_cases c:e=i;by_cases d:f=j;have l:g≠k:=λz=>h (by rw[c,d,z]);rcases Int.lt_or_gt_of_ne l with z|z;exact .inl (.inr ⟨c,.inr ⟨d,z⟩⟩);exact .inr (.inr ⟨c.symm,.inr ⟨d.symm,z⟩⟩);rcases zfO d with z|z;exact .inl (.inr ⟨c,.inl z⟩);exact .inr (.inr ⟨c.symm,.inl z⟩);rcases Int.lt_or_gt_of_ne c with z|z;exact .inl (.inl z);exact .inr (.inl z)
noncomputable def ins3(x:K3):List K3->List K3
 | []=>[x]|y::l=>if Lt3 x y then x::y::l else y::ins3 x l
noncomputable def zgu:List K3->List K3
 | []=>[]|x::l=>ins3 x (zgu l)
theorem zdS(x):∀l:List K3,(ins3 x l).Perm (x::l)
 | []=>List.Perm.refl _| y::l=>by unfold ins3;split;exact List.Perm.refl _;exact((zdS x l).cons y).trans (List.Perm.swap ..)
theorem za4:∀l:List K3,(zgu l).Perm l
 | []=>List.Perm.refl _|x::l=>(zdS x _).trans ((za4 l).cons x)
theorem zdR(x):∀{l:List K3},x∉l->l.Pairwise Lt3->(ins3 x l).Pairwise Lt3
 | [],_,_=>by simp[ins3]| y::l,g,h=>by have d:=pairwise_cons.mp h;unfold ins3;split;rename_i c;exact pairwise_cons.mpr ⟨λz f=>by rcases mem_cons.mp f with e|e;rw[e];exact c;exact zcu c (d.1 z e),h⟩;rename_i c;refine pairwise_cons.mpr ⟨λz f=>?_,zdR x (λm=>g (Τ _ m)) d.2⟩;rcases mem_cons.mp ((zdS x l).mem_iff.mp f) with e|e;rw[e];rcases zfL (a:=y) (b:=x) (λz=>g (by rw[z];exact ϊ)) with q|q;exact q;exact absurd q c;exact d.1 z e
theorem zbC:∀{l:List K3},l.Nodup->(zgu l).Pairwise Lt3
 | [],_=>Pairwise.nil| x::l,h=>by have a:=nodup_cons.mp h;exact zdR x (λm=>a.1 ((za4 l).mem_iff.mp m)) (zbC a.2)
theorem zdu:∀{a b:List K3},a.Perm b->a.Pairwise Lt3->b.Pairwise Lt3->a=b
 | [],b,p,_,_=>(List.nil_perm.mp p).symm|x::a,[],p,_,_=>absurd (List.perm_nil.mp p) (by simp)| x::a,y::b,p,h,i=>by
  have c:=pairwise_cons.mp h;have d:=pairwise_cons.mp i;have e:x=y:=by rcases mem_cons.mp (p.mem_iff.mp ϊ) with f|f;exact f;rcases mem_cons.mp (p.mem_iff.mpr ϊ) with g|g;exact g.symm;exact absurd (zcu (d.1 x f) (c.1 y g)) (zaS y)
  subst e;rw[zdu (List.Perm.cons_inv p) c.2 d.2]
theorem zf4{α:Type}{p q}:∀{l:List α},(∀x∈l,p x=Γ->q x=Γ)->(l.filter p).length<=(l.filter q).length
 | [],_=>le_refl _| x::l,h=>by have a:=zf4 (l:=l) λy b=>h y (Τ _ b);rw[List.filter_cons,List.filter_cons];cases e:p x with|true=>rw[h x ϊ e];simp;exact a| false=>cases q x with|true=>simp;lia|false=>simpa using a
theorem zf3{α:Type}{p q}:∀{l:List α}{a:α},(∀x∈l,p x=Γ->q x=Γ)->a∈l->p a=Δ->q a=Γ->(l.filter p).length<(l.filter q).length
 | [],_,_,h,_,_=>by cases h| x::l,a,h,g,c,d=>by rw[List.filter_cons,List.filter_cons];rcases mem_cons.mp g with e|e;subst e;have:=zf4 (l:=l) λy b=>h y (Τ _ b);rw[c,d];simp;lia;have f:=zf3 (l:=l) (λy b=>h y (Τ _ b)) e c d;cases i:p x with|true=>rw[h x ϊ i];simp;exact f| false=>cases q x with|true=>simp;lia|false=>simpa using f
end R
namespace R
open PySem PySem.Spec PyProof.Rows L2
section
variable{prog:Υ}{w:ύ}{A:ϑ}{E:Θ->Ζ->Prop}{s:Ζ}
def IsTri(prog:Υ)(w:ύ)(h:Heap)(k:K3)(a:Addr):Prop:=∃o t u b n,h.get? a=Φ o/\o.cls=.type "tuple"/\o.data=.seq #[.int k.1 t,.ref b,.int k.2.2 u] n/\IsTupleKey (zam prog w) h (k.2.1.map Sum.inl) b
theorem zfa{x y:List Int}(h:(x.map Sum.inl:List Key)=y.map Sum.inl):x=y:=(List.map_inj_right (λa b e=>Sum.inl.inj e)).mp h
theorem IsTri.typeIs(x:IsTri prog w s.heap k a):s.TypeIs (.ref a) "tuple":=by obtain⟨o,_,_,_,_,b,c,_⟩:=x;exact⟨o,b,c⟩
theorem IsTri.inj(g:IsTri prog w h x a)(i:IsTri prog w h y a):x=y:=by obtain⟨o,t,u,b,n,j,_,k,l⟩:=g;obtain⟨m,p,q,r,v,e,_,c,f⟩:=i;obtain rfl:o=m:=Option.some.inj (j.symm.trans e);rw[k]at c;injection c with d _;have d:=congrArg Array.toList d;simp only[List.cons.injEq,Θ.int.injEq,Θ.ref.injEq]at d;obtain⟨⟨z,_⟩,rfl,B,_⟩:=d;have C:=zfa (l.inj f);obtain⟨G,H,I⟩:=x;simp_all
theorem IsTri.keeps(x:IsTri prog w h k a)(g:h.get? d=Φ o)(hd:o.data=.dict es p)(i:Heap.SameBut d h h'):IsTri prog w h' k a:=by
 obtain⟨j,t,u,b,n,e,l,c,m⟩:=x;have f:a≠d:=by rintro rfl;obtain rfl:j=o:=Option.some.inj (e.symm.trans g);rw[hd]at c;exact by cases c
 exact⟨j,t,u,b,n,(i.2 a f).trans e,l,c,m.keeps g hd i⟩
noncomputable def zdt(prog:Υ)(w:ύ)(k:K3):Int:=reduceHash (Builtin.Tuple.tupleHashOf [hashInt k.1,tupleKeyHash (zam prog w) (k.2.1.map Sum.inl),hashInt k.2.2])
theorem zc8(hu:A.units+4<cLine)(hk:IsTri prog w s.heap k a)(h:Q (zdt prog w k) {s with toks:=s.toks+(k.2.1.length+4)}):
  wpAny (model prog w) A (pyHash (.ref a)) Q E s:=by
 have hT:=hk.typeIs;obtain⟨o,t,u,b,n,ho,_,hd,hi⟩:=hk;unfold pyHash
 first|unfold pyHashByItsType|skip
 first|refine Ξ (wpAny_cRoomFor_or (.inr (by lia)) ?_)|skip
 refine Ξ (wpAny_specialOf hT F.slot_tuple_hash.lookup ?_);show wpAny _ _ (if(Φ (Θ.builtin "tuple.__hash__")==Φ Θ.none)=Γ then _ else _) Q E s;rw[if_neg (by rw[beq_builtin_none];exact Ε)];refine Ξ (wpAny_specialOf hT F.slot_tuple_hash.lookup ?_);show wpAny _ _ (callSpecialIfBoundUnlessNone? (.ref a) "__hash__" _>>=_) Q E s;refine Ξ (wpAny_callSpecialIfBoundUnlessNone?_slot hT F.slot_tuple_hash (ϡ F.slot_tuple_hash hT F.entry_tuple_hash ?_ (F.args_tuple_hash_1 _)));show wpAny _ _ (Builtin.Tuple.tupleItemsOf (.ref a)>>=_) _ _ s;refine Ξ (wpAny_tupleItemsOf ho hd ?_);refine Ξ ?_;rw[<-Array.forIn_toList];refine Ϡ _
  (λrest (g:Array Int) s'=>(rest=[.int k.1 t,.ref b,.int k.2.2 u]/\g.toList=[]/\s'=s)\/(rest=[.ref b,.int k.2.2 u]/\g.toList=[hashInt k.1]/\s'={s with toks:=s.toks+1})
   \/(rest=[.int k.2.2 u]/\g.toList=[hashInt k.1,tupleKeyHash (zam prog w) (k.2.1.map Sum.inl)]/\s'={s with toks:=s.toks+(k.2.1.length+2)})
   \/(rest=[]/\g.toList=[hashInt k.1,tupleKeyHash (zam prog w) (k.2.1.map Sum.inl),hashInt k.2.2]/\s'={s with toks:=s.toks+(k.2.1.length+3)}))
  _ ?_ ?_ _ _ (.inl ⟨rfl,rfl,rfl⟩)
 rintro x rest g s' (⟨e,hg,rfl⟩|⟨e,hg,rfl⟩|⟨e,hg,rfl⟩|⟨e,hg,rfl⟩);cases e;refine Ξ (wpAny_pyHash_int ?_);exact Β (.inr (.inl ⟨rfl,by simp[hg],rfl⟩));cases e;refine Ξ (wpAny_pyHash_tuple (knd:=zam prog w) (ks:=k.2.1.map Sum.inl) ?_ hi ?_);show A.units+1<cLine;lia;exact Β (.inr (.inr (.inl ⟨rfl,by simp[hg],by simp only[length_map];congr 1;lia⟩)));cases e;refine Ξ (wpAny_pyHash_int ?_);exact Β (.inr (.inr (.inr ⟨rfl,by simp[hg],by simp[Nat.add_assoc]⟩)));cases e;rintro g s' (⟨e,hg,rfl⟩|⟨e,hg,rfl⟩|⟨e,hg,rfl⟩|⟨e,hg,rfl⟩);cases e;cases e;cases e;show wpAny _ _ (retInt (Builtin.Tuple.tupleHashOf g.toList)) _ _ _;rw[hg];refine wpAny_ret_mkInt ?_;show wpAny _ _ (if(decide (-(2:Int)^63<=Builtin.Tuple.tupleHashOf [hashInt k.1,tupleKeyHash (zam prog w) (k.2.1.map Sum.inl),hashInt k.2.2])&&decide (Builtin.Tuple.tupleHashOf [hashInt k.1,tupleKeyHash (zam prog w) (k.2.1.map Sum.inl),hashInt k.2.2]<2^63))=Γ then _ else _) Q E _;unfold zdt reduceHash at h;by_cases hr:(decide (-(2:Int)^63<=Builtin.Tuple.tupleHashOf [hashInt k.1,tupleKeyHash (zam prog w) (k.2.1.map Sum.inl),hashInt k.2.2])&&decide (Builtin.Tuple.tupleHashOf [hashInt k.1,tupleKeyHash (zam prog w) (k.2.1.map Sum.inl),hashInt k.2.2]<2^63))=Γ;rw[if_pos hr];rw[if_pos hr]at h;exact Β (by simpa[Nat.add_assoc]using h);rw[if_neg hr];rw[if_neg hr]at h;exact Ξ (ϧ (Β (by simpa[Nat.add_assoc]using h)))
theorem zgt(T:A.units<cLine)(U:IsTri prog w s.heap x a)(M:IsTri prog w s.heap y b)(h:P (.done (.ret (.bool (decide (x=y))))) s):
  wpAny (model prog w) A (Builtin.«tuple.__eq__» ⟨[.ref a,.ref b],[]⟩) P E s:=by
 have m:=M.typeIs;obtain⟨oa,Y,n,N,na,o,_,t,u⟩:=U;obtain⟨ob,t2,v,O,nb,B,_,C,G⟩:=M;obtain⟨g,H,i⟩:=x;obtain⟨j,I,k⟩:=y;show wpAny _ _ (isInstance (.ref b) (.type "tuple")>>=_) _ _ s;refine Ξ (wpAny_isInstance m isSubtype_tuple_tuple ?_);simp only[Ϝ,Ρ,if_false];refine Ξ (wpAny_tupleItemsOf o t ?_);refine Ξ (wpAny_tupleItemsOf B C ?_);refine Ξ ?_;refine Ϡ _
  (λc r J=>r.1=Ψ/\J=s/\(c=[(.int g Y,.int j t2),(.ref N,.ref O),(.int i n,.int k v)]\/(c=[(.ref N,.ref O),(.int i n,.int k v)]/\g=j)\/(c=[(.int i n,.int k v)]/\g=j/\H=I)\/(c=[]/\g=j/\H=I/\i=k)))
  _ ?_ ?_ _ _ ⟨rfl,rfl,.inl rfl⟩
 rintro⟨p,q⟩ c r J ⟨L,rfl,(e|⟨e,f⟩|⟨e,f,l⟩|⟨e,f,l,Q⟩)⟩;cases e;refine Ξ (wpAny_eqBool_int ?_);by_cases d:g=j;rw[show(g==j)=Γ by simp[d]];simp only[Ϝ,Ρ,if_false];exact Β ⟨rfl,rfl,.inr (.inl ⟨trivial,d⟩)⟩;rw[show(g==j)=Δ by simp[d]];simp only[Bool.not_false,if_true];rw[decide_eq_false (by simp[d])]at h;exact Ξ (Β (Β (Β h)));cases e;refine Ξ (wpAny_eqBool_tuple T u G ?_);by_cases d:H=I;rw[decide_eq_true (by rw[d])];simp only[Ϝ,Ρ,if_false];exact Β ⟨rfl,rfl,.inr (.inr (.inl ⟨trivial,f,d⟩))⟩;rw[decide_eq_false (λz=>d (zfa z))];simp only[Bool.not_false,if_true];rw[decide_eq_false (by simp[d])]at h;exact Ξ (Β (Β (Β h)));cases e;refine Ξ (wpAny_eqBool_int ?_);by_cases d:i=k;rw[show(i==k)=Γ by simp[d]];simp only[Ϝ,Ρ,if_false];exact Β ⟨rfl,rfl,.inr (.inr (.inr ⟨trivial,f,l,d⟩))⟩;rw[show(i==k)=Δ by simp[d]];simp only[Bool.not_false,if_true];rw[decide_eq_false (by simp[d])]at h;exact Ξ (Β (Β (Β h)));cases e;rintro⟨r1,r2⟩ J ⟨L,rfl,(e|⟨e,f⟩|⟨e,f,l⟩|⟨e,f,l,Q⟩)⟩;cases e;cases e;cases e;simp only at L;subst L;refine Β ?_;rw[decide_eq_true (by rw[f,l,Q])]at h;exact h
theorem zc9(hu:A.units+4<cLine)(hx:IsTri prog w s.heap x a)(hy:IsTri prog w s.heap y b)(h:Q (decide (x=y)) s):
  wpAny (model prog w) A (eqBool (.ref a) (.ref b)) Q E s:=by
 unfold eqBool
 try with_reducible refine Ϥ ?_
 show wpAny _ _ (if(Θ.ref a==Θ.ref b)=Γ then _ else _) Q E s;by_cases hab:(Θ.ref a==Θ.ref b)=Γ;rw[if_pos hab];have e:a=b:=by have:=eq_of_beq hab;injection this
 subst e;obtain rfl:=hx.inj hy;exact Ξ (ϧ (Β (by simpa using h)))
 rw[if_neg hab];exact Ξ (wpAny_richCompare_same_room (op:=.Eq) hx.typeIs hy.typeIs F.slot_tuple_eq
  (ϡ F.slot_tuple_eq hx.typeIs F.entry_tuple_eq (zgt (by show A.units+1<cLine;lia) hx hy ⟨_,rfl,(λe=>by cases e),ϒ h⟩) (F.args_tuple_eq_2 _ _)) (by lia))
theorem zqC(hk:IsTupleKey (zam prog w) s.heap ks a)(h:Q Γ s):wpAny (model prog w) A (eqIsQuiet 7 (.ref a)) Q E s:=by have hT:=hk.typeIs;obtain⟨o,items,n,ho,_,hd,hi⟩:=hk;unfold eqIsQuiet;refine Ξ (wpAny_specialOf hT F.slot_tuple_eq.lookup ?_);show wpAny _ _ (isInstance (.ref a) (.type "tuple")>>=_) _ _ s;refine Ξ (wpAny_isInstance hT isSubtype_tuple_tuple ?_);simp only[Ϝ,Ρ,if_false];refine Ξ (wpAny_seqItems ho hd ?_);refine Ξ ?_;show wpAny _ _ (forIn items _ _) _ _ s;rw[<-Array.forIn_toList];refine Ϡ _ (λrest r s'=>r.1=Ψ/\s'=s/\∀v∈rest,carriedByValue v=Γ) _ ?_ ?_ _ _ ⟨rfl,rfl,hi.byValue⟩;rintro v rest r s' ⟨hr,rfl,hall⟩;rw[eqIsQuiet_byValue _ (hall v ϊ)];refine Ξ (Β ?_);simp only[Ϝ,Ρ,if_false];exact Β ⟨rfl,rfl,λu hu'=>hall u (Τ _ hu')⟩;rintro⟨r1,r2⟩ s' ⟨hr,rfl,_⟩;simp only at hr;subst hr;exact Β h
theorem zcd(hk:IsTri prog w s.heap k a)(h:Q Γ s):wpAny (model prog w) A (eqIsQuiet 8 (.ref a)) Q E s:=by have hT:=hk.typeIs;obtain⟨o,t,u,b,n,ho,_,hd,hi⟩:=hk;unfold eqIsQuiet;refine Ξ (wpAny_specialOf hT F.slot_tuple_eq.lookup ?_);show wpAny _ _ (isInstance (.ref a) (.type "tuple")>>=_) _ _ s;refine Ξ (wpAny_isInstance hT isSubtype_tuple_tuple ?_);simp only[Ϝ,Ρ,if_false];refine Ξ (wpAny_seqItems ho hd ?_);refine Ξ ?_;show wpAny _ _ (forIn #[Θ.int k.1 t,.ref b,.int k.2.2 u] _ _) _ _ s;rw[<-Array.forIn_toList];refine Ϡ _ (λrest r s'=>r.1=Ψ/\s'=s/\∀v∈rest,carriedByValue v=Γ\/v=.ref b) _ ?_ ?_ _ _ ⟨rfl,rfl,λv hv=>by simp only[mem_cons,not_mem_nil,or_false]at hv;rcases hv with rfl|rfl|rfl;exact .inl rfl;exact .inr rfl;exact .inl rfl⟩;rintro v rest r s' ⟨hr,rfl,hall⟩;rcases hall v ϊ with hv|rfl;rw[eqIsQuiet_byValue _ hv];refine Ξ (Β ?_);simp only[Ϝ,Ρ,if_false];exact Β ⟨rfl,rfl,λu hu'=>hall u (Τ _ hu')⟩;refine Ξ (zqC hi ?_);simp only[Ϝ,Ρ,if_false];exact Β ⟨rfl,rfl,λu hu'=>hall u (Τ _ hu')⟩;rintro⟨r1,r2⟩ s' ⟨hr,rfl,_⟩;simp only at hr;subst hr;exact Β h
end
noncomputable def zbc(prog:Υ)(w:ύ):HeapKind prog w K3 where
 is:=IsTri prog w
 hash:=zdt prog w
 draws:=λk=>k.2.1.length+4
 room:=λA=>A.units+4<cLine
 inj:=λhx hy=>hx.inj hy
 keeps:=λx ho hd hs=>x.keeps ho hd hs
 pyHash:=λhu hk h=>zc8 hu hk h
 eqBool:=λhu hx hy h=>zc9 hu hx hy h
 quiet:=λhk h=>zcd hk h
noncomputable def zmo(k:K3):Int:=reduceHash (Builtin.Tuple.tupleHashOf [hashInt k.1,reduceHash (Builtin.Tuple.tupleHashOf (k.2.1.map hashInt)),hashInt k.2.2])
theorem zmn(k):(zbc P w).hash k=zmo k:=by show zdt P w k=zmo k;unfold zdt zmo tupleKeyHash;rw[map_map];rfl
def P3(p:K3×Addr×V)(q:K3×Addr×Θ):Prop:=p.1=q.1/\p.2.1=q.2.1/\RelV p.2.2 q.2.2
noncomputable def ent3(x:K3×Addr×Θ):DictEntry:=⟨zmo x.1,.ref x.2.1,x.2.2⟩
theorem zgZ(x):entryOfKey (zbc P w) x=ent3 x:=by unfold entryOfKey ent3;rw[zmn]
def TriO(a:Addr)(b:List (K3×Addr×V))(h:Heap):Prop:=b.length<=sizeLine/\(a==sysModules)=Δ/\∃c,Paired P3 b c/\∃o d e,h.get? a=Φ o/\o.ExactDict/\o.data=.dict d e/\d.toList=c.map ent3/\(c.map (·.1)).Nodup
def Key3(H:Hp)(k:K3)(c:Addr):Prop:=∃b,H c=Φ (.tup [.int k.1,.ref b,.int k.2.2])/\H b=Φ (.tup (k.2.1.map V.int))
def TriK(H:Hp)(a:List (K3×Addr×V)):Prop:=∀x∈a,Key3 H x.1 x.2.1
theorem Key3.up(h:Key3 H k c)(ht:∀b xs,H b=Φ (.tup xs)->H' b=Φ (.tup xs)):Key3 H' k c:=let ⟨b,h1,h2⟩:=h;⟨b,ht _ _ h1,ht _ _ h2⟩
theorem TriO.stay(x:TriO a b h)(k:∀o,h.get? a=Φ o->h'.get? a=Φ o):TriO a b h':=by obtain⟨z,y,d,r,o,f,g,e,c⟩:=x;exact⟨z,y,d,r,o,f,g,k _ e,c⟩
theorem TriO.objOk(x:TriO a b h):ObjOk P w H h a (.ext (TriO a b)):=by refine⟨x,?_,λc d p k=>p.stay k⟩;obtain⟨_,_,_,_,o,_,_,e,_⟩:=x;exact⟨o,e⟩
theorem zna:∀{a:List (K3×Addr×V)}{xs:List (K3×Addr×Θ)},Paired P3 a xs->xs.length=a.length
 |_,_,.nil=>rfl|_,_,.cons _ t=>by simp[zna t]
theorem zeV:∀{a:List (K3×Addr×V)}{xs:List (K3×Addr×Θ)},Paired P3 a xs->xs.map (·.1)=a.map (·.1)
 |_,_,.nil=>rfl|_,_,.cons h t=>by rw[Ν,Ν,zeV t,h.1]
section
variable{P:Υ}{w:ύ}{H:Hp}{h:Heap}{a c:Addr}{kxs:List (K3×Addr×V)}
theorem zbL(ok:HOk P w H h)(e:Key3 H k c):IsTri P w h k c:=by obtain⟨b,f,g⟩:=e;obtain⟨_,i,d,o,j,l,n,m⟩:=(show ObjOk P w H h c (.tup _) from ok c _ f);cases d with| @cons _ v _ x p d=>cases d with| @cons _ q _ y r d=>cases d with| @cons _ z _ A s d=>cases d;obtain⟨t,rfl⟩:=p;cases(show q=Θ.ref b from r);obtain⟨u,rfl⟩:=s;refine⟨o,t,u,b,n,j,l,m,?_⟩;have:=zc2 (ks:=k.2.1.map Sum.inl) ok (a:=b) (by rw[map_map];exact g);exact this
theorem zji(ok:HOk P w H h)(e:H a=Φ (.ext (TriO a kxs)))(d:TriK H kxs):kxs.length<=sizeLine/\(a==sysModules)=Δ/\∃xs,Paired P3 kxs xs/\h.DictOfH (zbc P w) a xs:=by
 obtain⟨⟨z,y,xs,r,o,i,j,k,b,n,s,u⟩,_,_⟩:=(show ObjOk P w H h a (.ext _) from ok a _ e);refine⟨z,y,xs,r,o,i,j,k,b,n,?_,?_,u⟩;rw[s];exact Ο λx _=>(zgZ x).symm;have f:∀{l:List (K3×Addr×V)}{m:List (K3×Addr×Θ)},Paired P3 l m->TriK H l->∀x∈m,(zbc P w).is h x.1 x.2.1:=by
  intro l m q;induction q with
  |nil=>intro _ x b;exact by cases b
  | @cons p q B C g t v=>intro d x b;rcases mem_cons.mp b with e|b;subst e;rw[<-g.1,<-g.2.1];exact zbL ok (d p ϊ);exact v (λy A=>d y (Τ _ A)) x b
 exact f r d
end
noncomputable def put3(a:List (K3×Addr×V))(k:K3)(c:Addr)(v:V):List (K3×Addr×V):=if k∈a.map (·.1) then a.map (λx=>if x.1=k then(x.1,x.2.1,v) else x) else a++[(k,c,v)]
theorem zbT{k:K3}:(atKey xs k).isSome=decide (k∈xs.map (·.1)):=by unfold atKey;rw[Option.isSome_map];apply Bool.eq_iff_iff.mpr;rw[List.find?_isSome,decide_eq_true_eq,mem_map];constructor;rintro⟨x,a,e⟩;exact⟨x,a,by simpa using e⟩;rintro⟨x,a,e⟩;exact⟨x,a,by simpa using e⟩
theorem zq3(g:RelV v r)(h:Paired P3 d xs):Paired P3 (put3 d k c v) (storedH xs k c r):=by
 unfold put3 storedH;rw[zbT,zeV h];by_cases b:k∈d.map (·.1);rw[if_pos b,if_pos (by simpa using b)];clear b;induction h with|nil=>exact .nil| @cons p q i j a t f=>rw[Ν,Ν];refine .cons ?_ f;unfold putAt;by_cases e:p.1=k;rw[if_pos e,if_pos (by rw[<-a.1];exact e)];exact⟨a.1,a.2.1,g⟩;rw[if_neg e,if_neg (by rw[<-a.1];exact e)];exact a
 rw[if_neg b,if_neg (by simpa using b)];clear b;induction h with|nil=>exact .cons ⟨rfl,rfl,g⟩ .nil|cons a t f=>exact .cons a f
theorem zlM(a)(k)(c)(v):(put3 a k c v).length<=a.length+1:=by unfold put3;split;rw[length_map];lia;simp
section
variable{X:Cx}{pins:List (Addr×Obj)}{σ:L2.St}{H:Hp}{s:Ζ}{a c:Addr}{kxs:List (K3×Addr×V)}{k:K3}{v:V}{r:Θ}{A:ϑ}{E:Θ->Ζ->Prop}
theorem ziS(L:A.units+5<cLine)(I:Inv X pins σ H s)(e:H a=Φ (.ext (TriO a kxs)))(i:TriK H kxs)(j:Key3 H k c)(M:kxs.length<sizeLine)(l:RelV v r)(h:∀f,Inv X pins σ (upd H a (.ext (TriO a (put3 kxs k c v)))) f->Q () f):wpAny (model X.prog X.w) A (setItem (.ref a) (.ref c) r) Q E s:=by
 obtain⟨z,m,n,b,o⟩:=zji I.hok e i;have p:n.length<=sizeLine:=by rw[zna b];exact z
 have t:=zlM kxs k c v;refine wpAny_setItem_heap (knd:=zbc X.prog X.w) (hsz:=p) (show A.units+1+4<cLine by omega) (zbL I.hok j) o λN d u=>h _ ?_;obtain⟨q,w,y,g,B,C,G,_,J⟩:=d;refine zdW I (by rw[e];exact True.intro) u ⟨q,g⟩ (TriO.objOk ⟨by omega,m,_,zq3 l b,q,w,y,g,B,C,?_,J⟩);rw[G];exact Ο λx _=>zgZ x
theorem ztf(m:A.units+5<cLine)(I:Inv X pins σ H s)(e:H a=Φ (.ext (TriO a kxs)))(g:TriK H kxs)(i:Key3 H k c)(h:∀f,Inv X pins σ H f->Q (.bool (decide (k∈kxs.map (·.1)))) f):
  wpAny (model X.prog X.w) A (compareOp .In (.ref c) (.ref a)) Q E s:=by
 obtain⟨z,j,n,d,l⟩:=zji I.hok e g;refine wpAny_in_heap (knd:=zbc X.prog X.w) (show A.units+1+4<cLine by omega) (zbL I.hok i) j l ?_;rw[zbT,zeV d];exact h _ (I.kept λb o e=>e)
theorem zmx(m:A.units+5<cLine)(I:Inv X pins σ H s)(e:H a=Φ (.ext (TriO a kxs)))(g:TriK H kxs)(i:Key3 H k c)(h:∀f,Inv X pins σ H f->Q (.bool (!decide (k∈kxs.map (·.1)))) f):
  wpAny (model X.prog X.w) A (compareOp .NotIn (.ref c) (.ref a)) Q E s:=by
 obtain⟨z,j,n,d,l⟩:=zji I.hok e g;refine wpAny_notIn_heap (knd:=zbc X.prog X.w) (show A.units+1+4<cLine by omega) (zbL I.hok i) j l ?_;rw[zbT,zeV d];exact h _ (I.kept λb o e=>e)
theorem zl1:PE X (.Dict [] [] pos) (λ_ H Q=>∀p,H p=Ψ->Q (.ref p) (upd H p (.ext (TriO p [])))):=λpins s σ H Q I h=>
 wpAny_Dict_empty ⟨.ref s.heap.objs.size,_,I.laid (λ_ _ q=>Ω _ q) (le_refl _)
  (TriO.objOk ⟨zero_le _,beq_eq_false_iff_ne.mpr (Ne.symm (ne_of_lt I.big)),[],.nil,_,#[],0,Μ _ rfl,⟨rfl,rfl,rfl⟩,rfl,rfl,List.nodup_nil⟩),rfl,h _ (I.hok.fresh (le_refl _))⟩
end
end R
namespace R
noncomputable def zsy(a b:Int×Int):Bool:=decide (b.2<a.2\/(a.2=b.2/\a.1<=b.1))
noncomputable def zpN(rows:List (Int×Int)):List (Int×Int):=rows.mergeSort zsy
noncomputable def bump:List (Int×Int)->Int->List (Int×Int)
 | [],w=>[(w,1)]|(k,c)::r,w=>if k=w then(k,c+1)::r else(k,c)::bump r w
noncomputable def zes(b:List (Int×Int))(c:List (Option Int)):List (Int×Int):=c.foldl (λa w=>match w with|some x=>bump a x|none=>a) b
end R
namespace R
open PySem (Str PyData Operator CmpOp)
set_option genInjectivity true in
inductive D where
 |non|bl (b:Bool)|int (i:Int)|str (x:Str)|tup (ds:List D)|ref (l:Nat)
 |fix (ds:List D)
inductive MO where
 |lst (ds:List D)|dic (kvs:List (Int×D))|ins (c:Nat) (fs:List (Str×D))
 |dtp (kvs:List (List Int×D))
 |d3 (kvs:List (K3×D))
structure St where
 frz:List MO
 new:List MO
 lk:List Nat
inductive Out(α:Type) where
 |ok (a:α) (S:St)
 |err (d:D) (S:St)
 |bad
noncomputable def Out.bind{α b:Type}(o:Out α)(f:α->St->Out b):Out b:=match o with|.ok a S=>f a S|.err d S=>.err d S|.bad=>.bad
noncomputable def lift{α:Type}(S:St):Option α->Out α
 |some a=>.ok a S|none=>.bad
namespace St
noncomputable def get(S:St)(l:Nat):Option MO:=if l<S.frz.length then S.frz[l]? else S.new[l-S.frz.length]?
noncomputable def len(S:St):Nat:=S.frz.length+S.new.length
noncomputable def push(S:St)(o:MO):St:={S with new:=S.new++[o]}
noncomputable def put(S:St)(l:Nat)(o:MO):Option St:=if l<S.frz.length then Ψ else if S.lk.contains l then Ψ else Φ {S with new:=S.new.set (l-S.frz.length) o}
noncomputable def enter(S:St):St:=⟨S.frz++S.new,[],[]⟩
end St
noncomputable def lay(S:St)(ds:List D):Out D:=if ds.length<=16777216 then .ok (.ref S.len) (S.push (.lst ds)) else .bad
noncomputable def wr(S:St)(l:Nat)(ds:List D)(d:D):Out D:=if ds.length<=16777216 then(match S.put l (.lst ds) with|some a=>.ok d a|none=>.bad) else .bad
noncomputable def pd(S:St):Nat->D->Option PyData
 |_,.non=>Φ .none|_,.bl b=>Φ (.bool b)|_,.int i=>Φ (.int i)|_,.str x=>if PySem.PyData.strOk x then Φ (.str x) else Ψ|n+1,.tup a=>(a.mapM (pd S n)).map PyData.tuple
 |n+1,.ref l=>match S.get l with
  |some (.lst a)=>(a.mapM (pd S n)).map PyData.list|_=>Ψ
 |_,.fix _=>Ψ|0,_=>Ψ
mutual
noncomputable def flat(n:Nat):D->Bool
 |.tup ds=>flats n ds|.ref l=>decide (l<n)|.fix ds=>flats n ds|_=>Γ
noncomputable def flats(n:Nat):List D->Bool
 | []=>Γ|d::ds=>flat n d&&flats n ds
end
noncomputable def zcg(S:St):D->Option (List D)
 |.tup a=>Φ a|.fix a=>Φ a
 |.ref l=>match S.get l with
  |some (.lst a)=>Φ a|_=>Ψ
 |_=>Ψ
noncomputable def lkOf(S:St):D->List Nat
 |.ref l=>[l]|_=>[]
noncomputable def tru(S:St):D->Option Bool
 |.non=>Φ Δ|.bl b=>Φ b|.int i=>Φ (i != 0)|.tup a=>Φ (!a.isEmpty)
 |.ref l=>match S.get l with
  |some (.lst a)=>Φ (!a.isEmpty)|_=>Ψ
 |_=>Ψ
noncomputable def tyOf(S:St):D->Option String
 |.non=>Φ "NoneType"|.bl _=>Φ "bool"|.int _=>Φ "int"|.str _=>Φ "str"|.tup _=>Φ "tuple"
 |.ref l=>match S.get l with
  |some (.lst _)=>Φ "list"|some (.dic _)=>Φ "dict"|some (.dtp _)=>Φ "dict"|_=>Ψ
 |.fix _=>Ψ
noncomputable def ixN(n:Nat)(i:Int):Option Nat:=if 0<=i then(if i<n then Φ i.toNat else Ψ) else if -(n:Int)<=i then Φ (i+n).toNat else Ψ
noncomputable def atI{α:Type}(xs:List α)(i:Int):Option α:=(ixN xs.length i).bind λj=>xs[j]?
noncomputable def sIx(n d:Nat):Option Int->Nat
 |none=>d|some i=>if i<0 then(i+n).toNat else min i.toNat n
noncomputable def cut{α:Type}(xs:List α)(lo hi:Option Int):List α:=(xs.drop (sIx xs.length 0 lo)).take (sIx xs.length xs.length hi-sIx xs.length 0 lo)
noncomputable def zcz:D->Option Int
 |.int i=>Φ i|_=>Ψ
noncomputable def zbH(m:Bool)(d:D):Option (Option Int):=if m then(match d with|.int i=>Φ (Φ i)|_=>Ψ) else Φ Ψ
noncomputable def zbJ(i j:Int):Bool:=decide (-(2^64)<i/\i<2^64)||decide (-(2^64)<j/\j<2^64)
noncomputable def binI(S:St)(op:Operator)(i j:Int):Out D:=match op with|.Add=>.ok (.int (i+j)) S|.Sub=>.ok (.int (i-j)) S|.Mult=>if zbJ i j then .ok (.int (i*j)) S else .bad|.FloorDiv=>if 0<j/\j<1073741824 then .ok (.int (i/j)) S else .bad|.Mod=>if 0<j then .ok (.int (i%j)) S else .bad|.Pow=>if 0<=j/\j<=1000000/\-18446744073709551616<i/\i<18446744073709551616 then .ok (.int (i^j.toNat)) S else .bad|_=>.bad
noncomputable def binD(S:St)(op:Operator)(x y:D):Out D:=match x,y with|.int i,.int j=>binI S op i j|.tup c,.tup d=>(match op with|.Add=>if c.length+d.length<=16777216 then .ok (.tup (c++d)) S else .bad|_=>.bad)|.ref a,.ref b=>(match op,S.get a,S.get b with|.Add,Φ (.lst c),Φ (.lst d)=>lay S (c++d)|_,_,_=>.bad)|_,_=>.bad
noncomputable def eqD(S:St)(x y:D):Option Bool:=(pd S 60 x).bind λa=>(pd S 60 y).map λb=>PyData.eqv a b
noncomputable def inD(S:St)(x:D)(ys:List D):Option Bool:=(ys.mapM λz=>eqD S z x).map λa=>a.any id
noncomputable def zax(ds:List D):Option (List Int):=ds.mapM zcz
noncomputable def cmpI(op:CmpOp)(i j:Int):Option Bool:=match op with|.Eq=>Φ (decide (i=j))|.NotEq=>Φ (!decide (i=j))|.Lt=>Φ (decide (i<j))|.LtE=>Φ (decide (i<=j))|.Gt=>Φ (decide (j<i))|.GtE=>Φ (decide (j<=i))|_=>Ψ
noncomputable def zoZ:D->Bool|.non=>Γ|_=>Δ
noncomputable def zfm:D->Option (Option Int)
 |.non=>Φ Ψ|.int i=>Φ (Φ i)|_=>Ψ
noncomputable def dKvs(S:St):D->Option (List (List Int×D))
 |.ref l=>(match S.get l with|some (.dtp a)=>Φ a|_=>Ψ)|_=>Ψ
noncomputable def zcT(a:List (List Int×D)):Option (List (List Int×Option Int)):=a.mapM λb=>(zfm b.2).map λw=>(b.1,w)
noncomputable def eqK(a b:List (List Int×D)):Option Bool:=(zcT a).bind λx=>(zcT b).bind λy=>if x=y then Φ Γ else Ψ
noncomputable def zf6(S:St)(x y:D):Option Bool:=match dKvs S x,dKvs S y with|some a,Φ b=>eqK a b|_,_=>eqD S x y
noncomputable def zdf:D->Option (List Int)
 |.tup a=>zax a|_=>Ψ
noncomputable def key3:D->Option K3
 |.tup [.int a,.tup c,.int b]=>(zax c).map λp=>(a,p,b)|_=>Ψ
noncomputable def zci(k:K3):D:=.tup [.int k.1,.tup (k.2.1.map .int),.int k.2.2]
noncomputable def d3K(S:St):D->Option (List (K3×D))
 |.ref l=>(match S.get l with|some (.d3 a)=>Φ a|_=>Ψ)|_=>Ψ
noncomputable def zd7(a:List (K3×D))(k:K3):Option D:=(a.find? λb=>decide (b.1=k)).map (·.2)
noncomputable def ziT(S:St)(x y:D):Option (Option D):=(d3K S x).bind λa=>(key3 y).map λk=>zd7 a k
noncomputable def zeS(a:List (K3×D))(k:K3)(v:D):List (K3×D):=if k∈a.map (·.1) then a.map (λx=>if x.1=k then(x.1,v) else x) else a++[(k,v)]
noncomputable def ze5:D->Option K3
 |.tup [_,.tup a,.int b,_]=>(zax a).map λp=>(0,p,b)|_=>Ψ
noncomputable def zfP(S:St)(x:D):Option (List D×List K3):=match x with|.ref p=>(match S.get p with|some (.lst a)=>(a.mapM ze5).map λb=>(a,b)|_=>Ψ)|_=>Ψ
noncomputable def srtD(ds:List D)(ks:List K3):List D:=(zgu ks).map λk=>((ks.zip ds).lookup k).getD .non
noncomputable def valP(a:List (List Int×D))(k:List Int):Option D:=(a.find? λb=>decide (b.1=k)).map (·.2)
noncomputable def zkq(S:St)(x y:D):Option Bool:=match dKvs S y with|some a=>(zdf x).map λk=>(valP a k).isSome| none=>(match d3K S y with|some a=>(key3 x).map λk=>decide (k∈a.map (·.1))|none=>(zcg S y).bind λb=>inD S x b)
noncomputable def cmpO(S:St)(op:CmpOp)(x y:D):Option Bool:=match op with|.Eq=>zf6 S x y|.NotEq=>(zf6 S x y).map (!·)|.Is=>(match y with|.non=>Φ (zoZ x)|.bl b=>(match x with|.bl a=>Φ (a==b)|_=>Ψ)|_=>Ψ)|.IsNot=>(match y with|.non=>Φ (!zoZ x)|_=>Ψ)|.In=>zkq S x y|.NotIn=>(zkq S x y).map (!·)|.LtE=>(key3 x).bind λa=>(key3 y).map λb=>!decide (Lt3 b a)|_=>Ψ
noncomputable def cmpD(S:St)(op:CmpOp)(x y:D):Option Bool:=match x,y with|.int i,.int j=>cmpI op i j|_,_=>cmpO S op x y
inductive Bi where
 |len
 |abs
 |max2
 |min2
 |isin (t:String)
noncomputable def zbq(ds:List D):Option (List (Option Int)):=ds.mapM zfm
inductive Mt where
 |append
 |popAt
 |count
noncomputable def bi(S:St):Bi->List D->Out D
 |.len,[x]=>(match x with
  |.tup b=>.ok (.int b.length) S|.fix b=>.ok (.int b.length) S|.ref l=>(match S.get l with|some (.lst b)=>.ok (.int b.length) S|_=>.bad)|_=>.bad)
 |.abs,[.int i]=>.ok (.int (if i<0 then -i else i)) S|.max2,[.int i,.int j]=>.ok (.int (if j>i then j else i)) S|.min2,[.int i,.int j]=>.ok (.int (if j<i then j else i)) S|.isin t,[x]=>(match tyOf S x with|some a=>.ok (.bl (a==t||(a=="bool"&&t=="int"))) S|none=>.bad)|_,_=>.bad
noncomputable def isL(S:St):D->Bool
 |.ref l=>(match S.get l with|some (.lst _)=>Γ|_=>Δ)|_=>Δ
noncomputable def mt(S:St):Mt->D->List D->Out D
 |.append,.ref l,[y]=>(match S.get l with|some (.lst a)=>wr S l (a++[y]) .non|_=>.bad)
 |.popAt,.ref l,[.int i]=>(match S.get l with
  |some (.lst a)=>if 0<=i then(match a[i.toNat]? with|some y=>wr S l (a.eraseIdx i.toNat) y|none=>.bad) else .bad|_=>.bad)
 |.count,.ref l,[.int i]=>(match S.get l with
  |some (.lst a)=>(match zbq a with|some os=>.ok (.int (os.count (Φ i):Nat)) S|none=>.bad)|_=>.bad)
 |.count,.ref l,[.non]=>(match S.get l with
  |some (.lst a)=>(match zbq a with|some os=>.ok (.int (os.count Ψ:Nat)) S|none=>.bad)|_=>.bad)
 |_,_,_=>.bad
noncomputable def putP:List (List Int×D)->List Int->D->List (List Int×D)
 | [],k,v=>[(k,v)]|(j,d)::r,k,v=>if j=k then(j,v)::r else(j,d)::putP r k v
noncomputable def putI:List (Int×D)->Int->D->List (Int×D)
 | [],k,v=>[(k,v)]|(j,d)::r,k,v=>if j=k then(j,v)::r else(j,d)::putI r k v
noncomputable def dicI(S:St)(x:D):Option (List Int):=match x with|.ref p=>(match S.get p with|some (.dic a)=>Φ (a.map (·.1))|_=>Ψ)|_=>Ψ
noncomputable def isDt(S:St):D->Bool
 |.ref l=>(match S.get l with|some (.dtp _)=>Γ|_=>Δ)|_=>Δ
noncomputable def dGet(S:St)(x y:D):Option (Option D):=match x with|.ref l=>(match S.get l with|some (.dtp a)=>(zdf y).map λk=>valP a k|_=>Ψ)|_=>Ψ
noncomputable def dPut(S:St)(x y v:D):Option St:=match x with
 |.ref l=>(match S.get l with
  |some (.dtp a)=>(zdf y).bind λk=>if a.length<16777216 then S.put l (.dtp (putP a k v)) else Ψ|some (.dic a)=>(zcz y).bind λk=>if a.length<16777216 then S.put l (.dic (putI a k v)) else Ψ|some (.d3 a)=>(key3 y).bind λk=>if a.length<16777216 then S.put l (.d3 (zeS a k v)) else Ψ|some (.lst b)=>(zcz y).bind λi=>(ixN b.length i).bind λj=>S.put l (.lst (b.set j v))|_=>Ψ)
 |_=>Ψ
noncomputable def lsts(S:St)(x y:D):Option (Nat×List D×List D):=match x,y with|.ref p,.ref r=>(match S.get p,S.get r with|some (.lst a),Φ (.lst b)=>Φ (p,a,b)|_,_=>Ψ)|_,_=>Ψ
noncomputable def zf9(S:St)(x y v:D):Option (D×St):=match dGet S x y with|some (Φ u)=>Φ (u,S)|some Ψ=>(dPut S x y v).map λT=>(v,T)|none=>Ψ
noncomputable def valI(a:List (Int×D))(k:Int):Option D:=(a.find? λb=>decide (b.1=k)).map (·.2)
noncomputable def isDi(S:St):D->Bool
 |.ref l=>(match S.get l with|some (.dic _)=>Γ|_=>Δ)|_=>Δ
noncomputable def zgb(S:St)(x y:D):Option (Option D):=match x with|.ref l=>(match S.get l with|some (.dic a)=>(zcz y).map λk=>valI a k|_=>Ψ)|_=>Ψ
noncomputable def zfg(S:St)(x y v:D):Option (D×St):=match zgb S x y with|some (Φ u)=>Φ (u,S)|some Ψ=>(dPut S x y v).map λT=>(v,T)|none=>Ψ
noncomputable def zcj(S:St):D->Option (Nat×List (Str×D))
 |.ref l=>(match S.get l with|some (.ins c a)=>Φ (c,a)|_=>Ψ)|_=>Ψ
noncomputable def zjF(f:Str)(v:D):List (Str×D)->List (Str×D)
 | []=>[(f,v)]|(g,x)::r=>if g=f then(g,v)::r else(g,x)::zjF f v r
noncomputable def zb9(S:St)(x:D)(f:Str)(v:D):Option St:=match x with|.ref l=>(match S.get l with|some (.ins c a)=>if a.length<1000 then S.put l (.ins c (zjF f v a)) else Ψ|_=>Ψ)|_=>Ψ
noncomputable def zkj:D->Bool|.non=>Γ|_=>Δ
mutual
inductive CE where
 |loc (i:Nat)
 |con (d:D)
 |tst (a:CE)
 |bin (op:Operator) (a b:CE)
 |neg (a:CE)
 |nt (a:CE)
 |cmp (op:CmpOp) (a b:CE)
 |cmp2 (op op':CmpOp) (a b c:CE)
 |and (a b:CE)
 |or (a b:CE)
 |ite (c a b:CE)
 |tup (es:CEs)
 |lst (es:CEs)
 |dnew
 |dnewT
 |dnew3
 |srtK (a:CE)
 |dgetI (a b c:CE)
 |dsetI (a b c:CE)
 |dget2 (a b c:CE)
 |dgN (a b:CE)
 |dsetd (a b c:CE)
 |intb (a:CE)
 |extv (a b:CE)
 |ix (a b:CE)
 |fld (a:CE) (f:Str)
 |mk (c f:Nat) (x:Str) (j:Nat) (es:CEs)
 |meth (m:Str) (tb:List (Nat×Nat)) (o:CE) (es:CEs)
 |callC (f:Nat) (x m:Str) (es:CEs)
 |clr (a:CE)
 |sl (a:CE) (ml mh:Bool) (lo hi:CE)
 |call (f j:Nat) (es:CEs)
 |callW (f j:Nat) (es:CEs)
 |bi (b:Bi) (es:CEs)
 |mt (m:Mt) (o:CE) (es:CEs)
 |mkL (l:CL)
 |all (l:CL)
 |ext (a:CE) (l:CL)
 |lenset (l:CL)
 |srt (a:CE)
inductive CEs where
 |nil
 |cons (e:CE) (r:CEs)
inductive CL where
 |val (e:CE)
 |rng1 (a:CE)
 |rng2 (a b:CE)
 |enum (a:CE)
 |comp (nt:Nat) (js:List Nat) (g:List Nat) (it:CL) (c:CE) (e:CE)
end
inductive CS where
 |nil
 |stop
 |asg (i:Nat) (e:CE) (r:CS)
 |asgT (g:List Nat) (e:CE) (r:CS)
 |setIx (a b e:CE) (r:CS)
 |setF (a:CE) (f:Str) (e:CE) (r:CS)
 |ifS (c:CE) (t u:CS) (r:CS)
 |forS (g:List Nat) (l:CL) (b:CS) (r:CS)
 |ret (e:CE) (r:CS)
 |expr (e:CE) (r:CS)
abbrev Ev:=List (Option D)
noncomputable def zd5:List Nat->List D->Ev->Ev
 |i::b,d::c,a=>zd5 b c (a.set i (Φ d))|_,_,a=>a
noncomputable def asgG(g:List Nat)(x:D)(δ:Ev):Option Ev:=match g with| [i]=>Φ (δ.set i (Φ x))|is=>(match x with|.tup a=>if a.length=is.length then Φ (zd5 is a δ) else Ψ|_=>Ψ)
noncomputable def ziy(x y:D):D:=.tup [x,y]
noncomputable def zer(S:St):D->Option (List D×List Nat)
 |.ref l=>(match S.get l with|some (.lst a)=>Φ (a.mapIdx λi d=>ziy (.int i) d,[l])|_=>Ψ)|_=>Ψ
abbrev CF:=Nat->List D->St->Out D
noncomputable def zde(S:St)(d:D)(T:St):Out D:=
 if flat S.len d then .ok d S else
 let a:Out D:=.ok d ⟨S.frz,S.new++T.new,S.lk⟩
 match d with
  |.ref l=>(match T.get l with
   |some (.lst c)=>if flats S.len c then .ok (.ref S.len) (S.push (.lst c)) else a|some (.dic b)=>if flats S.len (b.map (·.2)) then .ok (.ref S.len) (S.push (.dic b)) else a|some (.dtp b)=>if flats S.len (b.map (·.2)) then .ok (.ref S.len) (S.push (.dtp b)) else a|_=>a)
  |_=>a
noncomputable def zj6(S:St)(d:D)(T:St):Out (List D):=match d with|.ref l=>if l<S.len then .bad else(match T.get l with|some (.lst a)=>if flats S.len a then .ok a S else .bad|_=>.bad)|_=>.bad
@[irreducible]noncomputable def app(cf:CF)(f:Nat)(ds:List D)(S:St):Out D:=(cf f ds S.enter).bind λd T=>zde S d T
@[irreducible]noncomputable def appL(cf:CF)(f:Nat)(ds:List D)(S:St):Out (List D):=(cf f ds S.enter).bind λd T=>zj6 S d T
@[irreducible]noncomputable def appW(cf:CF)(f:Nat)(ds:List D)(S:St):Out D:=cf f ds S
noncomputable def csl(a:Nat)(b:List Nat)(δ:Ev):Ev:=List.replicate a Ψ++b.map λj=>(δ[j]?).join
noncomputable def zaG(g:List Nat)(c:Ev->St->Out Bool)(e:Ev->St->Out D):List D->Ev->St->Out (List D)
 | [],_,S=>.ok [] S| x::f,i,S=>match asgG g x i with|none=>.bad|some a=>(c a S).bind λb h=>if b then(e a h).bind λd j=>(zaG g c e f a j).bind λk l=>.ok (d::k) l else zaG g c e f a h
noncomputable def za7{α:Type}(b:List Nat)(S:St)(f:St->Out α):Out α:=(f {S with lk:=b++S.lk}).bind λa c=>.ok a {c with lk:=S.lk}
noncomputable def zgi:D->Option Bool
 |.bl b=>Φ b|_=>Ψ
noncomputable def allD(ds:List D):Option Bool:=(ds.mapM zgi).map λa=>a.all id
noncomputable def insZ(x:Int):List Int->List Int
 | []=>[x]|y::l=>if x<=y then x::y::l else y::insZ x l
noncomputable def zcH:List Int->List Int
 | []=>[]|x::l=>insZ x (zcH l)
noncomputable def lstI(S:St)(x:D):Option (List Int):=match x with|.ref p=>(match S.get p with|some (.lst a)=>zax a|_=>Ψ)|_=>Ψ
noncomputable def dedup(xs:List Int):List Int:=xs.foldl (λa x=>if a.contains x then a else a++[x]) []
section
variable(cf:CF)
mutual
noncomputable def evE(e₀:CE)(δ:Ev)(S:St):Out D:=match e₀ with
 |.loc i=>lift S (δ[i]?).join|.con d=>.ok d S|.tst _=>.bad|.bin op a b=>(evE a δ S).bind λx S1=>(evE b δ S1).bind λy S2=>binD S2 op x y|.neg a=>(evE a δ S).bind λx S1=>match x with|.int i=>.ok (.int (-i)) S1|_=>.bad
 |.nt a=>(evE a δ S).bind λx S1=>match x with|.bl b=>.ok (.bl (!b)) S1|_=>.bad
 |.cmp op a b=>(evE a δ S).bind λx S1=>(evE b δ S1).bind λy S2=>(lift S2 (cmpD S2 op x y)).bind λk S3=>.ok (.bl k) S3|.cmp2 op op' a b c=>(evE a δ S).bind λx S1=>(evE b δ S1).bind λy S2=>(lift S2 (cmpD S2 op x y)).bind λk S3=>if k then(evE c δ S3).bind λz S4=>(lift S4 (cmpD S4 op' y z)).bind λk' S5=>.ok (.bl k') S5 else .ok (.bl Δ) S3|.and a b=>(evE a δ S).bind λx S1=>match x with|.bl k=>if k then evE b δ S1 else .ok (.bl Δ) S1|_=>.bad
 |.or a b=>(evE a δ S).bind λx S1=>match x with|.bl k=>if k then .ok (.bl Γ) S1 else evE b δ S1|_=>.bad
 |.ite c a b=>(evT c δ S).bind λk S1=>if k then evE a δ S1 else evE b δ S1|.tup es=>(evEs es δ S).bind λds S1=>if ds.length<=16777216 then .ok (.tup ds) S1 else .bad|.lst es=>(evEs es δ S).bind λds S1=>lay S1 ds|.dnew=>.ok (.ref S.len) (S.push (.dic []))|.dnewT=>.ok (.ref S.len) (S.push (.dtp []))|.dnew3=>.ok (.ref S.len) (S.push (.d3 []))|.srtK a=>(evE a δ S).bind λx S1=>(lift S1 (zfP S1 x)).bind λq S2=>if q.2.length<1000/\q.2.Nodup then lay S2 (srtD q.1 q.2) else .bad|.dgN a b=>(evE a δ S).bind λx S1=>(lift S1 (d3K S1 x)).bind λ_ S2=>(evE b δ S2).bind λy S3=>(lift S3 (ziT S3 x y)).bind λo S5=>.ok (o.getD .non) S5|.dget2 a b c=>(evE a δ S).bind λx S1=>if isDt S1 x then(evE b δ S1).bind λy S2=>(evE c δ S2).bind λz S3=>(lift S3 (dGet S3 x y)).bind λo S4=>.ok (o.getD z) S4 else .bad|.dgetI a b c=>(evE a δ S).bind λx S1=>if isDi S1 x then(evE b δ S1).bind λy S2=>(evE c δ S2).bind λz S3=>(lift S3 (zgb S3 x y)).bind λo S4=>.ok (o.getD z) S4 else .bad|.dsetd a b c=>(evE a δ S).bind λx S1=>if isDt S1 x then(evE b δ S1).bind λy S2=>(evE c δ S2).bind λz S3=>(lift S3 (zf9 S3 x y z)).bind λo _=>.ok o.1 o.2 else .bad|.dsetI a b c=>(evE a δ S).bind λx S1=>if isDi S1 x then(evE b δ S1).bind λy S2=>(evE c δ S2).bind λz S3=>(lift S3 (zfg S3 x y z)).bind λo _=>.ok o.1 o.2 else .bad|.intb a=>(evE a δ S).bind λx S1=>match x with|.bl b=>.ok (.int (if b then 1 else 0)) S1|_=>.bad
 |.extv a b=>(evE a δ S).bind λx S1=>if isL S1 x then(evE b δ S1).bind λy S2=>(lift S2 (lsts S2 x y)).bind λo S3=>wr S3 o.1 (o.2.1++o.2.2) .non else .bad|.fld a f=>(evE a δ S).bind λx S1=>lift S1 ((zcj S1 x).bind λp=>p.2.lookup f)|.mk c f _ j es=>(evEs es δ S).bind λds S1=>(appW cf f (.ref S1.len::(ds++List.replicate j .non)) (S1.push (.ins c []))).bind λd S2=>if zkj d then .ok (.ref S1.len) S2 else .bad|.meth m tb o es=>(evE o δ S).bind λx S1=>(lift S1 (zcj S1 x)).bind λp S1=>(lift S1 (tb.lookup p.1)).bind λf S1=>if(p.2.lookup m).isNone then(evEs es δ S1).bind λds S2=>appW cf f (x::ds) S2 else .bad|.callC f _ _ es=>(evEs es δ S).bind λds S1=>appW cf f ds S1|.clr a=>(evE a δ S).bind λx S1=>if isL S1 x then(match x with|.ref l=>wr S1 l [] .non|_=>.bad) else .bad|.ix a b=>(evE a δ S).bind λx S1=>(evE b δ S1).bind λy S2=>match zcg S2 x,y with|some ds,.int i=>lift S2 (atI ds i)|_,_=>.bad
 |.sl a ml mh lo hi=>(evE a δ S).bind λx S1=>(evE lo δ S1).bind λy S2=>(evE hi δ S2).bind λz S3=>match zbH ml y,zbH mh z with
  |some l,Φ h=>(match x with
   |.tup ds=>.ok (.tup (cut ds l h)) S3|.fix ds=>lay S3 (cut ds l h)|.ref p=>(match S3.get p with|some (.lst ds)=>lay S3 (cut ds l h)|_=>.bad)|_=>.bad)
  |_,_=>.bad
 |.call f j es=>(evEs es δ S).bind λds S1=>app cf f (ds++List.replicate j .non) S1|.callW f j es=>(evEs es δ S).bind λds S1=>appW cf f (ds++List.replicate j .non) S1|.bi b es=>(evEs es δ S).bind λds S1=>R.bi S1 b ds|.mt m o es=>(evE o δ S).bind λx S1=>if isL S1 x then(evEs es δ S1).bind λds S2=>R.mt S2 m x ds else .bad|.mkL l=>(evL l δ S).bind λr S1=>lay S1 r.1|.all l=>(evL l δ S).bind λr S1=>(lift S1 (allD r.1)).bind λb S2=>.ok (.bl b) S2
 |.ext a l=>(evE a δ S).bind λx S1=>if isL S1 x then(evL l δ S1).bind λr S2=>(match x with
  |.ref p=>(match S2.get p with|some (.lst ds)=>wr S2 p (ds++r.1) .non|_=>.bad)|_=>.bad) else .bad
 |.lenset l=>(evL l δ S).bind λr S1=>(lift S1 (zax r.1)).bind λis S2=>if is.length<4000 then .ok (.int (dedup is).length) S2 else .bad|.srt a=>(evE a δ S).bind λx S1=>(lift S1 (lstI S1 x)).bind λis S2=>if is.length<64 then lay S2 ((zcH is).map .int) else .bad
noncomputable def evEs(e₀:CEs)(δ:Ev)(S:St):Out (List D):=match e₀ with|.nil=>.ok [] S|.cons e r=>(evE e δ S).bind λd S1=>(evEs r δ S1).bind λds S2=>.ok (d::ds) S2
noncomputable def evT(e₀:CE)(δ:Ev)(S:St):Out Bool:=match e₀ with|.cmp op a b=>(evE a δ S).bind λx S1=>(evE b δ S1).bind λy S2=>lift S2 (cmpD S2 op x y)|.cmp2 op op' a b c=>(evE a δ S).bind λx S1=>(evE b δ S1).bind λy S2=>(lift S2 (cmpD S2 op x y)).bind λk S3=>if k then(evE c δ S3).bind λz S4=>lift S4 (cmpD S4 op' y z) else .ok Δ S3|.nt a=>(evT a δ S).bind λk S1=>.ok (!k) S1|.and a b=>(evT a δ S).bind λk S1=>if k then evT b δ S1 else .ok Δ S1|.or a b=>(evT a δ S).bind λk S1=>if k then .ok Γ S1 else evT b δ S1|.tst e=>(evE e δ S).bind λx S1=>lift S1 (tru S1 x)|_=>.bad
noncomputable def evL(e₀:CL)(δ:Ev)(S:St):Out (List D×List Nat):=match e₀ with
 |.val e=>(evE e δ S).bind λx S1=>(lift S1 (zcg S1 x)).bind λds S2=>.ok (ds,lkOf S2 x) S2|.rng1 a=>(evE a δ S).bind λx S1=>match x with|.int j=>if -(2^62)<=j/\j<2^62 then .ok ((List.range j.toNat).map λ(k:Nat)=>.int k,[]) S1 else .bad|_=>.bad
 |.rng2 a b=>(evE a δ S).bind λx S1=>(evE b δ S1).bind λy S2=>match x,y with
  |.int i,.int j=>if -(2^62)<=i/\i<2^62/\-(2^62)<=j/\j<2^62 then .ok ((List.range (j-i).toNat).map λ(k:Nat)=>.int (i+k),[]) S2 else .bad|_,_=>.bad
 |.enum a=>(evE a δ S).bind λx S1=>lift S1 (zer S1 x)|.comp n js g it c e=>(evL it δ S).bind λr S1=>(za7 r.2 S1 λS2=>zaG g (evT c) (evE e) r.1 (csl n js δ) S2).bind λds S3=>if ds.length<=16777216 then .ok (ds,[]) S3 else .bad
end
inductive Fl where
 |nx (δ:Ev)|rt (d:D)
noncomputable def zaV(g:List Nat)(b:Ev->St->Out Fl):List D->Ev->St->Out Fl
 | [],a,S=>.ok (.nx a) S| x::i,a,S=>match asgG g x a with|none=>.bad| some c=>(b c S).bind λf h=>match f with|.nx e=>zaV g b i e h|.rt d=>.ok (.rt d) h
noncomputable def exS(o:CS)(δ:Ev)(S:St):Out Fl:=match o with
 |.nil=>.ok (.nx δ) S|.stop=>.bad|.asg i e r=>(evE cf e δ S).bind λx h=>exS r (δ.set i (Φ x)) h|.asgT g e r=>(evE cf e δ S).bind λx h=>(lift h (asgG g x δ)).bind λj m=>exS r j m|.setIx a b e r=>(evE cf e δ S).bind λv h=>(evE cf a δ h).bind λx m=>(evE cf b δ m).bind λy n=>match dPut n x y v with|some p=>exS r δ p|none=>.bad
 |.setF a f e r=>(evE cf e δ S).bind λv h=>(evE cf a δ h).bind λx m=>match zb9 m x f v with|some n=>exS r δ n|none=>.bad
 |.ifS c t u r=>(evT cf c δ S).bind λk h=>(if k then exS t δ h else exS u δ h).bind λf m=>match f with
  |.nx j=>exS r j m|.rt d=>.ok (.rt d) m
 |.forS g l b r=>(evL cf l δ S).bind λq h=>(za7 q.2 h λm=>zaV g (exS b) q.1 δ m).bind λf n=>match f with
  |.nx j=>exS r j n|.rt d=>.ok (.rt d) n
 |.ret e _=>(evE cf e δ S).bind λx h=>.ok (.rt x) h|.expr e r=>(evE cf e δ S).bind λ_ h=>exS r δ h
end
inductive Prim where
 |tally|way
 |lam
noncomputable def rowD(r:Int×Int):D:=.tup [.int r.1,.int r.2]
noncomputable def talD(os:List (Option Int)):List D:=(zpN (zes [] os)).map rowD
noncomputable def prm(S:St):Prim->List D->Out D
 |.tally,[.ref l]=>(match S.get l with
  |some (.lst a)=>(match zbq a with
   |some os=>if(zes [] os).length<64/\os.length<=16777216 then .ok (.ref S.len) (S.push (.lst (talD os))) else .bad|none=>.bad)
  |_=>.bad)
 |.way,[.str x]=>if x=("oral":Str)\/x=("kings":Str) then .ok (.str x) S else .bad|_,_=>.bad
structure Fn where
 np:Nat
 nn:Nat
 body:CS
 prim:Option Prim
noncomputable def zaB(F:Fn)(ds:List D):Ev:=ds.map Φ++List.replicate (F.nn-F.np) Ψ
noncomputable def callF(P:List Fn):Nat->CF
 |0,_,_,_=>.bad
 |n+1,f,a,S=>match P[f]? with
  | some F=>if a.length=F.np then(match F.prim with
     |some .lam=>if 3<=n then(exS (callF P n) F.body (zaB F a) S).bind λr T=>(match r with
      |.nx _=>.ok .non T|.rt d=>.ok d T) else .bad
     |some p=>if 3<=n then prm S p a else .bad| none=>(exS (callF P n) F.body (zaB F a) S).bind λr T=>match r with|.nx _=>.ok .non T|.rt d=>.ok d T)
    else .bad
  |none=>.bad
@[simp]theorem za2{α β:Type}(a:α)(S:St)(f:α->St->Out β):(Out.ok a S).bind f=f a S:=rfl
@[simp]theorem zsb{α β:Type}(f:α->St->Out β):(Out.bad:Out α).bind f=.bad:=rfl
@[simp]theorem zsa{α β:Type}(d:D)(S:St)(f:α->St->Out β):(Out.err d S:Out α).bind f=.err d S:=rfl
@[simp]theorem zcw{α:Type}(S:St)(a:α):lift S (Φ a)=.ok a S:=rfl
theorem zcB(S:St):S.enter.get=S.get:=by funext l;simp only[St.get,St.enter,length_append,List.getElem?_append];by_cases h:l<S.frz.length;simp[h,lt_of_lt_of_le h (Nat.le_add_right _ _)];simp only[h,if_false];split;rfl;simp only[List.getElem?_nil];exact(List.getElem?_eq_none (by lia)).symm
@[simp]theorem zkI(S:St):S.enter.frz=S.frz++S.new:=rfl
@[simp]theorem zrP(S:St):S.enter.new=[]:=rfl
@[simp]theorem zr9(S:St):S.enter.lk=[]:=rfl
@[simp]theorem enter_len(S:St):S.enter.len=S.len:=by simp[St.len]
theorem ze6(S:St):(S.frz++S.new).length=S.len:=by simp[St.len]
theorem get_lt{S:St}(h:S.get l=Φ o):l<S.len:=by unfold St.get at h;unfold St.len;split at h;lia;have:=(Α.mp h).1;lia
theorem zky{S:St}(h:S.get l=Φ o)(a)(lk):(St.mk (S.frz++S.new) a lk).get l=Φ o:=by
 have b:=get_lt h;rw[<-zcB]at h;unfold St.get at h⊢;have e:l<(S.frz++S.new).length:=by rw[ze6];exact b
 simp only[zkI,e]at h⊢;exact h
theorem zkz(F a)(lk)(i):(St.mk F a lk).get (F.length+i)=a[i]?:=by
 have:¬F.length+i<F.length:=by lia
 simp[St.get,this]
@[simp]theorem zr6(n:Nat):flat n .non=Γ:=by simp[flat]
@[simp]theorem ztb(n:Nat)(b:Bool):flat n (.bl b)=Γ:=by simp[flat]
@[simp]theorem zr7(n:Nat)(i:Int):flat n (.int i)=Γ:=by simp[flat]
@[simp]theorem zr5(n:Nat)(x:Str):flat n (.str x)=Γ:=by simp[flat]
@[simp]theorem zhZ(n:Nat)(ds:List D):flat n (.tup ds)=flats n ds:=by simp[flat]
@[simp]theorem zr8(n:Nat)(ds:List D):flat n (.fix ds)=flats n ds:=by simp[flat]
@[simp]theorem zrJ(n:Nat):flats n []=Γ:=by simp[flats]
@[simp]theorem zep(n:Nat)(d:D)(ds:List D):flats n (d::ds)=(flat n d&&flats n ds):=by simp[flats]
@[simp]theorem zf1(n:Nat):∀ds es:List D,flats n (ds++es)=(flats n ds&&flats n es)
  | [],es=>by simp|d::ds,es=>by simp[zf1 n ds es,Bool.and_assoc]
theorem zbM(n):∀ds:List D,flats n ds=Γ↔∀d∈ds,flat n d=Γ
 | []=>by simp|d::ds=>by simp[zbM n ds]
@[simp]theorem zpr(n:Nat)(ns:List Int):flats n (ns.map D.int)=Γ:=by rw[zbM];simp
@[simp]theorem ziI(S:St)(d:D)(T:St)(h:flat S.len d=Γ):zde S d T=.ok d S:=by simp[zde,h]
def W{α:Type}(o:Out α)(Q:α->St->Prop):Prop:=match o with|.ok a S=>Q a S|_=>False
@[simp]theorem W_ok{α:Type}(a:α)(S:St)(Q:α->St->Prop):W (.ok a S) Q=Q a S:=rfl
@[simp]theorem ztn{α:Type}(Q:α->St->Prop):W (.bad:Out α) Q=False:=rfl
@[simp]theorem ztm{α:Type}(d:D)(S:St)(Q:α->St->Prop):W (.err d S:Out α) Q=False:=rfl
@[simp]theorem zaa{α β:Type}(o:Out α)(f:α->St->Out β)(Q:β->St->Prop):W (o.bind f) Q=W o λa S=>W (f a S) Q:=by cases o<;>rfl
theorem W.mono(h:W o Q)(b:∀a S,Q a S->c a S):W o c:=by cases o with|ok a S=>exact b a S h|err d S=>exact h|bad=>exact h
theorem W.eq(h:W o λa T=>a=d/\T=S):o=.ok d S:=by cases o with|ok a T=>obtain⟨rfl,rfl⟩:=h;rfl|err d S=>exact False.elim h|bad=>exact False.elim h
theorem W.of(h:o=.ok d S)(q:Q d S):W o Q:=by rw[h];exact q
theorem W.iff:W o Q↔∃a S,o=.ok a S/\Q a S:=by cases o with|ok a S=>exact⟨λh=>⟨a,S,rfl,h⟩,λ⟨_,_,e,h⟩=>by cases e;exact h⟩|err d S=>exact⟨λh=>h.elim,λk=>(by obtain⟨_,_,e,_⟩:=k;cases e)⟩|bad=>exact⟨λh=>h.elim,λz=>(by obtain⟨_,_,e,_⟩:=z;cases e)⟩
noncomputable def fin(S:St)(r:Fl)(T:St):Out D:=match r with|.nx _=>zde S .non T|.rt d=>zde S d T
@[simp]theorem zkE(S T:St)(d:D):fin S (.rt d) T=zde S d T:=rfl
@[simp]theorem ztk(S T:St)(δ:Ev):fin S (.nx δ) T=.ok .non S:=by simp[fin]
theorem zk4(h:P[f]?=Φ F)(a:ds.length=F.np)(b:F.prim=Ψ:=by rfl):
  app (callF P (n+1)) f ds S=(exS (callF P n) F.body (zaB F ds) S.enter).bind λr T=>fin S r T:=by
 simp only[app,callF,h,a,b,if_true];generalize exS (callF P n) F.body (zaB F ds) S.enter=o;cases o with|ok r T=>cases r<;>rfl|err d S=>rfl|bad=>rfl
noncomputable def finL(S:St)(r:Fl)(T:St):Out (List D):=match r with|.nx _=>.bad|.rt d=>zj6 S d T
@[simp]theorem ztc(S T:St)(d:D):finL S (.rt d) T=zj6 S d T:=rfl
theorem zaQ(I:Nat->Ev->St->Prop)(l:D->St->Prop):∀(xs:List D)(k:Nat)(δ:Ev)(S:St),I k δ S->
  (∀i x δ S,xs[i]?=Φ x->I (k+i) δ S->∃a,asgG g x δ=Φ a/\W (b a S) λf j=>match f with|.nx c=>I (k+i+1) c j|.rt d=>l d j)->
  W (zaV g b xs δ S) λf j=>match f with|.nx a=>I (k+xs.length) a j|.rt d=>l d j
 | [],k,δ,S,h,_=>by simpa[zaV]using h| x::xs,k,δ,S,h,step=>by obtain⟨a,e,w⟩:=step 0 x δ S rfl h;simp only[zaV,e,zaa];refine w.mono λf o m=>?_;cases f with|rt d=>exact m| nx c=>have n:=zaQ I l xs (k+1) c o m (λi y δ S p q=>by have:=step (i+1) y δ S (by simpa using p) (by rw[show k+(i+1)=k+1+i by lia];exact q);rw[show k+(i+1)+1=k+1+i+1 by lia]at this;exact this);rw[show k+1+xs.length=k+(x::xs).length by simp;lia]at n;exact n
theorem zbr(p)(f):∀(xs:List D)(o:Option D),
  (∀x∈xs,c (Φ x::a) S=.ok (p x) S)->(∀x∈xs,p x=Γ->e (Φ x::a) S=.ok (f x) S)->zaG [0] c e xs (o::a) S=.ok ((xs.filter p).map f) S
 | [],o,_,_=>rfl| x::xs,o,g,h=>by have i:=zbr p f xs (Φ x) (λy b=>g y (Τ _ b)) (λy b=>h y (Τ _ b));simp only[zaG,asgG,List.set_cons_zero,g x ϊ,za2];cases d:p x with|false=>simp[i,d]|true=>simp[i,d,h x ϊ d]
@[simp]theorem zpq{α:Type}(S:St)(f:St->Out α):za7 [] S f=(f S).bind λa S'=>.ok a {S' with lk:=S.lk}:=rfl
theorem W.b(h:W (o.bind f) Q):W o λa S=>W (f a S) Q:=Eq.mp (zaa o f Q) h
def wIf(c:Bool)(P Q:Prop):Prop:=match c with|true=>P|false=>Q
@[irreducible]def wOpt{α:Type}(o:Option α)(k:α->Prop):Prop:=match o with|some a=>k a|none=>False
@[irreducible]def zaP(p k:Prop):Prop:=p/\k
@[irreducible]def wOut{α:Type}(o:Out α)(Q:α->St->Prop):Prop:=W o Q
theorem zgq(h:c=Γ)(k:P):wIf c P Q:=by subst h;exact k
theorem zb7(h:c=Δ)(k:Q):wIf c P Q:=by subst h;exact k
theorem zi8(a:c=Γ->P)(b:c=Δ->Q):wIf c P Q:=by cases c with|true=>exact zgq rfl (a rfl)|false=>exact zb7 rfl (b rfl)
theorem zi7[Decidable p](a:p->P)(b:¬p->Q):wIf (decide p) P Q:=zi8 (λh=>a (of_decide_eq_true h)) (λh=>b (of_decide_eq_false h))
theorem wOpt_of(h:o=Φ a)(q:k a):wOpt o k:=by unfold wOpt;rw[h];exact q
theorem wNeed_of(h:p)(q:k):zaP p k:=by unfold zaP;exact⟨h,q⟩
theorem wOut_of(h:o=.ok a S)(q:Q a S):wOut o Q:=by unfold wOut;rw[h];exact q
theorem zbh(h:W o Q):wOut o Q:=by unfold wOut;exact h
theorem zpC:wOpt o (λa=>Q a S)=W (lift S o) Q:=by unfold wOpt;cases o<;>rfl
theorem zaO(h:wOpt o k):∃a,o=Φ a/\k a:=by unfold wOpt at h;cases o with|none=>exact h.elim|some a=>exact⟨a,rfl,h⟩
theorem zbA[Decidable p](h:zaP p k)(q:k->W o Q):W (if p then o else .bad) Q:=by unfold zaP at h;rw[if_pos h.1];exact q h.2
abbrev wGet(S:St)(l:Nat)(k:MO->Prop):Prop:=wOpt (S.get l) k
abbrev wPut(S:St)(l:Nat)(o:MO)(k:St->Prop):Prop:=wOpt (S.put l o) k
theorem zlb{S:St}(h:S.get l=Φ o)(q:k o):wGet (St.mk (S.frz++S.new) a lk) l k:=wOpt_of (zky h a lk) q
theorem zhg(h:a[i]?=Φ o)(q:k o):wGet (St.mk F a lk) (F.length+i) k:=wOpt_of ((zkz F a lk i).trans h) q
theorem zof(h:lk.contains (F.length+i)=Δ):(St.mk F nw lk).put (F.length+i) o=Φ ⟨F,nw.set i o,lk⟩:=by
 have h1:¬F.length+i<F.length:=by lia
 simp only[St.put,h1,if_false,h,Ρ,Nat.add_sub_cancel_left]
theorem zk9(h:lk.contains (F.length+i)=Δ)(q:k ⟨F,a.set i o,lk⟩):wPut (St.mk F a lk) (F.length+i) o k:=wOpt_of (zof h) q
def wLay(S:St)(ds:List D)(Q:D->St->Prop):Prop:=zaP (ds.length<=16777216) (Q (.ref S.len) (S.push (.lst ds)))
theorem zhf(h:wLay S a Q):W (lay S a) Q:=zbA h id
def wWr(S:St)(l:Nat)(ds:List D)(d:D)(Q:D->St->Prop):Prop:=zaP (ds.length<=16777216) (wPut S l (.lst ds) λa=>Q d a)
theorem znw(h:wWr S l ds d Q):W (wr S l ds d) Q:=by refine zbA h λh=>?_;obtain⟨_,e,h⟩:=zaO h;rw[e];exact h
def zpE(S:St)(op:Operator)(i j:Int)(Q:D->St->Prop):Prop:=match op with|.Add=>Q (.int (i+j)) S|.Sub=>Q (.int (i-j)) S|.Mult=>zaP (zbJ i j=Γ) (Q (.int (i*j)) S)|.FloorDiv=>zaP (0<j/\j<1073741824) (Q (.int (i/j)) S)|.Mod=>zaP (0<j) (Q (.int (i%j)) S)|.Pow=>zaP (0<=j/\j<=1000000/\-18446744073709551616<i/\i<18446744073709551616) (Q (.int (i^j.toNat)) S)|_=>False
def wBin(S:St)(op:Operator)(x y:D)(Q:D->St->Prop):Prop:=match x,y with|.int i,.int j=>zpE S op i j Q|.tup c,.tup d=>(match op with|.Add=>zaP (c.length+d.length<=16777216) (Q (.tup (c++d)) S)|_=>False)|.ref a,.ref b=>(match op with|.Add=>wGet S a λo=>wGet S b λu=>(match o,u with|.lst c,.lst d=>wLay S (c++d) Q|_,_=>False)|_=>False)|_,_=>False
theorem zpD(h:wBin S op x y Q):W (binD S op x y) Q:=by
 unfold wBin at h;unfold binD;split at h
 . unfold zpE zaP at h;unfold binI;split at h<;>(try dsimp only)<;>first|exact h|(rw[if_pos h.1];exact h.2)|exact False.elim h
 split at h;exact zbA h id;exact h.elim;split at h
 . obtain⟨o,a,h⟩:=zaO h;obtain⟨u,b,h⟩:=zaO h;simp only[a,b];cases o<;>cases u<;>first|exact zhf h|exact h.elim
 exact h.elim;exact h.elim
def wCmp(S:St)(op:CmpOp)(x y:D)(Q:Bool->Prop):Prop:=match x,y with|.int i,.int j=>(match cmpI op i j with|some k=>Q k|none=>False)| _,_=>(match op with|.Is=>(match cmpO S .Is x y with|some k=>Q k|none=>False)|.IsNot=>(match cmpO S .IsNot x y with|some k=>Q k|none=>False)|_=>wOpt (cmpO S op x y) Q)
set_option tactic.hygienic true in
theorem zpg(h:∀i j,x=.int i->y=.int j->False):cmpD S op x y=cmpO S op x y:=by unfold cmpD;split;rename_i i j;exact(h i j rfl rfl).elim;rfl
set_option tactic.hygienic true in
theorem zja(h:wCmp S op x y Q):∃k,cmpD S op x y=Φ k/\Q k:=by
 have fin:∀o:Option Bool,(match o with|some k=>Q k|none=>False)->∃k,o=Φ k/\Q k:=λo q=>by cases o with|none=>exact q.elim|some k=>exact⟨k,rfl,q⟩
 unfold wCmp at h;split at h;exact fin _ h;rename_i a;rw[zpg a];split at h;exact fin _ h;exact fin _ h;unfold wOpt at h;cases e:cmpO S op x y with|none=>rw[e]at h;exact h.elim|some k=>rw[e]at h;exact⟨k,rfl,h⟩
theorem zmR(h:wCmp S op x y λk=>Q k S):W (lift S (cmpD S op x y)) Q:=by obtain⟨k,e,q⟩:=zja h;rw[e];exact q
def wBi(S:St)(b:Bi)(ds:List D)(Q:D->St->Prop):Prop:=match b,ds with
 |.len,[x]=>(match x with
  |.tup ds=>Q (.int ds.length) S|.fix ds=>Q (.int ds.length) S|.ref l=>wGet S l λo=>(match o with|.lst ds=>Q (.int ds.length) S|_=>False)|_=>False)
 |.abs,[.int i]=>Q (.int (if i<0 then -i else i)) S|.max2,[.int i,.int j]=>Q (.int (if j>i then j else i)) S|.min2,[.int i,.int j]=>Q (.int (if j<i then j else i)) S|.isin t,[x]=>wOpt (tyOf S x) λa=>Q (.bl (a==t||(a=="bool"&&t=="int"))) S|_,_=>False
theorem zsg(h:wBi S b ds Q):W (bi S b ds) Q:=by
 unfold wBi at h;split at h
 all_goals
  repeat' first
  |exact h
  |exact h.elim
  |split at h
  |(obtain⟨o,e,h⟩:=zaO h;simp only[bi,e])
def wIsL(S:St)(x:D)(P:Prop):Prop:=match x with|.ref l=>wGet S l λo=>(match o with|.lst _=>P|_=>False)|_=>False
theorem zi6(h:wIsL S x P):isL S x=Γ/\P:=by
 unfold wIsL at h;split at h
 . obtain⟨o,e,h⟩:=zaO h;cases o<;>first|exact⟨by simp only[isL,e],h⟩|exact h.elim
 exact h.elim
def wMt(S:St)(m:Mt)(x:D)(ds:List D)(Q:D->St->Prop):Prop:=match m,x,ds with
 |.append,.ref l,[y]=>wGet S l λo=>(match o with|.lst ds=>wWr S l (ds++[y]) .non Q|_=>False)
 |.popAt,.ref l,[.int i]=>wGet S l λo=>(match o with
  |.lst ds=>zaP (0<=i) (wOpt ds[i.toNat]? λy=>wWr S l (ds.eraseIdx i.toNat) y Q)|_=>False)
 |.count,.ref l,[.int i]=>wGet S l λo=>(match o with
  |.lst ds=>wOpt (zbq ds) λos=>Q (.int (os.count (Φ i):Nat)) S|_=>False)
 |.count,.ref l,[.non]=>wGet S l λo=>(match o with
  |.lst ds=>wOpt (zbq ds) λos=>Q (.int (os.count Ψ:Nat)) S|_=>False)
 |_,_,_=>False
theorem zse(h:wMt S m x ds Q):W (mt S m x ds) Q:=by
 unfold wMt at h;split at h
 all_goals
  repeat' first
  |exact h.elim
  |exact h
  |exact znw h
  |refine zbA h λh=>?_
  |(obtain⟨o,e,h⟩:=zaO h;simp only[mt,e])
  |split at h
def wSeq(S:St)(x:D)(k:List D->Prop):Prop:=match x with|.tup a=>k a|.fix a=>k a|.ref l=>wGet S l λo=>(match o with|.lst a=>k a|_=>False)|_=>False
theorem zi3(h:wSeq S x k):∃a,zcg S x=Φ a/\k a:=by
 unfold wSeq at h;split at h;exact⟨_,rfl,h⟩;exact⟨_,rfl,h⟩
 . obtain⟨o,e,h⟩:=zaO h;cases o<;>first|exact⟨_,by simp only[zcg,e],h⟩|exact h.elim
 exact h.elim
def wTru(S:St)(x:D)(Q:Bool->Prop):Prop:=match x with|.bl b=>Q b|.non=>Q Δ|.int i=>Q (i != 0)|.tup a=>Q (!a.isEmpty)|.ref l=>wGet S l λo=>(match o with|.lst a=>Q (!a.isEmpty)|_=>False)|_=>False
theorem zpA(h:wTru S x λk=>Q k S):W (lift S (tru S x)) Q:=by
 unfold wTru at h;split at h
 all_goals
  repeat' first
  |exact h
  |exact h.elim
  |split at h
  |(obtain⟨o,e,h⟩:=zaO h;simp only[tru,e])
@[irreducible]def zic{α:Type}(ls:List Nat)(S:St)(f:St->Out α)(Q:α->St->Prop):Prop:=W (za7 ls S f) Q
theorem zi5(h:zic a S f Q):W (za7 a S f) Q:=by unfold zic at h;exact h
theorem zaw(h:W (f {S with lk:=b++S.lk}) λa T=>Q a {T with lk:=S.lk}):zic b S f Q:=by unfold zic za7;rw[zaa];exact h
section
variable(cf:CF)
mutual
def wE(e₀:CE)(δ:Ev)(S:St)(Q:(D->St->Prop)):Prop:=match e₀ with
 |.loc i=>(match (δ[i]?).join with|some d=>Q d S|none=>False)|.con d=>Q d S|.tst _=>False|.bin op a b=>wE a δ S λx S1=>wE b δ S1 λy S2=>wBin S2 op x y Q|.neg a=>wE a δ S λx S1=>(match x with|.int i=>Q (.int (-i)) S1|_=>False)|.nt a=>wE a δ S λx S1=>(match x with|.bl b=>Q (.bl (!b)) S1|_=>False)|.cmp op a b=>wE a δ S λx S1=>wE b δ S1 λy S2=>wCmp S2 op x y λk=>Q (.bl k) S2|.cmp2 op op' a b c=>wE a δ S λx S1=>wE b δ S1 λy S2=>wCmp S2 op x y λk=>wIf k (wE c δ S2 λz S4=>wCmp S4 op' y z λk'=>Q (.bl k') S4) (Q (.bl Δ) S2)|.and a b=>wE a δ S λx S1=>(match x with|.bl k=>wIf k (wE b δ S1 Q) (Q (.bl Δ) S1)|_=>False)|.or a b=>wE a δ S λx S1=>(match x with|.bl k=>wIf k (Q (.bl Γ) S1) (wE b δ S1 Q)|_=>False)|.ite c a b=>wT c δ S λk S1=>wIf k (wE a δ S1 Q) (wE b δ S1 Q)|.tup es=>wEs es δ S λds S1=>zaP (ds.length<=16777216) (Q (.tup ds) S1)|.lst es=>wEs es δ S λds S1=>wLay S1 ds Q|.dnew=>Q (.ref S.len) (S.push (.dic []))|.dnewT=>Q (.ref S.len) (S.push (.dtp []))|.dnew3=>Q (.ref S.len) (S.push (.d3 []))|.srtK a=>wE a δ S λr S1=>wOpt (zfP S1 r) λq=>zaP (q.2.length<1000/\q.2.Nodup) (wLay S1 (srtD q.1 q.2) Q)|.dgN a b=>wE a δ S λx S1=>wOpt (d3K S1 x) λ_=>wE b δ S1 λy S2=>wOpt (ziT S2 x y) λo=>Q (o.getD .non) S2|.dget2 a b c=>wE a δ S λx S1=>zaP (isDt S1 x=Γ) (wE b δ S1 λy S2=>wE c δ S2 λz S3=>wOpt (dGet S3 x y) λo=>Q (o.getD z) S3)|.dgetI a b c=>wE a δ S λx S1=>zaP (isDi S1 x=Γ) (wE b δ S1 λy S2=>wE c δ S2 λz S3=>wOpt (zgb S3 x y) λo=>Q (o.getD z) S3)|.dsetd a b c=>wE a δ S λx S1=>zaP (isDt S1 x=Γ) (wE b δ S1 λy S2=>wE c δ S2 λz S3=>wOpt (zf9 S3 x y z) λo=>Q o.1 o.2)|.dsetI a b c=>wE a δ S λx S1=>zaP (isDi S1 x=Γ) (wE b δ S1 λy S2=>wE c δ S2 λz S3=>wOpt (zfg S3 x y z) λo=>Q o.1 o.2)|.intb a=>wE a δ S λx S1=>(match x with|.bl b=>Q (.int (if b then 1 else 0)) S1|_=>False)|.extv a b=>wE a δ S λx S1=>wIsL S1 x (wE b δ S1 λy S2=>wOpt (lsts S2 x y) λo=>wWr S2 o.1 (o.2.1++o.2.2) .non Q)|.fld a f=>wE a δ S λx S1=>wOpt ((zcj S1 x).bind λp=>p.2.lookup f) λv=>Q v S1|.mk c f _ j es=>wEs es δ S λds S1=>wOut (appW cf f (.ref S1.len::(ds++List.replicate j .non)) (S1.push (.ins c []))) λd S2=>zaP (zkj d=Γ) (Q (.ref S1.len) S2)|.meth m tb o es=>wE o δ S λx S1=>wOpt (zcj S1 x) λp=>wOpt (tb.lookup p.1) λf=>zaP ((p.2.lookup m).isNone=Γ) (wEs es δ S1 λds S2=>wOut (appW cf f (x::ds) S2) Q)|.callC f _ _ es=>wEs es δ S λds S1=>wOut (appW cf f ds S1) Q|.clr a=>wE a δ S λx S1=>wIsL S1 x (match x with|.ref l=>wWr S1 l [] .non Q|_=>False)|.ix a b=>wE a δ S λx S1=>wE b δ S1 λy S2=>wSeq S2 x λds=>(match y with|.int i=>wOpt (atI ds i) λd=>Q d S2|_=>False)
 |.sl a ml mh lo hi=>wE a δ S λx S1=>wE lo δ S1 λy S2=>wE hi δ S2 λz S3=>(match zbH ml y,zbH mh z with
  |some l,Φ h=>(match x with
   |.tup ds=>Q (.tup (cut ds l h)) S3|.fix ds=>wLay S3 (cut ds l h) Q|.ref p=>wGet S3 p λo=>(match o with|.lst ds=>wLay S3 (cut ds l h) Q|_=>False)|_=>False)
  |_,_=>False)
 |.call f j es=>wEs es δ S λds S1=>wOut (app cf f (ds++List.replicate j .non) S1) Q|.callW f j es=>wEs es δ S λds S1=>wOut (appW cf f (ds++List.replicate j .non) S1) Q|.bi b es=>wEs es δ S λds S1=>wBi S1 b ds Q|.mt m o es=>wE o δ S λx S1=>wIsL S1 x (wEs es δ S1 λds S2=>wMt S2 m x ds Q)|.mkL l=>wL l δ S λr S1=>wLay S1 r.1 Q|.all l=>wL l δ S λr S1=>wOpt (allD r.1) λb=>Q (.bl b) S1
 |.ext a l=>wE a δ S λx S1=>wIsL S1 x (wL l δ S1 λr S2=>(match x with
  |.ref p=>wGet S2 p λo=>(match o with|.lst ds=>wWr S2 p (ds++r.1) .non Q|_=>False)|_=>False))
 |.lenset l=>wL l δ S λr S1=>wOpt (zax r.1) λis=>zaP (is.length<4000) (Q (.int (dedup is).length) S1)|.srt a=>wE a δ S λr S1=>wOpt (lstI S1 r) λis=>zaP (is.length<64) (wLay S1 ((zcH is).map .int) Q)
def wEs(e₀:CEs)(δ:Ev)(S:St)(Q:(List D->St->Prop)):Prop:=match e₀ with|.nil=>Q [] S|.cons e r=>wE e δ S λd S1=>wEs r δ S1 λds S2=>Q (d::ds) S2
def wT(e₀:CE)(δ:Ev)(S:St)(Q:(Bool->St->Prop)):Prop:=match e₀ with|.cmp op a b=>wE a δ S λx S1=>wE b δ S1 λy S2=>wCmp S2 op x y λk=>Q k S2|.cmp2 op op' a b c=>wE a δ S λx S1=>wE b δ S1 λy S2=>wCmp S2 op x y λk=>wIf k (wE c δ S2 λz S4=>wCmp S4 op' y z λk'=>Q k' S4) (Q Δ S2)|.nt a=>wT a δ S λk S1=>Q (!k) S1|.and a b=>wT a δ S λk S1=>wIf k (wT b δ S1 Q) (Q Δ S1)|.or a b=>wT a δ S λk S1=>wIf k (Q Γ S1) (wT b δ S1 Q)|.tst e=>wE e δ S λx S1=>wTru S1 x λk=>Q k S1|_=>False
def wL(e₀:CL)(δ:Ev)(S:St)(Q:(List D×List Nat->St->Prop)):Prop:=match e₀ with
 |.val e=>wE e δ S λx S1=>wSeq S1 x λds=>Q (ds,lkOf S1 x) S1|.rng1 a=>wE a δ S λx S1=>(match x with|.int j=>zaP (-(2^62)<=j/\j<2^62) (Q ((List.range j.toNat).map λ(k:Nat)=>.int k,[]) S1)|_=>False)
 |.rng2 a b=>wE a δ S λx S1=>wE b δ S1 λy S2=>(match x,y with
  |.int i,.int j=>zaP (-(2^62)<=i/\i<2^62/\-(2^62)<=j/\j<2^62) (Q ((List.range (j-i).toNat).map λ(k:Nat)=>.int (i+k),[]) S2)|_,_=>False)
 |.enum a=>wE a δ S λx S1=>wOpt (zer S1 x) λr=>Q r S1|.comp n js g it c e=>wL it δ S λr S1=>zic r.2 S1 (λS2=>zaG g (evT cf c) (evE cf e) r.1 (csl n js δ) S2) λds S3=>zaP (ds.length<=16777216) (Q (ds,[]) S3)
end
def wS(o:CS)(δ:Ev)(S:St)(Q:(Fl->St->Prop)):Prop:=match o with|.nil=>Q (.nx δ) S|.stop=>False|.asg i e r=>wE cf e δ S λx h=>wS r (δ.set i (Φ x)) h Q|.asgT g e r=>wE cf e δ S λx h=>wOpt (asgG g x δ) λj=>wS r j h Q|.setIx a b e r=>wE cf e δ S λv h=>wE cf a δ h λx m=>wE cf b δ m λy n=>wOpt (dPut n x y v) λp=>wS r δ p Q|.setF a f e r=>wE cf e δ S λv h=>wE cf a δ h λx m=>wOpt (zb9 m x f v) λn=>wS r δ n Q|.ifS c t u r=>wT cf c δ S λk h=>wIf k (wS t δ h λf m=>(match f with|.nx j=>wS r j m Q|.rt d=>Q (.rt d) m)) (wS u δ h λf m=>(match f with|.nx j=>wS r j m Q|.rt d=>Q (.rt d) m))|.forS g l b r=>wL cf l δ S λq h=>zic q.2 h (λm=>zaV g (exS cf b) q.1 δ m) λf n=>(match f with|.nx j=>wS r j n Q|.rt d=>Q (.rt d) n)|.ret e _=>wE cf e δ S λx h=>Q (.rt x) h|.expr e r=>wE cf e δ S λ_ h=>wS r δ h Q
end
section
variable{cf:CF}
theorem W.bnd(h:W o P)(k:∀a S,P a S->W (f a S) Q):W (o.bind f) Q:=by rw[zaa];exact h.mono k
theorem zmO(h:wOpt o k)(q:∀a,k a->W (f a S) Q):W ((lift S o).bind f) Q:=by obtain⟨a,rfl,g⟩:=zaO h;exact q a g
theorem zi4(h:wOpt o λa=>Q a S):W (lift S o) Q:=by rw[<-zpC];exact h
theorem zmP(h:wIsL S x P)(q:P->W o Q):W (if isL S x then o else .bad) Q:=by rw[if_pos (zi6 h).1];exact q (zi6 h).2
theorem zla(h:wIf c A B)(a:A->W o Q)(b:B->W u Q):W (if c then o else u) Q:=by cases c with|true=>exact a h|false=>exact b h
theorem zsf{o u:Out d}{f:d->St->Out e}{Q:e->St->Prop}(h:wIf c A B)(a:A->W (o.bind f) Q)(b:B->W (u.bind f) Q):W ((if c then o else u).bind f) Q:=by cases c with|true=>exact a h|false=>exact b h
theorem zmQ(h:wCmp S op x y k)(q:∀b,k b->W (f b S) Q):W ((lift S (cmpD S op x y)).bind f) Q:=by obtain⟨b,e,h⟩:=zja h;rw[e];exact q b h
theorem zpB(h:wSeq S x k)(q:∀b,k b->W (f b S) Q):W ((lift S (zcg S x)).bind f) Q:=by obtain⟨b,e,h⟩:=zi3 h;rw[e];exact q b h
theorem zmN(h:wOut o Q):W o Q:=by unfold wOut at h;exact h
mutual
theorem wE_W(e:CE){δ:Ev}{S:St}{Q:D->St->Prop}(h:wE cf e δ S Q):W (evE cf e δ S) Q:=by
 cases e with
 |loc i=>
  show W (lift S _) Q;conv at h=>whnf
  split at h;rename_i e;rw[e];exact h;exact h.elim
 |ix a b=>refine W.bnd (wE_W a h) λx S1 h=>W.bnd (wE_W b h) λy S2 h=>?_;obtain⟨ds,e,h⟩:=zi3 h;rw[e];cases y with|int i=>exact zi4 h|_=>exact h.elim
 |sl a ml mh lo hi=>
  refine W.bnd (wE_W a h) λx S1 h=>W.bnd (wE_W lo h) λy S2 h=>W.bnd (wE_W hi h) λz S3 h=>?_;cases ey:zbH ml y<;>cases ez:zbH mh z<;>rw[ey,ez]at h<;>try exact h.elim
  cases x with
  |tup=>exact h|fix=>exact zhf h| ref=>obtain⟨o,e,h⟩:=zaO h;simp only[e];cases o<;>first|exact zhf h|exact h.elim
  |_=>exact h.elim
 |ext a l=>
  refine W.bnd (wE_W a h) λx S1 h=>zmP h λh=>W.bnd (wL_W l h) λr S2 h=>?_;cases x with
  |ref p=>obtain⟨o,e,h⟩:=zaO h;simp only[e];cases o<;>first|exact znw h|exact h.elim
  |_=>exact h.elim
 |_=>
  conv at h=>whnf
  first
  |exact h
  |exact h.elim
  |refine W.bnd (wE_W _ h) λ_ _ h=>?_|refine W.bnd (znx _ h) λ_ _ h=>?_|refine W.bnd (wL_W _ h) λ_ _ h=>?_|refine W.bnd (wT_W _ h) λ_ _ h=>?_
  repeat' first
  |exact h
  |exact h.elim
  |exact zpD h
  |exact zsg h
  |exact zse h
  |exact zhf h
  |exact znw h
  |exact zmN h
  |exact zi4 h
  |exact wE_W _ h
  |refine W.bnd (wE_W _ h) λ_ _ h=>?_|refine W.bnd (znx _ h) λ_ _ h=>?_|refine W.bnd (zmN h) λ_ _ h=>?_|refine zmQ h λ_ h=>?_|refine zmO h λ_ h=>?_|refine zbA h λh=>?_|refine zmP h λh=>?_|refine zla h (λh=>?_) λh=>?_
  |split at h
theorem znx(es:CEs){δ:Ev}{S:St}{Q:List D->St->Prop}(h:wEs cf es δ S Q):W (evEs cf es δ S) Q:=by cases es with|nil=>exact h|cons e r=>exact W.bnd (wE_W e h) λ_ _ h=>W.bnd (znx r h) λ_ _ h=>h
theorem wT_W(e:CE){δ:Ev}{S:St}{Q:Bool->St->Prop}(h:wT cf e δ S Q):W (evT cf e δ S) Q:=by cases e with|cmp op a b=>exact W.bnd (wE_W a h) λ_ _ h=>W.bnd (wE_W b h) λ_ _ h=>zmR h|cmp2 op op' a b c=>exact W.bnd (wE_W a h) λ_ _ h=>W.bnd (wE_W b h) λ_ _ h=>zmQ h λ_ h=>zla h (λh=>W.bnd (wE_W c h) λ_ _ h=>zmR h) λh=>h|nt a=>exact W.bnd (wT_W a h) λ_ _ h=>h|and a b=>exact W.bnd (wT_W a h) λ_ _ h=>zla h (wT_W b) λh=>h|or a b=>exact W.bnd (wT_W a h) λ_ _ h=>zla h (λh=>h) (wT_W b)|tst e=>exact W.bnd (wE_W e h) λ_ _ h=>zpA h|_=>exact h.elim
theorem wL_W(l:CL){δ:Ev}{S:St}{Q:List D×List Nat->St->Prop}(h:wL cf l δ S Q):W (evL cf l δ S) Q:=by
 cases l with
 |val e=>exact W.bnd (wE_W e h) λ_ _ h=>zpB h λ_ h=>h| rng1 a=>refine W.bnd (wE_W a h) λx _ h=>?_;cases x<;>first|exact zbA h λh=>h|exact h.elim
 |rng2 a b=>refine W.bnd (wE_W a h) λx _ h=>W.bnd (wE_W b h) λy _ h=>?_;cases x<;>first|exact h.elim|(cases y<;>first|exact zbA h λh=>h|exact h.elim)
 |enum a=>exact W.bnd (wE_W a h) λ_ _ h=>zi4 h|comp n js g it c e=>exact W.bnd (wL_W it h) λ_ _ h=>W.bnd (zi5 h) λ_ _ h=>zbA h λh=>h
end
theorem wS_W(s)(h:wS cf s δ S Q):W (exS cf s δ S) Q:=by
 induction s generalizing δ S Q with
 |nil=>exact h|stop=>exact h.elim|asg i e r d=>exact W.bnd (wE_W e h) λ_ _ h=>d h|asgT g e r d=>exact W.bnd (wE_W e h) λ_ _ h=>zmO h λ_ h=>d h|setIx a b e r d=>exact W.bnd (wE_W e h) λ_ _ h=>W.bnd (wE_W a h) λ_ _ h=>W.bnd (wE_W b h) λ_ _ h=>(zaO h).elim λ_ h=>by rw[h.1];exact d h.2|setF a f e r d=>exact W.bnd (wE_W e h) λ_ _ h=>W.bnd (wE_W a h) λ_ _ h=>(zaO h).elim λ_ h=>by rw[h.1];exact d h.2| ifS c t u r j k d=>
  refine W.bnd (wT_W c h) λ_ _ h=>zsf h (λh=>W.bnd (j h) λf _ h=>?_) λh=>W.bnd (k h) λf _ h=>?_
  all_goals
   cases f with|nx=>exact d h|rt=>exact h
 |forS g l b r m d=>refine W.bnd (wL_W l h) λ_ _ h=>W.bnd (zi5 h) λf _ h=>?_;cases f with|nx=>exact d h|rt=>exact h
 |ret e=>exact W.bnd (wE_W e h) λ_ _ h=>h|expr e r d=>exact W.bnd (wE_W e h) λ_ _ h=>d h
@[irreducible]def wFin(S:St)(r:Fl)(T:St)(Q:D->St->Prop):Prop:=W (fin S r T) Q
theorem zr2(h:P[f]?=Φ F)(a:ds.length=F.np)(w:wS (callF P n) F.body (zaB F ds) S.enter λr T=>wFin S r T Q)(b:F.prim=Ψ:=by rfl):
  W (app (callF P (n+1)) f ds S) Q:=by
 rw[zk4 h a b,zaa];refine(wS_W _ w).mono λr T q=>?_;unfold wFin at q;exact q
theorem zaX(h:P[f]?=Φ F)(b:ds.length=F.np)(w:wS (callF P n) F.body (zaB F ds) S.enter λr T=>wFin S r T λa c=>a=d/\c=e)(g:F.prim=Ψ:=by rfl):
 app (callF P (n+1)) f ds S=.ok d e:=W.eq (zr2 h b w g)
theorem zao(h:flat S.len d=Γ)(q:Q d S):wFin S (.rt d) T Q:=by unfold wFin;rw[zkE,ziI S d T h];exact q
theorem zdr(c:S.len<=l)(a:T.get l=Φ (.lst ds))(h:flats S.len ds=Γ)(q:Q (.ref S.len) (S.push (.lst ds))):wFin S (.rt (.ref l)) T Q:=by
 have b:flat S.len (.ref l)=Δ:=by simp[flat];omega
 unfold wFin;rw[zkE];unfold zde;simp only[b,a,h];exact q
theorem zlc(b:a[i]?=Φ (.lst ds))(h:flats S.len ds=Γ)(q:Q (.ref S.len) (S.push (.lst ds))):
  wFin S (.rt (.ref ((S.frz++S.new).length+i))) (St.mk (S.frz++S.new) a lk) Q:=
 zdr (by rw[ze6];lia) ((zkz _ a lk i).trans b) h q
theorem zi9(c:S.len<=l)(a:T.get l=Φ (.lst ds))(h:flats S.len ds=Δ)(q:Q (.ref l) ⟨S.frz,S.new++T.new,S.lk⟩):wFin S (.rt (.ref l)) T Q:=by
 have b:flat S.len (.ref l)=Δ:=by simp[flat];omega
 unfold wFin;rw[zkE];unfold zde;simp only[b,a,h,Ρ,if_false];exact q
end
structure Frm(S S':St):Prop where
 frz:S'.frz=S.frz
 lk:S'.lk=S.lk
 len:S.new.length<=S'.new.length
 same:∀l∈S.lk,l<S.len->S'.get l=S.get l
theorem Frm.refl(S):Frm S S:=⟨rfl,rfl,le_refl _,λ_ _ _=>rfl⟩
theorem Frm.lens(h:Frm S a):S.len<=a.len:=by unfold St.len;rw[h.frz];have:=h.len;lia
theorem Frm.trans(a:Frm S e)(b:Frm e d):Frm S d:=⟨b.frz.trans a.frz,b.lk.trans a.lk,le_trans a.len b.len,λl c h=>(b.same l (by rw[a.lk];exact c) (lt_of_lt_of_le h a.lens)).trans (a.same l c h)⟩
theorem Frm.push(S)(o):Frm S (S.push o):=by refine⟨rfl,rfl,by simp[St.push],λl _ h=>?_⟩;unfold St.len at h;unfold St.get St.push;simp only;split;rfl;rw[getElem?_append_left (by omega)]
theorem Frm.put(h:S.put l o=Φ a):Frm S a:=by
 unfold St.put at h;split at h;exact nS h;split at h;exact nS h;rename_i f b;injection h with h;subst h;refine⟨rfl,rfl,by simp,λm c g=>?_⟩;have d:m≠l:=λe=>by subst e;exact b (by simpa using c)
 unfold St.get;simp only;split;rfl;rw[getElem?_set_ne (by lia)]
theorem Frm.keep(S T:St):Frm S ⟨S.frz,S.new++T.new,S.lk⟩:=by refine⟨rfl,rfl,by simp,λl _ h=>?_⟩;unfold St.len at h;unfold St.get;simp only;split;rfl;rw[getElem?_append_left (by omega)]
noncomputable def Fr{α:Type}(S:St)(o:Out α):Prop:=∀a T,o=.ok a T->Frm S T
section
variable{α β:Type}{S T:St}{o:Out α}
theorem Fr.of(h:Frm S T):Fr S (.ok a T):=λ_ _ e=>by cases e;exact h
theorem Fr.ok:Fr S (.ok a S):=.of (.refl S)
theorem Fr.bad:Fr S (.bad:Out α):=λ_ _ e=>by cases e
theorem Fr.to(h:Frm S T)(k:Fr T o):Fr S o:=λa U e=>h.trans (k a U e)
theorem Fr.bind(h:Fr S o)(k:∀a T,Fr T (f a T)):Fr S (o.bind f):=by cases o with|ok a T=>exact .to (h a T rfl) (k a T)|_=>exact λ_ _ e=>by cases e
theorem Fr.w(f:Fr S o)(h:W o Q):W o λa T=>Q a T/\Frm S T:=by cases o with|ok a T=>exact⟨h,f a T rfl⟩|_=>exact h
theorem Fr.lift{o:Option α}:Fr S (lift S o):=by cases o with|none=>exact .bad|some=>exact .ok
theorem Fr.lock(h:∀S,Fr S (f S)):Fr S (za7 d S f):=by unfold za7;cases e:f {S with lk:=d++S.lk} with|ok a T=>exact .of (have h:=h _ a T e;⟨h.frz,rfl,h.len,λl b c=>h.same l (mem_append_right _ b) c⟩)|_=>exact λ_ _ e=>by cases e
theorem zrI:Fr S (lay S a):=by unfold lay;split;exact .of (.push _ _);exact .bad
theorem frWr:Fr S (wr S l a d):=by
 unfold wr
 repeat' first
 |exact .bad
 |exact .of (.put (by assumption))
 |split
theorem zs9:Fr S (binD S op x y):=by
 unfold binD binI
 repeat' first
 |exact .bad
 |exact .ok
 |exact zrI
 |split
theorem frBi:Fr S (bi S b a):=by
 cases b<;>rcases a with _|⟨x,_|⟨y,_|⟨z,_⟩⟩⟩
 all_goals first
 |exact .bad
 |exact .ok
 |(unfold bi;dsimp only;split<;>first|exact .bad|exact .ok|(split<;>first|exact .bad|exact .ok))
 |(cases x<;>first|exact .bad|exact .ok|(cases y<;>first|exact .bad|exact .ok))
theorem frMt:Fr S (mt S m x a):=by
 cases m<;>cases x<;>(try exact .bad)<;>rcases a with _|⟨y,_|⟨z,_⟩⟩
 all_goals first
 |exact .bad
 |(unfold mt;dsimp only;split<;>first|exact .bad|exact frWr)
 |(cases y<;>first
  |exact .bad
  |(unfold mt;dsimp only;repeat' first
   |exact .bad
   |exact .ok
   |exact frWr
   |split))
theorem zs8(h:zb9 S x f v=Φ T):Frm S T:=by
 unfold zb9 at h
 repeat' first
 |exact .put h
 |exact nS h
 |split at h
theorem zo4(h:dPut S x y v=Φ T):Frm S T:=by
 unfold dPut Option.bind at h
 repeat' first
 |exact .put h
 |exact nS h
 |split at h
 |dsimp only at h
theorem zs7:Fr S ((R.lift S (zfg S x y v)).bind λo _=>.ok o.1 o.2):=by
 unfold zfg;split;exact .ok;cases e:dPut S x y v with|none=>exact .bad|some=>exact .of (zo4 e)
 exact .bad
theorem zrH:Fr S ((R.lift S (zf9 S x y v)).bind λo _=>.ok o.1 o.2):=by
 unfold zf9;split;exact .ok;cases e:dPut S x y v with|none=>exact .bad|some=>exact .of (zo4 e)
 exact .bad
theorem zo5:Fr S (zde S d T):=by
 unfold zde;dsimp only
 repeat' first
 |exact .ok
 |exact .of (.push _ _)
 |exact .of (.keep _ _)
 |split
theorem zta:Fr S (app cf f ds S):=by unfold app;cases cf f ds S.enter with|ok=>exact zo5|_=>exact λ_ _ e=>by cases e
theorem frC(a:∀δ S,Fr S (c δ S))(b:∀δ S,Fr S (e δ S))(xs)(δ)(S):Fr S (zaG g c e xs δ S):=by
 induction xs generalizing δ S with
 |nil=>exact .ok| cons x xs d=>
  unfold zaG
  repeat' first
  |exact .bad
  |exact .ok
  |exact d _ _
  |exact a _ _
  |exact b _ _
  |refine Fr.bind ?_ λ_ _=>?_
  |split
theorem frF(a:∀δ S,Fr S (b δ S))(xs)(δ)(S):Fr S (zaV g b xs δ S):=by
 induction xs generalizing δ S with
 |nil=>exact .ok| cons x xs c=>
  unfold zaV
  repeat' first
  |exact .bad
  |exact .ok
  |exact c _ _
  |exact a _ _
  |refine Fr.bind ?_ λ_ _=>?_
  |split
end
def CFok(cf:CF):Prop:=∀f a S d T,cf f a S=.ok d T->Frm S T
section
variable{cf:CF}(hcf:CFok cf)
include hcf
theorem frW{f:Nat}{a:List D}{S:St}:Fr S (appW cf f a S):=by unfold appW;exact hcf f a S
mutual
theorem frE(e:CE)(δ:Ev)(S:St):Fr S (evE cf e δ S):=by
 cases e
 all_goals
  first
  |exact .ok
  |exact .bad
  |exact .lift
  |exact .of (.push _ _)
  |refine Fr.bind ?_ λ_ _=>?_
 all_goals
  repeat' first
  |exact .ok
  |exact .bad
  |exact .lift
  |exact frE _ _ _
  |exact frEs _ _ _
  |exact frT _ _ _
  |exact frL _ _ _
  |exact zs9
  |exact frBi
  |exact frMt
  |exact zrI
  |exact frWr
  |exact zta
  |exact frW hcf
  |exact .to (.push _ _) (frW hcf)
  |exact zs7
  |exact zrH
  |refine Fr.bind ?_ λ_ _=>?_
  |split
theorem frEs(e:CEs)(δ:Ev)(S:St):Fr S (evEs cf e δ S):=by cases e with|nil=>exact .ok|cons e r=>exact .bind (frE e δ S) λ_ T=>.bind (frEs r δ T) λ_ _=>.ok
theorem frT(e:CE)(δ:Ev)(S:St):Fr S (evT cf e δ S):=by
 cases e
 all_goals
  first
  |exact .bad
  |refine Fr.bind ?_ λ_ _=>?_
 all_goals
  repeat' first
  |exact .ok
  |exact .lift
  |exact frE _ _ _
  |exact frT _ _ _
  |refine Fr.bind ?_ λ_ _=>?_
  |split
theorem frL(e:CL)(δ:Ev)(S:St):Fr S (evL cf e δ S):=by
 cases e
 all_goals
  refine Fr.bind ?_ λ_ _=>?_
  all_goals
   repeat' first
   |exact .ok
   |exact .bad
   |exact .lift
   |exact frE _ _ _
   |exact frL _ _ _
   |exact .lock λ_=>frC (λδ S=>frT _ δ S) (λδ S=>frE _ δ S) _ _ _|refine Fr.bind ?_ λ_ _=>?_
   |split
end
theorem frS(s:CS)(δ:Ev)(S:St):Fr S (exS cf s δ S):=by
 cases s
 all_goals
  first
  |exact .ok
  |exact .bad
  |refine Fr.bind ?_ λ_ _=>?_
 all_goals
  repeat' first
  |exact .ok
  |exact .bad
  |exact .lift
  |exact frE hcf _ _ _
  |exact frT hcf _ _ _
  |exact frL hcf _ _ _
  |exact frS _ _ _
  |exact .to (zo4 (by assumption)) (frS _ _ _)
  |exact .to (zs8 (by assumption)) (frS _ _ _)
  |exact .lock λ_=>frF (λδ S=>frS _ δ S) _ _ _|refine Fr.bind ?_ λ_ _=>?_
  |split
end
end R
namespace R
open PySem L2
def KL(K:Frag)(a:Addr)(xs:List V):Prop:=∃(o:Obj) (b:Array Θ) (n:Nat),K.lookup a=Φ o/\o.cls=.type "list"/\o.dict=Ψ/\o.data=.seq b n/\b.size<=sizeLine/\Vals xs b.toList
def FixL(K:Frag)(H:Hp)(a:Addr)(xs:List V):Prop:=(∃o,H a=Φ (.frz o (.lst xs)))\/KL K a xs
theorem FixL.sq(h:FixL K H a xs):SqL K H a xs:=h.elim (λz=>(by obtain⟨o,e⟩:=z;exact .inl (.inr ⟨o,e⟩))) .inr
class Mks where
 ts:List (Addr×Str)
 cl:List Addr
variable[Mks]
def TabIn(H:Hp)(P:Addr)(q:Str):Prop:=∃a:Array Θ,H P=Φ (.tbl a)/\TriplesOk a.toList/\
 ∀(pos:Pos)(v:Θ),codeAmong pos a.toList=Φ v->∃(c:Addr) (b:Obj) (d:Array Θ) (t:Tok),v=.ref c/\H c=Φ (.frz b (.own 0))/\b.data=.fields d/\d[1]?=Φ (.str q t)
theorem TabIn.up(t:TabIn H P q)(e:H' P=H P)(f:∀b o u,H b=Φ (.frz o u)->H' b=Φ (.frz o u)):TabIn H' P q:=by obtain⟨a,d,g,h⟩:=t;refine⟨a,by rw[e];exact d,g,λpos v i=>?_⟩;obtain⟨c,j,k,t,l,m,n⟩:=h pos v i;exact⟨c,j,k,t,l,f _ _ _ m,n⟩
def TB(H:Hp):Prop:=∀p∈Mks.ts,TabIn H p.1 p.2
structure Kp(H H':Hp):Prop where
 tups:Tups H H'
 frzs:∀b o u,H b=Φ (.frz o u)->H' b=Φ (.frz o u)
 tab:TB H->TB H'
theorem Kp.refl(H):Kp H H:=⟨Tups.refl H,λ_ _ _ h=>h,λh=>h⟩
theorem Kp.trans(a:Kp H d)(b:Kp d e):Kp H e:=⟨a.tups.trans b.tups,λc o u h=>b.frzs c o u (a.frzs c o u h),λh=>b.tab (a.tab h)⟩
theorem Kp.same(a:Tups H H')(b:∀b o u,H b=Φ (.frz o u)->H' b=Φ (.frz o u))(c:∀P f,H P=Φ (.tbl f)->H' P=Φ (.tbl f)):Kp H H':=⟨a,b,λh p d=>by obtain⟨f,e,_⟩:=id (h p d);exact(h p d).up ((c _ _ e).trans e.symm) b⟩
theorem FixL.kp(h:FixL K H a xs)(k:Kp H H'):FixL K H' a xs:=h.elim (λz=>(by obtain⟨o,e⟩:=z;exact .inl ⟨o,k.frzs _ _ _ e⟩)) .inr
mutual
def RV(K:Frag)(ι:List Addr)(H:Hp):D->V->Prop
 |.non,v=>v=.non|.bl b,v=>v=.bl b|.int i,v=>v=.int i|.str x,v=>v=.str x|.tup ds,v=>∃a xs,v=.ref a/\H a=Φ (.tup xs)/\RVs K ι H ds xs|.ref l,v=>∃a,ι[l]?=Φ a/\v=.ref a|.fix ds,v=>∃a xs,v=.ref a/\FixL K H a xs/\RVs K ι H ds xs
def RVs(K:Frag)(ι:List Addr)(H:Hp):List D->List V->Prop
 | [],vs=>vs=[]|d::ds,vs=>∃v r,vs=v::r/\RV K ι H d v/\RVs K ι H ds r
end
noncomputable def kI(k:List Int):List Key:=k.map Sum.inl
def RKs(K:Frag)(ι:List Addr)(H:Hp):List (List Int×D)->List (List Key×V)->Prop
 | [],a=>a=[]|(k,d)::r,a=>∃v w,a=(kI k,v)::w/\RV K ι H d v/\RKs K ι H r w
def RIs(K:Frag)(ι:List Addr)(H:Hp):List (Int×D)->List (Key×V)->Prop
 | [],a=>a=[]|(k,d)::r,a=>∃v w,a=((Sum.inl k:Key),v)::w/\RV K ι H d v/\RIs K ι H r w
def R3s(K:Frag)(ι:List Addr)(H:Hp):List (K3×D)->List (K3×Addr×V)->Prop
 | [],a=>a=[]|(k,d)::r,a=>∃c v w,a=(k,c,v)::w/\Key3 H k c/\RV K ι H d v/\R3s K ι H r w
def RFs(K:Frag)(ι:List Addr)(H:Hp):List (Str×D)->List (Str×V)->Prop
 | [],a=>a=[]|(f,d)::r,a=>∃v w,a=(f,v)::w/\RV K ι H d v/\RFs K ι H r w
def RO(K:Frag)(ι:List Addr)(H:Hp)(a:Addr):MO->Prop
 |.lst f=>∃e,H a=Φ (.lst e)/\RVs K ι H f e|.dic b=>(b.map (·.1)).Nodup/\∃d,H a=Φ (.dK d)/\RIs K ι H b d|.ins c g=>∃C h d,Mks.cl[c]?=Φ C/\H a=Φ (.ins C h d)/\RFs K ι H g d|.dtp b=>(b.map (·.1)).Nodup/\∃d,H a=Φ (.dT d)/\RKs K ι H b d|.d3 b=>(b.map (·.1)).Nodup/\∃d,H a=Φ (.ext (TriO a d))/\R3s K ι H b d
structure RH(K:Frag)(ι:List Addr)(H:Hp)(S:St):Prop where
 len:ι.length=S.len
 nd:ι.Nodup
 obj:∀l o,S.get l=Φ o->∃a,ι[l]?=Φ a/\RO K ι H a o
 tab:TB H
structure Ext(ι:List Addr)(H:Hp)(ι':List Addr)(H':Hp):Prop where
 pre:ι <+: ι'
 kp:Kp H H'
 rest:∀a o,a∉ι->H a=Φ o->(H' a=Φ o\/((∃ps,o=.tbl ps)/\∃ps,H' a=Φ (.tbl ps)))/\a∉ι'
theorem Ext.refl(ι)(H):Ext ι H ι H:=⟨Ϧ _,Kp.refl H,λa o h e=>⟨.inl e,h⟩⟩
theorem Ext.trans(a:Ext ι H f j)(b:Ext f j g k):Ext ι H g k:=⟨a.pre.trans b.pre,a.kp.trans b.kp,λx o h e=>by obtain⟨c,i⟩:=a.rest x o h e;rcases c with c|⟨t,l,c⟩;exact b.rest x o i c;obtain⟨d,m⟩:=b.rest x _ i c;refine⟨.inr ⟨t,?_⟩,m⟩;rcases d with d|⟨_,d⟩;exact⟨l,d⟩;exact d⟩
theorem Ext.keep(x:Ext ι H b c)(h:a∉ι)(e:H a=Φ o)(n:∀d,o≠.tbl d):c a=Φ o:=(x.rest a o h e).1.elim id λk=>(by obtain⟨⟨d,z⟩,_⟩:=k;exact absurd z (n d))
theorem zbF(h:ι <+: b){l:Nat}{a:Addr}(e:ι[l]?=Φ a):b[l]?=Φ a:=by obtain⟨t,rfl⟩:=h;rw[getElem?_append_left (Α.mp e).1];exact e
mutual
theorem RV.up{K:Frag}{ι ι':List Addr}{H H':Hp}(hp:ι <+: ι')(hk:Kp H H'):∀{d:D}{v:V},RV K ι H d v->RV K ι' H' d v
 |.non,_,r=>r|.bl _,_,r=>r|.int _,_,r=>r|.str _,_,r=>r| .tup ds,_,r=>by obtain⟨a,xs,e,ha,q⟩:=r;exact⟨a,xs,e,hk.tups _ _ ha,RVs.up hp hk q⟩| .ref l,_,r=>by obtain⟨a,e,q⟩:=r;exact⟨a,zbF hp e,q⟩| .fix ds,_,r=>by obtain⟨a,xs,e,ha,q⟩:=r;exact⟨a,xs,e,ha.kp hk,RVs.up hp hk q⟩
theorem RVs.up{K:Frag}{ι ι':List Addr}{H H':Hp}(hp:ι <+: ι')(hk:Kp H H'):∀{ds:List D}{vs:List V},RVs K ι H ds vs->RVs K ι' H' ds vs
 | [],_,r=>r| d::ds,vs,r=>by obtain⟨v,w,e,r1,r2⟩:=r;exact⟨v,w,e,RV.up hp hk r1,RVs.up hp hk r2⟩
end
theorem RKs.up(f:ι <+: b)(g:Kp H H'):∀{a:List (List Int×D)}{c:List (List Key×V)},RKs K ι H a c->RKs K b H' a c
 | [],_,r=>r| (k,d)::a,c,r=>by obtain⟨v,w,e,h,i⟩:=r;exact⟨v,w,e,RV.up f g h,RKs.up f g i⟩
theorem RIs.up(c:ι <+: b)(hk:Kp H H'):∀{a:List (Int×D)}{ws:List (Key×V)},RIs K ι H a ws->RIs K b H' a ws
 | [],_,r=>r| (k,d)::a,ws,r=>by obtain⟨v,w,e,f,g⟩:=r;exact⟨v,w,e,RV.up c hk f,RIs.up c hk g⟩
theorem R3s.up(hp:ι <+: ι')(hk:Kp H H'):∀{kvs:List (K3×D)}{ws:List (K3×Addr×V)},R3s K ι H kvs ws->R3s K ι' H' kvs ws
 | [],_,r=>r| (k,d)::kvs,ws,r=>by obtain⟨c,v,w,e,r0,r1,r2⟩:=r;exact⟨c,v,w,e,r0.up hk.tups,RV.up hp hk r1,R3s.up hp hk r2⟩
theorem R3s.length:∀{kvs:List (K3×D)}{ws:List (K3×Addr×V)},R3s K ι H kvs ws->ws.length=kvs.length
 | [],_,r=>by rw[show _=[] from r];rfl| (k,d)::kvs,ws,r=>by obtain⟨c,v,w,rfl,_,_,r2⟩:=r;simp[R3s.length r2]
theorem R3s.keys:∀{kvs:List (K3×D)}{ws:List (K3×Addr×V)},R3s K ι H kvs ws->ws.map (·.1)=kvs.map (·.1)
 | [],_,r=>by rw[show _=[] from r];rfl| (k,d)::kvs,ws,r=>by obtain⟨c,v,w,rfl,_,_,r2⟩:=r;simp[R3s.keys r2]
theorem R3s.triK:∀{kvs:List (K3×D)}{ws:List (K3×Addr×V)},R3s K ι H kvs ws->TriK H ws
 | [],_,r=>by rw[show _=[] from r];intro x hx;cases hx
 |(k,d)::kvs,ws,r=>by obtain⟨c,v,w,rfl,r0,_,r2⟩:=r;intro x hx;rcases mem_cons.mp hx with e|e;subst e;exact r0;exact R3s.triK r2 x e
theorem R3s.put(q:RV K ι H d v)(n:Key3 H k c)(r:R3s K ι H a b):R3s K ι H (zeS a k d) (put3 b k c v):=by
 unfold zeS put3;rw[r.keys];split;rename_i l;clear l;induction a generalizing b with|nil=>rw[show b=[] from r];rfl| cons x a f=>obtain⟨j,e⟩:=x;obtain⟨g,u,w,rfl,h,m,i⟩:=r;rw[Ν,Ν];by_cases z:j=k;rw[if_pos z,if_pos z];exact⟨g,v,_,rfl,h,q,f i⟩;rw[if_neg z,if_neg z];exact⟨g,u,_,rfl,h,m,f i⟩
 rename_i l;clear l;induction a generalizing b with|nil=>rw[show b=[] from r];exact⟨c,v,[],rfl,n,q,rfl⟩| cons x a f=>obtain⟨j,e⟩:=x;obtain⟨g,u,w,rfl,h,m,i⟩:=r;exact⟨g,u,_,rfl,h,m,f i⟩
theorem zgD(h:(c.map (·.1)).Nodup):((zeS c k d).map (·.1)).Nodup:=by unfold zeS;split;rw[map_map,show((λx:K3×D=>x.1)∘λx=>if x.1=k then(x.1,d) else x)=λx=>x.1 from by funext x;show(if x.1=k then(x.1,d) else x).1=x.1;split<;>rfl];exact h;rename_i n;rw[map_append,nodup_append];refine⟨h,by simp,λa f b e=>?_⟩;simp only[Ν,map_nil,mem_singleton]at e;subst e;exact λz=>n (z▸f)
theorem RFs.up(b:ι <+: a)(hk:Kp H H'):∀{c:List (Str×D)}{ws:List (Str×V)},RFs K ι H c ws->RFs K a H' c ws
 | [],_,h=>h| (f,d)::r,_,h=>by obtain⟨v,w,e,g,i⟩:=h;exact⟨v,w,e,RV.up b hk g,RFs.up b hk i⟩
theorem RFs.length:∀{a:List (Str×D)}{ws:List (Str×V)},RFs K ι H a ws->ws.length=a.length
 | [],_,h=>by cases(show _=[] from h);rfl| (f,d)::r,_,h=>by obtain⟨v,w,rfl,c,b⟩:=h;simp[RFs.length b]
theorem RFs.look(f):∀{a:List (Str×D)}{ws:List (Str×V)},RFs K ι H a ws->(a.lookup f=Ψ/\ws.lookup f=Ψ)\/∃d v,a.lookup f=Φ d/\ws.lookup f=Φ v/\RV K ι H d v
 | [],_,h=>by cases(show _=[] from h);exact .inl ⟨rfl,rfl⟩| (g,d)::r,_,h=>by
  obtain⟨v,w,rfl,b,e⟩:=h;by_cases c:(f==g)=Γ;exact .inr ⟨d,v,by simp only[List.lookup,c],by simp only[List.lookup,c],b⟩;have c:(f==g)=Δ:=by simpa using c
  simp only[List.lookup,c];exact RFs.look f e
theorem RFs.put(f)(q:RV K ι H d v):∀{a:List (Str×D)}{ws:List (Str×V)},RFs K ι H a ws->RFs K ι H (zjF f d a) (putF f v ws)
 | [],_,h=>by cases(show _=[] from h);exact⟨v,[],rfl,q,rfl⟩| (g,x)::r,_,h=>by obtain⟨u,w,rfl,e,b⟩:=h;unfold zjF putF;by_cases c:g=f;rw[if_pos c,if_pos c];exact⟨v,w,rfl,q,b⟩;rw[if_neg c,if_neg c];exact⟨u,_,rfl,e,RFs.put f q b⟩
theorem zkd(h:kI j=kI k):j=k:=by unfold kI at h;exact(List.map_inj_right (λa b e=>Sum.inl.inj e)).mp h
theorem RKs.length:∀{a:List (List Int×D)}{b:List (List Key×V)},RKs K ι H a b->b.length=a.length
 | [],_,r=>by rw[show _=[] from r];rfl| (k,d)::a,b,r=>by obtain⟨v,w,rfl,_,c⟩:=r;simp[RKs.length c]
theorem RIs.length:∀{a:List (Int×D)}{ws:List (Key×V)},RIs K ι H a ws->ws.length=a.length
 | [],_,r=>by rw[show _=[] from r];rfl| (k,d)::a,ws,r=>by obtain⟨v,w,rfl,_,b⟩:=r;simp[RIs.length b]
theorem RKs.val(k):∀{a:List (List Int×D)}{b:List (List Key×V)},RKs K ι H a b->(valP a k=Ψ/\valV b (kI k)=Ψ)\/∃d v,valP a k=Φ d/\valV b (kI k)=Φ v/\RV K ι H d v
 | [],_,r=>by rw[show _=[] from r];exact .inl ⟨rfl,rfl⟩| (j,d)::a,b,r=>by
  obtain⟨v,w,rfl,c,f⟩:=r;by_cases e:j=k;subst e;exact .inr ⟨d,v,by simp[valP],by simp[valV],c⟩;have g:¬kI j=kI k:=λz=>e (zkd z);have h:valP ((j,d)::a) k=valP a k:=by simp[valP,e]
  have i:valV ((kI j,v)::w) (kI k)=valV w (kI k):=by simp[valV,g]
  rw[h,i];exact RKs.val k f
theorem zfB[DecidableEq κ]{x:κ×V}{r:List (κ×V)}{k:κ}(h:x.1≠k):putK (x::r) k v=x::putK r k v:=by unfold putK;have:decide (x.1=k)=Δ:=decide_eq_false h;simp only[any_cons,this,Bool.false_or];split;rw[Ν,if_neg h];rfl
theorem RKs.keys:∀{a:List (List Int×D)}{b:List (List Key×V)},RKs K ι H a b->b.map (·.1)=a.map (λp=>kI p.1)
 | [],_,r=>by rw[show _=[] from r];rfl| (k,d)::a,b,r=>by obtain⟨v,w,rfl,_,c⟩:=r;simp[RKs.keys c]
theorem RIs.keys:∀{a:List (Int×D)}{ws:List (Key×V)},RIs K ι H a ws->ws.map (·.1)=a.map (λp=>(Sum.inl p.1:Key))
 | [],_,r=>by rw[show _=[] from r];rfl| (k,d)::a,ws,r=>by obtain⟨v,w,rfl,_,b⟩:=r;simp[RIs.keys b]
theorem RKs.put(k)(q:RV K ι H d v):∀{a:List (List Int×D)}{c:List (List Key×V)},(a.map (·.1)).Nodup->RKs K ι H a c->RKs K ι H (putP a k d) (putK c (kI k) v)
 | [],_,_,r=>by rw[show _=[] from r];exact⟨v,[],rfl,q,rfl⟩| (j,e)::a,c,f,r=>by
  obtain⟨u,w,rfl,o,h⟩:=r;simp only[Ν,nodup_cons]at f;by_cases z:j=k;subst z;have i:putP ((j,e)::a) j d=(j,d)::a:=by simp[putP]
  have l:putK ((kI j,u)::w) (kI j) v=(kI j,v)::w:=by
   unfold putK;have:(((kI j,u)::w).any λb=>decide (b.1=kI j))=Γ:=by simp
   rw[if_pos this,Ν,if_pos rfl,Ο (g:=id),List.map_id];intro b m;have n:b.1∈w.map (·.1):=mem_map.mpr ⟨b,m,rfl⟩;rw[h.keys]at n;obtain⟨p,s,t⟩:=mem_map.mp n;have:b.1≠kI j:=λy=>f.1 (by
    rw[<-t]at y;rw[<-zkd y];exact mem_map.mpr ⟨p,s,rfl⟩)
   simp[this]
  rw[i,l];exact⟨v,w,rfl,q,h⟩;have i:putP ((j,e)::a) k d=(j,e)::putP a k d:=by simp[putP,z]
  have l:putK ((kI j,u)::w) (kI k) v=(kI j,u)::putK w (kI k) v:=zfB λy=>z (zkd y);rw[i,l];exact⟨u,_,rfl,o,RKs.put k q f.2 h⟩
theorem RIs.put(k)(q:RV K ι H d v):∀{a:List (Int×D)}{c:List (Key×V)},(a.map (·.1)).Nodup->RIs K ι H a c->RIs K ι H (putI a k d) (putK c (Sum.inl k:Key) v)
 | [],_,_,r=>by rw[show _=[] from r];exact⟨v,[],rfl,q,rfl⟩| (j,e)::a,c,f,r=>by
  obtain⟨u,w,rfl,o,h⟩:=r;simp only[Ν,nodup_cons]at f;by_cases z:j=k;subst z;have i:putI ((j,e)::a) j d=(j,d)::a:=by simp[putI]
  have l:putK (((Sum.inl j:Key),u)::w) (Sum.inl j:Key) v=((Sum.inl j:Key),v)::w:=by
   unfold putK;have:((((Sum.inl j:Key),u)::w).any λb=>decide (b.1=(Sum.inl j:Key)))=Γ:=by simp
   rw[if_pos this,Ν,if_pos rfl,Ο (g:=id),List.map_id];intro b m;have n:b.1∈w.map (·.1):=mem_map.mpr ⟨b,m,rfl⟩;rw[h.keys]at n;obtain⟨p,s,t⟩:=mem_map.mp n;have:b.1≠(Sum.inl j:Key):=λy=>f.1 (by
    rw[<-t]at y;rw[<-Sum.inl.inj y];exact mem_map.mpr ⟨p,s,rfl⟩)
   simp[this]
  rw[i,l];exact⟨v,w,rfl,q,h⟩;have i:putI ((j,e)::a) k d=(j,e)::putI a k d:=by simp[putI,z]
  have l:putK (((Sum.inl j:Key),u)::w) (Sum.inl k:Key) v=((Sum.inl j:Key),u)::putK w (Sum.inl k:Key) v:=zfB λy=>z (Sum.inl.inj y);rw[i,l];exact⟨u,_,rfl,o,RIs.put k q f.2 h⟩
theorem zfA(k)(d):∀a:List (List Int×D),(putP a k d).map (·.1)=if k∈a.map (·.1) then a.map (·.1) else a.map (·.1)++[k]
 | []=>by simp[putP]| (j,e)::r=>by unfold putP;by_cases z:j=k;subst z;simp;have b:=zfA k d r;rw[if_neg z];simp only[Ν,mem_cons,b];by_cases h:k∈r.map (·.1);rw[if_pos h,if_pos (.inr h)];rw[if_neg h,if_neg (by rintro(y|y);exact z y.symm;exact h y)];rfl
theorem zee(h:(c.map (·.1)).Nodup):((putP c k d).map (·.1)).Nodup:=by rw[zfA];split;exact h;rename_i n;rw[nodup_append];refine⟨h,by simp,λa f b e=>?_⟩;rw[mem_singleton]at e;subst e;exact λz=>n (z▸f)
theorem zfC(k)(d):∀a:List (Int×D),(putI a k d).map (·.1)=if k∈a.map (·.1) then a.map (·.1) else a.map (·.1)++[k]
 | []=>by simp[putI]| (j,e)::r=>by unfold putI;by_cases z:j=k;subst z;simp;have b:=zfC k d r;rw[if_neg z];simp only[Ν,mem_cons,b];by_cases h:k∈r.map (·.1);rw[if_pos h,if_pos (.inr h)];rw[if_neg h,if_neg (by rintro(y|y);exact z y.symm;exact h y)];rfl
theorem zef(h:(c.map (·.1)).Nodup):((putI c k d).map (·.1)).Nodup:=by rw[zfC];split;exact h;rename_i n;rw[nodup_append];refine⟨h,by simp,λa f b e=>?_⟩;rw[mem_singleton]at e;subst e;exact λz=>n (z▸f)
theorem RV.ext(h:Ext ι H a H')(r:RV K ι H d v):RV K a H' d v:=r.up h.pre h.kp
theorem RVs.ext(h:Ext ι H a H')(r:RVs K ι H b vs):RVs K a H' b vs:=r.up h.pre h.kp
theorem RVs.length:∀{ds:List D}{vs:List V},RVs K ι H ds vs->vs.length=ds.length
 | [],_,r=>by rw[show _=[] from r];rfl| d::ds,vs,r=>by obtain⟨v,w,rfl,_,a⟩:=r;simp[RVs.length a]
theorem RVs.get:∀{ds:List D}{vs:List V}{i:Nat}{d:D},RVs K ι H ds vs->ds[i]?=Φ d->∃v,vs[i]?=Φ v/\RV K ι H d v
 | [],_,_,_,_,e=>by simp at e| d::ds,vs,0,a,r,e=>by obtain⟨v,w,rfl,b,_⟩:=r;simp at e;subst e;exact⟨v,rfl,b⟩| d::ds,vs,i+1,a,r,e=>by obtain⟨v,w,rfl,_,c⟩:=r;obtain⟨u,f,g⟩:=RVs.get (i:=i) (d:=a) c (by simpa using e);exact⟨u,by simpa using f,g⟩
theorem RVs.get'{i:Nat}(r:RVs K ι H f vs)(e:vs[i]?=Φ v):∃d,f[i]?=Φ d/\RV K ι H d v:=by
 have a:i<f.length:=by rw[<-r.length];exact(Α.mp e).1
 obtain⟨u,b,c⟩:=r.get (List.getElem?_eq_getElem a);rw[e]at b;cases b;exact⟨_,List.getElem?_eq_getElem a,c⟩
theorem RVs.append:∀{ds es:List D}{vs us:List V},RVs K ι H ds vs->RVs K ι H es us->RVs K ι H (ds++es) (vs++us)
 | [],_,_,_,r,q=>by rw[show _=[] from r];exact q| d::ds,es,vs,us,r,q=>by obtain⟨v,w,rfl,a,b⟩:=r;exact⟨v,w++us,rfl,a,RVs.append b q⟩
theorem RVs.take:∀{ds:List D}{vs:List V}(n:Nat),RVs K ι H ds vs->RVs K ι H (ds.take n) (vs.take n)
 |_,_,0,_=>rfl| [],_,n+1,r=>by rw[show _=[] from r];rfl| d::ds,vs,n+1,r=>by obtain⟨v,w,rfl,a,b⟩:=r;exact⟨v,w.take n,rfl,a,RVs.take n b⟩
theorem RVs.drop:∀{ds:List D}{vs:List V}(n:Nat),RVs K ι H ds vs->RVs K ι H (ds.drop n) (vs.drop n)
 |_,_,0,r=>r| [],_,n+1,r=>by rw[show _=[] from r];rfl| d::ds,vs,n+1,r=>by obtain⟨v,w,rfl,b,a⟩:=r;exact RVs.drop n a
theorem RVs.set(q:RV K ι H d v):∀{ds:List D}{vs:List V}(n:Nat),RVs K ι H ds vs->RVs K ι H (ds.set n d) (vs.set n v)
 | [],_,n,r=>by rw[show _=[] from r];rfl| _::ds,vs,0,r=>by obtain⟨_,w,rfl,r1,r2⟩:=r;exact⟨v,w,rfl,q,r2⟩| _::ds,vs,n+1,r=>by obtain⟨u,w,rfl,r1,r2⟩:=r;exact⟨u,w.set n v,rfl,r1,RVs.set q n r2⟩
theorem RVs.erase(n)(r:RVs K ι H a vs):RVs K ι H (a.eraseIdx n) (vs.eraseIdx n):=by rw[List.eraseIdx_eq_take_drop_succ,List.eraseIdx_eq_take_drop_succ];exact(r.take n).append (r.drop (n+1))
theorem RVs.ints:∀ns:List Int,RVs K ι H (ns.map D.int) (ns.map V.int)
 | []=>rfl|n::ns=>⟨_,_,rfl,rfl,RVs.ints ns⟩
theorem RVs.ints_eq:∀{ns:List Int}{vs:List V},RVs K ι H (ns.map D.int) vs->vs=ns.map V.int
 | [],_,h=>h| n::ns,vs,h=>by obtain⟨v,r,rfl,a,b⟩:=h;rw[RVs.ints_eq b,show v=.int n from a];rfl
theorem zcy:∀{ds:List D}{ns:List Int},zax ds=Φ ns->ds=ns.map D.int:=by
 intro ds;unfold zax;induction ds with
 |nil=>intro ns h;simp at h;subst h;rfl| cons d ds a=>
  intro ns h;rw[Ϣ]at h;cases d with
  |int i=>cases e:List.mapM zcz ds with|none=>rw[e]at h;simp[zcz]at h|some b=>rw[e]at h;simp[zcz]at h;subst h;simp[a e]
  |_=>simp[zcz]at h
mutual
theorem RV.flat{K:Frag}{ι:List Addr}{H:Hp}:∀{d:D}{v:V},RV K ι H d v->R.flat ι.length d=Γ
 |.non,_,_=>by simp[R.flat]|.bl _,_,_=>by simp[R.flat]|.int _,_,_=>by simp[R.flat]|.str _,_,_=>by simp[R.flat]| .tup ds,_,r=>by obtain⟨a,xs,e,ha,q⟩:=r;simp only[R.flat];exact RVs.flats q| .ref l,_,r=>by obtain⟨a,e,q⟩:=r;simp only[R.flat,decide_eq_true_eq];exact(Α.mp e).1| .fix ds,_,r=>by obtain⟨a,xs,e,ha,q⟩:=r;simp only[R.flat];exact RVs.flats q
theorem RVs.flats{K:Frag}{ι:List Addr}{H:Hp}:∀{ds:List D}{vs:List V},RVs K ι H ds vs->R.flats ι.length ds=Γ
 | [],_,_=>by simp[R.flats]| d::ds,vs,r=>by obtain⟨v,w,e,r1,r2⟩:=r;simp only[R.flats,Λ];exact⟨RV.flat r1,RVs.flats r2⟩
end
mutual
theorem RV.restrict{K:Frag}{ι ι':List Addr}{H:Hp}(hp:ι <+: ι'):∀{d:D}{v:V},R.flat ι.length d=Γ->RV K ι' H d v->RV K ι H d v
 |.non,_,_,r=>r|.bl _,_,_,r=>r|.int _,_,_,r=>r|.str _,_,_,r=>r| .tup ds,_,f,r=>by obtain⟨a,xs,e,ha,q⟩:=r;simp only[R.flat]at f;exact⟨a,xs,e,ha,RVs.restrict hp f q⟩| .ref l,_,f,r=>by obtain⟨a,e,q⟩:=r;simp only[R.flat,decide_eq_true_eq]at f;refine⟨a,?_,q⟩;obtain⟨t,rfl⟩:=hp;rw[getElem?_append_left f]at e;exact e| .fix ds,_,f,r=>by obtain⟨a,xs,e,ha,q⟩:=r;simp only[R.flat]at f;exact⟨a,xs,e,ha,RVs.restrict hp f q⟩
theorem RVs.restrict{K:Frag}{ι ι':List Addr}{H:Hp}(hp:ι <+: ι'):∀{ds:List D}{vs:List V},R.flats ι.length ds=Γ->RVs K ι' H ds vs->RVs K ι H ds vs
 | [],_,_,r=>r| d::ds,vs,f,r=>by obtain⟨v,w,e,r1,r2⟩:=r;simp only[R.flats,Λ]at f;exact⟨v,w,e,RV.restrict hp f.1 r1,RVs.restrict hp f.2 r2⟩
end
theorem RKs.flats:∀{a:List (List Int×D)}{b:List (List Key×V)},RKs K ι H a b->R.flats ι.length (a.map (·.2))=Γ
 | [],_,_=>by simp[R.flats]| (k,d)::a,b,r=>by obtain⟨v,w,e,c,f⟩:=r;simp only[Ν,R.flats,Λ];exact⟨RV.flat c,RKs.flats f⟩
theorem RKs.restrict(g:ι <+: b):∀{a:List (List Int×D)}{c:List (List Key×V)},R.flats ι.length (a.map (·.2))=Γ->RKs K b H a c->RKs K ι H a c
 | [],_,_,r=>r| (k,d)::a,c,f,r=>by obtain⟨v,w,e,h,i⟩:=r;simp only[Ν,R.flats,Λ]at f;exact⟨v,w,e,RV.restrict g f.1 h,RKs.restrict g f.2 i⟩
theorem RIs.flats:∀{a:List (Int×D)}{ws:List (Key×V)},RIs K ι H a ws->R.flats ι.length (a.map (·.2))=Γ
 | [],_,_=>by simp[R.flats]| (k,d)::a,ws,r=>by obtain⟨v,w,e,b,c⟩:=r;simp only[Ν,R.flats,Λ];exact⟨RV.flat b,RIs.flats c⟩
theorem RIs.restrict(c:ι <+: b):∀{a:List (Int×D)}{ws:List (Key×V)},R.flats ι.length (a.map (·.2))=Γ->RIs K b H a ws->RIs K ι H a ws
 | [],_,_,r=>r| (k,d)::a,ws,f,r=>by obtain⟨v,w,e,g,h⟩:=r;simp only[Ν,R.flats,Λ]at f;exact⟨v,w,e,RV.restrict c f.1 g,RIs.restrict c f.2 h⟩
theorem R3s.flats:∀{kvs:List (K3×D)}{ws:List (K3×Addr×V)},R3s K ι H kvs ws->R.flats ι.length (kvs.map (·.2))=Γ
 | [],_,_=>by simp[R.flats]| (k,d)::kvs,ws,r=>by obtain⟨c,v,w,e,_,r1,r2⟩:=r;simp only[Ν,R.flats,Λ];exact⟨RV.flat r1,R3s.flats r2⟩
theorem R3s.restrict(hp:ι <+: ι'):∀{kvs:List (K3×D)}{ws:List (K3×Addr×V)},R.flats ι.length (kvs.map (·.2))=Γ->R3s K ι' H kvs ws->R3s K ι H kvs ws
 | [],_,_,r=>r| (k,d)::kvs,ws,f,r=>by obtain⟨c,v,w,e,r0,r1,r2⟩:=r;simp only[Ν,R.flats,Λ]at f;exact⟨c,v,w,e,r0,RV.restrict hp f.1 r1,R3s.restrict hp f.2 r2⟩
theorem RFs.flats:∀{a:List (Str×D)}{ws:List (Str×V)},RFs K ι H a ws->R.flats ι.length (a.map (·.2))=Γ
 | [],_,_=>by simp| (f,d)::r,_,h=>by obtain⟨v,w,_,b,c⟩:=h;simp only[Ν,zep,Λ];exact⟨RV.flat b,RFs.flats c⟩
theorem RFs.restrict(g:ι <+: a):∀{b:List (Str×D)}{ws:List (Str×V)},R.flats ι.length (b.map (·.2))=Γ->RFs K a H b ws->RFs K ι H b ws
 | [],_,_,h=>h| (f,d)::r,_,c,h=>by obtain⟨v,w,e,i,j⟩:=h;simp only[Ν,zep,Λ]at c;exact⟨v,w,e,RV.restrict g c.1 i,RFs.restrict g c.2 j⟩
theorem RO.up(h:RO K ι H a o)(i:ι <+: l)(j:Kp H H')(e:H' a=H a):RO K l H' a o:=by cases o with|lst p=>obtain⟨m,b,d⟩:=h;exact⟨m,e.trans b,d.up i j⟩|dic k=>obtain⟨f,g,b,d⟩:=h;exact⟨f,g,e.trans b,d.up i j⟩|ins c q=>obtain⟨C,n,g,f,b,d⟩:=h;exact⟨C,n,g,f,e.trans b,d.up i j⟩|dtp k=>obtain⟨f,g,b,d⟩:=h;exact⟨f,g,e.trans b,d.up i j⟩|d3 k=>obtain⟨f,g,b,d⟩:=h;exact⟨f,g,e.trans b,d.up i j⟩
theorem RO.stay(h:RO K ι H a o)(x:Ext ι H b H')(e:H' a=H a):RO K b H' a o:=h.up x.pre x.kp e
section
variable{K:Frag}{ι ι':List Addr}{H H':Hp}{S S' T:St}{l:Nat}{a p:Addr}
theorem RH.mem(h:RH K ι H S)(e:S.get l=Φ o):∃a,ι[l]?=Φ a/\RO K ι H a o/\a∈ι:=by obtain⟨a,b,c⟩:=h.obj l o e;exact⟨a,b,c,mem_of_getElem? b⟩
theorem zmp(h:l<S.len):∃o,S.get l=Φ o:=by unfold St.len at h;unfold St.get;split;rename_i c;exact⟨_,getElem?_eq_getElem c⟩;exact⟨_,getElem?_eq_getElem (by omega)⟩
theorem RH.off(h:RH K ι H S)(x:Ext ι H ι H')(e:∀a∈ι,H' a=H a):RH K ι H' S:=⟨h.len,h.nd,λl o q=>let ⟨a,b,c,d⟩:=h.mem q;⟨a,b,c.stay x (e a d)⟩,x.kp.tab h.tab⟩
theorem RH.live(h:RH K ι H S)(m:a∈ι):∃o,H a=Φ o/\(∀xs,o≠.tup xs)/\(∀z u,o≠.frz z u)/\∀ps,o≠.tbl ps:=by
 obtain⟨l,j⟩:=List.mem_iff_getElem?.mp m;have g:l<S.len:=by rw[<-h.len];exact(Α.mp j).1
 obtain⟨o,e⟩:=zmp g;obtain⟨b,k,d⟩:=h.obj l o e;rw[j]at k;cases k;cases o with|lst n=>obtain⟨xs,q,_⟩:=d;exact⟨_,q,⟨λ_ z=>(by cases z),λ_ _ z=>(by cases z),λ_ z=>(by cases z)⟩⟩|dic f=>obtain⟨_,i,q,_⟩:=d;exact⟨_,q,⟨λ_ z=>(by cases z),λ_ _ z=>(by cases z),λ_ z=>(by cases z)⟩⟩|ins c r=>obtain⟨C,s,i,_,q,_⟩:=d;exact⟨_,q,⟨λ_ z=>(by cases z),λ_ _ z=>(by cases z),λ_ z=>(by cases z)⟩⟩|dtp f=>obtain⟨_,i,q,_⟩:=d;exact⟨_,q,⟨λ_ z=>(by cases z),λ_ _ z=>(by cases z),λ_ z=>(by cases z)⟩⟩|d3 f=>obtain⟨_,i,q,_⟩:=d;exact⟨_,q,⟨λ_ z=>(by cases z),λ_ _ z=>(by cases z),λ_ z=>(by cases z)⟩⟩
theorem RH.fresh(h:RH K ι H S)(b:H p=Option.none):p∉ι:=λc=>by obtain⟨o,e,_⟩:=h.live c;rw[b]at e;exact nS e
theorem RH.notup(h:RH K ι H S)(b:H p=Φ (.tup xs)):p∉ι:=λc=>by obtain⟨o,e,q,_⟩:=h.live c;rw[b]at e;cases e;exact q _ rfl
theorem Kp.new(c:H p=Option.none)(o):Kp H (upd H p o):=.same (Tups.upd_new c) (λb z u e=>by rw[zai (zal e c)];exact e) λb d e=>by rw[zai (zal e c)];exact e
theorem Ext.new(b:H p=Option.none)(o):Ext ι H ι (upd H p o):=⟨Ϧ _,Kp.new b o,λa u h e=>⟨.inl (by rw[zai (zal e b)];exact e),h⟩⟩
theorem RH.new(h:RH K ι H S)(b:H p=Option.none)(o):RH K ι (upd H p o) S:=h.off (Ext.new b o) λa c=>zai λe=>h.fresh b (e▸c)
theorem zfb(S:St)(o):(S.push o).get S.len=Φ o:=by
 have h:¬S.len<S.frz.length:=by unfold St.len;lia
 unfold St.get St.push;unfold St.len;simp
theorem zck(h:l<S.len):(S.push o).get l=S.get l:=by unfold St.len at h;unfold St.get St.push;simp only;split;rfl;rw[getElem?_append_left (by lia)]
theorem zb0(S:St)(o):(S.push o).len=S.len+1:=by simp[St.push,St.len];lia
theorem Ext.obj(h:RH K ι H S)(b:H p=Option.none)(u):Ext ι H (ι++[p]) (upd H p u):=
 ⟨Ϙ _ _,Kp.new b u,λa o c e=>⟨.inl (by rw[zai (zal e b)];exact e),by
  intro z;rcases mem_append.mp z with z|z;exact c z;simp at z;exact zal e b z⟩⟩
theorem RH.obj'(h:RH K ι H S)(c:H p=Option.none)(u)(o)(g:RO K (ι++[p]) (upd H p u) p o):RH K (ι++[p]) (upd H p u) (S.push o):=by
 refine⟨by rw[length_append,h.len,zb0];rfl,?_,λl q e=>?_,(Kp.new c u).tab h.tab⟩;rw[nodup_append];refine⟨h.nd,by simp,λa i b f=>?_⟩;simp at f;subst f;exact λz=>h.fresh c (z▸i);by_cases j:l<S.len;rw[zck j]at e;obtain⟨a,k,m,n⟩:=h.mem e;exact⟨a,zbF (Ϙ _ _) k,m.stay (Ext.obj h c u) (zai λz=>h.fresh c (z▸n))⟩;have d:=get_lt e;rw[zb0]at d;have:l=S.len:=by lia
 subst this;rw[zfb]at e;cases e;exact⟨p,by rw[<-h.len];simp,g⟩
theorem RH.lay(h:RH K ι H S)(b:H p=Option.none)(r:RVs K ι H c xs):RH K (ι++[p]) (upd H p (.lst xs)) (S.push (.lst c)):=h.obj' b _ _ ⟨xs,zaj,r.ext (Ext.obj h b _)⟩
theorem RH.last(h:RH K ι H S)(p):(ι++[p])[S.len]?=Φ p:=by rw[<-h.len];simp
theorem Ext.wr(h:RH K ι H S)(e:S.get l=Φ o)(f:ι[l]?=Φ a)(u):Ext ι H ι (upd H a u):=by have d:=mem_of_getElem? f;refine⟨Ϧ _,.same (λb g c=>?_) (λb z v c=>?_) λb i c=>?_,λb o c e=>⟨.inl ((zai λ(z:b=a)=>c (by rw[z];exact d)).trans e),c⟩⟩;rw[zai];exact c;rintro rfl;exact h.notup c d;rw[zai];exact c;rintro rfl;obtain⟨o,e,_,q,_⟩:=h.live d;rw[c]at e;cases e;exact q _ _ rfl;rw[zai];exact c;rintro rfl;obtain⟨o,e,_,_,q⟩:=h.live d;rw[c]at e;cases e;exact q _ rfl
theorem zoh(e:S.put l o=Φ S'):S'.len=S.len/\(l<S.len->S'.get l=Φ o)/\(∀m,m≠l->S'.get m=S.get m)/\S.frz.length<=l:=by unfold St.put at e;split at e;exact nS e;split at e;exact nS e;injection e with e;subst e;rename_i c1 c2;refine⟨by simp[St.len],λhl=>?_,λm hm=>?_,by lia⟩;unfold St.len at hl;unfold St.get;simp only[c1,if_false];rw[getElem?_set_self (by lia)];unfold St.get;split;rfl;rw[getElem?_set_ne (by lia)]
theorem RH.wr(h:RH K ι H S)(e:S.get l=Φ o)(d:ι[l]?=Φ a)(w:S.put l i=Φ S')(j:RO K ι (upd H a u) a i):RH K ι (upd H a u) S':=by obtain⟨k,n,q,_⟩:=zoh w;refine⟨h.len.trans k.symm,h.nd,λm t c=>?_,(Ext.wr h e d u).kp.tab h.tab⟩;by_cases f:m=l;subst f;rw[n (get_lt e)]at c;cases c;exact⟨a,d,j⟩;rw[q m f]at c;obtain⟨b,g,r,_⟩:=h.mem c;refine⟨b,g,r.stay (Ext.wr h e d u) (zai ?_)⟩;rintro rfl;obtain⟨v,s⟩:=Α.mp d;obtain⟨x,c⟩:=Α.mp g;exact f ((List.getElem_inj h.nd).mp (c.trans s.symm))
end
end R
namespace R
open PySem PySem.Spec PyProof.Rows L2
section
variable{prog:Υ}{w:ύ}{K:Type}[DecidableEq K]{knd:HeapKind prog w K}{A:ϑ}{E:Θ->Ζ->Prop}{s:Ζ}{xs ys:List (K×Addr×Θ)}{a b d:Addr}
theorem zl8{ks:List K}(c:ks.Nodup){i j:Nat}(hi:ks[i]?=Φ k)(e:ks[j]?=Φ k):i=j:=by obtain⟨h,f⟩:=Α.mp hi;obtain⟨l,g⟩:=Α.mp e;exact(List.getElem_inj c).mp (f.trans g.symm)
theorem zeg(hu:knd.room A)(ha:(a==sysModules)=Δ)(hb:(b==sysModules)=Δ)(da:s.heap.DictOfH knd a xs)(db:s.heap.DictOfH knd b ys)(hk:xs.map (·.1)=ys.map (·.1))(he:∀(i:Nat) x y,xs[i]?=Φ x->ys[i]?=Φ y->SeqAt.EqAt A s x.2.2 y.2.2 Γ)(h:Q Γ s):wpAny (model prog w) A (Builtin.Dict.samePairs nm a b) Q E s:=by
 obtain⟨oa,n,ep,g,_,m,B,I,hna⟩:=da;obtain⟨ob,J,ep',o,_,r,t,L,C⟩:=db;have M:n.size=xs.length:=size_of_entries B;have N:J.size=ys.length:=size_of_entries t;have hl:xs.length=ys.length:=by have:=congrArg List.length hk;simpa using this
 unfold Builtin.Dict.samePairs Builtin.Dict.showsAll;rw[if_neg (show ¬(a==sysModules)=Γ by rw[ha];exact Ε),if_neg (show ¬(b==sysModules)=Γ by rw[hb];exact Ε)];refine Ξ (Β (Ξ (Β ?_)));refine Ξ (wpAny_dictEntries g m ?_);dsimp only;refine Ξ (wpAny_dictEntries o r ?_);rw[if_neg (by rw[M,N,hl];simp)];refine Ξ (wpAny_dictEpoch g m ?_);refine Ξ ?_;rw[Std.Legacy.Range.forIn_eq_forIn_range'];simp only[Std.Legacy.Range.size,Nat.sub_zero,Nat.add_sub_cancel,Nat.div_one];refine Ϡ _ (λf q O=>O=s/\q=(Ψ,())/\∃i,f=List.range' i (n.size-i)/\i<=n.size) _ ?_ ?_ _ _ ⟨rfl,rfl,0,by simp,zero_le _⟩;rintro x f q O ⟨rfl,rfl,i,G,hi⟩;have T:i<n.size:=by rcases Nat.lt_or_ge i n.size with h|h;exact h;rw[Nat.sub_eq_zero_of_le h]at G;simp at G
 obtain⟨rfl,u⟩:x=i/\f=List.range' (i+1) (n.size-(i+1)):=by
  have e:n.size-i=(n.size-(i+1))+1:=by lia
  rw[e,List.range'_succ]at G;injection G with h1 h2;exact⟨h1,h2⟩
 obtain⟨⟨k,c,v⟩,H⟩:∃y,xs[x]?=Φ y:=⟨xs[x]'(by lia),getElem?_eq_getElem _⟩;obtain⟨⟨U,c',v'⟩,z⟩:∃y,ys[x]?=Φ y:=⟨ys[x]'(by lia),getElem?_eq_getElem _⟩;have Y:U=k:=by have e:=congrArg (λl=>l[x]?) hk;simp only[getElem?_map,H,z,Option.map_some]at e;exact(Option.some.inj e).symm
 subst Y;refine Ξ (wpAny_dictEntries g m ?_);rw[entry_at B x,H];show wpAny _ _ (holding [Θ.ref c,v] _>>=_) _ _ _;refine Ξ (Ϥ (Ξ (wpAny_dictFind_heap (k:=U) hu (I _ (mem_of_getElem? H)) o r t L C (λhno=>absurd z (hno x _)) λj p hj=>?_)));have ej:j=x:=zl8 C (k:=U) (by rw[getElem?_map,hj];rfl) (by rw[getElem?_map,z];rfl);subst ej;rw[z]at hj;cases hj;refine Ξ (wpAny_dictEntries o r ?_);rw[entry_at t j,z];refine Ϥ (he j _ _ H z prog w _ _ ?_);show wpAny _ _ (if(!Γ)=Γ then _ else _) _ _ _;rw[if_neg (by decide)];refine Ξ (wpAny_dictEpoch g m ?_);rw[if_neg (by simp)];exact Β ⟨rfl,rfl,j+1,u,T⟩;rintro q O ⟨rfl,rfl,i,G,hi⟩;exact Β h
theorem zrF(hr:knd.room A.in1)(hu:A.units<cLine)(ha:(a==sysModules)=Δ)(hb:(b==sysModules)=Δ)(da:s.heap.DictOfH knd a xs)(db:s.heap.DictOfH knd b ys)(hk:xs.map (·.1)=ys.map (·.1))(he:∀(i:Nat) x y,xs[i]?=Φ x->ys[i]?=Φ y->SeqAt.EqAt A.in1 s x.2.2 y.2.2 Γ)(h:Q (.bool Γ) s):wpAny (model prog w) A (compareOp .Eq (.ref a) (.ref b)) Q E s:=by
 refine wpAny_richCompare_same_room (op:=.Eq) da.typeIs db.typeIs PySem.F.slot_dict_eq (ϡ PySem.F.slot_dict_eq da.typeIs PySem.F.entry_dict_eq ?_ (PySem.F.args_dict_eq_2 _ _)) hu;show wpAny _ _ (Builtin.Dict.dictSlotArgs "__eq__" ⟨[.ref a,.ref b],[]⟩>>=_) _ _ s;refine Ξ ?_;unfold Builtin.Dict.dictSlotArgs;refine Ξ (wpAny_notOrdered_dict da.typeIs ?_);show wpAny _ _ (pure (Θ.ref a,Θ.ref b)) _ _ s;refine Β ?_;refine Ξ (wpAny_isInstance (T:="dict") db.typeIs PySem.F.sub_dict_dict ?_);simp only[Ϝ,Ρ,if_false];refine Ξ (Β (Ξ (Β ?_)));refine Ξ (zeg hr ha hb da db hk he ?_);refine Β ⟨_,rfl,?_,?_⟩;exact λx=>nomatch x;simpa using h
theorem zrE(hr:knd.room A.in1)(hu:A.units<cLine)(ha:(a==sysModules)=Δ)(hb:(b==sysModules)=Δ)(da:s.heap.DictOfH knd a xs)(db:s.heap.DictOfH knd b ys)(hk:xs.map (·.1)=ys.map (·.1))(he:∀(i:Nat) x y,xs[i]?=Φ x->ys[i]?=Φ y->SeqAt.EqAt A.in1 s x.2.2 y.2.2 Γ)(h:Q (.bool Δ) s):wpAny (model prog w) A (compareOp .NotEq (.ref a) (.ref b)) Q E s:=by
 refine wpAny_richCompare_same_room (op:=.NotEq) da.typeIs db.typeIs PySem.F.slot_dict_ne (ϡ PySem.F.slot_dict_ne da.typeIs PySem.F.entry_dict_ne ?_ (PySem.F.args_dict_ne_2 _ _)) hu;show wpAny _ _ (Builtin.Dict.dictSlotArgs "__ne__" ⟨[.ref a,.ref b],[]⟩>>=_) _ _ s;refine Ξ ?_;unfold Builtin.Dict.dictSlotArgs;refine Ξ (wpAny_notOrdered_dict da.typeIs ?_);show wpAny _ _ (pure (Θ.ref a,Θ.ref b)) _ _ s;refine Β ?_;refine Ξ (wpAny_isInstance (T:="dict") db.typeIs PySem.F.sub_dict_dict ?_);simp only[Ϝ,Ρ,if_false];refine Ξ (Β (Ξ (Β ?_)));refine Ξ (zeg hr ha hb da db hk he ?_);refine Β ⟨_,rfl,?_,?_⟩;exact λx=>nomatch x;simpa using h
end
end R
namespace R
open PySem PySem.Spec PyProof.Rows L2
variable[Mks]
noncomputable def wVK:Option Int->V|none=>.non|some i=>.int i
theorem zdI:∀{ks:List α}{xs:List a},Paired b ks xs->∀{i:Nat}{x:a},xs[i]?=Φ x->∃p,ks[i]?=Φ p/\b p x
 |_,_,.nil,i,x,h=>by simp at h|_,_,.cons r t,0,x,h=>by simp at h;subst h;exact⟨_,rfl,r⟩| _,_,.cons r t,i+1,x,h=>by simp at h;obtain⟨p,c,d⟩:=zdI t h;exact⟨p,by simpa using c,d⟩
theorem zdN:∀{ks:List (List Key×V)}{xs:List (List Key×Addr×Θ)},KT H ks xs->xs.map (·.1)=ks.map (·.1)
 |_,_,.nil=>rfl|_,_,.cons r t=>by rw[Ν,Ν,zdN t,r.1]
theorem RKs.words{K}:∀{a:List (List Int×D)}{b:List (List Key×V)}{u:List (List Int×Option Int)},RKs K ι H a b->zcT a=Φ u->b=u.map λp=>(kI p.1,wVK p.2)
 | [],b,u,r,h=>by
  have h:u=[]:=by simpa[zcT]using h.symm
  subst h;exact r
 |(k,d)::f,b,u,r,h=>by obtain⟨v,w,rfl,g,l⟩:=r;unfold zcT at h;rw[Ϣ]at h;cases e:zfm d with|none=>simp[e]at h| some o=>cases c:f.mapM λj=>(zfm j.2).map λw=>(j.1,w) with|none=>simp[e,c]at h| some t=>simp[e,c]at h;subst h;rw[RKs.words l (show zcT f=Φ t from c),Ν];congr 2;cases d with|non=>cases e;exact g|int i=>cases e;exact g|_=>exact nS e
section
variable{X:Cx}{pins:List (Addr×Obj)}{σ:L2.St}{H:Hp}{s:Ζ}{a b:Addr}{A:ϑ}{E:Θ->Ζ->Prop}
theorem zkS{u:List (List Int×Option Int)}(l:KT H (u.map λp=>(kI p.1,wVK p.2)) xs)(m:KT H (u.map λp=>(kI p.1,wVK p.2)) ys):∀(i:Nat) x y,xs[i]?=Φ x->ys[i]?=Φ y->SeqAt.EqAt A s x.2.2 y.2.2 Γ:=λi x y n r=>by
 obtain⟨p,c,_,_,g⟩:=zdI l n;obtain⟨q,h,_,_,j⟩:=zdI m r;rw[c]at h;cases h;rw[getElem?_map]at c;cases e:u[i]? with
 |none=>rw[e]at c;exact nS c
 |some w=>rw[e]at c;cases c;obtain⟨k,o⟩:=w;cases o with| none=>have d:x.2.2=Θ.none:=g;have f:y.2.2=Θ.none:=j;rw[d,f];exact SeqAt.EqAt.same _| some z=>obtain⟨t,d⟩:=(show ∃t,x.2.2=Θ.int z t from g);obtain⟨v,f⟩:=(show ∃t,y.2.2=Θ.int z t from j);rw[d,f];have:=SeqAt.EqAt.int_int (A:=A) (s:=s) z t z v;simpa using this
theorem zte{u:List (List Int×Option Int)}(e:A.units+1<cLine)(I:Inv X pins σ H s)(f:H a=Φ (.dT (u.map λp=>(kI p.1,wVK p.2))))(g:H b=Φ (.dT (u.map λp=>(kI p.1,wVK p.2))))(h:Q (.bool Γ) s):wpAny (model X.prog X.w) A (compareOp .Eq (.ref a) (.ref b)) Q E s:=by obtain⟨_,i,m,c,j⟩:=ziR I.hok f;obtain⟨_,k,n,d,l⟩:=ziR I.hok g;exact zrF (tupleKind_room_in1 e) (by lia) i k j l ((zdN c).trans (zdN d).symm) (zkS c d) h
theorem ztd{u:List (List Int×Option Int)}(e:A.units+1<cLine)(I:Inv X pins σ H s)(f:H a=Φ (.dT (u.map λp=>(kI p.1,wVK p.2))))(g:H b=Φ (.dT (u.map λp=>(kI p.1,wVK p.2))))(h:Q (.bool Δ) s):wpAny (model X.prog X.w) A (compareOp .NotEq (.ref a) (.ref b)) Q E s:=by obtain⟨_,i,m,c,j⟩:=ziR I.hok f;obtain⟨_,k,n,d,l⟩:=ziR I.hok g;exact zrE (tupleKind_room_in1 e) (by lia) i k j l ((zdN c).trans (zdN d).symm) (zkS c d) h
end
theorem zfh(h:dKvs S d=Φ a):∃l,d=.ref l/\S.get l=Φ (.dtp a):=by
 cases d with
 |ref l=>
  refine⟨l,rfl,?_⟩;unfold dKvs at h;dsimp only at h;cases e:S.get l with
  |none=>rw[e]at h;exact nS h
  |some o=>rw[e]at h;cases o with|dtp k=>cases h;rfl|_=>exact nS h
 |_=>exact nS h
theorem zoV{K}(r:RV K ι H y v)(h:zdf y=Φ k):∃b,v=.ref b/\H b=Φ (.tup ((kI k).map kV)):=by cases y with| tup d=>obtain⟨b,e,rfl,a,c⟩:=r;rw[zcy h]at c;rw[c.ints_eq]at a;refine⟨b,rfl,?_⟩;rw[a];unfold kI;rw[map_map];rfl|_=>exact nS h
set_option tactic.hygienic true in
theorem zh3{K}(i:RH K ι H S)(hd:RV K ι H d x)(r:RV K ι H e y)(h:zf6 S d e=Φ k):
  (∃(u:List (List Int×Option Int)) (a b:Addr),x=.ref a/\y=.ref b/\H a=Φ (.dT (u.map λp=>(kI p.1,wVK p.2)))/\H b=Φ (.dT (u.map λp=>(kI p.1,wVK p.2)))/\k=Γ)\/eqD S d e=Φ k:=by
 unfold zf6 at h;split at h;rename_i s t w z;left;obtain⟨l,rfl,A⟩:=zfh w;obtain⟨m,rfl,B⟩:=zfh z;obtain⟨a,C,rfl⟩:=hd;obtain⟨b,E,rfl⟩:=r;obtain⟨J,j,_,L,n,G⟩:=i.obj l _ A;rw[C]at j;cases j;obtain⟨M,o,_,N,q,I⟩:=i.obj m _ B;rw[E]at o;cases o;unfold eqK at h;cases f:zcT s with
 |none=>rw[f]at h;exact nS h
 |some u=>
  cases g:zcT t with
  |none=>rw[f,g]at h;exact nS h
  |some v=>rw[f,g]at h;dsimp only[Ϛ]at h;split at h;rename_i c;subst c;cases h;rw[G.words f]at n;rw[I.words g]at q;exact⟨u,a,b,rfl,rfl,n,q,rfl⟩;exact nS h
 exact .inr h
theorem zg0(h:d3K S x=Φ a):∃l,x=.ref l/\S.get l=Φ (.d3 a):=by
 cases x with
 |ref l=>
  simp only[d3K]at h;cases e:S.get l with
  |none=>rw[e]at h;exact nS h
  |some o=>rw[e]at h;cases o with|d3 k=>cases h;exact⟨l,rfl,e⟩|_=>exact nS h
 |_=>exact nS h
set_option tactic.hygienic true in
theorem zdP{K}(r:RV K ι H y v)(h:key3 y=Φ k):∃c,v=.ref c/\Key3 H k c:=by
 unfold key3 at h;split at h;rename_i a g b;cases e:zax g with
 |none=>rw[e]at h;exact nS h
 |some p=>rw[e]at h;cases h;obtain⟨c,u,rfl,i,j,w,rfl,l,x,z,rfl,m,n,o,rfl,q,s⟩:=r;cases(show o=[] from s);obtain rfl:j=.int a:=l;obtain⟨t,A,rfl,d,f⟩:=m;obtain rfl:n=.int b:=q;rw[zcy e]at f;rw[f.ints_eq]at d;exact⟨c,rfl,t,i,d⟩
 exact nS h
theorem zhX{K}(u:RH K ι H S)(hd:RV K ι H d x)(w:RV K ι H e y)(h:zkq S d e=Φ k):
  (∃a o,y=.ref a/\DGet H a x o/\k=o.isSome)\/(∃a f j c,y=.ref a/\H a=Φ (.ext (TriO a f))/\TriK H f/\x=.ref c/\Key3 H j c/\k=decide (j∈f.map (·.1)))\/((zcg S e).bind λys=>inD S d ys)=Φ k:=by
 unfold zkq at h;split at h;rename_i p g;left;obtain⟨l,rfl,q⟩:=zfh g;obtain⟨a,r,rfl⟩:=w;obtain⟨A,m,_,z,s,n⟩:=u.obj l _ q;rw[r]at m;cases m;cases i:zdf d with
 |none=>rw[i]at h;exact nS h
 |some j=>rw[i]at h;cases h;obtain⟨b,rfl,B⟩:=zoV hd i;refine⟨a,_,rfl,DGet.t s B,?_⟩;rcases n.val j with⟨g,t⟩|⟨d,v,g,t,_⟩;dsimp only;rw[g,t];rfl;dsimp only;rw[g,t];rfl
 split at h;rename_i p g;right;left;obtain⟨l,rfl,q⟩:=zg0 g;obtain⟨a,r,rfl⟩:=w;obtain⟨A,m,_,z,s,n⟩:=u.obj l _ q;rw[r]at m;cases m;cases i:key3 d with
 |none=>rw[i]at h;exact nS h
 |some j=>rw[i]at h;cases h;obtain⟨c,rfl,C⟩:=zdP hd i;exact⟨a,z,j,c,rfl,s,n.triK,rfl,C,by dsimp only;rw[n.keys]⟩
 exact .inr (.inr h)
end R
namespace R
open PySem PySem.Spec PyProof.Rows L2
theorem zgR:∀(as bs:List Int),lexZ as bs=HT.lexLt as bs
 | [],[]=>by simp[lexZ,HT.lexLt]| [],_::_=>by simp[lexZ,HT.lexLt]|_::_,[]=>by simp[lexZ,HT.lexLt]|a::as,b::bs=>by simp[lexZ,HT.lexLt,zgR as bs]
section
variable{prog:Υ}{w:ύ}{A:ϑ}{E:Θ->Ζ->Prop}{s:Ζ}
theorem zeD(x:IsTupleKey (zam prog w) h (ks.map Sum.inl) b):∃items,IsTup h b items/\IntsAre items.toList ks:=by
 obtain⟨o,items,n,e,f,g,j⟩:=x;refine⟨items,⟨o,e,f,n,g⟩,?_⟩;have:∀{l:List Int}{a:List Θ},ItemsAre (zam prog w) (l.map Sum.inl) a->IntsAre a l:=by intro l;induction l with|nil=>intro a h;cases h;exact .nil| cons x l k=>intro a h;cases h with| @cons _ v _ a m p=>rcases zat (show zgS (Sum.inl x) v=Γ from m) with⟨i,t,c,d⟩|⟨y,t,c,d⟩;cases c;subst d;exact .cons _ _ (k p);cases c
 exact this j
theorem zjP{α:Type}{xs:List α}{p:List Nat}(d)(b:p.Perm (List.range xs.length)):(p.map λi=>xs.getD i d).Perm xs:=by
 have a:=b.map λi=>xs.getD i d;have c:(List.range xs.length).map (λi=>xs.getD i d)=xs:=by apply List.ext_getElem;simp;intro i f e;simp[e]
 rw[c]at a;exact a
end
theorem zeK(A)(s)(a)(t)(c)(u)(prog)(w)(E)(Q)(h:Q (.bool (decide (a<=c))) s):
  wpAny (model prog w) A (richCompare .LtE (.int a t) (.int c u)) Q E s:=
 (PyProof.Rows.le_int h:wpAny (model prog w) A (compareOp .LtE (.int a t) (.int c u)) Q E s)
section
open PySem.SeqAt
open PySem.AutoSeq1 (wpAny_loadPart')
open PySem.MeetsSeq PySem.MeetsSeq2 PySem.MeetsSeq3
open HT (lexLt zcN zbu zbf zbg zff)
theorem zeC(l b)(items f)(n n2)(dd N)(sl O)(ns H)(hi:IntsAre items.toList ns)(Y:IntsAre f.toList H):
  Meets (Builtin.«tuple.__le__» ⟨[.ref l,.ref b],[]⟩)
   (λ_ R s=>s.heap.get? l=Φ {cls:=.type "tuple",dict:=dd,data:=.seq items n,slots:=sl}/\s.heap.get? b=Φ {cls:=.type "tuple",dict:=N,data:=.seq f n2,slots:=O}/\
    R (.ok (.ret (.bool (!lexLt H ns)))) s):=
 .of_wp λprog w A R s h=>by
  obtain⟨I,g,d,J,os⟩:=s;obtain⟨hl,hb,h⟩:=h;have f2:=AutoSeq1.sub_tuple_tuple;have z1:items.size=ns.length:=by rw[<-hi.length];simp
  have z2:f.size=H.length:=by rw[<-Y.length];simp
  wp_walk using wpAny_loadPart' hl,wpAny_loadPart' hb,Ϡ _ (λr b Q=>b.1=Ψ/\Q=⟨I,g,d,J,os⟩/\∃(L M:List Θ) (j k:List Int),r=L.zip M/\
   IntsAre L j/\IntsAre M k/\j.length+f.size=k.length+items.size/\R (.ok (.ret (.bool (!lexLt k j)))) ⟨I,g,d,J,os⟩) _
  case turn=>
   rintro⟨y,x⟩ r b Q ⟨z,rfl,L,M,j,k,m,B,o,i,p⟩;cases B with
   |nil=>rw[List.zip_nil_left]at m;cases m
   |cons a t E=>
    cases o with
    |nil=>rw[List.zip_nil_right]at m;cases m
    |cons c u G=>
     rw[ϐ]at m;injection m with T C;injection T with hy hx;subst hy hx;rw[zcN]at p;simp only[Χ]at i;obtain⟨e,he,v⟩:=zff A.in1 ⟨I,g,d,J,os⟩ a t c u;refine Ξ (he prog w _ _ ?_);cases e with
     |true=>
      rw[if_pos (v.mp rfl).symm]at p
      wp_walk
      exact⟨rfl,rfl,_,_,_,_,C,E,G,by lia,p⟩
     |false=>
      rw[if_neg (λq=>absurd (v.mpr q.symm) Ε)]at p;have U:=zeK A.in1 ⟨I,g,d,J,os⟩ a t c u prog w;have e2:(!decide (c<a))=decide (a<=c):=by rw[<-decide_not];exact decide_eq_decide.mpr (by lia)
      rw[e2]at p
      wp_walk using U
      exact⟨_,rfl,by simpa using p⟩
  case fin=>
   rintro⟨b1,b2⟩ Q ⟨z,rfl,L,M,j,k,m,B,o,i,p⟩;simp only at z;subst z;have hv:(!lexLt k j)=decide (items.size<=f.size):=by
    cases B with
    |nil=>cases o with| nil=>simp only[ϩ]at i;rw[zbu];exact(decide_eq_true (by lia)).symm| cons c u hw=>simp only[ϩ,Χ]at i;rw[zbg];exact(decide_eq_true (by lia)).symm
    |cons a t hv=>cases o with| nil=>simp only[ϩ,Χ]at i;rw[zbf];exact(decide_eq_false (by lia)).symm| cons c u hw=>rw[ϐ]at m;cases m
   rw[hv]at p
   wp_walk
   exact⟨_,rfl,by simpa[Builtin.Tuple.tupleCompareSizes]using p⟩
  case h=>exact⟨rfl,rfl,items.toList,f.toList,ns,H,rfl,hi,Y,by lia,h⟩
end
section
variable{prog:Υ}{w:ύ}{A:ϑ}{E:Θ->Ζ->Prop}{s:Ζ}
theorem ziJ(q:IsTup s.heap l items)(r:IsTup s.heap b a)(hi:IntsAre items.toList ns)(t:IntsAre a.toList f)(u:A.units<cLine)(h:Q (.bool (!HT.lexLt f ns)) s):wpAny (model prog w) A (compareOp .LtE (.ref l) (.ref b)) Q E s:=by
 obtain⟨⟨v,y,j,z⟩,k,m,n,o⟩:=id q;obtain⟨⟨p,g,data2,i⟩,c,d,B,e⟩:=id r;simp only at m o d e;subst m o d e;exact richCompare_meets_room (op:=.LtE) ⟨_,k,rfl⟩ ⟨_,c,rfl⟩ PySem.F.slot_tuple_le PySem.F.entry_tuple_le (PySem.F.args_tuple_le_2 _ _) (zeC l b items a n B y g z i ns f hi t)
  ⟨k,c,show Θ.bool (!HT.lexLt f ns)≠Θ.notImplemented/\Q (.bool (!HT.lexLt f ns)) s from⟨(λx=>by cases x),h⟩⟩ u
theorem zgs(hu:A.units+1<cLine)(hx:IsTri prog w s.heap x a)(Y:IsTri prog w s.heap y b)(h:P (.done (.ret (.bool (!decide (Lt3 y x))))) s):
  wpAny (model prog w) A (Builtin.«tuple.__le__» ⟨[.ref a,.ref b],[]⟩) P E s:=by
 have J:=Y.typeIs;obtain⟨oa,t1,C,G,na,L,_,M,u⟩:=hx;obtain⟨ob,t2,H,I,nb,N,_,O,v⟩:=Y;obtain⟨d,m,f⟩:=x;obtain⟨g,n,i⟩:=y;show wpAny _ _ (isInstance (.ref b) (.type "tuple")>>=_) _ _ s;refine Ξ (wpAny_isInstance J isSubtype_tuple_tuple ?_);refine Ξ (wpAny_tupleItemsOf L M ?_);refine Ξ (wpAny_tupleItemsOf N O ?_);apply Ξ;refine Ϡ _
  (λc r o=>r.1=Ψ/\o=s/\(c=[(.int d t1,.int g t2),(.ref G,.ref I),(.int f C,.int i H)]\/(c=[(.ref G,.ref I),(.int f C,.int i H)]/\d=g)\/(c=[(.int f C,.int i H)]/\d=g/\m=n)\/(c=[]/\d=g/\m=n/\f=i)))
  _ ?_ ?_ _ _ ⟨rfl,rfl,.inl rfl⟩
 rintro⟨p,q⟩ c r o ⟨T,rfl,(e|⟨e,l⟩|⟨e,l,t⟩|⟨e,l,t,z3⟩)⟩;cases e;refine Ξ (wpAny_eqBool_int ?_);by_cases j:d=g;rw[show(d==g)=Γ by simp[j]];simp only;exact Β ⟨rfl,rfl,.inr (.inl ⟨trivial,j⟩)⟩
 . rw[show(d==g)=Δ by simp[j]];have B:(!decide (Lt3 (g,n,i) (d,m,f)))=decide (d<=g):=by
    rw[<-decide_not];refine decide_eq_decide.mpr ?_;unfold Lt3;dsimp only;constructor;intro z;lia
    . rintro z (z'|⟨z',_⟩)<;>lia
   rw[B]at h;have k:=zeK A o d t1 g t2 prog w
   wp_walk using k
   exact h
 cases e;refine Ξ (wpAny_eqBool_tuple (by lia) u v ?_);by_cases j:m=n;rw[decide_eq_true (by rw[j])];simp only;exact Β ⟨rfl,rfl,.inr (.inr (.inl ⟨trivial,l,j⟩))⟩
 . rw[decide_eq_false (λz=>j (zfa z))];have B:(!decide (Lt3 (g,n,i) (d,m,f))) = !HT.lexLt n m:=by
    rw[<-zgR];congr 1;apply Bool.eq_iff_iff.mpr;rw[decide_eq_true_eq];subst l;unfold Lt3;dsimp only;have U:¬n=m:=λz=>j z.symm;simp[U]
   rw[B]at h;obtain⟨i1,p1,p2⟩:=zeD u;obtain⟨i2,p3,p4⟩:=zeD v;have k:∀(E Q:Θ->Ζ->Prop),Q (.bool (!HT.lexLt n m)) o->wpAny (model prog w) A (richCompare .LtE (.ref G) (.ref I)) Q E o:=λE Q q=>(ziJ p1 p3 p2 p4 (by lia) q:wpAny (model prog w) A (compareOp .LtE (.ref G) (.ref I)) Q E o)
   wp_walk using k
   exact h
 cases e;refine Ξ (wpAny_eqBool_int ?_);by_cases j:f=i;rw[show(f==i)=Γ by simp[j]];simp only;exact Β ⟨rfl,rfl,.inr (.inr (.inr ⟨trivial,l,t,j⟩))⟩
 . rw[show(f==i)=Δ by simp[j]];have B:(!decide (Lt3 (g,n,i) (d,m,f)))=decide (f<=i):=by
    rw[<-decide_not];refine decide_eq_decide.mpr ?_;subst l t;unfold Lt3;dsimp only;rw[zb4];simp
   rw[B]at h;have k:=zeK A o f C i H prog w
   wp_walk using k
   exact h
 cases e;rintro⟨r1,r2⟩ o ⟨T,rfl,(e|⟨e,l⟩|⟨e,l,t⟩|⟨e,l,t,z3⟩)⟩;cases e;cases e;cases e;simp only at T;subst T;subst l t z3;rw[decide_eq_false (zaS _)]at h;exact Β h
theorem zpM(f:A.units+4<cLine)(c:IsTri prog w s.heap x a)(d:IsTri prog w s.heap y b)(h:Q (.bool (!decide (Lt3 y x))) s):
  wpAny (model prog w) A (compareOp .LtE (.ref a) (.ref b)) Q E s:=
 wpAny_richCompare_same_room (op:=.LtE) c.typeIs d.typeIs F.slot_tuple_le
  (ϡ F.slot_tuple_le c.typeIs F.entry_tuple_le (zgs (by show A.units+1+1<cLine;omega) c d ⟨_,rfl,(λe=>by cases e),h⟩) (F.args_tuple_le_2 _ _)) (by omega)
end
end R
namespace R
open PySem PySem.Spec PyProof.Rows L2
variable[Mks]
def Lf(K:Frag)(ι:List Addr)(H:Hp)(Q:D->R.St->Prop):VK:=λv b=>∃d a c,Ext ι H a b/\RV K a b d v/\RH K a b c/\Q d c
section
variable{K:Frag}{ι ι':List Addr}{H H':Hp}{S S':R.St}{Q:D->R.St->Prop}{d:D}{v:V}{p:Addr}
theorem Lf.of(h:RH K ι H S)(r:RV K ι H d v)(q:Q d S):Lf K ι H Q v H:=⟨d,ι,S,Ext.refl ι H,r,h,q⟩
theorem Lf.up(x:Ext ι H ι' H')(h:Lf K ι' H' Q v b):Lf K ι H Q v b:=by obtain⟨d,a,c,e,r⟩:=h;exact⟨d,a,c,x.trans e,r⟩
theorem Lf.tup(h:RH K ι H S)(a:H p=Option.none){b:List D}{xs:List V}(r:RVs K ι H b xs)(q:Q (.tup b) S):Lf K ι H Q (.ref p) (upd H p (.tup xs)):=⟨.tup b,ι,S,Ext.new a _,⟨p,xs,rfl,zaj,r.ext (Ext.new a _)⟩,h.new a _,q⟩
theorem Lf.lst(h:RH K ι H S)(a:H p=Option.none){b:List D}{xs:List V}(r:RVs K ι H b xs)(q:Q (.ref S.len) (S.push (.lst b))):Lf K ι H Q (.ref p) (upd H p (.lst xs)):=⟨.ref S.len,ι++[p],S.push (.lst b),Ext.obj h a _,⟨p,h.last p,rfl⟩,h.lay a r,q⟩
theorem Lf.wr(h:RH K ι H S)(e:S.get l=Φ o)(b:ι[l]?=Φ a)(w:S.put l (.lst f)=Φ S')(r:RVs K ι H f xs)(c:RV K ι H d v)(q:Q d S'):Lf K ι H Q v (upd H a (.lst xs)):=⟨d,ι,S',Ext.wr h e b _,c.ext (Ext.wr h e b _),h.wr e b w ⟨xs,zaj,r.ext (Ext.wr h e b _)⟩,q⟩
end
theorem zc1(h:W (lay S a) Q):a.length<=sizeLine/\Q (.ref S.len) (S.push (.lst a)):=by unfold lay at h;split at h;rename_i c;exact⟨by rw[ϋ];exact c,h⟩;exact h.elim
theorem ziZ(h:W (wr S l ds d) Q):ds.length<=sizeLine/\∃a,S.put l (.lst ds)=Φ a/\Q d a:=by
 unfold wr at h;split at h;rename_i c;refine⟨by exact c,?_⟩;cases e:S.put l (.lst ds) with|none=>rw[e]at h;exact h.elim|some a=>rw[e]at h;exact⟨a,rfl,h⟩
 exact h.elim
def rD2(K:Frag)(f:R.St->D->D->Out D):R2:=λx y H g=>∃a S d e b,RV K a H d x/\RV K a H e y/\RH K a H S/\W (f S d e) b/\∀v c,Lf K a H b v c->g v c
section
variable{X:Cx}
theorem zmC{vs g:List Θ}(m:IsTup s.heap t vs.toArray)(o:IsTup s.heap b g.toArray)(p:vs=[])(q:Q (.ref b) s):wpAny (model prog w) A (binaryOp .Add (.ref t) (.ref b)) Q E s:=by
 obtain⟨⟨r,u,h,v⟩,i,j,n,k⟩:=id m;obtain⟨⟨l,e,data2,f⟩,a,c,x,d⟩:=id o;simp only at j k c d;subst j k c d;exact concat_meets ⟨_,i,rfl⟩ ⟨_,a,rfl⟩ noFill_tuple_add seq_tuple_add PySem.F.slot_tuple_add PySem.F.entry_tuple_add (PySem.F.args_tuple_add_2 _ _)
  (tuple_addW0 t b vs.toArray g.toArray n x u e v f (by simp[p])) ⟨i,a,q⟩
theorem zl6:OpR X (binaryOp .Add) (λx y H Q=>∃a b ys,x=.ref a/\y=.ref b/\SqT X.K H a []/\SqT X.K H b ys/\Q (.ref b) H):=by intro c s n H x y v u Q I e f h;obtain⟨a,b,ys,rfl,rfl,g,i,q⟩:=h;cases e;cases f;obtain⟨j,k,l,_⟩:=I.tuple g;obtain⟨d,o,m,_⟩:=I.tuple i;exact zmC l m (k.nil_iff.mpr rfl) ⟨.ref b,H,I,rfl,q⟩
set_option tactic.hygienic true in
theorem zrU(op):OpR X (binaryOp op) (rD2 X.K λS d e=>binD S op d e):=by
 intro g s l H x y v u h I m n Y;obtain⟨ι,S,d,e,Qd,E,G,o,f,q⟩:=Y;dsimp only at f;unfold binD at f;split at f;rename_i i j;obtain rfl:x=.int i:=E;obtain rfl:y=.int j:=G;have fin:∀k:Int,Qd (.int k) S->h (.int k) H:=λk hk=>q _ _ (Lf.of (d:=.int k) o rfl hk);unfold binI at f;split at f;exact zrd g s l H _ _ v u h I m n ⟨i,j,rfl,rfl,fin _ f⟩;exact zq5 g s l H _ _ v u h I m n ⟨i,j,rfl,rfl,fin _ f⟩;split at f;rename_i c;refine zq8 g s l H _ _ v u h I m n ⟨i,j,rfl,rfl,?_,fin _ f⟩;unfold zbJ at c;rw[ϟ,decide_eq_true_eq,decide_eq_true_eq]at c;exact c;exact f.elim;split at f;rename_i c;exact zoD g s l H _ _ v u h I m n ⟨i,j,rfl,rfl,c,fin _ f⟩;exact f.elim;split at f;rename_i c;exact zq9 g s l H _ _ v u h I m n ⟨i,j,rfl,rfl,c,fin _ f⟩;exact f.elim;split at f;rename_i c;exact zq6 g s l H _ _ v u h I m n ⟨i,j,rfl,rfl,⟨c.1,c.2.1,by omega⟩,fin _ f⟩;exact f.elim;exact f.elim;rename_i J L;split at f;split at f;rename_i c;obtain⟨a,w,rfl,A,r⟩:=E;obtain⟨b,B,rfl,C,t⟩:=G;by_cases O:w=[];subst O;have M:J=[]:=by have:=r.length;simpa using this.symm
 subst M;refine zl6 g s l H _ _ v u h I m n ⟨a,b,B,rfl,rfl,SqT.of A,SqT.of C,?_⟩;exact q _ _ (Lf.of (d:=.tup L) o ⟨b,B,rfl,C,t⟩ (by simpa using f));refine zoE g s l H _ _ v u h I m n ⟨a,b,w,B,rfl,rfl,SqT.of A,SqT.of C,O,?_,λQ=>?_,λQ p N=>?_⟩;rw[r.length,t.length,ϋ];exact c;subst Q;have M:L=[]:=by have:=t.length;simpa using this.symm
 subst M;exact q _ _ (Lf.of (d:=.tup J) o ⟨a,w,rfl,A,r⟩ (by simpa using f));exact q _ _ (Lf.tup o N (r.append t) f);exact f.elim;exact f.elim;rename_i a b;split at f;rename_i J L e1 e2;obtain⟨a1,h1,rfl⟩:=E;obtain⟨b1,h2,rfl⟩:=G;obtain⟨a2,T,w,A,r⟩:=o.obj _ _ e1;obtain⟨b2,U,B,C,t⟩:=o.obj _ _ e2;rw[h1]at T;cases T;rw[h2]at U;cases U;obtain⟨z,hq⟩:=zc1 f;refine zrc g s l H _ _ v u h I m n ⟨a1,b1,w,B,rfl,rfl,A,C,?_,λp N=>?_⟩;rw[r.length,t.length];rw[length_append]at z;exact z;exact q _ _ (Lf.lst o N (r.append t) hq);exact f.elim;exact f.elim
theorem zaD{α a:Type}{f:α->Option a}{x:α}{xs:List α}{ys:List a}(h:(x::xs).mapM f=Φ ys):∃y r,f x=Φ y/\xs.mapM f=Φ r/\ys=y::r:=by
 rw[Ϣ]at h;cases e:f x with
 |none=>rw[e]at h;exact nS h
 |some y=>
  rw[e]at h;cases b:xs.mapM f with
  |none=>rw[b]at h;exact nS h
  |some r=>rw[b]at h;injection h with h;exact⟨y,r,rfl,rfl,h.symm⟩
set_option tactic.hygienic true in
theorem zix(G:RH X.K ι H S):∀(n:Nat)(d:D)(j:PyData)(v:V),pd S n d=Φ j->RV X.K ι H d v->Rep H j v/\j.canLay0=Γ/\j.depth<=n:=by
 intro n;induction n with
 |zero=>
  intro d p v h r;cases d<;>simp only[pd]at h
  cases h;exact⟨r,rfl,le_refl _⟩;cases h;exact⟨r,rfl,le_refl _⟩;cases h;exact⟨r,rfl,le_refl _⟩;split at h;rename_i c;cases h;exact⟨r,c,le_refl _⟩;exact nS h
  all_goals exact nS h
 |succ n I=>
  have k:∀(g:List D)(f:List PyData)(t:List V),g.mapM (pd S n)=Φ f->RVs X.K ι H g t->RepAll H f t/\PyData.canLayAll0 f=Γ/\PyData.depthAll f<=n:=by
   intro g;induction g with
   |nil=>
    intro f t h r;have h:f=[]:=by simpa using h.symm
    subst h;exact⟨r,rfl,zero_le _⟩
   |cons d g z=>intro f t h r;obtain⟨y,m,A,u,rfl⟩:=zaD h;obtain⟨v,w,rfl,J,L⟩:=r;obtain⟨M,C,O⟩:=I d y v A J;obtain⟨o,q,E⟩:=z m w u L;refine⟨⟨v,w,rfl,M,o⟩,by simp[PyData.canLayAll0,C,q],?_⟩;simp only[PyData.depthAll];lia
  intro d p v h r;cases d with
  |non=>simp only[pd]at h;cases h;exact⟨r,rfl,zero_le _⟩|bl b=>simp only[pd]at h;cases h;exact⟨r,rfl,zero_le _⟩|int i=>simp only[pd]at h;cases h;exact⟨r,rfl,zero_le _⟩| str x=>simp only[pd]at h;split at h;rename_i c;cases h;exact⟨r,c,zero_le _⟩;exact nS h
  |tup g=>
   simp only[pd]at h;cases e:g.mapM (pd S n) with
   |none=>rw[e]at h;exact nS h
   |some f=>
    rw[e]at h;have h:PyData.tuple f=p:=by simpa using h
    subst h;obtain⟨a,s,rfl,B,m⟩:=r;obtain⟨o,q,E⟩:=k g f s e m;refine⟨⟨a,s,rfl,B,o⟩,by simp[PyData.canLay0,q],?_⟩;simp only[PyData.depth];lia
  |ref l=>
   simp only[pd]at h;split at h;rename_i g N;cases e:g.mapM (pd S n) with
   |none=>rw[e]at h;exact nS h
   |some f=>
    rw[e]at h;have h:PyData.list f=p:=by simpa using h
    subst h;obtain⟨a,A,rfl⟩:=r;obtain⟨C,u,s,B,m⟩:=G.obj _ _ N;rw[A]at u;cases u;obtain⟨o,q,E⟩:=k g f s e m;refine⟨⟨a,s,rfl,B,o⟩,by simp[PyData.canLay0,q],?_⟩;simp only[PyData.depth];lia
   exact nS h
  |fix g=>simp only[pd]at h;exact nS h
def rC2(K:Frag)(op:CmpOp):R2:=λx y H b=>∃a S d e k,RV K a H d x/\RV K a H e y/\RH K a H S/\cmpD S op d e=Φ k/\b (.bl k) H
theorem zh2(h:eqD S d e=Φ k):∃a b,pd S 60 d=Φ a/\pd S 60 e=Φ b/\k=PyData.eqv a b:=by
 unfold eqD at h;cases c:pd S 60 d with
 |none=>rw[c]at h;exact nS h
 |some a=>
  rw[c]at h;cases f:pd S 60 e with
  |none=>rw[f]at h;exact nS h
  |some b=>rw[f]at h;injection h with h;exact⟨a,b,rfl,rfl,h.symm⟩
open Classical in
noncomputable def eqRd(h:Heap)(p:PyData)(u:Θ):Bool:=if c:∃q as,Reads h u q as/\q.canLay0=Γ then PyData.eqv c.choose p else Δ
theorem zo8(r:Reads h u q as)(c:q.canLay0=Γ):eqRd h p u=PyData.eqv q p:=by have a:∃q as,Reads h u q as/\q.canLay0=Γ:=⟨q,as,r,c⟩;unfold eqRd;rw[dif_pos a];obtain⟨b,d,e⟩:=a.choose_spec;rw[SeqAt.Reads.unique _ _ _ _ _ c r d]
set_option tactic.hygienic true in
theorem zmk(I:Inv X m σ H s)(hA:A.units+62<cLine)(n:RH X.K ι H S)(o:pd S 60 x=Φ c)(C:RV X.K ι H x f)(E:RelV f g):
  ∀{ds:List D}{vs:List V}{us:List Θ}{bs:List Bool},RVs X.K ι H ds vs->Vals vs us->ds.mapM (λz=>eqD S z x)=Φ bs->us.any (eqRd s.heap c)=bs.any id/\∀u∈us,SeqAt.EqAt A s u g (eqRd s.heap c u):=by
 obtain⟨G,J,x3⟩:=zix n 60 x c f o C;obtain⟨i,j⟩:=Rep.reads I c f g G E;intro ds;induction ds with
 |nil=>
  intro vs us bs r k h;cases(show vs=[] from r);cases k;have h:bs=[]:=by simpa using h.symm
  subst h;exact⟨rfl,λu L=>by cases L⟩
 |cons d ds M=>intro vs us bs r k h;obtain⟨v,w,rfl,N,O⟩:=r;obtain⟨b,rr,e,Q,rfl⟩:=zaD h;cases k with| cons T U=>rename_i u Y;obtain⟨a,b',e1,q,rfl⟩:=zh2 e;rw[o]at q;cases q;obtain⟨p1,t,p3⟩:=zix n 60 d a v e1 N;obtain⟨as,y⟩:=Rep.reads I a v u p1 T;have B:=zo8 (p:=c) y t;obtain⟨i1,i2⟩:=M O U Q;refine⟨by simp[B,i1],λz l=>?_⟩;rcases mem_cons.mp l with rfl|l;rw[B];exact SeqAt.eqAt_reads a c A s z g as i y j t J (by lia);exact i2 z l
theorem zm0(g:RH X.K ι H S)(h:zcg S d=Φ ds)(r:RV X.K ι H d v):∃a xs,v=.ref a/\(SqL X.K H a xs\/SqT X.K H a xs)/\RVs X.K ι H ds xs:=by
 cases d with
 |tup i=>cases h;obtain⟨a,xs,rfl,b,c⟩:=r;exact⟨a,xs,rfl,.inr (SqT.of b),c⟩| fix i=>cases h;obtain⟨a,xs,rfl,b,c⟩:=r;exact⟨a,xs,rfl,.inl b.sq,c⟩| ref l=>simp only[zcg]at h;split at h;rename_i j e;cases h;obtain⟨a,k,rfl⟩:=r;obtain⟨m,f,xs,b,c⟩:=g.obj _ _ e;rw[k]at f;cases f;exact⟨a,xs,rfl,.inl (SqL.of b),c⟩;exact nS h
 |_=>exact nS h
theorem zrB(h:inD S x ys=Φ k):∃bs,ys.mapM (λz=>eqD S z x)=Φ bs/\k=bs.any id:=by
 unfold inD at h;cases e:ys.mapM (λz=>eqD S z x) with
 |none=>rw[e]at h;exact nS h
 |some bs=>rw[e]at h;injection h with h;exact⟨bs,rfl,h.symm⟩
theorem nonV{K}(hd:RV K ι H d x):decide (x=V.non)=zoZ d:=by cases d with|non=>rw[show x=.non from hd];rfl|bl b=>rw[show x=.bl b from hd];rfl|int b=>rw[show x=.int b from hd];rfl|str b=>rw[show x=.str b from hd];rfl|tup b=>obtain⟨_,_,rfl,_⟩:=hd;rfl|ref b=>obtain⟨_,_,rfl⟩:=hd;rfl|fix b=>obtain⟨_,_,rfl,_⟩:=hd;rfl
set_option tactic.hygienic true in
theorem zet(hu:X.A.units+128<cLine)(op):OpR X (compareOp op) (rC2 X.K op):=by
 intro l s N H x y v u O I n m q';obtain⟨ι,S,d,e,k,C,E,L,f,q⟩:=q';unfold cmpD at f;split at f;rename_i i j;obtain rfl:x=.int i:=C;obtain rfl:y=.int j:=E;unfold cmpI at f;split at f;cases f;exact zsP l s N H _ _ v u O I n m ⟨rfl,by simpa using q⟩;cases f;exact zsK l s N H _ _ v u O I n m ⟨rfl,by simpa using q⟩;cases f;exact zsL l s N H _ _ v u O I n m ⟨i,j,rfl,rfl,q⟩;cases f;exact zsM l s N H _ _ v u O I n m ⟨i,j,rfl,rfl,q⟩;cases f;exact zsN l s N H _ _ v u O I n m ⟨i,j,rfl,rfl,q⟩;cases f;exact zsO l s N H _ _ v u O I n m ⟨i,j,rfl,rfl,q⟩;exact nS f;unfold cmpO at f;have T:∀(k:Bool),((zcg S e).bind λys=>inD S d ys)=Φ k->∃a U,y=.ref a/\(SqL X.K H a U\/SqT X.K H a U)/\∃(M:PyData),∀us,Vals U us->us.any (eqRd s.heap M)=k/\∀z∈us,SeqAt.EqAt X.A.in1 s z v (eqRd s.heap M z):=by
  intro k h;cases es:zcg S e with
  |none=>rw[es]at h;exact nS h
  |some ys=>
   rw[es]at h;obtain⟨bs,G,rfl⟩:=zrB (show inD S d ys=Φ k from h);obtain⟨a,U,rfl,t,rr⟩:=zm0 L es E;refine⟨a,U,rfl,t,?_⟩;cases Y:pd S 60 d with
   |some M=>exact⟨M,λus hus=>zmk I (show X.A.units+1+62<cLine by lia) L Y C n rr hus G⟩| none=>
    cases ys with
    |nil=>
     refine⟨.none,λus hus=>?_⟩;cases(show U=[] from rr);cases hus;have G:bs=[]:=by simpa using G.symm
     subst G;exact⟨rfl,λz hz=>by cases hz⟩
    |cons z zs=>obtain⟨b,r,A,_⟩:=zaD G;obtain⟨_,_,_,h3,_⟩:=zh2 A;rw[Y]at h3;exact nS h3
 split at f;rcases zh3 L C E f with⟨us,a,b,rfl,rfl,Q,G,rfl⟩|f;cases(show v=Θ.ref a from n);cases(show u=Θ.ref b from m);exact zte (by lia) I Q G ⟨.bl Γ,H,I,rfl,q⟩;obtain⟨a,b,A,J,rfl⟩:=zh2 f;obtain⟨p1,p2,p3⟩:=zix L 60 d a x A C;obtain⟨q1,q2,q3⟩:=zix L 60 e b y J E;exact zrb (by lia) l s N H x y v u O I n m ⟨a,b,p1,q1,p2,q2,by lia,q⟩;cases B:zf6 S d e with
 |none=>rw[B]at f;exact nS f
 |some k'=>
  rw[B]at f;rcases zh3 L C E B with⟨us,a,b,rfl,rfl,Q,G,rfl⟩|B;cases(show v=Θ.ref a from n);cases(show u=Θ.ref b from m);have f:k=Δ:=by simpa using f.symm
  subst f;exact ztd (by lia) I Q G ⟨.bl Δ,H,I,rfl,q⟩;obtain⟨a,b,A,J,rfl⟩:=zh2 B;obtain⟨p1,p2,p3⟩:=zix L 60 d a x A C;obtain⟨q1,q2,q3⟩:=zix L 60 e b y J E;have f:k = !PyData.eqv a b:=by simpa using f.symm
  subst f;exact zq7 (by lia) l s N H x y v u O I n m ⟨a,b,p1,q1,p2,q2,by lia,q⟩
 split at f;obtain rfl:y=.non:=E;cases f;obtain rfl:u=Θ.none:=m;refine is_none_gen ⟨.bl _,H,I,rfl,?_⟩;rw[n.none_iff,nonV C];exact q;rename_i b _;split at f;rename_i a _;cases f;exact zra l s N H _ _ v u O I n m ⟨a,b,C,E,q⟩;exact nS f;exact nS f;split at f;obtain rfl:y=.non:=E;cases f;obtain rfl:u=Θ.none:=m;refine isnot_none_gen ⟨.bl _,H,I,rfl,?_⟩;rw[n.none_iff,nonV C];exact q;exact nS f;rcases zhX L C E f with⟨a,o,rfl,g,rfl⟩|⟨a,kxs,kk,c,rfl,Q,tk,rfl,B,rfl⟩|f;cases(show u=Θ.ref a from m);exact d_in (by lia) I g n λs3 I3=>⟨.bl o.isSome,H,I3,rfl,q⟩;cases(show u=Θ.ref a from m);cases(show v=Θ.ref c from n);exact ztf (by lia) I Q tk B λs3 I3=>⟨.bl _,H,I3,rfl,q⟩;obtain⟨a,U,rfl,t,M,Y⟩:=T _ f;cases(show u=Θ.ref a from m);rcases t with t|t;obtain⟨p,r,pl,hz⟩:=I.list t;obtain⟨A,J⟩:=Y p r;exact SeqAt.in_listAt (eqRd s.heap M) pl.isList (λw hw=>J w (by simpa using hw)) (zap I q (by simpa using A.symm));obtain⟨p,r,pl,hz⟩:=I.tuple t;obtain⟨A,J⟩:=Y p r;exact SeqAt.in_tupleAt (eqRd s.heap M) pl (λw hw=>J w (by simpa using hw)) (zap I q (by simpa using A.symm));cases B:zkq S d e with
 |none=>rw[B]at f;exact nS f
 |some k'=>
  rw[B]at f;have f:k = !k':=by simpa using f.symm
  subst f;rcases zhX L C E B with⟨a,o,rfl,g,rfl⟩|⟨a,kxs,kk,c,rfl,Q,tk,rfl,h3,rfl⟩|B;cases(show u=Θ.ref a from m);exact zpb (by lia) I g n λs3 I3=>⟨.bl (!o.isSome),H,I3,rfl,q⟩;cases(show u=Θ.ref a from m);cases(show v=Θ.ref c from n);exact zmx (by lia) I Q tk h3 λs3 I3=>⟨.bl _,H,I3,rfl,q⟩;obtain⟨a,U,rfl,t,M,Y⟩:=T k' B;cases(show u=Θ.ref a from m);rcases t with t|t;obtain⟨p,r,pl,hz⟩:=I.list t;obtain⟨A,J⟩:=Y p r;exact SeqAt.notIn_listAt (eqRd s.heap M) pl.isList (λw hw=>J w (by simpa using hw)) (zap I q (by simpa using congrArg (!·) A.symm));obtain⟨p,r,pl,hz⟩:=I.tuple t;obtain⟨A,J⟩:=Y p r;exact SeqAt.notIn_tupleAt (eqRd s.heap M) pl (λw hw=>J w (by simpa using hw)) (zap I q (by simpa using congrArg (!·) A.symm))
 cases e1:key3 d with
 |none=>rw[e1]at f;exact nS f
 |some ka=>
  cases e2:key3 e with
  |none=>rw[e1,e2]at f;exact nS f
  |some kb=>
   rw[e1,e2]at f;have f:k = !decide (Lt3 kb ka):=by simpa using f.symm
   subst f;obtain⟨a,rfl,Q⟩:=zdP C e1;obtain⟨b,rfl,G⟩:=zdP E e2;cases(show v=Θ.ref a from n);cases(show u=Θ.ref b from m);exact zpM (by lia) (zbL I.hok Q) (zbL I.hok G) ⟨.bl _,H,I,rfl,q⟩
 exact nS f
end
set_option backward.match.sparseCases false
noncomputable def zah:Expr->Bool|.Starred _ _=>Δ|_=>Γ
noncomputable def zbe:Expr->Bool|.ListComp ..=>Δ|.SetComp ..=>Δ|.DictComp ..=>Δ|_=>Γ
noncomputable def zeW:Expr->Bool|.Slice ..=>Δ|_=>Γ
noncomputable def zaN:Expr->Bool|.Set ..=>Δ|_=>Γ
noncomputable def zau:Expr->Bool|.Call (.Name _ _) [] [] _=>Δ|_=>Γ
noncomputable def zhE:Expr->Bool|.UnaryOp .Not _ _=>Δ|.BoolOp ..=>Δ|.IfExp ..=>Δ|.Compare ..=>Δ|_=>Γ
set_option backward.match.sparseCases true
theorem zaf(h:zah e=Γ)(es)(env):starEach (e::es) env=(Δ,eval e env)::starEach es env:=by cases e<;>first|rfl|exact nB h
theorem zeF(h:zbe e=Γ)(t)(l)(env):swapsWith e t l env=pure Δ:=by cases e<;>first|rfl|exact nB h
theorem zsV(h:zeW e=Γ):zk8 e:=by intro o i;cases e<;>first|rfl|exact nB h
theorem ze2(h:zaN e=Γ)(op):behindInMarks op e=Δ:=by cases e<;>first|rfl|exact nB h
set_option tactic.hygienic true in
theorem zbi(h:zau e=Γ)(x)(env)(w):attributeBase e x env w=w:=by cases e<;>(try rfl);rename_i f a k _;cases f<;>(try rfl);cases a<;>(try rfl);cases k<;>(try rfl);exact nB h
theorem zpK(h:zhE e=Γ)(env)(w):isTrue e env w=(do let v <-w;standAt e.pos;holding [v] (truthy v)):=by
 cases e with
 |UnaryOp a x p=>cases a<;>first|rfl|exact nB h
 |_=>first|rfl|exact nB h
theorem zgV(h:zaN e=Γ)(env)(x):foldedSetIterable e env x=pure x:=by cases e<;>first|rfl|exact nB h
theorem zaI:∀{es:List Expr},es.all zah=Γ->(backTo pos (starEach es env)).any (·.1)=Δ
 | [],_=>rfl| e::es,h=>by rw[all_cons,Λ]at h;rw[zaf h.1];exact zaI h.2
def BM(b:Str->Option Θ)(base:Heap):Prop:=∃(a:Addr) (o:Obj),b "__builtins__"=Φ (.ref a)/\a≠builtinsNs/\a≠mainGlobals/\base.get? a=Φ o/\o.cls=.type "module"/\o.dict=Φ builtinsNs/\o.data=.plain
structure Maker(X:Cx)(c P:Addr):Prop where
 bm:BM X.mg X.base
 code:X.env.code=.ref c
 hd:codeHdIn X.K c P=Γ
 mem:(P,X.env.qual ++ "<lambda>")∈Mks.ts
 one:∀p∈Mks.ts,p.1=P->p.2=X.env.qual ++ "<lambda>"
structure Tab where
 blt:List Str
 cons:List (Str×D)
 fns:List (Str×List Str×Nat)
 cls:List Str:=[]
 flds:List Str:=[]
 mts:List (Nat×Str×Nat):=[]
 inits:List (Nat×Nat×Nat):=[]
 cms:List (Str×Str×Nat):=[]
 isas:List (Str×List Nat):=[]
 lam:List Str:=["lambda"]
 lamP:Nat:=0
noncomputable def zmi(a:Scope)(x:Str):Bool:=match a.names.lookup x with|some .local=>Γ|some .cell=>Γ|some .free=>Γ|_=>Δ
noncomputable def zfS(a:Scope)(x:Str):Bool:=match a.names.lookup x with|some .local=>Γ|some .cell=>Γ|_=>Δ
noncomputable def isGl(a:Scope)(x:Str):Bool:=match a.names.lookup x with|some .globalImplicit=>Γ|_=>Δ
noncomputable def eqC:D->D->Bool
 |.non,.non=>Γ|.bl a,.bl b=>a==b|.int a,.int b=>a==b|.str a,.str b=>a==b|_,_=>Δ
theorem zrN:∀{d e:D},eqC d e=Γ->d=e:=by intro d e h;cases d<;>cases e<;>first|rfl|(cases eq_of_beq h;rfl)|exact nB h
noncomputable def sV:D->V
 |.non=>.non|.bl b=>.bl b|.int i=>.int i|.str x=>.str x|_=>.non
noncomputable def zn4:D->Bool
 |.non=>Γ|.bl _=>Γ|.int _=>Γ|.str _=>Γ|_=>Δ
theorem zsx{K}(h:zn4 d=Γ):RV K ι H d (sV d):=by cases d<;>first|rfl|exact nB h
noncomputable def conB:D->Const->Bool
 |.non,.none=>Γ|.bl a,.bool b=>a==b|.int a,.int b=>a==b|.str a,.str b=>a==b|_,_=>Δ
noncomputable def bltB(T:Tab)(a:Scope)(x:Str):Bool:=isGl a x&&T.blt.contains x
def spF(K:Frag)(cf:CF)(f:Nat):Sp:=λg H h _=>∃c S e,RVs K c H e g/\RH K c H S/\W (cf f e S) (λd T=>∀v b a,Ext c H a b->RV K a b d v->RH K a b T->h v b)
structure HasM(P:Υ)(w:ύ)(K:Frag)(mg:Str->Option Θ)(base:Heap)(k c:Nat)(m:Str)(sp:Sp):Prop where
 ex:∃(C fa:Addr) (fd:FuncData) (ps:List Str),Mks.cl[c]?=Φ C/\Cls K C/\Meth K C m fa/\FnOk P w K mg base CX0 k fa fd ps sp/\Binds K fd ps []
structure HasI(P:Υ)(w:ύ)(K:Frag)(mg:Str->Option Θ)(base:Heap)(k c j:Nat)(sp:Sp):Prop where
 ex:∃(C fa:Addr) (fd:FuncData) (ps:List Str),Mks.cl[c]?=Φ C/\Mk K C fa/\FnOk P w K mg base CX0 k fa fd ps sp/\Binds K fd ps (List.replicate j Θ.none)
structure HasC(P:Υ)(w:ύ)(K:Frag)(mg:Str->Option Θ)(base:Heap)(k:Nat)(x m:Str)(sp:Sp):Prop where
 ex:∃(C fa:Addr) (fd:FuncData) (ps:List Str) (mc:Θ),mg x=Φ (.ref C)/\specialIn K (.ref C) "__getattribute__"=Φ (Φ (.builtin "type.__getattribute__"))/\readsIn K C mc=Γ/\findCls K (.ref C) mc m=Φ (.val (.ref fa))/\
  keepIn K (.ref fa)=Γ/\FnOk P w K mg base CX0 k fa fd ps sp/\Binds K fd ps []
structure IsaOk(K:Frag)(C:Addr):Prop where
 ha:findIn K (.ref C) "__class__"=Φ (Φ (.builtin "object.__class__"))
 hn:specialIn K (.builtin "object.__class__") "__get__"=Φ (Φ (.builtin "getset_descriptor.__get__"))
 ht:takesIn K (.builtin "object.__class__")=Φ Γ
 hm:mroIn K C (.type "object")=Φ Γ
structure TabOk(T:Tab)(cf:CF)(k:Nat)(P:Υ)(w:ύ)(K:Frag)(mg:Str->Option Θ)(base:Heap):Prop where
 blt:∀x,T.blt.contains x=Γ->mg x=Ψ
 con:∀x d,T.cons.lookup x=Φ d->zn4 d=Γ/\∃u,mg x=Φ u/\RelV (sV d) u
 fns:∀f x ps nd,T.fns[f]?=Φ (x,ps,nd)->∀j,j<=nd->Has P w K mg base k x ps (List.replicate j .non) (spF K cf f)
 frm:CFok cf
 cls:∀(c:Nat)(x:Str),T.cls[c]?=Φ x->∃C,Mks.cl[c]?=Φ C/\Cls K C/\mg x=Φ (.ref C)/\∀f,T.flds.contains f=Γ->NoAttr K C f
 mth:∀(c:Nat)(m:Str)(fi:Nat),T.mts.contains (c,m,fi)=Γ->HasM P w K mg base k c m (spF K cf fi)
 ini:∀(c fi j:Nat),T.inits.contains (c,fi,j)=Γ->HasI P w K mg base k c j (spF K cf fi)
 cmd:∀(x m:Str)(fi:Nat),T.cms.contains (x,m,fi)=Γ->HasC P w K mg base k x m (spF K cf fi)
 cln:(T.flds≠[]\/T.inits≠[]\/T.isas≠[])->Mks.cl.length<=T.cls.length
 isa:∀(x:Str)(cs:List Nat),T.isas.contains (x,cs)=Γ->∃D,mg x=Φ (.ref D)/\∀c C,Mks.cl[c]?=Φ C->IsaOk K C/\kitOne K (.ref C) (.ref D)=Φ (cs.contains c)
structure Gd(T:Tab)(cf:CF)(k:Nat)(N:List Str)(sc:Scope)(X:Cx):Prop where
 nm:X.N=N
 nd:N.Nodup
 loc:∀x,sc.names.lookup x=Φ .local->X.env.scope.names.lookup x=Φ .local
 cell:∀x,sc.names.lookup x=Φ .cell->X.env.scope.names.lookup x=Φ .cell
 free:∀x,sc.names.lookup x=Φ .free->X.env.scope.names.lookup x=Φ .free\/X.env.scope.names.lookup x=Φ .cell
 glob:∀x,sc.names.lookup x=Φ .globalImplicit->X.env.scope.names.lookup x=Φ .globalImplicit
 fn:(∀x,X.fn x=Γ)\/∀x,sc.names.lookup x≠Φ .cell
 calm:X.calm=Γ
 xe:X.xe=λ_ _=>False
 room':Room (k+1) X.A
 tab:TabOk T cf k X.prog X.w X.K X.mg X.base
 lam:N=T.lam->3<=k/\∃c,Maker X c T.lamP
section
variable{T:Tab}{cf:CF}{k:Nat}{N:List Str}{sc:Scope}{X:Cx}
theorem Gd.room(G:Gd T cf k N sc X):Room k X.A:=G.room'.mono (le_succ k)
theorem Gd.hu(G:Gd T cf k N sc X):X.A.units+128<cLine:=by have:=G.room.un;lia
theorem Gd.vis(G:Gd T cf k N sc X)(h:zmi sc x=Γ):Vis X.env.scope x:=by unfold zmi at h;split at h;rename_i e;exact .inl (G.loc x e);rename_i e;exact .inr (.inl (G.cell x e));rename_i e;rcases G.free x e with q|q;exact .inr (.inr q);exact .inr (.inl q);exact nB h
theorem Gd.lc(G:Gd T cf k N sc X)(h:zfS sc x=Γ):Loc X.env.scope x/\(X.fn x=Γ\/X.env.scope.names.lookup x=Φ .local):=by unfold zfS at h;split at h;rename_i e;exact⟨.inl (G.loc x e),.inr (G.loc x e)⟩;rename_i e;refine⟨.inr (G.cell x e),?_⟩;rcases G.fn with q|q;exact .inl (q x);exact absurd e (q x);exact nB h
theorem Gd.gl(G:Gd T cf k N sc X)(h:isGl sc x=Γ):Gl X x:=by unfold isGl at h;split at h;rename_i e;exact G.glob x e;exact nB h
end
def RS(K:Frag)(ι:List Addr)(H:Hp)(δ:Ev)(σ:L2.St):Prop:=δ.length=σ.length/\∀(i:Nat)(d:D),δ[i]?=Φ (Φ d)->∃v,σ[i]?=Φ (Φ v)/\RV K ι H d v
theorem RS.ext{K}(h:RS K ι H δ a)(x:Ext ι H ι' H'):RS K ι' H' δ a:=⟨h.1,λi d e=>let ⟨v,b,r⟩:=h.2 i d e;⟨v,b,r.ext x⟩⟩
theorem RS.set{K}(h:RS K ι H δ f)(r:RV K ι H d v)(i):RS K ι H (δ.set i (Φ d)) (f.set i (Φ v)):=by
 refine⟨by simp[h.1],λj e b=>?_⟩;by_cases a:i=j;subst a;have c:i<δ.length:=by have:=(Α.mp b).1;simpa using this
 rw[getElem?_set_self c]at b;cases b;exact⟨v,getElem?_set_self (by rw[<-h.1];exact c),r⟩;rw[getElem?_set_ne a]at b;obtain⟨g,k,l⟩:=h.2 j e b;exact⟨g,by rw[getElem?_set_ne a];exact k,l⟩
def tE(K:Frag)(cf:CF)(d:CE):TE:=λe H f=>∃b a S Q,RS K a H b e/\RH K a H S/\W (evE cf d b S) Q/\∀v c,Lf K a H Q v c->f v c
def LfB(K:Frag)(ι:List Addr)(H:Hp)(Q:Bool->R.St->Prop):Bool->Hp->Prop:=λb c=>∃a d,Ext ι H a c/\RH K a c d/\Q b d
def tT(K:Frag)(cf:CF)(e:CE):TT:=λf H g=>∃c a S Q,RS K a H c f/\RH K a H S/\W (evT cf e c S) Q/\∀b d,LfB K a H Q b d->g b d
def LfA(K:Frag)(ι:List Addr)(H:Hp)(Q:List D->R.St->Prop):List V->Hp->Prop:=λe b=>∃c a d,Ext ι H a b/\RVs K a b c e/\RH K a b d/\Q c d
def tAs(K:Frag)(cf:CF)(a:CEs):TA:=λf H g=>∃c b S Q,RS K b H c f/\RH K b H S/\W (evEs cf a c S) Q/\∀d e,LfA K b H Q d e->g d e
inductive SqK(K:Frag)(ι:List Addr)(H:Hp)(S:R.St)(a:Addr)(xs:List V)(ds:List D)(lks:List Nat):Prop where
 |tmp (h:a∉ι) (e:H a=Φ (.lst xs)):SqK K ι H S a xs ds lks
 |tup (e:H a=Φ (.tup xs)):SqK K ι H S a xs ds lks
 |fix (e:FixL K H a xs):SqK K ι H S a xs ds lks
 |own (l:Nat) (hl:l∈lks) (hi:ι[l]?=Φ a) (hs:S.get l=Φ (.lst ds)) (e:H a=Φ (.lst xs)):SqK K ι H S a xs ds lks
def Sq(K:Frag)(ι:List Addr)(H:Hp)(S:R.St)(v:V)(ds:List D)(b:List Nat):Prop:=∃a c,v=.ref a/\RVs K ι H ds c/\SqK K ι H S a c ds b
def LfL(K:Frag)(ι:List Addr)(H:Hp)(Q:List D×List Nat->R.St->Prop):VK:=λv c=>∃e b a d,Ext ι H a c/\Sq K a c d v e b/\RH K a c d/\Q (e,b) d
def tL(K:Frag)(cf:CF)(cl:CL):TE:=λd H e=>∃b a S Q,RS K a H b d/\RH K a H S/\W (evL cf cl b S) Q/\∀v c,LfL K a H Q v c->e v c
def LfT(K:Frag)(ι:List Addr)(H:Hp)(Q:List D×List Nat->R.St->Prop):VK:=λv c=>∃d b e a f,Ext ι H b c/\v=.ref a/\RVs K b c d f/\a∉b/\c a=Φ (.lst f)/\RH K b c e/\H a=Ψ/\Q (d,[]) e
def tLt(K:Frag)(cf:CF)(cl:CL):TE:=λd H e=>∃b a S Q,RS K a H b d/\RH K a H S/\W (evL cf cl b S) Q/\∀v c,LfT K a H Q v c->e v c
theorem LfT.l{K}(h:LfT K ι H Q v H'):LfL K ι H Q v H':=by obtain⟨b,i,c,a,d,x,rfl,r,f,e,g,_,q⟩:=h;exact⟨b,[],i,c,x,⟨a,d,rfl,r,.tmp f e⟩,g,q⟩
theorem PE.imp(h:PE X e t)(i:∀a H Q,t' a H Q->t a H Q):PE X e t':=λb s a H Q I q=>h b s a H Q I (i a H Q q)
theorem PT.imp(h:PT X e t)(i:∀a H Q,t' a H Q->t a H Q):PT X e t':=λb s a H Q I q=>h b s a H Q I (i a H Q q)
theorem PW.imp(h:PW X e t)(i:∀a H Q,t' a H Q->t a H Q):PW X e t':=λc b s a H Q I q=>h c b s a H Q I (i a H Q q)
theorem PA.imp(h:PA X es t)(i:∀a H Q,t' a H Q->t a H Q):PA X es t':=λpos b s a H Q I q=>h pos b s a H Q I (i a H Q q)
theorem tE.run{K}(j:RS K ι H δ e)(f:RH K ι H S)(w:W (evE cf a δ S) Q)(h:∀d v i H' b,Ext ι H i H'->RS K i H' δ e->RH K i H' b->RV K i H' d v->Q d b->g v H'):tE K cf a e H g:=
 ⟨δ,ι,S,Q,j,f,w,λv H' z=>(by obtain⟨d,i,b,x,r,c,q⟩:=z;exact h d v i H' b x (j.ext x) c r q)⟩
theorem tT.run{K}(j:RS K ι H δ e)(f:RH K ι H S)(w:W (evT cf a δ S) Q)(h:∀b i H' c,Ext ι H i H'->RS K i H' δ e->RH K i H' c->Q b c->g b H'):tT K cf a e H g:=
 ⟨δ,ι,S,Q,j,f,w,λb H' z=>(by obtain⟨i,c,x,d,q⟩:=z;exact h b i H' c x (j.ext x) d q)⟩
theorem tAs.run{K}(j:RS K ι H δ e)(f:RH K ι H S)(w:W (evEs cf a δ S) Q)(h:∀k vs i H' b,Ext ι H i H'->RS K i H' δ e->RH K i H' b->RVs K i H' k vs->Q k b->g vs H'):tAs K cf a e H g:=
 ⟨δ,ι,S,Q,j,f,w,λv H' z=>(by obtain⟨d,i,b,x,r,c,q⟩:=z;exact h d v i H' b x (j.ext x) c r q)⟩
theorem PE.ofT(h:PE X e (tLt X.K cf cl)):PE X e (tL X.K cf cl):=PE.imp h λd H f z=>(by obtain⟨a,g,S,Q,b,c,w,q⟩:=z;exact ⟨a,g,S,Q,b,c,w,λv i l=>q v i l.l⟩)
theorem tLt.run{K}(n:RS K ι H δ d)(f:RH K ι H S)(w:W (evL cf a δ S) Q)(h:∀m p xs l H' b,Ext ι H l H'->RS K l H' δ d->RH K l H' b->RVs K l H' m xs->p∉l->H' p=Φ (.lst xs)->H p=Ψ->Q (m,[]) b->g (.ref p) H'):tLt K cf a d H g:=
 ⟨δ,ι,S,Q,n,f,w,λv H' z=>(by obtain⟨m,l,b,p,xs,x,e,r,i,j,c,k,q⟩:=z;exact e▸h m p xs l H' b x (n.ext x) c r i j k q)⟩
theorem tL.run{K}(k:RS K ι H δ e)(f:RH K ι H S)(w:W (evL cf a δ S) Q)(h:∀j b v i H' c,Ext ι H i H'->RS K i H' δ e->RH K i H' c->Sq K i H' c v j b->Q (j,b) c->g v H'):tL K cf a e H g:=
 ⟨δ,ι,S,Q,k,f,w,λv H' z=>(by obtain⟨j,b,i,c,x,r,d,q⟩:=z;exact h j b v i H' c x (k.ext x) d r q)⟩
end R
namespace R
open PySem PySem.Spec PyProof.Rows L2
section
variable{X:Cx}{pins:List (Addr×Obj)}{σ:L2.St}{H:Hp}{s:Ζ}{A:ϑ}{E:Θ->Ζ->Prop}{a c:Addr}{k:K3}{ws:List (K3×Addr×V)}
noncomputable def val3(ws:List (K3×Addr×V))(k:K3):Option V:=(ws.find? λx=>decide (x.1=k)).map (·.2.2)
theorem zmU(ok:HOk P w H h)(e:Rd H a (.ext (TriO a ws)))(d:TriK H ws):ws.length<=sizeLine/\(a==sysModules)=Δ/\∃xs,Paired P3 ws xs/\h.DictOfH (zbc P w) a xs:=by
 obtain⟨⟨z,y,xs,r,o,i,j,n,b,u,v,B⟩,_,_⟩:=(show ObjOk P w H h a (.ext _) from e.ok ok);refine⟨z,y,xs,r,o,i,j,n,b,u,?_,?_,B⟩;rw[v];exact Ο λx _=>(zgZ x).symm;have f:∀{l:List (K3×Addr×V)}{m:List (K3×Addr×Θ)},Paired P3 l m->TriK H l->∀x∈m,(zbc P w).is h x.1 x.2.1:=by
  intro l m q;induction q with
  |nil=>intro _ x b;exact by cases b
  | @cons p q I J g t C=>intro d x b;rcases mem_cons.mp b with e|b;subst e;rw[<-g.1,<-g.2.1];exact zbL ok (d p ϊ);exact C (λy G=>d y (Τ _ G)) x b
 exact f r d
theorem zq2(k)(h:Paired P3 ws xs):RelO (val3 ws k) ((atKey xs k).map (·.2)):=by induction h with|nil=>exact trivial| @cons p q f g b t d=>unfold val3 atKey at d⊢;rw[ϖ,ϖ];by_cases e:p.1=k;rw[decide_eq_true e,decide_eq_true (b.1▸e)];exact b.2.2;rw[decide_eq_false e,decide_eq_false (b.1▸e)];exact d
end
end R
namespace R
open PySem PySem.Spec PyProof.Rows L2
variable[Mks]
section
variable{T:Tab}{cf:CF}{k:Nat}{N:List Str}{sc:Scope}{X:Cx}{pos:Pos}
theorem zgn(h:W o Q):∃a S,o=.ok a S/\Q a S:=W.iff.mp h
theorem zaq(h:W (lift S o) Q):∃a,o=Φ a/\Q a S:=by cases o with|none=>exact h.elim|some a=>exact⟨a,rfl,h⟩
theorem zqd(G:Gd T cf k N sc X)(b:N[i]?=Φ x)(c:zmi sc x=Γ)(f:(x==("__debug__":Str))=Δ)(g:(x==("__classdict__":Str))=Δ):PE X (.Name x pos) (tE X.K cf (.loc i)):=by
 refine PE.imp (zjQ (i:=i) (by rw[G.nm];exact b) (G.vis c) f g) λp H s y=>?_;obtain⟨a,t,S,Q,h,j,w,q⟩:=y;obtain⟨d,e,l⟩:=zaq w;have m:a[i]?=Φ (Φ d):=by
  cases z:a[i]? with
  |none=>rw[z]at e;exact nS e
  |some o=>rw[z]at e;simp at e;rw[e]
 obtain⟨v,n,r⟩:=h.2 i d m;exact⟨v,n,q v H (Lf.of j r l)⟩
theorem zqi(h:conB d c=Γ):PE X (.Constant c j pos) (tE X.K cf (.con d)):=by
 have key:∀{v:V},PE X (.Constant c j pos) (tC v)->(∀K ι H,RV K ι H d v)->PE X (.Constant c j pos) (tE X.K cf (.con d)):=λ{v} hp hr=>PE.imp hp λσ H Qv z=>(by obtain⟨δ,ι,S,Q,hs,hh,w,q⟩:=z;exact q v H (Lf.of hh (hr _ _ _) w))
 cases d<;>cases c<;>first
  |exact key zqU λ_ _ _=>rfl
  |exact nB h
  |(cases eq_of_beq h;exact key zjS λ_ _ _=>rfl)
  |(cases eq_of_beq h;exact key zsJ λ_ _ _=>rfl)
  |(cases eq_of_beq h;exact key zqS λ_ _ _=>rfl)
theorem znZ(G:Gd T cf k N sc X)(b:isGl sc x=Γ)(c:T.cons.lookup x=Φ d')(f:eqC d' d=Γ)(g:(x==("__debug__":Str))=Δ):PE X (.Name x pos) (tE X.K cf (.con d)):=by have e:=zrN f;subst e;obtain⟨a,u,h,r⟩:=G.tab.con x d' c;exact PE.imp (zgG (G.gl b) h r g) λj H l z=>(by obtain⟨m,n,S,Q,o,i,w,q⟩:=z;exact q (sV d') H (Lf.of i (zsx a) w))
theorem zql(j:PE X a (tE X.K cf m))(n:PE X b (tE X.K cf o)):PE X (.BinOp a op b pos) (tE X.K cf (.bin op m o)):=by refine PE.imp (zsH (zrU op) j n) λI H J k=>?_;obtain⟨L,M,S,Q,p,r,w,q⟩:=k;change W (Out.bind _ _) _ at w;simp only[zaa] at w;exact tE.run p r w λd v s O U t c f x y=>tE.run c f y λe u g Y A i B h C E=>⟨g,A,d,e,Q,x.ext i,C,h,E,λz G l=>q z G (Lf.up (t.trans i) l)⟩
theorem zp9(e:PE X a (tE X.K cf f)):PE X (.UnaryOp .USub a pos) (tE X.K cf (.neg f)):=by refine PE.imp (zsF zpF e) λo H p z=>?_;obtain⟨r,s,S,Q,g,h,w,q⟩:=z;change W (Out.bind _ _) _ at w;simp only[zaa] at w;refine tE.run g h w λd v j t u l m b n c=>?_;cases d with| int i=>obtain rfl:v=.int i:=n;exact⟨i,rfl,q _ _ (Lf.up l (Lf.of (d:=.int (-i)) b rfl c))⟩|_=>exact c.elim
theorem zsr(e:PE X a (tE X.K cf f)):PE X (.UnaryOp .Not a pos) (tE X.K cf (.nt f)):=by refine PE.imp (zqT e) λo H p z=>?_;obtain⟨r,s,S,Q,g,h,w,q⟩:=z;change W (Out.bind _ _) _ at w;simp only[zaa] at w;refine tE.run g h w λd v j t u l m b n c=>?_;cases d with| bl i=>obtain rfl:v=.bl i:=n;exact⟨i,rfl,q _ _ (Lf.up l (Lf.of (d:=.bl (!i)) b rfl c))⟩|_=>exact c.elim
theorem zqj(G:Gd T cf k N sc X)(l:PE X a (tE X.K cf m))(f:PE X b (tE X.K cf n))(o:zaN b=Γ):PE X (.Compare a [op] [b] pos) (tE X.K cf (.cmp op m n)):=by refine PE.imp (zoy (zet G.hu op) l f (ze2 o op)) λJ H L z=>?_;obtain⟨M,O,S,Q,p,r,w,q⟩:=z;change W (Out.bind _ _) _ at w;simp only[zaa] at w;refine tE.run p r w λd v s U Y t g h x y=>tE.run g h y λe u i H2 A j B c C E=>?_;obtain⟨b,f,I⟩:=zaq E;exact⟨i,A,d,e,b,x.ext j,C,c,f,q _ _ (Lf.up (t.trans j) (Lf.of (d:=.bl b) c rfl I))⟩
theorem zpZ(G:Gd T cf k N sc X)(m:PE X a (tE X.K cf n))(g:PE X b (tE X.K cf o))(p:zaN b=Γ):PT X (.Compare a [op] [b] pos) (tT X.K cf (.cmp op n o)):=by refine PT.imp (zjH (zet G.hu op) m g (ze2 p op)) λJ H L z=>?_;obtain⟨M,O,S,Q,r,s,w,q⟩:=z;change W (Out.bind _ _) _ at w;simp only[zaa] at w;refine tE.run r s w λd v t U Y x h i y A=>tE.run h i A λe u c H2 j l B f C E=>?_;obtain⟨b,g,I⟩:=zaq E;exact⟨c,j,d,e,b,y.ext l,C,f,g,b,rfl,q _ _ ⟨c,j,x.trans l,f,I⟩⟩
theorem zn2(G:Gd T cf k N sc X)(A:PE X a (tE X.K cf B))(g:PE X b (tE X.K cf C))(E:PE X c (tE X.K cf I))(hm:zaN b=Γ)(j:zaN c=Γ):
  PE X (.Compare a [op,h] [b,c] pos) (tE X.K cf (.cmp2 op h B C I)):=by
 refine PE.imp (zl3 (zet G.hu op) (zet G.hu h) A g E (by simp[lastMarks,ze2 j])) λσ H Qv z=>?_;obtain⟨δ,ι,S,Q,J,L,w,q⟩:=z;change W (Out.bind _ _) _ at w;simp only[zaa] at w;refine tE.run J L w λd v M H1 S1 t l m O U=>tE.run l m U λe u n H2 Y o p f x w2=>?_;obtain⟨b,g,r⟩:=zaq w2;refine⟨n,Y,d,e,b,O.ext o,x,f,g,b,rfl,?_⟩;cases b with|false=>exact q _ _ (Lf.up (t.trans o) (Lf.of (d:=.bl Δ) f rfl r))| true=>simp only[if_true,zaa]at r⊢;refine tE.run p f r λe' u' s H3 S3 y hs3 i r3 w4=>?_;obtain⟨b,g,w5⟩:=zaq w4;exact⟨s,S3,e,e',b,x.ext y,r3,i,g,q _ _ (Lf.up ((t.trans o).trans y) (Lf.of (d:=.bl b) i rfl w5))⟩
theorem znH(G:Gd T cf k N sc X)(C:PE X a (tE X.K cf E))(g:PE X b (tE X.K cf I))(J:PE X c (tE X.K cf L))(hm:zaN b=Γ)(m:zaN c=Γ):
  PT X (.Compare a [op,h] [b,c] pos) (tT X.K cf (.cmp2 op h E I L)):=by
 refine PT.imp (zlO (zet G.hu op) (zet G.hu h) C g J (by simp[lastMarks,ze2 m])) λσ H Qv z=>?_;obtain⟨δ,ι,S,Q,M,O,w,q⟩:=z;change W (Out.bind _ _) _ at w;simp only[zaa] at w;refine tE.run M O w λd v U H1 S1 t n o Y w1=>tE.run n o w1 λe u i H2 x p r f y w2=>?_;obtain⟨b,g,s⟩:=zaq w2;refine⟨i,x,d,e,b,Y.ext p,y,f,g,b,rfl,?_⟩;cases b with|false=>exact⟨Δ,rfl,q _ _ ⟨i,x,t.trans p,f,s⟩⟩| true=>simp only[if_true,zaa]at s⊢;refine tE.run r f s λe' u' j H3 A B hs3 l r3 w4=>?_;obtain⟨b,g,w5⟩:=zaq w4;exact⟨j,A,e,e',b,y.ext B,r3,l,g,b,rfl,q _ _ ⟨j,A,(t.trans p).trans B,l,w5⟩⟩
theorem zm1(m:PE X a (tE X.K cf n))(o:PE X (.BoolOp .And (b::e) pos) (tE X.K cf p)):PE X (.BoolOp .And (a::b::e) pos) (tE X.K cf (.and n p)):=by
 refine PE.imp (zq1 m o) λA H B k=>?_;obtain⟨r,C,S,Q,s,t,w,q⟩:=k;change W (Out.bind _ _) _ at w;simp only[zaa] at w;refine tE.run s t w λd v g E u j h f x i=>?_;cases d with
 |bl c=>obtain rfl:v=.bl c:=x;refine⟨c,rfl,?_⟩;cases c with|false=>exact q _ _ (Lf.up j (Lf.of (d:=.bl Δ) f rfl i))|true=>exact⟨r,g,u,Q,h,f,i,λz y l=>q z y (Lf.up j l)⟩
 |_=>exact i.elim
theorem zp8(m:PE X a (tE X.K cf n))(o:PE X (.BoolOp .Or (b::e) pos) (tE X.K cf p)):PE X (.BoolOp .Or (a::b::e) pos) (tE X.K cf (.or n p)):=by
 refine PE.imp (zsG m o) λA H B k=>?_;obtain⟨r,C,S,Q,s,t,w,q⟩:=k;change W (Out.bind _ _) _ at w;simp only[zaa] at w;refine tE.run s t w λd v g E u j h f x i=>?_;cases d with
 |bl c=>obtain rfl:v=.bl c:=x;refine⟨c,rfl,?_⟩;cases c with|true=>exact q _ _ (Lf.up j (Lf.of (d:=.bl Γ) f rfl i))|false=>exact⟨r,g,u,Q,h,f,i,λz y l=>q z y (Lf.up j l)⟩
 |_=>exact i.elim
theorem LfB.up{K}(x:Ext ι H f H')(h:LfB K f H' Q b c):LfB K ι H Q b c:=by obtain⟨a,d,e,r⟩:=h;exact⟨a,d,x.trans e,r⟩
theorem zmW(m:PT X a (tT X.K cf n))(o:PW X (.BoolOp .And (b::d) pos) (tT X.K cf p)):PW X (.BoolOp .And (a::b::d) pos) (tT X.K cf (.and n p)):=by refine PW.imp (zqG m o) λv H x k=>?_;obtain⟨r,y,S,Q,s,t,w,q⟩:=k;change W (Out.bind _ _) _ at w;simp only[zaa] at w;refine tT.run s t w λc e A h i g f j=>?_;cases c with|false=>exact q _ _ ⟨e,h,i,f,j⟩|true=>exact⟨r,e,h,Q,g,f,j,λz u l=>q z u (LfB.up i l)⟩
theorem zpY(m:PT X a (tT X.K cf n))(o:PW X (.BoolOp .Or (b::d) pos) (tT X.K cf p)):PW X (.BoolOp .Or (a::b::d) pos) (tT X.K cf (.or n p)):=by refine PW.imp (zqF m o) λv H x k=>?_;obtain⟨r,y,S,Q,s,t,w,q⟩:=k;change W (Out.bind _ _) _ at w;simp only[zaa] at w;refine tT.run s t w λc e A h i g f j=>?_;cases c with|true=>exact q _ _ ⟨e,h,i,f,j⟩|false=>exact⟨r,e,h,Q,g,f,j,λz u l=>q z u (LfB.up i l)⟩
theorem zso(e:PT X a (tT X.K cf f)):PT X (.UnaryOp .Not a pos) (tT X.K cf (.nt f)):=by refine PT.imp (zm6 e) λn H o z=>?_;obtain⟨p,r,S,Q,g,h,w,q⟩:=z;change W (Out.bind _ _) _ at w;simp only[zaa] at w;exact tT.run g h w λc b s i j l d m=>q _ _ ⟨b,i,j,d,m⟩
set_option tactic.hygienic true in
theorem zpL(o:RH X.K ι H S)(r:RV X.K ι H d v)(h:tru S d=Φ b):TruV X.K v H b:=by
 cases d with
 |non=>obtain rfl:v=.non:=r;cases h;rfl|bl c=>obtain rfl:v=.bl c:=r;cases h;rfl|int i=>obtain rfl:v=.int i:=r;cases h;rfl| tup g=>obtain⟨a,f,rfl,j,m⟩:=r;cases h;refine .inr (.inl ⟨f,SqT.of j,?_⟩);have:=m.length;cases g<;>cases f<;>first|rfl|simp at this
 |ref l=>
  simp only[tru]at h;split at h
  . rename_i g e;cases h;obtain⟨a,p,rfl⟩:=r;obtain⟨q,n,f,j,m⟩:=o.obj _ _ e;rw[p]at n;cases n;refine .inl ⟨f,SqL.of j,?_⟩;have:=m.length;cases g<;>cases f<;>first|rfl|simp at this
  exact nS h
 |_=>exact nS h
theorem zpX(f:PE X a (tE X.K cf g))(h:zhE a=Γ):PT X a (tT X.K cf (.tst g)):=by refine PT.imp (zlN f (zpK h X.env)) λt H u z=>?_;obtain⟨x,y,S,Q,i,j,w,q⟩:=z;change W (Out.bind _ _) _ at w;simp only[zaa] at w;refine tE.run i j w λd v e A l m n c o p=>?_;obtain⟨b,r,s⟩:=zaq p;exact⟨b,zpL c o r,q _ _ ⟨e,l,m,c,s⟩⟩
theorem zqe(n:PT X c (tT X.K cf o))(p:PE X a (tE X.K cf r))(s:PE X b (tE X.K cf t)):PE X (.IfExp c a b pos) (tE X.K cf (.ite o r t)):=by refine PE.imp (zlW n p s) λx H y k=>?_;obtain⟨h,A,S,Q,u,v,w,q⟩:=k;change W (Out.bind _ _) _ at w;simp only[zaa] at w;refine tT.run u v w λc d B i j e f m=>?_;cases c with|true=>exact⟨h,d,i,Q,e,f,m,λz g l=>q z g (Lf.up j l)⟩|false=>exact⟨h,d,i,Q,e,f,m,λz g l=>q z g (Lf.up j l)⟩
theorem zm2:PA X [] (tAs X.K cf .nil):=PA.imp zfE λc H d z=>(by obtain⟨e,a,S,Q,f,b,w,q⟩:=z;exact q [] H ⟨[],a,S,Ext.refl _ _,rfl,b,by simpa[evEs]using w⟩)
theorem zjp(j:PE X e (tE X.K cf l))(a:PA X es (tAs X.K cf b))(m:zah e=Γ):PA X (e::es) (tAs X.K cf (.cons l b)):=by refine PA.imp (zbI j a (zaf m es X.env)) λE H G z=>?_;obtain⟨I,J,S,Q,n,o,w,q⟩:=z;simp only[evEs,zaa]at w;refine tE.run n o w λd v p L M r c f s t=>tAs.run c f t λu x g O y i A h B C=>?_;exact q _ _ ⟨d::u,g,y,r.trans i,⟨v,x,rfl,s.ext i,B⟩,h,C⟩
theorem zp6(h:PA X es (tAs X.K cf a)):PE X (.Tuple es j pos) (tE X.K cf (.tup a)):=by refine PE.imp (zqR h) λo H r z=>?_;obtain⟨s,t,S,Q,f,g,w,q⟩:=z;change W (Out.bind _ _) _ at w;simp only[zaa] at w;refine tAs.run f g w λu v i x y l m b e d=>?_;split at d;rename_i c;exact⟨by rw[e.length,ϋ];exact c,λp n=>q _ _ (Lf.up l (Lf.tup b n e d))⟩;exact d.elim
theorem zqc(h:PA X es (tAs X.K cf a)):PE X (.List es pos) (tE X.K cf (.lst a)):=by refine PE.imp (zqV h) λo H r z=>?_;obtain⟨s,t,S,Q,e,f,w,q⟩:=z;change W (Out.bind _ _) _ at w;simp only[zaa] at w;refine tAs.run e f w λu v g x y i j b d l=>?_;obtain⟨c,m⟩:=zc1 l;exact⟨by rw[d.length];exact c,λp n=>q _ _ (Lf.up i (Lf.lst b n d m))⟩
theorem zn1:PE X (.Dict [] [] pos) (tE X.K cf .dnew):=by refine PE.imp zl0 λd H e z=>?_;obtain⟨f,c,S,Q,g,a,w,q⟩:=z;intro p b;exact q _ _ ⟨.ref S.len,c++[p],S.push (.dic []),Ext.obj a b _,⟨p,a.last p,rfl⟩,a.obj' b _ _ ⟨List.nodup_nil,[],zaj,rfl⟩,w⟩
theorem zsU(n:RH X.K ι H S)(r:RV X.K ι H d v)(o:zcg S d=Φ ds)(b:R.atI ds i=Φ e):∃u,rIx X.K v (.int i) H (λz H'=>z=u/\H'=H)/\RV X.K ι H e u:=by
 obtain⟨a,f,rfl,c,m⟩:=zm0 n o r;have p:=m.length;have key:∃u,L2.atI f i=Φ u/\RV X.K ι H e u:=by
  unfold R.atI at b;cases h:R.ixN ds.length i with
  |none=>rw[h]at b;exact nS b
  |some j=>
   rw[h]at b;obtain⟨u,g,l⟩:=m.get (show ds[j]?=Φ e from b);refine⟨u,?_,l⟩;unfold L2.atI;have:L2.ixN f.length i=Φ j:=by rw[p];exact h
   rw[this];exact g
 obtain⟨u,g,l⟩:=key;refine⟨u,?_,l⟩;rcases c with c|c;exact .inl ⟨a,f,i,u,rfl,rfl,c,g,rfl,rfl⟩;exact .inr (.inl ⟨a,f,i,u,rfl,rfl,c,g,rfl,rfl⟩)
theorem zob{K}(h:rIx K x y H (λz H'=>z=u/\H'=H))(q:Q u H):rIx K x y H Q:=by rcases h with⟨p,f,i,v,a,b,d,e,rfl,_⟩|⟨p,f,i,v,a,b,d,e,rfl,_⟩|⟨z,i,c,a,b,d,e,g,_⟩;exact .inl ⟨p,f,i,v,a,b,d,e,q⟩;exact .inr (.inl ⟨p,f,i,v,a,b,d,e,q⟩);exact .inr (.inr ⟨z,i,c,a,b,d,e,by rw[g];exact q⟩)
set_option tactic.hygienic true in
theorem zst(l:PE X a (tE X.K cf m))(n:PE X b (tE X.K cf o))(p:zeW b=Γ):PE X (.Subscript a b pos) (tE X.K cf (.ix m o)):=by refine PE.imp (zsI zrz l n (zsV p)) λO H U k=>?_;obtain⟨Y,ι,S,Q,r,s,w,q⟩:=k;change W (Out.bind _ _) _ at w;simp only[zaa] at w;refine tE.run r s w λd v t H1 S1 x f g y A=>tE.run f g A λe u B H2 S2 j C c E h=>?_;split at h;rename_i ds i G;obtain⟨z,I,J⟩:=zaq h;obtain rfl:u=.int i:=E;obtain⟨u,L,M⟩:=zsU c (y.ext j) G I;exact zob L (q _ _ (Lf.up (x.trans j) (Lf.of c M J)));exact h.elim
end
section
variable{K:Frag}{ι ι':List Addr}{H H':Hp}{S T:R.St}{d:D}{v:V}
theorem zo3(a:T.frz=S.frz++S.new)(h:S.get l=Φ o):T.get l=Φ o:=by obtain⟨f,n,k⟩:=T;have a:f=S.frz++S.new:=a;subst a;exact zky h n k
theorem RH.cut(p:RH K ι H S)(x:Ext ι H ι' H')(r:RH K ι' H' T)(u:T.frz=S.frz++S.new):RH K ι H' S:=by refine⟨p.len,p.nd,λl o e=>?_,r.tab⟩;obtain⟨a,s,j⟩:=p.obj l o e;obtain⟨b,t,k⟩:=r.obj l o (zo3 u e);rw[zbF x.pre s]at t;cases t;refine⟨a,s,?_⟩;cases o with| lst z=>obtain⟨A,_,f⟩:=j;obtain⟨g,h,i⟩:=k;exact⟨g,h,i.restrict x.pre f.flats⟩| dic m=>obtain⟨_,q,_,f⟩:=j;obtain⟨n,g,h,i⟩:=k;exact⟨n,g,h,i.restrict x.pre f.flats⟩| ins c B=>obtain⟨_,_,q,_,_,f⟩:=j;obtain⟨C,w,g,y,h,i⟩:=k;exact⟨C,w,g,y,h,i.restrict x.pre f.flats⟩| dtp m=>obtain⟨_,q,_,f⟩:=j;obtain⟨n,g,h,i⟩:=k;exact⟨n,g,h,i.restrict x.pre f.flats⟩| d3 m=>obtain⟨_,q,_,f⟩:=j;obtain⟨n,g,h,i⟩:=k;exact⟨n,g,h,i.restrict x.pre f.flats⟩
theorem Ext.cut(x:Ext ι H ι' H'):Ext ι H ι H':=⟨Ϧ _,x.kp,λa o h e=>⟨(x.rest a o h e).1,h⟩⟩
theorem zon(c:ι <+: ι')(e:ι'.Nodup)(b:ι'[l]?=Φ a)(h:ι.length<=l):a∉ι:=λf=>by obtain⟨t,rfl⟩:=c;rw[getElem?_append_right h]at b;have g:=mem_of_getElem? b;exact(nodup_append.mp e).2.2 a f a g rfl
theorem zgX(x:Ext ι H ι' H')(g:ι'.Nodup)(f:ι'[l]?=Φ a)(h:ι.length<=l):Ext ι H (ι++[a]) H':=by refine⟨Ϙ _ _,x.kp,λb o c e=>⟨(x.rest b o c e).1,λz=>?_⟩⟩;rcases mem_append.mp z with z|z;exact c z;simp at z;subst z;exact(x.rest b o c e).2 (mem_of_getElem? f)
theorem RH.one{l:Nat}{a:Addr}{o:MO}(f:RH K ι H' S)(i:a∉ι)(j:RO K (ι++[a]) H' a o):RH K (ι++[a]) H' (S.push o):=by
 refine⟨by rw[length_append,f.len,zb0];rfl,?_,λl k e=>?_,f.tab⟩;rw[nodup_append];refine⟨f.nd,by simp,λb m c h=>?_⟩;simp at h;subst h;exact λz=>i (z▸m);by_cases n:l<S.len;rw[zck n]at e;obtain⟨b,p,q⟩:=f.obj l k e;exact⟨b,zbF (Ϙ _ _) p,q.up (Ϙ _ _) (Kp.refl _) rfl⟩;have g:=get_lt e;rw[zb0]at g;have:l=S.len:=by lia
 subst this;rw[zfb]at e;cases e;exact⟨a,by rw[<-f.len];simp,j⟩
theorem RH.keep(a:RH K ι' H' T)(c:T.frz=S.frz++S.new):RH K ι' H' ⟨S.frz,S.new++T.new,S.lk⟩:=by
 have g:∀l,(R.St.mk S.frz (S.new++T.new) S.lk).get l=T.get l:=λl=>by unfold St.get;rw[c];simp only[length_append];by_cases b:l<S.frz.length;rw[if_pos b,if_pos (by omega),getElem?_append_left b];by_cases f:l<S.frz.length+S.new.length;rw[if_neg b,if_pos f,getElem?_append_left (by omega),getElem?_append_right (by omega)];rw[if_neg b,if_neg f,getElem?_append_right (by omega)];congr 1;omega
 refine⟨?_,a.nd,λl o e=>a.obj l o (by rw[<-g];exact e),a.tab⟩;rw[a.len];unfold St.len;rw[c];simp only[length_append];omega
set_option tactic.hygienic true in
theorem zhQ(g:RH K ι H S)(x:Ext ι H ι' H')(r:RV K ι' H' d v)(f:RH K ι' H' T)(m:T.frz=S.frz++S.new)(w:W (zde S d T) Q):Lf K ι H Q v H':=by
 have s:=g.cut x f m;unfold zde at w;split at w;rename_i c;rw[<-g.len]at c;exact⟨d,ι,S,x.cut,r.restrict x.pre c,s,w⟩;rename_i c;dsimp only at w;split at w;rename_i l;obtain⟨a,j,rfl⟩:=id r;have t:ι.length<=l:=by simp only[R.flat,decide_eq_true_eq]at c;rw[g.len];lia
 have u:=zon x.pre f.nd j t;split at w;rename_i z e;obtain⟨b,h,n⟩:=f.obj l _ e;rw[j]at h;cases h;split at w;rename_i i;rw[<-g.len]at i;obtain⟨o,p,q⟩:=n;refine⟨.ref S.len,ι++[a],S.push (.lst z),zgX x f.nd j t,⟨a,by rw[<-g.len];simp,rfl⟩,s.one (l:=l) u ⟨o,p,(q.restrict x.pre i).up (Ϙ _ _) (Kp.refl _)⟩,w⟩;exact⟨_,ι',_,x,r,f.keep m,w⟩;rename_i k e;obtain⟨b,h,n⟩:=f.obj l _ e;rw[j]at h;cases h;split at w;rename_i i;rw[<-g.len]at i;obtain⟨y,o,p,q⟩:=n;refine⟨.ref S.len,ι++[a],S.push (.dic k),zgX x f.nd j t,⟨a,by rw[<-g.len];simp,rfl⟩,s.one (l:=l) u ⟨y,o,p,(q.restrict x.pre i).up (Ϙ _ _) (Kp.refl _)⟩,w⟩;exact⟨_,ι',_,x,r,f.keep m,w⟩;rename_i k e;obtain⟨b,h,n⟩:=f.obj l _ e;rw[j]at h;cases h;split at w;rename_i i;rw[<-g.len]at i;obtain⟨y,o,p,q⟩:=n;refine⟨.ref S.len,ι++[a],S.push (.dtp k),zgX x f.nd j t,⟨a,by rw[<-g.len];simp,rfl⟩,s.one (l:=l) u ⟨y,o,p,(q.restrict x.pre i).up (Ϙ _ _) (Kp.refl _)⟩,w⟩;exact⟨_,ι',_,x,r,f.keep m,w⟩;exact⟨_,ι',_,x,r,f.keep m,w⟩;exact⟨_,ι',_,x,r,f.keep m,w⟩
end
section
variable{T:Tab}{cf:CF}{k:Nat}{N:List Str}{sc:Scope}{X:Cx}{pos p:Pos}
theorem RVs.nons{K}:∀j:Nat,RVs K ι H (List.replicate j .non) (List.replicate j .non)
 |0=>rfl|j+1=>⟨.non,List.replicate j .non,rfl,rfl,RVs.nons j⟩
theorem RH.enter{K}(h:RH K ι H S):RH K ι H S.enter:=⟨by rw[enter_len];exact h.len,h.nd,λl o e=>h.obj l o (by rw[zcB]at e;exact e),h.tab⟩
theorem zkZ(b:CFok cf)(h:tE X.K cf (.call f j c) σ H l):
  zeE (spF X.K cf f) (List.replicate j .non) E0 (tAs X.K cf c) σ H l:=by
 obtain⟨E,G,S,Q,m,n,w,q⟩:=h;change W (Out.bind _ _) _ at w;simp only[zaa] at w;refine tAs.run m n w λo I g J s t u a y i=>?_;unfold app at i;rw[zaa]at i;refine⟨g,s.enter,o++List.replicate j .non,y.append (RVs.nons j),a.enter,?_⟩;obtain⟨d,L,e,z⟩:=zgn i;rw[e];exact λv A B x r C=>q v A (Lf.up t (zhQ a x r C (b _ _ _ _ _ e).frz z))
theorem zk2{K}(g:RH K b c i)(x:Ext ι H b c)(d:c a=Ψ):H a=Ψ:=by
 cases e:H a with
 |none=>rfl| some o=>
  by_cases f:a∈ι;have h:a∈b:=by obtain⟨t,rfl⟩:=x.pre;exact mem_append_left _ f
  exact absurd h (g.fresh d)
  . have:=(x.rest a o f e).1;rw[d]at this;rcases this with z|⟨_,_,z⟩<;>exact nS z
theorem zn3(G:Gd T cf k N sc X)(d:T.fns[f]?=Φ (x,ps,c))(g:j<=c)(i:isGl sc x=Γ)(hd:(x==("__debug__":Str))=Δ)(l:PA X (e::es) (tAs X.K cf b))(a:(e::es).all zah=Γ):
  PE X (.Call (.Name x p) (e::es) [] pos) (tE X.K cf (.call f j b)):=by
 have m:=G.tab.fns f x ps c d j g;rw[all_cons,Λ]at a;exact PE.imp (zqY m G.room l (G.gl i) hd (zaf a.1 es X.env) (zaI a.2)) λn H o h=>zkZ G.tab.frm h
theorem zlx(G:Gd T cf k N sc X)(c:T.fns[f]?=Φ (x,ps,a))(g:j<=a)(h:isGl sc x=Γ)(hd:(x==("__debug__":Str))=Δ):
  PE X (.Call (.Name x p) [] [] pos) (tE X.K cf (.call f j .nil)):=by
 have i:=G.tab.fns f x ps a c j g;refine PE.imp (zqX i G.room (G.gl h) hd) λt H u z=>?_;obtain⟨y,l,S,Q,A,b,w,q⟩:=z;change W (Out.bind _ _) _ at w;simp only[evEs,za2] at w;unfold app at w;rw[zaa]at w;obtain⟨d,B,e,m⟩:=zgn w;refine⟨l,S.enter,[]++List.replicate j .non,RVs.append rfl (RVs.nons j),b.enter,?_⟩;rw[e];exact λv n o x r s=>q v n (zhQ b x r s (G.tab.frm _ _ _ _ _ e).frz m)
theorem ziW(h:tE X.K cf (.callW f j a) σ H l):
  zeE (spF X.K cf f) (List.replicate j .non) E0 (tAs X.K cf a) σ H l:=by
 obtain⟨E,G,S,Q,m,n,w,q⟩:=h;change W (Out.bind _ _) _ at w;simp only[zaa] at w;refine tAs.run m n w λo I b J s t u c y i=>?_;unfold appW at i;refine⟨b,s,o++List.replicate j .non,y.append (RVs.nons j),c,?_⟩;obtain⟨d,z,e,A⟩:=zgn i;rw[e];exact λv B g x r C=>q v B (Lf.up t ⟨d,g,z,x,r,C,A⟩)
theorem zlv(G:Gd T cf k N sc X)(d:T.fns[f]?=Φ (x,ps,c))(g:j<=c)(i:isGl sc x=Γ)(hd:(x==("__debug__":Str))=Δ)(l:PA X (e::es) (tAs X.K cf b))(a:(e::es).all zah=Γ):
  PE X (.Call (.Name x p) (e::es) [] pos) (tE X.K cf (.callW f j b)):=by
 have m:=G.tab.fns f x ps c d j g;rw[all_cons,Λ]at a;exact PE.imp (zqY m G.room l (G.gl i) hd (zaf a.1 es X.env) (zaI a.2)) λn H o h=>ziW h
end
end R
namespace R
open PySem PySem.Spec PyProof.Rows L2
section
variable[Mks]
theorem zpc(p:A.units+5<cLine)(I:Inv X b σ H s)(e:Rd H a (.ext (TriO a f)))(l:TriK H f)(m:Key3 H k c)(h:∀g i,Inv X b σ H i->RelV ((val3 f k).getD .non) g->Q g i):
  wpAny (model X.prog X.w) A (call (.builtin "dict.get") [.ref a,.ref c]) Q E s:=by
 obtain⟨z,n,o,d,j⟩:=zmU I.hok e l;refine call_meetsIn PySem.F.slot_dict_get j.typeIs PySem.F.entry_dict_get (PySem.F.args_dict_get_2 _ _) (meetsH_dict_get (zbc X.prog X.w) a c n) ⟨(show A.units+1+4<cLine by omega),k,o,zbL I.hok m,j,h _ _ (I.tok _) ?_⟩;exact(zq2 k d).getD rfl
noncomputable def zpV(h i:TE):TE:=λf H Q=>h f H λx d=>∃a g,x=.ref a/\Rd d a (.ext (TriO a g))/\TriK d g/\i f d λy b=>∃k c e,y=.ref c/\Key3 b k c/\Rd b a (.ext (TriO a e))/\TriK b e/\Q ((val3 e k).getD .non) b
theorem zl2(t:X.A.units+5<cLine)(v:PE X o w)(A:PE X e B)(m:M1 X o "get" g e i):PE X (.Call (.Attribute o "get" g) [e] [] i) (zpV w B):=by intro f s n H Q I h;refine wpAny_Call_method m.base m.few m.line PySem.F.plainAttrs_dict PySem.F.slot_dict_get PySem.F.type_dict_get (thn (v f s n H _ I h) λu C z=>?_);obtain⟨x,E,p,G,a,ws,J,d,L,M⟩:=z;subst J;obtain rfl:u=Θ.ref a:=G;obtain⟨_,hd,xs,_,r⟩:=zmU p.hok d L;refine⟨r.typeIs,λb q=>?_,?_⟩;cases q;obtain⟨N,_,_,O,T,_⟩:=r;exact⟨N,O,T.2.1⟩;rw[m.trees];refine Calls.callWith_builtin rfl (Calls.evalArgs_plain (ϛ (thn (A f C n E _ p M) λU s2 ⟨y,Y,I2,ry,k,c,vs,ey,ek,d3,j,q3⟩=>Calls.spliced_nil ?_)));subst ey;cases(show U=Θ.ref c from ry);exact zpc t I2 d3 j ek λw' s4 I4 l=>⟨_,Y,I4,l,q3⟩
theorem R3s.val{K}(k):∀{a:List (K3×D)}{b:List (K3×Addr×V)},R3s K ι H a b->(zd7 a k=Ψ/\val3 b k=Ψ)\/∃d v,zd7 a k=Φ d/\val3 b k=Φ v/\RV K ι H d v
 | [],_,r=>by rw[show _=[] from r];exact .inl ⟨rfl,rfl⟩| (j,d)::a,b,r=>by
  obtain⟨c,v,w,rfl,_,f,g⟩:=r;by_cases e:j=k;subst e;exact .inr ⟨d,v,by simp[zd7],by simp[val3],f⟩;have h:zd7 ((j,d)::a) k=zd7 a k:=by simp[zd7,e]
  have i:val3 ((j,c,v)::w) k=val3 w k:=by simp[val3,e]
  rw[h,i];exact R3s.val k g
theorem zqh(G:Gd T cf k N sc X)(U:PE X o (tE X.K cf Y))(he:PE X e (tE X.K cf ce))(f:zah e=Γ)(g:zau o=Γ)(hl:(h.endLine==i.line)=Γ):
  PE X (.Call (.Attribute o "get" h) [e] [] i) (tE X.K cf (.dgN Y ce)):=by
 refine PE.imp (zl2 (by have:=G.hu;lia) U he ⟨zbi g "get" X.env _,by rw[zaf f];rfl,hl,by rw[zaf f];rfl⟩) λσ H Qv z=>?_;obtain⟨δ,ι,S,Q,hs,hh,w,q⟩:=z;change W (Out.bind _ _) _ at w;simp only[zaa] at w;refine tE.run hs hh w λd v ι1 H1 S1 x1 s j E w1=>?_;obtain⟨kvs,hb,w2⟩:=zaq w1;obtain⟨l,rfl,g1⟩:=zg0 hb;have t:=E;obtain⟨a,h1,rfl⟩:=E;obtain⟨a',I,nd,ws,ha,rk⟩:=j.obj l _ g1;rw[h1]at I;cases I;refine⟨a,ws,rfl,.inl ha,rk.triK,?_⟩;refine tE.run s j w2 λy vy ι2 H2 S2 J hs2 b r2 w3=>?_;obtain⟨o,p,r⟩:=zaq w3;unfold ziT at p;obtain⟨kv3,u,p⟩:=Option.bind_eq_some_iff.mp p;obtain⟨L,hk,rfl⟩:=Option.map_eq_some_iff.mp p;obtain⟨l',e',g3⟩:=zg0 u;cases e';have M:=x1.trans J;obtain⟨a2,x,m⟩:=t.ext J;cases m;obtain⟨a',O,nd3,A,B,n⟩:=b.obj l _ g3;rw[x]at O;cases O;obtain⟨c,rfl,hc⟩:=zdP r2 hk;refine⟨L,c,A,rfl,hc,.inl B,n.triK,?_⟩;rcases R3s.val L n with⟨C,m⟩|⟨d',v',C,m,rv⟩;rw[C]at r;rw[m];exact q _ _ (Lf.up M (Lf.of (d:=D.non) (v:=V.non) b rfl r));rw[C]at r;rw[m];exact q _ _ (Lf.up M (Lf.of b rv r))
end
section
variable{prog:Υ}{w:ύ}{K:Type}[DecidableEq K]{knd:HeapKind prog w K}{A:ϑ}{E:Θ->Ζ->Prop}{s:Ζ}{xs:List (K×Addr×Θ)}{d:Addr}
theorem zs3(hu:knd.room A.in1)(hkey:knd.is s.heap k c)(hS:(d==sysModules)=Δ)(hm:s.heap.DictOfH knd d xs)(hsz:xs.length<=sizeLine)(h1:∀p t,atKey xs k=Φ p->Q p.2 {s with toks:=t})(h2:∀h' t,atKey xs k=Ψ->h'.DictOfH knd d (storedH xs k c v)->Heap.SameBut d s.heap h'->Q v {s with heap:=h',toks:=t}):
  wpAny (model prog w) A (call (.builtin "dict.setdefault") [.ref d,.ref c,v]) Q E s:=by
 have hT:=hm.typeIs;refine ϡ PySem.F.slot_dict_setdefault hT PySem.F.entry_dict_setdefault ?_ (PySem.F.args_dict_setdefault_3 _ _ _);obtain⟨o,es,ep,ho,hc,hd,he,hi,hn⟩:=id hm;unfold Builtin.«dict.setdefault»;refine Ξ ?_;unfold Builtin.Dict.keyAndDefault;refine Ξ (wpAny_notOrdered_dict hT ?_);show wpAny _ _ (pure (d,Θ.ref c,Φ v)) _ _ s;refine Β ?_;dsimp only;rw[hS];simp only[Ρ,if_false];refine Ξ ?_;unfold dictSetDefault
 try with_reducible refine Ϥ ?_
 refine Ξ (knd.pyHash hu hkey ?_);refine Ξ (wpAny_dictFind_heap (s:={s with toks:=s.toks+knd.draws k}) hu hkey ho hd he hi hn (λhno=>?_) λj p hj=>?_);have hnot:k∉xs.map (·.1):=not_mem_keys_of_get hno;have hnk:=atKey_none_of_get hno;refine Ξ (ϧ (Ξ (wpAny_updateDictKeys (hz:=by have e:=size_of_entries he;lia) (s:={s with toks:=s.toks+knd.draws k}) ho hd (Β (Β ⟨v,rfl,h2 _ _ hnk ⟨_,_,ep+1,Heap.get?_update_self _ ho (Obj.isFreed_of_dict (Obj.data_mapDictKeys hd _)),hc.mapDictKeys _,Obj.data_mapDictKeys hd _,?_,?_,?_⟩ (Heap.SameBut.update ..)⟩)))));rw[storedH_new hnk];simp[he,entryOfKey];rw[storedH_new hnk];intro x hx;rcases mem_append.mp hx with hx|hx;exact knd.keeps (hi x hx) ho hd (Heap.SameBut.update ..);cases mem_singleton.mp hx;exact knd.keeps hkey ho hd (Heap.SameBut.update ..);rw[storedH_new hnk,map_append,nodup_append];refine⟨hn,by simp,λx hx y hy=>?_⟩;simp at hy;subst hy;exact λe=>hnot (e▸hx);refine Ξ (wpAny_dictEntries (s:={s with toks:=s.toks+knd.draws k}) ho hd ?_);rw[entry_at he j,hj];exact Ξ (ϧ (Β (Β ⟨_,rfl,h1 p _ (atKey_of_get hn hj)⟩)))
end
section
variable{X:Cx}{o e f:Expr}{apos cpos:Pos}{td ty tv:TE}
def zpS(td ty tv:TE):TE:=λg H Q=>td g H λx h=>∃a,x=.ref a/\IsD h a/\ty g h λy i=>tv g i λv d=>∃c k b,d a=Φ (.dT c)/\y=.ref b/\d b=Φ (.tup (k.map kV))/\(∀u,valV c k=Φ u->Q u d)/\(valV c k=Ψ->c.length<sizeLine/\Q v (upd d a (.dT (putK c k v))))
theorem zlX(hu:X.A.units+1<cLine)(ho:PE X o td)(he:PE X e ty)(hf:PE X f tv)(m:M2 X o "setdefault" apos e f cpos):PE X (.Call (.Attribute o "setdefault" apos) [e,f] [] cpos) (zpS td ty tv):=by
 intro pins s σ H Q I h;refine wpAny_Call_method m.base m.few m.line PySem.F.plainAttrs_dict PySem.F.slot_dict_setdefault PySem.F.type_dict_setdefault (thn (ho pins s σ H _ I h) λu s1 ⟨x,H1,I1,rx,a,ex,d,q1⟩=>?_);subst ex;obtain rfl:u=Θ.ref a:=rx;obtain⟨t1,t2,_⟩:=zkn I1 d;refine⟨t1,t2,?_⟩;rw[m.trees];refine Calls.callWith_builtin rfl (Calls.evalArgs_plain (ϛ (thn (he pins s1 σ H1 _ I1 q1) λiv s2 ⟨y,H2,I2,ry,q2⟩=>ϛ (thn (hf pins s2 σ H2 _ I2 q2) λfv s3 ⟨v,H3,I3,rv,ws,k,b,ea,ey,eb,q3,q4⟩=>Calls.spliced_nil ?_))));subst ey;cases(show iv=Θ.ref b from ry);obtain⟨z,hd,xs,rel,dd⟩:=ziR I3.hok ea;have hz:xs.length<=sizeLine:=by rw[<-Paired.length rel];exact z
 refine zs3 (tupleKind_room_in1 hu) (zc2 I3.hok eb) hd dd hz (λp t hp=>?_) λh' t hp dd' hs=>?_;have r:=rel.val k;rw[hp]at r;cases l:valV ws k with|none=>rw[l]at r;exact r.elim|some u=>rw[l]at r;exact⟨u,H3,I3.tok _,r,q3 u l⟩
 have r:=rel.val k;rw[hp]at r;cases l:valV ws k with
 |some u=>rw[l]at r;exact r.elim| none=>
  obtain⟨hl,q5⟩:=q4 l;have hl2:(putK ws k v).length<=sizeLine:=by have:=zbv ws k v;omega
  obtain⟨q',es,ep,hq,h2,h3,h4,_,h5⟩:=dd';refine⟨v,upd H3 a (.dT (putK ws k v)),zdW (ob:=.dT (putK ws k v)) (t':=t) I3 (by rw[ea];exact True.intro) hs ⟨q',hq⟩ ⟨hl2,hd,_,(rel.put k eb rv).keeps λc ys ec=>?_,q',es,ep,hq,h2,h3,h4,h5⟩,rv,q5⟩;rw[zai (ne_of ec ea (λz=>nomatch z))];exact ec
end
section
variable{prog:Υ}{w:ύ}{K:Type}[DecidableEq K]{knd:HeapKind prog w K}{A:ϑ}{E:Θ->Ζ->Prop}{s:Ζ}{xs:List (K×Addr×Θ)}{d j:Addr}{i ep:Nat}
def HAt(knd:HeapKind prog w K)(h:Heap)(d:Addr)(xs:List (K×Addr×Θ))(ep:Nat):Prop:=∃o a,h.get? d=Φ o/\o.ExactDict/\o.data=.dict a ep/\a.toList=xs.map (entryOfKey knd)
theorem HAt.at(x:HAt knd h d xs ep)(e:∀o,h.get? d=Φ o->h'.get? d=Φ o):HAt knd h' d xs ep:=let ⟨o,es,ho,r⟩:=x;⟨o,es,e _ ho,r⟩
end
section
variable{X:Cx}
theorem zsX:zba X (.type "int") (λvs H Q=>∃b,vs=[.bl b]/\Q (.int (if b then 1 else 0)) H):=by intro a s d H e f Q I r h;obtain⟨b,rfl,q⟩:=h;obtain⟨u,rfl,c⟩:=r.one;cases(show u=Θ.bool b from c);exact call_int_bool ⟨.int _,H,I.tok _,⟨_,rfl⟩,q⟩
end
end R
namespace R
open PySem PySem.Spec PyProof.Rows L2
variable[Mks]
section
variable{prog:Υ}{w:ύ}{A:ϑ}{E:Θ->Ζ->Prop}{s:Ζ}
theorem zcl{lo hi}(a:IsTup s.heap t items)(hs:s.heap.IsSliceOf f i j .none)(k:IsPart i lo)(l:IsPart j hi)(g:HT.sIx items.size 0 lo=0/\HT.sIx items.size items.size hi=items.size)(h:Q (.ref t) s):wpAny (model prog w) A (getItem (.ref t) (.ref f)) Q E s:=by
 obtain⟨os,c,d,m⟩:=id hs;have e:s.TypeIs (.ref f) "slice":=⟨os,c,d⟩;unfold getItem
 try with_reducible refine Ϥ ?_
 first|refine Ξ (Β ?_)|skip
 refine Ξ (wpAny_sequenceKey a.typeIs (by decide) ?_);refine Ξ (wpAny_callSpecial?_slot (name:=Str.ofString "__getitem__") a.typeIs PyProof.Rows.slot_tuple_getitem
  (ϡ PyProof.Rows.slot_tuple_getitem a.typeIs entry_tuple_getitem ?_ (args_tuple_getitem _ _)))
 show wpAny _ _ (Builtin.Tuple.tupleItemsOf (.ref t)>>=_) _ _ s;refine Ξ (tupleItemsOf_ a ?_);refine Ξ (wpAny_typeOf e ?_);rw[if_pos (by decide)];refine Ξ (HT.sliceApplied_gen hs k l ?_);have b:(((HT.sIx items.size 0 lo:Nat):Int)==0&&(1:Int)==1&&(HT.sIx items.size items.size hi-HT.sIx items.size 0 lo)==items.size)=Γ:=by rw[g.1,g.2];simp
 show wpAny _ _ (if(((HT.sIx items.size 0 lo:Nat):Int)==0&&(1:Int)==1&&(HT.sIx items.size items.size hi-HT.sIx items.size 0 lo)==items.size)=Γ then _ else _) _ _ s;rw[if_pos b];unfold Builtin.Tuple.tupleIsExact;refine Ξ (Ξ (wpAny_typeOf a.typeIs (Β ?_)));rw[if_pos (by decide)];exact Ξ (ϧ (Β ⟨_,rfl,Β h⟩))
end
section
variable{T:Tab}{cf:CF}{k:Nat}{N:List Str}{sc:Scope}{X:Cx}{pos p:Pos}
def rSlW(K:Frag):V->Option Int->Option Int->Hp->VK->Prop:=λx lo c H Q=>∃a b,x=.ref a/\SqT K H a b/\
 (HT.sIx b.length 0 lo=0/\HT.sIx b.length b.length c=b.length)/\Q (.ref a) H
theorem zli:SlR X (rSlW X.K):=by
 intro d s o H x v t u lo w y Q I f g i j h;obtain⟨a,l,rfl,m,n,q⟩:=h;cases f;obtain⟨c,r,e,z⟩:=I.tuple m;have b:c.toArray.size=l.length:=by rw[size_toArray];exact r.length.symm
 exact⟨"tuple",_,PyProof.Rows.slot_tuple_getitem.lookup,e.typeIs,zcl e g i j (by rw[b];exact n) ⟨.ref a,H,I,rfl,q⟩⟩
theorem zht(n d)(o):R.sIx n d o=HT.sIx n d o:=by cases o<;>rfl
theorem zkV{xs:List α}{lo hi}(h:HT.sIx xs.length 0 lo=0/\HT.sIx xs.length xs.length hi=xs.length):cut xs lo hi=xs:=by unfold cut;rw[zht,zht,h.1,h.2];simp
theorem RVs.cut{K}(r:RVs K ι H b xs)(lo a):RVs K ι H (R.cut b lo a) (cutV xs lo a):=by have c:=r.length;unfold R.cut cutV;rw[zht,zht,c];exact(r.drop _).take _
inductive PartOk(X:Cx)(cf:CF):Bool->CE->Option Expr->Prop where
 |no {c:CE} (h:∃d,c=.con d):PartOk X cf Δ c Ψ
 |yes {c:CE} {e:Expr} (h:PE X e (tE X.K cf c)):PartOk X cf Γ c (Φ e)
theorem zsq{lo hi}(B:PE X a (tE X.K cf ca))(hlo:PartOk X cf ml clo lo)(hhi:PartOk X cf mh chi hi):PE X (.Subscript a (.Slice lo hi Ψ p2) pos) (tE X.K cf (.sl ca ml mh clo chi)):=by
 have fin:∀{σ:L2.St}{δ:Ev}{g f:List Addr}{H C:Hp}{A:R.St}{Q:D->R.St->Prop}{j:VK}{d:D}{v:V}{y z:Option Int},Ext g H f C->RH X.K f C A->RV X.K f C d v->(∀v L,Lf X.K g H Q v L->j v L)->
   W (match d with|.tup E=>.ok (.tup (R.cut E y z)) A|.fix E=>lay A (R.cut E y z)|.ref p=>(match A.get p with|some (.lst E)=>lay A (R.cut E y z)|_=>.bad)|_=>.bad) Q->
   (rSlL X.K v y z C j\/rSlT X.K v y z C j)\/rSlW X.K v y z C j:=by
  intro σ δ g f H C A Q j d v y z x n r q w;cases d with
  |tup E=>obtain⟨a,s,rfl,B,M⟩:=r;by_cases hw:HT.sIx s.length 0 y=0/\HT.sIx s.length s.length z=s.length;refine .inr ⟨a,s,rfl,SqT.of B,hw,q _ _ (Lf.up x (Lf.of (d:=.tup E) n ⟨a,s,rfl,B,M⟩ ?_))⟩;have e:=zkV (by rw[<-M.length];exact hw);dsimp only at w;rw[e]at w;exact w;exact .inl (.inr ⟨a,s,rfl,SqT.of B,hw,λp G=>q _ _ (Lf.up x (Lf.tup n G (M.cut y z) w))⟩)| fix E=>obtain⟨a,s,rfl,B,M⟩:=r;obtain⟨_,I⟩:=zc1 w;exact .inl (.inl ⟨a,s,rfl,B.sq,λp G=>q _ _ (Lf.up x (Lf.lst n G (M.cut y z) I))⟩)| ref l=>dsimp only at w;cases e:A.get l with|none=>rw[e]at w;exact w.elim| some o=>rw[e]at w;cases o with| lst E=>obtain⟨a,h1,rfl⟩:=r;obtain⟨b,h2,s,B,M⟩:=n.obj _ _ e;rw[h1]at h2;cases h2;obtain⟨_,I⟩:=zc1 w;exact .inl (.inl ⟨a,s,rfl,SqL.of B,λp G=>q _ _ (Lf.up x (Lf.lst n G (M.cut y z) I))⟩)|_=>exact w.elim
  |_=>exact w.elim
 have part:∀{m:Bool}{c:CE}{o:Option Expr},PartOk X cf m c o->∃t,PO X o t/\∀{δ:Ev}{σ:L2.St}{g:List Addr}{H:Hp}{S:R.St}{Q:D->R.St->Prop}{j:Option Int->Hp->Prop},RS X.K g H δ σ->RH X.K g H S->W (evE cf c δ S) Q->
   (∀d S',Q d S'->∃z,zbH m d=Φ z)->
   (∀d O L S' z,Ext g H O L->RS X.K O L δ σ->RH X.K O L S'->Q d S'->zbH m d=Φ z->j z L)->t σ H j:=by
  intro m c o h;cases h with| no h=>obtain⟨d,rfl⟩:=h;exact⟨_,zop,λ{δ σ g H S Q j} hs n w G h=>(h d g H S Ψ (Ext.refl _ _) hs n w rfl)⟩| yes h=>refine⟨_,zgF h,λ{δ σ g H S Q j} hs n w G h=>?_⟩;refine tE.run hs n w λd v f C A x1 U Y r1 w1=>?_;obtain⟨z,hz⟩:=G d A w1;cases d with| int i=>obtain rfl:v=.int i:=r1;exact⟨i,rfl,h _ _ _ _ _ x1 U Y w1 rfl⟩|_=>exact nS hz
 obtain⟨tl,pl,rl⟩:=part hlo;obtain⟨th,ph,rh⟩:=part hhi;refine PE.imp (zhF (SlR.or (SlR.or znN zmX) zli) B pl ph) λσ H j k=>?_;obtain⟨δ,g,S,Q,hs,n,w,q⟩:=k;change W (Out.bind _ _) _ at w;simp only[zaa] at w;refine tE.run hs n w λd v f C A x1 U Y r1 w1=>?_;have hz:∀(b:Bool)(y:D),zbH b y=Ψ\/∃z,zbH b y=Φ z:=λb y=>by cases zbH b y<;>simp
 refine rl U Y w1 (λy S2 I=>?_) λy ι2 H2 S2 zl x2 hs2 hh2 I hzl=>?_;rcases hz ml y with e|e;rw[W.iff]at I;obtain⟨u,S3,_,J⟩:=I;rw[e]at J;exact J.elim;exact e;refine rh hs2 hh2 I (λu S3 J=>?_) λu ι3 H3 S3 zh x3 hs3 hh3 J hzh=>?_;rcases hz mh u with e|e;rw[hzl,e]at J;exact J.elim;exact e;rw[hzl,hzh]at J;exact fin (σ:=σ) (δ:=δ) ((x1.trans x2).trans x3) hh3 (r1.ext (x2.trans x3)) q J
end
def rB(K:Frag)(f:R.St->List D->Out D):List V->Hp->VK->Prop:=λe H g=>∃a S b c,RVs K a H b e/\RH K a H S/\W (f S b) c/\∀v d,Lf K a H c v d->g v d
section
variable{T:Tab}{cf:CF}{k:Nat}{N:List Str}{sc:Scope}{X:Cx}{pos p:Pos}
theorem RVs.one{K}(r:RVs K ι H [d] xs):∃v,xs=[v]/\RV K ι H d v:=by obtain⟨v,w,rfl,a,b⟩:=r;cases(show w=[] from b);exact⟨v,rfl,a⟩
theorem RVs.two{K}(r:RVs K ι H [d,e] xs):∃v u,xs=[v,u]/\RV K ι H d v/\RV K ι H e u:=by obtain⟨v,w,rfl,a,b⟩:=r;obtain⟨u,rfl,c⟩:=RVs.one b;exact⟨v,u,rfl,a,c⟩
theorem zrq:zba X (.builtin "len") (rB X.K λS ds=>R.bi S .len ds):=by
 intro c s m H f n t I u z;obtain⟨E,S,ds,G,r,j,w,q⟩:=z;dsimp only at w;unfold bi at w;split at w
 case h_1 x=>
  obtain⟨v,rfl,y⟩:=r.one;split at w;obtain⟨a,f,rfl,g,i⟩:=y;refine zbO c s m H _ n t I u ⟨a,f,rfl,.inr (SqT.of g),?_⟩;rw[i.length];exact q _ _ (Lf.of (d:=.int _) j rfl w);obtain⟨a,f,rfl,g,i⟩:=y;refine zbO c s m H _ n t I u ⟨a,f,rfl,.inl g.sq,?_⟩;rw[i.length];exact q _ _ (Lf.of (d:=.int _) j rfl w);rename_i l;obtain⟨a,B,rfl⟩:=y;cases e:S.get l with|none=>rw[e]at w;exact w.elim| some o=>rw[e]at w;obtain⟨b,A,C⟩:=j.obj _ _ e;rw[B]at A;cases A;cases o with| lst ds=>obtain⟨f,g,i⟩:=C;refine zbO c s m H _ n t I u ⟨a,f,rfl,.inl (SqL.of g),?_⟩;rw[i.length];exact q _ _ (Lf.of (d:=.int _) j rfl w)|_=>exact w.elim
  exact w.elim
 all_goals first|exact w.elim|(rename_i h;cases h)
theorem zr4:zba X (.builtin "abs") (rB X.K λS ds=>R.bi S .abs ds):=by
 intro a s b H l c e I f z;obtain⟨m,S,ds,n,r,g,w,q⟩:=z;dsimp only at w;unfold bi at w;split at w
 case h_2 i _=>obtain⟨v,rfl,j⟩:=r.one;obtain rfl:v=.int i:=j;exact zmD a s b H _ c e I f ⟨i,rfl,q _ _ (Lf.of (d:=.int _) g rfl w)⟩
 all_goals first|exact w.elim|(rename_i h;cases h)
set_option tactic.hygienic true in
theorem zrj(b:X.calm=Γ):zba X (.builtin "max") (rB X.K λS ds=>R.bi S .max2 ds):=by
 intro a s c H o e f I g z;obtain⟨t,S,ds,x,r,l,w,q⟩:=z;dsimp only at w;unfold bi at w;split at w
 case h_3 i j _=>obtain⟨v,u,rfl,m,n⟩:=r.two;obtain rfl:v=.int i:=m;obtain rfl:u=.int j:=n;exact zkY b a s c H _ e f I g ⟨i,j,rfl,q _ _ (Lf.of (d:=.int _) l rfl w)⟩
 all_goals first|exact w.elim|(rename_i h;cases h)
set_option tactic.hygienic true in
theorem zrh(b:X.calm=Γ):zba X (.builtin "min") (rB X.K λS ds=>R.bi S .min2 ds):=by
 intro a s c H o e f I g z;obtain⟨t,S,ds,x,r,l,w,q⟩:=z;dsimp only at w;unfold bi at w;split at w
 case h_4 i j _=>obtain⟨v,u,rfl,m,n⟩:=r.two;obtain rfl:v=.int i:=m;obtain rfl:u=.int j:=n;exact zkX b a s c H _ e f I g ⟨i,j,rfl,q _ _ (Lf.of (d:=.int _) l rfl w)⟩
 all_goals first|exact w.elim|(rename_i h;cases h)
theorem za9(G:Gd T cf k N sc X)(h:bltB T sc x=Γ):Gl X x/\X.mg x=Ψ:=by unfold bltB at h;rw[Λ]at h;exact⟨G.gl h.1,G.tab.blt x h.2⟩
theorem zsu{id}(i:zba X (.builtin id) (rB X.K λS ds=>R.bi S b ds))(h:Gl X x/\X.mg x=Ψ)(j:bootBuiltins x=Φ (.builtin id))(m:PA X (e::es) (tAs X.K cf c))(a:(e::es).all zah=Γ)(n:x≠"__name__")(d:(x==("__debug__":Str))=Δ):
  PE X (.Call (.Name x p) (e::es) [] pos) (tE X.K cf (.bi b c)):=by
 rw[all_cons,Λ]at a;refine PE.imp (zb1 i h.1 h.2 j m n d (zaf a.1 es X.env) (zaI a.2)) λC H E z=>?_;obtain⟨G,I,S,Q,o,r,w,q⟩:=z;change W (Out.bind _ _) _ at w;simp only[zaa] at w;refine tAs.run o r w λds J f L s t u g y A=>?_;exact⟨f,s,ds,Q,y,g,A,λv B l=>q v B (Lf.up t l)⟩
theorem znA(m:RH X.K ι H S)(r:RV X.K ι H d v)(h:tyOf S d=Φ a):zcV H v=Φ a:=by
 cases d with
 |non=>obtain rfl:v=.non:=r;exact h|bl b=>obtain rfl:v=.bl b:=r;exact h|int b=>obtain rfl:v=.int b:=r;exact h|str b=>obtain rfl:v=.str b:=r;exact h| tup i=>obtain⟨p,n,rfl,c,_⟩:=r;simp only[tyOf]at h;simp only[zcV,c];exact h| ref l=>
  obtain⟨p,q,rfl⟩:=r;simp only[tyOf]at h;simp only[zcV];cases e:S.get l with
  |none=>rw[e]at h;exact nS h
  |some o=>
   rw[e]at h;obtain⟨b,j,f⟩:=m.obj _ _ e;rw[q]at j;cases j;cases o with
   |lst i=>obtain⟨n,c,_⟩:=f;rw[c];exact h|dic g=>obtain⟨_,s,c,_⟩:=f;rw[c];exact h|ins _ _=>exact nS h
   |d3 _=>exact nS h
   |dtp g=>obtain⟨_,s,c,_⟩:=f;rw[c];exact h
 |fix i=>exact nS h
theorem znX(G:Gd T cf k N sc X)(i:Gl X "isinstance"/\X.mg "isinstance"=Ψ)(j:Gl X y/\X.mg y=Ψ)(l:bootBuiltins y=Φ (.type t))(m:t∈["bool","int","str","list","tuple","dict"])(g:y≠"__name__")(h:(y==("__debug__":Str))=Δ)(n:PE X e (tE X.K cf o))(b:zah e=Γ):PE X (.Call (.Name "isinstance" p) [e,.Name y E] [] pos) (tE X.K cf (.bi (.isin t) (.cons o .nil))):=by
 refine PE.imp (zb1 zd0 i.1 i.2 zcD (zbI n (zbI (zjT (v:=.ty t) j.1 j.2 l rfl g h) zfE) (zaf b _ X.env)) (by decide) (by decide) (zaf b _ X.env)) λI H J z=>?_;obtain⟨L,M,S,Q,r,s,w,q⟩:=z;change W (Out.bind _ _) _ at w;simp only[evEs,zaa,W_ok] at w;refine tE.run r s w λd v u O x A B c C f=>?_;simp only[bi]at f;cases e:tyOf x d with|none=>rw[e]at f;exact f.elim| some a=>rw[e]at f;exact⟨v,t,a,rfl,znA c C e,m,q _ _ (Lf.up A (Lf.of (d:=.bl _) c rfl f))⟩
theorem zhV(c:RH X.K ι H S)(r:RV X.K ι H d v)(h:isL S d=Γ):tyV X.K "list" v H:=by
 cases d with
 |ref l=>
  obtain⟨p,f,rfl⟩:=r;simp only[isL]at h;cases e:S.get l with
  |none=>rw[e]at h;exact nB h
  |some o=>rw[e]at h;obtain⟨b,a,g⟩:=c.obj _ _ e;rw[f]at a;cases a;cases o with|lst m=>obtain⟨i,j,_⟩:=g;exact .inl ⟨rfl,i,SqL.of j⟩|_=>exact nB h
 |_=>exact nB h
def rM(K:Frag)(m:Mt):V->List V->Hp->VK->Prop:=λx f H g=>∃a S d b c,RV K a H d x/\RVs K a H b f/\RH K a H S/\W (R.mt S m d b) c/\∀v e,Lf K a H c v e->g v e
set_option tactic.hygienic true in
theorem zk3:MtR X "list.append" (rM X.K .append):=by
 intro f s n H x Y v t A I B C z;obtain⟨ι,S,d,E,Qd,r,G,g,w,q⟩:=z;unfold R.mt at w;split at w
 case h_1 l y _=>obtain⟨a,i,rfl⟩:=r;obtain⟨u,rfl,J⟩:=G.one;cases e:S.get l with|none=>rw[e]at w;exact w.elim| some o=>rw[e]at w;obtain⟨b,j,L⟩:=g.obj _ _ e;rw[i]at j;cases j;cases o with| lst E=>obtain⟨M,O,m⟩:=L;obtain⟨c,S',Q,U⟩:=ziZ w;refine zfI f s n H _ _ v t A I B C ⟨a,M,u,rfl,rfl,O,?_,?_⟩;rw[m.length];rw[length_append,List.length_singleton]at c;lia;exact q _ _ (Lf.wr (d:=.non) g e i Q (m.append ⟨u,[],rfl,J,rfl⟩) rfl U)|_=>exact w.elim
 all_goals first|exact w.elim|(rename_i h;cases h)
set_option tactic.hygienic true in
theorem zlQ:MtR X "list.pop" (rM X.K .popAt):=by
 intro f s J H x xs v L M I O Q z;obtain⟨ι,S,d,n,Qd,r,U,t,w,q⟩:=z;unfold R.mt at w;split at w
 case h_2 l i _=>
  obtain⟨a,A,rfl⟩:=r;obtain⟨u,rfl,g⟩:=U.one;obtain rfl:u=.int i:=g;cases e:S.get l with
  |none=>rw[e]at w;exact w.elim| some o=>
   rw[e]at w;obtain⟨b,B,Y⟩:=t.obj _ _ e;rw[A]at B;cases B;cases o with
   |lst n=>
    obtain⟨j,C,E⟩:=Y;dsimp only at w;split at w;rename_i c0;cases m:n[i.toNat]? with|none=>rw[m]at w;exact w.elim| some y=>rw[m]at w;obtain⟨c,S',hp,w2⟩:=ziZ w;obtain⟨u,G,g⟩:=E.get m;have hlt:i.toNat<j.length:=(Α.mp G).1;have hz:j.length<=sizeLine:=(I.lstM C).1;rw[ϋ]at hz;refine zl9 f s J H _ _ v L M I O Q ⟨a,j,i,i.toNat,u,rfl,rfl,C,by lia,by lia,?_,G,?_⟩;exact PySem.StrLaws.seqIndex_nonneg c0 (by lia);exact q _ _ (Lf.wr (d:=y) t e A hp (E.erase _) g w2)
    exact w.elim
   |_=>exact w.elim
 all_goals first|exact w.elim|(rename_i h;cases h)
theorem zfl:∀{ds:List D}{os:List (Option Int)},zbq ds=Φ os->ds=os.map λo=>match o with|some i=>D.int i|none=>D.non:=by intro ds;unfold zbq;induction ds with|nil=>intro os h;simp at h;subst h;rfl| cons d ds b=>intro os h;obtain⟨y,r,a,c,rfl⟩:=zaD h;rw[b c];cases d<;>simp[zfm]at a<;>subst a<;>rfl
noncomputable def wV:Option Int->V
 |some i=>.int i|none=>.non
theorem zex{K}:∀{os:List (Option Int)}{vs:List V},RVs K ι H (os.map λo=>match o with|some i=>D.int i|none=>D.non) vs->vs=os.map wV
 | [],_,h=>h| o::os,vs,h=>by obtain⟨v,r,rfl,a,b⟩:=h;rw[zex b];cases o<;>rw[show v=_ from a]<;>rfl
noncomputable def isI(i:Int):Θ->Bool
 |.int j _=>j==i|_=>Δ
theorem zcQ(i):∀{os:List (Option Int)}{us:List Θ},Vals (os.map wV) us->(∀y∈us,y=Θ.none\/∃a u,y=Θ.int a u)/\us.countP (isI i)=os.count (Φ i)
 | [],us,r=>by cases r;exact⟨λy b=>by simp at b,rfl⟩| o::os,us,r=>by
  cases r with
  | @cons _ u _ us c f=>
   obtain⟨d,e⟩:=zcQ i f;cases o with
   |none=>obtain rfl:u=Θ.none:=c;refine⟨λy b=>?_,?_⟩;rcases mem_cons.mp b with rfl|b;exact .inl rfl;exact d y b;rw[List.countP_cons,List.count_cons,e];simp[isI]
   |some j=>obtain⟨t,rfl⟩:∃t,u=Θ.int j t:=c;refine⟨λy b=>?_,?_⟩;rcases mem_cons.mp b with rfl|b;exact .inr ⟨_,_,rfl⟩;exact d y b;rw[List.countP_cons,List.count_cons,e];simp[isI]
noncomputable def isN:Θ->Bool
 |.none=>Γ|_=>Δ
theorem zdY:∀{os:List (Option Int)}{us:List Θ},Vals (os.map wV) us->us.countP isN=os.count Ψ
 | [],us,r=>by cases r;rfl| o::os,us,r=>by cases r with| @cons _ u _ us a c=>have b:=zdY c;cases o with| none=>obtain rfl:u=Θ.none:=a;rw[List.countP_cons,List.count_cons,b];simp[isN]| some j=>obtain⟨t,rfl⟩:∃t,u=Θ.int j t:=a;rw[List.countP_cons,List.count_cons,b];simp[isN]
set_option tactic.hygienic true in
theorem zmB:MtR X "list.count" (rM X.K .count):=by
 intro pins s σ H x xs v us Qv I rx rv z;obtain⟨ι,S,d,J,Qd,r,rs,L,w,q⟩:=z;unfold R.mt at w;split at w
 case h_3 l i _=>
  obtain⟨a,O,rfl⟩:=r;obtain⟨u,rfl,Q⟩:=rs.one;obtain rfl:u=.int i:=Q;cases e:S.get l with
  |none=>rw[e]at w;exact w.elim| some o=>
   rw[e]at w;obtain⟨b,m,U⟩:=L.obj _ _ e;rw[O]at m;cases m;cases o with
   |lst J=>obtain⟨zs,Y,A⟩:=U;dsimp only at w;cases f:zbq J with|none=>rw[f]at w;exact w.elim| some os=>rw[f]at w;rw[zfl f]at A;cases zex A;obtain⟨c,M,pl,_⟩:=I.list (SqL.of Y);obtain⟨u1,rfl,g⟩:=Vals.one rv;obtain⟨t,rfl⟩:=g;cases rx;obtain⟨c1,c2⟩:=zcQ i M;have hl:=pl.isList;obtain⟨⟨cls,dd,B,sl⟩,C,E,n,G⟩:=id hl;simp only at E G;subst E G;refine call_meets PySem.F.slot_list_count ⟨_,C,rfl⟩ PySem.F.entry_list_count (PySem.F.args_list_count_2 _ _) (PySem.SeqAt.list_countAt a c.toArray n dd sl (.int i t) (isI i)) ⟨C,λy hy=>?_,?_⟩;rcases c1 y (by simpa using hy) with rfl|⟨j,u,rfl⟩;exact PySem.SeqAt.EqAt.none_int i t;exact PySem.SeqAt.EqAt.int_int j u i t;rw[show c.toArray.toList=c from rfl,c2];exact⟨.int _,H,I.tok _,⟨_,rfl⟩,q _ _ (Lf.of (d:=.int _) L rfl w)⟩
   |_=>exact w.elim
 case h_4 l _=>
  obtain⟨a,O,rfl⟩:=r;obtain⟨u,rfl,Q⟩:=rs.one;obtain rfl:u=.non:=Q;cases e:S.get l with
  |none=>rw[e]at w;exact w.elim| some o=>
   rw[e]at w;obtain⟨b,m,U⟩:=L.obj _ _ e;rw[O]at m;cases m;cases o with
   |lst J=>obtain⟨zs,Y,A⟩:=U;dsimp only at w;cases f:zbq J with|none=>rw[f]at w;exact w.elim| some os=>rw[f]at w;rw[zfl f]at A;cases zex A;obtain⟨c,M,pl,_⟩:=I.list (SqL.of Y);obtain⟨u1,rfl,g⟩:=Vals.one rv;obtain rfl:=g;cases rx;obtain⟨c1,c2⟩:=zcQ 0 M;have hl:=pl.isList;obtain⟨⟨cls,dd,B,sl⟩,C,E,n,G⟩:=id hl;simp only at E G;subst E G;refine call_meets PySem.F.slot_list_count ⟨_,C,rfl⟩ PySem.F.entry_list_count (PySem.F.args_list_count_2 _ _) (PySem.SeqAt.list_countAt a c.toArray n dd sl .none isN) ⟨C,λy hy=>?_,?_⟩;rcases c1 y (by simpa using hy) with rfl|⟨j,u,rfl⟩;exact PySem.SeqAt.EqAt.same _;exact PySem.SeqAt.EqAt.int_none j u;rw[show c.toArray.toList=c from rfl,zdY M];exact⟨.int _,H,I.tok _,⟨_,rfl⟩,q _ _ (Lf.of (d:=.int _) L rfl w)⟩
   |_=>exact w.elim
 all_goals first|exact w.elim|(rename_i h;cases h)
theorem znU{id}(slot:Slot "list" name id)(hty:typeOf (.builtin id)=pure (.type "method_descriptor"))(hm:MtR X id (rM X.K m))(ho:PE X o (tE X.K cf co))(he:PE X e (tE X.K cf ce))(hst:zah e=Γ)(hsup:zau o=Γ)(hl:(apos.endLine==cpos.line)=Γ):
  PE X (.Call (.Attribute o name apos) [e] [] cpos) (tE X.K cf (.mt m co (.cons ce .nil))):=by
 refine PE.imp (zoA PySem.F.plainAttrs_list slot hty hm ho (zjp he zm2 hst) (zbi hsup name X.env _) (by rw[zaf hst];rfl) hl (zaf hst [] X.env)) λσ H Qv k=>?_;obtain⟨δ,ι,S,Q,hs,hh,w,q⟩:=k;change W (Out.bind _ _) _ at w;simp only[zaa] at w;refine tE.run hs hh w λd v ι1 H1 S1 x1 hs1 hh1 r1 w1=>?_;split at w1;rename_i c;refine⟨zhV hh1 r1 c,?_⟩;rw[zaa]at w1;refine tAs.run hs1 hh1 w1 λds vs ι2 H2 S2 x2 hs2 hh2 r2 w2=>?_;exact⟨ι2,S2,d,ds,Q,r1.ext x2,r2,hh2,w2,λz H3 l=>q z H3 (Lf.up (x1.trans x2) l)⟩;exact w1.elim
theorem SqK.seq{K}(h:SqK K ι H S a xs g b):SqL K H a xs\/SqT K H a xs:=by cases h with|tmp h e=>exact .inl (SqL.of e)|tup e=>exact .inr (SqT.of e)|fix e=>exact .inl e.sq|own l c d f e=>exact .inl (SqL.of e)
theorem zp5(r:PE X e (tE X.K cf s)):PE X e (tL X.K cf (.val s)):=by
 refine PE.imp r λJ H L z=>?_;obtain⟨M,O,S,Q,t,u,w,q⟩:=z;change W (Out.bind _ _) _ at w;simp only[zaa] at w;refine tE.run t u w λd v i x m y A c j B=>?_;obtain⟨C,b,E⟩:=zaq B;refine q v x ⟨C,lkOf m d,i,m,y,?_,c,E⟩;cases d with
 |tup G=>cases b;obtain⟨a,f,rfl,g,h⟩:=j;exact⟨a,f,rfl,h,.tup g⟩| fix G=>cases b;obtain⟨a,f,rfl,g,h⟩:=j;exact⟨a,f,rfl,h,.fix g⟩| ref l=>simp only[zcg]at b;split at b;rename_i I e;cases b;obtain⟨a,n,rfl⟩:=j;obtain⟨U,o,f,g,h⟩:=c.obj _ _ e;rw[n]at o;cases o;exact⟨a,f,rfl,h,.own l (by simp[lkOf]) n e g⟩;exact nS b
 |_=>exact nS b
theorem zaR(b:PE X e c)(a:zah e=Γ):PA X [e] (zjk c tNil):=zbI b zfE (zaf a [] X.env)
theorem zqa(G:Gd T cf k N sc X)(f:Gl X "list"/\X.mg "list"=Ψ)(g:PE X e (tL X.K cf cl))(b:zah e=Γ):PE X (.Call (.Name "list" p) [e] [] pos) (tE X.K cf (.mkL cl)):=by refine PE.imp (zbG zgd f.1 f.2 zg4 (zaR g b) (by decide) (by decide) (zaf b [] X.env)) λB H C z=>?_;obtain⟨E,I,S,Q,h,i,w,q⟩:=z;change W (Out.bind _ _) _ at w;simp only[zaa] at w;refine tL.run h i w λJ j v m L M n o d r s=>?_;obtain⟨c,t⟩:=zc1 s;obtain⟨a,u,rfl,x,y⟩:=r;exact⟨a,u,rfl,y.seq,λl A=>q _ _ (Lf.up n (Lf.lst d A x t))⟩
theorem zjX(h:tE X.K cf (.mkL cl) σ H m):tLt X.K cf cl σ H m:=by obtain⟨C,E,S,Q,n,r,w,q⟩:=h;change W (Out.bind _ _) _ at w;simp only[zaa] at w;refine tLt.run n r w λs p t g G i d u a v x e y A=>?_;obtain⟨c,B⟩:=zc1 A;refine q _ _ ⟨.ref i.len,g++[p],i.push (.lst s),?_,⟨p,a.last p,rfl⟩,a.one (l:=0) x ⟨t,e,v.up (Ϙ _ _) (Kp.refl _)⟩,B⟩;refine⟨d.pre.trans (Ϙ _ _),d.kp,λb o j f=>⟨(d.rest b o j f).1,λz=>?_⟩⟩;rcases mem_append.mp z with z|z;exact(d.rest b o j f).2 z;simp at z;subst z;rw[y]at f;exact nS f
theorem zqg(C:PE X o (tE X.K cf E))(G:PE X e (tLt X.K cf cl))(f:zah e=Γ)(h:zau o=Γ)(I:(i.endLine==j.line)=Γ):
  PE X (.Call (.Attribute o "extend" i) [e] [] j) (tE X.K cf (.ext E cl)):=by
 refine PE.imp (zoA PySem.F.plainAttrs_list PySem.F.slot_list_extend PySem.F.type_list_extend zfH C (zaR G f) (zbi h "extend" X.env _) (by rw[zaf f];rfl) I (zaf f [] X.env)) λσ H Qv z=>?_;obtain⟨δ,ι,S,Q,J,L,w,q⟩:=z;change W (Out.bind _ _) _ at w;simp only[zaa] at w;refine tE.run J L w λd v M H1 S1 O s m t r=>?_;split at r;rename_i c;refine⟨zhV m t c,?_⟩;rw[zaa]at r;refine tLt.run s m r λds b U Y H2 S2 u hs2 n x _ hb _ g=>?_;cases d with
 |ref l=>obtain⟨a,y,rfl⟩:=t.ext u;dsimp only at g;cases e:S2.get l with|none=>rw[e]at g;exact g.elim| some o=>rw[e]at g;cases o with| lst es=>obtain⟨b',A,zs,ha,B⟩:=n.obj _ _ e;rw[y]at A;cases A;obtain⟨c2,S',hp,w3⟩:=ziZ g;refine⟨a,b,zs,U,rfl,rfl,ha,hb,?_,q _ _ (Lf.up (O.trans u) (Lf.wr (d:=.non) n e y hp (B.append x) rfl w3))⟩;rw[B.length,x.length,<-length_append];exact c2|_=>exact g.elim
 |_=>exact g.elim
 exact r.elim
theorem zmG:bootBuiltins "range"=Φ (.type "range"):=by decide +kernel
theorem zjD:zba X (.type "range") (λxs H Q=>∃j,xs=[.int j]/\∀p,H p=Ψ->Q (.ref p) (upd H p (.rng 0 j))):=by intro a s d H xs f Q I r h;obtain⟨j,rfl,q⟩:=h;obtain⟨u,rfl,c⟩:=r.one;obtain⟨t,rfl⟩:=c;refine call_range_1 ⟨.ref s.heap.objs.size,_,I.laid (o:=.rng 0 j) (λb g e=>Ω _ e) (le_refl _) ?_,rfl,q _ (I.hok.fresh (le_refl _))⟩;exact⟨_,_,_,Μ _ rfl⟩
theorem zmc(A:X.calm=Γ):zba X (.type "list") (λxs H Q=>∃p hi,xs=[.ref p]/\H p=Φ (.rng 0 hi)/\-(2^62)<=hi/\hi<2^62/\hi.toNat<=16777216/\∀l,H l=Ψ->Q (.ref l) (upd H l (.lst ((List.range hi.toNat).map λ(j:Nat)=>.int j)))):=by
 intro m s Y H xs a Q I r h;obtain⟨p,hi,rfl,B,C,E,w,q⟩:=h;obtain⟨u,rfl,G⟩:=r.one;cases(show u=Θ.ref p from G);obtain⟨t,t2,t3,e⟩:=(show ObjOk X.prog X.w H s.heap p (.rng 0 hi) from I.hok p _ B);have J:Builtin.Range.rangeSize 0 hi 1=(hi.toNat:Nat):=by rw[rangeSize_one];split<;>lia
 refine call_list_range (I.ok.hd A) e (small_one (by decide) (by decide) C E) J w λh' tk g c L M x=>?_;refine⟨.ref s.heap.objs.size,_,I.laid (o:=.lst _) L (le_refl _) ⟨?_,g.toList,c,?_,?_⟩,rfl,q _ (I.hok.fresh (le_refl _))⟩;rw[length_map,Ϩ,ϋ];exact w;have key:∀(n:Nat)(a:List Θ),a.length=n->(∀(j:Nat)(v:Θ),a[j]?=Φ v->∃t,v=Θ.int (0+(j:Int)*1) t)->Vals ((List.range n).map λ(j:Nat)=>V.int j) a:=by
  intro n;induction n with
  |zero=>intro a f _;cases a with
   |nil=>exact .nil|cons _ _=>simp at f
  |succ n O=>
   intro a f y;have b:a≠[]:=by intro z;subst z;simp at f
   have i:a=a.dropLast++[a.getLast b]:=(List.dropLast_concat_getLast b).symm;rw[List.range_succ,map_append,i];have d:a.dropLast.length=n:=by simp[f]
   refine Vals.append (O _ d λj v e=>y j v ?_) (.cons ?_ .nil);have U:j<a.dropLast.length:=(Α.mp e).1;rw[i,getElem?_append_left U];exact e;obtain⟨t,e⟩:=y n (a.getLast b) (by
    conv=>lhs;rw[i]
    rw[getElem?_append_right (by lia)];simp[d])
   exact⟨t,by simpa using e⟩
 exact key _ _ (by simpa using x.1) λj v e=>x.2 j v (by simpa using e);simpa using M
theorem znV(G:Gd T cf k N sc X)(r:Gl X "list"/\X.mg "list"=Ψ)(s:Gl X "range"/\X.mg "range"=Ψ)(u:PE X a (tE X.K cf x))(b:zah a=Γ):
  PE X (.Call (.Name "list" p) [.Call (.Name "range" y) [a] [] e] [] pos) (tE X.K cf (.mkL (.rng1 x))):=by
 have h:=zbG (p:=y) (pos:=e) zjD s.1 s.2 zmG (zaR u b) (by decide) (by decide) (zaf b [] X.env);refine PE.imp (zbG (zmc G.calm) r.1 r.2 zg4 (zaR h rfl) (by decide) (by decide) rfl) λU H Y z=>?_;obtain⟨δ,ι,S,Q,A,B,w,q⟩:=z;change W (Out.bind (Out.bind _ _) _) _ at w;simp only[zaa]at w;refine tE.run A B w λd v i C S1 E I n J f=>?_;cases d with| int j=>obtain rfl:v=.int j:=J;dsimp only at f;split at f;rename_i c;obtain⟨L,M⟩:=zc1 f;refine⟨j,rfl,λt g=>⟨t,j,rfl,zaj,c.1,c.2,by simpa[ϋ]using L,λl O=>?_⟩⟩;have o:=n.new g (.rng 0 j);refine q _ _ (Lf.up (E.trans (Ext.new g _)) (Lf.lst o O ?_ M));have:=RVs.ints (K:=X.K) (ι:=i) (H:=upd C t (.rng 0 j)) ((List.range j.toNat).map λ(m:Nat)=>(m:Int));rw[map_map,map_map]at this;exact this;exact f.elim|_=>exact f.elim
theorem zpj{bs:List Bool}(h:a.mapM zgi=Φ bs):a=bs.map D.bl:=by
 induction a generalizing bs with
 |nil=>
  have h:bs=[]:=by simpa using h.symm
  subst h;rfl
 |cons d a c=>obtain⟨y,r,b,e,rfl⟩:=zaD h;cases d<;>simp[zgi]at b;subst b;rw[c e];rfl
theorem RVs.bls_eq{K}:∀{bs:List Bool}{vs:List V},RVs K ι H (bs.map D.bl) vs->vs=bs.map V.bl
 | [],_,h=>h| b::bs,vs,h=>by obtain⟨v,r,rfl,a,c⟩:=h;rw[RVs.bls_eq c,show v=.bl b from a];rfl
theorem zjc{bs:List Bool}(r:Vals (bs.map V.bl) us):us=bs.map Θ.bool:=by induction bs generalizing us with|nil=>cases r;rfl| cons b bs a=>cases r with|cons c d=>rw[a d,show _=Θ.bool b from c];rfl
theorem zk5(bs:List Bool):(List.range bs.length).all (λi=>bs.getD i Δ)=bs.all id:=by
 rw[Bool.eq_iff_iff,all_eq_true,all_eq_true];constructor;intro h b c;obtain⟨i,a,e⟩:=List.getElem_of_mem c;have:=h i (by simpa using a);rw[ό,getElem?_eq_getElem a,e]at this;exact this;intro h i a;have a:i<bs.length:=by simpa using a
 rw[ό,getElem?_eq_getElem a];exact h _ (List.getElem_mem a)
theorem zpp(L:X.calm=Γ):zba X (.builtin "all") (λxs H Q=>∃(a:Addr) (bs:List Bool),xs=[.ref a]/\(SqL X.K H a (bs.map V.bl)\/SqT X.K H a (bs.map V.bl))/\Q (.bl (bs.all id)) H):=by
 intro m s M H xs us Q I r h;obtain⟨a,bs,rfl,A,q⟩:=h;obtain⟨u,rfl,U⟩:=r.one;cases(show u=Θ.ref a from U);have hA:X.A.in1.in1.handled=Ψ:=I.ok.hd L;have B:X.A.in1.handled=Ψ:=I.ok.hd L;have O:∀(d:Array Θ),d.toList=bs.map Θ.bool->TruthOf X.prog X.w X.A.in1 (λi v=>d[i]?=Φ v) (λi=>bs.getD i Δ):=by
  intro d e i v s' Q' E' Y J;have f:d.toList[i]?=Φ v:=by rw[ϔ];exact Y
  rw[e,getElem?_map]at f;cases z:bs[i]? with
  |none=>rw[z]at f;exact nS f
  |some b=>rw[z]at f;simp only[Option.map_some,Option.some.injEq]at f;subst f;dsimp only at J;rw[ό,z]at J;exact ϒ J
 have fin:∀(t:Heap)(y n:Nat)(C:Ζ)(it:Addr),n=bs.length->s.heap.objs.size=it->Inv X m M H C->C.os=s.os->(∀b o,b∉[it]->C.heap.get? b=Φ o->t.get? b=Φ o)->
   EP X m M Q (.bool ((List.range n).all λi=>bs.getD i Δ)) {C with heap:=t,toks:=y}:=by
  intro t y n C it hn hit I2 ho E;subst hn;rw[zk5];have fp:=I.fpOk (b:=it) (H':=H) (by lia) (I.hok.fresh (by lia));obtain⟨f0,f1,f2,f3,f4,f5⟩:=fp;exact⟨.bl _,H,I2.turned (it:=it) (λb o hb e=>E b o (by simpa using hb) e) f0 f1 f3 f4 f5,rfl,q⟩
 rcases A with A|A;obtain⟨g,G,w,hz⟩:=I.list A;have j:=zjc G;have l:=G.length;refine call_all_walk (wpAny_pyIter_list w.isList ?_);have x:a≠s.heap.objs.size:=by obtain⟨o,n,e,_⟩:=w;exact ne_of_lt (Ι e)
 refine⟨s.heap.objs.size,_,_,_,_,_,_,rfl,Walks.list B _ a x g.toArray,⟨⟨_,Μ _ rfl,rfl,rfl⟩,w.isList.push _⟩,O g.toArray (by simpa using j),λt y E=>?_⟩;exact fin t y _ _ _ (by simpa using l.symm) rfl (I.kept (t':=s.toks) λb o e=>Ω _ e) rfl E;obtain⟨g,G,w,hz⟩:=I.tuple A;have j:=zjc G;have l:=G.length;refine call_all_walk (wpAny_pyIter_tuple (show s.heap.IsTuple a g.toArray from w) ?_);have x:a≠s.heap.objs.size:=by obtain⟨o,e,_⟩:=w;exact ne_of_lt (Ι e)
 refine⟨s.heap.objs.size,_,_,_,_,_,_,rfl,Walks.tuple B _ a x g.toArray,⟨⟨_,Μ _ rfl,rfl,rfl⟩,?_⟩,O g.toArray (by simpa using j),λt y E=>?_⟩;obtain⟨o,e,c⟩:=w;exact⟨o,Ω _ e,c⟩;exact fin t y _ _ _ (by simpa using l.symm) rfl (I.kept (t':=s.toks) λb o e=>Ω _ e) rfl E
theorem zqm(G:Gd T cf k N sc X)(h:Gl X "all"/\X.mg "all"=Ψ)(l:PE X e (tL X.K cf cl))(f:zah e=Γ):PE X (.Call (.Name "all" p) [e] [] pos) (tE X.K cf (.all cl)):=by
 refine PE.imp (zb1 (zpp G.calm) h.1 h.2 zrZ (zaR l f) (by decide) (by decide) (zaf f [] X.env)) λC H E z=>?_;obtain⟨I,J,S,Q,m,n,w,q⟩:=z;change W (Out.bind _ _) _ at w;simp only[zaa] at w;refine tL.run m n w λo r v s L M t u g x y=>?_;obtain⟨b,c,A⟩:=zaq y;unfold allD at c;cases e:o.mapM zgi with
 |none=>rw[e]at c;exact nS c
 |some i=>
  rw[e]at c;have c:b=i.all id:=by simpa using c.symm
  subst c;obtain⟨a,O,rfl,j,B⟩:=x;rw[zpj e]at j;have:=j.bls_eq;subst this;exact⟨a,i,rfl,B.seq,q _ _ (Lf.up t (Lf.of (d:=.bl _) g rfl A))⟩
theorem zkk(f:RH X.K ι H S)(r:RV X.K ι H d v)(h:isDt S d=Γ):∃a,v=.ref a/\IsD H a:=by
 cases d with
 |ref l=>
  obtain⟨p,g,rfl⟩:=r;simp only[isDt]at h;cases e:S.get l with
  |none=>rw[e]at h;exact nB h
  |some o=>rw[e]at h;obtain⟨b,c,i⟩:=f.obj _ _ e;rw[g]at c;cases c;cases o with|dtp j=>obtain⟨_,m,n,_⟩:=i;exact⟨p,rfl,.inr ⟨m,.inl n⟩⟩|_=>exact nB h
 |_=>exact nB h
theorem znd{k}(r:RV X.K ι H y v)(h:zdf y=Φ k):∃b,v=.ref b/\H b=Φ (.tup ((kI k).map kV)):=by cases y with| tup d=>obtain⟨b,e,rfl,a,c⟩:=r;rw[zcy h]at c;rw[c.ints_eq]at a;refine⟨b,rfl,?_⟩;rw[a];unfold kI;rw[map_map];rfl|_=>exact nS h
theorem zlr:PE X (.Dict [] [] pos) (tE X.K cf .dnewT):=by refine PE.imp zlZ λd H e z=>?_;obtain⟨f,c,S,Q,g,a,w,q⟩:=z;intro p b;exact q _ _ ⟨.ref S.len,c++[p],S.push (.dtp []),Ext.obj a b _,⟨p,a.last p,rfl⟩,a.obj' b _ _ ⟨List.nodup_nil,[],zaj,rfl⟩,w⟩
end
section
variable{prog:Υ}{w:ύ}{A:ϑ}{E:Θ->Ζ->Prop}{s:Ζ}
noncomputable abbrev set0(b:Bool):Obj:={cls:=.type "set",dict:=Ψ,data:=.set #[] 0 (.fresh 0 0 b)}
set_option maxHeartbeats 6400000 in
theorem zjl(hc:A.handled=Ψ)(ht:IsTup s.heap t its)(hi:IntsAre its.toList ms)(hb:its.size+1<scanBound)(fin:∀(g:Heap)(tk:Nat),g.SetOf (intKind prog w) s.heap.objs.size (λz=>(firstMet (λi=>ms.getD i 0) its.size).any (·==z)) (firstMet (λi=>ms.getD i 0) its.size).length->
   (∀b o,b<s.heap.objs.size->s.heap.get? b=Φ o->g.get? b=Φ o)->Q (.ref s.heap.objs.size) {s with heap:=g,toks:=tk}):wpAny (model prog w) A (call (.type "set") [.ref t]) Q E s:=by
 obtain⟨mc,mt,hmro⟩:=F.called_set.mro;have c1:=F.called_set.made;have c2:=F.called_set.sub;refine wpAny_call (codeAny_of_tree ?_);show wpAny _ _ (callAny (.type "set") _) _ _ _;refine Β ⟨Code.quiet_builtin _ (by decide +kernel),codeAny_builtin F.entry_type_call ?_⟩;rw[ϑ.under_plain (weight_type_call_type "set" [.ref t] []) rfl];have c3:=F.called_set.notType;have c4:=F.called_set.canCreate;have c5:=F.typeCall_set_1 (.ref t)
 repeat (any_goals (first|assumption|wp_step))
 refine codeAny_mono (code_set_new_1 (.ref t) (E:=E) (Q₁:=λo z=>∃led:Bool,o=.ref s.heap.objs.size/\z={s with heap:=s.heap.push (set0 led)}) λled=>⟨led,rfl,rfl⟩) λr z hr=>?_;cases r with
 |error e=>exact hr| ok fl=>
  cases fl with
  |ret o=>
   obtain⟨led,rfl,rfl⟩:=hr;have g0:(s.heap.push (set0 led)).get? s.heap.objs.size=Φ (set0 led):=Μ _ rfl;have g1:Ζ.TypeIs {s with heap:=s.heap.push (set0 led)} (.ref s.heap.objs.size) "set":=⟨_,g0,rfl⟩;have c6:=F.called_set.init.lookup;have c7:=F.called_set.init.bind (.ref s.heap.objs.size)
   repeat (any_goals (first|assumption|wp_step))
   refine codeAny_mono (codeAny_call_builtin (R:=wants (λr z=>r=.none/\∃g tk,z={s with heap:=g,toks:=tk}/\
    g.SetOf (intKind prog w) s.heap.objs.size (λz=>(firstMet (λi=>ms.getD i 0) its.size).any (·==z)) (firstMet (λi=>ms.getD i 0) its.size).length/\
    (∀b o,b<s.heap.objs.size->s.heap.get? b=Φ o->g.get? b=Φ o)) E) F.called_set.init.plain F.entry_set_init (check_set_init_1 g1 ?_)) λr2 z2 hr2=>?_
   . obtain⟨⟨oc,od,oda,osl⟩,ho,hcl,nl,hda⟩:=id ht;simp only at hcl hda;subst hcl hda;have ho':(s.heap.push (set0 led)).get? t=Φ {cls:=.type "tuple",dict:=od,data:=.seq its nl,slots:=osl}:=Ω _ ho;have d1:=F.sub_tuple_set;have d2:=F.sub_tuple_frozenset;have d3:(Θ.type "tuple" == Θ.type "dict")=Δ:=by decide
     have ht1:(s.heap.push (set0 led)).IsTuple t its:=⟨_,ho',rfl,nl,rfl⟩;unfold Builtin.«set.__init__» noKeywords Builtin.Frozenset.updateFrom;generalize hPI:pyIter=PI
     wp_walk
     subst hPI;refine wpAny_pyIter_tuple ht1 ?_;refine Ξ (wpAny_runValue ?_);have tl:t<s.heap.objs.size:=Ι ho;have tn:t≠(s.heap.push (set0 led)).objs.size:=by rw[Heap.size_push];exact ne_of_lt (Nat.lt_succ_of_lt tl)
     have sn:s.heap.objs.size∉[(s.heap.push (set0 led)).objs.size,t]:=by rw[Heap.size_push];simp only[mem_cons,not_mem_nil,or_false,not_or];exact⟨ne_of_lt (Nat.lt_succ_self _),ne_of_gt tl⟩
     refine codeAny_set_update_loopS ((Walks.tuple (by simp[hc]) _ t tn its).toS) s.heap.objs.size sn (λi=>ms.getD i 0) (λi v hv=>IntsAre.int_at hi i v (by rw[ϔ];exact hv)) hb (its.size-0) 0 _ (by lia) (zero_le _)
      ⟨⟨_,Μ _ rfl,rfl,rfl⟩,⟨_,Ω _ ho',rfl,nl,rfl⟩⟩ ?start ?last
     case start=>exact SetOf_congr ((setObjOf_fresh (knd:=intKind prog w) led).setOf (Ω _ g0) (by unfold scanBound;lia)) (λ_=>rfl) rfl
     case last=>rintro⟨g,gg,dd,tk,oo⟩ mv hS;obtain rfl:gg=s.gens:=mv.gens;obtain rfl:dd=s.drawn:=mv.drawn;obtain rfl:oo=s.os:=mv.os;show wpAny _ _ _ _ _ _;refine Β ?_;show wpAny _ _ (ret Θ.none) _ _ _;refine Β ⟨rfl,g,tk,rfl,hS,λb o hb e=>mv.heap b o ?_ (Ω _ (Ω _ e))⟩;rw[Heap.size_push];simp only[mem_cons,not_mem_nil,or_false,not_or];exact⟨ne_of_lt hb,ne_of_lt (Nat.lt_succ_of_lt hb)⟩
   cases r2 with
   |error e=>exact hr2| ok f2=>
    cases f2 with
    |ret r=>
     obtain⟨rfl,g,tk,rfl,hS,hk⟩:=hr2
     repeat (any_goals (first|assumption|wp_step))
     exact fin _ _ hS hk
    |_=>exact hr2.elim
  |_=>exact hr.elim
end
section
variable{T:Tab}{cf:CF}{k:Nat}{N:List Str}{sc:Scope}{X:Cx}{pos p p2 pos':Pos}
theorem zdV(ns):R.dedup ns=firstMet (λi=>ns.getD i 0) ns.length:=by
 unfold R.dedup firstMet;have e:(List.range ns.length).map (λi=>ns.getD i 0)=ns:=by apply List.ext_getElem?;intro i;rw[getElem?_map];by_cases h:i<ns.length;simp[h,ό];simp[h,List.getElem?_eq_none (Nat.le_of_not_lt h)]
 rw[e];congr 1;funext a x;unfold step_dedup;simp[List.contains_eq_any_beq]
theorem zlk(y:X.calm=Γ):zba X (.type "set") (λxs H Q=>∃(a:Addr) (ns:List Int),xs=[.ref a]/\(SqL X.K H a (ns.map V.int)\/SqT X.K H a (ns.map V.int))/\ns.length<4000/\∀p,H p=Ψ->∀S,Q (.ref p) (upd H p (.set S (R.dedup ns).length))):=by
 intro f s z H xs C Q I r h;obtain⟨a,ns,rfl,i,E,q⟩:=h;obtain⟨u,rfl,A⟩:=r.one;cases(show u=Θ.ref a from A);have fresh:=I.hok.fresh (le_refl s.heap.objs.size);have lay:∀(g:Heap)(d n:Nat)(F:Int->Bool),n=(R.dedup ns).length->g.SetOf (intKind X.prog X.w) s.heap.objs.size F n->(∀b o,b<s.heap.objs.size->s.heap.get? b=Φ o->g.get? b=Φ o)->EP X f z Q (.ref s.heap.objs.size) {s with heap:=g,toks:=d}:=by intro g d n F B j l;subst B;exact⟨.ref s.heap.objs.size,_,I.laid (o:=.set F _) (λb o e=>l b o (Ι e) e) (le_refl _) j,rfl,q _ fresh F⟩
 have x:X.A.handled=Ψ:=I.ok.hd y;rcases i with i|i;obtain⟨c,m,v,w⟩:=I.list i;have t:c.toArray.size=ns.length:=by rw[size_toArray,<-m.length,length_map]
 refine call_set_list x v.isList (zcO m) (by rw[t];unfold scanBound;lia) λg d j l=>lay g d _ _ ?_ j l;rw[zdV,t];obtain⟨c,m,v,w⟩:=I.tuple i;have t:c.toArray.size=ns.length:=by rw[size_toArray,<-m.length,length_map]
 refine zjl x v (zcO m) (by rw[t];unfold scanBound;lia) λg d j l=>lay g d _ _ ?_ j l;rw[zdV,t]
theorem zoS:zba X (.builtin "len") (λxs H Q=>∃p S n,xs=[.ref p]/\H p=Φ (.set S n)/\n<4096/\Q (.int n) H):=by intro a s j H xs l Q I r h;obtain⟨p,S,n,rfl,b,m,q⟩:=h;obtain⟨u,rfl,c⟩:=r.one;cases(show u=Θ.ref p from c);obtain⟨o,t,v,w,d,e,f,_,_,_,g,i⟩:=(show ObjOk X.prog X.w H s.heap p (.set S n) from I.hok p _ b);subst i;exact call_len_set d e f g (by cutsat) ⟨.int _,H,I.tok _,⟨_,rfl⟩,q⟩
theorem zkN(ns):(R.dedup ns).length<=ns.length:=by rw[zdV];exact firstMet_length_le _ _
theorem zjm(G:Gd T cf k N sc X)(m:Gl X "len"/\X.mg "len"=Ψ)(n:Gl X "set"/\X.mg "set"=Ψ)(r:PE X e (tL X.K cf cl))(b:zah e=Γ):
  PE X (.Call (.Name "len" p) [.Call (.Name "set" p2) [e] [] pos'] [] pos) (tE X.K cf (.lenset cl)):=by
 have g:=zbG (p:=p2) (pos:=pos') (zlk G.calm) n.1 n.2 zrW (zaR r b) (by decide) (by decide) (zaf b [] X.env);refine PE.imp (zb1 zoS m.1 m.2 znq (zaR g rfl) (by decide) (by decide) rfl) λL H M z=>?_;obtain⟨O,U,S,Q,s,t,w,q⟩:=z;change W (Out.bind _ _) _ at w;simp only[zaa] at w;refine tL.run s t w λu x v y Y S1 A B h C E=>?_;obtain⟨i,j,l⟩:=zaq E;split at l;rename_i c;obtain⟨a,xs,rfl,o,I⟩:=C;have j:zax u=Φ i:=j;rw[zcy j]at o;have:=o.ints_eq;subst this;have hd:=zkN i;refine⟨a,i,rfl,I.seq,c,λJ f F=>⟨J,F,_,rfl,zaj,by lia,?_⟩⟩;exact q _ _ (Lf.up (A.trans (Ext.new f _)) (Lf.of (d:=.int _) (h.new f _) rfl l));exact l.elim
end
end R
namespace R
open PySem PySem.Spec PyProof.Rows L2
theorem ze8(x):∀l:List Int,(insZ x l).Perm (x::l)
 | []=>List.Perm.refl _| y::l=>by unfold insZ;split;exact List.Perm.refl _;exact((ze8 x l).cons y).trans (List.Perm.swap ..)
theorem zem(x):∀{l:List Int},l.Pairwise (·<=·)->(insZ x l).Pairwise (·<=·)
 | [],_=>by simp[insZ]| y::l,h=>by have a:=pairwise_cons.mp h;unfold insZ;split;rename_i c;exact pairwise_cons.mpr ⟨λz b=>by rcases mem_cons.mp b with e|e;rw[e];exact c;exact Int.le_trans c (a.1 z e),h⟩;rename_i c;refine pairwise_cons.mpr ⟨λz b=>?_,zem x a.2⟩;rcases mem_cons.mp ((ze8 x l).mem_iff.mp b) with e|e;rw[e];lia;exact a.1 z e
theorem zbV:∀l:List Int,(zcH l).Perm l
 | []=>List.Perm.refl _|x::l=>(ze8 x _).trans ((zbV l).cons x)
theorem zcW:∀l:List Int,(zcH l).Pairwise (·<=·)
 | []=>Pairwise.nil|x::l=>zem x (zcW l)
theorem zea:∀{a b:List Int},a.Perm b->a.Pairwise (·<=·)->b.Pairwise (·<=·)->a=b
 | [],b,p,_,_=>(List.nil_perm.mp p).symm|x::a,[],p,_,_=>absurd (List.perm_nil.mp p) (by simp)| x::a,y::b,p,f,g=>by
  have c:=pairwise_cons.mp f;have d:=pairwise_cons.mp g;have h:y<=x:=by rcases mem_cons.mp (p.mem_iff.mp ϊ) with e|e;exact Int.le_of_eq e.symm;exact d.1 x e
  have i:x<=y:=by rcases mem_cons.mp (p.mem_iff.mpr ϊ) with e|e;exact Int.le_of_eq e.symm;exact c.1 y e
  cases Int.le_antisymm h i;rw[zea (List.Perm.cons_inv p) c.2 d.2]
section
variable[Mks]{X:Cx}
theorem zo0(I:Inv X c σ H s)(k:∀b u,s.heap.get? b=Φ u->h'.get? b=Φ u)(d:s.heap.objs.size<=a)(new:ObjOk X.prog X.w (upd H a o) h' a o):
 Inv X c σ (upd H a o) {s with heap:=h',drawn:=d',toks:=t'}:=I.call' rfl (Un.laid k d (I.hok.fresh d)) (I.hok.laid k d new) I.bare λb (e:b∈([]:List Addr))=>by cases e
variable{T:Tab}{cf:CF}{k:Nat}{N:List Str}{sc:Scope}{pos p p2 pos':Pos}
theorem zk1:bootBuiltins "sorted"=Φ (.builtin "sorted"):=by rfl
end
section
variable[Mks]{X:Cx}
theorem zig:zba X (.builtin "sorted") (λxs H Q=>∃(a:Addr) (ns:List Int),xs=[.ref a]/\SqL X.K H a (ns.map V.int)/\ns.length<64/\∀p,H p=Ψ->Q (.ref p) (upd H p (.lst ((zcH ns).map V.int)))):=by intro k s B H xs C Q I r h;obtain⟨a,ns,rfl,m,g,q⟩:=h;obtain⟨u,rfl,n⟩:=r.one;cases(show u=Θ.ref a from n);obtain⟨i,t,v,_⟩:=I.list m;have l:=zcO t;refine sorted_ints v.isList l (by rw[l.length];exact g) λd j w x y=>?_;have z:j=zcH ns:=zea (x.trans (zbV ns).symm) y (zcW ns);subst z;obtain⟨c,A⟩:=sortedAll_at s.heap i d;have f:s.heap.objs.size<=s.heap.objs.size+1:=le_succ _;refine⟨.ref (s.heap.objs.size+1),_,zo0 (s:=s) (d':=s.drawn) (t':=s.toks) (o:=.lst ((zcH ns).map V.int)) I (λb u e=>sortedAll_old e) f ⟨?_,d.toList,c,zds w,A⟩,rfl,q _ (I.hok.fresh f)⟩;rw[length_map,(zbV ns).length_eq,ϋ];lia
variable{T:Tab}{cf:CF}{k:Nat}{N:List Str}{sc:Scope}{pos p:Pos}
theorem zrX:bootBuiltins "min"=Φ (.builtin "min"):=by rfl
theorem zp7(G:Gd T cf k N sc X)(j:Gl X "sorted"/\X.mg "sorted"=Ψ)(r:PE X e (tE X.K cf s))(f:zah e=Γ):
  PE X (.Call (.Name "sorted" p) [e] [] pos) (tE X.K cf (.srt s)):=by
 refine PE.imp (zb1 zig j.1 j.2 zk1 (zaR r f) (by decide) (by decide) (zaf f [] X.env)) λY H Qv z=>?_;obtain⟨δ,ι,S,Q,t,u,w,q⟩:=z;change W (Out.bind _ _) _ at w;simp only[zaa] at w;refine tE.run t u w λd v x H1 y A B g C E=>?_;obtain⟨m,b,h⟩:=zaq E;unfold lstI at b;cases d with
 |ref l=>
  obtain⟨a,I,rfl⟩:=C;dsimp only at b;cases i:y.get l with
  |none=>rw[i]at b;exact nS b
  |some J=>rw[i]at b;cases J with| lst L=>have b:zax L=Φ m:=b;obtain⟨a',n,zs,M,o⟩:=g.obj _ _ i;rw[I]at n;cases n;rw[zcy b]at o;have:=o.ints_eq;subst this;split at h;rename_i c;obtain⟨c2,O⟩:=zc1 h;exact⟨a,m,rfl,SqL.of M,c,λl U=>q _ _ (Lf.up A (Lf.lst g U (RVs.ints _) O))⟩;exact h.elim|_=>exact nS b
 |_=>exact nS b
end
section
variable[Mks]{X:Cx}{T:Tab}{cf:CF}{k:Nat}{N:List Str}{sc:Scope}{pos p:Pos}
theorem zls:PE X (.Dict [] [] pos) (tE X.K cf .dnew3):=by refine PE.imp zl1 λd H e z=>?_;obtain⟨f,c,S,Q,g,a,w,q⟩:=z;intro p b;exact q _ _ ⟨.ref S.len,c++[p],S.push (.d3 []),Ext.obj a b _,⟨p,a.last p,rfl⟩,a.obj' b _ _ ⟨List.nodup_nil,[],zaj,rfl⟩,w⟩
end
end R
namespace R
open PySem PySem.Spec PyProof.Rows L2
variable[Mks]
section
variable{T:Tab}{cf:CF}{k:Nat}{N:List Str}{sc:Scope}{X:Cx}{pos p p2 pos':Pos}
theorem zh5(m:RH X.K ι H S)(n:RV X.K ι H x q)(r:RV X.K ι H y s)(h:dGet S x y=Φ o):
  ∃l a b c f d,x=.ref l/\ι[l]?=Φ a/\S.get l=Φ (.dtp c)/\q=.ref a/\zdf y=Φ d/\(c.map (·.1)).Nodup/\H a=Φ (.dT f)/\RKs X.K ι H c f/\s=.ref b/\H b=Φ (.tup ((kI d).map kV))/\o=valP c d:=by
 unfold dGet at h;cases x with
 |ref l=>
  obtain⟨p,i,rfl⟩:=n;dsimp only at h;cases e:S.get l with
  |none=>rw[e]at h;exact nS h
  |some t=>
   rw[e]at h;obtain⟨b,j,u⟩:=m.obj _ _ e;rw[i]at j;cases j;cases t with
   |dtp c=>
    obtain⟨v,f,w,z⟩:=u;dsimp only at h;cases g:zdf y with
    |none=>rw[g]at h;exact nS h
    |some d=>rw[g]at h;cases h;obtain⟨b,rfl,A⟩:=znd r g;exact⟨l,p,b,c,f,d,rfl,i,e,rfl,rfl,v,w,z,rfl,A,rfl⟩
   |_=>exact nS h
 |_=>exact nS h
theorem zlu(G:Gd T cf k N sc X)(Y:PE X o (tE X.K cf co))(he:PE X e (tE X.K cf ce))(hx:PE X x (tE X.K cf cx))(h:zah e=Γ)(f:zah x=Γ)(i:zau o=Γ)(hl:(m.endLine==n.line)=Γ):
  PE X (.Call (.Attribute o "get" m) [e,x] [] n) (tE X.K cf (.dget2 co ce cx)):=by
 refine PE.imp (zhG (by have:=G.hu;lia) Y he hx ⟨zbi i "get" X.env _,by rw[zaf h,zaf f];rfl,hl,by rw[zaf h,zaf f];rfl⟩) λσ H Qv j=>?_;obtain⟨δ,ι,S,Q,hs,hh,w,q⟩:=j;change W (Out.bind _ _) _ at w;simp only[zaa] at w;refine tE.run hs hh w λd v ι1 H1 S1 x1 u r J s=>?_;split at s;rename_i c;obtain⟨a,rfl,hD⟩:=zkk r J c;refine⟨a,rfl,hD,?_⟩;rw[zaa]at s;refine tE.run u r s λy vy ι2 H2 S2 L A B r2 M=>?_;rw[zaa]at M;refine tE.run A B M λz vz ι3 H3 S3 C hs3 g r3 O=>?_;rw[zaa]at O;obtain⟨o,eo,t⟩:=zaq O;obtain⟨l,a',b,kvs,ws,kk,_,_,_,ea,_,nd,ha,rk,rfl,hb,rfl⟩:=zh5 g (J.ext (L.trans C)) (r2.ext C) eo;cases ea;refine⟨_,DGet.t ha hb,?_⟩;have U:=(x1.trans L).trans C;rcases rk.val kk with⟨E,I⟩|⟨d',v',E,I,rv⟩;rw[E]at t;rw[I];exact q _ _ (Lf.up U (Lf.of g r3 t));rw[E]at t;rw[I];exact q _ _ (Lf.up U (Lf.of g rv t));exact s.elim
theorem zlp(G:Gd T cf k N sc X)(ho:PE X o (tE X.K cf co))(he:PE X e (tE X.K cf ce))(hx:PE X x (tE X.K cf cx))(n:zah e=Γ)(i:zah x=Γ)(s:zau o=Γ)(hl:(t.endLine==A.line)=Γ):
  PE X (.Call (.Attribute o "setdefault" t) [e,x] [] A) (tE X.K cf (.dsetd co ce cx)):=by
 refine PE.imp (zlX (by have:=G.hu;lia) ho he hx ⟨zbi s "setdefault" X.env _,by rw[zaf n,zaf i];rfl,hl,by rw[zaf n,zaf i];rfl⟩) λσ H Qv j=>?_;obtain⟨δ,ι,S,Q,hs,hh,w,q⟩:=j;change W (Out.bind _ _) _ at w;simp only[zaa] at w;refine tE.run hs hh w λd v ι1 H1 S1 x1 Y B r1 I=>?_;split at I;rename_i c;obtain⟨a,rfl,hD⟩:=zkk B r1 c;refine⟨a,rfl,hD,?_⟩;rw[zaa]at I;refine tE.run Y B I λy vy ι2 H2 S2 x2 hs2 hh2 r2 w2=>?_;rw[zaa]at w2;refine tE.run hs2 hh2 w2 λz vz ι3 H3 J x3 hs3 g r3 w3=>?_;rw[zaa]at w3;obtain⟨r,f,w4⟩:=zaq w3;have up:=(x1.trans x2).trans x3;unfold zf9 at f;cases eg:dGet J d y with
 |none=>rw[eg]at f;exact nS f
 |some og=>
  obtain⟨l,a',b,C,L,m,rfl,hi,hg,ea,ek,nd,ha,rk,rfl,hb,rfl⟩:=zh5 g (r1.ext (x2.trans x3)) (r2.ext x3) eg;cases ea;rw[eg]at f;have E:∀T,dPut J (.ref l) y z=Φ T->C.length<16777216/\J.put l (.dtp (putP C m z))=Φ T:=λT h=>by unfold dPut at h;dsimp only at h;rw[hg]at h;dsimp only at h;rw[ek]at h;dsimp only[Ϛ]at h;split at h;rename_i c;exact⟨c,h⟩;exact nS h
  rcases rk.val m with⟨e1,M⟩|⟨d',v',e1,M,rv⟩;rw[e1]at f;dsimp only at f;cases ep:dPut J (.ref l) y z with
  |none=>rw[ep]at f;exact nS f
  |some T'=>
   rw[ep]at f;cases f;obtain⟨c,es⟩:=E _ ep;have O:=Ext.wr g hg hi (.dT (putK L (kI m) vz));have hz:L.length<sizeLine:=by rw[rk.length,ϋ];exact c
   refine⟨L,kI m,b,ha,rfl,hb,λu U=>absurd (M.symm.trans U) (λz=>by exact nS z),λ_=>⟨hz,?_⟩⟩;exact q _ _ ⟨z,ι3,T',up.trans O,r3.ext O,g.wr hg hi es ⟨zee nd,_,zaj,(rk.put m r3 nd).up O.pre O.kp⟩,w4⟩
  rw[e1]at f;cases f;refine⟨L,kI m,b,ha,rfl,hb,λu U=>?_,λhn=>absurd (M.symm.trans hn) (λz=>by cases z)⟩;rw[M]at U;cases U;exact q _ _ (Lf.up up (Lf.of g rv w4))
 exact I.elim
theorem zn0(Y:PE X o (tE X.K cf ca))(he:PE X e (tE X.K cf cb))(g:zah e=Γ)(i:zau o=Γ)(hl:(j.endLine==n.line)=Γ):
  PE X (.Call (.Attribute o "extend" j) [e] [] n) (tE X.K cf (.extv ca cb)):=by
 refine PE.imp (zoA PySem.F.plainAttrs_list PySem.F.slot_list_extend PySem.F.type_list_extend zfH Y (zaR he g) (zbi i "extend" X.env _) (by rw[zaf g];rfl) hl (zaf g [] X.env)) λσ H Qv z=>?_;obtain⟨δ,ι,S,Q,hs,hh,w,q⟩:=z;change W (Out.bind _ _) _ at w;simp only[zaa] at w;refine tE.run hs hh w λd v ι1 H1 S1 x1 u r B t=>?_;split at t;rename_i c;refine⟨zhV r B c,?_⟩;rw[zaa]at t;refine tE.run u r t λy vy ι2 H2 C E hs2 h r2 G=>?_;rw[zaa]at G;obtain⟨o,f,w3⟩:=zaq G;unfold lsts at f;cases d with
 |ref l=>
  cases y with
  |ref m=>
   obtain⟨a,I,rfl⟩:=B.ext E;obtain⟨b,h2,rfl⟩:=r2;dsimp only at f;cases s:C.get l with
   |none=>rw[s]at f;exact nS f
   |some J=>
    cases x:C.get m with
    |none=>rw[s,x]at f;cases J<;>exact nS f| some A=>
     rw[s,x]at f;cases J with
     |lst xs=>cases A with| lst ys=>cases f;obtain⟨a',L,zs,ha,M⟩:=h.obj _ _ s;rw[I]at L;cases L;obtain⟨b',O,us,hb,U⟩:=h.obj _ _ x;rw[h2]at O;cases O;obtain⟨c2,S',hp,w4⟩:=ziZ w3;refine⟨a,b,zs,us,rfl,rfl,ha,hb,?_,q _ _ (Lf.up (x1.trans E) (Lf.wr (d:=.non) h s I hp (M.append U) rfl w4))⟩;rw[M.length,U.length,<-length_append];exact c2|_=>exact nS f
     |_=>exact nS f
  |_=>exact nS f
 |_=>exact nS f
 exact t.elim
theorem znY(f:Gl X "int"/\X.mg "int"=Ψ)(h:PE X a (tE X.K cf i))(c:zah a=Γ):PE X (.Call (.Name "int" p) [a] [] pos) (tE X.K cf (.intb i)):=by refine PE.imp (zbG zsX f.1 f.2 znr (zaR h c) (by decide) (by decide) (zaf c [] X.env)) λs H t z=>?_;obtain⟨u,x,S,Q,j,l,w,q⟩:=z;change W (Out.bind _ _) _ at w;simp only[zaa] at w;refine tE.run j l w λd v m y A n o e r g=>?_;cases d with| bl b=>cases(show v=V.bl b from r);exact⟨b,rfl,q _ _ (Lf.up n (Lf.of (d:=.int _) e rfl g))⟩|_=>exact g.elim
end
structure Ltr(K:Frag)(ι:List Addr)(H:Hp)(S:R.St)(lks:List Nat)(ι2:List Addr)(H2:Hp)(S2:R.St):Prop where
 ext:Ext ι H ι2 H2
 rh:RH K ι2 H2 S2
 lck:∀l∈lks,S2.get l=S.get l
structure Wk(K:Frag)(J:It)(ds:List D)(lks:List Nat)(ι:List Addr)(H:Hp)(S:R.St):Prop where
 go:∀(i:Nat)(ι2:List Addr)(H2:Hp)(S2:R.St),Ltr K ι H S lks ι2 H2 S2->i<ds.length->J.go i H2
 yld:∀(i:Nat)(ι2:List Addr)(H2:Hp)(S2:R.St)(x:V)(H':Hp),Ltr K ι H S lks ι2 H2 S2->i<ds.length->J.yld i H2 x H'->Ext ι2 H2 ι2 H'/\RH K ι2 H' S2/\∃d,ds[i]?=Φ d/\RV K ι2 H' d x
 stop:∀(i:Nat)(ι2:List Addr)(H2:Hp)(S2:R.St),Ltr K ι H S lks ι2 H2 S2->ds.length<=i->J.stop i H2
 lks:∀l∈lks,l<S.len
def LfI(K:Frag)(ι:List Addr)(H:Hp)(Q:List D×List Nat->R.St->Prop)(J:It)(H':Hp):Prop:=∃d b a c,Ext ι H a H'/\RH K a H' c/\Q (d,b) c/\Wk K J d b a H' c
def tI(K:Frag)(cf:CF)(cl:CL):TI:=λd H R=>∃b a S Q,RS K a H b d/\RH K a H S/\W (evL cf cl b S) Q/\∀J c,LfI K a H Q J c->R J c
theorem PI.imp(h:PI X c e t)(i:∀a H Q,t' a H Q->t a H Q):PI X c e t':=λb s a H Q I q=>h b s a H Q I (i a H Q q)
def iSeq(K:Frag)(d:TE):TI:=λe H R=>d e H λx b=>∃a,x=.ref a/\(((∃c,SqL K b a c)/\R (Itl K a) b)\/((∃c,SqT K b a c)/\R (Itt K a) b))
section
variable{T:Tab}{cf:CF}{k:Nat}{N:List Str}{sc:Scope}{X:Cx}{pos p:Pos}{tg:Expr}
theorem zqP(t:PE X l u):PI X tg l (iSeq X.K u):=by
 intro f s w H R I h;refine thn (t f s w H _ I h) λv c z=>?_;obtain⟨x,r,d,y,i⟩:=z;obtain⟨a,rfl,i⟩:=i;cases y;rcases i with⟨⟨A,j⟩,q⟩|⟨⟨A,j⟩,q⟩;obtain⟨g,B,m,C⟩:=d.list j;refine wpAny_pyIter_list m.isList ?_;refine⟨c.heap.objs.size,[c.heap.objs.size],_,_,r,rfl,d.kept (t':=c.toks) λb o e=>Ω _ e,zjf a _,⟨_,Μ _ rfl,rfl,rfl⟩,λb n=>?_,q⟩;have e:b=c.heap.objs.size:=by simpa using n
 subst e;exact d.fpOk (le_refl _) (d.hok.fresh (le_refl _));obtain⟨g,B,m,C⟩:=d.tuple j;refine wpAny_pyIter_tuple (show c.heap.IsTuple a g.toArray from m) ?_;refine⟨c.heap.objs.size,[c.heap.objs.size],_,_,r,rfl,d.kept (t':=c.toks) λb o e=>Ω _ e,zie a _,⟨_,Μ _ rfl,rfl,rfl⟩,λb n=>?_,q⟩;have e:b=c.heap.objs.size:=by simpa using n
 subst e;exact d.fpOk (le_refl _) (d.hok.fresh (le_refl _))
theorem zgp{K:Frag}{ι:List Addr}{H:Hp}{S:R.St}{a:Addr}{ds:List D}{lks:List Nat}(hl:∀l∈lks,l<S.len)
  (h:∀ι2 H2 S2,Ltr K ι H S lks ι2 H2 S2->∃xs,SqL K H2 a xs/\RVs K ι2 H2 ds xs/\∀ys,SqL K H2 a ys->True):Wk K (Itl K a) ds lks ι H S where
 go:=λi ι2 H2 S2 lt hi=>by obtain⟨xs,hq,rr,_⟩:=h ι2 H2 S2 lt;exact⟨xs,xs[i]'(by rw[rr.length];exact hi),hq,getElem?_eq_getElem _⟩
 yld:=λi ι2 H2 S2 x H' lt hi y=>by obtain⟨xs,hq,rr,_⟩:=h ι2 H2 S2 lt;obtain⟨rfl,y⟩:=y;obtain⟨d,e,r⟩:=rr.get' (y xs hq);exact⟨Ext.refl _ _,lt.rh,d,e,r⟩
 stop:=λi ι2 H2 S2 lt hi=>by obtain⟨xs,hq,rr,_⟩:=h ι2 H2 S2 lt;exact⟨xs,hq,by rw[rr.length];exact hi⟩
 lks:=hl
theorem zpt{K:Frag}{ι:List Addr}{H:Hp}{S:R.St}{a:Addr}{ds:List D}{lks:List Nat}{xs:List V}(hl:∀l∈lks,l<S.len)(e:H a=Φ (.tup xs))(rr:RVs K ι H ds xs):Wk K (Itt K a) ds lks ι H S where
 go:=λi ι2 H2 S2 lt hi=>⟨xs,xs[i]'(by rw[rr.length];exact hi),SqT.of (lt.ext.kp.tups _ _ e),getElem?_eq_getElem _⟩
 yld:=λi ι2 H2 S2 x H' lt hi y=>by obtain⟨rfl,y⟩:=y;obtain⟨d,e,r⟩:=(rr.ext lt.ext).get' (y xs (SqT.of (lt.ext.kp.tups _ _ e)));exact⟨Ext.refl _ _,lt.rh,d,e,r⟩
 stop:=λi ι2 H2 S2 lt hi=>⟨xs,SqT.of (lt.ext.kp.tups _ _ e),by rw[rr.length];exact hi⟩
 lks:=hl
theorem zmY(E:PE X e (tL X.K cf cl))(u:∀{δ:Ev}{S:R.St}{Q:List D×List Nat->R.St->Prop},W (evL cf cl δ S) Q->W (evL cf cl δ S) λr y=>(∀l∈r.2,l<y.len)/\Q r y):PI X tg e (tI X.K cf cl):=by refine PI.imp (zqP E) λσ H R z=>?_;obtain⟨δ,ι,S,Q,G,I,w,q⟩:=z;refine tL.run G I (u w) λm c v d H1 o s J f L i=>?_;obtain⟨t,i⟩:=i;obtain⟨a,j,rfl,x,M⟩:=L;refine⟨a,rfl,?_⟩;cases M with|tmp h e=>exact .inl ⟨⟨j,SqL.of e⟩,q _ _ ⟨m,c,d,o,s,f,i,zgp t λn A B g=>⟨j,SqL.of (g.ext.keep h e (by simp)),x.ext g.ext,λ_ _=>trivial⟩⟩⟩|fix e=>exact .inl ⟨⟨j,e.sq⟩,q _ _ ⟨m,c,d,o,s,f,i,zgp t λn A B g=>⟨j,(e.kp g.ext.kp).sq,x.ext g.ext,λ_ _=>trivial⟩⟩⟩|tup e=>exact .inr ⟨⟨j,SqT.of e⟩,q _ _ ⟨m,c,d,o,s,f,i,zpt t e x⟩⟩| own l O U Y e=>refine .inl ⟨⟨j,SqL.of e⟩,q _ _ ⟨m,c,d,o,s,f,i,zgp t λn A B g=>?_⟩⟩;obtain⟨b,C,zs,hz,rz⟩:=g.rh.obj l (.lst m) ((g.lck l O).trans Y);rw[zbF g.ext.pre U]at C;cases C;exact⟨zs,SqL.of hz,rz,λ_ _=>trivial⟩
theorem zro(h:W (evL cf (.val c) δ S) Q):W (evL cf (.val c) δ S) λr b=>(∀l∈r.2,l<b.len)/\Q r b:=by
 change W (Out.bind _ _) _ at h⊢;simp only[zaa] at h⊢;refine h.mono λx i d=>?_;obtain⟨j,e,f⟩:=zaq d;rw[e];refine⟨λl a=>?_,f⟩;cases x with
 |ref m=>simp[lkOf]at a;subst a;simp only[zcg]at e;split at e;rename_i g;exact get_lt g;exact nS e
 |_=>simp[lkOf]at a
theorem zoQ(h:W (evL cf (.comp n d g it c e) δ S) Q):W (evL cf (.comp n d g it c e) δ S) λr b=>(∀l∈r.2,l<b.len)/\Q r b:=by change W (Out.bind _ _) _ at h⊢;simp only[zaa] at h⊢;refine h.mono λj m f=>f.mono λr o a=>?_;split at a;rename_i c;rw[if_pos c];exact⟨λl i=>by simp at i,a⟩;exact a.elim
theorem zhd{K:Frag}{ι:List Addr}{H:Hp}{S:R.St}(lo:Int)(n:Nat):Wk K (Itr lo n) ((List.range n).map λ(j:Nat)=>D.int (lo+j)) [] ι H S where
 go:=λi ι2 H2 S2 lt hi=>by show i<n;simpa using hi
 yld:=λi ι2 H2 S2 x H' lt hi y=>by
  obtain⟨rfl,rfl⟩:=y;have hi:i<n:=by simpa using hi
  exact⟨Ext.refl _ _,lt.rh,.int (lo+i),by simp[hi],rfl⟩
 stop:=λi ι2 H2 S2 lt hi=>by show n<=i;simpa using hi
 lks:=λl hl=>by simp at hl
theorem znP(i:Gl X "range"/\X.mg "range"=Ψ)(l:PE X a (tE X.K cf m))(f:zah a=Γ):PI X tg (.Call (.Name "range" p) [a] [] pos) (tI X.K cf (.rng1 m)):=by
 refine PI.imp (zjM i.1 i.2 (zaR l f) (zaf f [] X.env)) λx H R z=>?_;obtain⟨y,A,S,Q,n,o,w,q⟩:=z;change W (Out.bind _ _) _ at w;simp only[zaa] at w;refine tE.run n o w λd v g B r s t h u b=>?_;cases d with
 |int j=>
  obtain rfl:v=.int j:=u;dsimp only at b;split at b;rename_i c;have e:((List.range j.toNat).map λ(k:Nat)=>D.int k)=(List.range j.toNat).map λ(k:Nat)=>D.int (0+k):=by simp
  rw[e]at b;exact⟨j,rfl,c.1,c.2,q _ _ ⟨_,[],g,r,s,h,b,zhd 0 j.toNat⟩⟩;exact b.elim
 |_=>exact b.elim
set_option tactic.hygienic true in
theorem znO(r:Gl X "range"/\X.mg "range"=Ψ)(s:PE X a (tE X.K cf t))(x:PE X b (tE X.K cf y))(g:zah a=Γ)(f:zah b=Γ):PI X tg (.Call (.Name "range" p) [a,b] [] pos) (tI X.K cf (.rng2 t y)):=by refine PI.imp (zjL r.1 r.2 (zbI s (zaR x f) (zaf g [b] X.env)) (by rw[zaf g,zaf f];rfl) (zaf f [] X.env)) λU H R z=>?_;obtain⟨Y,ι,S,Q,A,B,w,q⟩:=z;change W (Out.bind _ _) _ at w;simp only[zaa] at w;refine tE.run A B w λd v C H1 S1 E l m G I=>tE.run l m I λe u n H2 J L M o O h=>?_;split at h;rename_i i j;obtain rfl:v=.int i:=G;obtain rfl:u=.int j:=O;split at h;rename_i c;exact⟨i,j,rfl,c,q _ _ ⟨_,[],n,J,E.trans L,o,h,zhd i (j-i).toNat⟩⟩;exact h.elim;exact h.elim
theorem zcG{g:List Addr}(I:Inv X a σ H s)(k:∀b o,b∉g->s.heap.get? b=Φ o->h'.get? b=Φ o)(h:∀b∈g,FpOk X a H b):Inv X a σ H {s with heap:=h',toks:=t'}:=by
 have f:∀b u,H b=Φ u->b∉g:=λb u e z=>by rw[(h b z).1]at e;exact nS e
 refine I.step (g':=s.gens) (d':=s.drawn) (ch:=g) (λb i=>?_) (λb o _ _ d e _=>k b o d e) (λb o _ _ d e _=>⟨o.slots,k b o d e⟩) (λ_ _ _ _ n=>n)
  (λb o d e=>⟨o,k b o d e⟩) (λ_ _ e=>e) (λ_ _ _ e=>e) (λb C e=>⟨#[],by rw[e];simp⟩) (λm j=>?_) (λb u e=>?_) I.bare
 obtain⟨E,l,G,t,w,x⟩:=h b i;exact⟨t,l,w,x⟩;obtain⟨o,y,A,B,r⟩:=j;exact⟨o,y,A,k _ o (λz=>(h _ z).2.1 rfl) B,r⟩;refine(I.hok b u e).stay (λc v d q=>k c v ?_ q) (λ_ q=>q) λ_ _ q=>q;rcases d with z|z;rw[z];exact f b u e;exact f c _ z
def tG(K:Frag)(f:List Nat):TG:=λv g H h=>∃e c d a,RS K c H e g/\RV K c H d v/\asgG f d e=Φ a/\∀b,RS K c H a b->h b H
def tGs(K:Frag)(d:List Nat):TGs:=λf g H h=>∃e b c,RS K b H e g/\RVs K b H c f/\c.length=d.length/\∀a,RS K b H (zd5 d c e) a->h a H
theorem PG.imp(h:PG X tg t)(i:∀v a H Q,t' v a H Q->t v a H Q):PG X tg t':=λb s a H v u Q I r q=>h b s a H v u Q I r (i v a H Q q)
theorem PGs.imp(h:PGs X es t)(i:∀v a H Q,t' v a H Q->t v a H Q):PGs X es t':=λb s a H v u Q I r q=>h b s a H v u Q I r (i v a H Q q)
theorem znR(G:Gd T cf k N sc X)(b:N[i]?=Φ x)(a:zfS sc x=Γ):PG X (.Name x pos) (tG X.K [i]):=by refine PG.imp (zjN (by rw[G.nm];exact G.nd) (by rw[G.nm];exact b) (G.lc a).1 (G.lc a).2) λv g H h z=>?_;obtain⟨j,l,d,c,f,r,e,q⟩:=z;cases e;exact q _ (f.set r i)
noncomputable def zca(sc:Scope)(N:List Str):List Nat->List Expr->Bool
 | [],[]=>Γ|i::a,.Name x _::b=>(N[i]?==Φ x)&&zfS sc x&&zca sc N a b|_,_=>Δ
theorem zfq(G:Gd T cf k N sc X):∀{b:List Nat}{es:List Expr},zca sc N b es=Γ->PGs X es (tGs X.K b)/\(assignEach es X.env).length=b.length/\(assignEach es X.env).findIdx? (·.1)=Ψ
 | [],[],_=>⟨PGs.imp zov λv l H o z=>by
  obtain⟨m,n,a,f,r,c,q⟩:=z
  have:a=[]:=by simpa using c
  subst this;exact⟨r,q l (by simpa[zd5]using f)⟩,rfl,rfl⟩
 |[],_::_,h=>nB h|_::_,[],h=>nB h| i::b,e::es,h=>by
  cases e with
  |Name x pos=>
   simp only[zca,Λ,beq_iff_eq]at h;obtain⟨s,t,u⟩:=zfq G h.2;refine⟨PGs.imp (zlS (zjN (by rw[G.nm];exact G.nd) (by rw[G.nm];exact h.1.1) (G.lc h.1.2).1 (G.lc h.1.2).2) s) λv l H o ⟨m,n,a,f,r,c,q⟩=>?_,?_,?_⟩;cases a with|nil=>simp at c| cons d a=>obtain⟨w,y,rfl,A,B⟩:=r;exact⟨w,y,rfl,⟨m.set i (Φ d),n,a,f.set A i,B,by simpa using c,λg j=>q g (by simpa[zd5]using j)⟩⟩
   show((Δ,_)::assignEach es X.env).length=_;simp[t];show((Δ,_)::assignEach es X.env).findIdx? _=_;simp[List.findIdx?_cons,u]
  |_=>simp[zca]at h
theorem zmJ(h2:2<=is.length)(e:asgG is d δ=Φ δ'):∃ds,d=.tup ds/\ds.length=is.length/\δ'=zd5 is ds δ:=by
 match is,h2 with
 |a::b::t,_=>
  cases d with
  |tup ds=>simp only[asgG]at e;split at e;rename_i c;cases e;exact⟨ds,rfl,c,rfl⟩;exact nS e
  |_=>exact nS e
theorem zmZ(G:Gd T cf k N sc X)(h:zca sc N f es=Γ)(i:2<=f.length):PG X (.Tuple es j pos) (tG X.K f):=by obtain⟨l,m,b⟩:=zfq G h;refine PG.imp (zqQ G.calm l m b) λv y H A z=>?_;obtain⟨n,o,d,s,t,r,e,q⟩:=z;obtain⟨u,rfl,c,rfl⟩:=zmJ i e;obtain⟨a,w,rfl,x,g⟩:=r;exact⟨a,w,rfl,SqT.of x,by rw[g.length];exact c,n,o,u,t,g,c,q⟩
theorem Ext.tmp{p}(x:Ext ι H j H')(c:H p=Ψ)(e:H' p=Φ (.lst vs)):Ext ι H j (upd H' p (.lst us)):=by refine⟨x.pre,x.kp.trans (.same (Tups.upd_lst e) (λb o u h=>?_) λb i h=>?_),λb o d a=>?_⟩;rw[zai];exact h;rintro rfl;rw[e]at h;cases h;rw[zai];exact h;rintro rfl;rw[e]at h;cases h;obtain⟨f,g⟩:=x.rest b o d a;refine⟨?_,g⟩;rw[zai];exact f;rintro rfl;rw[c]at a;exact nS a
theorem Kp.tmp{p}(e:H p=Φ (.lst vs)):Kp H (upd H p (.lst us)):=.same (Tups.upd_lst e) (λb o u h=>by
 rw[zai];exact h;rintro rfl;rw[e]at h;cases h) λb a h=>by
 rw[zai];exact h;rintro rfl;rw[e]at h;cases h
theorem RH.tmp{K}{p}(b:RH K ι H S)(c:p∉ι)(e:H p=Φ (.lst vs)):RH K ι (upd H p (.lst us)) S:=⟨b.len,b.nd,λl o q=>by obtain⟨a,d,f,g⟩:=b.mem q;exact⟨a,d,f.up (Ϧ _) (Kp.tmp e) (zai λz=>c (z▸g))⟩,(Kp.tmp e).tab b.tab⟩
theorem RS.up{K}(h:RS K ι H δ a)(b:ι <+: ι')(c:Kp H H'):RS K ι' H' δ a:=⟨h.1,λi d e=>let ⟨v,f,r⟩:=h.2 i d e;⟨v,f,r.up b c⟩⟩
theorem RH.lk{K}(a:RH K ι H S)(ks):RH K ι H {S with lk:=ks}:=⟨a.len,a.nd,λl o e=>a.obj l o e,a.tab⟩
theorem RS.csl{K}(h:RS K ι H δ g)(a)(b):RS K ι H (R.csl a b δ) (L2.csl a b g):=by
 refine⟨by simp[R.csl,L2.csl],λi d e=>?_⟩;unfold R.csl at e;unfold L2.csl;by_cases c:i<a;rw[getElem?_append_left (by simpa using c),List.getElem?_replicate]at e;rw[if_pos c]at e;cases e;rw[getElem?_append_right (by simpa using c)]at e⊢;simp only[length_replicate,getElem?_map]at e⊢;cases f:b[i-a]? with
 |none=>rw[f]at e;exact nS e
 |some j=>
  rw[f]at e;simp only[Option.map_some,Option.some.injEq]at e⊢;have l:δ[j]?=Φ (Φ d):=by
   cases z:δ[j]? with
   |none=>rw[z]at e;exact nS e
   |some o=>rw[z]at e;simp at e;rw[e]
  obtain⟨v,m,r⟩:=h.2 j d l;exact⟨v,by rw[m];rfl,r⟩
theorem zf7{α:Type}{xs:List α}{x}(h:xs[i]?=Φ x):xs.drop i=x::xs.drop (i+1):=by obtain⟨a,b⟩:=Α.mp h;rw[List.drop_eq_getElem_cons a,b]
def CInv(K:Frag)(cf:CF)(g:List Nat)(c e:CE)(Q:List D×List Nat->R.St->Prop)(ds:List D)(f:List Nat)(m:List Addr)(q:Hp)(j:R.St)(p:Addr)(i:Nat)(n:L2.St)(H':Hp):Prop:=
 i<=ds.length/\∃h a l d o,RS K a H' h n/\Ltr K m q j f a H' l/\l.lk=f++j.lk/\j.len<=l.len/\p∉a/\H' p=Φ (.lst o)/\RVs K a H' d o/\
  W (zaG g (evT cf c) (evE cf e) (ds.drop i) h l) λb r=>(d++b).length<=16777216/\Q (d++b,[]) {r with lk:=j.lk}
theorem zh6(hcf:CFok cf)(h:tLt X.K cf (.comp nt js is it c e) σ H Qv):znG nt js (tI X.K cf it) (tG X.K is) (tT X.K cf c) (tE X.K cf e) σ H Qv:=by
 obtain⟨δ,ι,S,Q,hs,hh,w,q⟩:=h;change W (Out.bind _ _) _ at w;simp only[zaa] at w;refine⟨δ,ι,S,_,hs,hh,w,λJ H1 k=>?_⟩;obtain⟨ds,a,G,y,x1,I,w1,wk⟩:=k;dsimp only at w1;unfold za7 at w1;rw[zaa]at w1;intro p O;have hpi:=I.fresh O;refine⟨λi m σ' H'=>m=ds.length-i/\CInv X.K cf is c e Q ds a G H1 y p i σ' H',⟨_,rfl,zero_le _,R.csl nt js δ,G,{y with lk:=a++y.lk},[],[],((hs.ext x1).csl _ _).up (Ϧ _) (Kp.new O _),⟨Ext.new O _,(I.lk _).new O _,λl _=>rfl⟩,rfl,le_refl _,hpi,zaj,rfl,?_⟩,?_⟩;refine w1.mono λA S2 w2=>?_;simp only[W_ok]at w2;split at w2;rename_i c;exact⟨by simpa using c,by simpa using w2⟩;exact w2.elim;rintro i m σ' H' ⟨rfl,hle,δ',g,U,s,vs,hs',B,hlk,hln,t,hpv,ra,j⟩;rcases Nat.lt_or_eq_of_le hle with u|rfl;refine .inr ⟨wk.go i g H' U B u,CInv X.K cf is c e Q ds a G H1 y p (i+1),λσ2 H2 h=>⟨_,by lia,rfl,h⟩,λx H2 hy=>?_⟩;obtain⟨Y,hh2,d,hd,rd⟩:=wk.yld i g H' U x H2 B u hy;have hs2:=hs'.ext Y;have hp2:=Y.keep t hpv (by simp);rw[zf7 hd]at j;simp only[zaG]at j;cases ea:asgG is d δ' with
 |none=>rw[ea]at j;exact j.elim| some n=>
  rw[ea]at j;dsimp only at j;rw[zaa]at j;refine⟨δ',g,d,n,hs2,rd,ea,λσ2 hs3=>?_⟩;refine tT.run hs3 hh2 ((frT hcf c n U).w j) λb ι3 H3 S3 x3 hs4 hh3 L=>?_;obtain⟨L,f3⟩:=L;have M:=x3.keep t hp2 (by simp);have o:=(x3.rest p _ t hp2).2;have C:∀{S4:R.St},Frm U S4->S4.lk=a++y.lk/\y.len<=S4.len/\∀l∈a,S4.get l=y.get l:=λf=>⟨f.lk.trans hlk,le_trans hln f.lens,λl hl=>(f.same l (by rw[hlk];exact mem_append_left _ hl) (lt_of_lt_of_le (wk.lks l hl) hln)).trans (B.lck l hl)⟩;cases b with
  |false=>simp only[Ρ,if_false]at L⊢;obtain⟨k1,k2,k3⟩:=C f3;exact⟨u,n,ι3,S3,s,vs,hs4,⟨(B.ext.trans Y).trans x3,hh3,k3⟩,k1,k2,o,M,(ra.ext Y).ext x3,L⟩| true=>
   simp only[if_true]at L⊢;rw[zaa]at L;refine tE.run hs4 hh3 ((frE hcf e n S3).w L) λz v ι4 H4 S4 x4 hs5 hh4 rz w4=>?_;obtain⟨w4,f4⟩:=w4;obtain⟨k1,k2,k3⟩:=C (f3.trans f4);have r:=x4.keep o M (by simp);have E:=(x4.rest p _ o M).2;rw[zaa]at w4;have ra4:=((ra.ext Y).ext x3).ext x4;have hlen:s.length<16777216:=by obtain⟨A,S5,_,w5⟩:=zgn w4;have:=w5.1;simp at this;lia
   refine⟨vs,r,by rw[ra4.length,ϋ];exact hlen,u,n,ι4,S4,s++[z],vs++[v],hs5.up (Ϧ _) (Kp.tmp r),⟨(((B.ext.trans Y).trans x3).trans x4).tmp O r,hh4.tmp E r,k3⟩,k1,k2,E,zaj,?_,?_⟩;exact(RVs.append (es:=[z]) (us:=[v]) ra4 ⟨v,[],rfl,rz,rfl⟩).up (Ϧ _) (Kp.tmp r);refine w4.mono λA S5 w5=>?_;simp only[W_ok]at w5;simpa using w5
 refine .inl ⟨wk.stop _ g H' U B (le_refl _),?_⟩;rw[List.drop_length]at j;simp only[zaG,W_ok,append_nil]at j;exact q _ _ ⟨s,g,{U with lk:=y.lk},p,vs,x1.trans B.ext,rfl,ra,t,hpv,B.rh.lk _,zk2 I x1 O,j.2⟩
noncomputable def Ite(K:Frag)(a:Addr):It:=
 ⟨λi H=>∃b x,SqL K H a b/\b[i]?=Φ x,
  λi H v c=>∃T x,H T=Ψ/\v=.ref T/\c=upd H T (.tup [.int i,x])/\∀b,SqL K H a b->b[i]?=Φ x,
  λi H=>∃b,SqL K H a b/\b.length<=i⟩
theorem zjg{P:Υ}{w:ύ}{K:Frag}{es:List Expr}{j:Nat}{pt:Pos}{e it a:Addr}(r:e≠it):Turn P w K (.Tuple es j pt) (Ite K a) [e,it] e
  (λi h=>(∃l,IsEnum h e it i l)/\h.IsListIter it a i) where
 mem:=by simp
 obj:=λi h st c d=>by obtain⟨⟨l,m⟩,⟨o4,B,_,d4⟩⟩:=st;simp only[mem_cons,not_mem_nil,or_false]at d;rcases d with rfl|rfl;exact⟨_,m,λv z=>by cases z⟩;exact⟨_,B,λv z=>by rw[d4]at z;cases z⟩
 keep:=λi h h' st k=>by obtain⟨⟨l,m⟩,B⟩:=st;exact⟨⟨l,k e (by simp) _ m⟩,B.at λo x=>k it (by simp) o x⟩
 item:=by
  intro X C G J d i g s L H E I M st O;subst C G J;obtain⟨xs,x,y,hx⟩:=O;obtain⟨xv,Q,U,_⟩:=I.list y;obtain⟨u,hu,ru⟩:=Q.get hx;obtain⟨⟨l,A⟩,m⟩:=st;refine wpAny_pyNext_enum_item A m U.isList (x:=u) (by simpa using hu) r λh' a1 a3 a5 a6 Y=>?_;have hn:H s.heap.objs.size=Ψ:=I.hok.fresh (le_refl _);have I1:Inv X g L (upd H s.heap.objs.size (.tup [.int i,x])) {s with heap:=s.heap.push {cls:=.type "tuple",data:=.seq #[.int i s.toks,u]},toks:=s.toks+1}:=I.laid (t':=s.toks+1) (λb u e=>Ω _ e) (le_refl _) ⟨by rw[ϋ];simp,[.int i s.toks,u],.cons ⟨_,rfl⟩ (.cons ru .nil),⟨_,Μ _ rfl,rfl,_,rfl⟩⟩;have lt:∀{c o},s.heap.get? c=Φ o->c≠s.heap.objs.size:=λe=>ne_of_lt (Ι e);have nf:∀c∈[e,it],c≠s.heap.objs.size:=by intro c d;simp only[mem_cons,not_mem_nil,or_false]at d;rcases d with rfl|rfl;exact lt A;obtain⟨o,z,_⟩:=m;exact lt z
  have n:∀c∈[e,it],FpOk X g (upd H s.heap.objs.size (.tup [.int i,x])) c:=λc d=>by obtain⟨f0,f⟩:=M c d;exact⟨by rw[zai (nf c d)];exact f0,f⟩
  have two:∀{c:Addr},¬c∈[e,it]->c≠e/\c≠it:=λ{c} d=>by simp only[mem_cons,not_mem_nil,or_false,not_or]at d;exact d
  have k2:∀c o,¬c∈[e,it]->(s.heap.push {cls:=.type "tuple",data:=.seq #[.int i s.toks,u]}).get? c=Φ o->h'.get? c=Φ o:=λc o d z=>by by_cases hs:c=s.heap.objs.size;subst hs;have e2:(s.heap.push {cls:=.type "tuple",data:=.seq #[.int i s.toks,u]}).get? s.heap.objs.size=_:=Μ _ rfl;rw[e2]at z;cases z;exact a5;exact Y c o (two d).1 (two d).2 ((Heap.get?_push_ne _ _ _ hs).symm.trans z)
  have I2:Inv X g L (upd H s.heap.objs.size (.tup [.int i,x])) {s with heap:=h',toks:=s.toks+1}:=zcG (s:={s with heap:=s.heap.push {cls:=.type "tuple",data:=.seq #[.int i s.toks,u]},toks:=s.toks+1}) (h':=h') (t':=s.toks+1) I1 k2 n;refine⟨_,rfl,?_⟩;refine wpAny_letOwnedTupleGo_enum a1 λh2' hz' t=>?_;refine⟨.ref s.heap.objs.size,upd H s.heap.objs.size (.tup [.int i,x]),zcG (t':=s.toks+1) I2 (λc o d z=>t.extBut _ _ (two d).1 z) n,rfl,⟨_,x,hn,rfl,rfl,λxs' hx'=>by rw[I.list_inj hx' y];exact hx⟩,
   ⟨⟨_,hz'⟩,a3.extBut t.extBut (Ne.symm r)⟩,λc d=>(n c d).1⟩
 done:=by intro X C G J d i g s L H E I M st O;subst C G J;obtain⟨xs,y,hl⟩:=O;obtain⟨xv,Q,U,_⟩:=I.list y;obtain⟨⟨l,A⟩,m⟩:=st;have l1:=Q.length;refine wpAny_pyNext_enum_end (I.ok.hd d) A m U.isList (by simp;lia) λh' Y=>⟨rfl,zcG (t':=s.toks) I (λc o d z=>Y c o (λq=>d (by simp[q])) z) M⟩
 self:=λ_ _ _ _ _ st h=>wpAny_pyIter_enum st.1.choose_spec h
def zs2(K:Frag)(t:TA):TI:=λc H R=>t c H λd b=>∃a e,d=[.ref a]/\SqL K b a e/\R (Ite K a) b
theorem zou(n:Gl X "enumerate")(o:X.mg "enumerate"=Ψ)(t:PA X [a] u)(hs:starEach [a] X.env=[(Δ,eval a X.env)]):
  PI X (.Tuple es j G) (.Call (.Name "enumerate" p) [a] [] pos) (zs2 X.K u):=by
 intro b s v H R I h;refine Call_ (zdM I n o boot_enumerate (PyProof.Rows.callWith_type1 (thn (t pos b s v H _ I h) λJ g z=>?_) hs rfl));obtain⟨L,w,d,x,f⟩:=z;obtain⟨l,M,e,f,q⟩:=f;subst e;cases x with
 |cons r y=>
  cases y;cases r;obtain⟨O,Q,A,_⟩:=d.list f;refine call_enumerate_list A.isList λU i B C E=>?_;refine wpAny_pyIter_enum i ?_;refine⟨_,_,_,_,w,rfl,d.kept (t':=g.toks) E,zjg (Nat.succ_ne_self _),⟨⟨_,i⟩,B⟩,λc m=>?_,q⟩;simp only[mem_cons,not_mem_nil,or_false]at m;have:g.heap.objs.size<=c:=by rcases m with rfl|rfl;exact le_succ _;exact le_refl _
  exact d.fpOk this (d.hok.fresh this)
theorem znu{K}(o:S.get l=Φ (.lst ds))(t:ι[l]?=Φ a):Wk K (Ite K a) (ds.mapIdx λi d=>ziy (.int i) d) [l] ι H S:=by
 have g:∀{b f m},Ltr K ι H S [l] b f m->∃c,SqL K f a c/\RVs K b f ds c:=λ{b f m} e=>by obtain⟨C,q,c,h,j⟩:=e.rh.obj l (.lst ds) ((e.lck l (by simp)).trans o);rw[zbF e.ext.pre t]at q;cases q;exact⟨c,SqL.of h,j⟩
 refine⟨λi b f m e n=>?_,λi b f m x E e n y=>?_,λi b f m e n=>?_,λk v=>?_⟩;obtain⟨c,h,j⟩:=g e;rw[List.length_mapIdx]at n;have w:=j.length;exact⟨c,c[i]'(by lia),h,getElem?_eq_getElem _⟩;obtain⟨c,h,j⟩:=g e;obtain⟨T,u,r,rfl,rfl,z⟩:=y;obtain⟨d,A,B⟩:=j.get' (z c h);have s:Ext b f b (upd f T (.tup [.int i,u])):=Ext.new r _;refine⟨s,e.rh.new r _,ziy (.int i) d,by rw[List.getElem?_mapIdx,A];rfl,?_⟩;exact⟨T,[.int i,u],rfl,zaj,.int i,[u],rfl,rfl,u,[],rfl,B.ext s,rfl⟩;obtain⟨c,h,j⟩:=g e;rw[List.length_mapIdx]at n;have w:=j.length;exact⟨c,h,by lia⟩;cases mem_singleton.mp v;exact get_lt o
end
end R
namespace R
open PySem PySem.Spec PyProof.Rows L2
section
variable[Mks]{T:Tab}{cf:CF}{k:Nat}{N:List Str}{sc:Scope}{X:Cx}{pos p:Pos}
theorem ziQ(h:zer S x=Φ r):∃l ds,x=.ref l/\S.get l=Φ (.lst ds)/\r=(ds.mapIdx λi d=>ziy (.int i) d,[l]):=by
 cases x with
 |ref l=>
  simp only[zer]at h;cases e:S.get l with
  |none=>rw[e]at h;exact nS h
  |some o=>rw[e]at h;cases o with|lst ds=>cases h;exact⟨l,ds,rfl,e,rfl⟩|_=>exact nS h
 |_=>exact nS h
theorem znQ(f:Gl X "enumerate"/\X.mg "enumerate"=Ψ)(m:PE X a (tE X.K cf n))(b:zah a=Γ):PI X (.Tuple es j I) (.Call (.Name "enumerate" p) [a] [] pos) (tI X.K cf (.enum n)):=by refine PI.imp (zou f.1 f.2 (zaR m b) (zaf b [] X.env)) λJ H R z=>?_;obtain⟨L,M,S,Q,o,s,w,q⟩:=z;change W (Out.bind _ _) _ at w;simp only[zaa] at w;refine tE.run o s w λd v e O t u x c y A=>?_;obtain⟨r,B,C⟩:=zaq A;obtain⟨l,U,rfl,g,rfl⟩:=ziQ B;obtain⟨a,h,rfl⟩:=y;obtain⟨Y,i,E,G,rx⟩:=c.obj l _ g;rw[h]at i;cases i;exact⟨a,E,rfl,SqL.of G,q _ _ ⟨_,_,e,t,u,c,C,znu g h⟩⟩
end
end R
namespace R
open PySem PySem.Spec PyProof.Rows L2
variable[Mks]
section
variable{X:Cx}{pins:List (Addr×Obj)}{σ:L2.St}{H H':Hp}{s:Ζ}
structure Own(X:Cx)(pins:List (Addr×Obj))(b:Addr):Prop where
 new:X.s₀.heap.objs.size<=b
 loc:b≠X.env.locals
 cel:∀x c,X.env.cells.lookup x=Φ c->c≠b
 pin:∀p∈X.pn++pins,p.1≠b
theorem Own.fresh(I:Inv X pins σ H s)(h:s.heap.objs.size<=b):Own X pins b:=by refine⟨le_trans I.sz h,λe=>?_,λx c e z=>?_,λp a z=>?_⟩;exact absurd (lt_of_lt_of_le I.lt h) (by rw[e];exact lt_irrefl _);obtain⟨v,o,d,_⟩:=I.cell x c e;exact absurd (lt_of_lt_of_le (Ι d) h) (by rw[z];exact lt_irrefl _);exact absurd (lt_of_lt_of_le (Ι (I.pin p a).1) h) (by rw[z];exact lt_irrefl _)
theorem Own.stk(o:Own X pins b)(I:Inv X pins σ H s):b∉frs X.stack:=λa=>by rcases mem_cons.mp (I.stkSub b a) with e|e;exact o.loc e;obtain⟨_,d,c,_⟩:=I.ok.funs.mem e;exact absurd (lt_of_lt_of_le (Ι c) o.new) (lt_irrefl _)
theorem zaW{ch:List Addr}(I:Inv X pins σ H s)(f:∀b∈ch,Own X pins b)(g:∀b∈ch,H b=Ψ)(k:∀b o,b∉ch->s.heap.get? b=Φ o->h'.get? b=Φ o)(h:AllBare g'):
  Inv X pins σ H {s with heap:=h',gens:=g',drawn:=d',toks:=t'}:=by
 refine I.call (ch:=ch) ⟨λb o e n _ d=>k b o d e,λb o e n _ d=>⟨o.slots,k b o d e⟩,λb o _ n _=>n,λb o e d=>⟨o,k b o d e⟩,λ_ _ e=>e,λ_ _ _ e=>e,λb i e=>⟨#[],by rw[e];simp⟩⟩ ?_ h λb c=>⟨.inr (f b c).new,(f b c).loc,(f b c).cel,(f b c).pin⟩;intro a o e;refine(I.hok a o e).stay (λb u c q=>k b u (λz=>?_) q) (λ_ q=>q) λ_ _ q=>q;have:=g b z;rcases c with rfl|c;rw[e]at this;cases this;rw[c]at this;cases this
end
section
variable{X:Cx}{pins:List (Addr×Obj)}{σ:L2.St}{H H':Hp}{s:Ζ}{b:Addr}{o:HO}
theorem zfT(I:Inv X pins σ H s)(f:Own X pins b)(d:H b=Ψ)(ok:ObjOk X.prog X.w (upd H b o) s.heap b o):Inv X pins σ (upd H b o) s:=by
 have g:Un (frs X.stack) [b] H (upd H b o) s.heap s.heap:=⟨λc q e _ _ _=>e,λc q e _ _ _=>⟨q.slots,e⟩,λc q e n h=>by rw[zai (by simpa using h)];exact n,λc q e _=>⟨q,e⟩,
  λc i q=>by rw[zai (zal q d)];exact q,λc q u e=>by rw[zai (zal e d)];exact e,λc k q=>⟨#[],by rw[zai (zal q d),q];simp⟩⟩
 refine I.call' rfl g ?_ I.bare λc j=>?_;intro a u e;by_cases z:a=b;subst z;rw[zaj]at e;cases e;exact ok;rw[zai z]at e;exact(I.hok a u e).stay (λ_ _ _ q=>q) (λc q=>by rw[zai (zal q d)];exact q) λc i q=>by rw[zai (zal q d)];exact q
 rw[mem_singleton.mp j];exact⟨.inr f.new,f.loc,f.cel,f.pin⟩
end
structure StepT(P:Addr)(H H':Hp):Prop where
 rest:∀a o,a≠P->H a=Φ o->H' a=Φ o
 tab:∀ps,H P=Φ (.tbl ps)->∃more,H' P=Φ (.tbl (ps++more))
theorem zfj(h:TriplesOk l)(e:codeAmong pos (l++[a,b,c])=Φ v):codeAmong pos l=Φ v\/v=c:=by
 induction l using codeAmong.induct (pos:=pos) with
 |case1 line _ col _ c' rest cond=>simp only[List.cons_append,codeAmong,cond,if_true]at e⊢;exact .inl e| case2 line _ col _ c' rest cond ih=>simp only[List.cons_append,codeAmong,cond,if_false]at e⊢;exact ih (by simpa[TriplesOk]using h) e| case3 l hno=>
  cases l with
  |nil=>right;unfold codeAmong at e;split at e;rename_i h;simp at h;obtain⟨_,_,rfl,rfl⟩:=h;split at e;cases e;rfl;simp[codeAmong]at e;exact nS e
  |cons x l=>exfalso;unfold TriplesOk at h;split at h;rename_i h0;cases h0;rename_i h0;cases h0;exact hno _ _ _ _ _ _ rfl;exact h
theorem StepT.ext(st:StepT P H H')(b:H P=Φ (.tbl ps))(f:TB H'):Ext [] H [] H':=by
 have c:∀a o,H a=Φ o->(∀ps,o≠.tbl ps)->a≠P:=λa o e n z=>by rw[z,b]at e;cases e;exact n _ rfl
 refine⟨Ϧ _,⟨λa h e=>st.rest a _ (c a _ e (by simp)) e,λa o u e=>st.rest a _ (c a _ e (by simp)) e,λ_=>f⟩,λa o _ e=>⟨?_,by simp⟩⟩;by_cases z:a=P;subst z;obtain⟨d,g⟩:=st.tab ps b;rw[b]at e;cases e;exact .inr ⟨⟨_,rfl⟩,_,g⟩;exact .inl (st.rest a o z e)
section
variable{X:Cx}{pins:List (Addr×Obj)}{σ:L2.St}{H:Hp}{s:Ζ}{c P:Addr}{params:Arguments}{scope:Scope}{lpos:Pos}
theorem BM.at_(b:BM X.mg X.base)(I:Inv X pins σ H s)(f:H P=Φ o):s.heap.BuiltinsAt X.mg P:=by obtain⟨a,d,g,h,i,j,k⟩:=b;obtain⟨l,e⟩:=I.bs a d j;exact⟨a,d,g,h,i,λz=>(by rw[z,f]at e;cases e),l,k⟩
end
theorem zoT{K}(S:FnScope N ps scope)(i:Room (k+1) A)(l:Env0 P w K p base A outer s H)(C:s.heap.get? f=Φ (kla_obj name a c d scope [] G h ct))(m:s.heap.CodeRec (.ref h) a)(L:BindsTo s (kla_fn name a c d scope [] G (.ref h) ct) args (ps.zip us))(r:Vals vs us)(M:vs.length=ps.length)(O:Room k (A.deeper (envOfC a scope s.heap.objs.size f (.ref h)))->PE (cxOf CX P w K p base N a scope f (.ref h) A outer s H E) d t)(T:t (start N vs) H Q):
  codeAny (model P w) A (.call (.ref f) args) (CR CX outer P w H s Q E) s:=by
 have n:s.heap.NoLimit:=l.mod.nolimit.keeps λb o e=>(l.bs b o e).1;have g:∀y∈ps.zip us,scope.names.lookup y.1=Φ .local\/(scope.names.lookup y.1=Φ .cell/\((cellsFrom (s.heap.objs.size+1) scope.names []).lookup y.1).isSome=Γ):=λj U=>(by obtain⟨x,v⟩:=j;exact (S.par x (of_mem_zip U).1).elim .inl λq=>.inr ⟨q,cellsFrom_some _ _ _ (.inl q)⟩);refine PySem.W.kla_callFunE i.depth C rfl S.co S.gen rfl m (L _ _ _ _ ?_);refine wpAny_newFunctionEnv_cells S.kind g λY he B x=>?_;subst he;refine⟨n.keeps x.toInCall.keep,PySem.W.kla_codeExpr ?_⟩;have I:Inv (cxOf CX P w K p base N a scope f (.ref h) A outer s H E) [] (start N vs) H B:=zfU S i.hd l M r x;exact ϕ (O (i.deeper _) [] B (start N vs) H _ I T) (λu s' z=>(by obtain⟨v,H',J,rv,q⟩:=z;exact ⟨v,H',J.os,J.bare,J.base,J.hok,rv,q⟩)) λe s' hs=>hs
structure LamAt(H:Hp)(f:Addr)(name qual:Str)(params:Arguments)(body:Expr)(scope:Scope):Prop where
 ex:∃(pm ct:Θ) (c':Addr) (oc:Obj) (vs:Array Θ) (t:Tok),H f=Φ (.frz (kla_obj name qual params body scope [] pm c' ct) (.own 0))/\H c'=Φ (.frz oc (.own 0))/\oc.data=.fields vs/\vs[1]?=Φ (.str qual t)
theorem LamAt.up(L:LamAt H f name b a m scope)(k:Kp H H'):LamAt H' f name b a m scope:=by obtain⟨c,d,e,g,h,t,i,j,l⟩:=L.ex;exact⟨c,d,e,g,h,t,k.frzs _ _ _ i,k.frzs _ _ _ j,l⟩
abbrev zgo(s:Ζ)(a:Addr)(vs:List Θ)(e:Nat):Prop:=s.heap.get? a=Φ (seqObj "list" vs.toArray e)
theorem zeR(h:zgo s a vs e)(g)(b:g vs.toArray=us.toArray):∃c,zgo {s with heap:=s.heap.update a (Obj.mapSeq g)} a us c:=⟨_,by have:=get?_update_seq h g;rw[b]at this;exact this⟩
theorem zbZ{s:Ζ}(n:b≠a)(h:s.heap.get? b=Φ o):(s.heap.update a g).get? b=Φ o:=by rw[Heap.get?_update_ne _ _ _ _ n];exact h
structure KEnd(X:Cx)(pins:List (Addr×Obj))(σ:L2.St)(H:Hp)(D:Addr)(out:List Θ)(s':Ζ):Prop where
 ex:∃H' e,Inv X pins σ H' s'/\Ext [] H [] H'/\H' D=Ψ/\zgo s' D out e
theorem getD_mem{a:Type}{xs:List a}(d)(h:i<xs.length):xs[i]?=Φ (xs.getD i d):=by rw[ό,List.getElem?_eq_getElem h];rfl
section
variable{X:Cx}{pins:List (Addr×Obj)}{σ:L2.St}{H H':Hp}{s:Ζ}{b:Addr}{o:HO}
theorem zkG(c:H b=Ψ):Ext [] H [] (upd H b o):=⟨Ϧ _,Kp.new c o,λa u _ e=>⟨.inl (by rw[zai (zal e c)];exact e),by simp⟩⟩
end
section
variable{X:Cx}{pins:List (Addr×Obj)}{σ:L2.St}{H:Hp}{s:Ζ}{c P:Addr}{params:Arguments}{body:Expr}{scope:Scope}{lpos:Pos}
theorem zmf(I:Inv X pins σ H s)(bm:BM X.mg X.base)(p:X.env.code=.ref c)(hC:codeHdIn X.K c P=Γ)(tb:TabIn H P (X.env.qual ++ "<lambda>"))(L:defaultsOf params X.env=([],[]))(M:closureFor scope X.env=pure [])(q:∀f H' s',Inv X pins σ H' s'->LamAt H' f "<lambda>" (X.env.qual ++ "<lambda>") params body scope->TabIn H' P (X.env.qual ++ "<lambda>")->StepT P H H'->Q (.ref f) s'):
  wpAny (model X.prog X.w) X.A (eval (.Lambda params body scope lpos) X.env) Q E s:=by
 obtain⟨w,k,N,h3⟩:=tb;have C:=PySem.W.codeHd_of_K I.kIn hC;have hP:s.heap.get? P=Φ (tabObj w):=I.hok P _ k;have i:=bm.at_ I k;have hg:s.heap.Ns mainGlobals X.mg:=I.mod.glob.keeps I.bk;have O:P<s.heap.objs.size:=Ι hP;refine PySem.W.kla_eval L ?_;cases hf:codeAmong lpos w.toList with
 |some cv=>
  obtain⟨g,x,vs,t,rfl,T,a3,a4⟩:=h3 lpos cv hf;refine PySem.W.kla_makeFunctionHit M I.ok.glob hg p C hP N hf i λj h U hk Y=>?_;have hn:H h.objs.size=Ψ:=I.hok.fresh Y;have ow:Own X pins h.objs.size:=Own.fresh I Y;have I1:Inv X pins σ H {s with heap:=h.push (kla_obj "<lambda>" (X.env.qual ++ "<lambda>") params body scope [] ((X.mg "__name__").getD .none) g j),toks:=U}:=zaW (g':=s.gens) (t':=U) (d':=s.drawn) (ch:=[]) I (λb i=>by cases i) (λb i=>by cases i) (λb o _ e=>Ω _ (hk b o e)) I.bare;have I2:=zfT (o:=.frz (kla_obj "<lambda>" (X.env.qual ++ "<lambda>") params body scope [] ((X.mg "__name__").getD .none) g j) (.own 0)) I1 ow hn ⟨Μ _ rfl,_,Μ _ rfl⟩;have st:∀a o,H a=Φ o->upd H h.objs.size (.frz (kla_obj "<lambda>" (X.env.qual ++ "<lambda>") params body scope [] ((X.mg "__name__").getD .none) g j) (.own 0)) a=Φ o:=λa o e=>by rw[zai (zal e hn)];exact e
  refine q _ _ _ I2 ⟨_,j,g,x,vs,t,zaj,st _ _ T,a3,a4⟩ ?_ ⟨λa o _ e=>st a o e,λps' e=>⟨#[],by rw[st _ _ e];simp⟩⟩;exact TabIn.up ⟨w,k,N,h3⟩ (by rw[st _ _ k,k]) λb o u e=>st _ _ e
 |none=>
  have hgP:mainGlobals≠P:=λz=>by obtain⟨o,es,ep,e,hd,_⟩:=hg;rw[z,hP]at e;cases e;cases hd
  refine PySem.W.kla_makeFunction M I.ok.glob hg p C hP N hf hgP i λg j h U hx m A hrec htb=>?_;obtain⟨c2,x,vs,t,e2,hoc,hd,hv⟩:=hrec;cases e2;generalize hfo:kla_obj "<lambda>" (X.env.qual ++ "<lambda>") params body scope [] ((X.mg "__name__").getD .none) g j=B;have hfr:(h.push B).get? h.objs.size=Φ B:=by rw[<-hfo];exact Μ _ rfl
  have hfn:H h.objs.size=Ψ:=I.hok.fresh (le_trans m (le_of_lt A));have hcn:H g=Ψ:=I.hok.fresh m;have nPc:P≠g:=ne_of_lt (lt_of_lt_of_le O m);have nPf:P≠h.objs.size:=ne_of_lt (lt_trans (lt_of_lt_of_le O m) A);have ncf:g≠h.objs.size:=ne_of_lt A;have st:∀a o,a≠P->H a=Φ o->upd (upd (upd H P (.tbl (w ++ #[rawInt lpos.line,rawInt lpos.col,.ref g]))) g (.frz x (.own 0))) h.objs.size (.frz B (.own 0)) a=Φ o:=λa o n e=>by rw[zai (zal e hfn),zai (zal e hcn),zai n];exact e
  have G:upd (upd (upd H P (.tbl (w ++ #[rawInt lpos.line,rawInt lpos.col,.ref g]))) g (.frz x (.own 0))) h.objs.size (.frz B (.own 0)) P=Φ (.tbl (w ++ #[rawInt lpos.line,rawInt lpos.col,.ref g])):=by rw[zai nPf,zai nPc,zaj]
  have atC:upd (upd (upd H P (.tbl (w ++ #[rawInt lpos.line,rawInt lpos.col,.ref g]))) g (.frz x (.own 0))) h.objs.size (.frz B (.own 0)) g=Φ (.frz x (.own 0)):=by rw[zai ncf,zaj]
  have J:∀a,H a=Ψ->a≠P:=λa e z=>by rw[z,k]at e;cases e
  have l:∀b o,b≠P->s.heap.get? b=Φ o->(h.push B).get? b=Φ o:=λb o n e=>Ω _ (hx b o n e);have inv:Inv X pins σ (upd (upd (upd H P (.tbl (w ++ #[rawInt lpos.line,rawInt lpos.col,.ref g]))) g (.frz x (.own 0))) h.objs.size (.frz B (.own 0))) {s with heap:=h.push B,toks:=U}:=by refine I.call (g':=s.gens) (t':=U) (d':=s.drawn) (ch:=[]) ⟨λb o e n _ _=>l b o (J b n) e,λb o e n _ _=>⟨o.slots,l b o (J b n) e⟩,λb o e n _=>?_,λb o e _=>?_,λb xs e=>?_,λb o u e=>?_,λb ps' e=>?_⟩ ?_ I.bare (λb i=>by cases i);have i:=Ι e;rw[zai (ne_of_lt (lt_trans (lt_of_lt_of_le i m) A)),zai (ne_of_lt (lt_of_lt_of_le i m)),zai (J b n)];exact n;by_cases z:b=P;subst z;exact⟨_,Ω _ htb⟩;exact⟨o,l b o z e⟩;exact st b _ (λz=>by rw[z,k]at e;cases e) e;exact st b _ (λz=>by rw[z,k]at e;cases e) e;by_cases z:b=P;subst z;rw[k]at e;cases e;exact⟨_,G⟩;exact⟨#[],by rw[st b _ z e];simp⟩;intro a u e;by_cases zf:a=h.objs.size;subst zf;rw[zaj]at e;cases e;exact⟨hfr,_,hfr⟩;rw[zai zf]at e;by_cases zc:a=g;subst zc;rw[zaj]at e;cases e;exact⟨Ω _ hoc,_,Ω _ hoc⟩;rw[zai zc]at e;by_cases zp:a=P;subst zp;rw[zaj]at e;cases e;exact Ω _ htb;rw[zai zp]at e;refine(I.hok a u e).stay (λb o i r=>l b o ?_ r) (λb r=>st b _ (λz=>by rw[z,k]at r;cases r) r) λb xs r=>st b _ (λz=>by rw[z,k]at r;cases r) r;rcases i with rfl|i;exact zp;intro z;rw[z,k]at i;cases i
  refine q _ _ _ inv ⟨_,j,g,x,vs,t,by rw[zaj,<-hfo],atC,hd,hv⟩ ?_ ⟨λa o n e=>st a o n e,λps' e=>by rw[k]at e;cases e;exact⟨_,G⟩⟩;refine⟨_,G,?_,λpos v e=>?_⟩;have:=TriplesOk_snoc lpos.line lpos.col (.ref g) w.toList N;simpa using this;have r:codeAmong pos (w.toList++[rawInt lpos.line,rawInt lpos.col,.ref g])=Φ v:=by simpa using e
  rcases zfj N r with z|z;obtain⟨d,od,ws,u,a1,T,a3⟩:=h3 pos v z;exact⟨d,od,ws,u,a1,st _ _ (λy=>by rw[y,k]at T;cases T) T,a3⟩;exact⟨g,x,vs,t,z,atC,hd,hv⟩
end
def oneK(k:VK)(vs:List V)(H:Hp):Prop:=match vs with | [w]=>k w H|_=>False
theorem zhH(h:oneK k vs H):∃w,vs=[w]/\k w H:=by unfold oneK at h;split at h;exact⟨_,rfl,h⟩;exact h.elim
def tLam(q:Str)(a:Arguments)(b:Expr)(scope:Scope):TE:=λd H Q=>TB H/\∀f c,LamAt c f "<lambda>" q a b scope->Ext [] H [] c->Q (.ref f) c
section
variable{X:Cx}{o:Expr}{p apos cpos kpos lpos pos:Pos}{td:TE}{c P:Addr}{params:Arguments}{body:Expr}{scope:Scope}
theorem zqW(mk:Maker X c P)(hdef:defaultsOf params X.env=([],[]))(hcl:closureFor scope X.env=pure []):PE X (.Lambda params body scope lpos) (tLam (X.env.qual ++ "<lambda>") params body scope):=by intro pins s σ H Q I h;obtain⟨ps,hP,_⟩:=id (h.1 _ mk.mem);refine zmf I mk.bm mk.code mk.hd (h.1 _ mk.mem) hdef hcl λf H' s' J L T S=>⟨.ref f,H',J,rfl,h.2 f H' L (S.ext hP λp hp=>?_)⟩;by_cases z:p.1=P;rw[mk.one p hp z,z];exact T;obtain⟨qs,hq,_⟩:=id (h.1 p hp);exact(h.1 p hp).up ((S.rest _ _ z hq).trans hq.symm) λb o u e=>S.rest b _ (λy=>by rw[y]at e;rw[hP]at e;cases e) e
end
end R
namespace R
namespace Sr
open PySem PyProof.Rows
noncomputable def za1:Bool->Keyed->Array Keyed->Nat->Nat->Nat->StateT SortSt Sem (Option Nat):=sortPriv% PySem.Builtin.gallop
noncomputable def zdk:Array Keyed->Array Keyed->StateT SortSt Sem (Array Keyed):=sortPriv% PySem.Builtin.mergeLo
noncomputable def zdl:Array Keyed->Array Keyed->StateT SortSt Sem (Array Keyed):=sortPriv% PySem.Builtin.mergeHi
noncomputable abbrev setG(st:SortSt)(g:Nat):SortSt:=SortSt.mk' (kindOf st) (arrOf st) (pendingOf st) g (failedOf st)
noncomputable def zew(left:Bool)(key:Keyed)(a:Array Keyed)(base i:Nat):StateT SortSt Sem (Option Bool):=do
 let x <-elem' a (base+i)
 if left then lt' x key else return (<-lt' key x).map (!·)
theorem ziN(left:Bool)(key:Keyed)(arr:Array Keyed)(base n hint:Nat):za1 left key arr base n hint=(do
 let mut lastofs:=0;let mut ofs:=1;let mut lo:=0;let mut hi:=0
 let Φ right <-zew left key arr base hint|return Ψ
 if right then
  let maxofs:=n-hint
  for _ in [0:n] do
   if ofs≥maxofs then break
   let Φ more <-zew left key arr base (hint+ofs)|return Ψ
   if !more then break
   lastofs:=ofs
   ofs:=2*ofs+1
  lo:=hint+lastofs+1
  hi:=hint+min ofs maxofs
 else
  let maxofs:=hint+1
  for _ in [0:n] do
   if ofs≥maxofs then break
   let Φ found <-zew left key arr base (hint-ofs)|return Ψ
   if found then break
   lastofs:=ofs
   ofs:=2*ofs+1
  lo:=hint+1-min ofs maxofs
  hi:=hint-lastofs
 for _ in [0:n] do
  if lo≥hi then break
  let m:=lo+(hi-lo)/2
  let Φ more <-zew left key arr base m|return Ψ
  if more then lo:=m+1 else hi:=m
 return Φ hi):=rfl
theorem zgN(a b:Array Keyed):zdk a b=(do
 rule "list.sort.merge-lo"
 let mut out:Array Keyed:=#[<-elem' b 0];let mut ia:=0;let mut ib:=1
 if ib==b.size then return out++a.extract ia a.size++b.extract ib b.size
 if ia+1==a.size then return out++b.extract ib b.size++a.extract ia a.size
 let mut minGallop:=gallopOf (<-get)
 for _ in [0:a.size+b.size] do
  let mut acount:=0;let mut bcount:=0
  for _ in [0:a.size+b.size] do
   let Φ bWins <-lt' (<-elem' b ib) (<-elem' a ia)|return out++a.extract ia a.size++b.extract ib b.size
   if bWins then
    out:=out.push (<-elem' b ib);ib:=ib+1;bcount:=bcount+1;acount:=0
    if ib==b.size then return out++a.extract ia a.size++b.extract ib b.size
    if bcount≥minGallop then break
   else
    out:=out.push (<-elem' a ia);ia:=ia+1;acount:=acount+1;bcount:=0
    if ia+1==a.size then return out++b.extract ib b.size++a.extract ia a.size
    if acount≥minGallop then break
  rule "list.sort.gallop"
  minGallop:=minGallop+1
  for _ in [0:a.size+b.size] do
   if minGallop>1 then minGallop:=minGallop-1
   modify (setG · minGallop)
   let Φ k <-za1 Δ (<-elem' b ib) a ia (a.size-ia) 0|return out++a.extract ia a.size++b.extract ib b.size
   acount:=k
   if k>0 then
    out:=out++a.extract ia (ia+k);ia:=ia+k
    if ia+1==a.size then return out++b.extract ib b.size++a.extract ia a.size
    if ia==a.size then return out++a.extract ia a.size++b.extract ib b.size
   out:=out.push (<-elem' b ib);ib:=ib+1
   if ib==b.size then return out++a.extract ia a.size++b.extract ib b.size
   let Φ k <-za1 Γ (<-elem' a ia) b ib (b.size-ib) 0|return out++a.extract ia a.size++b.extract ib b.size
   bcount:=k
   if k>0 then
    out:=out++b.extract ib (ib+k);ib:=ib+k
    if ib==b.size then return out++a.extract ia a.size++b.extract ib b.size
   out:=out.push (<-elem' a ia);ia:=ia+1
   if ia+1==a.size then return out++b.extract ib b.size++a.extract ia a.size
   if acount<7&&bcount<7 then break
  minGallop:=minGallop+1
  modify (setG · minGallop)
 unsupported "internal:list.sort.merge-bound"):=rfl
theorem zgO(a b:Array Keyed):zdl a b=(do
 rule "list.sort.merge-hi"
 let mut na:=a.size-1;let mut nb:=b.size;let mut out:Array Keyed:=#[<-elem' a na]
 if na==0 then return a.extract 0 na++b.extract 0 nb++out.reverse
 if nb==1 then return b.extract 0 nb++a.extract 0 na++out.reverse
 let mut minGallop:=gallopOf (<-get)
 for _ in [0:a.size+b.size] do
  let mut acount:=0;let mut bcount:=0
  for _ in [0:a.size+b.size] do
   let Φ aWins <-lt' (<-elem' b (nb-1)) (<-elem' a (na-1))|return a.extract 0 na++b.extract 0 nb++out.reverse
   if aWins then
    na:=na-1;out:=out.push (<-elem' a na);acount:=acount+1;bcount:=0
    if na==0 then return a.extract 0 na++b.extract 0 nb++out.reverse
    if acount≥minGallop then break
   else
    nb:=nb-1;out:=out.push (<-elem' b nb);bcount:=bcount+1;acount:=0
    if nb==1 then return b.extract 0 nb++a.extract 0 na++out.reverse
    if bcount≥minGallop then break
  rule "list.sort.gallop"
  minGallop:=minGallop+1
  for _ in [0:a.size+b.size] do
   if minGallop>1 then minGallop:=minGallop-1
   modify (setG · minGallop)
   let Φ at_ <-za1 Δ (<-elem' b (nb-1)) a 0 na (na-1)|return a.extract 0 na++b.extract 0 nb++out.reverse
   let k:=na-at_
   acount:=k
   if k>0 then
    out:=out++(a.extract at_ na).reverse;na:=at_
    if na==0 then return a.extract 0 na++b.extract 0 nb++out.reverse
   nb:=nb-1;out:=out.push (<-elem' b nb)
   if nb==1 then return b.extract 0 nb++a.extract 0 na++out.reverse
   let Φ at_ <-za1 Γ (<-elem' a (na-1)) b 0 nb (nb-1)|return a.extract 0 na++b.extract 0 nb++out.reverse
   let k:=nb-at_
   bcount:=k
   if k>0 then
    out:=out++(b.extract at_ nb).reverse;nb:=at_
    if nb==1 then return b.extract 0 nb++a.extract 0 na++out.reverse
    if nb==0 then return a.extract 0 na++b.extract 0 nb++out.reverse
   na:=na-1;out:=out.push (<-elem' a na)
   if na==0 then return a.extract 0 na++b.extract 0 nb++out.reverse
   if acount<7&&bcount<7 then break
  minGallop:=minGallop+1
  modify (setG · minGallop)
 unsupported "internal:list.sort.merge-bound"):=rfl
theorem zgP(i:Nat):mergeAt' i=(do
 let s <-get
 let (Φ (sa,na,power),Φ (sb,nb,_)):=((pendingOf s)[i]?,(pendingOf s)[i+1]?)|unsupported "internal:list.sort.pending"
 set (setPending s (((pendingOf s).setIfInBounds i (sa,na+nb,power)).eraseIdxIfInBounds (i+1)))
 let Φ k <-za1 Δ (<-elem' (arrOf s) sb) (arrOf s) sa na 0|return Δ
 let (sa,na):=(sa+k,na-k)
 if na==0 then return Γ
 let Φ nb <-za1 Γ (<-elem' (arrOf s) (sa+na-1)) (arrOf s) sb nb (nb-1)|return Δ
 if nb==0 then return Γ
 let x:=(arrOf s).extract sa sb;let y:=(arrOf s).extract sb (sb+nb);let merged <-if na<=nb then zdk x y else zdl x y
 modify λs=>setArr s (merged.toList.zipIdx.foldl (λa (p,j)=>a.setIfInBounds (sa+j) p) (arrOf s))
 return (failedOf (<-get)).isNone):=rfl
section
variable{prog:Υ}{w:ύ}{A:ϑ}{E:Θ->Ζ->Prop}{s:Ζ}{κ:SortKind}{rk:Keyed->Int}{T:List Keyed}
noncomputable def Looks(prog:Υ)(w:ύ)(A:ϑ)(s:Ζ)(κ:SortKind)(rk:Keyed->Int)(T:List Keyed):Prop:=∀x y (C:Bool->Ζ->Prop),x∈T->y∈T->C (decide (rk x<rk y)) s->wpAny (model prog w) A (keyLt' κ x.1 y.1) C (λ_ _=>False) s
theorem zj0(c:Looks prog w A s κ rk T){x y:Keyed}{st:SortSt}{Q:Option Bool->SortSt->Prop}(d:x∈T)(e:y∈T)(f:kindOf st=κ)(h:Q (Φ (decide (rk x<rk y))) st):wpS (model prog w) A E s (lt' x y) Q st:=by rw[lt'_eq];refine Η (wpS_get ?_);rw[f];refine Η (wpS_lift (wpAny_attempt (ϕ (c x y (λb a=>a=s/\b=decide (rk x<rk y)) d e ⟨rfl,rfl⟩) ?_ λ_ _ z=>z.elim)));rintro b a ⟨rfl,rfl⟩;exact⟨rfl,Κ h⟩
theorem zas{a:Array Keyed}{i:Nat}{st:SortSt}{Q:Keyed->SortSt->Prop}(b:i<a.size)(h:Q a[i] st):wpS (model prog w) A E s (elem' a i) Q st:=by rw[elem'_eq,getElem?_pos a i b];exact Κ h
structure Cut(b:Nat->Bool)(n k:Nat):Prop where
 le:k<=n
 yes:∀i,i<k->b i=Γ
 no:∀i,k<=i->i<n->b i=Δ
theorem znp{bey:Nat->StateT SortSt Sem (Option Bool)}{b:Nat->Bool}{n:Nat}{st:SortSt}{Q:Option Nat->SortSt->Prop}(ask:∀i {Q:Option Bool->SortSt->Prop},i<n->Q (Φ (b i)) st->wpS (model prog w) A E s (bey i) Q st){lo hi:Nat}(h1:lo<=hi)(h2:hi<=n)
  (mono:∀i j,i<=j->j<n->b j=Γ->b i=Γ) (h3:∀i,i<lo->b i=Γ) (h4:∀i,hi<=i->i<n->b i=Δ) (h:∀k,Cut b n k->Q (Φ k) st) :
  wpS (model prog w) A E s (do
   let mut lo:=lo;let mut hi:=hi
   for _ in [0:n] do
    if lo≥hi then break
    let m:=lo+(hi-lo)/2
    let Φ more <-bey m|return Ψ
    if more then lo:=m+1 else hi:=m
   return Φ hi) Q st:=by
 dsimp only;refine Η (Ϟ (ϙ (I:=λx c st'=>st'=st/\∃lo hi,c=(Ψ,lo,hi)/\lo<=hi/\hi<=n/\hi-lo<=n-x/\(∀i,i<lo->b i=Γ)/\(∀i,hi<=i->i<n->b i=Δ))
  (Q:=λc st'=>st'=st/\∃lo k,c=(Ψ,lo,k)/\Cut b n k) ?_ ?_ ⟨rfl,lo,hi,rfl,h1,h2,by lia,h3,h4⟩) ?_)
 rintro x c st' _ hx ⟨rfl,lo,hi,rfl,a1,a2,a3,a4,a5⟩;dsimp only;by_cases z:lo≥hi;rw[if_pos z];exact Κ ⟨rfl,lo,hi,rfl,a2,λi hi=>a4 i (by lia),a5⟩;rw[if_neg z];refine Η (ask _ (by lia) ?_);dsimp only;cases eb:b (lo+(hi-lo)/2) with|true=>exact Κ ⟨rfl,_,_,rfl,by lia,a2,by lia,λi hi=>mono i _ (Nat.le_of_lt_succ hi) (by lia) eb,a5⟩| false=>refine Κ ⟨rfl,_,_,rfl,by lia,by lia,by lia,a4,λi h1 h2=>?_⟩;cases e:b i with|false=>rfl|true=>rw[mono _ i h1 h2 e]at eb;cases eb
 rintro c st' ⟨rfl,lo,hi,rfl,a1,a2,a3,a4,a5⟩;exact⟨rfl,lo,hi,rfl,a2,λi hi=>a4 i (by lia),a5⟩;rintro c st' ⟨rfl,lo,k,rfl,ck⟩;exact Κ (h k ck)
theorem zbn{left:Bool}{key:Keyed}{arr:Array Keyed}{base n hint:Nat}{st:SortSt}{Q:Option Nat->SortSt->Prop}(b:Nat->Bool)(hc:Looks prog w A s κ rk T)(hk:kindOf st=κ)(hkey:key∈T)(hT:∀i (h:i<arr.size),arr[i]∈T)(hn:base+n<=arr.size)(hh:hint<n)
  (hb:∀i (h:base+i<arr.size),i<n->b i=if left then decide (rk arr[base+i]<rk key) else !decide (rk key<rk arr[base+i]))
  (mono:∀i j,i<=j->j<n->b j=Γ->b i=Γ) (h:∀k,Cut b n k->Q (Φ k) st):wpS (model prog w) A E s (za1 left key arr base n hint) Q st:=by
 have ask:∀i {Q:Option Bool->SortSt->Prop},i<n->Q (Φ (b i)) st->wpS (model prog w) A E s (zew left key arr base i) Q st:=λi Q hi q=>by refine Η (zas (show base+i<arr.size by lia) ?_);rw[hb i (by lia) hi]at q;cases left;exact Η (zj0 hc hkey (hT _ _) hk (Κ q));exact zj0 hc (hT _ _) hkey hk q
 have mono':∀i j,i<=j->j<n->b i=Δ->b j=Δ:=λi j h1 h2 e=>by cases z:b j with|false=>rfl|true=>rw[mono i j h1 h2 z]at e;cases e
 rw[ziN];dsimp only;refine Η (ask hint hh ?_);dsimp only;cases eh:b hint with
 |true=>
  rw[if_pos rfl];refine Η (Ϟ (ϙ (I:=λx c st'=>st'=st/\∃l o,c=(Ψ,l,o)/\l<o/\l<n-hint/\x<o/\b (hint+l)=Γ)
   (Q:=λc st'=>st'=st/\∃l o,c=(Ψ,l,o)/\l<o/\l<n-hint/\b (hint+l)=Γ/\(o<n-hint->b (hint+o)=Δ)) ?_ ?_ ⟨rfl,0,1,rfl,by lia,by lia,by lia,eh⟩) ?_)
  rintro x c st' _ hx ⟨rfl,l,o,rfl,a1,a2,a3,a4⟩;dsimp only;by_cases z:o≥n-hint;rw[if_pos z];exact Κ ⟨rfl,l,o,rfl,a1,a2,a4,λ_=>by lia⟩;rw[if_neg z];refine Η (ask _ (by lia) ?_);dsimp only;cases eb:b (hint+o) with|false=>exact Κ ⟨rfl,l,o,rfl,a1,a2,a4,λ_=>eb⟩|true=>exact Κ ⟨rfl,o,_,rfl,by lia,by lia,by lia,eb⟩
  rintro c st' ⟨rfl,l,o,rfl,a1,a2,a3,a4⟩;exact⟨rfl,l,o,rfl,a1,a2,a4,λ_=>by lia⟩;rintro c st' ⟨rfl,l,o,rfl,a1,a2,a3,a4⟩;dsimp only;exact znp ask (by lia) (by lia) mono (λi hi=>mono i (hint+l) (by lia) (by lia) a3) (λi h1 h2=>by by_cases z:o<n-hint;exact mono' _ i (by lia) h2 (a4 z);lia) h
 |false=>
  rw[if_neg Ε];refine Η (Ϟ (ϙ (I:=λx c st'=>st'=st/\∃l o,c=(Ψ,l,o)/\l<o/\l<hint+1/\x<o/\b (hint-l)=Δ)
   (Q:=λc st'=>st'=st/\∃l o,c=(Ψ,l,o)/\l<o/\l<hint+1/\b (hint-l)=Δ/\(o<hint+1->b (hint-o)=Γ)) ?_ ?_ ⟨rfl,0,1,rfl,by lia,by lia,by lia,eh⟩) ?_)
  rintro x c st' _ hx ⟨rfl,l,o,rfl,a1,a2,a3,a4⟩;dsimp only;by_cases z:o≥hint+1;rw[if_pos z];exact Κ ⟨rfl,l,o,rfl,a1,a2,a4,λ_=>by lia⟩;rw[if_neg z];refine Η (ask _ (by lia) ?_);dsimp only;cases eb:b (hint-o) with|true=>exact Κ ⟨rfl,l,o,rfl,a1,a2,a4,λ_=>eb⟩|false=>exact Κ ⟨rfl,o,_,rfl,by lia,by lia,by lia,eb⟩
  rintro c st' ⟨rfl,l,o,rfl,a1,a2,a3,a4⟩;exact⟨rfl,l,o,rfl,a1,a2,a4,λ_=>by lia⟩;rintro c st' ⟨rfl,l,o,rfl,a1,a2,a3,a4⟩;dsimp only;exact znp ask (by lia) (by lia) mono (λi hi=>by by_cases z:o<hint+1;exact mono i _ (by lia) (by lia) (a4 z);lia) (λi h1 h2=>mono' _ i h1 h2 a3) h
end
section
variable{rk:Keyed->Int}{T out xs ys us:List Keyed}
noncomputable def Le(rk:Keyed->Int)(x y:Keyed):Prop:=rk x<=rk y
structure MI(rk:Keyed->Int)(T out xs ys:List Keyed):Prop where
 perm:(out++(xs++ys)).Perm T
 so:out.Pairwise (Le rk)
 sx:xs.Pairwise (Le rk)
 sy:ys.Pairwise (Le rk)
 lo:∀x∈out,∀y,y∈xs\/y∈ys->rk x<=rk y
theorem MI.swap(h:MI rk T out xs ys):MI rk T out ys xs:=⟨(List.Perm.append_left _ List.perm_append_comm).trans h.perm,h.so,h.sy,h.sx,λx hx y hy=>h.lo x hx y hy.symm⟩
theorem MI.push(h:MI rk T out (us++xs) ys)(hu:∀u∈us,∀y∈ys,rk u<=rk y):MI rk T (out++us) xs ys:=by have q:=List.pairwise_append.mp h.sx;refine⟨?_,List.pairwise_append.mpr ⟨h.so,q.1,λx hx y hy=>h.lo x hx y (.inl (mem_append_left _ hy))⟩,q.2.1,h.sy,λx hx y hy=>?_⟩;have:=h.perm;simpa only [append_assoc]using this;rcases mem_append.mp hx with z|z;exact h.lo x z y (hy.imp (mem_append_right _) id);rcases hy with hy|hy;exact q.2.2 x z y hy;exact hu x z y hy
noncomputable def InOrd(rk:Keyed->Int)(T l:List Keyed):Prop:=l.Perm T/\l.Pairwise (Le rk)
theorem MI.fin(h:MI rk T out xs []):InOrd rk T (out++xs):=⟨by simpa using h.perm,List.pairwise_append.mpr ⟨h.so,h.sx,λx hx y hy=>h.lo x hx y (.inl hy)⟩⟩
theorem MI.last(h:MI rk T out xs ys)(hu:∀u∈ys,∀y∈xs,rk u<=rk y):InOrd rk T (out++ys++xs):=by have:=MI.push (us:=ys) (xs:=[]) (by rw[append_nil];exact h.swap) hu;exact this.swap.fin
theorem zpa{l:List Keyed}{i:Nat}(a:i<l.length):l.drop i=l[i]::l.drop (i+1):=List.drop_eq_getElem_cons a
theorem zkt{l:List Keyed}(hs:l.Pairwise (Le rk)){i j:Nat}(hj:j<l.length)(hi:i<=j):rk l[i]<=rk l[j]:=by by_cases e:i=j;subst e;exact Int.le_refl _;exact List.pairwise_iff_getElem.mp hs i j _ _ (by lia)
theorem zb3{l:List Keyed}{i:Nat}{y:Keyed}(h:y∈l.drop i):∃j,∃hj:j<l.length,i<=j/\y=l[j]:=by obtain⟨k,hk,e⟩:=List.mem_iff_getElem.mp h;rw[List.getElem_drop]at e;rw[List.length_drop]at hk;exact⟨i+k,by lia,by lia,e.symm⟩
theorem zjY{l:List Keyed}{i k:Nat}{y:Keyed}(h:y∈(l.drop i).take k):∃j,∃a:i+j<l.length,j<k/\y=l[i+j]:=by obtain⟨j,a,e⟩:=List.mem_iff_getElem.mp h;rw[List.getElem_take,List.getElem_drop]at e;rw[ϣ,List.length_drop]at a;exact⟨j,by omega,by omega,e.symm⟩
theorem zln(l:List Keyed)(i k:Nat):l.drop i=(l.drop i).take k++l.drop (i+k):=by rw[<-List.drop_drop,List.take_append_drop]
theorem zkF(a:Array Keyed)(i k:Nat):(a.extract i (i+k)).toList=(a.toList.drop i).take k:=by rw[Array.toList_extract,List.extract_eq_take_drop];congr 1;lia
theorem zdq(a:Array Keyed)(i:Nat):(a.extract i a.size).toList=a.toList.drop i:=by rw[Array.toList_extract,List.extract_eq_take_drop,List.take_of_length_le (by simp)]
end
noncomputable abbrev Rt(a:Type):=ForInStep (Option (Array Keyed)×a)
noncomputable def mgO{β γ δ:Type}(t:Nat)(f1:γ->β)(f2:γ->β->γ)(f3:γ->β->δ)(f4 f5:δ->γ)(gg:δ->Nat)(L:γ->β->StateT SortSt Sem (Rt β))(G:δ->StateT SortSt Sem (Rt δ))(c:Option (Array Keyed)×γ):StateT SortSt Sem (Rt γ):=do
 let d <-forIn [0:t] ((Ψ,f1 c.2):Option (Array Keyed)×β) λ_ d=>L c.2 d.2
 match d.1 with
 |some r=>pure (.done (Φ r,f2 c.2 d.2))
 | none=>do
   rule "list.sort.gallop"
   let e <-forIn [0:t] ((Ψ,f3 c.2 d.2):Option (Array Keyed)×δ) λ_ e=>G e.2
   match e.1 with
   |some r=>pure (.done (Φ r,f4 e.2))
   | none=>do
     modify (setG · (gg e.2))
     pure (.yield (Ψ,f5 e.2))
noncomputable def mg{β γ δ:Type}(t:Nat)(f0:Nat->γ)(f1:γ->β)(f2:γ->β->γ)(f3:γ->β->δ)(f4 f5:δ->γ)(gg:δ->Nat)(L:γ->β->StateT SortSt Sem (Rt β))(G:δ->StateT SortSt Sem (Rt δ)):StateT SortSt Sem (Array Keyed):=do
 let g:=gallopOf (<-get);let c <-forIn [0:t] ((Ψ,f0 g):Option (Array Keyed)×γ) λ_ c=>mgO t f1 f2 f3 f4 f5 gg L G c
 match c.1 with|some r=>pure r|none=>unsupported "internal:list.sort.merge-bound"
noncomputable def loC(a b out:Array Keyed)(ia ib g k l:Nat):StateT SortSt Sem (Rt (Array Keyed×Nat×Nat×Nat×Nat×Nat)):=do
 let y <-elem' a ia
 if ia+1+1==a.size then pure (.done (Φ (out.push y++b.extract ib b.size++a.extract (ia+1) a.size),out.push y,ia+1,ib,g,k,l))
 else if k<7&&l<7 then pure (.done (Ψ,out.push y,ia+1,ib,g,k,l)) else pure (.yield (Ψ,out.push y,ia+1,ib,g,k,l))
noncomputable def loB(a b out:Array Keyed)(ia ib g k l:Nat):StateT SortSt Sem (Rt (Array Keyed×Nat×Nat×Nat×Nat×Nat)):=do
 let y <-elem' b ib
 if ib+1==b.size then pure (.done (Φ (out.push y++a.extract ia a.size++b.extract (ib+1) b.size),out.push y,ia,ib+1,g,k,l))
 else do
  match <-za1 Γ (<-elem' a ia) b (ib+1) (b.size-(ib+1)) 0 with
  |some m=>
   if m>0 then
    if ib+1+m==b.size then pure (.done (Φ (out.push y++b.extract (ib+1) (ib+1+m)++a.extract ia a.size++b.extract (ib+1+m) b.size),out.push y++b.extract (ib+1) (ib+1+m),ia,ib+1+m,g,k,m))
    else loC a b (out.push y++b.extract (ib+1) (ib+1+m)) ia (ib+1+m) g k m
   else loC a b (out.push y) ia (ib+1) g k m
  |_=>pure (.done (Φ (out.push y++a.extract ia a.size++b.extract (ib+1) b.size),out.push y,ia,ib+1,g,k,l))
noncomputable def loA(a b out:Array Keyed)(ia ib g k l:Nat):StateT SortSt Sem (Rt (Array Keyed×Nat×Nat×Nat×Nat×Nat)):=do
 modify (setG · g)
 match <-za1 Δ (<-elem' b ib) a ia (a.size-ia) 0 with
 |some m=>
  if m>0 then
   if ia+m+1==a.size then pure (.done (Φ (out++a.extract ia (ia+m)++b.extract ib b.size++a.extract (ia+m) a.size),out++a.extract ia (ia+m),ia+m,ib,g,m,l))
   else if ia+m==a.size then pure (.done (Φ (out++a.extract ia (ia+m)++a.extract (ia+m) a.size++b.extract ib b.size),out++a.extract ia (ia+m),ia+m,ib,g,m,l))
   else loB a b (out++a.extract ia (ia+m)) (ia+m) ib g m l
  else loB a b out ia ib g m l
 |_=>pure (.done (Φ (out++a.extract ia a.size++b.extract ib b.size),out,ia,ib,g,k,l))
noncomputable def loL(a b:Array Keyed)(g:Nat)(out:Array Keyed)(i j k l:Nat):StateT SortSt Sem (Rt (Array Keyed×Nat×Nat×Nat×Nat)):=do
 match <-lt' (<-elem' b j) (<-elem' a i) with
 |some z=>
  if z then
   let y <-elem' b j
   if j+1==b.size then pure (.done (Φ (out.push y++a.extract i a.size++b.extract (j+1) b.size),out.push y,i,j+1,0,l+1))
   else if l+1≥g then pure (.done (Ψ,out.push y,i,j+1,0,l+1)) else pure (.yield (Ψ,out.push y,i,j+1,0,l+1))
  else
   let y <-elem' a i
   if i+1+1==a.size then pure (.done (Φ (out.push y++b.extract j b.size++a.extract (i+1) a.size),out.push y,i+1,j,k+1,0))
   else if k+1≥g then pure (.done (Ψ,out.push y,i+1,j,k+1,0)) else pure (.yield (Ψ,out.push y,i+1,j,k+1,0))
 |_=>pure (.done (Φ (out++a.extract i a.size++b.extract j b.size),out,i,j,k,l))
noncomputable def loM(a b out:Array Keyed)(i j:Nat):StateT SortSt Sem (Array Keyed):=
 mg (a.size+b.size) (λg=>(out,i,j,g)) (λc=>(c.1,c.2.1,c.2.2.1,0,0)) (λc d=>(d.1,d.2.1,d.2.2.1,c.2.2.2)) (λc d=>(d.1,d.2.1,d.2.2.1,c.2.2.2+1,d.2.2.2.1,d.2.2.2.2))
  (λe=>(e.1,e.2.1,e.2.2.1,e.2.2.2.1)) (λe=>(e.1,e.2.1,e.2.2.1,e.2.2.2.1+1)) (λe=>e.2.2.2.1+1) (λc d=>loL a b c.2.2.2 d.1 d.2.1 d.2.2.1 d.2.2.2.1 d.2.2.2.2)
  λe=>if e.2.2.2.1>1 then loA a b e.1 e.2.1 e.2.2.1 (e.2.2.2.1-1) e.2.2.2.2.1 e.2.2.2.2.2 else loA a b e.1 e.2.1 e.2.2.1 e.2.2.2.1 e.2.2.2.2.1 e.2.2.2.2.2
theorem ziA(a b:Array Keyed):zdk a b=(do
 rule "list.sort.merge-lo"
 let y <-elem' b 0
 if 1==b.size then return #[y]++a.extract 0 a.size++b.extract 1 b.size
 if 0+1==a.size then return #[y]++b.extract 1 b.size++a.extract 0 a.size
 loM a b #[y] 0 1):=by
 rw[zgN];dsimp only;refine congrArg (bind _) (funext λ_=>congrArg (bind _) (funext λy=>?_));refine ite_congr rfl (λ_=>rfl) λ_=>ite_congr rfl (λ_=>rfl) λ_=>?_;refine congrArg (bind _) (funext λg=>?_);congr 1;congr 1;funext x c;congr 1;funext d;cases d.1 with|some r=>rfl| none=>refine congrArg (bind _) (funext λ_=>?_);congr 1;funext e;cases e.1<;>rfl
 . funext c;cases c.1<;>rfl
noncomputable def hiC(a b out:Array Keyed)(na nb g k l:Nat):StateT SortSt Sem (Rt (Nat×Nat×Array Keyed×Nat×Nat×Nat)):=do
 let y <-elem' a (na-1)
 if na-1==0 then pure (.done (Φ (a.extract 0 (na-1)++b.extract 0 nb++(out.push y).reverse),na-1,nb,out.push y,g,k,l))
 else if k<7&&l<7 then pure (.done (Ψ,na-1,nb,out.push y,g,k,l)) else pure (.yield (Ψ,na-1,nb,out.push y,g,k,l))
noncomputable def hiB(a b out:Array Keyed)(na nb g k l:Nat):StateT SortSt Sem (Rt (Nat×Nat×Array Keyed×Nat×Nat×Nat)):=do
 let y <-elem' b (nb-1)
 if nb-1==1 then pure (.done (Φ (b.extract 0 (nb-1)++a.extract 0 na++(out.push y).reverse),na,nb-1,out.push y,g,k,l))
 else do
  match <-za1 Γ (<-elem' a (na-1)) b 0 (nb-1) (nb-1-1) with
  |some m=>
   if nb-1-m>0 then
    if m==1 then pure (.done (Φ (b.extract 0 m++a.extract 0 na++(out.push y++(b.extract m (nb-1)).reverse).reverse),na,m,out.push y++(b.extract m (nb-1)).reverse,g,k,nb-1-m))
    else if m==0 then pure (.done (Φ (a.extract 0 na++b.extract 0 m++(out.push y++(b.extract m (nb-1)).reverse).reverse),na,m,out.push y++(b.extract m (nb-1)).reverse,g,k,nb-1-m))
    else hiC a b (out.push y++(b.extract m (nb-1)).reverse) na m g k (nb-1-m)
   else hiC a b (out.push y) na (nb-1) g k (nb-1-m)
  |_=>pure (.done (Φ (a.extract 0 na++b.extract 0 (nb-1)++(out.push y).reverse),na,nb-1,out.push y,g,k,l))
noncomputable def hiA(a b out:Array Keyed)(na nb g k l:Nat):StateT SortSt Sem (Rt (Nat×Nat×Array Keyed×Nat×Nat×Nat)):=do
 modify (setG · g)
 match <-za1 Δ (<-elem' b (nb-1)) a 0 na (na-1) with
 |some m=>
  if na-m>0 then
   if m==0 then pure (.done (Φ (a.extract 0 m++b.extract 0 nb++(out++(a.extract m na).reverse).reverse),m,nb,out++(a.extract m na).reverse,g,na-m,l))
   else hiB a b (out++(a.extract m na).reverse) m nb g (na-m) l
  else hiB a b out na nb g (na-m) l
 |_=>pure (.done (Φ (a.extract 0 na++b.extract 0 nb++out.reverse),na,nb,out,g,k,l))
noncomputable def hiL(a b:Array Keyed)(g:Nat)(out:Array Keyed)(i j k l:Nat):StateT SortSt Sem (Rt (Nat×Nat×Array Keyed×Nat×Nat)):=do
 match <-lt' (<-elem' b (j-1)) (<-elem' a (i-1)) with
 |some z=>
  if z then
   let y <-elem' a (i-1)
   if i-1==0 then pure (.done (Φ (a.extract 0 (i-1)++b.extract 0 j++(out.push y).reverse),i-1,j,out.push y,k+1,0))
   else if k+1≥g then pure (.done (Ψ,i-1,j,out.push y,k+1,0)) else pure (.yield (Ψ,i-1,j,out.push y,k+1,0))
  else
   let y <-elem' b (j-1)
   if j-1==1 then pure (.done (Φ (b.extract 0 (j-1)++a.extract 0 i++(out.push y).reverse),i,j-1,out.push y,0,l+1))
   else if l+1≥g then pure (.done (Ψ,i,j-1,out.push y,0,l+1)) else pure (.yield (Ψ,i,j-1,out.push y,0,l+1))
 |_=>pure (.done (Φ (a.extract 0 i++b.extract 0 j++out.reverse),i,j,out,k,l))
noncomputable def hiM(a b out:Array Keyed)(i j:Nat):StateT SortSt Sem (Array Keyed):=
 mg (a.size+b.size) (λg=>(i,j,out,g)) (λc=>(c.1,c.2.1,c.2.2.1,0,0)) (λc d=>(d.1,d.2.1,d.2.2.1,c.2.2.2)) (λc d=>(d.1,d.2.1,d.2.2.1,c.2.2.2+1,d.2.2.2.1,d.2.2.2.2))
  (λe=>(e.1,e.2.1,e.2.2.1,e.2.2.2.1)) (λe=>(e.1,e.2.1,e.2.2.1,e.2.2.2.1+1)) (λe=>e.2.2.2.1+1) (λc d=>hiL a b c.2.2.2 d.2.2.1 d.1 d.2.1 d.2.2.2.1 d.2.2.2.2)
  λe=>if e.2.2.2.1>1 then hiA a b e.2.2.1 e.1 e.2.1 (e.2.2.2.1-1) e.2.2.2.2.1 e.2.2.2.2.2 else hiA a b e.2.2.1 e.1 e.2.1 e.2.2.2.1 e.2.2.2.2.1 e.2.2.2.2.2
theorem ziC(a b:Array Keyed):zdl a b=(do
 rule "list.sort.merge-hi"
 let y <-elem' a (a.size-1)
 if a.size-1==0 then return a.extract 0 (a.size-1)++b.extract 0 b.size ++ #[y].reverse
 if b.size==1 then return b.extract 0 b.size++a.extract 0 (a.size-1) ++ #[y].reverse
 hiM a b #[y] (a.size-1) b.size):=by
 rw[zgO];dsimp only;refine congrArg (bind _) (funext λ_=>congrArg (bind _) (funext λy=>?_));refine ite_congr rfl (λ_=>rfl) λ_=>ite_congr rfl (λ_=>rfl) λ_=>?_;refine congrArg (bind _) (funext λg=>?_);congr 1;congr 1;funext x c;congr 1;funext d;cases d.1 with|some r=>rfl| none=>refine congrArg (bind _) (funext λ_=>?_);congr 1;funext e;cases e.1<;>rfl
 . funext c;cases c.1<;>rfl
section
variable{prog:Υ}{w:ύ}{A:ϑ}{E:Θ->Ζ->Prop}{s:Ζ}{st₀:SortSt}
noncomputable def SG(st₀ st:SortSt):Prop:=∃g,st=setG st₀ g
noncomputable def Tn{β:Type}(st₀:SortSt)(Go:Array Keyed->Prop)(J:β->Prop)(r:Rt β)(st:SortSt):Prop:=SG st₀ st/\match r with|.done (Φ o,_)=>Go o|.done (Ψ,d)=>J d|.yield (Φ _,_)=>False|.yield (Ψ,d)=>J d
noncomputable def Ln{β:Type}(st₀:SortSt)(Go:Array Keyed->Prop)(J:β->Prop)(r:Option (Array Keyed)×β)(st:SortSt):Prop:=SG st₀ st/\match r with|(Φ o,_)=>Go o|(Ψ,d)=>J d
theorem zj1{β:Type}{t k:Nat}{Go:Array Keyed->Prop}{J:Nat->β->Prop}{L:β->StateT SortSt Sem (Rt β)}{d:β}{st:SortSt}(h1:1<=t)(mono:∀i j d,i<=j->J j d->J i d)
  (hL:∀i d st,SG st₀ st->J i d->wpS (model prog w) A E s (L d) (Tn st₀ Go (J (i+1))) st) (hst:SG st₀ st) (h:J k d) :
  wpS (model prog w) A E s (forIn [0:t] ((Ψ,d):Option (Array Keyed)×β) λ_ d=>L d.2) (Ln st₀ Go (J (k+1))) st:=by
 refine ϙ (I:=λx c st=>SG st₀ st/\∃d,c=(Ψ,d)/\J (k+x) d) ?_ ?_ ⟨hst,d,rfl,h⟩
 . rintro x c st _ hx ⟨q,d,rfl,hd⟩;refine Ϟ (hL _ d st q hd) ?_;rintro r st' ⟨q',h'⟩
   match r,h' with|.done (Φ o,_),h'=>exact⟨q',h'⟩|.done (Ψ,d),h'=>exact⟨q',mono _ _ _ (by lia) h'⟩|.yield (Ψ,d),h'=>exact⟨q',d,rfl,h'⟩
 rintro c st ⟨q,d,rfl,hd⟩;exact⟨q,mono _ _ _ (by lia) hd⟩
theorem SG.set{st:SortSt}(h:SG st₀ st)(g:Nat):SG st₀ (setG st g):=by obtain⟨_,rfl⟩:=h;exact⟨g,rfl⟩
theorem zri{β γ δ:Type}{t:Nat}{f0:Nat->γ}{f1:γ->β}{f2:γ->β->γ}{f3:γ->β->δ}{f4 f5:δ->γ}{gg:δ->Nat}{L:γ->β->StateT SortSt Sem (Rt β)}{G:δ->StateT SortSt Sem (Rt δ)}{Q:Array Keyed->SortSt->Prop}{Go:Array Keyed->Prop}(B:Nat->β->Prop)(C:Nat->γ->Prop)(D:Nat->δ->Prop)
  (b1:∀i j d,i<=j->B j d->B i d) (d1:∀i j d,i<=j->D j d->D i d) (h1:∀k c,C k c->B k (f1 c)) (h3:∀k c d,B k d->D k (f3 c d)) (h5:∀k e,D k e->C k (f5 e)) (ht:∀k c,C k c->k<t)
  (hL:∀c i d st,SG st₀ st->B i d->wpS (model prog w) A E s (L c d) (Tn st₀ Go (B (i+1))) st) (hG:∀i d st,SG st₀ st->D i d->wpS (model prog w) A E s (G d) (Tn st₀ Go (D (i+1))) st)
  (h0:∀g,C 0 (f0 g)) (hQ:∀r st,SG st₀ st->Go r->Q r st):wpS (model prog w) A E s (mg t f0 f1 f2 f3 f4 f5 gg L G) Q st₀:=by
 unfold mg;refine Η (wpS_get ?_);have t1:1<=t:=ht 0 _ (h0 0);refine Η (Ϟ (ϙ (I:=λx c st=>SG st₀ st/\∃d,c=(Ψ,d)/\C x d) (Q:=λc st=>SG st₀ st/\∃o d,c=(Φ o,d)/\Go o) ?_ ?_ ⟨⟨_,rfl⟩,_,rfl,h0 _⟩) ?_);rintro x c st _ hx ⟨q,c,rfl,hc⟩;unfold mgO;refine Η (Ϟ (zj1 (st₀:=st₀) (Go:=Go) (J:=B) (k:=x) t1 b1 (hL c) q (h1 _ _ hc)) ?_);rintro⟨r,d⟩ st' ⟨q',hd⟩;cases r with|some o=>exact Κ ⟨q',o,_,rfl,hd⟩| none=>refine Η (wpS_lift (ϧ ⟨rfl,?_⟩));refine Η (Ϟ (zj1 (st₀:=st₀) (Go:=Go) (J:=D) (k:=x+1) t1 d1 hG q' (h3 _ _ _ hd)) ?_);rintro⟨r,e⟩ st' ⟨q',he⟩;cases r with|some o=>exact Κ ⟨q',o,_,rfl,he⟩|none=>exact Η (ϥ (Κ ⟨q'.set _,_,rfl,h5 _ _ (d1 _ _ _ (le_succ _) he)⟩))
 rintro c st ⟨q,d,rfl,hd⟩;have:=ht _ _ hd;lia;rintro c st ⟨q,o,d,rfl,ho⟩;exact Κ (hQ o st q ho)
end
section
variable{rk:Keyed->Int}{T out ys l:List Keyed}{i k:Nat}
theorem MI.one(h:MI rk T out (l.drop i) ys)(hi:i<l.length)(hu:∀y∈ys,rk l[i]<=rk y):MI rk T (out++[l[i]]) (l.drop (i+1)) ys:=by rw[zpa hi]at h;exact MI.push h λu q=>by rw[mem_singleton.mp q];exact hu
theorem MI.seg(h:MI rk T out (l.drop i) ys)(k:Nat)(hu:∀u∈(l.drop i).take k,∀y∈ys,rk u<=rk y):MI rk T (out++(l.drop i).take k) (l.drop (i+k)) ys:=by rw[zln l i k]at h;exact MI.push h hu
end
section
variable{prog:Υ}{w:ύ}{A:ϑ}{E:Θ->Ζ->Prop}{s:Ζ}{κ:SortKind}{rk:Keyed->Int}{T:List Keyed}{a b out:Array Keyed}{ia ib:Nat}{st₀ st:SortSt}
structure Two(prog:Υ)(w:ύ)(A:ϑ)(s:Ζ)(κ:SortKind)(rk:Keyed->Int)(T:List Keyed)(a b:Array Keyed)(st₀:SortSt):Prop where
 hc:Looks prog w A s κ rk T
 hk:kindOf st₀=κ
 ta:∀i (h:i<a.size),a[i]∈T
 tb:∀i (h:i<b.size),b[i]∈T
 sa:a.toList.Pairwise (Le rk)
 sb:b.toList.Pairwise (Le rk)
 na:0<a.size
 nb:0<b.size
 h1:∀i (h:i<a.size),rk b[0]<rk a[i]
 h2:∀i (h:i<b.size),rk b[i]<rk a[a.size-1]
theorem Two.kind(t:Two prog w A s κ rk T a b st₀)(h:SG st₀ st):kindOf st=κ:=by obtain⟨_,rfl⟩:=h;exact t.hk
theorem Two.la(t:Two prog w A s κ rk T a b st₀){i j:Nat}(hj:j<a.size)(hi:i<=j):rk a[i]<=rk a[j]:=zkt (l:=a.toList) t.sa (by simpa using hj) hi
theorem Two.lb(t:Two prog w A s κ rk T a b st₀){i j:Nat}(hj:j<b.size)(hi:i<=j):rk b[i]<=rk b[j]:=zkt (l:=b.toList) t.sb (by simpa using hj) hi
noncomputable abbrev LoM(rk:Keyed->Int)(a b out:Array Keyed)(ia ib:Nat):Prop:=MI rk (a.toList++b.toList) out.toList (a.toList.drop ia) (b.toList.drop ib)
theorem LoM.done(m:LoM rk a b out ia ib)(e:ib=b.size\/ia=a.size):InOrd rk (a.toList++b.toList) (out++a.extract ia a.size++b.extract ib b.size).toList:=by rw[ώ,ώ,zdq,zdq];rcases e with rfl|rfl;have z:b.toList.drop b.size=[]:=List.drop_eq_nil_of_le (by simp);rw[LoM,z]at m;rw[z,append_nil];exact m.fin;have z:a.toList.drop a.size=[]:=List.drop_eq_nil_of_le (by simp);rw[LoM,z]at m;rw[z,append_nil];exact m.swap.fin
theorem LoM.last(t:Two prog w A s κ rk T a b st₀)(m:LoM rk a b out ia ib)(e:ia+1=a.size):InOrd rk (a.toList++b.toList) (out++b.extract ib b.size++a.extract ia a.size).toList:=by
 rw[ώ,ώ,zdq,zdq];refine MI.last m λu hu y hy=>?_;obtain⟨j,hj,h1,rfl⟩:=zb3 hu;obtain⟨i,hi,h2,rfl⟩:=zb3 hy;have:i=a.size-1:=by simp at hi;omega
 subst this;have:=t.h2 j (by simpa using hj);simp only[ϓ];omega
theorem LoM.pa(t:Two prog w A s κ rk T a b st₀)(m:LoM rk a b out ia ib)(ha:ia<a.size)(h:∀j (hj:j<b.size),ib<=j->rk a[ia]<=rk b[j]):LoM rk a b (out.push a[ia]) (ia+1) ib:=by rw[LoM,Array.toList_push];refine MI.one m (by simpa using ha) λy hy=>?_;obtain⟨j,hj,h1,rfl⟩:=zb3 hy;exact h j (by simpa using hj) h1
theorem LoM.pb(t:Two prog w A s κ rk T a b st₀)(m:LoM rk a b out ia ib)(hb:ib<b.size)(h:∀j (hj:j<a.size),ia<=j->rk b[ib]<=rk a[j]):LoM rk a b (out.push b[ib]) ia (ib+1):=by rw[LoM,Array.toList_push];refine(MI.one m.swap (by simpa using hb) λy hy=>?_).swap;obtain⟨j,hj,h1,rfl⟩:=zb3 hy;exact h j (by simpa using hj) h1
theorem LoM.qa(m:LoM rk a b out ia ib){k:Nat}(h:∀i (hi:ia+i<a.size) j (hj:j<b.size),i<k->ib<=j->rk a[ia+i]<=rk b[j]):LoM rk a b (out++a.extract ia (ia+k)) (ia+k) ib:=by rw[LoM,ώ,zkF];refine MI.seg m k λu hu y hy=>?_;obtain⟨j,hj,h1,rfl⟩:=zb3 hy;obtain⟨i,hi,h2,rfl⟩:=zjY hu;exact h i (by simpa using hi) j (by simpa using hj) h2 h1
theorem LoM.qb(m:LoM rk a b out ia ib){k:Nat}(h:∀i (hi:ib+i<b.size) j (hj:j<a.size),i<k->ia<=j->rk b[ib+i]<=rk a[j]):LoM rk a b (out++b.extract ib (ib+k)) ia (ib+k):=by rw[LoM,ώ,zkF];refine(MI.seg m.swap k λu hu y hy=>?_).swap;obtain⟨j,hj,h1,rfl⟩:=zb3 hy;obtain⟨i,hi,h2,rfl⟩:=zjY hu;exact h i (by simpa using hi) j (by simpa using hj) h2 h1
structure LoI(rk:Keyed->Int)(a b:Array Keyed)(k:Nat)(out:Array Keyed)(ia ib:Nat):Prop where
 m:LoM rk a b out ia ib
 i:ia+1<a.size
 j:ib<b.size
 k:k<ia+ib
theorem zrm{k g x y:Nat}(t:Two prog w A s κ rk T a b st₀)(h:LoI rk a b k out ia ib)(hs:SG st₀ st):wpS (model prog w) A E s (loL a b g out ia ib x y) (Tn st₀ (λr=>InOrd rk (a.toList++b.toList) r.toList) λd=>LoI rk a b (k+1) d.1 d.2.1 d.2.2.1) st:=by
 have hi:=h.i;have hj:=h.j;have hk:=h.k;have ha:ia<a.size:=by lia
 unfold loL;refine Η (zas hj (Η (zas ha (Η (zj0 t.hc (t.tb _ _) (t.ta _ _) (t.kind hs) ?_)))));dsimp only;by_cases c:rk b[ib]<rk a[ia];rw[decide_eq_true c,if_pos rfl];have m:=h.m.pb t hj λj hj h=>by have:=t.la hj h;lia
 refine Η (zas hj ?_);by_cases e:ib+1=b.size;rw[if_pos (by simpa using e)];exact Κ ⟨hs,m.done (.inl e)⟩
 . rw[if_neg (by simpa using e)];have n:LoI rk a b (k+1) _ _ _:=⟨m,hi,by lia,by lia⟩;split<;>exact Κ ⟨hs,n⟩
 rw[decide_eq_false c,if_neg Ε];have m:=h.m.pa t ha λj hj h=>by have:=t.lb hj h;lia
 refine Η (zas ha ?_);by_cases e:ia+1+1=a.size;rw[if_pos (by simpa using e)];exact Κ ⟨hs,m.last t e⟩
 . rw[if_neg (by simpa using e)];have n:LoI rk a b (k+1) _ _ _:=⟨m,by lia,hj,by lia⟩;split<;>exact Κ ⟨hs,n⟩
theorem znb{k g x y:Nat}(t:Two prog w A s κ rk T a b st₀)(h:LoI rk a b k out ia ib)(hc:∀j (hj:j<b.size),ib<=j->rk (a[ia]'(Nat.lt_of_succ_lt h.i))<=rk b[j])(hs:SG st₀ st):wpS (model prog w) A E s (loC a b out ia ib g x y) (Tn st₀ (λr=>InOrd rk (a.toList++b.toList) r.toList) λd=>LoI rk a b (k+1) d.1 d.2.1 d.2.2.1) st:=by
 have hi:=h.i;have hj:=h.j;have hk:=h.k;have ha:ia<a.size:=by lia
 unfold loC;have m:=h.m.pa t ha hc;refine Η (zas ha ?_);by_cases e:ia+1+1=a.size;rw[if_pos (by simpa using e)];exact Κ ⟨hs,m.last t e⟩
 . rw[if_neg (by simpa using e)];have n:LoI rk a b (k+1) _ _ _:=⟨m,by lia,hj,by lia⟩;split<;>exact Κ ⟨hs,n⟩
theorem Tn.up{β:Type}{Go:Array Keyed->Prop}{J J':β->Prop}{r:Rt β}(h:Tn st₀ Go J r st)(u:∀d,J d->J' d):Tn st₀ Go J' r st:=by
 obtain⟨q,h⟩:=h;refine⟨q,?_⟩
 match r,h with|.done (Φ o,_),h=>exact h|.done (Ψ,d),h=>exact u _ h|.yield (Ψ,d),h=>exact u _ h
theorem LoI.up{k l:Nat}(h:LoI rk a b l out ia ib)(e:k<=l):LoI rk a b k out ia ib:=⟨h.m,h.i,h.j,Nat.lt_of_le_of_lt e h.k⟩
theorem znc{k g x y:Nat}(t:Two prog w A s κ rk T a b st₀)(h:LoI rk a b k out ia ib)(hc:∀j (hj:j<a.size),ia<=j->rk (b[ib]'h.j)<=rk a[j])(hs:SG st₀ st):wpS (model prog w) A E s (loB a b out ia ib g x y) (Tn st₀ (λr=>InOrd rk (a.toList++b.toList) r.toList) λd=>LoI rk a b (k+1) d.1 d.2.1 d.2.2.1) st:=by
 have hi:=h.i;have hj:=h.j;have hk:=h.k;have ha:ia<a.size:=by lia
 unfold loB;have m:=h.m.pb t hj hc;refine Η (zas hj ?_);by_cases e:ib+1=b.size;rw[if_pos (by simpa using e)];exact Κ ⟨hs,m.done (.inl e)⟩;rw[if_neg (by simpa using e)];refine Η (zas ha (Η (zbn (T:=T) (λi=>decide (∃h:ib+1+i<b.size,rk b[ib+1+i]<rk a[ia])) t.hc (t.kind hs) (t.ta _ _) t.tb (by lia) (by lia) (λi h _=>?_) (λi j hij hj q=>?_) λm' c=>?_)));simp[h];have q:=of_decide_eq_true q;obtain⟨q1,q2⟩:=q;refine decide_eq_true ⟨by lia,?_⟩;have:=t.lb q1 (show ib+1+i<=ib+1+j by lia);lia;dsimp only;have le:=c.le;have yes:∀i (h:ib+1+i<b.size),i<m'->rk b[ib+1+i]<rk a[ia]:=λi _ hi=>(of_decide_eq_true (c.yes i hi)).2;have no:∀j (hj:j<b.size),ib+1+m'<=j->rk a[ia]<=rk b[j]:=λj hj q=>by
  have:=of_decide_eq_false (c.no (j-(ib+1)) (by lia) (by lia));have e:ib+1+(j-(ib+1))=j:=by lia
  simp only[e]at this;exact Int.not_lt.mp λz=>this ⟨hj,z⟩
 by_cases c0:m'>0;rw[if_pos c0];have m2:=m.qb (k:=m') λi h1 j h2 h3 h4=>by have:=yes i h1 h3;have:=t.la h2 h4;lia
 by_cases e2:ib+1+m'=b.size;rw[if_pos (by simpa using e2)];exact Κ ⟨hs,m2.done (.inl e2)⟩;rw[if_neg (by simpa using e2)];exact Ϟ (znb t ⟨m2,hi,by lia,by lia⟩ no hs) λ_ _ z=>z.up λ_ z=>z.up (le_refl _);rw[if_neg c0];have:m'=0:=by lia
 subst this;exact Ϟ (znb t ⟨m,hi,by lia,by lia⟩ no hs) λ_ _ z=>z.up λ_ z=>z.up (le_refl _)
theorem zj7(x y:Int):decide (x<=y) = !decide (y<x):=by rw[<-decide_not];exact decide_eq_decide.mpr Int.not_lt.symm
theorem zrn{k g x y:Nat}(t:Two prog w A s κ rk T a b st₀)(h:LoI rk a b k out ia ib)(hs:SG st₀ st):wpS (model prog w) A E s (loA a b out ia ib g x y) (Tn st₀ (λr=>InOrd rk (a.toList++b.toList) r.toList) λd=>LoI rk a b (k+1) d.1 d.2.1 d.2.2.1) st:=by
 have hi:=h.i;have hj:=h.j;have hk:=h.k;have ha:ia<a.size:=by lia
 unfold loA;refine Η (ϥ ?_);replace hs:=hs.set g;refine Η (zas hj (Η (zbn (T:=T) (λi=>decide (∃h:ia+i<a.size,rk a[ia+i]<=rk b[ib])) t.hc (t.kind hs) (t.tb _ _) t.ta (by lia) (by lia) (λi h _=>?_) (λi j hij hj q=>?_) λm' c=>?_)));simp[h,zj7];have q:=of_decide_eq_true q;obtain⟨q1,q2⟩:=q;refine decide_eq_true ⟨by lia,?_⟩;have:=t.la q1 (show ia+i<=ia+j by lia);lia;dsimp only;have le:=c.le;have yes:∀i (h:ia+i<a.size),i<m'->rk a[ia+i]<=rk b[ib]:=λi _ hi=>(of_decide_eq_true (c.yes i hi)).2;have no:∀j (hj:j<a.size),ia+m'<=j->rk b[ib]<=rk a[j]:=λj hj q=>by
  have:=of_decide_eq_false (c.no (j-ia) (by lia) (by lia));have e:ia+(j-ia)=j:=by lia
  simp only[e]at this;exact Int.le_of_lt (Int.not_le.mp λz=>this ⟨hj,z⟩)
 by_cases c0:m'>0;rw[if_pos c0];have m2:=h.m.qa (k:=m') λi h1 j h2 h3 h4=>by have:=yes i h1 h3;have:=t.lb h2 h4;lia
 by_cases e2:ia+m'+1=a.size;rw[if_pos (by simpa using e2)];exact Κ ⟨hs,m2.last t e2⟩;rw[if_neg (by simpa using e2)];by_cases e3:ia+m'=a.size;rw[if_pos (by simpa using e3)];exact Κ ⟨hs,m2.done (.inr e3)⟩;rw[if_neg (by simpa using e3)];exact znc t ⟨m2,by lia,hj,by lia⟩ no hs;rw[if_neg c0];have:m'=0:=by lia
 subst this;exact znc t h no hs
theorem ziz{Q:Array Keyed->SortSt->Prop}(t:Two prog w A s κ rk T a b st₀)(h:∀r st,SG st₀ st->InOrd rk (a.toList++b.toList) r.toList->Q r st):wpS (model prog w) A E s (zdk a b) Q st₀:=by
 rw[ziA];have nb:=t.nb;have na:=t.na;have m:LoM rk a b #[b[0]] 0 1:=by have:=LoM.pb (out:=#[]) (ia:=0) (ib:=0) t ⟨by simp,.nil,t.sa,t.sb,by simp⟩ nb λj hj _=>Int.le_of_lt (t.h1 j hj);simpa using this
 refine Η (wpS_lift (ϧ ⟨rfl,Η (zas nb ?_)⟩));by_cases e:1=b.size;rw[if_pos (by simpa using e)];exact Κ (h _ _ ⟨_,rfl⟩ (m.done (.inl e)));rw[if_neg (by simpa using e)];by_cases e2:0+1=a.size;rw[if_pos (by simpa using e2)];exact Κ (h _ _ ⟨_,rfl⟩ (m.last t e2))
 . rw[if_neg (by simpa using e2)];refine zri (st₀:=st₀) (Go:=λr=>InOrd rk (a.toList++b.toList) r.toList) (λk d=>LoI rk a b k d.1 d.2.1 d.2.2.1) (λk d=>LoI rk a b k d.1 d.2.1 d.2.2.1) (λk d=>LoI rk a b k d.1 d.2.1 d.2.2.1)
    (λ_ _ _ q z=>z.up q) (λ_ _ _ q z=>z.up q) (λ_ _ z=>z) (λ_ _ _ z=>z) (λ_ _ z=>z) (λk c z=>by have:=z.i;have:=z.j;have:=z.k;lia)
    (λc i d st hs z=>zrm t z hs) (λi d st hs z=>?_) (λg=>(⟨m,by lia,by lia,by lia⟩:LoI rk a b 0 #[b[0]] 0 1)) h
   split<;>exact zrn t z hs
end
section
variable{rk:Keyed->Int}{T out ys l:List Keyed}{n m:Nat}
theorem MI.oneR(h:MI rk T out (l.take n).reverse ys)(h0:0<n)(hn:n-1<l.length)(hu:∀y∈ys,rk l[n-1]<=rk y):MI rk T (out++[l[n-1]]) (l.take (n-1)).reverse ys:=by
 have e:l.take n=l.take (n-1)++[l[n-1]]:=by obtain⟨k,rfl⟩:∃k,n=k+1:=⟨n-1,by lia⟩;exact(List.take_append_getElem hn).symm
 rw[e,List.reverse_append]at h;exact MI.push (us:=[l[n-1]]) h λu q=>by rw[mem_singleton.mp q];exact hu
theorem MI.segR(h:MI rk T out (l.take n).reverse ys)(hm:m<=n)(hu:∀u∈(l.take n).drop m,∀y∈ys,rk u<=rk y):MI rk T (out++((l.take n).drop m).reverse) (l.take m).reverse ys:=by
 have e:l.take n=l.take m++(l.take n).drop m:=by have:=List.take_append_drop m (l.take n);rw[List.take_take,Nat.min_eq_left hm]at this;exact this.symm
 have h':=h;rw[e,List.reverse_append]at h';exact MI.push h' λu q=>hu u (List.mem_reverse.mp q)
theorem zbm{y:Keyed}(h:y∈(l.take n).reverse):∃j,∃hj:j<l.length,j<n/\y=l[j]:=by obtain⟨j,hj,e⟩:=List.mem_iff_getElem.mp (List.mem_reverse.mp h);rw[List.getElem_take]at e;rw[ϣ]at hj;exact⟨j,by lia,by lia,e.symm⟩
theorem zhL{y:Keyed}(h:y∈(l.take n).drop m):∃j,∃hj:j<l.length,m<=j/\j<n/\y=l[j]:=by obtain⟨j,hj,e⟩:=List.mem_iff_getElem.mp h;rw[List.getElem_drop,List.getElem_take]at e;rw[List.length_drop,ϣ]at hj;exact⟨m+j,by omega,by omega,by omega,e.symm⟩
theorem zdp(a:Array Keyed)(n:Nat):(a.extract 0 n).toList=a.toList.take n:=by rw[Array.toList_extract];rfl
theorem zfe(a:Array Keyed)(m n:Nat):(a.extract m n).toList=(a.toList.take n).drop m:=by rw[Array.toList_extract,List.drop_take]
noncomputable def ng(rk:Keyed->Int)(x:Keyed):Int:=-rk x
theorem InOrd.rev(h:InOrd (ng rk) T l):InOrd rk T l.reverse:=⟨(List.reverse_perm _).trans h.1,List.pairwise_reverse.mpr (h.2.imp λ{x y} (q:-rk x<=-rk y)=>(by unfold Le;lia))⟩
end
section
variable{prog:Υ}{w:ύ}{A:ϑ}{E:Θ->Ζ->Prop}{s:Ζ}{κ:SortKind}{rk:Keyed->Int}{T:List Keyed}{a b out:Array Keyed}{na nb:Nat}{st₀ st:SortSt}
noncomputable abbrev HiM(rk:Keyed->Int)(a b out:Array Keyed)(na nb:Nat):Prop:=MI (ng rk) (a.toList++b.toList) out.toList (a.toList.take na).reverse (b.toList.take nb).reverse
theorem HiM.done(m:HiM rk a b out na nb)(e:na=0\/nb=0):InOrd rk (a.toList++b.toList) (a.extract 0 na++b.extract 0 nb++out.reverse).toList:=by rcases e with rfl|rfl;have:=(MI.fin m.swap).rev;simpa using this;have:=(MI.fin m).rev;simpa using this
theorem HiM.first(t:Two prog w A s κ rk T a b st₀)(m:HiM rk a b out na nb)(e:nb=1):InOrd rk (a.toList++b.toList) (b.extract 0 nb++a.extract 0 na++out.reverse).toList:=by
 rw[ώ,ώ,zdp,zdp,Array.toList_reverse];have:=(MI.last m.swap λu hu y hy=>by
  obtain⟨i,hi,h1,rfl⟩:=zbm hu;obtain⟨j,hj,h2,rfl⟩:=zbm hy;have:j=0:=by lia
  subst this;have:=t.h1 i (by simpa using hi);simp only[ng,ϓ];lia).rev
 simpa using this
theorem HiM.pa(m:HiM rk a b out na nb)(h0:0<na)(ha:na-1<a.size)(h:∀j (hj:j<b.size),j<nb->rk b[j]<=rk a[na-1]):HiM rk a b (out.push a[na-1]) (na-1) nb:=by rw[HiM,Array.toList_push];refine MI.oneR (l:=a.toList) m h0 (by simpa using ha) λy hy=>?_;obtain⟨j,hj,h1,rfl⟩:=zbm hy;have:=h j (by simpa using hj) h1;simp only[ng,ϓ];omega
theorem HiM.pb(m:HiM rk a b out na nb)(h0:0<nb)(hb:nb-1<b.size)(h:∀j (hj:j<a.size),j<na->rk a[j]<=rk b[nb-1]):HiM rk a b (out.push b[nb-1]) na (nb-1):=by rw[HiM,Array.toList_push];refine(MI.oneR (l:=b.toList) m.swap h0 (by simpa using hb) λy hy=>?_).swap;obtain⟨j,hj,h1,rfl⟩:=zbm hy;have:=h j (by simpa using hj) h1;simp only[ng,ϓ];omega
theorem HiM.qa(m:HiM rk a b out na nb){k:Nat}(hk:k<=na)(h:∀i (hi:i<a.size) j (hj:j<b.size),k<=i->i<na->j<nb->rk b[j]<=rk a[i]):HiM rk a b (out++(a.extract k na).reverse) k nb:=by rw[HiM,ώ,Array.toList_reverse,zfe];refine MI.segR (l:=a.toList) m hk λu hu y hy=>?_;obtain⟨j,hj,h1,rfl⟩:=zbm hy;obtain⟨i,hi,h2,h3,rfl⟩:=zhL hu;have:=h i (by simpa using hi) j (by simpa using hj) h2 h3 h1;simp only[ng,ϓ];lia
theorem HiM.qb(m:HiM rk a b out na nb){k:Nat}(hk:k<=nb)(h:∀i (hi:i<b.size) j (hj:j<a.size),k<=i->i<nb->j<na->rk a[j]<=rk b[i]):HiM rk a b (out++(b.extract k nb).reverse) na k:=by rw[HiM,ώ,Array.toList_reverse,zfe];refine(MI.segR (l:=b.toList) m.swap hk λu hu y hy=>?_).swap;obtain⟨j,hj,h1,rfl⟩:=zbm hy;obtain⟨i,hi,h2,h3,rfl⟩:=zhL hu;have:=h i (by simpa using hi) j (by simpa using hj) h2 h3 h1;simp only[ng,ϓ];lia
structure HiI(rk:Keyed->Int)(a b:Array Keyed)(k:Nat)(out:Array Keyed)(na nb:Nat):Prop where
 m:HiM rk a b out na nb
 i:0<na
 i':na<=a.size
 j:1<nb
 j':nb<=b.size
 k:k+na+nb<a.size+b.size
theorem HiI.up{k l:Nat}(h:HiI rk a b l out na nb)(e:k<=l):HiI rk a b k out na nb:=⟨h.m,h.i,h.i',h.j,h.j',by have:=h.k;lia⟩
theorem zrC{k g x y:Nat}(t:Two prog w A s κ rk T a b st₀)(h:HiI rk a b k out na nb)(hs:SG st₀ st):wpS (model prog w) A E s (hiL a b g out na nb x y) (Tn st₀ (λr=>InOrd rk (a.toList++b.toList) r.toList) λd=>HiI rk a b (k+1) d.2.2.1 d.1 d.2.1) st:=by
 obtain⟨m0,hi,hi',hj,hj',hk⟩:=h;have ha:na-1<a.size:=by lia
 have hb:nb-1<b.size:=by lia
 unfold hiL;refine Η (zas hb (Η (zas ha (Η (zj0 t.hc (t.tb _ _) (t.ta _ _) (t.kind hs) ?_)))));dsimp only;by_cases c:rk b[nb-1]<rk a[na-1];rw[decide_eq_true c,if_pos rfl];have m:=m0.pa hi ha λj hj h=>by have:=t.lb hb (show j<=nb-1 by lia);lia
 refine Η (zas ha ?_);by_cases e:na-1=0;rw[if_pos (by simpa using e)];exact Κ ⟨hs,m.done (.inl e)⟩
 . rw[if_neg (by simpa using e)];have n:HiI rk a b (k+1) _ _ _:=⟨m,by lia,by lia,hj,hj',by lia⟩;split<;>exact Κ ⟨hs,n⟩
 rw[decide_eq_false c,if_neg Ε];have m:=m0.pb (by lia) hb λj hj h=>by have:=t.la ha (show j<=na-1 by lia);lia
 refine Η (zas hb ?_);by_cases e:nb-1=1;rw[if_pos (by simpa using e)];exact Κ ⟨hs,m.first t e⟩
 . rw[if_neg (by simpa using e)];have n:HiI rk a b (k+1) _ _ _:=⟨m,hi,hi',by lia,by lia,by lia⟩;split<;>exact Κ ⟨hs,n⟩
theorem zng{k g x y:Nat}(t:Two prog w A s κ rk T a b st₀)(h:HiI rk a b k out na nb)(hc:∀j (hj:j<b.size),j<nb->rk b[j]<=rk (a[na-1]'(by have:=h.i;have:=h.i';lia)))(hs:SG st₀ st):wpS (model prog w) A E s (hiC a b out na nb g x y) (Tn st₀ (λr=>InOrd rk (a.toList++b.toList) r.toList) λd=>HiI rk a b (k+1) d.2.2.1 d.1 d.2.1) st:=by
 obtain⟨m0,hi,hi',hj,hj',hk⟩:=h;have ha:na-1<a.size:=by lia
 unfold hiC;have m:=m0.pa hi ha hc;refine Η (zas ha ?_);by_cases e:na-1=0;rw[if_pos (by simpa using e)];exact Κ ⟨hs,m.done (.inl e)⟩
 . rw[if_neg (by simpa using e)];have n:HiI rk a b (k+1) _ _ _:=⟨m,by lia,by lia,hj,hj',by lia⟩;split<;>exact Κ ⟨hs,n⟩
theorem znh{k g x y:Nat}(t:Two prog w A s κ rk T a b st₀)(h:HiI rk a b k out na nb)(hc:∀j (hj:j<a.size),j<na->rk a[j]<=rk (b[nb-1]'(by have:=h.j;have:=h.j';lia)))(hs:SG st₀ st):wpS (model prog w) A E s (hiB a b out na nb g x y) (Tn st₀ (λr=>InOrd rk (a.toList++b.toList) r.toList) λd=>HiI rk a b (k+1) d.2.2.1 d.1 d.2.1) st:=by
 obtain⟨m0,hi,hi',hj,hj',hk⟩:=h;have ha:na-1<a.size:=by lia
 have hb:nb-1<b.size:=by lia
 unfold hiB;have m:=m0.pb (by lia) hb hc;refine Η (zas hb ?_);by_cases e:nb-1=1;rw[if_pos (by simpa using e)];exact Κ ⟨hs,m.first t e⟩;rw[if_neg (by simpa using e)];refine Η (zas ha (Η (zbn (T:=T) (λi=>decide (∃h:i<b.size,rk b[i]<rk a[na-1])) t.hc (t.kind hs) (t.ta _ _) t.tb (by lia) (by lia) (λi h _=>?_) (λi j hij hj q=>?_) λm' c=>?_)));simp only[zero_add]at h⊢;simp[h];have q:=of_decide_eq_true q;obtain⟨q1,q2⟩:=q;refine decide_eq_true ⟨by lia,?_⟩;have:=t.lb q1 hij;lia;dsimp only;have le:=c.le;have yes:∀i (h:i<b.size),i<m'->rk b[i]<rk a[na-1]:=λi _ hi=>(of_decide_eq_true (c.yes i hi)).2;have no:∀j (hj:j<b.size),m'<=j->j<nb-1->rk a[na-1]<=rk b[j]:=λj hj q q'=>by have:=of_decide_eq_false (c.no j q q');exact Int.not_lt.mp λz=>this ⟨hj,z⟩
 by_cases c0:nb-1-m'>0;rw[if_pos c0];have m2:=m.qb le λi h1 j h2 h3 h4 h5=>by have:=no i h1 h3 h4;have:=t.la ha (show j<=na-1 by lia);lia
 by_cases e2:m'=1;rw[if_pos (by simpa using e2)];exact Κ ⟨hs,m2.first t e2⟩;rw[if_neg (by simpa using e2)];by_cases e3:m'=0;rw[if_pos (by simpa using e3)];exact Κ ⟨hs,m2.done (.inr e3)⟩;rw[if_neg (by simpa using e3)];exact zng t ⟨m2,hi,hi',by lia,by lia,by lia⟩ (λj hj q=>Int.le_of_lt (yes j hj q)) hs;rw[if_neg c0];have:m'=nb-1:=by lia
 subst this;exact zng t ⟨m,hi,hi',by lia,by lia,by lia⟩ (λj hj q=>Int.le_of_lt (yes j hj q)) hs
theorem zrD{k g x y:Nat}(t:Two prog w A s κ rk T a b st₀)(h:HiI rk a b k out na nb)(hs:SG st₀ st):wpS (model prog w) A E s (hiA a b out na nb g x y) (Tn st₀ (λr=>InOrd rk (a.toList++b.toList) r.toList) λd=>HiI rk a b (k+1) d.2.2.1 d.1 d.2.1) st:=by
 obtain⟨m0,hi,hi',hj,hj',hk⟩:=id h;have ha:na-1<a.size:=by lia
 have hb:nb-1<b.size:=by lia
 unfold hiA;refine Η (ϥ ?_);replace hs:=hs.set g;refine Η (zas hb (Η (zbn (T:=T) (λi=>decide (∃h:i<a.size,rk a[i]<=rk b[nb-1])) t.hc (t.kind hs) (t.tb _ _) t.ta (by lia) (by lia) (λi h _=>?_) (λi j hij hj q=>?_) λm' c=>?_)));simp only[zero_add]at h⊢;simp[h,zj7];have q:=of_decide_eq_true q;obtain⟨q1,q2⟩:=q;refine decide_eq_true ⟨by lia,?_⟩;have:=t.la q1 hij;lia;dsimp only;have le:=c.le;have yes:∀i (h:i<a.size),i<m'->rk a[i]<=rk b[nb-1]:=λi _ hi=>(of_decide_eq_true (c.yes i hi)).2;have no:∀j (hj:j<a.size),m'<=j->j<na->rk b[nb-1]<=rk a[j]:=λj hj q q'=>by have:=of_decide_eq_false (c.no j q q');exact Int.le_of_lt (Int.not_le.mp λz=>this ⟨hj,z⟩)
 by_cases c0:na-m'>0;rw[if_pos c0];have m2:=m0.qa le λi h1 j h2 h3 h4 h5=>by have:=no i h1 h3 h4;have:=t.lb hb (show j<=nb-1 by lia);lia
 by_cases e2:m'=0;rw[if_pos (by simpa using e2)];exact Κ ⟨hs,m2.done (.inl e2)⟩;rw[if_neg (by simpa using e2)];exact znh t ⟨m2,by lia,by lia,hj,hj',by lia⟩ yes hs;rw[if_neg c0];have:m'=na:=by lia
 subst this;exact znh t h yes hs
theorem ziB{Q:Array Keyed->SortSt->Prop}(t:Two prog w A s κ rk T a b st₀)(h:∀r st,SG st₀ st->InOrd rk (a.toList++b.toList) r.toList->Q r st):wpS (model prog w) A E s (zdl a b) Q st₀:=by
 rw[ziC];have nb:=t.nb;have na:=t.na;have hl:a.size-1<a.size:=by lia
 have m:HiM rk a b #[a[a.size-1]] (a.size-1) b.size:=by have:=HiM.pa (rk:=rk) (a:=a) (b:=b) (out:=#[]) (na:=a.size) (nb:=b.size) ⟨?_,.nil,?_,?_,by simp⟩ na hl λj hj _=>Int.le_of_lt (t.h2 j hj);simpa using this;rw[List.take_of_length_le (by simp),List.take_of_length_le (by simp)];exact List.Perm.append (l₁:=a.toList.reverse) (List.reverse_perm _) (List.reverse_perm _);rw[List.take_of_length_le (by simp)];exact List.pairwise_reverse.mpr (t.sa.imp λ{x y} (q:rk x<=rk y)=>(by unfold Le ng;lia));rw[List.take_of_length_le (by simp)];exact List.pairwise_reverse.mpr (t.sb.imp λ{x y} (q:rk x<=rk y)=>(by unfold Le ng;lia))
 refine Η (wpS_lift (ϧ ⟨rfl,Η (zas hl ?_)⟩));by_cases e:a.size-1=0;rw[if_pos (by simpa using e)];exact Κ (h _ _ ⟨_,rfl⟩ (m.done (.inl e)));rw[if_neg (by simpa using e)];by_cases e2:b.size=1;rw[if_pos (by simpa using e2)];exact Κ (h _ _ ⟨_,rfl⟩ (m.first t e2))
 . rw[if_neg (by simpa using e2)];refine zri (st₀:=st₀) (Go:=λr=>InOrd rk (a.toList++b.toList) r.toList) (λk d=>HiI rk a b k d.2.2.1 d.1 d.2.1) (λk d=>HiI rk a b k d.2.2.1 d.1 d.2.1) (λk d=>HiI rk a b k d.2.2.1 d.1 d.2.1)
    (λ_ _ _ q z=>z.up q) (λ_ _ _ q z=>z.up q) (λ_ _ z=>z) (λ_ _ _ z=>z) (λ_ _ z=>z) (λk c z=>by have:=z.k;lia)
    (λc i d st hs z=>zrC t z hs) (λi d st hs z=>?_) (λg=>(⟨m,by lia,by lia,by lia,by lia,by lia⟩:HiI rk a b 0 #[a[a.size-1]] (a.size-1) b.size)) h
   split<;>exact zrD t z hs
end
noncomputable def Kr(rk:Keyed->Int)(xs:Array Keyed)(i:Nat):Int:=(xs[i]?.map rk).getD 0
theorem Kr_at{rk:Keyed->Int}{xs:Array Keyed}{i:Nat}(h:i<xs.size):Kr rk xs i=rk xs[i]:=by unfold Kr;rw[getElem?_pos xs i h];rfl
theorem zcE{rk:Keyed->Int}{xs ys:Array Keyed}{i j:Nat}(h:xs[i]?=ys[j]?):Kr rk xs i=Kr rk ys j:=by unfold Kr;rw[h]
noncomputable def So(rk:Keyed->Int)(xs:Array Keyed)(lo hi:Nat):Prop:=∀i j,lo<=i->i<j->j<hi->Kr rk xs i<Kr rk xs j
structure SB(κ:SortKind)(T:List Keyed)(st:SortSt):Prop where
 perm:(arrOf st).toList.Perm T
 kind:kindOf st=κ
 failed:failedOf st=Ψ
section
variable{prog:Υ}{w:ύ}{A:ϑ}{E:Θ->Ζ->Prop}{s:Ζ}{κ:SortKind}{rk:Keyed->Int}{T:List Keyed}{st:SortSt}
theorem SB.size(b:SB κ T st):(arrOf st).size=T.length:=by have:=b.perm.length_eq;simpa using this
theorem SB.mem(b:SB κ T st){i:Nat}(h:i<(arrOf st).size):(arrOf st)[i]∈T:=b.perm.mem_iff.mp (by simp)
theorem SB.inj(b:SB κ T st)(u:(T.map rk).Nodup){i j:Nat}(hi:i<T.length)(hj:j<T.length)(ne:i≠j):Kr rk (arrOf st) i≠Kr rk (arrOf st) j:=by
 have hi':i<(arrOf st).size:=by rw[b.size];exact hi
 have hj':j<(arrOf st).size:=by rw[b.size];exact hj
 rw[Kr_at hi',Kr_at hj'];have nd:((arrOf st).toList.map rk).Nodup:=((b.perm.map rk).nodup_iff).mpr u;intro e;apply ne;have h1:i<((arrOf st).toList.map rk).length:=by simpa using hi'
 have h2:j<((arrOf st).toList.map rk).length:=by simpa using hj'
 exact(List.getElem_inj (h₀:=h1) (h₁:=h2) nd).mp (by simpa using e)
theorem SB.arr(b:SB κ T st){xs:Array Keyed}(h:xs.toList.Perm (arrOf st).toList):SB κ T (setArr st xs):=⟨h.trans b.perm,b.kind,b.failed⟩
theorem zcM{i j:Nat}{Q:Option Bool->SortSt->Prop}(hc:Looks prog w A s κ rk T)(b:SB κ T st)(hi:i<T.length)(hj:j<T.length)(h:Q (Φ (decide (Kr rk (arrOf st) i<Kr rk (arrOf st) j))) st):wpS (model prog w) A E s (ltAt' i j) Q st:=by
 have hi':i<(arrOf st).size:=by rw[b.size];exact hi
 have hj':j<(arrOf st).size:=by rw[b.size];exact hj
 refine Η (wpS_get (Η (zas hi' (Η (zas hj' (zj0 hc (b.mem _) (b.mem _) b.kind ?_))))));rw[Kr_at hi',Kr_at hj']at h;exact h
theorem So.snoc{xs:Array Keyed}{lo n:Nat}(h:So rk xs lo (lo+n))(h1:1<=n)(c:Kr rk xs (lo+n-1)<Kr rk xs (lo+n)):So rk xs lo (lo+(n+1)):=by
 intro i j hi hij hj;by_cases e:j<lo+n;exact h i j hi hij e;have:j=lo+n:=by lia
 subst this;by_cases e':i=lo+n-1;subst e';exact c;have:=h i (lo+n-1) hi (by lia) (by lia);lia
noncomputable def Fa(rk:Keyed->Int)(xs:Array Keyed)(lo hi:Nat):Prop:=∀i j,lo<=i->i<j->j<hi->Kr rk xs j<Kr rk xs i
theorem Fa.snoc{xs:Array Keyed}{lo n:Nat}(h:Fa rk xs lo (lo+n))(h1:1<=n)(c:Kr rk xs (lo+n)<Kr rk xs (lo+n-1)):Fa rk xs lo (lo+(n+1)):=by
 intro i j hi hij hj;by_cases e:j<lo+n;exact h i j hi hij e;have:j=lo+n:=by lia
 subst this;by_cases e':i=lo+n-1;subst e';exact c;have:=h i (lo+n-1) hi (by lia) (by lia);lia
noncomputable def Bl(lo:Nat)(xs ys:Array Keyed):Prop:=∀i,i<lo->ys[i]?=xs[i]?
theorem zmA{lo nrem:Nat}{Q:Option Nat->SortSt->Prop}(hc:Looks prog w A s κ rk T)(u:(T.map rk).Nodup)(b:SB κ T st)(h1:1<=nrem)(hn:lo+nrem=T.length)
  (h:∀m st',SB κ T st'->pendingOf st'=pendingOf st->Bl lo (arrOf st) (arrOf st')->1<=m->m<=nrem->So rk (arrOf st') lo (lo+m)->Q (Φ m) st'):wpS (model prog w) A E s (countRun' lo nrem) Q st:=by
 rw[countRun'_eq];dsimp only;refine Η (Ϟ (ϙ (I:=λx c st'=>st'=st/\c=(Ψ,x)/\So rk (arrOf st) lo (lo+x)) (Q:=λc st'=>st'=st/\∃n,c=(Ψ,n)/\1<=n/\n<=nrem/\So rk (arrOf st) lo (lo+n)/\(n=nrem\/Kr rk (arrOf st) (lo+n)<Kr rk (arrOf st) (lo+n-1))) ?_ ?_ ⟨rfl,rfl,λi j _ _ _=>by lia⟩) ?_);rintro x c st' hx hxn ⟨rfl,rfl,so⟩;dsimp only;refine Η (zcM hc b (by lia) (by lia) ?_);dsimp only;by_cases c:Kr rk (arrOf st') (lo+x)<Kr rk (arrOf st') (lo+x-1);rw[decide_eq_true c,if_pos rfl];exact Κ ⟨rfl,x,rfl,hx,by lia,so,.inr c⟩;rw[decide_eq_false c,if_neg Ε];refine Κ ⟨rfl,rfl,so.snoc hx ?_⟩;have:=b.inj u (i:=lo+x) (j:=lo+x-1) (by lia) (by lia) (by lia);lia;rintro c st' ⟨rfl,rfl,so⟩;rw[show max 1 nrem=nrem by lia]at so⊢;exact⟨rfl,nrem,rfl,h1,le_refl _,so,.inl rfl⟩;rintro c st' ⟨rfl,n,rfl,n1,n2,so,n3⟩;dsimp only;by_cases e:n=nrem;rw[if_pos (by simpa using e)];exact Κ (h n st' b rfl (λ_ _=>rfl) n1 n2 so);rw[if_neg (by simpa using e)];have n3:=n3.resolve_left e;by_cases e1:n>1;rw[if_pos e1];refine Η (zcM hc b (by lia) (by lia) ?_);dsimp only;rw[decide_eq_true (so lo (lo+n-1) (le_refl _) (by lia) (by lia)),if_pos rfl];exact Κ (h n st' b rfl (λ_ _=>rfl) n1 n2 so);rw[if_neg e1];have:n=1:=by lia
 subst this;refine Η (wpS_lift (ϧ ⟨rfl,?_⟩));refine Η (Ϟ (ϙ (I:=λx c st=>st=st'/\c=(Ψ,x,0)/\Fa rk (arrOf st') lo (lo+x)) (Q:=λc st=>st=st'/\∃n,c=(Ψ,n,0)/\1<=n/\n<=nrem/\Fa rk (arrOf st') lo (lo+n)) ?_ ?_ ⟨rfl,rfl,Fa.snoc (n:=1) (λi j _ _ _=>by lia) (le_refl _) n3⟩) ?_);rintro x c st hx hxn ⟨rfl,rfl,fa⟩;dsimp only;refine Η (zcM hc b (by lia) (by lia) ?_);dsimp only;by_cases c:Kr rk (arrOf st) (lo+x)<Kr rk (arrOf st) (lo+x-1);rw[decide_eq_true c,if_pos rfl,if_neg (by lia)];exact Κ ⟨rfl,rfl,fa.snoc (by lia) c⟩;rw[decide_eq_false c,if_neg Ε];refine Η (zcM hc b (by lia) (by lia) ?_);have:=b.inj u (i:=lo+x) (j:=lo+x-1) (by lia) (by lia) (by lia);dsimp only;rw[decide_eq_true (by lia),if_pos rfl];exact Κ ⟨rfl,x,rfl,by lia,by lia,fa⟩;rintro c st ⟨rfl,rfl,fa⟩;rw[show max (1+1) nrem=nrem by lia]at fa⊢;exact⟨rfl,nrem,rfl,by lia,le_refl _,fa⟩;rintro c st ⟨rfl,n,rfl,n1,n2,fa⟩;dsimp only;rw[if_neg (by lia)];refine Η (wpS_reverse ?_);have bs:lo+n<=(arrOf st).size:=by rw[b.size];lia
 have pm:=mirror_perm (arrOf st) lo (lo+n) ((lo+n-lo)/2);have gm:=getElem?_mirror_all (i:=lo) bs;generalize mirror (arrOf st) lo (lo+n) ((lo+n-lo)/2)=xs at pm gm⊢;have mi:∀k,Kr rk xs k=if lo<=k/\k<lo+n then Kr rk (arrOf st) (lo+(lo+n)-1-k) else Kr rk (arrOf st) k:=λk=>by have e:=gm k;by_cases z:lo<=k/\k<lo+n;rw[if_pos z]at e⊢;exact zcE e;rw[if_neg z]at e⊢;exact zcE e
 have b2:SB κ T (setArr st xs):=b.arr (Array.perm_iff_toList_perm.mp pm);have so2:So rk xs lo (lo+n):=λi j h1 h2 h3=>by rw[mi,mi,if_pos ⟨h1,by lia⟩,if_pos ⟨by lia,h3⟩];exact fa _ _ (by lia) (by lia) (by lia)
 have bl:Bl lo (arrOf st) xs:=λi hi=>by rw[gm,if_neg (by lia)]
 refine Η (Ϟ (ϙ (I:=λx c st2=>st2=setArr st xs/\c=(Ψ,x)/\So rk xs lo (lo+x)) (Q:=λc st2=>st2=setArr st xs/\∃n',c=(Ψ,n')/\1<=n'/\n'<=nrem/\So rk xs lo (lo+n')) ?_ ?_ ⟨rfl,rfl,so2⟩) ?_);rintro x c st2 hx hxn ⟨rfl,rfl,so⟩;dsimp only;refine Η (zcM hc b2 (by lia) (by lia) ?_);dsimp only;by_cases c:Kr rk xs (lo+x)<Kr rk xs (lo+x-1);rw[decide_eq_true c,if_pos rfl];exact Κ ⟨rfl,x,rfl,by lia,by lia,so⟩;rw[decide_eq_false c,if_neg Ε];refine Κ ⟨rfl,rfl,so.snoc (by lia) ?_⟩;have:Kr rk xs (lo+x)≠Kr rk xs (lo+x-1):=b2.inj u (i:=lo+x) (j:=lo+x-1) (by lia) (by lia) (by lia);lia;rintro c st2 ⟨rfl,rfl,so⟩;rw[show max n nrem=nrem by lia]at so⊢;exact⟨rfl,nrem,rfl,h1,le_refl _,so⟩;rintro c st2 ⟨rfl,m,rfl,m1,m2,so⟩;exact Κ (h m _ b2 rfl bl m1 m2 so)
theorem zk0{lo n ok:Nat}{Q:Bool->SortSt->Prop}(hc:Looks prog w A s κ rk T)(u:(T.map rk).Nodup)(b:SB κ T st)(h1:1<=ok)(h2:ok<=n)(hn:lo+n<=T.length)(so:So rk (arrOf st) lo (lo+ok))
  (h:∀st',SB κ T st'->pendingOf st'=pendingOf st->Bl lo (arrOf st) (arrOf st')->So rk (arrOf st') lo (lo+n)->Q Γ st'):wpS (model prog w) A E s (binarySort' lo n ok) Q st:=by
 rw[binarySort'_eq];refine Η (Ϟ (ϙ (I:=λk c st'=>c=(Ψ,())/\SB κ T st'/\pendingOf st'=pendingOf st/\Bl lo (arrOf st) (arrOf st')/\So rk (arrOf st') lo (lo+k))
  (Q:=λc st'=>c=(Ψ,())/\SB κ T st'/\pendingOf st'=pendingOf st/\Bl lo (arrOf st) (arrOf st')/\So rk (arrOf st') lo (lo+n)) ?_ ?_ ⟨rfl,b,rfl,λ_ _=>rfl,by rw[Nat.max_eq_left h1];exact so⟩) ?_)
 rintro k c st' hk hkn ⟨rfl,b',pe,bl,so'⟩;have hk1:1<=k:=by lia
 refine Η (Ϟ (ϙ (I:=λx c st''=>st''=st'/\∃l r,c=(Ψ,l,r)/\l<=r/\r<=k/\r-l<=k-x/\(∀i,i<l->Kr rk (arrOf st') (lo+i)<Kr rk (arrOf st') (lo+k))/\(∀i,r<=i->i<k->Kr rk (arrOf st') (lo+k)<Kr rk (arrOf st') (lo+i)))
  (Q:=λc st''=>st''=st'/\∃l r,c=(Ψ,l,r)/\l<=k/\(∀i,i<l->Kr rk (arrOf st') (lo+i)<Kr rk (arrOf st') (lo+k))/\(∀i,l<=i->i<k->Kr rk (arrOf st') (lo+k)<Kr rk (arrOf st') (lo+i))) ?_ ?_ ⟨rfl,0,k,rfl,by lia,by lia,by lia,λi hi=>by lia,λi h1 h2=>by lia⟩) ?_)
 rintro x c st'' _ hx ⟨rfl,l,r,rfl,a1,a2,a3,a4,a5⟩;dsimp only;by_cases z:l≥r;rw[if_pos z];obtain rfl:l=r:=by lia
 exact Κ ⟨rfl,l,l,rfl,a2,a4,a5⟩;rw[if_neg z];refine Η (zcM hc b' (by lia) (by lia) ?_);dsimp only;by_cases c:Kr rk (arrOf st'') (lo+k)<Kr rk (arrOf st'') (lo+(l+r)/2);rw[decide_eq_true c,if_pos rfl];refine Κ ⟨rfl,l,_,rfl,by lia,by lia,by lia,a4,λi q1 q2=>?_⟩;by_cases e:(l+r)/2=i;subst e;exact c;have:=so' (lo+(l+r)/2) (lo+i) (by lia) (by lia) (by lia);lia;rw[decide_eq_false c,if_neg Ε];refine Κ ⟨rfl,_,r,rfl,by lia,by lia,by lia,λi q1=>?_,a5⟩;have:=b'.inj u (i:=lo+k) (j:=lo+(l+r)/2) (by lia) (by lia) (by lia);by_cases e:i=(l+r)/2;subst e;lia;have:=so' (lo+i) (lo+(l+r)/2) (by lia) (by lia) (by lia);lia;rintro c st'' ⟨rfl,l,r,rfl,a1,a2,a3,a4,a5⟩;obtain rfl:l=r:=by lia
 exact⟨rfl,l,l,rfl,a2,a4,a5⟩;rintro c st'' ⟨rfl,l,r,rfl,lk,a4,a5⟩;show wpS _ _ _ _ (do moveDown' (lo+k) (lo+l);pure (ForInStep.yield (Ψ,()))) _ _;rw[moveDown'_eq];have hks:lo+k<(arrOf st'').size:=by rw[b'.size];lia
 have g:=getElem?_bubble hks (lo+k-(lo+l)) (by lia);have pm:=bubble_perm (arrOf st'') (lo+k) (lo+k-(lo+l));refine Η (ϥ (Κ ⟨rfl,b'.arr (Array.perm_iff_toList_perm.mp pm),pe,λi hi=>?_,λi j q1 q2 q3=>?_⟩));show(bubble (arrOf st'') (lo+k) (lo+k-(lo+l)))[i]?=_;rw[g,if_neg (by lia),if_neg (by lia)];exact bl i hi
 . show Kr rk (bubble (arrOf st'') (lo+k) (lo+k-(lo+l))) i<Kr rk (bubble (arrOf st'') (lo+k) (lo+k-(lo+l))) j;have gk:∀t,Kr rk (bubble (arrOf st'') (lo+k) (lo+k-(lo+l))) t=if t=lo+l then Kr rk (arrOf st'') (lo+k) else if lo+l<t/\t<=lo+k then Kr rk (arrOf st'') (t-1) else Kr rk (arrOf st'') t:=λt=>by
    have e:=g t;rw[show lo+k-(lo+k-(lo+l))=lo+l by lia]at e;unfold Kr;rw[e]
    repeat' split
    all_goals rfl
   have a4':∀t,lo<=t->t<lo+l->Kr rk (arrOf st'') t<Kr rk (arrOf st'') (lo+k):=λt y1 y2=>by have:=a4 (t-lo) (by lia);rwa [show lo+(t-lo)=t by lia]at this
   have a5':∀t,lo+l<=t->t<lo+k->Kr rk (arrOf st'') (lo+k)<Kr rk (arrOf st'') t:=λt y1 y2=>by have:=a5 (t-lo) (by lia) (by lia);rwa [show lo+(t-lo)=t by lia]at this
   rw[gk,gk]
   repeat' split
   all_goals first
    |(exfalso;lia)
    |exact a4' _ (by lia) (by lia)
    |exact a5' _ (by lia) (by lia)
    |exact so' _ _ (by lia) (by lia) (by lia)
 rintro c st' ⟨hc,b',pe,bl,so'⟩;rw[show max (max ok 1) n=n by lia]at so';exact⟨hc,b',pe,bl,so'⟩;rintro c st' ⟨rfl,b',pe,bl,so'⟩;exact Κ (h st' b' pe bl so')
theorem zhY(c:Nat):∀(l:List Keyed)(n:Nat)(xs:Array Keyed),c+n+l.length<=xs.size->∀i:Nat,((l.zipIdx n).foldl (λa (p:Keyed×Nat)=>a.setIfInBounds (c+p.2) p.1) xs)[i]?=if c+n<=i/\i<c+n+l.length then l[i-(c+n)]? else xs[i]?
 | [],n,xs,h,i=>by rw[if_neg (by simp)];rfl| x::l,n,xs,h,i=>by
  have h':c+(n+1)+l.length<=(xs.setIfInBounds (c+n) x).size:=by rw[Array.size_setIfInBounds];simp at h;lia
  have:=zhY c l (n+1) (xs.setIfInBounds (c+n) x) h' i;rw[List.zipIdx_cons,List.foldl_cons,this];simp only[Χ]at h⊢;by_cases e:i=c+n;subst e;rw[if_neg (by lia),if_pos (by lia),Array.getElem?_setIfInBounds_self_of_lt (by lia),Nat.sub_self];rfl;rw[Array.getElem?_setIfInBounds_ne (by lia)];by_cases z:c+n<=i/\i<c+n+(l.length+1);rw[if_pos z,if_pos (by lia),show i-(c+n)=(i-(c+(n+1)))+1 by lia];rfl;rw[if_neg z,if_neg (by lia)]
theorem zfk{xs:Array Keyed}{i:Nat}{x:Keyed}(h:xs[i]?=Φ x):Kr rk xs i=rk x:=by unfold Kr;rw[h];rfl
theorem So.of(b:SB κ T st)(u:(T.map rk).Nodup){lo hi:Nat}(hh:hi<=T.length)(h:∀i j,lo<=i->i<j->j<hi->Kr rk (arrOf st) i<=Kr rk (arrOf st) j):So rk (arrOf st) lo hi:=λi j h1 h2 h3=>by have:=h i j h1 h2 h3;have:=b.inj u (i:=i) (j:=j) (by lia) (by lia) (by lia);lia
theorem zj9{xs ys:Array Keyed}{r:List Keyed}{p q:Nat}(hp:p<=q)(hq:q<=xs.size)(hr:r.Perm (xs.extract p q).toList)(h:∀i:Nat,ys[i]?=if p<=i/\i<q then r[i-p]? else xs[i]?):ys.toList.Perm xs.toList:=by
 have rl:r.length=q-p:=by have:=hr.length_eq;simp at this;lia
 have e:ys.toList=xs.toList.take p++(r++xs.toList.drop q):=by
  apply List.ext_getElem?;intro i;rw[ϔ,h i];by_cases z:i<p;rw[if_neg (by lia),getElem?_append_left (by simp;lia),List.getElem?_take,if_pos z,ϔ];rw[getElem?_append_right (by simp;lia)];have l1:(xs.toList.take p).length=p:=by simp;lia
  rw[l1];by_cases z2:i<q;rw[if_pos ⟨by lia,z2⟩,getElem?_append_left (by lia)];rw[if_neg (by lia),getElem?_append_right (by lia),List.getElem?_drop,rl,ϔ];congr 1;lia
 have e2:xs.toList=xs.toList.take p++((xs.extract p q).toList++xs.toList.drop q):=by
  rw[zfe];have e3:xs.toList.take q=xs.toList.take p++(xs.toList.take q).drop p:=by have:=List.take_append_drop p (xs.toList.take q);rw[List.take_take,Nat.min_eq_left hp]at this;exact this.symm
  rw[<-append_assoc,<-e3,List.take_append_drop]
 rw[e];exact(List.Perm.append_left _ (List.Perm.append_right _ hr)).trans (List.Perm.of_eq e2.symm)
structure Run2(κ:SortKind)(rk:Keyed->Int)(T:List Keyed)(xs:Array Keyed)(sa na nb:Nat):Prop where
 a1:1<=na
 b1:1<=nb
 le:sa+na+nb<=T.length
 so1:So rk xs sa (sa+na)
 so2:So rk xs (sa+na) (sa+na+nb)
theorem SG.perm{st':SortSt}(h:SG st st'):arrOf st'=arrOf st/\kindOf st'=kindOf st/\failedOf st'=failedOf st/\pendingOf st'=pendingOf st:=by obtain⟨_,rfl⟩:=h;exact⟨rfl,rfl,rfl,rfl⟩
theorem So.le{xs:Array Keyed}{lo hi i j:Nat}(h:So rk xs lo hi)(h1:lo<=i)(h2:i<=j)(h3:j<hi):Kr rk xs i<=Kr rk xs j:=by by_cases e:i=j;subst e;exact Int.le_refl _;exact Int.le_of_lt (h i j h1 (by lia) h3)
theorem zdU{xs:Array Keyed}{p q i:Nat}(h:i<(xs.extract p q).size):rk (xs.extract p q)[i]=Kr rk xs (p+i):=by rw[Array.getElem_extract];exact(Kr_at _).symm
theorem zeq{xs:Array Keyed}{lo hi p q:Nat}(h:So rk xs lo hi)(h1:lo<=p)(h2:q<=hi):(xs.extract p q).toList.Pairwise (Le rk):=by rw[List.pairwise_iff_getElem];intro i j hi hj hij;show rk _<=rk _;simp only[ϓ];rw[zdU (rk:=rk),zdU (rk:=rk)];simp at hj;exact h.le (by lia) (by lia) (by lia)
theorem ziD{i sa na nb pw z:Nat}{Q:Bool->SortSt->Prop}(hc:Looks prog w A s κ rk T)(u:(T.map rk).Nodup)(b:SB κ T st)(e1:(pendingOf st)[i]?=Φ (sa,na,pw))(e2:(pendingOf st)[i+1]?=Φ (sa+na,nb,z))(r:Run2 κ rk T (arrOf st) sa na nb)
  (h:∀st',SB κ T st'->pendingOf st'=((pendingOf st).setIfInBounds i (sa,na+nb,pw)).eraseIdxIfInBounds (i+1)->(∀j,j<sa\/sa+na+nb<=j->(arrOf st')[j]?=(arrOf st)[j]?)->So rk (arrOf st') sa (sa+na+nb)->Q Γ st'):wpS (model prog w) A E s (mergeAt' i) Q st:=by
 obtain⟨a1,b1,le,soa,sob⟩:=r;have sz:=b.size;have mem:∀i (h:i<(arrOf st).size),(arrOf st)[i]∈T:=λi h=>b.mem h;have hsb:sa+na<(arrOf st).size:=by lia
 rw[zgP];refine Η (wpS_get ?_);rw[e1,e2];dsimp only;refine Η (ϥ (f:=λ_=>setPending st _) ?_);generalize ep:((pendingOf st).setIfInBounds i (sa,na+nb,pw)).eraseIdxIfInBounds (i+1)=pe at h⊢;have b1':SB κ T (setPending st pe):=⟨b.perm,b.kind,b.failed⟩;refine Η (zas hsb (Η (zbn (T:=T) (λi=>decide (Kr rk (arrOf st) (sa+i)<=Kr rk (arrOf st) (sa+na))) hc b1'.kind (mem _ _) mem (by lia) (by lia) (λi h _=>?_) (λi j hij hj q=>?_) λk c=>?_)));rw[Kr_at h,Kr_at hsb,zj7];rfl;exact decide_eq_true (Int.le_trans (soa.le (by lia) (by lia) (by lia)) (of_decide_eq_true q));dsimp only;have ck:=c.le;have yes:∀j,sa<=j->j<sa+k->Kr rk (arrOf st) j<=Kr rk (arrOf st) (sa+na):=λj q1 q2=>by
  have:=of_decide_eq_true (c.yes (j-sa) (by lia))
  rwa [show sa+(j-sa)=j by lia]at this
 have no:∀j,sa+k<=j->j<sa+na->Kr rk (arrOf st) (sa+na)<Kr rk (arrOf st) j:=λj q1 q2=>by have:=of_decide_eq_false (c.no (j-sa) (by lia) (by lia));rw[show sa+(j-sa)=j by lia]at this;lia
 by_cases k0:na-k=0;rw[if_pos (by simpa using k0)];refine Κ (h _ b1' rfl (λ_ _=>rfl) (So.of b1' u le λi j q1 q2 q3=>?_));show Kr rk (arrOf st) i<=Kr rk (arrOf st) j;by_cases z1:j<sa+na;exact soa.le q1 (by lia) z1;by_cases z2:i<sa+na;exact Int.le_trans (yes i q1 (by lia)) (sob.le (le_refl _) (by lia) q3);exact sob.le (by lia) (by lia) q3;rw[if_neg (by simpa using k0)];have el:sa+k+(na-k)-1=sa+na-1:=by lia
 have hl:sa+na-1<(arrOf st).size:=by lia
 rw[el];refine Η (zas hl (Η (zbn (T:=T) (λi=>decide (Kr rk (arrOf st) (sa+na+i)<Kr rk (arrOf st) (sa+na-1))) hc b1'.kind (mem _ _) mem (by lia) (by lia) (λi h _=>?_) (λi j hij hj q=>?_) λm d=>?_)));rw[Kr_at h,Kr_at hl];rfl;exact decide_eq_true (Int.lt_of_le_of_lt (sob.le (by lia) (by lia) (by lia)) (of_decide_eq_true q));dsimp only;have dm:=d.le;have yes2:∀j,sa+na<=j->j<sa+na+m->Kr rk (arrOf st) j<Kr rk (arrOf st) (sa+na-1):=λj q1 q2=>by
  have:=of_decide_eq_true (d.yes (j-(sa+na)) (by lia))
  rwa [show sa+na+(j-(sa+na))=j by lia]at this
 have no2:∀j,sa+na+m<=j->j<sa+na+nb->Kr rk (arrOf st) (sa+na-1)<=Kr rk (arrOf st) j:=λj q1 q2=>by have:=of_decide_eq_false (d.no (j-(sa+na)) (by lia) (by lia));rw[show sa+na+(j-(sa+na))=j by lia]at this;lia
 have m0:m≠0:=λe=>by have:=no2 (sa+na) (by lia) (by lia);have:=no (sa+na-1) (by lia) (by lia);lia
 rw[if_neg (by simpa using m0)];have xz:((arrOf st).extract (sa+k) (sa+na)).size=na-k:=by simp;lia
 have yz:((arrOf st).extract (sa+na) (sa+na+m)).size=m:=by simp;lia
 have tw:Two prog w A s κ rk T ((arrOf st).extract (sa+k) (sa+na)) ((arrOf st).extract (sa+na) (sa+na+m)) (setPending st pe):=
  ⟨hc,b1'.kind,λi h=>by rw[Array.getElem_extract];exact mem _ _,λi h=>by rw[Array.getElem_extract];exact mem _ _,zeq soa (by lia) (le_refl _),zeq sob (le_refl _) (by lia),by lia,by lia,
   λi h=>by rw[zdU (rk:=rk),zdU (rk:=rk)];exact no _ (by lia) (by lia),
   λi h=>by rw[zdU (rk:=rk),zdU (rk:=rk),xz,show sa+k+(na-k-1)=sa+na-1 by lia];exact yes2 _ (by lia) (by lia)⟩
 have fin:∀(r:Array Keyed)(st':SortSt),SG (setPending st pe) st'->InOrd rk (((arrOf st).extract (sa+k) (sa+na)).toList++((arrOf st).extract (sa+na) (sa+na+m)).toList) r.toList->wpS (model prog w) A E s (do
   modify λs=>setArr s (r.toList.zipIdx.foldl (λa (p,j)=>a.setIfInBounds (sa+k+j) p) (arrOf s))
   return (failedOf (<-get)).isNone) Q st':=λr st' g o=>by
  obtain⟨ga,gk,gf,gp⟩:=g.perm;have rl:r.toList.length=na-k+m:=by have:=o.1.length_eq;rw[length_append,length_toList,length_toList,length_toList,xz,yz]at this;simpa using this
  refine Η (ϥ (Η (wpS_get ?_)));have ex:((arrOf st).extract (sa+k) (sa+na)).toList++((arrOf st).extract (sa+na) (sa+na+m)).toList=((arrOf st).extract (sa+k) (sa+na+m)).toList:=by rw[<-ώ,Array.extract_append_extract];congr 2<;>lia
  have gi:∀i:Nat,(r.toList.zipIdx.foldl (λa (p:Keyed×Nat)=>a.setIfInBounds (sa+k+p.2) p.1) (arrOf st))[i]?=if sa+k<=i/\i<sa+na+m then r.toList[i-(sa+k)]? else(arrOf st)[i]?:=λi=>by have:=zhY (sa+k) r.toList 0 (arrOf st) (by lia) i;rw[Nat.add_zero,rl,show sa+k+(na-k+m)=sa+na+m by lia]at this;exact this
  have b2:SB κ T (setArr st' (r.toList.zipIdx.foldl (λa (p:Keyed×Nat)=>a.setIfInBounds (sa+k+p.2) p.1) (arrOf st))):=⟨(zj9 (p:=sa+k) (q:=sa+na+m) (by lia) (by lia) (by rw[<-ex];exact o.1) gi).trans b.perm,gk.trans b.kind,gf.trans b.failed⟩;have mid:∀t,sa+k<=t->t<sa+na+m->∃x,(r.toList.zipIdx.foldl (λa (p:Keyed×Nat)=>a.setIfInBounds (sa+k+p.2) p.1) (arrOf st))[t]?=Φ x/\∃j,sa+k<=j/\j<sa+na+m/\rk x=Kr rk (arrOf st) j:=λt t1 t2=>by
   rw[gi,if_pos ⟨t1,t2⟩];have hl:t-(sa+k)<r.toList.length:=by lia
   refine⟨_,getElem?_eq_getElem hl,?_⟩;have:=o.1.mem_iff.mp (List.getElem_mem hl);rw[ex]at this;obtain⟨j,hj,e⟩:=List.mem_iff_getElem.mp this;simp only[length_toList]at hj;rw[ϓ]at e;refine⟨sa+k+j,by lia,?_,?_⟩;simp at hj;lia;rw[<-e,zdU (rk:=rk)]
  generalize ef:r.toList.zipIdx.foldl (λa (p:Keyed×Nat)=>a.setIfInBounds (sa+k+p.2) p.1) (arrOf st)=ys at gi b2 mid;have ef':r.toList.zipIdx.foldl (λa (p,j)=>a.setIfInBounds (sa+k+j) p) (arrOf st')=ys:=by rw[ga];exact ef
  rw[ef'];show wpS _ _ _ _ (pure (failedOf st').isNone) _ _;rw[gf.trans b.failed];refine Κ (h _ b2 gp (λj hj=>?_) (So.of b2 u le λi j q1 q2 q3=>?_));show ys[j]?=_;rw[gi,if_neg (by lia)];show Kr rk ys i<=Kr rk ys j;have out:∀t,t<sa+k\/sa+na+m<=t->Kr rk ys t=Kr rk (arrOf st) t:=λt ht=>zcE (by rw[gi,if_neg (by lia)]);have low:∀t v,sa<=t->t<sa+k->sa+k<=v->v<sa+na+nb->Kr rk (arrOf st) t<=Kr rk (arrOf st) v:=λt v y1 y2 y3 y4=>by by_cases z1:v<sa+na;exact soa.le y1 (by lia) z1;exact Int.le_trans (yes t y1 y2) (sob.le (le_refl _) (by lia) y4)
  have high:∀t v,sa<=t->t<sa+na+m->sa+na+m<=v->v<sa+na+nb->Kr rk (arrOf st) t<=Kr rk (arrOf st) v:=λt v y1 y2 y3 y4=>by by_cases z1:t<sa+na;exact Int.le_trans (soa.le y1 (show t<=sa+na-1 by lia) (by lia)) (no2 v y3 y4);exact sob.le (by lia) (by lia) y4
  by_cases i1:i<sa+k;rw[out i (.inl i1)];by_cases j1:j<sa+k;rw[out j (.inl j1)];exact soa.le q1 (by lia) (by lia);by_cases j2:j<sa+na+m;obtain⟨x,g1,v,v1,v2,v3⟩:=mid j (by lia) j2;rw[zfk g1,v3];exact low i v q1 i1 v1 (by lia);rw[out j (.inr (by lia))];exact low i j q1 i1 (by lia) q3;by_cases i2:i<sa+na+m;obtain⟨x,g1,v,v1,v2,v3⟩:=mid i (by lia) i2;by_cases j2:j<sa+na+m;have gj:=gi j;have gi':=gi i;rw[if_pos ⟨by lia,j2⟩,getElem?_eq_getElem (by lia)]at gj;rw[if_pos ⟨by lia,i2⟩,getElem?_eq_getElem (by lia)]at gi';rw[zfk gj,zfk gi'];exact List.pairwise_iff_getElem.mp o.2 _ _ _ _ (by lia);rw[out j (.inr (by lia)),zfk g1,v3];exact high v j (by lia) v2 (by lia) q3;rw[out i (.inr (by lia)),out j (.inr (by lia))];exact sob.le (by lia) (by lia) q3
 by_cases lh:na-k<=m;rw[if_pos lh];exact Η (ziz tw fin);rw[if_neg lh];exact Η (ziB tw fin)
end
section
variable{rk:Keyed->Int}
noncomputable def Cv(rk:Keyed->Int)(xs:Array Keyed):List (Nat×Nat×Nat)->Nat->Nat->Prop
 | [],a,b=>a=b|r::l,a,b=>r.1=a/\1<=r.2.1/\So rk xs a (a+r.2.1)/\Cv rk xs l (a+r.2.1) b
theorem Cv.le{xs:Array Keyed}:∀{l:List (Nat×Nat×Nat)}{a b:Nat},Cv rk xs l a b->a+l.length<=b
 | [],_,_,h=>by cases h;simp|r::l,a,b,h=>by have:=h.2.2.2.le;have:=h.2.1;simp;lia
theorem Cv.app{xs:Array Keyed}{m:List (Nat×Nat×Nat)}{b:Nat}:∀{l:List (Nat×Nat×Nat)}{a:Nat},Cv rk xs (l++m) a b↔∃c,Cv rk xs l a c/\Cv rk xs m c b
 | [],a=>⟨λh=>⟨a,rfl,h⟩,λ⟨c,h1,h2⟩=>by cases h1;exact h2⟩|r::l,a=>⟨λh=>by obtain⟨c,h1,h2⟩:=(Cv.app (l:=l)).mp h.2.2.2;exact⟨c,⟨h.1,h.2.1,h.2.2.1,h1⟩,h2⟩,λz=>(by obtain⟨c,h1,h2⟩:=z;exact ⟨h1.1,h1.2.1,h1.2.2.1,(Cv.app (l:=l)).mpr ⟨c,h1.2.2.2,h2⟩⟩)⟩
theorem So.congr{xs ys:Array Keyed}{lo hi:Nat}(h:So rk xs lo hi)(e:∀i,lo<=i->i<hi->ys[i]?=xs[i]?):So rk ys lo hi:=λi j h1 h2 h3=>by rw[zcE (e i h1 (by lia)),zcE (e j (by lia) h3)];exact h i j h1 h2 h3
theorem Cv.congr{xs ys:Array Keyed}:∀{l:List (Nat×Nat×Nat)}{a b:Nat},Cv rk xs l a b->(∀i,a<=i->i<b->ys[i]?=xs[i]?)->Cv rk ys l a b
 | [],_,_,h,_=>h| r::l,a,b,h,e=>by have:=h.2.2.2.le;exact⟨h.1,h.2.1,h.2.2.1.congr λi h1 h2=>e i h1 (by lia),h.2.2.2.congr λi h1 h2=>e i (by lia) h2⟩
theorem Cv.modify{xs:Array Keyed}{f:Nat×Nat×Nat->Nat×Nat×Nat}(hf:∀r,(f r).1=r.1/\(f r).2.1=r.2.1):∀{l:List (Nat×Nat×Nat)}{i a b:Nat},Cv rk xs l a b->Cv rk xs (l.modify i f) a b
 | [],i,_,_,h=>by cases i<;>exact h| r::l,0,a,b,h=>by show Cv rk xs (f r::l) a b;have:=hf r;unfold Cv;rw[this.1,this.2];exact h|r::l,i+1,a,b,h=>⟨h.1,h.2.1,h.2.2.1,Cv.modify hf h.2.2.2⟩
end
section
variable{prog:Υ}{w:ύ}{A:ϑ}{E:Θ->Ζ->Prop}{s:Ζ}{κ:SortKind}{rk:Keyed->Int}{T:List Keyed}{st:SortSt}
theorem zfJ{i lo:Nat}{Q:Bool->SortSt->Prop}(hc:Looks prog w A s κ rk T)(u:(T.map rk).Nodup)(b:SB κ T st)(hl:lo<=T.length)(cv:Cv rk (arrOf st) (pendingOf st).toList 0 lo)(hi:i+1<(pendingOf st).size)
  (h:∀st',SB κ T st'->Cv rk (arrOf st') (pendingOf st').toList 0 lo->(pendingOf st').size+1=(pendingOf st).size->(∀j,lo<=j->(arrOf st')[j]?=(arrOf st)[j]?)->Q Γ st'):wpS (model prog w) A E s (mergeAt' i) Q st:=by
 generalize ep:(pendingOf st).toList=p at cv;have pl:p.length=(pendingOf st).size:=by rw[<-ep];simp
 have s1:p=p.take i++(p[i]::p[i+1]::p.drop (i+2)):=by have e1:p.drop i=p[i]::p.drop (i+1):=List.drop_eq_getElem_cons (by lia);have e2:p.drop (i+1)=p[i+1]::p.drop (i+2):=List.drop_eq_getElem_cons (by lia);rw[<-e2,<-e1,List.take_append_drop]
 generalize x1:p[i]=x at s1;generalize y1:p[i+1]=y at s1;have gx:(pendingOf st)[i]?=Φ x:=by rw[<-ϔ,ep,getElem?_eq_getElem (by lia),x1]
 have gy:(pendingOf st)[i+1]?=Φ y:=by rw[<-ϔ,ep,getElem?_eq_getElem (by lia),y1]
 rw[s1]at cv;obtain⟨c,v1,v2⟩:=Cv.app.mp cv;obtain⟨sa,na,pw⟩:=x;obtain⟨sb,nb,z⟩:=y;obtain⟨w1,w2,w3,w4,w5,w6,w7⟩:=v2;dsimp only at w1 w2 w3 w4 w5 w6 w7;subst w1 w4;have le:=w7.le;refine ziD hc u b gx gy ⟨w2,w5,by lia,w3,w6⟩ λst' b' pe fr so=>?_;have l0:(p.take i).length=i:=by simp;lia
 have ee:(pendingOf st').toList=p.take i++((sa,na+nb,pw)::p.drop (i+2)):=by
  rw[pe,Array.toList_eraseIdxIfInBounds,Array.toList_setIfInBounds,ep];conv=>lhs;rw[s1]
  rw[List.set_append_right _ _ (by lia),l0,Nat.sub_self,List.set_cons_zero,List.eraseIdx_append_of_length_le (by lia),l0,Nat.add_sub_cancel_left];rfl
 refine h st' b' ?_ ?_ λj hj=>fr j (.inr (by lia));rw[ee];refine Cv.app.mpr ⟨sa,v1.congr λi _ h2=>fr i (.inl h2),rfl,by dsimp only;lia,?_,?_⟩;rw[<-Nat.add_assoc];exact so;rw[<-Nat.add_assoc];exact w7.congr λi h1 h2=>fr i (.inr h1);rw[<-length_toList,ee,<-pl];simp;lia
structure SR(κ:SortKind)(rk:Keyed->Int)(T:List Keyed)(lo:Nat)(st:SortSt):Prop where
 b:SB κ T st
 cv:Cv rk (arrOf st) (pendingOf st).toList 0 lo
theorem SR.push{lo n:Nat}(r:SR κ rk T lo st)(h1:1<=n)(so:So rk (arrOf st) lo (lo+n)):SR κ rk T (lo+n) (setPending st ((pendingOf st).push (lo,n,0))):=by refine⟨⟨r.b.perm,r.b.kind,r.b.failed⟩,?_⟩;rw[Array.toList_push];exact Cv.app.mpr ⟨lo,r.cv,rfl,h1,so,rfl⟩
theorem SR.mod{lo i:Nat}{f:Nat×Nat×Nat->Nat×Nat×Nat}(r:SR κ rk T lo st)(hf:∀r,(f r).1=r.1/\(f r).2.1=r.2.1):SR κ rk T lo (setPending st ((pendingOf st).modify i f)):=by refine⟨⟨r.b.perm,r.b.kind,r.b.failed⟩,?_⟩;rw[Array.toList_modify];exact Cv.modify hf r.cv
theorem znt{z lo n:Nat}{body:Nat->Option Unit×Unit->StateT SortSt Sem (ForInStep (Option Unit×Unit))}{Q:Option Unit×Unit->SortSt->Prop}(hc:Looks prog w A s κ rk T)(u:(T.map rk).Nodup)(r:SR κ rk T lo st)(hl:lo+n<=T.length)(so:So rk (arrOf st) lo (lo+n))
  (hb:∀x (R:ForInStep (Option Unit×Unit)->SortSt->Prop) st,((pendingOf st).size>1->wpS (model prog w) A E s (mergeAt' ((pendingOf st).size-2)) (λo st'=>o=Γ/\R (.yield (Ψ,())) st') st)->R (.done (Ψ,())) st->wpS (model prog w) A E s (body x (Ψ,())) R st)
  (h:∀st',SR κ rk T lo st'->So rk (arrOf st') lo (lo+n)->Q (Ψ,()) st'):wpS (model prog w) A E s (forIn [0:z] ((Ψ,()):Option Unit×Unit) body) Q st:=by
 refine Ϟ (ϙ (I:=λ_ c st'=>c=(Ψ,())/\SR κ rk T lo st'/\So rk (arrOf st') lo (lo+n)) (Q:=λc st'=>c=(Ψ,())/\SR κ rk T lo st'/\So rk (arrOf st') lo (lo+n)) ?_ (λ_ _ z=>z) ⟨rfl,r,so⟩) ?_;rintro x c st' _ _ ⟨rfl,r,so⟩;refine hb x _ st' (λe=>?_) ⟨rfl,r,so⟩;exact zfJ hc u r.b (by lia) r.cv (by lia) λst2 b2 c2 _ fr=>⟨rfl,rfl,⟨b2,c2⟩,so.congr λi h1 _=>fr i h1⟩;rintro c st' ⟨rfl,r,so⟩;exact h st' r so
theorem runs_wp{Q:Unit->SortSt->Prop}(hc:Looks prog w A s κ rk T)(u:(T.map rk).Nodup)(b:SB κ T st)(pe:pendingOf st = #[])(h2:2<=T.length)
  (h:∀st',SB κ T st'->So rk (arrOf st') 0 T.length->Q () st'):wpS (model prog w) A E s sortRuns' Q st:=by
 rw[sortRuns'_eq];refine Η (wpS_get ?_);dsimp only;rw[b.size];generalize minRun' T.length T.length 0=mr;refine Η (Ϟ (ϙ (I:=λx c st'=>∃lo,c=(Ψ,lo)/\(x<=lo\/T.length<=lo)/\lo<=T.length/\SR κ rk T lo st') (Q:=λc st'=>c=(Ψ,T.length)/\SR κ rk T T.length st') ?_ ?_ ⟨0,rfl,.inl (le_refl _),zero_le _,b,by rw[pe];rfl⟩) ?_);rintro x c st' _ hx ⟨lo,rfl,l1,l2,r⟩;dsimp only;by_cases e:lo≥T.length;rw[if_pos e];obtain rfl:lo=T.length:=by lia
 exact Κ ⟨rfl,r⟩;rw[if_neg e];refine Η (zmA hc u r.b (by lia) (by lia) λm st2 b2 p2 bl m1 m2 so=>?_);have r2:SR κ rk T lo st2:=⟨b2,by rw[p2];exact r.cv.congr λi _ h=>bl i h⟩;dsimp only;by_cases e2:m<mr;rw[if_pos e2];refine Η (wpS_lift (ϧ ⟨rfl,?_⟩));refine Η (zk0 hc u b2 m1 (by lia) (by lia) so λst3 b3 p3 bl3 so3=>?_);have r3:SR κ rk T lo st3:=⟨b3,by rw[p3];exact r2.cv.congr λi _ h=>bl3 i h⟩;rw[if_neg (by simp)];refine Η (wpS_get ?_);cases(pendingOf st3).back? with|none=>exact Η (ϥ (Κ ⟨_,rfl,by lia,by lia,SR.push r3 (by lia) so3⟩))| some x=>obtain⟨s1,n1,x⟩:=x;dsimp only;refine Η (znt hc u r3 (n:=min (T.length-lo) mr) (by lia) so3 (λx R st h1 h2=>?_) λst4 r4 so4=>?_);refine Η (wpS_get ?_);by_cases e:(pendingOf st).size>1;rw[if_pos e,getElem?_pos (pendingOf st) _ (by lia)];generalize(pendingOf st)[(pendingOf st).size-2]=v;obtain⟨_,_,o⟩:=v;dsimp only;split;exact Κ h2;refine Η (Ϟ (h1 e) ?_);rintro o st ⟨rfl,z⟩;exact Κ z;rw[if_neg e];exact Κ h2;refine Η (ϥ (Η (ϥ (Κ ⟨_,rfl,by lia,by lia,SR.push (SR.mod r4 λ_=>⟨rfl,rfl⟩) (by lia) so4⟩))))
 rw[if_neg e2];refine Η (wpS_get ?_);cases(pendingOf st2).back? with|none=>exact Η (ϥ (Κ ⟨_,rfl,by lia,by lia,SR.push r2 m1 so⟩))| some x=>obtain⟨s1,n1,x⟩:=x;dsimp only;refine Η (znt hc u r2 (n:=m) (by lia) so (λx R st h1 h2=>?_) λst4 r4 so4=>?_);refine Η (wpS_get ?_);by_cases e:(pendingOf st).size>1;rw[if_pos e,getElem?_pos (pendingOf st) _ (by lia)];generalize(pendingOf st)[(pendingOf st).size-2]=v;obtain⟨_,_,o⟩:=v;dsimp only;split;exact Κ h2;refine Η (Ϟ (h1 e) ?_);rintro o st ⟨rfl,z⟩;exact Κ z;rw[if_neg e];exact Κ h2;refine Η (ϥ (Η (ϥ (Κ ⟨_,rfl,by lia,by lia,SR.push (SR.mod r4 λ_=>⟨rfl,rfl⟩) m1 so4⟩))))
 rintro c st' ⟨lo,rfl,l1,l2,r⟩;obtain rfl:lo=T.length:=by lia
 exact⟨rfl,r⟩;rintro c st' ⟨rfl,r⟩;dsimp only;have e0:=r.cv.le;simp only[length_toList,zero_add]at e0;refine Η (Ϟ (ϙ (I:=λx c st'=>c=(Ψ,())/\((pendingOf st').size<=1\/(pendingOf st').size+x<=T.length)/\SR κ rk T T.length st') (Q:=λc st'=>c=(Ψ,())/\(pendingOf st').size<=1/\SR κ rk T T.length st') ?_ ?_ ⟨rfl,.inr e0,r⟩) ?_);rintro x c st' _ hx ⟨rfl,l1,r⟩;refine Η (wpS_get ?_);by_cases e:(pendingOf st').size<=1;rw[if_pos e];exact Κ ⟨rfl,e,r⟩
 . rw[if_neg e];refine Η (zfJ hc u r.b (le_refl _) r.cv ?_ λst2 b2 c2 z2 _=>Κ ⟨rfl,.inr (by lia),b2,c2⟩);generalize Option.any _ _=bb;cases bb<;>simp only[Ρ,if_true,if_false]<;>lia
 rintro c st' ⟨rfl,l1,r⟩;exact⟨rfl,by lia,r⟩
 . rintro c st' ⟨rfl,l1,r⟩;refine Κ (h st' r.b ?_);have cv:=r.cv;have pl:(pendingOf st').toList.length<=1:=by simpa using l1
   match e:(pendingOf st').toList,pl with| [],_=>rw[e]at cv;have:0=T.length:=cv;lia| [p],_=>rw[e]at cv;obtain⟨_,_,so,e'⟩:=cv;have e':0+p.2.1=T.length:=e';rw[e']at so;exact so
end
end Sr
end R
namespace R
open PySem PySem.Spec PyProof.Rows L2
section
variable{ρ:Type}{lt:ρ->ρ->Prop}[DecidableRel lt]
noncomputable def rkG(lt:ρ->ρ->Prop)[DecidableRel lt](rows:List ρ)(k:ρ):Int:=((rows.filter λx=>decide (lt x k)).length:Nat)
structure Ord(lt:ρ->ρ->Prop):Prop where
 irr:∀r,¬lt r r
 tra:∀{a b c},lt a b->lt b c->lt a c
 tot:∀{a b},a≠b->lt a b\/lt b a
theorem zhy(o:Ord lt)(c:a∈rows)(h:lt a b):rkG lt rows a<rkG lt rows b:=by unfold rkG;have:=zf3 (p:=λx=>decide (lt x a)) (q:=λx=>decide (lt x b)) (l:=rows) (a:=a) (λx _ d=>decide_eq_true (o.tra (of_decide_eq_true d) h)) c (decide_eq_false (o.irr a)) (decide_eq_true h);lia
theorem zju(o:Ord lt)(c:a∈rows)(d:b∈rows):lt a b↔rkG lt rows a<rkG lt rows b:=by refine⟨zhy o c,λh=>?_⟩;by_cases e:a=b;subst e;lia;rcases o.tot e with z|z;exact z;have:=zhy o d z;lia
theorem zn8(o:Ord lt)(c:a∈rows)(d:b∈rows)(h:rkG lt rows a=rkG lt rows b):a=b:=by by_cases e:a=b;exact e;rcases o.tot e with z|z;have:=zhy o c z;lia;have:=zhy o d z;lia
end
variable[Mks]
section
variable{ρ:Type}[Inhabited ρ]{lt:ρ->ρ->Prop}[DecidableRel lt]{RA KA:Hp->Addr->ρ->Prop}{κ:SortKind}
variable{X:Cx}{pins:List (Addr×Obj)}{σ:L2.St}{H:Hp}{s:Ζ}{A':ϑ}{f D kS:Addr}{rows:List ρ}
structure SortK(X:Cx)(pins:List (Addr×Obj))(σ:L2.St)(A':ϑ)(H:Hp)(f:Addr)(RA KA:Hp->Addr->ρ->Prop)(κ:SortKind)(lt:ρ->ρ->Prop)[DecidableRel lt]:Prop where
 upR:∀{H1 H2 a r},Kp H1 H2->RA H1 a r->RA H2 a r
 upK:∀{H1 H2 b r},Kp H1 H2->KA H1 b r->KA H2 b r
 call:∀{H1 s1 a r},Inv X pins σ H1 s1->Ext [] H [] H1->RA H1 a r->wpAny (model X.prog X.w) A' (call (.ref f) [.ref a]) (λy s'=>∃b H',y=.ref b/\Inv X pins σ H' s'/\KA H' b r/\Ext [] H1 [] H'/\Un (frs X.stack) [] H1 H' s1.heap s'.heap) (λ_ _=>False) s1
 kind:∀{H1 s1}{ks:List Θ}{Q:SortKind->Ζ->Prop}{E:Θ->Ζ->Prop},Inv X pins σ H1 s1->(∀k∈ks,∃b r,k=Θ.ref b/\KA H1 b r)->1<=ks.length->Q κ s1->wpAny (model X.prog X.w) A' (keyKind' ks.toArray) Q E s1
 less:∀{H1 s1 b c r r'}{Q:Bool->Ζ->Prop}{E:Θ->Ζ->Prop},Inv X pins σ H1 s1->KA H1 b r->KA H1 c r'->Q (decide (lt r r')) s1->wpAny (model X.prog X.w) A' (keyLt' κ (.ref b) (.ref c)) Q E s1
 ord:Ord lt
 fn:∀{H1 b r r'},KA H1 b r->KA H1 b r'->r=r'
structure KeyG(KA:Hp->Addr->ρ->Prop)(rows:List ρ)(H:Hp)(ks:List Θ)(i:Nat):Prop where
 len:ks.length=i
 at_:∀(j:Nat)(k:Θ),ks[j]?=Φ k->∃(b:Addr) (r:ρ),rows[j]?=Φ r/\k=Θ.ref b/\KA H b r
theorem KeyG.snoc(e:SortK X pins σ A' H f RA KA κ lt)(K:KeyG KA rows g ks i)(x:Ext [] g [] d)(l:rows[i]?=Φ r)(m:KA d b r):KeyG KA rows d (ks++[.ref b]) (i+1):=by
 refine⟨by simp[K.len],λj k a=>?_⟩;by_cases h:j<ks.length;rw[getElem?_append_left h]at a;obtain⟨c,q,n,o,p⟩:=K.at_ j k a;exact⟨c,q,n,o,e.upK x.kp p⟩;rw[getElem?_append_right (by lia)]at a;have:j=ks.length:=by have:=(Α.mp a).1;simp at this;lia
 subst this;simp at a;exact⟨b,r,by rw[K.len];exact l,a.symm,m⟩
structure KJG(KA:Hp->Addr->ρ->Prop)(X:Cx)(pins:List (Addr×Obj))(σ:L2.St)(H:Hp)(D kS:Addr)(e1:Nat)(rows:List ρ)(i:Nat)(s':Ζ):Prop where
 ex:∃H' ks e,Inv X pins σ H' s'/\Ext [] H [] H'/\H' D=Ψ/\H' kS=Ψ/\zgo s' D [] e1/\zgo s' kS ks e/\KeyG KA rows H' ks i
theorem zmh(Sk:SortK X pins σ A' H f RA KA κ lt){e1 i:Nat}{a:Addr}{r:ρ}(oD:Own X pins D)(oK:Own X pins kS)(ne:D≠kS)(ha:RA H a r)(hri:rows[i]?=Φ r)(hi:i<1000){s':Ζ}(J:KJG KA X pins σ H D kS e1 rows i s'){items:Array Θ} :
  wpAny (model X.prog X.w) A' (do
   match <-(call (.ref f) [.ref a]).attempt with
   |.ok k=>Builtin.List.listUpdate (.ref kS) (·.push k);pure (ForInStep.yield PUnit.unit)| .error e=>
    rule "list.sort.key-raised"
    let made <-Builtin.List.listItems (.ref kS)
    Builtin.List.listUpdate (.ref kS) λ_=>#[]
    letGo made.toList.reverse [e]
    Builtin.List.listUpdate (.ref D) λ_=>items;throw e) (λq s''=>q=.yield ⟨⟩/\KJG KA X pins σ H D kS e1 rows (i+1) s'') (λ_ _=>False) s':=by
 obtain⟨H1,ks,e,I,x,d1,k1,lD,lK,kl⟩:=J.ex;refine Ξ (wpAny_attempt (ϕ (Sk.call I x (Sk.upR x.kp ha)) ?_ λ_ _ z=>z.elim));rintro y s2 ⟨b,H2,rfl,I2,hb2,x2,un⟩;have D2:=un.keep D _ lD d1 (oD.stk I) (by simp);have K2:=un.keep kS _ lK k1 (oK.stk I) (by simp);have hz:ks.length=i:=kl.len;show wpAny _ _ (Builtin.List.listUpdate (.ref kS) (·.push (.ref b))>>=λ_=>pure (ForInStep.yield PUnit.unit)) _ _ s2;refine Ξ (listUpdate_at K2 rfl (Β ⟨rfl,?_⟩) (by rw[size_toArray,ϋ];lia) (by rw[Array.size_push,size_toArray,ϋ];lia));obtain⟨e',l'⟩:=zeR (us:=ks++[.ref b]) K2 (·.push (.ref b)) (by simp);refine⟨H2,ks++[.ref b],e',?_,x.trans x2,un.free D _ lD d1 (by simp),un.free kS _ lK k1 (by simp),zbZ ne D2,l',kl.snoc Sk x2 hri hb2⟩;exact zaW I2 (ch:=[kS]) (λb hb=>by rw[mem_singleton.mp hb];exact oK) (λb hb=>by rw[mem_singleton.mp hb];exact un.free kS _ lK k1 (by simp)) (λb o hb q=>zbZ (by simpa using hb) q) I2.bare
theorem zpO{st}(d:(arrOf st).map (·.2)=out.toArray)(hz:out.length<1000)(hi:i<1000)(m:failedOf st=Ψ)(oD:Own X pins D)(n:Own X pins kS)(p:D≠kS)(J:KJG KA X pins σ H D kS j rows i s)(h:∀k,KEnd X pins σ H D out k->P (.done (.ret .none)) k):wpAny (model X.prog X.w) A' (ksk_tail D Δ j (.ref kS) st) P E s:=by
 obtain⟨r,t,e,I,x,l,u,v,w,y⟩:=J.ex;have C:t.length<1000:=by rw[y.len];exact hi
 have z:=zaW (h':=s.heap.update kS (Obj.mapSeq λ_=>#[])) (g':=s.gens) (t':=s.toks) (d':=s.drawn) (ch:=[kS]) I (λb a=>by rw[mem_singleton.mp a];exact n) (λb a=>by rw[mem_singleton.mp a];exact u) (λb o a q=>zbZ (by simpa using a) q) I.bare;have c:zgo {s with heap:=s.heap.update kS (Obj.mapSeq λ_=>#[])} D [] j:=zbZ p v;obtain⟨A,g⟩:=zeR (us:=out) c (λ_=>out.toArray) rfl;have B:=zaW (h':=(s.heap.update kS (Obj.mapSeq λ_=>#[])).update D (Obj.mapSeq λ_=>out.toArray)) (g':=s.gens) (t':=s.toks) (d':=s.drawn) (ch:=[D]) z (λb a=>by rw[mem_singleton.mp a];exact oD) (λb a=>by rw[mem_singleton.mp a];exact l) (λb o a q=>zbZ (by simpa using a) q) I.bare;unfold ksk_tail;rw[d,m];refine Ξ (listUpdate_at w rfl (Ξ (wpAny_letGo (Ξ (seqEpoch_at c rfl (Ξ (listUpdate_at c rfl ?_ (by simp) (by simp only[Ρ,if_false,size_toArray,ϋ];lia))))))) (by rw[size_toArray,ϋ];lia) (by simp));simp only[bne_self_eq_false,Ρ,if_false];exact Β (h _ ⟨r,A,B,x,l,g⟩)
structure PlcG(lt:ρ->ρ->Prop)(rows:List ρ)(p:List Nat):Prop where
 lt':∀i∈p,i<rows.length
 asc:(p.map λi=>rows.getD i default).Pairwise lt
 perm:p.Perm (List.range rows.length)
theorem endG(t:SortK X pins σ A' H f RA KA κ lt){vs:List Θ}(hl:vs.length=rows.length)(o:rows.length<1000)(nd:rows.Nodup)(oD:Own X pins D)(oK:Own X pins kS)(O:D≠kS)(J:KJG KA X pins σ H D kS e1 rows rows.length s)(h:∀p q,PlcG lt rows p->KEnd X pins σ H D (p.map λi=>vs.getD i Θ.none) q->P (.done (.ret .none)) q):
  wpAny (model X.prog X.w) A' (Builtin.List.listItems (.ref kS)>>=λv=>ksk_end D Δ vs.toArray e1 (.ref kS) v) P E s:=by
 obtain⟨H1,d,e,I,x,d1,k1,lD,lK,kl⟩:=id J.ex;refine Ξ (listItems_at lK rfl ?_);unfold ksk_end;simp only[Ρ,if_false];have B:d.length=vs.length:=by rw[kl.len,hl]
 by_cases u:vs.toArray.size<2;rw[if_pos u,if_pos u];have h2':rows.length<2:=by rw[<-hl];simpa using u
 refine Ξ (Β (Ξ ?_));rw[StateT.run_pure];have eo:(arrOf (SortSt.mk' general' (d.toArray.zip vs.toArray) #[] 7 Ψ)).map (·.2)=vs.toArray:=by show((d.toArray.zip vs.toArray).map (·.2))=vs.toArray;apply Array.toList_inj.mp;rw[Array.toList_map,ksk_zip];show(d.zip vs).map Prod.snd=vs;exact List.map_snd_zip (by lia)
 have er:((List.range rows.length).map λi=>vs.getD i Θ.none)=vs:=by apply List.ext_getElem;simp[hl];intro i U Y;simp[Y]
 refine Β (zpO (i:=rows.length) eo (by lia) o rfl oD oK O J λq K=>h (List.range rows.length) q ⟨λi l=>mem_range.mp l,?_,List.Perm.refl _⟩ (by rw[er];exact K));rw[pairwise_map,List.pairwise_iff_getElem];intro i j l m G;simp at l m;lia
 . have h2':2<=vs.length:=by simpa using u
   rw[if_neg u,if_neg u];have hk:∀k∈d,∃b r,k=Θ.ref b/\KA H1 b r:=λk hm=>by obtain⟨j,m⟩:=List.mem_iff_getElem?.mp hm;obtain⟨b,r,_,q1,q2⟩:=kl.at_ j k m;exact⟨b,_,q1,q2⟩
   refine Ξ (t.kind I hk (by lia) ?_)
   classical
   have tl:(d.zip vs).length=rows.length:=by rw[List.length_zip,B];lia
   have n:∀i (h:i<(d.zip vs).length),∃b,(d.zip vs)[i].1=Θ.ref b/\KA H1 b (rows.getD i default):=λi h=>by obtain⟨b,r,L,M,b3⟩:=kl.at_ i _ (getElem?_eq_getElem (show i<d.length by lia));refine⟨b,?_,?_⟩;rw[List.getElem_zip];exact M;rw[show rows.getD i default=r by rw[ό,L];rfl];exact b3
   have mr:∀i,i<(d.zip vs).length->rows.getD i default∈rows:=λi h=>mem_of_getElem? (getD_mem default (by lia));have ix:∀i (h:i<(d.zip vs).length),(d.zip vs).idxOf (d.zip vs)[i]=i:=λi h=>by have h':(d.zip vs).idxOf (d.zip vs)[i]<(d.zip vs).length:=List.idxOf_lt_length_of_mem (List.getElem_mem h);have e:=List.getElem_idxOf h';obtain⟨b,L,M⟩:=n i h;obtain⟨c,c1,c2⟩:=n _ h';rw[e,L]at c1;cases c1;have e2:=t.fn M c2;have q1:=getD_mem (default:ρ) (show i<rows.length by lia);have q2:=getD_mem (default:ρ) (show(d.zip vs).idxOf (d.zip vs)[i]<rows.length by lia);rw[e2,<-q2]at q1;exact((List.getElem?_inj (by lia) nd).mp q1).symm
   have sz:(SortSt.mk' κ (d.toArray.zip vs.toArray) #[] 7 Ψ)=SortSt.mk' κ (d.zip vs).toArray #[] 7 Ψ:=by congr 1;apply Array.toList_inj.mp;rw[ksk_zip]
   rw[sz];have rw1:=Sr.runs_wp (prog:=X.prog) (w:=X.w) (A:=A') (E:=E) (s:=s) (κ:=κ) (T:=d.zip vs) (rk:=λx=>rkG lt rows (rows.getD ((d.zip vs).idxOf x) default)) (st:=SortSt.mk' κ (d.zip vs).toArray #[] 7 Ψ)
    (Q:=λ_ g=>Sr.SB κ (d.zip vs) g/\Sr.So (λx=>rkG lt rows (rows.getD ((d.zip vs).idxOf x) default)) (arrOf g) 0 (d.zip vs).length) (λx y C N hy hC=>?_) ?_ ⟨List.Perm.refl _,rfl,rfl⟩ rfl (by lia) λg b so=>⟨b,so⟩
   refine Ξ (ϕ rw1 ?_ λ_ _ z=>z);rintro⟨⟨⟩,g⟩ q ⟨rfl,b,so⟩;have as:(arrOf g).size=rows.length:=b.size.trans tl;have am:∀i (h:i<(arrOf g).size),(d.zip vs).idxOf (arrOf g)[i]<(d.zip vs).length:=λi h=>List.idxOf_lt_length_of_mem (b.mem h);have ndT:(d.zip vs).map (d.zip vs).idxOf=List.range (d.zip vs).length:=by apply List.ext_getElem;simp;intro i U Y;rw[List.getElem_map,List.getElem_range];exact ix i (by simpa using U)
   refine zpO (i:=rows.length) (out:=((arrOf g).toList.map (d.zip vs).idxOf).map λi=>vs.getD i Θ.none) ?_ ?_ o b.failed oD oK O J λq K=>h ((arrOf g).toList.map (d.zip vs).idxOf) q ⟨λi l=>?_,?_,?_⟩ K;apply Array.toList_inj.mp;rw[Array.toList_map,map_map];refine Ο λx N=>?_;have xm:=b.perm.mem_iff.mp N;have hl':=List.idxOf_lt_length_of_mem xm;have e:=List.getElem_idxOf hl';show x.2=vs.getD ((d.zip vs).idxOf x) Θ.none;have:(d.zip vs)[(d.zip vs).idxOf x].2=vs[(d.zip vs).idxOf x]'(by lia):=by rw[List.getElem_zip]
   rw[e]at this;rw[this,ό,getElem?_eq_getElem];rfl;simp[as];exact o;obtain⟨x,N,rfl⟩:=mem_map.mp l;have:=List.idxOf_lt_length_of_mem (b.perm.mem_iff.mp N);lia;rw[map_map,pairwise_map,List.pairwise_iff_getElem];intro i j l m G;simp only[length_toList]at l m;have:=so i j (zero_le _) G (by lia);rw[Sr.Kr_at l,Sr.Kr_at m]at this;simp only[ϓ];exact(zju t.ord (mr _ (am i l)) (mr _ (am j m))).mpr this;have:=b.perm.map (d.zip vs).idxOf;rw[ndT,tl]at this;exact this;obtain⟨i,l,rfl⟩:=List.mem_iff_getElem.mp N;obtain⟨j,m,rfl⟩:=List.mem_iff_getElem.mp hy;obtain⟨b,L,M⟩:=n i l;obtain⟨c,c1,c2⟩:=n j m;rw[L,c1];refine t.less I M c2 ?_;have:decide (lt (rows.getD i default) (rows.getD j default))=decide ((λx=>rkG lt rows (rows.getD ((d.zip vs).idxOf x) default)) (d.zip vs)[i]<(λx=>rkG lt rows (rows.getD ((d.zip vs).idxOf x) default)) (d.zip vs)[j]):=by apply Bool.eq_iff_iff.mpr;rw[decide_eq_true_eq,decide_eq_true_eq];dsimp only;rw[ix i l,ix j m];exact zju t.ord (mr i l) (mr j m)
   rw[this];exact hC;have e:(d.zip vs).map (λx=>rkG lt rows (rows.getD ((d.zip vs).idxOf x) default))=rows.map (rkG lt rows):=by apply List.ext_getElem;simp[tl];intro i U Y;rw[List.getElem_map,List.getElem_map,ix i (by simpa using U),ό,getElem?_eq_getElem (by simpa using Y)];rfl
   rw[e,List.nodup_iff_pairwise_ne,pairwise_map];exact nd.imp_of_mem λ{a b} ha hb O e=>O (zn8 t.ord ha hb e)
theorem zsA{as:List Addr}(m:SortK X pins σ A' H f RA KA κ lt)(n:as.length=rows.length)(g:rows.length<1000)(u:rows.Nodup)(oD:Own X pins D)(o:Own X pins kS)(q:D≠kS)(w:∀(j:Nat)(a:Addr),as[j]?=Φ a->∃r:ρ,rows[j]?=Φ r/\RA H a r)(J:KJG KA X pins σ H D kS t rows 0 s)(h:∀p b,PlcG lt rows p->KEnd X pins σ H D (p.map λi=>(as.map Θ.ref).getD i Θ.none) b->P (.done (.ret .none)) b):
  wpAny (model X.prog X.w) A' (ksk_rest D (.ref f) Δ (as.map Θ.ref).toArray t (.ref kS)) P E s:=by
 unfold ksk_rest;refine Ξ (ϧ ?_);rw[List.forIn_toArray];refine Ξ (ksk_fold (λi b=>KJG KA X pins σ H D kS t rows i b) (as.map Θ.ref) 0 s J (λj v b c d=>?_) λb d=>?_);rw[getElem?_map]at c;cases k:as[j]? with
 |none=>rw[k]at c;exact nS c
 |some a=>rw[k]at c;cases c;obtain⟨r,e,l⟩:=w j a k;have x:=(Α.mp e).1;rw[zero_add]at d⊢;exact ϕ (zmh m oD o q l e (by lia) d (items:=(as.map Θ.ref).toArray)) (λ_ _ z=>z) λ_ _ z=>z.elim
 rw[zero_add,length_map,n]at d;exact endG m (vs:=as.map Θ.ref) (by simpa using n) g u oD o q d h
theorem zsi{as:List Addr}(I:Inv X pins σ H s)(y:SortK X pins σ A' H f RA KA κ lt)(m:as.length=rows.length)(d:rows.length<1000)(z:rows.Nodup)(oD:Own X pins D)(n:H D=Ψ)(g:zgo s D (as.map Θ.ref) M)(A:∀(j:Nat)(a:Addr),as[j]?=Φ a->∃r:ρ,rows[j]?=Φ r/\RA H a r)(h:∀p t,PlcG lt rows p->KEnd X pins σ H D (p.map λi=>(as.map Θ.ref).getD i Θ.none) t->P (.done (.ret .none)) t):wpAny (model X.prog X.w) A' (ksk_tree D (.ref f) Δ) P E s:=by
 obtain⟨N,u⟩:=zeR (us:=[]) g (λ_=>#[]) rfl;have B:D<s.heap.objs.size:=Ι g;have C:=zaW (h':=s.heap.update D (Obj.mapSeq λ_=>#[])) (g':=s.gens) (t':=s.toks) (d':=s.drawn) (ch:=[D]) I (λb c=>by rw[mem_singleton.mp c];exact oD) (λb c=>by rw[mem_singleton.mp c];exact n) (λb o c q=>zbZ (by simpa using c) q) I.bare;have v:∀(e w:Obj) b o,(s.heap.update D (Obj.mapSeq λ_=>#[])).get? b=Φ o->(((s.heap.update D (Obj.mapSeq λ_=>#[])).push e).push w).get? b=Φ o:=λe w b o q=>Ω _ (Ω _ q);have l:∀e:Obj,((s.heap.update D (Obj.mapSeq λ_=>#[])).push e).objs.size=s.heap.objs.size+1:=λe=>by rw[size_push',Heap.size_update]
 have x:(as.map Θ.ref).length<1000:=by rw[length_map,m];exact d
 unfold ksk_tree;refine Ξ (listItems_at g rfl (Ξ (listUpdate_at g rfl (Ξ (seqEpoch_at u rfl (Ξ (wpAny_newTuple (Ξ (wpAny_newList (Ϥ ?_) (zero_le _))) (by rw[ϋ];show(as.map Θ.ref).length<=_;lia))))) (by rw[size_toArray,ϋ];lia) (zero_le _))));have G:=zaW (h':=((s.heap.update D (Obj.mapSeq λ_=>#[])).push (seqObj "tuple" (as.map Θ.ref).toArray 0)).push (seqObj "list" #[] 0)) (g':=s.gens) (t':=s.toks) (d':=s.drawn) (ch:=[]) C (λb c=>by cases c) (λb c=>by cases c) (λb o _ q=>v _ _ b o q) I.bare;have J:Own X pins ((s.heap.update D (Obj.mapSeq λ_=>#[])).push (seqObj "tuple" (as.map Θ.ref).toArray 0)).objs.size:=by rw[l];exact Own.fresh I (le_succ _)
 refine zsA (kS:=((s.heap.update D (Obj.mapSeq λ_=>#[])).push (seqObj "tuple" (as.map Θ.ref).toArray 0)).objs.size) y m d z oD J (by rw[l];exact ne_of_lt (Nat.lt_succ_of_lt B)) A ?_ h;exact⟨H,[],0,G,Ext.refl _ _,n,I.hok.fresh (by rw[l];exact le_succ _),v _ _ _ _ u,Μ _ rfl,rfl,λj k L=>by simp at L⟩
end
end R
namespace R
open PySem PySem.Spec PyProof.Rows L2
section
variable{prog:Υ}{w:ύ}{A:ϑ}{E:Θ->Ζ->Prop}{s:Ζ}
def IsPr(prog:Υ)(w:ύ)(h:Heap)(k:K3)(a:Addr):Prop:=k.1=0/\∃o u b n,h.get? a=Φ o/\o.cls=.type "tuple"/\o.data=.seq #[.ref b,.int k.2.2 u] n/\IsTupleKey (zam prog w) h (k.2.1.map Sum.inl) b
theorem zsE(o:A.units<cLine)(t:IsPr prog w s.heap x a)(u:IsPr prog w s.heap y b)(q:Q (decide (Lt3 x y)) s):
  wpAny (model prog w) A (keyLt' (tuples' Δ) (.ref a) (.ref b)) Q E s:=by
 obtain⟨p,H,I,J,L,l,_,i,c⟩:=t;obtain⟨r,M,N,O,T,m,_,j,d⟩:=u;obtain⟨U,e,f⟩:=x;obtain⟨Y,g,h⟩:=y;dsimp only at i j c d p r;subst p r;refine PySem.W.kat_lt l i m j (kat_cons (wpAny_eqBool_tuple o c d ?_));by_cases k:e=g;rw[show decide ((e.map Sum.inl:List Key)=g.map Sum.inl)=Γ from decide_eq_true (by rw[k])];refine PySem.W.kat_yes (kat_cons (wpAny_eqBool_int ?_));by_cases n:f=h;rw[show(f==h)=Γ by simp[n]];refine PySem.W.kat_yes (PySem.W.kat_nil ?_);rw[decide_eq_false (by subst k n;exact zaS _)]at q;exact q;rw[show(f==h)=Δ by simp[n]];refine kat_no (kat_one _ _ (wpAny_lt_int ?_));have:decide (Lt3 (0,e,f) (0,g,h))=decide (f<h):=by apply Bool.eq_iff_iff.mpr;rw[decide_eq_true_eq,decide_eq_true_eq];subst k;unfold Lt3;dsimp only;rw[zb4];simp
 rw[this]at q;exact q;rw[show decide ((e.map Sum.inl:List Key)=g.map Sum.inl)=Δ from decide_eq_false (λz=>k (zfa z))];obtain⟨i1,v,B⟩:=zeD c;obtain⟨i2,C,G⟩:=zeD d;refine kat_no (kat_one _ _ (HT.lt_tupInts v C B G o ?_));have:decide (Lt3 (0,e,f) (0,g,h))=HT.lexLt e g:=by rw[<-zgR];apply Bool.eq_iff_iff.mpr;rw[decide_eq_true_eq];unfold Lt3;dsimp only;simp[k]
 rw[this]at q;exact q
theorem zjJ:∀{vs:List Θ},(∀v∈vs,∃c k,v=Θ.ref c/\IsPr prog w h k c)->∃a:List Θ,KatTups h vs a/\a.length=vs.length/\∀v∈a,∃(b:Addr) (ks:List Key),v=Θ.ref b/\IsTupleKey (zam prog w) h ks b
 | [],_=>⟨[],KatTups.nil,rfl,λv h=>by cases h⟩| v::vs,e=>by obtain⟨c,k,rfl,z,o,u,b,n,f,g,i,j⟩:=e v (by simp);obtain⟨a,l,m,p⟩:=zjJ (vs:=vs) λx q=>e x (by simp[q]);refine⟨.ref b::a,KatTups.cons f g i rfl l,by simp[m],λv d=>?_⟩;rcases mem_cons.mp d with rfl|d;exact⟨b,_,rfl,j⟩;exact p v d
theorem zoo{vs:List Θ}(d:∀v∈vs,∃c k,v=Θ.ref c/\IsPr prog w s.heap k c)(j:1<=vs.length)(q:Q (tuples' Δ) s):wpAny (model prog w) A (keyKind' vs.toArray) Q E s:=by obtain⟨l,e,m,f⟩:=zjJ d;refine PySem.W.kat_kind (T:=.type "tuple") e (by lia) (λv g=>?_) rfl q;obtain⟨b,p,rfl,o,a,n,h,i,r,t⟩:=f v g;have:PySem.W.Looks (model prog w) s.heap (typeOf (.ref b)) o.cls:=(PySem.W.Looks.ld h).andThen .now;rw[i]at this;exact this
end
def Key2(H:Hp)(c:Addr)(k:K3):Prop:=k.1=0/\∃b,H c=Φ (.tup [.ref b,.int k.2.2])/\H b=Φ (.tup (k.2.1.map V.int))
def Let2(H:Hp)(a:Addr)(k:K3):Prop:=k.1=0/\∃t b w,H a=Φ (.tup [t,.ref b,.int k.2.2,w])/\H b=Φ (.tup (k.2.1.map V.int))
theorem zoW(p:Key2 H c k)(q:Key2 H c f):k=f:=by obtain⟨z,b,g,i⟩:=p;obtain⟨j,l,a,d⟩:=q;rw[g]at a;injection a with a;injection a with a;simp only[List.cons.injEq,V.ref.injEq,V.int.injEq,and_true]at a;obtain⟨rfl,e⟩:=a;rw[i]at d;injection d with d;injection d with d;exact Prod.ext (z.trans j.symm) (Prod.ext ((List.map_inj_right λ_ _ h=>V.int.inj h).mp d) e)
theorem zgT(ok:HOk P w H h)(e:Key2 H c k):IsPr P w h k c:=by obtain⟨z,b,f,g⟩:=e;obtain⟨_,i,d,o,j,l,n,m⟩:=(show ObjOk P w H h c (.tup _) from ok c _ f);cases d with| @cons _ p _ s q d=>cases d with| @cons _ t _ v r d=>cases d;cases(show p=Θ.ref b from q);obtain⟨u,rfl⟩:=r;refine⟨z,o,u,b,n,j,l,m,?_⟩;have:=zc2 (ks:=k.2.1.map Sum.inl) ok (a:=b) (by rw[map_map];exact g);exact this
variable[Mks]
structure KeyBody(body:Expr):Prop where
 ex:∃p1 p2 p3 p4 p5 j1 j2,body=.Subscript (.Name "letter" p1) (.Slice (Φ (.Constant (.int 1) j1 p2)) (Φ (.Constant (.int 3) j2 p3)) Ψ p4) p5
section
variable{X:Cx}{pins:List (Addr×Obj)}{σ:L2.St}{H:Hp}{s:Ζ}{A':ϑ}{f:Addr}{name qual:Str}{params:Arguments}{body:Expr}{scope:Scope}
theorem zmd(I:Inv X pins σ H s)(hr:Room 2 A')(e0:Env0 X.prog X.w X.K X.mg X.base A' X.stack s H)(L:LamAt H f name qual params body scope)(hs:FnScope ["letter"] ["letter"] scope)(hb:∀(pm cd ct u:Θ),bindArgs (kla_fn name qual params body scope [] pm cd ct) ⟨[u],[]⟩=pure [(("letter":Str),u)])(kb:KeyBody body)(ha:Let2 H a k):
  wpAny (model X.prog X.w) A' (call (.ref f) [.ref a]) (λy s'=>∃b H',y=.ref b/\Inv X pins σ H' s'/\Key2 H' b k/\Ext [] H [] H'/\Un (frs X.stack) [] H H' s.heap s'.heap) (λ_ _=>False) s:=by
 obtain⟨pm,ct,c',oc,vs,t,h1,h2,h3,h4⟩:=L.ex;have of:=(I.hok f _ h1).1;have oo:=(I.hok c' _ h2).1;obtain⟨p1,p2,p3,p4,p5,j1,j2,rfl⟩:=kb.ex;obtain⟨z,tt,b0,ww,e1,e2⟩:=ha;refine wpAny_call (codeAny_mono (zoT (CX:=CX0) (E:=λ_ _ _=>False) (Q:=λw H'=>∃b,w=V.ref b/\Key2 H' b k/\Ext [] H [] H') (vs:=[V.ref a]) (us:=[.ref a]) hs hr e0 of ⟨c',oc,vs,t,rfl,oo,h3,h4⟩
  (.of_eq (hb pm _ ct _)) (.cons (show L2.RelV (.ref a) (.ref a) from rfl) .nil) rfl (λhr'=>zhF zmX (zjQ (i:=0) (x:="letter") rfl ((hs.par "letter" (by simp)).elim .inl λq=>.inr (.inl q))) (zgF zjS) (zgF zjS)) ?_) λr s' q=>?_)
 refine⟨.ref a,rfl,1,rfl,3,rfl,a,[tt,.ref b0,.int k.2.2,ww],rfl,.inl (Rd.of e1),(λz=>absurd (show(1:Nat)=0 from z.1) (by decide)),λp hp=>⟨p,rfl,⟨z,b0,zaj,?_⟩,zkG hp⟩⟩;rw[zai (zal e2 hp)];exact e2;cases r with
 |error e=>exact q.elim| ok fl=>
  cases fl with
  |ret y=>
   obtain⟨w,H',os,bare,un,hok,rv,b,rfl,hb',x⟩:=q;cases y with
   |ref z=>
    have:z=b:=by simpa[L2.RelV]using rv
    exact⟨b,H',by rw[this],I.call' os un hok bare (λb z=>absurd z (by simp)),hb',x,un⟩
   |_=>simp[L2.RelV]at rv
  |_=>exact q.elim
theorem ord3:Ord Lt3:=⟨zaS,λh k=>zcu h k,λh=>zfL h⟩
theorem zp4(hr:Room 2 A')(e0:∀H s,Inv X pins σ H s->Env0 X.prog X.w X.K X.mg X.base A' X.stack s H)(L:LamAt H f name qual params body scope)(hs:FnScope ["letter"] ["letter"] scope)
  (hb:∀(pm cd ct u:Θ),bindArgs (kla_fn name qual params body scope [] pm cd ct) ⟨[u],[]⟩=pure [(("letter":Str),u)]) (kb:KeyBody body):SortK X pins σ A' H f Let2 Key2 (tuples' Δ) Lt3 where
 upR:=λk j=>(by obtain⟨z,t,b,w,h1,h2⟩:=j;exact ⟨z,t,b,w,k.tups _ _ h1,k.tups _ _ h2⟩)
 upK:=λk y=>(by obtain⟨z,b,h1,h2⟩:=y;exact ⟨z,b,k.tups _ _ h1,k.tups _ _ h2⟩)
 call:=λI x ha=>zmd I hr (e0 _ _ I) (L.up x.kp) hs hb kb ha
 kind:=λI hk h1 q=>zoo (λv hv=>let ⟨b,r,e,k⟩:=hk v hv;⟨b,r,e,zgT I.hok k⟩) h1 q
 less:=λI h1 h2 q=>zsE (by have:=hr.un;lia) (zgT I.hok h1) (zgT I.hok h2) q
 ord:=ord3
 fn:=zoW
end
section
variable{X:Cx}{pins:List (Addr×Obj)}{σ:L2.St}{H:Hp}{s:Ζ}{f a:Addr}{as:List Addr}{ks:List K3}{name qual:Str}{params:Arguments}{body:Expr}{scope:Scope}
structure Srd(X:Cx)(pins:List (Addr×Obj))(σ:L2.St)(H:Hp)(as:List Addr)(ks:List K3)(D:Addr)(s':Ζ):Prop where
 ex:∃(H':Hp) (p:List Nat),Inv X pins σ H' s'/\Ext [] H [] H'/\H D=Ψ/\PlcG Lt3 ks p/\H' D=Φ (.lst ((p.map λi=>as.getD i 0).map V.ref))
theorem zd9:∀{l:List Addr}{m:List Θ},Vals (l.map V.ref) m->m=l.map Θ.ref
 | [],_,h=>by cases h;rfl| x::l,_,h=>by cases h with|cons b c=>rw[Ν,<-zd9 c,show _=Θ.ref x from b]
theorem zcU:∀l:List Addr,Vals (l.map V.ref) (l.map Θ.ref)
 | []=>.nil|_::l=>.cons rfl (zcU l)
theorem zih(I:Inv X pins σ H s)(hh:X.A.handled=Ψ)(hr:Room 2 X.A.in1.in1)(L:LamAt H f name qual params body scope)(hs:FnScope ["letter"] ["letter"] scope)(hb:∀(pm cd ct u:Θ),bindArgs (kla_fn name qual params body scope [] pm cd ct) ⟨[u],[]⟩=pure [(("letter":Str),u)])(kb:KeyBody body)(hq:SqL X.K H a (as.map V.ref))(hl:as.length=ks.length)(h64:ks.length<1000)(nd:ks.Nodup)(ha:∀(j:Nat)(b:Addr),as[j]?=Φ b->∃k,ks[j]?=Φ k/\Let2 H b k)(q:∀D s',Srd X pins σ H as ks D s'->Q (.ref D) s'):
  wpAny (model X.prog X.w) X.A (call (.builtin "sorted") [.ref a] [(Str.ofString "key",.ref f)]) Q E s:=by
 obtain⟨its,rv,pl,hz⟩:=I.list hq;have ei:=zd9 rv;subst ei;refine call_function_entry_kw kind_sorted plain_sorted entry_sorted (ksk_s1 _ _) ?_;unfold Builtin.«sorted»;refine Ξ (m:=checkCount "sorted" 1 1 _) (Β (Ξ ?_));refine collect_list pl.isList ?_ (by rw[length_map,ϋ];lia);have kp:∀b o,s.heap.get? b=Φ o->((s.heap.push (seqObj "list" #[] 0)).update s.heap.objs.size (Obj.mapSeq (·++(as.map Θ.ref).toArray))).get? b=Φ o:=λb o e=>(Heap.get?_update_other _ _ (ne_of_gt (Ι e))).trans (Ω _ e);have hle:s.heap.objs.size<=((s.heap.push (seqObj "list" #[] 0)).update s.heap.objs.size (Obj.mapSeq (·++(as.map Θ.ref).toArray))).objs.size:=by rw[Heap.size_update,Heap.size_push];exact le_succ _
 generalize(s.heap.push (seqObj "list" #[] 0)).update s.heap.objs.size (Obj.mapSeq (·++(as.map Θ.ref).toArray))=h1 at *;refine Ξ (wpAny_newList ?_ (by rw[length_map,ϋ];lia));have I1:Inv X pins σ H {s with heap:=h1}:=zaW (g':=s.gens) (t':=s.toks) (d':=s.drawn) (ch:=[]) I (λb hb=>by cases hb) (λb hb=>by cases hb) (λb o _ e=>kp b o e) I.bare;have I3:Inv X pins σ H {s with heap:=h1.push (seqObj "list" (as.map Θ.ref).toArray 0)}:=zaW (s:={s with heap:=h1}) (g':=s.gens) (t':=s.toks) (d':=s.drawn) (ch:=[]) I1 (λb hb=>by cases hb) (λb hb=>by cases hb) (λb o _ e=>Ω _ e) I.bare;have lD:zgo {s with heap:=h1.push (seqObj "list" (as.map Θ.ref).toArray 0)} h1.objs.size (as.map Θ.ref) 0:=Μ _ rfl;have oD:Own X pins h1.objs.size:=Own.fresh I1 (le_refl _);have dN:H h1.objs.size=Ψ:=I1.hok.fresh (le_refl _);refine Ξ (Ϥ (wpAny_call_entry_kw slot_list_sort ⟨_,lD,rfl⟩ entry_list_sort ?_ (ksk_l1 _ _)));refine zsi (D:=h1.objs.size) (as:=as) (rows:=ks) I3 (zp4 hr (λH s J=>J.env0.in1.in1) L hs hb kb) hl h64 nd oD dN lD ha λp s' pl ke=>⟨_,rfl,?_⟩;refine Β ⟨_,rfl,q _ s' ?_⟩;obtain⟨H2,e,J,x2,dN2,lst⟩:=ke.ex;have eo:(p.map λi=>(as.map Θ.ref).getD i Θ.none)=(p.map λi=>as.getD i 0).map Θ.ref:=by
  rw[map_map];refine Ο λi hi=>?_;have:=pl.lt' i hi;have gi:i<as.length:=by lia
  simp[gi]
 rw[eo]at lst;have plen:p.length=ks.length:=by rw[pl.perm.length_eq];simp
 exact⟨upd H2 h1.objs.size (.lst ((p.map λi=>as.getD i 0).map V.ref)),p,zfT J oD dN2 ⟨by simp[plen,ϋ];lia,_,e,zcU _,lst⟩,x2.trans (zkG dN2),dN,pl,zaj⟩
end
def SrtK(K:Frag)(Q:VK)(w:V)(c:Hp):Prop:=∃(a:Addr) (e:List Addr) (d:List K3),w=.ref a/\SqL K c a (e.map V.ref)/\e.length=d.length/\d.length<1000/\d.Nodup/\(∀(j:Nat)(b:Addr),e[j]?=Φ b->∃k,d[j]?=Φ k/\Let2 c b k)/\TB c/\
 ∀(D:Addr)(f:Hp)(p:List Nat),Ext [] c [] f->c D=Ψ->PlcG Lt3 d p->f D=Φ (.lst ((p.map λi=>e.getD i 0).map V.ref))->Q (.ref D) f
section
variable{X:Cx}{o:Expr}{p kpos lpos pos:Pos}{td:TE}{c P:Addr}{params:Arguments}{body:Expr}{scope:Scope}
theorem Let2.up(a:Kp H H')(h:Let2 H b k):Let2 H' b k:=let ⟨z,t,b,w,d,e⟩:=h;⟨z,t,b,w,a.tups _ _ d,a.tups _ _ e⟩
theorem SqL.up0{K}(x:Ext [] H [] H')(h:SqL K H a xs):SqL K H' a xs:=by rcases h with (h|⟨o,h⟩)|h;rcases(x.rest a _ (by simp) h).1 with z|⟨⟨_,z⟩,_⟩;exact .inl (.inl z);cases z;rcases(x.rest a _ (by simp) h).1 with z|⟨⟨_,z⟩,_⟩;exact .inl (.inr ⟨o,z⟩);cases z;exact .inr h
theorem zow(ho:PE X o td)(hst:zah o=Γ)(hg:Gl X "sorted")(hm:X.mg "sorted"=Ψ)(hu:Room 2 X.A.in1.in1)(mk:Maker X c P)(hdef:defaultsOf params X.env=([],[]))(hcl:closureFor scope X.env=pure [])(hs:FnScope ["letter"] ["letter"] scope)
  (hb:∀(pm cd ct u:Θ),bindArgs (kla_fn "<lambda>" (X.env.qual ++ "<lambda>") params body scope [] pm cd ct) ⟨[u],[]⟩=pure [(("letter":Str),u)]) (kb:KeyBody body) :
  PE X (.Call (.Name "sorted" p) [o] [⟨Φ "key",.Lambda params body scope lpos,kpos⟩] pos) (λσ H Q=>td σ H (SrtK X.K Q)):=by
 intro pins s σ H Q I h;refine wpAny_Call_Name_kw (zdM I hg hm (by rfl:bootBuiltins "sorted"=Φ (.builtin "sorted")) ?_ (by decide) (by decide));have ha:PA X [o] (zjk td tNil):=zbI ho zfE (zaf hst _ _);have hk:PK X [⟨Φ "key",.Lambda params body scope lpos,kpos⟩] (zjk (tLam (X.env.qual ++ "<lambda>") params body scope) tNil):=zot (zqW mk hdef hcl) zqO;refine PyProof.Rows.callWith_builtin_kwB (by rw[zaf hst];rfl) rfl (PyProof.Rows.evalArgs_kw2 rfl (thn (ha pos pins s σ H (oneK (SrtK X.K Q)) I h) λus s1 v=>?_) (zaf hst _ _));obtain⟨vs,H1,I1,r1,k1⟩:=v;obtain⟨w,rfl,a,as,ks,ew,hq,hl,h64,nd,hla,tb,q1⟩:=zhH k1;subst ew;obtain⟨u,rfl,ru⟩:=Vals.one r1;obtain rfl:u=Θ.ref a:=ru;refine thn (hk pos pins s1 σ H1 (oneK λw2 H2=>∃f,w2=.ref f/\LamAt H2 f "<lambda>" (X.env.qual ++ "<lambda>") params body scope/\Ext [] H1 [] H2) I1 ⟨tb,λf H2 L S=>⟨f,rfl,L,S⟩⟩) λws s2 y=>?_;obtain⟨zs,H2,I2,r2,k2⟩:=y;obtain⟨w2,rfl,f,ef,L,st⟩:=zhH k2;subst ef;obtain⟨u2,rfl,ru2⟩:=Vals.one r2;obtain rfl:u2=Θ.ref f:=ru2;refine zih I2 hu.hd hu L hs hb kb (SqL.up0 st hq) hl h64 nd (λj b e=>let ⟨k,e1,e2⟩:=hla j b e;⟨k,e1,e2.up st.kp⟩) λD s3 tl=>?_;obtain⟨H3,p,I3,x3,dn,pl,dl⟩:=tl.ex;refine⟨.ref D,H3,I3,rfl,q1 D H3 p (st.trans x3) ?_ pl dl⟩;cases e:H1 D with|none=>rfl| some o=>exfalso;have:=(st.rest D o (by simp) e).1;rw[dn]at this;rcases this with z|⟨_,_,z⟩<;>exact nS z
end
set_option backward.match.sparseCases false
noncomputable def lamI(k:Int):Expr->Bool|.Constant (.int i) _ _=>decide (i=k)|_=>Δ
noncomputable def lamV:Expr->Bool|.Name x _=>decide (x="letter")|_=>Δ
noncomputable def lamS:Expr->Bool|.Slice (Φ a) (Φ b) Ψ _=>lamI 1 a&&lamI 3 b|_=>Δ
set_option backward.match.sparseCases true
noncomputable def lamA:List Arg->Bool|[⟨a,Ψ,_⟩]=>decide (a="letter")|_=>Δ
set_option backward.match.sparseCases false in
noncomputable def lamB:Expr->Bool
 |.Lambda ⟨[],b,Ψ,[],[],Ψ,[]⟩ (.Subscript v s _) a _=>lamA b&&(lamV v&&(lamS s&&(decide (a.names=[(("letter":Str),NameKind.local)])&&(decide (a.kind=.function)&&(!a.isCoroutine&&!a.isGenerator)))))
 |_=>Δ
structure LamE(params:Arguments)(body:Expr)(scope:Scope):Prop where
 df:∀env,defaultsOf params env=([],[])
 cl:∀env,closureFor scope env=pure []
 sc:FnScope ["letter"] ["letter"] scope
 bd:∀(q:Str)(pm cd ct u:Θ),bindArgs (kla_fn "<lambda>" q params body scope [] pm cd ct) ⟨[u],[]⟩=pure [(("letter":Str),u)]
 kb:KeyBody body
theorem lamJ{k:Int}{e:Expr}(h:lamI k e=Γ):∃a p,e=.Constant (.int k) a p:=by
 cases e with
 |Constant c a p=>
  cases c with
  |int i=>cases of_decide_eq_true h;exact⟨_,_,rfl⟩
  |_=>cases h
 |_=>cases h
theorem lamC{as:List Arg}(h:lamA as=Γ):∃p,as=[⟨"letter",Ψ,p⟩]:=by
 cases as with
 |nil=>cases h
 |cons a r=>
  obtain⟨a,n,p⟩:=a;cases r with
  |cons _ _=>cases n<;>cases h
  |nil=>
   cases n with
   |some _=>cases h
   |none=>cases of_decide_eq_true h;exact⟨_,rfl⟩
theorem lamW{e:Expr}(h:lamV e=Γ):∃p,e=.Name "letter" p:=by
 cases e with
 |Name x p=>cases of_decide_eq_true h;exact⟨_,rfl⟩
 |_=>cases h
theorem lamT{e:Expr}(h:lamS e=Γ):∃a b p,e=.Slice (Φ a) (Φ b) Ψ p/\lamI 1 a=Γ/\lamI 3 b=Γ:=by
 cases e with
 |Slice a b c p=>
  cases a with
  |none=>cases h
  |some a=>
  cases b with
  |none=>cases h
  |some b=>
  cases c with
  |some _=>cases h
  |none=>exact⟨_,_,_,rfl,(Λ _ _).mp h⟩
 |_=>cases h
theorem zmg(h:lamB e=Γ):∃a c scope d,e=.Lambda a c scope d/\LamE a c scope:=by
 cases e with
 |Lambda j b scope p=>
  obtain⟨k,I,l,m,n,o,r⟩:=j
  cases k with
  |cons _ _=>cases h
  |nil=>
  cases l with
  |some _=>cases h
  |none=>
  cases m with
  |cons _ _=>cases h
  |nil=>
  cases n with
  |cons _ _=>cases h
  |nil=>
  cases o with
  |some _=>cases h
  |none=>
  cases r with
  |cons _ _=>cases h
  |nil=>
  cases b with
  |Subscript v s J=>
   obtain⟨t,h⟩:=(Λ _ _).mp h;obtain⟨w,h⟩:=(Λ _ _).mp h;obtain⟨z,h⟩:=(Λ _ _).mp h;simp only[Λ,decide_eq_true_eq,not_eq_true']at h;obtain⟨f,A,B,C⟩:=h;obtain⟨_,rfl⟩:=lamW w;obtain⟨_,_,_,rfl,E,G⟩:=lamT z;obtain⟨_,_,rfl⟩:=lamJ E;obtain⟨_,_,rfl⟩:=lamJ G;obtain⟨_,rfl⟩:=lamC t;refine⟨_,_,scope,_,rfl,⟨λg=>rfl,λg=>?_,⟨A,B,C,by decide,rfl,λx H=>?_,λy i=>?_⟩,λq L M N u=>rfl,⟨_,_,_,_,_,_,_,rfl⟩⟩⟩;unfold closureFor;rw[f];rfl;rw[mem_singleton.mp H,f];exact .inl (by decide);rw[f]at i;rw[mem_singleton.mp i];decide
  |_=>cases h
 |_=>cases h
section
variable{K:Frag}{ι:List Addr}{H H2:Hp}{S:R.St}
theorem zfV:∀{ds:List D}{xs:List V}{p:List Int},RVs K ι H ds xs->zax ds=Φ p->xs=p.map V.int
 | [],xs,p,r,e=>by cases(show xs=[] from r);simp[zax]at e;subst e;rfl| d::ds,xs,p,r,e=>by
  obtain⟨v,vs,rfl,r1,r2⟩:=r;unfold zax at e;rw[Ϣ]at e;cases d with
  |int i=>
   cases e2:ds.mapM zcz with
   |none=>rw[e2]at e;exact nS e
   |some q=>rw[e2]at e;cases e;rw[zfV r2 (show zax ds=Φ q from e2),show v=.int i from r1];rfl
  |_=>exact nS e
theorem zrp(r:RV K ι H d v)(e:ze5 d=Φ k):∃a,v=.ref a/\Let2 H a k:=by
 cases d with|tup t=>_|_=>exact nS e
 rcases t with _|⟨t,_|⟨y,_|⟨z,_|⟨w,_|_⟩⟩⟩⟩
 any_goals first|exact nS e|(cases y<;>first|exact nS e|(cases z<;>exact nS e))
 cases y with|tup g=>_|_=>exact nS e
 cases z with|int b=>_|_=>exact nS e
 unfold ze5 at e;dsimp only at e;cases f:zax g with
 |none=>rw[f]at e;exact nS e
 |some p=>rw[f]at e;cases e;obtain⟨a,s,rfl,h,u,x,rfl,A,B,C,rfl,i,j,E,rfl,l,G,m,rfl,I,n⟩:=r;cases(show m=[] from n);obtain⟨c,J,rfl,o,q⟩:=i;cases(show j=.int b from l);exact⟨a,rfl,rfl,_,c,_,h,by rw[o,zfV q f]⟩
theorem zj3:∀{ds:List D}{xs:List V}{ks:List K3},RVs K ι H ds xs->ds.mapM ze5=Φ ks->∃as:List Addr,xs=as.map V.ref/\as.length=ks.length/\ds.length=ks.length/\∀(j:Nat)(b:Addr),as[j]?=Φ b->∃k,ks[j]?=Φ k/\Let2 H b k
 | [],xs,ks,r,e=>by cases(show xs=[] from r);simp at e;subst e;exact⟨[],rfl,rfl,rfl,λj b h=>by simp at h⟩| d::ds,xs,ks,r,e=>by
  obtain⟨v,s,rfl,i,l⟩:=r;rw[Ϣ]at e;cases c:ze5 d with
  |none=>rw[c]at e;exact nS e
  |some k=>
   cases f:ds.mapM ze5 with
   |none=>rw[c,f]at e;exact nS e
   |some q=>rw[c,f]at e;cases e;obtain⟨as,rfl,m,n,o⟩:=zj3 l f;obtain⟨a,rfl,p⟩:=zrp i c;refine⟨a::as,rfl,by simp[m],by simp[n],λj b g=>?_⟩;cases j with|zero=>cases g;exact⟨k,rfl,p⟩|succ j=>exact o j b (by simpa using g)
theorem zhc:∀{ks:List K3}{ds:List D}{i:Nat}{k:K3}{d:D},ks.Nodup->ks[i]?=Φ k->ds[i]?=Φ d->(ks.zip ds).lookup k=Φ d
 | [],ds,i,k,d,e,c,f=>by simp at c|a::ks,[],i,k,d,e,c,f=>by simp at f| a::ks,b::ds,0,k,d,e,c,f=>by cases c;cases f;rw[ϐ,ϗ,beq_self_eq_true]| a::ks,b::ds,i+1,k,d,e,c,f=>by
  have g:k∈ks:=mem_of_getElem? (by simpa using c);rw[nodup_cons]at e;have:(k==a)=Δ:=by rw[beq_eq_false_iff_ne];intro z;exact e.1 (z▸g)
  rw[ϐ,ϗ,this];exact zhc e.2 (by simpa using c) (by simpa using f)
theorem zoq(a:ks.Nodup)(d:ds.length=ks.length)(P:PlcG Lt3 ks p):srtD ds ks=p.map λi=>ds.getD i .non:=by
 have e:(p.map λi=>ks.getD i default)=zgu ks:=zdu ((zjP default P.perm).trans (za4 ks).symm) P.asc (zbC a);unfold srtD;rw[<-e,map_map];refine Ο λi b=>?_;have h:=P.lt' i b;have c:i<ds.length:=by lia
 show((ks.zip ds).lookup (ks.getD i default)).getD .non=_;rw[zhc a (getD_mem default h) (getD_mem D.non c)];rfl
theorem RVs.at_{ds:List D}{vs:List V}{i:Nat}{d:D}{v:V}(h:RVs K ι H ds vs)(a:ds[i]?=Φ d)(b:vs[i]?=Φ v):RV K ι H d v:=by
 induction ds generalizing vs i with|nil=>exact nS a|cons _ _ f=>obtain⟨v,vs,rfl,c,e⟩:=h;cases i with|zero=>cases a;cases b;exact c|succ=>exact f e a b
end
theorem RVs.ofGet{K}:∀{ds:List D}{vs:List V},ds.length=vs.length->(∀(i:Nat) d v,ds[i]?=Φ d->vs[i]?=Φ v->RV K ι H d v)->RVs K ι H ds vs
 | [],[],_,_=>rfl| [],_::_,h,_=>by simp at h|_::_,[],h,_=>by simp at h|d::ds,v::vs,h,f=>⟨v,vs,rfl,f 0 d v rfl rfl,RVs.ofGet (by simpa using h) λi a b c e=>f (i+1) a b (by simpa using c) (by simpa using e)⟩
theorem RH.add{K}(h:RH K ι H S)(x:Ext ι H (ι++[p]) H')(e:∀a∈ι,H' a=H a)(f:p∉ι)(g:RO K (ι++[p]) H' p o):RH K (ι++[p]) H' (S.push o):=by
 refine⟨by rw[length_append,h.len,zb0];rfl,?_,λl r q=>?_,x.kp.tab h.tab⟩;rw[nodup_append];refine⟨h.nd,by simp,λa i b d=>?_⟩;simp at d;subst d;exact λz=>f (z▸i);by_cases j:l<S.len;rw[zck j]at q;obtain⟨a,k,m,n⟩:=h.mem q;exact⟨a,zbF (Ϙ _ _) k,m.stay x (e a n)⟩;have c:=get_lt q;rw[zb0]at c;have:l=S.len:=by lia
 subst this;rw[zfb]at q;cases q;exact⟨p,by rw[<-h.len];simp,g⟩
section
variable{T:Tab}{cf:CF}{k:Nat}{N:List Str}{sc:Scope}{X:Cx}{pos p kpos:Pos}
theorem znT(G:Gd T cf k N sc X)(hN:N=T.lam)(hg:Gl X "sorted"/\X.mg "sorted"=Ψ)(he:PE X e (tE X.K cf ca))(A:zah e=Γ)(r:lamB le=Γ):
  PE X (.Call (.Name "sorted" p) [e] [⟨Φ "key",le,kpos⟩] pos) (tE X.K cf (.srtK ca)):=by
 obtain⟨u,body,B,lpos,rfl,L⟩:=zmg r;obtain⟨hk,c,mk⟩:=G.lam hN;have room:Room 2 X.A.in1.in1:=((G.room'.mono (Nat.succ_le_succ hk)).in1).in1;refine PE.imp (zow he A hg.1 hg.2 room mk (L.df _) (L.cl _) L.sc (L.bd _) L.kb) λσ H Qv y=>?_;obtain⟨δ,ι,S,Q,hs,hh,w,q⟩:=y;change W (Out.bind _ _) _ at w;simp only[zaa] at w;refine tE.run hs hh w λd v m H1 C x1 hs1 f r1 w1=>?_;obtain⟨⟨ds,ks⟩,g,n⟩:=zaq w1;cases d with
 |ref l=>
  simp only[zfP]at g;cases E:C.get l with
  |none=>rw[E]at g;exact nS g
  |some o=>
   rw[E]at g;cases o with
   |lst I=>
    dsimp only at g;cases em:I.mapM ze5 with
    |none=>rw[em]at g;exact nS g
    |some ks'=>
     rw[em]at g;cases g;obtain⟨b,i1,rfl⟩:=r1;obtain⟨b',i2,xs,hx,rs⟩:=f.obj l _ E;rw[i1]at i2;cases i2;obtain⟨as,rfl,l1,l2,la⟩:=zj3 rs em;dsimp only at n;split at n;rename_i J;unfold lay at n;split at n;rename_i hz;refine⟨b,as,ks,rfl,SqL.of hx,l1,J.1,J.2,la,f.tab,λs H2 p x hD P h2=>?_⟩;have M:s∉m:=f.fresh hD;have O:Ext m H1 (m++[s]) H2:=⟨Ϙ _ _,x.kp,λa o h e=>⟨(x.rest a o (by simp) e).1,λz=>by rcases mem_append.mp z with z|z;exact h z;simp at z;exact zal e hD z⟩⟩;refine q _ _ ⟨.ref C.len,m++[s],C.push (.lst (srtD ds ks)),x1.trans O,⟨s,f.last s,rfl⟩,f.add O (λa hm=>?_) M ⟨_,h2,?_⟩,n⟩;obtain⟨o,e,_,_,nt⟩:=f.live hm;rw[e];exact x.keep (by simp) e nt;rw[zoq J.2 l2 P];refine RVs.ofGet (by simp) λi d w t U=>?_;rw[getElem?_map]at t;rw[getElem?_map,getElem?_map]at U;cases Y:p[i]? with
     |none=>rw[Y]at t;exact nS t
     |some j=>rw[Y]at t U;cases t;cases U;have hj:=P.lt' j (mem_of_getElem? Y);have:=RVs.at_ rs (getD_mem D.non (show j<ds.length by lia)) (by rw[getElem?_map,getD_mem 0 (show j<as.length by lia)];rfl);exact(this.ext O)
     exact n.elim;exact n.elim
   |_=>exact nS g
 |_=>exact nS g
end
end R
namespace R
open PySem PySem.Spec PyProof.Rows L2
section
variable{X:Cx}{o e f:Expr}{apos cpos:Pos}{td ty tv:TE}
def zpR(td ty tv:TE):TE:=λc H Q=>td c H λx g=>∃a,x=.ref a/\IsD g a/\ty c g λy h=>tv c h λv d=>∃b k,d a=Φ (.dK b)/\y=.int k/\(∀u,valV b (.inl k)=Φ u->Q u d)/\(valV b (.inl k)=Ψ->b.length<sizeLine/\Q v (upd d a (.dK (putK b (.inl k) v))))
theorem zlY(N:PE X o td)(n:PE X e ty)(O:PE X f tv)(m:M2 X o "setdefault" apos e f cpos):PE X (.Call (.Attribute o "setdefault" apos) [e,f] [] cpos) (zpR td ty tv):=by
 intro b s p H Q I h;refine wpAny_Call_method m.base m.few m.line PySem.F.plainAttrs_dict PySem.F.slot_dict_setdefault PySem.F.type_dict_setdefault (thn (N b s p H _ I h) λu T j=>?_);obtain⟨x,U,B,Y,a,ex,d,q1⟩:=j;subst ex;obtain rfl:u=Θ.ref a:=Y;obtain⟨t1,t2,_⟩:=zkn B d;refine⟨t1,t2,?_⟩;rw[m.trees];refine Calls.callWith_builtin rfl (Calls.evalArgs_plain (ϛ (thn (n b T p U _ B q1) λiv s2 z=>eY z λy H2 I2 ry q2=>ϛ (thn (O b s2 p H2 _ I2 q2) λfv s3 ⟨v,C,t,E,g,k,G,ey,q3,q4⟩=>Calls.spliced_nil ?_))));subst ey;obtain⟨z,J,L,c,M⟩:=zrQ t.hok G;have hz:L.length<=sizeLine:=by rw[<-c.length];exact z
 refine PySem.call_meetsIn PySem.F.slot_dict_setdefault M.typeIs PySem.F.entry_dict_setdefault (PySem.F.args_dict_setdefault_3 _ _ _) (PySem.kt_meets_setdefault (zam X.prog X.w) a (ziK (k:=.inl k) ry) J fv) ⟨L,M,hz,λw hw=>?_,λhn h' i hs=>?_⟩;have r:=c.val (.inl k);rw[hw]at r;cases l:valV g (.inl k) with|none=>rw[l]at r;exact r.elim|some u=>rw[l]at r;exact⟨u,C,t.tok _,r,q3 u l⟩
 have r:=c.val (.inl k);rw[hn]at r;cases l:valV g (.inl k) with
 |some u=>rw[l]at r;exact r.elim| none=>
  obtain⟨hl,q5⟩:=q4 l;have A:(putK g (.inl k) v).length<=sizeLine:=by have:=zbv g (.inl k) v;omega
  have n:∃q,h'.get? a=Φ q:=let ⟨q,_,_,hq,_⟩:=i;⟨q,hq⟩;exact⟨v,upd C a (.dK (putK g (.inl k) v)),zdW (t':=s3.toks+1) t (by rw[G];exact True.intro) hs n (znl A J (c.put (.inl k) E) i),E,q5⟩
end
variable[Mks]
theorem RIs.val{K}(k):∀{a:List (Int×D)}{ws:List (Key×V)},RIs K ι H a ws->(valI a k=Ψ/\valV ws (.inl k)=Ψ)\/∃d v,valI a k=Φ d/\valV ws (.inl k)=Φ v/\RV K ι H d v
 | [],ws,r=>by cases(show ws=[] from r);exact .inl ⟨rfl,rfl⟩| (j,d)::a,ws,r=>by
  obtain⟨v,w,rfl,b,c⟩:=r;by_cases e:j=k;subst e;exact .inr ⟨d,v,by simp[valI],by simp[valV],b⟩;have f:valI ((j,d)::a) k=valI a k:=by simp[valI,e]
  have g:valV (((Sum.inl j:Key),v)::w) (.inl k)=valV w (.inl k):=by simp[valV,e]
  rw[f,g];exact RIs.val k c
section
variable{T:Tab}{cf:CF}{k:Nat}{N:List Str}{sc:Scope}{X:Cx}{pos p p2 pos':Pos}
theorem zkl(f:RH X.K ι H S)(r:RV X.K ι H d v)(h:isDi S d=Γ):∃a,v=.ref a/\IsD H a:=by
 cases d with
 |ref l=>
  obtain⟨p,g,rfl⟩:=r;simp only[isDi]at h;cases e:S.get l with
  |none=>rw[e]at h;exact nB h
  |some o=>rw[e]at h;obtain⟨b,c,i⟩:=f.obj _ _ e;rw[g]at c;cases c;cases o with|dic j=>obtain⟨_,m,n,_⟩:=i;exact⟨p,rfl,.inl ⟨m,.inl n⟩⟩|_=>exact nB h
 |_=>exact nB h
theorem zga(m:RH X.K ι H S)(n:RV X.K ι H x q)(r:RV X.K ι H y g)(h:zgb S x y=Φ o):
  ∃l a c f d,x=.ref l/\ι[l]?=Φ a/\S.get l=Φ (.dic c)/\q=.ref a/\y=.int d/\(c.map (·.1)).Nodup/\H a=Φ (.dK f)/\RIs X.K ι H c f/\g=.int d/\o=valI c d:=by
 unfold zgb at h;cases x with
 |ref l=>
  obtain⟨p,i,rfl⟩:=n;dsimp only at h;cases e:S.get l with
  |none=>rw[e]at h;exact nS h
  |some s=>
   rw[e]at h;obtain⟨b,j,t⟩:=m.obj _ _ e;rw[i]at j;cases j;cases s with
   |dic c=>obtain⟨u,f,v,w⟩:=t;dsimp only at h;cases y with| int d=>cases h;obtain rfl:g=.int d:=r;exact⟨l,p,c,f,d,rfl,i,e,rfl,rfl,u,v,w,rfl,rfl⟩|_=>exact nS h
   |_=>exact nS h
 |_=>exact nS h
theorem zlt(G:Gd T cf k N sc X)(Y:PE X o (tE X.K cf co))(he:PE X e (tE X.K cf ce))(hx:PE X x (tE X.K cf cx))(g:zah e=Γ)(b:zah x=Γ)(h:zau o=Γ)(hl:(i.endLine==m.line)=Γ):
  PE X (.Call (.Attribute o "get" i) [e,x] [] m) (tE X.K cf (.dgetI co ce cx)):=by
 refine PE.imp (zhG (by have:=G.hu;lia) Y he hx ⟨zbi h "get" X.env _,by rw[zaf g,zaf b];rfl,hl,by rw[zaf g,zaf b];rfl⟩) λσ H Qv j=>?_;obtain⟨δ,ι,S,Q,hs,hh,w,q⟩:=j;change W (Out.bind _ _) _ at w;simp only[zaa] at w;refine tE.run hs hh w λd v ι1 H1 S1 x1 t n I r=>?_;split at r;rename_i c;obtain⟨a,rfl,hD⟩:=zkl n I c;refine⟨a,rfl,hD,?_⟩;rw[zaa]at r;refine tE.run t n r λy vy ι2 H2 S2 J u A r2 L=>?_;rw[zaa]at L;refine tE.run u A L λz vz ι3 H3 S3 B hs3 f r3 M=>?_;rw[zaa]at M;obtain⟨o,eo,s⟩:=zaq M;obtain⟨l,a',kvs,ws,O,_,_,_,ea,_,nd,ha,rk,rfl,rfl⟩:=zga f (I.ext (J.trans B)) (r2.ext B) eo;cases ea;refine⟨_,DGet.k (k:=.inl O) ha,?_⟩;have U:=(x1.trans J).trans B;rcases rk.val O with⟨C,E⟩|⟨d',v',C,E,rv⟩;rw[C]at s;rw[E];exact q _ _ (Lf.up U (Lf.of f r3 s));rw[C]at s;rw[E];exact q _ _ (Lf.up U (Lf.of f rv s));exact r.elim
theorem zlq(G:Gd T cf k N sc X)(ho:PE X o (tE X.K cf co))(he:PE X e (tE X.K cf ce))(hx:PE X x (tE X.K cf cx))(m:zah e=Γ)(g:zah x=Γ)(n:zau o=Γ)(hl:(s.endLine==t.line)=Γ):
  PE X (.Call (.Attribute o "setdefault" s) [e,x] [] t) (tE X.K cf (.dsetI co ce cx)):=by
 refine PE.imp (zlY ho he hx ⟨zbi n "setdefault" X.env _,by rw[zaf m,zaf g];rfl,hl,by rw[zaf m,zaf g];rfl⟩) λσ H Qv j=>?_;obtain⟨δ,ι,S,Q,hs,hh,w,q⟩:=j;change W (Out.bind _ _) _ at w;simp only[zaa] at w;refine tE.run hs hh w λd v ι1 H1 S1 x1 U A r1 E=>?_;split at E;rename_i c;obtain⟨a,rfl,hD⟩:=zkl A r1 c;refine⟨a,rfl,hD,?_⟩;rw[zaa]at E;refine tE.run U A E λy vy ι2 H2 S2 x2 Y hh2 r2 w2=>?_;rw[zaa]at w2;refine tE.run Y hh2 w2 λz vz ι3 H3 I x3 hs3 f r3 w3=>?_;rw[zaa]at w3;obtain⟨r,b,w4⟩:=zaq w3;have up:=(x1.trans x2).trans x3;unfold zfg at b;cases eg:zgb I d y with
 |none=>rw[eg]at b;exact nS b
 |some og=>
  obtain⟨l,a',B,J,h,rfl,hi,hg,ea,rfl,nd,ha,rk,rfl,rfl⟩:=zga f (r1.ext (x2.trans x3)) (r2.ext x3) eg;cases ea;rw[eg]at b;have C:∀T,dPut I (.ref l) (.int h) z=Φ T->B.length<16777216/\I.put l (.dic (putI B h z))=Φ T:=λT i=>by unfold dPut at i;dsimp only at i;rw[hg]at i;dsimp only[zcz,Ϛ]at i;split at i;rename_i c;exact⟨c,i⟩;exact nS i
  rcases rk.val h with⟨e1,L⟩|⟨d',v',e1,L,rv⟩;rw[e1]at b;dsimp only at b;cases ep:dPut I (.ref l) (.int h) z with
  |none=>rw[ep]at b;exact nS b
  |some T'=>
   rw[ep]at b;cases b;obtain⟨c,es⟩:=C _ ep;have M:=Ext.wr f hg hi (.dK (putK J (.inl h) vz));have hz:J.length<sizeLine:=by rw[rk.length,ϋ];exact c
   refine⟨J,h,ha,rfl,λu O=>absurd (L.symm.trans O) (λz=>by exact nS z),λ_=>⟨hz,?_⟩⟩;exact q _ _ ⟨z,ι3,T',up.trans M,r3.ext M,f.wr hg hi es ⟨zef nd,_,zaj,(rk.put h r3 nd).up M.pre M.kp⟩,w4⟩
  rw[e1]at b;cases b;refine⟨J,h,ha,rfl,λu O=>?_,λhn=>absurd (L.symm.trans hn) (λz=>by cases z)⟩;rw[L]at O;cases O;exact q _ _ (Lf.up up (Lf.of f rv w4))
 exact E.elim
end
section
variable{T:Tab}{cf:CF}{k:Nat}{N:List Str}{sc:Scope}{X:Cx}{pos p:Pos}
theorem zfW(h:zcj S d=Φ (c,a)):∃l,d=.ref l/\S.get l=Φ (.ins c a):=by
 cases d with
 |ref l=>
  refine⟨l,rfl,?_⟩;unfold zcj at h;dsimp only at h;cases e:S.get l with
  |none=>rw[e]at h;exact nS h
  |some o=>rw[e]at h;cases o with|ins f b=>cases h;rfl|_=>exact nS h
 |_=>exact nS h
theorem ne_of{b:Type}[BEq b]{xs:List b}{a:b}(h:xs.contains a=Γ):xs≠[]:=λe=>by rw[e]at h;simp at h
theorem Gd.clsAt(G:Gd T cf k N sc X)(d:T.flds≠[]\/T.inits≠[]\/T.isas≠[]){c:Nat}(h:Mks.cl[c]?=Φ C):∃x,T.cls[c]?=Φ x/\Cls X.K C/\X.mg x=Φ (.ref C)/\∀f,T.flds.contains f=Γ->NoAttr X.K C f:=by have a:=lt_of_lt_of_le (Α.mp h).1 (G.tab.cln d);obtain⟨j,b,e,g,i⟩:=G.tab.cls c T.cls[c] (List.getElem?_eq_getElem a);rw[h]at b;cases b;exact⟨_,List.getElem?_eq_getElem a,e,g,i⟩
theorem zqf(G:Gd T cf k N sc X)(o:PE X a (tE X.K cf r))(g:zau a=Γ)(m:T.flds.contains f=Γ):PE X (.Attribute a f pos) (tE X.K cf (.fld r f)):=by
 refine PE.imp (zqZ o (zbi g f X.env _)) λσ H Qv z=>?_;obtain⟨δ,ι,S,Q,s,t,w,q⟩:=z;change W (Out.bind _ _) _ at w;simp only[zaa] at w;refine tE.run s t w λd v x H1 y A B h E I=>?_;obtain⟨u,e,J⟩:=zaq I;cases j:zcj y d with
 |none=>rw[j]at e;exact nS e
 |some L=>obtain⟨c,M⟩:=L;rw[j]at e;have e:M.lookup f=Φ u:=e;obtain⟨l,rfl,O⟩:=zfW j;obtain⟨b,U,rfl⟩:=E;obtain⟨b',n,C,Y,ws,hC,hb,rf⟩:=h.obj l _ O;rw[U]at n;cases n;obtain⟨_,_,cl,_,na⟩:=G.clsAt (.inl (ne_of m)) hC;rcases rf.look f with⟨i,_⟩|⟨d',v',i,e2,rv⟩;rw[e]at i;cases i;rw[e]at i;cases i;exact⟨b,C,Y,ws,v',rfl,hb,cl,na f m,e2,q _ _ (Lf.up A (Lf.of h rv J))⟩
theorem zeZ(hbase:attributeBase o name env (eval o env)=eval o env)(hfew:((backTo pos (starEach args env)).all (λx=>!x.1)&&(backToKw pos (keywordEach [] env)).all (λx=>x.1.isSome)
   && decide (args.length+([]:List Keyword).length+(if([]:List Keyword).isEmpty then 0 else 1)<30))=Γ)(hline:(apos.endLine==pos.line)=Γ)(h:wpAny (model prog w) A (eval o env) (λov s₁=>∀pl,wpAny (model prog w) A (getMethod ov name pl) (λfx s₂=>wpAny (model prog w) A (callWith pos fx.1 fx.2 (backTo pos (starEach args env)) (backToKw pos (keywordEach [] env))) Q E s₂) E s₁) E s):
  wpAny (model prog w) A (eval (.Call (.Attribute o name apos) args [] pos) env) Q E s:=by
 rw[arm_eval_Call,hbase];refine Ξ (ϕ h (λov s₁ h₁=>?_) λ_ _ e=>e);refine Ξ (wpAny_standAt ?_);have hform:methodCallForm (args.length+([]:List Keyword).length) (backTo pos (starEach args env)) (backToKw pos (keywordEach [] env))=Γ:=hfew;have hpos:methodCallPos Γ o env apos pos=pure pos:=by unfold methodCallPos;simp[hline]
 unfold methodCall;rw[hform];refine Ξ (Ϥ (ϕ (h₁ _) (λfx s₂ h₂=>?_) λ_ _ e=>e));exact Ξ (wpAny_of_eq hpos h₂)
def zjj(X:Cx)(k:Nat)(m:Str)(i:TE)(t:TA):TE:=λb H Q=>i b H λx c=>∃(a C j:Addr) (d:List (Str×V)) (e:Addr) (f:FuncData) (g:List Str) (h:Sp),x=.ref a/\c a=Φ (.ins C j d)/\Cls X.K C/\Meth X.K C m e/\
 FnOk X.prog X.w X.K X.mg X.base CX0 k e f g h/\Binds X.K f g []/\d.lookup m=Ψ/\t b c λl n=>h (x::l) n Q E0
theorem zlT(B:PE X o E)(G:Room k X.A)(J:PA X (e::es) t)(d:attributeBase o m X.env (eval o X.env)=eval o X.env)(g:((backTo pos (starEach (e::es) X.env)).all (λx=>!x.1)&&(backToKw pos (keywordEach [] X.env)).all (λx=>x.1.isSome)
   && decide ((e::es).length+([]:List Keyword).length+(if([]:List Keyword).isEmpty then 0 else 1)<30))=Γ)(f:(i.endLine==pos.line)=Γ)(j:starEach (e::es) X.env=(Δ,eval e X.env)::starEach es X.env)(n:(backTo pos (starEach es X.env)).any (·.1)=Δ):
  PE X (.Call (.Attribute o m i) (e::es) [] pos) (zjj X k m E t):=by
 intro b s v H Q I h;refine zeZ d g f (thn (B b s v H _ I h) λu L z pl=>?_);obtain⟨x,M,w,O,a,C,dx,fs,fa,fd,ps,sp,U,Y,c,y,F,hb,l,q⟩:=z;subst U;obtain rfl:u=Θ.ref a:=O;refine zeo w Y c y l ?_;refine callWith_K I.ok.mod.kin y.kp (thn (J pos b L v M _ w q) λus s2 z=>eY z λvs H2 A r q2=>⟨A.kIn,?_⟩) j n;exact zft (vs:=.ref a::vs) F G hb .nil zgH A (.cons rfl r) (by rw[append_nil];exact q2)
theorem zjR(j:PE X o n)(r:Room k X.A)(b:attributeBase o m X.env (eval o X.env)=eval o X.env)(d:(e.endLine==pos.line)=Γ):
  PE X (.Call (.Attribute o m e) [] [] pos) (zjj X k m n tNil):=by
 intro f s t H Q I h;refine zeZ b rfl d (thn (j f s t H _ I h) λu B z E=>?_);obtain⟨x,G,g,v,a,C,J,L,M,O,U,Y,w,y,c,i,F,A,l,q⟩:=z;subst w;obtain rfl:u=Θ.ref a:=v;refine zeo g y c i l ?_;exact callWith_K0 g.kIn i.kp (zft (vs:=[.ref a]) F r A .nil zgH g (.cons rfl .nil) (by exact q))
noncomputable def mtB(T:Tab)(m:Str)(a:List (Nat×Nat)):Bool:=a.all λp=>T.mts.contains (p.1,m,p.2)
theorem ziH{tb:List (Nat×Nat)}(h:tb.lookup c=Φ f):(c,f)∈tb:=by
 induction tb with
 |nil=>exact nS h
 |cons p r ih=>simp only[List.lookup]at h;split at h;rename_i e;cases h;have:=eq_of_beq e;subst this;simp;exact Τ _ (ih h)
theorem zhK(G:Gd T cf k N sc X)(U:mtB T m Y=Γ)(ht:∀{σ:L2.St}{H:Hp}{E:List V->Hp->Prop},tAs X.K cf j σ H E->t σ H E)(h:tE X.K cf (.meth m Y co j) σ H Qv):zjj X k m (tE X.K cf co) t σ H Qv:=by
 obtain⟨δ,ι,S,Q,hs,hh,w,q⟩:=h;change W (Out.bind _ _) _ at w;simp only[zaa] at w;refine tE.run hs hh w λd v ι1 H1 S1 x1 n a I w1=>?_;obtain⟨pr,ei,w2⟩:=zaq w1;obtain⟨c,fs⟩:=pr;obtain⟨f,ef,i⟩:=zaq w2;split at i;rename_i o;rw[zaa]at i;obtain⟨l,rfl,hl⟩:=zfW ei;have s:=I;obtain⟨b,i1,rfl⟩:=I;obtain⟨b',J,C,dx,L,hC,hb,rf⟩:=a.obj l _ hl;rw[i1]at J;cases J;have u:=all_eq_true.mp U (c,f) (ziH ef);obtain⟨C',fa,fd,ps,g,cl,me,F,bi⟩:=(G.tab.mth c m f u).ex;rw[hC]at g;cases g;have y:L.lookup m=Ψ:=by rcases rf.look m with⟨_,e2⟩|⟨d',v',e1,_,_⟩;exact e2;dsimp only at o;rw[e1]at o;exact nB o
 refine⟨b,C,dx,L,fa,fd,ps,_,rfl,hb,cl,me,F,bi,y,ht ?_⟩;refine tAs.run n a i λds vs z H2 S2 M hs2 A r2 O=>?_;unfold appW at O;refine⟨z,S2,.ref l::ds,⟨.ref b,vs,rfl,s.ext M,r2⟩,A,?_⟩;obtain⟨d,T',e,w5⟩:=zgn O;rw[e];exact λv H' B x r hT=>q v H' (Lf.up (x1.trans M) ⟨d,B,T',x,r,hT,w5⟩);exact i.elim
theorem znW(G:Gd T cf k N sc X)(f:mtB T m g=Γ)(i:PE X o (tE X.K cf j))(l:PA X (e::es) (tAs X.K cf d))(a:(e::es).all zah=Γ)(b:zau o=Γ)(n:(c.endLine==pos.line)=Γ)(v:(e::es).length<29):
  PE X (.Call (.Attribute o m c) (e::es) [] pos) (tE X.K cf (.meth m g j d)):=by
 have q:=a;rw[all_cons,Λ]at a;refine PE.imp (zlT i G.room l (zbi b m X.env _) ?_ n (zaf a.1 es X.env) (zaI a.2)) λw H y h=>zhK G f (λz=>z) h;have r:=zaI (pos:=pos) (env:=X.env) q;have s:(backTo pos (starEach (e::es) X.env)).all (λx=>!x.1)=Γ:=by rw[all_eq_true];intro x t;have:=List.any_eq_false.mp r x t;simpa using this
 have u:decide ((e::es).length+([]:List Keyword).length+(if([]:List Keyword).isEmpty then 0 else 1)<30)=Γ:=by rw[decide_eq_true_eq];show(e::es).length+0+0<30;lia
 rw[s,u];rfl
theorem zhJ(b:a=.nil)(h:tAs X.K cf a σ H c):tNil σ H c:=by subst b;obtain⟨f,d,S,Q,g,e,w,q⟩:=h;exact q [] H ⟨[],d,S,Ext.refl _ _,rfl,e,by simpa[evEs]using w⟩
theorem zlo(G:Gd T cf k N sc X)(c:mtB T m d=Γ)(e:PE X o (tE X.K cf f))(a:zau o=Γ)(g:(b.endLine==pos.line)=Γ):
  PE X (.Call (.Attribute o m b) [] [] pos) (tE X.K cf (.meth m d f .nil)):=
 PE.imp (zjR e G.room (zbi a m X.env _) g) λi H j h=>zhK G c (λz=>zhJ rfl z) h
theorem Vals.nons:∀j:Nat,Vals (List.replicate j .non) (List.replicate j Θ.none)
 |0=>.nil|j+1=>.cons rfl (Vals.nons j)
theorem zhM(G:Gd T cf k N sc X)(O:Mks.cl[c]?=Φ C)(U:∀{σ:L2.St}{H:Hp}{E:List V->Hp->Prop},tAs X.K cf n σ H E->t σ H E)(h:tE X.K cf (.mk c f x j n) σ H Y):znF C (spF X.K cf f) (List.replicate j V.non) E0 t σ H Y:=by
 obtain⟨δ,ι,S,Q,hs,hh,w,q⟩:=h;change W (Out.bind _ _) _ at w;simp only[zaa] at w;refine U (tAs.run hs hh w λds vs a i o x1 hs1 s r1 I=>?_);intro y g hy l u;have b:=s.new l (.own y);have J:Ext a i a (upd i g (.own y)):=Ext.new l _;have m:(upd i g (.own y)) y=Ψ:=by rw[zai (Ne.symm u)];exact hy
 have z:=b.obj' m (.ins C g []) (.ins c []) ⟨C,g,[],O,zaj,rfl⟩;have L:Ext a (upd i g (.own y)) (a++[y]) (upd (upd i g (.own y)) y (.ins C g [])):=Ext.obj b m _;unfold appW at I;obtain⟨d,T',e,A⟩:=zgn I;refine⟨a++[y],o.push (.ins c []),.ref o.len::(ds++List.replicate j .non),⟨.ref y,_,rfl,⟨y,b.last y,rfl⟩,RVs.append ((r1.ext J).ext L) (RVs.nons j)⟩,z,?_⟩;rw[e];intro v H' B M r hT;split at A;rename_i hn;cases d with| non=>refine⟨r,q _ _ ⟨.ref o.len,B,T',((x1.trans J).trans L).trans M,⟨y,zbF M.pre (b.last y),rfl⟩,hT,A⟩⟩|_=>exact nB hn
 exact A.elim
theorem zss(G:Gd T cf k N sc X)(hi:T.inits.contains (c,f,j)=Γ)(i:T.cls[c]?=Φ x)(l:isGl sc x=Γ)(hd:(x==("__debug__":Str))=Δ)(m:PA X (e::es) (tAs X.K cf b))(a:(e::es).all zah=Γ):
  PE X (.Call (.Name x p) (e::es) [] pos) (tE X.K cf (.mk c f x j b)):=by
 obtain⟨C,q,r,s,d,M,F,n⟩:=(G.tab.ini c f j hi).ex;obtain⟨t,g,_,o,_⟩:=G.clsAt (.inr (.inl (ne_of hi))) d;rw[i]at g;cases g;rw[all_cons,Λ]at a;exact PE.imp (zox M F G.room' (G.gl l) o n (Vals.nons j) zgH m hd (zaf a.1 es X.env) (zaI a.2)) λu H v h=>zhM G d (λz=>z) h
theorem zqb(G:Gd T cf k N sc X)(hi:T.inits.contains (c,f,j)=Γ)(d:T.cls[c]?=Φ x)(e:isGl sc x=Γ)(hd:(x==("__debug__":Str))=Δ):
  PE X (.Call (.Name x p) [] [] pos) (tE X.K cf (.mk c f x j .nil)):=by
 obtain⟨C,l,m,n,a,M,F,g⟩:=(G.tab.ini c f j hi).ex;obtain⟨o,b,_,i,_⟩:=G.clsAt (.inr (.inl (ne_of hi))) a;rw[d]at b;cases b;exact PE.imp (zlU M F G.room' (G.gl e) i g (Vals.nons j) zgH hd) λq H r h=>zhM G a (λz=>zhJ rfl z) h
theorem zrK(hs:(e::es).all zah=Γ)(f:(e::es).length<29):((backTo pos (starEach (e::es) env)).all (λx=>!x.1)&&(backToKw pos (keywordEach [] env)).all (λx=>x.1.isSome)
  && decide ((e::es).length+([]:List Keyword).length+(if([]:List Keyword).isEmpty then 0 else 1)<30))=Γ:=by
 have a:=zaI (pos:=pos) (env:=env) hs;have b:(backTo pos (starEach (e::es) env)).all (λx=>!x.1)=Γ:=by rw[all_eq_true];intro x c;have:=List.any_eq_false.mp a x c;simpa using this
 have d:decide ((e::es).length+([]:List Keyword).length+(if([]:List Keyword).isEmpty then 0 else 1)<30)=Γ:=by rw[decide_eq_true_eq];show(e::es).length+0+0<30;lia
 rw[b,d];rfl
theorem zl4(w:HasC X.prog X.w X.K X.mg X.base k x m sp)(y:Room k X.A)(A:PA X (e::es) t)(B:Gl X x)(i:(x==("__debug__":Str))=Δ)(c:attributeBase (.Name x p) m X.env (eval (.Name x p) X.env)=eval (.Name x p) X.env)(f:(e::es).all zah=Γ)(E:(e::es).length<29)(d:(g.endLine==pos.line)=Γ):
  PE X (.Call (.Attribute (.Name x p) m g) (e::es) [] pos) (zeE sp [] E0 t):=by
 obtain⟨C,fa,fd,ps,mc,G,J,L,M,O,F,U⟩:=w.ex;have a:=f;rw[all_cons,Λ]at a;intro b s j H Q I h;refine zeZ c (zrK f E) d (thn (zgG (v:=.ref C) B G rfl i b s j H (λv l=>v=.ref C/\zeE sp [] E0 t j l Q) I ⟨rfl,h⟩) λu s1 z pl=>?_);obtain⟨xv,l,n,Y,ex,q⟩:=z;subst ex;obtain rfl:u=Θ.ref C:=Y;refine PySem.W.method_cls n.kIn J (PySem.W.cls_value n.kIn L M rfl ?_);refine callWith_K (first:=[]) (h₀:=X.base) I.ok.mod.kin O (thn (A pos b _ j l _ (n.tok _) q) λus s2 z=>eY z λvs H2 o r q2=>⟨o.kIn,?_⟩) (zaf a.1 es X.env) (zaI a.2);exact zft (us:=us) (vs:=vs) F y U .nil zgH o r q2
theorem ziX(h:tE X.K cf (.callC f x m a) σ H j):zeE (spF X.K cf f) [] E0 (tAs X.K cf a) σ H j:=by obtain⟨E,G,S,Q,l,n,w,q⟩:=h;change W (Out.bind _ _) _ at w;simp only[zaa] at w;refine tAs.run l n w λo I b J s t u c y i=>?_;unfold appW at i;rw[append_nil];refine⟨b,s,o,y,c,?_⟩;obtain⟨d,z,e,A⟩:=zgn i;rw[e];exact λv B g x r C=>q v B (Lf.up t ⟨d,g,z,x,r,C,A⟩)
theorem zlw(G:Gd T cf k N sc X)(g:T.cms.contains (x,m,f)=Γ)(i:isGl sc x=Γ)(hd:(x==("__debug__":Str))=Δ)(a:zau (.Name x p)=Γ)(j:PA X (e::es) (tAs X.K cf c))(d:(e::es).all zah=Γ)(l:(e::es).length<29)(n:(b.endLine==pos.line)=Γ):
  PE X (.Call (.Attribute (.Name x p) m b) (e::es) [] pos) (tE X.K cf (.callC f x m c)):=
 PE.imp (zl4 (G.tab.cmd x m f g) G.room j (G.gl i) hd (zbi a m X.env _) d l n) λo H q h=>ziX h
theorem zqk(r:PE X o (tE X.K cf s))(f:zau o=Γ)(t:(g.endLine==h.line)=Γ):
  PE X (.Call (.Attribute o "clear" g) [] [] h) (tE X.K cf (.clr s)):=by
 refine PE.imp (zq0 PySem.F.plainAttrs_list PySem.F.slot_list_clear PySem.F.type_list_clear zma r (zbi f "clear" X.env _) t) λL H M z=>?_;obtain⟨O,U,S,Q,u,x,w,q⟩:=z;change W (Out.bind _ _) _ at w;simp only[zaa] at w;refine tE.run u x w λd v y Y A B C b j i=>?_;split at i;rename_i c;refine⟨zhV b j c,?_⟩;cases d with
 |ref l=>obtain⟨a,m,rfl⟩:=j;dsimp only at i;cases e:A.get l with|none=>simp[isL,e]at c| some o=>cases o with| lst es=>obtain⟨b',n,E,G,rz⟩:=b.obj _ _ e;rw[m]at n;cases n;obtain⟨c2,S',I,J⟩:=ziZ i;exact⟨a,E,rfl,rfl,G,q _ _ (Lf.up B (Lf.wr (d:=.non) (xs:=[]) b e m I rfl rfl J))⟩|_=>simp[isL,e]at c
 |_=>exact i.elim
 exact i.elim
end
def LfS(K:Frag)(ι:List Addr)(H:Hp)(Q:Fl->R.St->Prop)(E:Ends):Prop:=∀f a b g,Ext ι H a b->RH K a b g->Q f g->(match f with|.nx e=>∀c,RS K a b e c->E.nx c b|.rt d=>∀v,RV K a b d v->E.rt v b)
def tS(K:Frag)(cf:CF)(c:CS):TS:=λE d H=>∃b a S Q,RS K a H b d/\RH K a H S/\W (exS cf c b S) Q/\LfS K a H Q E
theorem LfS.up{K}(h:LfS K ι H Q E)(x:Ext ι H a b):LfS K a b Q E:=λf g i c d e q=>h f g i c (x.trans d) e q
theorem PSs.imp{st}(h:PSs X st t)(i:∀E a H,t' E a H->t E a H):PSs X st t':=λb s a H E I q=>h b s a H E I (i E a H q)
section
variable{T:Tab}{cf:CF}{k:Nat}{N:List Str}{sc:Scope}{X:Cx}{pos p:Pos}{rest:List Stmt}
theorem zp1:PSs X [] (tS X.K cf .nil):=PSs.imp zjI λE a H z=>by obtain⟨e,b,S,Q,c,d,w,l⟩:=z;exact l _ b H S (Ext.refl _ _) d w a c
theorem zp3(G:Gd T cf k N sc X)(hi:N[i]?=Φ x)(f:zfS sc x=Γ)(g:PE X e (tE X.K cf h))(j:zbe e=Γ)(m:PSs X rest (tS X.K cf r)):
  PSs X (.Assign [.Name x p] e pos::rest) (tS X.K cf (.asg i h r)):=by
 refine PSs.imp (zaJ (zm7 (i:=i) (by rw[G.nm];exact G.nd) (by rw[G.nm];exact hi) (G.lc f).1 g (zeF j _ _ _) (G.lc f).2) m) λE A H z=>?_;obtain⟨n,B,S,Q,o,q,w,l⟩:=z;change W (Out.bind _ _) _ at w;simp only[zaa] at w;refine tE.run o q w λd v a C s t b c u y=>?_;exact⟨n.set i (Φ d),a,s,Q,b.set u i,c,y,l.up t⟩
theorem znM(G:Gd T cf k N sc X)(hi:N[i]?=Φ x)(a:∃t,PS X (.Assign [.Name x p] e pos) (tAsg t (zkB i))/\∀σ H g,tE X.K cf h σ H g->t σ H g)(j:PSs X rest (tS X.K cf r)):
  PSs X (.Assign [.Name x p] e pos::rest) (tS X.K cf (.asg i h r)):=by
 obtain⟨t,m,n⟩:=a;refine PSs.imp (zaJ m j) λE σ H z=>?_;obtain⟨o,C,S,Q,q,s,w,l⟩:=z;change W (Out.bind _ _) _ at w;simp only[zaa] at w;refine n _ _ _ (tE.run q s w λd v b I u y c f A B=>?_);exact⟨o.set i (Φ d),b,u,Q,c.set A i,f,B,l.up y⟩
theorem znJ(f:PE X e (tE X.K cf g))(h:zbe e=Γ)(i:PSs X rest (tS X.K cf r)):PSs X (.Expr e pos::rest) (tS X.K cf (.expr g r)):=by refine PSs.imp (zaJ (zol f (zeF h _ _ _)) i) λE t H z=>?_;obtain⟨j,u,S,Q,m,n,w,l⟩:=z;change W (Out.bind _ _) _ at w;simp only[zaa] at w;refine tE.run m n w λd v a x o q b c y s=>?_;exact⟨j,a,o,Q,b,c,s,l.up q⟩
theorem zp0(b:PE X e (tE X.K cf c))(f:PSs X rest (tS X.K cf r)):PSs X (.Return (Φ e) pos::rest) (tS X.K cf (.ret c r)):=by refine PSs.imp (zaJ (zm8 b) f) λE q H z=>?_;obtain⟨s,t,S,Q,g,h,w,l⟩:=z;change W (Out.bind _ _) _ at w;simp only[zaa,W_ok] at w;refine tE.run g h w λd v i u x j m a n o=>?_;exact l _ _ _ _ j a o v n
theorem zsp(A:PT X c (tT X.K cf B))(C:PSs X a (tS X.K cf G))(I:PSs X b (tS X.K cf J))(L:PSs X rest (tS X.K cf r)):PSs X (.If c a b pos::rest) (tS X.K cf (.ifS B G J r)):=by
 refine PSs.imp (zaJ (zqI A C I) L) λE σ H k=>?_;obtain⟨s,ι,S,Q,M,O,w,l⟩:=k;change W (Out.bind _ _) _ at w;simp only[zaa] at w;refine tT.run M O w λz e U t u h i x=>?_;have fin:LfS X.K e U (λf m=>W (match f with|.nx g=>exS cf r g m|.rt d=>.ok (.rt d) m) Q) {E with nx:=tS X.K cf r E}:=by intro f n H2 m y j q;cases f with|nx g=>exact λY o=>⟨g,n,m,Q,o,j,q,(l.up u).up y⟩|rt d=>exact λv rv=>(l.up u) _ _ _ _ y j q v rv
 cases z with|true=>exact⟨s,e,t,_,h,i,x,fin⟩|false=>exact⟨s,e,t,_,h,i,x,fin⟩
def FInv(K:Frag)(cf:CF)(g:List Nat)(b:CS)(m:Fl->R.St->Prop)(ds:List D)(a:List Nat)(j:List Addr)(n:Hp)(e:R.St)(i:Nat)(l:L2.St)(H':Hp):Prop:=i<=ds.length/\∃c d h,RS K d H' c l/\Ltr K j n e a d H' h/\h.lk=a++e.lk/\e.len<=h.len/\W (zaV g (exS cf b) (ds.drop i) c h) λf o=>m f {o with lk:=e.lk}
theorem zp2(G:Gd T cf k N sc X)(hi:PI X tg g (tI X.K cf it))(hg:PG X tg (tG X.K is))(hb:PSs X u (tS X.K cf Y))(A:zaN g=Γ)(hr:PSs X rest (tS X.K cf r)):
  PSs X (.For tg g u [] pos::rest) (tS X.K cf (.forS is it Y r)):=by
 have hp:PassesOwn (model X.prog X.w) X.A X.env X.xe:=by rw[G.xe];exact PassesOwn.never
 refine PSs.imp (zaJ (zqJ hp G.calm hi hg hb (zgV A X.env)) hr) λE σ H y=>?_;obtain⟨δ,ι,S,Q,hs,hh,w,l⟩:=y;change W (Out.bind _ _) _ at w;simp only[zaa] at w;refine⟨δ,ι,S,_,hs,hh,w,λJ H1 y=>?_⟩;obtain⟨ds,b,j,n,x1,hh1,B,wk⟩:=y;dsimp only at B;unfold za7 at B;rw[zaa]at B;simp only[W_ok]at B;refine⟨λi m C I=>m=ds.length-i/\FInv X.K cf is Y (λf S2=>W (match f with|.nx c=>exS cf r c S2|.rt d=>.ok (.rt d) S2) Q) ds b j H1 n i C I,⟨_,rfl,zero_le _,δ,j,{n with lk:=b++n.lk},hs.ext x1,⟨Ext.refl _ _,hh1.lk _,λl _=>rfl⟩,rfl,le_refl _,B⟩,?_⟩;rintro i m C I ⟨rfl,hle,c,a,t,L,o,M,O,e⟩;have l1:=l.up (x1.trans o.ext);rcases Nat.lt_or_eq_of_le hle with q|rfl;refine .inr ⟨wk.go i a I t o q,FInv X.K cf is Y _ ds b j H1 n (i+1),λσ2 H2 h=>⟨_,by omega,rfl,h⟩,λx H2 hy=>?_⟩;obtain⟨x2,hh2,d,hd,rd⟩:=wk.yld i a I t x H2 o q hy;rw[zf7 hd]at e;simp only[zaV]at e;cases ea:asgG is d c with|none=>rw[ea]at e;exact e.elim| some s=>rw[ea]at e;dsimp only at e;rw[zaa]at e;refine⟨c,a,d,s,L.ext x2,rd,ea,λσ2 hs3=>⟨s,a,t,_,hs3,hh2,(frS G.tab.frm Y s t).w e,?_⟩⟩;rintro f ι3 H3 S3 x3 U ⟨w3,f3⟩;have k1:S3.lk=b++n.lk:=f3.lk.trans M;have k3:∀l∈b,S3.get l=n.get l:=λl hl=>(f3.same l (by rw[M];exact mem_append_left _ hl) (lt_of_lt_of_le (wk.lks l hl) O)).trans (o.lck l hl);cases f with|nx δ3=>exact λσ3 hs4=>⟨q,δ3,ι3,S3,hs4,⟨(o.ext.trans x2).trans x3,U,k3⟩,k1,le_trans O f3.lens,w3⟩|rt z=>exact λv rv=>l1 _ _ _ _ (x2.trans x3) (U.lk _) w3 v rv
 refine .inl ⟨wk.stop _ a I t o (le_refl _),?_⟩;rw[List.drop_length]at e;simp only[zaV,W_ok]at e;exact⟨c,a,{t with lk:=n.lk},Q,L,o.rh.lk _,e,l1⟩
def ztj(H:Hp)(a:Addr)(y v:V)(H':Hp):Prop:=DPut H a y v H'\/(∃b k c,H a=Φ (.ext (TriO a b))/\TriK H b/\y=.ref c/\Key3 H k c/\b.length<sizeLine/\H'=upd H a (.ext (TriO a (put3 b k c v))))\/∃d k j,H a=Φ (.lst d)/\y=.int k/\L2.ixN d.length k=Φ j/\H'=upd H a (.lst (d.set j v))
def zqu(d e f:TE):TS:=λD b H=>f b H λv g=>d b g λx h=>e b h λy i=>∃a c,x=.ref a/\ztj i a y v c/\D.nx b c
theorem zlP(hu:X.A.units+5<cLine)(ho:PE X o td)(hi:PE X i ty)(hv:PE X value tv)(hs:swapsWith value (Φ (.Subscript o i pos')) pos.line X.env=pure Δ):
  PS X (.Assign [.Subscript o i pos'] value pos) (zqu td ty tv):=by
 intro pins s σ H D I h;refine wpAny_Assign_Subscript (thn (hv pins s σ H _ I h) λr s1 z=>eY z λv H1 I1 rv q1=>thn (ho pins s1 σ H1 _ I1 q1) λu s2 z=>eY z λx H2 I2 rx q2=>thn (hi pins s2 σ H2 _ I2 q2) λiv s3 q'=>?_) hs;obtain⟨y,H3,I3,ry,a,H4,ex,g,q3⟩:=q';subst ex;obtain rfl:u=Θ.ref a:=rx;rcases g with g|⟨kxs,k,c,e,tk,rfl,ek,hl,rfl⟩|⟨xs,k,j,e,ey,ej,rfl⟩;exact zkR (by lia) I3 g ry rv λs4 I4=>⟨σ,H4,I4,q3⟩;obtain rfl:iv=Θ.ref c:=ry;exact ziS hu I3 e tk ek hl rv λs4 I4=>⟨σ,_,I4,q3⟩;exact ϕ (zlj pins s3 σ H3 (.ref a) y v (.ref a) iv r (λH'=>D.nx σ H') I3 rfl ry rv ⟨a,xs,k,j,rfl,ey,e,ej,q3⟩) (λ_ s4 p=>(by obtain⟨H',I4,q⟩:=p;exact ⟨σ,H',I4,q⟩)) λ_ _ z=>z
theorem zle(G:Gd T cf k N sc X)(m:PE X a (tE X.K cf ca))(J:PE X b (tE X.K cf cb))(he:PE X e (tE X.K cf ce))(hc:zbe e=Γ)(hr:PSs X rest (tS X.K cf r)):
  PSs X (.Assign [.Subscript a b p] e pos::rest) (tS X.K cf (.setIx ca cb ce r)):=by
 refine PSs.imp (zaJ (zlP (by have:=G.hu;lia) m J he (zeF hc _ _ _)) hr) λE σ H z=>?_;obtain⟨O,ι,S,Q,hs,hh,w,l⟩:=z;change W (Out.bind _ _) _ at w;simp only[zaa] at w;refine tE.run hs hh w λd v ι1 H1 S1 U hs1 hh1 Y w1=>?_;refine tE.run hs1 hh1 w1 λx vx ι2 H2 S2 u hs2 hh2 r2 w2=>?_;refine tE.run hs2 hh2 w2 λy vy n H3 S3 o q g r3 A=>?_;cases f:dPut S3 x y d with
 |none=>rw[f]at A;exact A.elim| some S4=>
  rw[f]at A;unfold dPut at f;cases x with
  |ref i=>
   obtain⟨p,s,rfl⟩:=r2.ext o;dsimp only at f;cases e:S3.get i with
   |none=>rw[e]at f;exact nS f
   |some ob=>
    rw[e]at f;obtain⟨b,h2,h3⟩:=g.obj _ _ e;rw[s]at h2;cases h2;cases ob with
    |dtp M=>
     obtain⟨B,L,m,t⟩:=h3;dsimp only at f;cases C:zdf y with
     |none=>rw[C]at f;exact nS f
     |some k=>rw[C]at f;dsimp only[Ϛ]at f;split at f;rename_i c;obtain⟨b,rfl,J⟩:=znd r3 C;have I:=Y.ext (u.trans o);have h:=Ext.wr g e s (.dT (putK L (kI k) v));refine⟨p,_,rfl,.inl <| DPut.t m J (by rw[t.length,ϋ];exact c),O,n,S4,Q,q.ext h,g.wr e s f ⟨zee B,_,zaj,?_⟩,A,l.up (((U.trans u).trans o).trans h)⟩;exact(t.put k I B).up h.pre h.kp;exact nS f
    |dic M=>
     obtain⟨B,L,m,t⟩:=h3;dsimp only at f;cases y with
     |int k=>obtain rfl:vy=.int k:=r3;dsimp only[zcz,Ϛ]at f;split at f;rename_i c;have I:=Y.ext (u.trans o);have h:=Ext.wr g e s (.dK (putK L (.inl k) v));refine⟨p,_,rfl,.inl <| DPut.k (k:=.inl k) m (by rw[t.length,ϋ];exact c),O,n,S4,Q,q.ext h,g.wr e s f ⟨zef B,_,zaj,?_⟩,A,l.up (((U.trans u).trans o).trans h)⟩;exact(t.put k I B).up h.pre h.kp;exact nS f
     |_=>exact nS f
    |d3 M=>
     obtain⟨B,L,m,t⟩:=h3;dsimp only at f;cases C:key3 y with
     |none=>rw[C]at f;exact nS f
     |some k=>rw[C]at f;dsimp only[Ϛ]at f;split at f;rename_i c;obtain⟨b,rfl,J⟩:=zdP r3 C;have I:=Y.ext (u.trans o);have h:=Ext.wr g e s (.ext (TriO p (put3 L k b v)));refine⟨p,_,rfl,.inr <| .inl ⟨L,k,b,m,t.triK,rfl,J,by rw[t.length,ϋ];exact c,rfl⟩,O,n,S4,Q,q.ext h,g.wr e s f ⟨zgD B,_,zaj,?_⟩,A,l.up (((U.trans u).trans o).trans h)⟩;exact(t.put I J).up h.pre h.kp;exact nS f
    |lst ds=>
     obtain⟨xs,m,rx⟩:=h3;dsimp only at f;cases y with
     |int k=>
      obtain rfl:vy=.int k:=r3;dsimp only[zcz,Ϛ]at f;cases ej:R.ixN ds.length k with
      |none=>rw[ej]at f;exact nS f
      |some j=>rw[ej,Ϛ]at f;have I:=Y.ext (u.trans o);have h:=Ext.wr g e s (.lst (xs.set j v));refine⟨p,_,rfl,.inr <| .inr ⟨xs,k,j,m,rfl,by rw[rx.length];exact ej,rfl⟩,O,n,S4,Q,q.ext h,g.wr e s f ⟨_,zaj,?_⟩,A,l.up (((U.trans u).trans o).trans h)⟩;exact(RVs.set I j rx).up h.pre h.kp
     |_=>exact nS f
    |_=>exact nS f
  |_=>exact nS f
theorem znI(G:Gd T cf k N sc X)(A:T.flds.contains f=Γ)(O:PE X a (tE X.K cf U))(Y:PE X e (tE X.K cf ce))(hc:zbe e=Γ)(hr:PSs X rest (tS X.K cf r)):
  PSs X (.Assign [.Attribute a f p] e pos::rest) (tS X.K cf (.setF U f ce r)):=by
 refine PSs.imp (zaJ (zqK O Y (zeF hc _ _ _)) hr) λE σ H z=>?_;obtain⟨δ,ι,S,Q,hs,hh,w,l⟩:=z;change W (Out.bind _ _) _ at w;simp only[zaa] at w;refine tE.run hs hh w λd v ι1 H1 S1 x1 o q r1 w1=>?_;refine tE.run o q w1 λx vx s H2 B I t h r2 m=>?_;cases g:zb9 B x f d with
 |none=>rw[g]at m;exact m.elim| some S3=>
  rw[g]at m;unfold zb9 at g;cases x with
  |ref i=>
   obtain⟨b,u,rfl⟩:=r2;dsimp only at g;cases j:B.get i with
   |none=>rw[j]at g;exact nS g
   |some ob=>
    rw[j]at g;cases ob with
    |ins c fs=>obtain⟨b',J,C,y,L,M,hb,rf⟩:=h.obj _ _ j;rw[u]at J;cases J;dsimp only at g;split at g;rename_i c2;obtain⟨_,_,cl,_,na⟩:=G.clsAt (.inl (ne_of A)) M;have rv:=r1.ext I;have n:=Ext.wr h j u (.ins C y (putF f v L));refine⟨b,C,y,L,rfl,hb,cl,na f A,by rw[rf.length];exact c2,δ,s,S3,Q,t.ext n,h.wr j u g ⟨C,y,_,M,zaj,(rf.put f rv).up n.pre n.kp⟩,m,l.up ((x1.trans I).trans n)⟩;exact nS g
    |_=>exact nS g
  |_=>exact nS g
theorem znL(G:Gd T cf k N sc X)(hn:zca sc N is es=Γ)(h2:2<=is.length)(he:PE X e (tE X.K cf ce))(hx:(∃x q,e=.Name x q)\/∃f as ks q,e=.Call f as ks q)(hr:PSs X rest (tS X.K cf r)):
  PSs X (.Assign [.Tuple es j p] e pos::rest) (tS X.K cf (.asgT is ce r)):=by
 have hs:swapsWithSole [.Tuple es j p] e pos.line X.env=pure Δ:=by rcases hx with⟨x,q,rfl⟩|⟨f,as,ks,q,rfl⟩<;>rfl
 have hw:swappedStores [.Tuple es j p] e X.env=pure Ψ:=by rcases hx with⟨x,q,rfl⟩|⟨f,as,ks,q,rfl⟩<;>rfl
 refine PSs.imp (zaJ (zqL he (zmZ G hn h2) hs hw) hr) λE σ H z=>?_;obtain⟨δ,ι,S,Q,hs,hh,w,l⟩:=z;change W (Out.bind _ _) _ at w;simp only[zaa] at w;refine tE.run hs hh w λd v ι1 H1 S1 x1 hs1 hh1 r1 w1=>?_;obtain⟨δ2,ea,w2⟩:=zaq w1;exact⟨δ,ι1,d,δ2,hs1,r1,ea,λσ' hs'=>⟨δ2,ι1,S1,Q,hs',hh1,w2,l.up x1⟩⟩
end
noncomputable def zoY:CL->Bool|.comp ..=>Γ|_=>Δ
noncomputable def isR1:CL->Bool|.rng1 _=>Γ|_=>Δ
noncomputable def zmj:CL->Bool|.rng1 _=>Γ|.rng2 _ _=>Γ|.enum _=>Γ|_=>Δ
noncomputable def zkg:CL->Bool|.enum _=>Γ|_=>Δ
set_option backward.match.sparseCases false
noncomputable def zkh:Expr->Bool|.Tuple _ _ _=>Γ|_=>Δ
noncomputable def zbB:Expr->List Str
 |.Name x _=>[x]|.Tuple a _ _=>a.filterMap λ|.Name x _=>Φ x|_=>Ψ
 |_=>[]
set_option backward.match.sparseCases true
noncomputable def zpe(a scope:Scope)(N:List Str)(b:List Nat):Bool:=
 decide (scope.kind=.function)&&scope.names.all (λy=>decide (y.2≠.cell))&&scope.names.all (λy=>decide (y.2≠.local)||decide (scope.names.lookup y.1=Φ .local))
  && scope.names.all (λy=>decide (y.2≠.free)||decide (a.names.lookup y.1=Φ .cell)||decide (a.names.lookup y.1=Φ .free))&&b.all (λj=>decide (scope.names.lookup (N.getD j "")=Φ .free)&&decide (j<N.length))
noncomputable def nmB(x:Str):Bool:=!(x==("__debug__":Str))&&!(x==("__classdict__":Str))&&!(x==("__name__":Str))
noncomputable def tyB(t:String)(y:Str):Bool:=(t=="bool"&&y==("bool":Str))||(t=="int"&&y==("int":Str))||(t=="str"&&y==("str":Str))||(t=="list"&&y==("list":Str))||(t=="tuple"&&y==("tuple":Str))||(t=="dict"&&y==("dict":Str))
noncomputable def biB:Bi->Str->Nat->Bool
 |.len,x,n=>x==("len":Str)&&n==1|.abs,x,n=>x==("abs":Str)&&n==1|.max2,x,n=>x==("max":Str)&&n==2|.min2,x,n=>x==("min":Str)&&n==2|.isin _,_,_=>Δ
set_option backward.match.sparseCases false
noncomputable def zbx:Expr->Option Str|.Name x _=>Φ x|_=>Ψ
noncomputable def zeJ:Expr->Option Const|.Constant c _ _=>Φ c|_=>Ψ
noncomputable def zlJ:Expr->Option (Expr×Operator×Expr)|.BinOp l o r _=>Φ (l,o,r)|_=>Ψ
noncomputable def rdUn:Expr->Option (UnaryOp×Expr)|.UnaryOp o x _=>Φ (o,x)|_=>Ψ
noncomputable def zgy:Expr->Option (Expr×List CmpOp×List Expr)|.Compare l os a _=>Φ (l,os,a)|_=>Ψ
noncomputable def zdD:Expr->Option (BoolOp×List Expr×Pos)|.BoolOp o a p=>Φ (o,a,p)|_=>Ψ
noncomputable def rdIf:Expr->Option (Expr×Expr×Expr)|.IfExp t x y _=>Φ (t,x,y)|_=>Ψ
noncomputable def zil:Expr->Option (List Expr)|.Tuple a _ _=>Φ a|_=>Ψ
noncomputable def zhz:Expr->Option (List Expr)|.List a _=>Φ a|_=>Ψ
noncomputable def zjB:Expr->Option (Expr×Expr)|.Dict [Φ k] [v] _=>Φ (k,v)|_=>Ψ
noncomputable def zcJ:Expr->Bool|.Dict a b _=>a.isEmpty&&b.isEmpty|_=>Δ
noncomputable def zim:Expr->Option (Expr×Expr)|.Subscript x i _=>Φ (x,i)|_=>Ψ
noncomputable def ztl:Expr->Option Expr|.Slice Ψ Ψ (Φ s) _=>Φ s|_=>Ψ
set_option backward.match.sparseCases true
noncomputable def rdSl:Expr->Option (Option Expr×Option Expr)|.Slice l u st _=>(match st with|none=>Φ (l,u)|some _=>Ψ)|_=>Ψ
set_option backward.match.sparseCases false
noncomputable def zcq:Expr->Option (Expr×List Expr×List Keyword×Pos)|.Call f a b p=>Φ (f,a,b,p)|_=>Ψ
noncomputable def zcr:Expr->Option (Expr×Str×Pos)|.Attribute o x p=>Φ (o,x,p)|_=>Ψ
noncomputable def rdLC:Expr->Option (Expr×List Comprehension×Scope×Pos)|.ListComp e a b p=>Φ (e,a,b,p)|_=>Ψ
set_option backward.match.sparseCases true
section
variable{e l r x y i f:Expr}{xs rs as:List Expr}{ks:List Keyword}{p:Pos}
theorem zaH(h:zbx e=Φ n):∃p,e=.Name n p:=by cases e<;>first|(cases h;exact⟨_,rfl⟩)|exact nS h
theorem zgx(h:zeJ e=Φ c):∃j p,e=.Constant c j p:=by cases e<;>first|(cases h;exact⟨_,_,rfl⟩)|exact nS h
theorem zjC(h:zlJ e=Φ (l,o,r)):∃p,e=.BinOp l o r p:=by cases e<;>first|(cases h;exact⟨_,rfl⟩)|exact nS h
theorem zeI(h:rdUn e=Φ (o,x)):∃p,e=.UnaryOp o x p:=by cases e<;>first|(cases h;exact⟨_,rfl⟩)|exact nS h
theorem zcp{os}(h:zgy e=Φ (l,os,rs)):∃p,e=.Compare l os rs p:=by cases e<;>first|(cases h;exact⟨_,rfl⟩)|exact nS h
theorem zbX(h:zdD e=Φ (o,xs,p)):e=.BoolOp o xs p:=by cases e<;>first|(cases h;rfl)|exact nS h
theorem zlI(h:rdIf e=Φ (l,x,y)):∃p,e=.IfExp l x y p:=by cases e<;>first|(cases h;exact⟨_,rfl⟩)|exact nS h
theorem zdB(h:zil e=Φ xs):∃j p,e=.Tuple xs j p:=by cases e<;>first|(cases h;exact⟨_,_,rfl⟩)|exact nS h
theorem zin(h:zhz e=Φ xs):∃p,e=.List xs p:=by cases e<;>first|(cases h;exact⟨_,rfl⟩)|exact nS h
theorem zch(h:zcJ e=Γ):∃p,e=.Dict [] [] p:=by
 cases e with
 |Dict ks a p=>
  cases ks with
  |cons _ _=>exact nB h
  |nil=>
   cases a with
   |cons _ _=>exact nB h
   |nil=>exact⟨_,rfl⟩
 |_=>exact nB h
theorem zdC(h:zim e=Φ (x,i)):∃p,e=.Subscript x i p:=by cases e<;>first|(cases h;exact⟨_,rfl⟩)|exact nS h
theorem zlH(h:rdSl e=Φ (a,b)):∃p,e=.Slice a b Ψ p:=by
 cases e with
 |Slice l u st p=>cases st with|none=>cases h;exact⟨_,rfl⟩|some _=>exact nS h
 |_=>exact nS h
theorem zcK(h:zcq e=Φ (f,as,ks,p)):e=.Call f as ks p:=by cases e<;>first|(cases h;rfl)|exact nS h
theorem zbY(h:zcr e=Φ (x,n,p)):e=.Attribute x n p:=by cases e<;>first|(cases h;rfl)|exact nS h
theorem zhA(h:rdLC e=Φ (x,gs,a,p)):e=.ListComp x gs a p:=by cases e<;>first|(cases h;rfl)|exact nS h
end
theorem zac{a:Type}{o:Option a}{f:a->Bool}(h:o.any f=Γ):∃x,o=Φ x/\f x=Γ:=by
 cases o with
 |none=>exact nB h
 |some x=>exact⟨x,rfl,h⟩
noncomputable def one{α:Type}:List α->Option α | [x]=>Φ x|_=>Ψ
theorem zbd(h:one xs=Φ x):xs=[x]:=by match xs,h with| [y],h=>cases h;rfl
noncomputable def two{α:Type}:List α->Option (α×α) | [x,y]=>Φ (x,y)|_=>Ψ
theorem two_inv(h:two xs=Φ (x,y)):xs=[x,y]:=by match xs,h with| [a,b],h=>cases h;rfl
noncomputable def zaZ(e:Expr):Option (Str×List Expr):=(zcq e).bind λq=>if q.2.2.1.isEmpty then(zbx q.1).map λx=>(x,q.2.1) else Ψ
theorem zaF(h:zaZ e=Φ (x,as)):∃a p,e=.Call (.Name x a) as [] p:=by
 unfold zaZ at h;cases q:zcq e with
 |none=>rw[q]at h;exact nS h
 |some z=>
  obtain⟨f,g,d,p⟩:=z;rw[q]at h;dsimp only[Ϛ]at h;split at h;rename_i c;cases b:zbx f with
  |none=>rw[b]at h;exact nS h
  |some y=>
   obtain⟨a,rfl⟩:=zaH b;cases d with
   |cons _ _=>exact nB c
   |nil=>cases h;exact⟨a,p,zcK q⟩
  exact nS h
noncomputable def zjw:Expr->Option (Expr×Expr)
 |.Call (.Name x _) [o] [⟨Φ k,l,_⟩] _=>if x="sorted"/\k="key" then Φ (o,l) else Ψ|_=>Ψ
theorem zjv(h:zjw e=Φ (o,l)):∃a b d,e=.Call (.Name "sorted" a) [o] [⟨Φ "key",l,b⟩] d:=by unfold zjw at h;split at h;split at h;rename_i c;obtain⟨rfl,rfl⟩:=c;cases h;exact⟨_,_,_,rfl⟩;exact nS h;exact nS h
noncomputable def za0(e:Expr):Option (Str×Expr):=(zaZ e).bind λq=>(one q.2).map λa=>(q.1,a)
theorem zaz(h:za0 e=Φ (x,a)):∃d p,e=.Call (.Name x d) [a] [] p:=by
 unfold za0 at h;cases q:zaZ e with
 |none=>rw[q]at h;exact nS h
 |some z=>
  obtain⟨y,f⟩:=z;rw[q]at h;dsimp only[Ϛ]at h;cases c:one f with
  |none=>rw[c]at h;exact nS h
  |some b=>rw[c]at h;cases h;rw[zbd c]at q;exact zaF q
noncomputable def zcZ(e:Expr):Option (Expr×Str×Pos×Expr×Pos):=(zcq e).bind λq=>if q.2.2.1.isEmpty then(zcr q.1).bind λa=>(one q.2.1).map λy=>(a.1,a.2.1,a.2.2,y,q.2.2.2) else Ψ
theorem zbW(h:zcZ e=Φ (o,x,i,a,j)):e=.Call (.Attribute o x i) [a] [] j:=by
 unfold zcZ at h;cases q:zcq e with
 |none=>rw[q]at h;exact nS h
 |some z=>
  obtain⟨f,k,l,p⟩:=z;rw[q]at h;dsimp only[Ϛ]at h;split at h;rename_i c;cases d:zcr f with
  |none=>rw[d]at h;exact nS h
  |some y=>
   obtain⟨n,r,m⟩:=y;rw[d]at h;dsimp only[Ϛ]at h;cases g:one k with
   |none=>rw[g]at h;exact nS h
   |some b=>
    rw[g]at h;cases h;cases l with
    |cons _ _=>exact nB c
    |nil=>rw[zcK q,zbY d,zbd g]
  exact nS h
noncomputable def za6(e:Expr):Option (Expr×Str×Pos×List Expr×Pos):=(zcq e).bind λq=>if q.2.2.1.isEmpty then(zcr q.1).map λa=>(a.1,a.2.1,a.2.2,q.2.1,q.2.2.2) else Ψ
theorem zaE(h:za6 e=Φ (o,x,b,as,d)):e=.Call (.Attribute o x b) as [] d:=by
 unfold za6 at h;cases q:zcq e with
 |none=>rw[q]at h;exact nS h
 |some z=>
  obtain⟨f,j,g,p⟩:=z;rw[q]at h;dsimp only[Ϛ]at h;split at h;rename_i c;cases a:zcr f with
  |none=>rw[a]at h;exact nS h
  |some y=>
   obtain⟨k,l,i⟩:=y;rw[a]at h;cases h;cases g with
   |cons _ _=>exact nB c
   |nil=>rw[zcK q,zbY a]
  exact nS h
noncomputable def fnB(T:Tab)(f j:Nat)(x:Str):Bool:=match T.fns[f]? with|some (y,_,a)=>(y==x)&&decide (j<=a)|none=>Δ
noncomputable def conG(T:Tab)(d:D)(x:Str):Bool:=match T.cons.lookup x with|some a=>eqC a d|none=>Δ
set_option backward.match.sparseCases false in
noncomputable def zko:CE->Bool|.con _=>Γ|_=>Δ
noncomputable def zgU:CL->Bool|.comp ..=>Γ|_=>Δ
set_option backward.match.sparseCases false in
noncomputable def zki:CE->Bool|.tst (.con (.bl Γ))=>Γ|_=>Δ
noncomputable def zoF:CEs->Bool|.cons _ .nil=>Γ|_=>Δ
noncomputable def zoJ:CEs->Bool|.nil=>Γ|_=>Δ
noncomputable def mtN:Mt->Str->Bool
 |.append,x=>x==("append":Str)|.popAt,x=>x==("pop":Str)|.count,x=>x==("count":Str)
noncomputable def zsW:Bi->Option String|.isin t=>Φ t|_=>Ψ
noncomputable def tgB(a:Scope)(N:List Str)(g:List Nat)(b:Expr):Bool:=match zbx b with|some x=>(match one g with|some i=>(N[i]?==Φ x)&&zfS a x|none=>Δ)|none=>(zil b).any λc=>decide (2<=g.length)&&zca a N g c
mutual
noncomputable def chkE(T:Tab)(e₀:CE)(N:List Str)(sc:Scope)(e:Expr):Bool:=match e₀ with
 |.loc i=>(zbx e).any λx=>(N[i]?==Φ x)&&zmi sc x&&nmB x|.con d=>(zeJ e).any (λc=>conB d c)||(zbx e).any λx=>isGl sc x&&conG T d x&&nmB x
 |.tst _=>Δ|.bin op a b=>(zlJ e).any λq=>decide (q.2.1=op)&&chkE T a N sc q.1&&chkE T b N sc q.2.2|.neg a=>(rdUn e).any λq=>decide (q.1=.USub)&&chkE T a N sc q.2|.nt a=>(rdUn e).any λq=>decide (q.1=.Not)&&chkE T a N sc q.2|.cmp op a b=>(zgy e).any λq=>decide (q.2.1=[op])&&(one q.2.2).any λr=>zaN r&&chkE T a N sc q.1&&chkE T b N sc r|.cmp2 op op' a b c=>(zgy e).any λq=>decide (q.2.1=[op,op'])&&(two q.2.2).any λr=>zaN r.1&&zaN r.2&&chkE T a N sc q.1&&chkE T b N sc r.1&&chkE T c N sc r.2
 |.and a b=>(zdD e).any λq=>decide (q.1=.And)&&(match q.2.1 with
  |x::y::rest=>chkE T a N sc x&&(if rest.isEmpty then chkE T b N sc y else chkE T b N sc (.BoolOp .And (y::rest) q.2.2))|_=>Δ)
 |.or a b=>(zdD e).any λq=>decide (q.1=.Or)&&(match q.2.1 with
  |x::y::rest=>chkE T a N sc x&&(if rest.isEmpty then chkE T b N sc y else chkE T b N sc (.BoolOp .Or (y::rest) q.2.2))|_=>Δ)
 |.ite c a b=>(rdIf e).any λq=>chkT T c N sc q.1&&chkE T a N sc q.2.1&&chkE T b N sc q.2.2|.tup es=>(zil e).any λxs=>zcR T es N sc xs|.lst es=>(zhz e).any λxs=>zcR T es N sc xs|.dnew=>zcJ e|.dnewT=>zcJ e|.dnew3=>zcJ e|.srtK a=>(zjw e).any λq=>(((bltB T sc "sorted"&&zah q.1)&&lamB q.2)&&decide (N=T.lam))&&chkE T a N sc q.1|.dgN a b=>(zcZ e).any λq=>(q.2.1==("get":Str))&&zah q.2.2.2.1&&zau q.1&&(q.2.2.1.endLine==q.2.2.2.2.line)&&chkE T a N sc q.1&&chkE T b N sc q.2.2.2.1|.dget2 a b c=>(za6 e).any λq=>(two q.2.2.2.1).any λz=>(q.2.1==("get":Str))&&zah z.1&&zah z.2&&zau q.1&&(q.2.2.1.endLine==q.2.2.2.2.line)&&chkE T a N sc q.1&&chkE T b N sc z.1&&chkE T c N sc z.2|.dgetI a b c=>(za6 e).any λq=>(two q.2.2.2.1).any λz=>(q.2.1==("get":Str))&&zah z.1&&zah z.2&&zau q.1&&(q.2.2.1.endLine==q.2.2.2.2.line)&&chkE T a N sc q.1&&chkE T b N sc z.1&&chkE T c N sc z.2|.dsetd a b c=>(za6 e).any λq=>(two q.2.2.2.1).any λz=>(q.2.1==("setdefault":Str))&&zah z.1&&zah z.2&&zau q.1&&(q.2.2.1.endLine==q.2.2.2.2.line)&&chkE T a N sc q.1&&chkE T b N sc z.1&&chkE T c N sc z.2|.dsetI a b c=>(za6 e).any λq=>(two q.2.2.2.1).any λz=>(q.2.1==("setdefault":Str))&&zah z.1&&zah z.2&&zau q.1&&(q.2.2.1.endLine==q.2.2.2.2.line)&&chkE T a N sc q.1&&chkE T b N sc z.1&&chkE T c N sc z.2|.intb a=>(za0 e).any λq=>(q.1==("int":Str))&&bltB T sc q.1&&zah q.2&&chkE T a N sc q.2|.extv a b=>(zcZ e).any λq=>(q.2.1==("extend":Str))&&zah q.2.2.2.1&&zau q.1&&(q.2.2.1.endLine==q.2.2.2.2.line)&&chkE T a N sc q.1&&chkE T b N sc q.2.2.2.1|.fld a f=>(zcr e).any λq=>decide (q.2.1=f)&&zau q.1&&T.flds.contains f&&chkE T a N sc q.1|.mk c f x j es=>(zaZ e).any λq=>decide (q.1=x)&&isGl sc x&&nmB x&&decide (T.cls[c]?=Φ x)&&T.inits.contains (c,f,j)&&(!q.2.isEmpty||zoJ es)&&zcR T es N sc q.2|.meth m tb o es=>(za6 e).any λq=>decide (q.2.1=m)&&mtB T m tb&&zau q.1&&(q.2.2.1.endLine==q.2.2.2.2.line)&&decide (q.2.2.2.1.length<29)&&(!q.2.2.2.1.isEmpty||zoJ es)&&chkE T o N sc q.1&&zcR T es N sc q.2.2.2.1|.callC f x m es=>(za6 e).any λq=>(zbx q.1).any λy=>decide (y=x)&&decide (q.2.1=m)&&isGl sc x&&nmB x&&T.cms.contains (x,m,f)&&(q.2.2.1.endLine==q.2.2.2.2.line)&&decide (q.2.2.2.1.length<29)&&!q.2.2.2.1.isEmpty&&zcR T es N sc q.2.2.2.1|.clr a=>(za6 e).any λq=>(q.2.1==("clear":Str))&&zau q.1&&(q.2.2.1.endLine==q.2.2.2.2.line)&&q.2.2.2.1.isEmpty&&chkE T a N sc q.1|.ix a b=>(zim e).any λq=>zeW q.2&&chkE T a N sc q.1&&chkE T b N sc q.2
 |.sl a ml mh lo hi=>(zim e).any λq=>(rdSl q.2).any λs=>chkE T a N sc q.1
  && (match s.1 with|none=>!ml&&zko lo|some e=>ml&&chkE T lo N sc e)
  && (match s.2 with|none=>!mh&&zko hi|some e=>mh&&chkE T hi N sc e)
 |.call f j es=>(zaZ e).any λq=>isGl sc q.1&&nmB q.1&&fnB T f j q.1&&(!q.2.isEmpty||zoJ es)&&zcR T es N sc q.2|.callW f j es=>(zaZ e).any λq=>isGl sc q.1&&nmB q.1&&fnB T f j q.1&&!q.2.isEmpty&&zcR T es N sc q.2
 |.bi b es=>(zaZ e).any λq=>bltB T sc q.1&&nmB q.1&&(match zsW b with
  |some t=>(two q.2).any λz=>(zbx z.2).any λy=>(q.1==("isinstance":Str))&&tyB t y&&bltB T sc y&&nmB y&&zoF es&&zcR T es N sc [z.1]|none=>biB b q.1 q.2.length&&!q.2.isEmpty&&zcR T es N sc q.2)
 |.mt m o es=>(zcZ e).any λq=>mtN m q.2.1&&zau q.1&&(q.2.2.1.endLine==q.2.2.2.2.line)&&zoF es&&chkE T o N sc q.1&&zcR T es N sc [q.2.2.2.1]
 |.mkL l=>if zgU l then((rdLC e).isSome&&chkL T l N sc e)
  else(za0 e).any λq=>(q.1==("list":Str))&&bltB T sc q.1&&zah q.2&&(!(zmj l)||isR1 l)&&chkL T l N sc q.2
 |.all l=>(za0 e).any λq=>(q.1==("all":Str))&&bltB T sc q.1&&zah q.2&&!(zmj l)&&chkL T l N sc q.2|.ext a l=>(zcZ e).any λq=>(q.2.1==("extend":Str))&&zah q.2.2.2.1&&zau q.1&&(q.2.2.1.endLine==q.2.2.2.2.line)&&zoY l&&chkE T a N sc q.1&&chkL T l N sc q.2.2.2.1|.lenset l=>(za0 e).any λq=>(za0 q.2).any λz=>(q.1==("len":Str))&&bltB T sc q.1&&(z.1==("set":Str))&&bltB T sc z.1&&zah z.2&&!(zmj l)&&chkL T l N sc z.2|.srt a=>(za0 e).any λq=>(q.1==("sorted":Str))&&bltB T sc q.1&&zah q.2&&chkE T a N sc q.2
noncomputable def zcR(T:Tab)(e₀:CEs)(N:List Str)(sc:Scope)(es:List Expr):Bool:=match e₀ with|.nil=>es.isEmpty|.cons a r=>(match es with | []=>Δ|e::es=>zah e&&chkE T a N sc e&&zcR T r N sc es)
noncomputable def chkT(T:Tab)(e₀:CE)(N:List Str)(sc:Scope)(e:Expr):Bool:=match e₀ with
 |.cmp op a b=>(zgy e).any λq=>decide (q.2.1=[op])&&(one q.2.2).any λr=>zaN r&&chkE T a N sc q.1&&chkE T b N sc r|.cmp2 op op' a b c=>(zgy e).any λq=>decide (q.2.1=[op,op'])&&(two q.2.2).any λr=>zaN r.1&&zaN r.2&&chkE T a N sc q.1&&chkE T b N sc r.1&&chkE T c N sc r.2|.nt a=>(rdUn e).any λq=>decide (q.1=.Not)&&chkT T a N sc q.2
 |.and a b=>(zdD e).any λq=>decide (q.1=.And)&&(match q.2.1 with
  |x::y::rest=>chkT T a N sc x&&(if rest.isEmpty then chkT T b N sc y else chkT T b N sc (.BoolOp .And (y::rest) q.2.2))|_=>Δ)
 |.or a b=>(zdD e).any λq=>decide (q.1=.Or)&&(match q.2.1 with
  |x::y::rest=>chkT T a N sc x&&(if rest.isEmpty then chkT T b N sc y else chkT T b N sc (.BoolOp .Or (y::rest) q.2.2))|_=>Δ)
 |.tst a=>zhE e&&chkE T a N sc e|_=>Δ
noncomputable def chkL(T:Tab):CL->List Str->Scope->Expr->Bool
 |.val a,N,sc,e=>zaN e&&chkE T a N sc e|.rng1 a,N,sc,e=>(za0 e).any λq=>(q.1==("range":Str))&&bltB T sc q.1&&zah q.2&&chkE T a N sc q.2|.rng2 a b,N,sc,e=>(zaZ e).any λq=>(two q.2).any λz=>(q.1==("range":Str))&&bltB T sc q.1&&zah z.1&&zah z.2&&chkE T a N sc z.1&&chkE T b N sc z.2|.enum a,N,sc,e=>(za0 e).any λq=>(q.1==("enumerate":Str))&&bltB T sc q.1&&zah q.2&&chkE T a N sc q.2
 |.comp nt js g it c e,N,sc,ex=>(rdLC ex).any λq=>(one q.2.1).any λz=>decide (z.is_async=0)&&zpe sc q.2.2.1 N js&&(zaN z.iter&&(zkh z.target||!(zkg it)))&&chkL T it N sc z.iter&&decide ((zbB z.target).length=nt)&&decide ((capN N (zbB z.target) js).Nodup/\capN N (zbB z.target) js≠T.lam)
  && tgB q.2.2.1 (capN N (zbB z.target) js) g z.target
  && (if z.ifs.isEmpty then zki c else(one z.ifs).any λt=>chkT T c (capN N (zbB z.target) js) q.2.2.1 t)
  && chkE T e (capN N (zbB z.target) js) q.2.2.1 q.1
end
noncomputable def zio:Stmt->Option (Expr×Expr×Pos)|.Assign a v p=>(one a).map λt=>(t,v,p)|_=>Ψ
set_option backward.match.sparseCases false
noncomputable def zqx:Stmt->Option (Expr×List Stmt×List Stmt)|.If e a b _=>Φ (e,a,b)|_=>Ψ
noncomputable def zoa:Stmt->Option (Expr×Expr×List Stmt)|.For c d b a _=>if a.isEmpty then Φ (c,d,b) else Ψ|_=>Ψ
set_option backward.match.sparseCases true
noncomputable def zn9:Stmt->Option Expr|.Return v _=>v|_=>Ψ
set_option backward.match.sparseCases false in
noncomputable def zqy:Stmt->Option Expr|.Expr v _=>Φ v|_=>Ψ
section
variable{s:Stmt}{e v tg it:Expr}{a b:List Stmt}{p:Pos}
theorem zcs(h:zio s=Φ (tg,v,p)):s=.Assign [tg] v p:=by
 cases s with
 |Assign c v p=>
  simp only[zio]at h;cases q:one c with
  |none=>rw[q]at h;exact nS h
  |some t=>rw[q]at h;cases h;rw[zbd q]
 |_=>exact nS h
theorem zjy(h:zqx s=Φ (e,a,b)):∃p,s=.If e a b p:=by cases s<;>first|(cases h;exact⟨_,rfl⟩)|exact nS h
theorem zjz(h:zoa s=Φ (tg,it,b)):∃p,s=.For tg it b [] p:=by
 cases s with
 |For tg it b c p=>cases c with|nil=>cases h;exact⟨_,rfl⟩|cons _ _=>exact nS h
 |_=>exact nS h
theorem zjx(h:zn9 s=Φ e):∃p,s=.Return (Φ e) p:=by cases s with|Return v p=>simp only[zn9]at h;subst h;exact⟨_,rfl⟩|_=>exact nS h
theorem zjA(h:zqy s=Φ e):∃p,s=.Expr e p:=by cases s<;>first|(cases h;exact⟨_,rfl⟩)|exact nS h
end
noncomputable def chkS(T:Tab)(j:CS)(N:List Str)(h:Scope)(st:List Stmt):Bool:=match j with|.nil=>st.isEmpty|.stop=>Γ|.asg i e r=>(match st with | []=>Δ|s::d=>(zio s).any λq=>(zbx q.1).any λx=>(N[i]?==Φ x)&&zfS h x&&chkE T e N h q.2.1&&chkS T r N h d)|.asgT g e r=>(match st with | []=>Δ|s::d=>(zio s).any λq=>(zil q.1).any λk=>((zbx q.2.1).isSome||(zaZ q.2.1).isSome)&&decide (2<=g.length)&&zca h N g k&&chkE T e N h q.2.1&&chkS T r N h d)|.setIx a b e r=>(match st with | []=>Δ|s::d=>(zio s).any λq=>(zim q.1).any λz=>zbe q.2.1&&chkE T a N h z.1&&chkE T b N h z.2&&chkE T e N h q.2.1&&chkS T r N h d)|.setF a f e r=>(match st with | []=>Δ|s::d=>(zio s).any λq=>(zcr q.1).any λz=>decide (z.2.1=f)&&T.flds.contains f&&zbe q.2.1&&chkE T a N h z.1&&chkE T e N h q.2.1&&chkS T r N h d)|.ifS c t u r=>(match st with | []=>Δ|s::d=>(zqx s).any λq=>chkT T c N h q.1&&chkS T t N h q.2.1&&chkS T u N h q.2.2&&chkS T r N h d)|.forS g l b r=>(match st with | []=>Δ|s::d=>(zoa s).any λq=>zaN q.2.1&&chkL T l N h q.2.1&&chkS T b N h q.2.2&&chkS T r N h d&&(tgB h N g q.1&&(zkh q.1||!(zkg l))))|.ret e r=>(match st with | []=>Δ|s::d=>(zn9 s).any λv=>chkE T e N h v&&chkS T r N h d)|.expr e r=>(match st with | []=>Δ|s::d=>(zqy s).any λv=>zbe v&&chkE T e N h v&&chkS T r N h d)
end R
section
set_option maxHeartbeats 8000000
namespace R
open PySem PySem.Spec PyProof.Rows L2
variable[Mks]
section
variable{T:Tab}{cf:CF}{k:Nat}{N:List Str}{sc:Scope}{X:Cx}
theorem zbK(env)(x):∀{names:List (Str×NameKind)}{k0:NameKind},names.lookup x=Φ k0->k0≠.free->(names.map (zb8 env)).lookup x=Φ k0
 | [],_,h,_=>by simp at h| y::r,k0,h,hk=>by
  rw[Ν];have f1:=zdA env y;have f2:=zdz env y;obtain⟨n,k1⟩:=y;generalize hz:zb8 env (n,k1)=z at *;obtain⟨zn,zk⟩:=z;simp only at f1 f2;subst f1;rw[ϗ]at h⊢;cases hx:x==zn with
  |true=>rw[hx]at h;have e:k1=k0:=Option.some.inj h;subst e;rcases f2 with f2|⟨q,_⟩;show Φ zk=_;rw[f2];exact absurd q hk
  |false=>rw[hx]at h;exact zbK env x h hk
theorem zh7(G:Gd T cf k N sc X)(h:zpe sc scope N b=Γ):CompOk X.env.scope scope X.N b:=by unfold zpe at h;simp only[Λ,all_eq_true,decide_eq_true_eq,ϟ]at h;obtain⟨⟨⟨⟨c,d⟩,f⟩,g⟩,i⟩:=h;refine⟨c,d,λy a e=>?_,λy a e=>?_,λj l=>?_⟩;rcases f y a with z|z;exact absurd e z;exact z;rcases g y a with (z|z)|z;exact absurd e z;exact .inl (G.cell _ z);exact(G.free _ z).symm;rw[G.nm];exact i j l
theorem zkA(G:Gd T cf k N sc X)(ok:CompOk X.env.scope scope X.N b)(d:(capN N tgs b).Nodup/\capN N tgs b≠T.lam)(cl)(C)(f)(s)(H)(pn):
  Gd T cf k (capN N tgs b) scope (zav X (capN X.N tgs b) scope cl C f s H pn):=by
 have a:(zav X (capN X.N tgs b) scope cl C f s H pn).env.scope.names=scope.names.map (zb8 X.env):=zbs scope X.env;have c:∀x,scope.names.lookup x≠Φ .cell:=λx e=>ok.nocell _ (PySem.mem_of_lookup e) rfl;refine⟨by rw[<-G.nm],d.1,λx e=>?_,λx e=>absurd e (c x),λx e=>?_,λx e=>?_,.inr c,G.calm,rfl,G.room',G.tab,λz=>absurd z d.2⟩;rw[a];exact zbK _ _ e (by decide);rw[a];exact zbt _ _ _ e;rw[a];exact zbK _ _ e (by decide)
theorem zc0(h:nmB x=Γ):(x==("__debug__":Str))=Δ/\(x==("__classdict__":Str))=Δ/\x≠("__name__":Str):=by unfold nmB at h;simp only[Λ,not_eq_true']at h;exact⟨h.1.1,h.1.2,λe=>by rw[e]at h;simp at h⟩
theorem zpH(h:tyB t y=Γ):t∈["bool","int","str","list","tuple","dict"]/\bootBuiltins y=Φ (.type t):=by unfold tyB at h;simp only[ϟ,Λ,beq_iff_eq]at h;rcases h with ((((⟨rfl,rfl⟩|⟨rfl,rfl⟩)|⟨rfl,rfl⟩)|⟨rfl,rfl⟩)|⟨rfl,rfl⟩)|⟨rfl,rfl⟩;exact⟨by simp,zpl⟩;exact⟨by simp,znr⟩;exact⟨by simp,zrV⟩;exact⟨by simp,zg4⟩;exact⟨by simp,zmF⟩;exact⟨by simp,zpk⟩
theorem zni(h:fnB T f j x=Γ):∃ps a,T.fns[f]?=Φ (x,ps,a)/\j<=a:=by
 unfold fnB at h;cases e:T.fns[f]? with
 |none=>rw[e]at h;exact nB h
 |some q=>obtain⟨y,ps,a⟩:=q;rw[e]at h;simp only[Λ,beq_iff_eq,decide_eq_true_eq]at h;obtain⟨rfl,b⟩:=h;exact⟨ps,a,rfl,b⟩
theorem zaA:∀{b:CEs}{N:List Str}{sc:Scope}{es:List Expr},zcR T b N sc es=Γ->es.all zah=Γ
 |.nil,N,sc,es,h=>by obtain rfl:=isEmpty_iff.mp h;rfl| .cons a r,N,sc,es,h=>by
  cases es with
  |nil=>exact nB h
  |cons e es=>replace h:=(Λ _ _).mp h;simp[((Λ _ _).mp h.1).1,zaA h.2]
theorem zh8(h:zoF es=Γ):∃a,es=.cons a .nil:=by
 cases es with
 |nil=>exact nB h
 |cons a r=>cases r with|nil=>exact⟨a,rfl⟩|cons _ _=>exact nB h
theorem ziV(G:Gd T cf k N sc X)(h:biB b x n=Γ):∃id,zba X (.builtin id) (rB X.K λS ds=>R.bi S b ds)/\bootBuiltins x=Φ (.builtin id):=by cases b with|len=>simp only[biB,Λ,beq_iff_eq]at h;rw[h.1];exact⟨_,zrq,znq⟩|abs=>simp only[biB,Λ,beq_iff_eq]at h;rw[h.1];exact⟨_,zr4,zr0⟩|max2=>simp only[biB,Λ,beq_iff_eq]at h;rw[h.1];exact⟨_,zrj G.calm,zrY⟩|min2=>simp only[biB,Λ,beq_iff_eq]at h;rw[h.1];exact⟨_,zrh G.calm,zrX⟩|isin t=>simp[biB]at h
def LOk(T:Tab)(cf:CF)(k:Nat)(cl:CL)(X:Cx)(e:Expr):Prop:=(zmj cl=Δ->PE X e (tL X.K cf cl))/\(zoY cl=Γ->PE X e (tLt X.K cf cl))/\(∀c,(zkh c||!(zkg cl))=Γ->PI X c e (tI X.K cf cl))/\
 ∀a,cl=.rng1 a->∃b d p,e=.Call (.Name "range" d) [b] [] p/\(Gl X "range"/\X.mg "range"=Ψ)/\PE X b (tE X.K cf a)/\zah b=Γ
def EsOk(cf:CF)(b:CEs)(X:Cx)(es:List Expr):Prop:=PA X es (tAs X.K cf b)/\∀a r e c,b=.cons a r->es=e::c->PE X e (tE X.K cf a)
theorem znB(G:Gd T cf k N sc X)(h:tgB sc N g a=Γ):PG X a (tG X.K g):=by unfold tgB at h;split at h;rename_i x q;obtain⟨p,rfl⟩:=zaH q;split at h;rename_i i b;rw[zbd b];simp only[Λ,beq_iff_eq]at h;exact znR G h.1 h.2;exact nB h;replace h:=zac h;obtain⟨c,q,h⟩:=h;obtain⟨j,p,rfl⟩:=zdB q;simp only[Λ,decide_eq_true_eq]at h;exact zmZ G h.2 h.1
theorem zhj(h:zki c=Γ):PTs X [] (tT X.K cf c):=by
 have f:c=.tst (.con (.bl Γ)):=by
  cases c with
  |tst a=>
   cases a with
   |con d=>
    cases d with
    |bl b=>cases b with|true=>rfl|false=>exact nB h
    |_=>exact nB h
   |_=>exact nB h
  |_=>exact nB h
 subst f;intro e g i j l I q;refine zoi e g i j l I ?_;obtain⟨o,m,S,Q,p,n,w,q⟩:=q;exact q _ _ ⟨m,S,Ext.refl _ _,n,w⟩
theorem zjU(b:o=Ψ->m=Δ/\zko a=Γ)(c:∀e,o=Φ e->m=Γ/\PE X e (tE X.K cf a)):PartOk X cf m a o:=by
 cases o with
 |none=>obtain⟨rfl,h⟩:=b rfl;cases a with|con d=>exact .no ⟨d,rfl⟩|_=>exact nB h
 |some e=>obtain⟨rfl,h⟩:=c e rfl;exact .yes h
theorem zaC{x y:Str}(h:(x==y)=Γ):x=y:=by simpa using h
set_option tactic.hygienic true in
mutual
theorem zad:∀(ce:CE){N:List Str}{sc:Scope}{e:Expr}{X:Cx},Gd T cf k N sc X->chkE T ce N sc e=Γ->PE X e (tE X.K cf ce)
 |.loc i,N,sc,e,X,G,h=>by replace h:=zac h;obtain⟨x,q,h⟩:=h;obtain⟨p,rfl⟩:=zaH q;simp only[Λ,beq_iff_eq]at h;obtain⟨h1,h2,_⟩:=zc0 h.2;exact zqd G h.1.1 h.1.2 h1 h2| .con d,N,sc,e,X,G,h=>by replace h:=(ϟ _ _).mp h;rcases h with h|h;replace h:=zac h;obtain⟨c,q,h⟩:=h;obtain⟨j,p,rfl⟩:=zgx q;exact zqi h;replace h:=zac h;obtain⟨x,q,h⟩:=h;obtain⟨p,rfl⟩:=zaH q;simp only[Λ]at h;obtain⟨h1,h2,_⟩:=zc0 h.2;have h3:=h.1.2;unfold conG at h3;split at h3;rename_i d' e';exact znZ G h.1.1 e' h3 h1;exact nB h3
 |.tst a,N,sc,e,X,G,h=>by exact nB h| .bin op a b,N,sc,e,X,G,h=>by replace h:=zac h;obtain⟨⟨l,o,r⟩,q,h⟩:=h;obtain⟨p,rfl⟩:=zjC q;simp only[Λ,decide_eq_true_eq]at h;obtain⟨⟨rfl,h1⟩,h2⟩:=h;exact zql (zad a G h1) (zad b G h2)| .neg a,N,sc,e,X,G,h=>by replace h:=zac h;obtain⟨⟨o,x⟩,q,h⟩:=h;obtain⟨p,rfl⟩:=zeI q;simp only[Λ,decide_eq_true_eq]at h;obtain⟨rfl,h1⟩:=h;exact zp9 (zad a G h1)| .nt a,N,sc,e,X,G,h=>by replace h:=zac h;obtain⟨⟨o,x⟩,q,h⟩:=h;obtain⟨p,rfl⟩:=zeI q;simp only[Λ,decide_eq_true_eq]at h;obtain⟨rfl,h1⟩:=h;exact zsr (zad a G h1)| .cmp op a b,N,sc,e,X,G,h=>by replace h:=zac h;obtain⟨⟨l,os,rs⟩,q,h⟩:=h;obtain⟨p,rfl⟩:=zcp q;rw[Λ,decide_eq_true_eq]at h;obtain⟨e1,h⟩:=h;replace h:=zac h;obtain⟨r,q2,h⟩:=h;cases zbd q2;cases e1;simp only[Λ]at h;exact zqj G (zad a G h.1.2) (zad b G h.2) h.1.1| .cmp2 op op' a b c,N,sc,e,X,G,h=>by replace h:=zac h;obtain⟨⟨l,os,rs⟩,q,h⟩:=h;obtain⟨p,rfl⟩:=zcp q;rw[Λ,decide_eq_true_eq]at h;obtain⟨e1,h⟩:=h;replace h:=zac h;obtain⟨⟨r,r'⟩,q2,h⟩:=h;cases two_inv q2;cases e1;simp only[Λ]at h;obtain⟨⟨⟨⟨h1,h2⟩,h3⟩,h4⟩,h5⟩:=h;exact zn2 G (zad a G h3) (zad b G h4) (zad c G h5) h1 h2| .and a b,N,sc,e,X,G,h=>by replace h:=zac h;obtain⟨⟨o,vs,p⟩,q,h⟩:=h;cases zbX q;rw[Λ,decide_eq_true_eq]at h;obtain⟨e1,h⟩:=h;cases e1;dsimp only at h;split at h;rename_i x y rest;rw[Λ]at h;obtain⟨h1,h2⟩:=h;split at h2;rename_i c;cases isEmpty_iff.mp c;exact zm1 (zad a G h1) (zm9 (zad b G h2));exact zm1 (zad a G h1) (zad b G h2);exact nB h
 |.or a b,N,sc,e,X,G,h=>by replace h:=zac h;obtain⟨⟨o,vs,p⟩,q,h⟩:=h;cases zbX q;rw[Λ,decide_eq_true_eq]at h;obtain⟨e1,h⟩:=h;cases e1;dsimp only at h;split at h;rename_i x y rest;rw[Λ]at h;obtain⟨h1,h2⟩:=h;split at h2;rename_i c;cases isEmpty_iff.mp c;exact zp8 (zad a G h1) (zm9 (zad b G h2));exact zp8 (zad a G h1) (zad b G h2);exact nB h
 |.ite c a b,N,sc,e,X,G,h=>by replace h:=zac h;obtain⟨⟨t,x,y⟩,q,h⟩:=h;obtain⟨p,rfl⟩:=zlI q;simp only[Λ]at h;exact zqe (zaT c G h.1.1).1 (zad a G h.1.2) (zad b G h.2)| .tup es,N,sc,e,X,G,h=>by replace h:=zac h;obtain⟨xs,q,h⟩:=h;obtain⟨j,p,rfl⟩:=zdB q;exact zp6 (zaL es G h).1| .lst es,N,sc,e,X,G,h=>by replace h:=zac h;obtain⟨xs,q,h⟩:=h;obtain⟨p,rfl⟩:=zin q;exact zqc (zaL es G h).1| .dnew,N,sc,e,X,G,h=>by obtain⟨p,rfl⟩:=zch h;exact zn1| .dnewT,N,sc,e,X,G,h=>by obtain⟨p,rfl⟩:=zch h;exact zlr| .dgN a b,N,sc,e,X,G,h=>by replace h:=zac h;obtain⟨⟨oe,x,ap,e1,cp⟩,q,h⟩:=h;cases zbW q;simp only[Λ]at h;obtain⟨⟨⟨⟨⟨hx,h1⟩,h2⟩,h3⟩,h4⟩,h5⟩:=h;cases zaC hx;exact zqh G (zad a G h4) (zad b G h5) h1 h2 h3| .dget2 a b c,N,sc,e,X,G,h=>by replace h:=zac h;obtain⟨⟨oe,x,ap,as,cp⟩,q,h⟩:=h;cases zaE q;replace h:=zac h;obtain⟨⟨e1,e2⟩,q2,h⟩:=h;cases two_inv q2;simp only[Λ]at h;obtain⟨⟨⟨⟨⟨⟨⟨hx,h1⟩,h2⟩,h3⟩,h4⟩,h5⟩,h6⟩,h7⟩:=h;cases zaC hx;exact zlu G (zad a G h5) (zad b G h6) (zad c G h7) h1 h2 h3 h4| .dgetI a b c,N,sc,e,X,G,h=>by replace h:=zac h;obtain⟨⟨oe,x,ap,as,cp⟩,q,h⟩:=h;cases zaE q;replace h:=zac h;obtain⟨⟨e1,e2⟩,q2,h⟩:=h;cases two_inv q2;simp only[Λ]at h;obtain⟨⟨⟨⟨⟨⟨⟨hx,h1⟩,h2⟩,h3⟩,h4⟩,h5⟩,h6⟩,h7⟩:=h;cases zaC hx;exact zlt G (zad a G h5) (zad b G h6) (zad c G h7) h1 h2 h3 h4| .dsetd a b c,N,sc,e,X,G,h=>by replace h:=zac h;obtain⟨⟨oe,x,ap,as,cp⟩,q,h⟩:=h;cases zaE q;replace h:=zac h;obtain⟨⟨e1,e2⟩,q2,h⟩:=h;cases two_inv q2;simp only[Λ]at h;obtain⟨⟨⟨⟨⟨⟨⟨hx,h1⟩,h2⟩,h3⟩,h4⟩,h5⟩,h6⟩,h7⟩:=h;cases zaC hx;exact zlp G (zad a G h5) (zad b G h6) (zad c G h7) h1 h2 h3 h4| .dsetI a b c,N,sc,e,X,G,h=>by replace h:=zac h;obtain⟨⟨oe,x,ap,as,cp⟩,q,h⟩:=h;cases zaE q;replace h:=zac h;obtain⟨⟨e1,e2⟩,q2,h⟩:=h;cases two_inv q2;simp only[Λ]at h;obtain⟨⟨⟨⟨⟨⟨⟨hx,h1⟩,h2⟩,h3⟩,h4⟩,h5⟩,h6⟩,h7⟩:=h;cases zaC hx;exact zlq G (zad a G h5) (zad b G h6) (zad c G h7) h1 h2 h3 h4| .intb a,N,sc,e,X,G,h=>by replace h:=zac h;obtain⟨⟨x,e1⟩,q,h⟩:=h;obtain⟨p2,p,rfl⟩:=zaz q;simp only[Λ]at h;obtain⟨⟨⟨hx,h1⟩,h2⟩,h3⟩:=h;cases zaC hx;exact znY (za9 G h1) (zad a G h3) h2| .extv a b,N,sc,e,X,G,h=>by replace h:=zac h;obtain⟨⟨oe,x,ap,e1,cp⟩,q,h⟩:=h;cases zbW q;simp only[Λ]at h;obtain⟨⟨⟨⟨⟨hx,h1⟩,h2⟩,h3⟩,h4⟩,h5⟩:=h;cases zaC hx;exact zn0 (zad a G h4) (zad b G h5) h1 h2 h3| .ix a b,N,sc,e,X,G,h=>by replace h:=zac h;obtain⟨⟨x,i⟩,q,h⟩:=h;obtain⟨p,rfl⟩:=zdC q;simp only[Λ]at h;exact zst (zad a G h.1.2) (zad b G h.2) h.1.1| .fld a f,N,sc,e,X,G,h=>by replace h:=zac h;obtain⟨⟨o,f',p⟩,q,h⟩:=h;cases zbY q;simp only[Λ,decide_eq_true_eq]at h;obtain⟨⟨⟨rfl,h2⟩,h3⟩,h4⟩:=h;exact zqf G (zad a G h4) h2 h3| .mk c f x j es,N,sc,e,X,G,h=>by
  replace h:=zac h;obtain⟨⟨x',args⟩,q,h⟩:=h;obtain⟨p2,p,rfl⟩:=zaF q;simp only[Λ,ϟ,decide_eq_true_eq]at h;obtain⟨⟨⟨⟨⟨⟨rfl,h1⟩,h2⟩,h3⟩,h4⟩,h5⟩,h6⟩:=h;obtain⟨n1,n2,n3⟩:=zc0 h2;have ha:=(zaL es G h6).1;cases args with
  |nil=>
   have:es=.nil:=by cases es with|nil=>rfl|cons _ _=>rcases h5 with z|z<;>exact nB z
   rw[this];exact zqb G h4 h3 h1 n1
  |cons a as=>exact zss G h4 h3 h1 n1 ha (zaA h6)
 |.meth m tb o es,N,sc,e,X,G,h=>by
  replace h:=zac h;obtain⟨⟨oe,m',ap,args,cp⟩,q,h⟩:=h;cases zaE q;simp only[Λ,ϟ,decide_eq_true_eq]at h;obtain⟨⟨⟨⟨⟨⟨⟨rfl,h1⟩,h2⟩,h3⟩,h4⟩,h5⟩,h6⟩,h7⟩:=h;have ho:=zad o G h6;have ha:=(zaL es G h7).1;cases args with
  |nil=>
   have:es=.nil:=by cases es with|nil=>rfl|cons _ _=>rcases h5 with z|z<;>exact nB z
   rw[this];exact zlo G h1 ho h2 h3
  |cons a as=>exact znW G h1 ho ha (zaA h7) h2 h3 h4
 |.callC f x m es,N,sc,e,X,G,h=>by
  replace h:=zac h;obtain⟨⟨oe,m',ap,args,cp⟩,q,h⟩:=h;cases zaE q;replace h:=zac h;obtain⟨y,q3,h⟩:=h;obtain⟨p3,rfl⟩:=zaH q3;simp only[Λ,decide_eq_true_eq]at h;obtain⟨⟨⟨⟨⟨⟨⟨⟨rfl,rfl⟩,h1⟩,h2⟩,h3⟩,h4⟩,h5⟩,h6⟩,h7⟩:=h;cases args with
  |nil=>exact nB h6
  |cons a as=>exact zlw G h3 h1 (zc0 h2).1 rfl (zaL es G h7).1 (zaA h7) h5 h4
 |.clr a,N,sc,e,X,G,h=>by replace h:=zac h;obtain⟨⟨oe,m',ap,args,cp⟩,q,h⟩:=h;cases zaE q;simp only[Λ,isEmpty_iff]at h;obtain⟨⟨⟨⟨h0,h1⟩,h2⟩,rfl⟩,h4⟩:=h;cases zaC h0;exact zqk (zad a G h4) h1 h2| .sl a ml mh lo hi,N,sc,e,X,G,h=>by replace h:=zac h;obtain⟨⟨x,i⟩,q,h⟩:=h;obtain⟨p,rfl⟩:=zdC q;replace h:=zac h;obtain⟨⟨l,u⟩,q2,h⟩:=h;obtain⟨p2,rfl⟩:=zlH q2;simp only[Λ]at h;obtain⟨⟨h1,h2⟩,h3⟩:=h;refine zsq (zad a G h1) (zjU (λz=>?_) λe z=>?_) (zjU (λz=>?_) λe z=>?_);subst z;simpa using h2;subst z;simp only[Λ]at h2;exact⟨h2.1,zad lo G h2.2⟩;subst z;simpa using h3;subst z;simp only[Λ]at h3;exact⟨h3.1,zad hi G h3.2⟩| .call f j es,N,sc,e,X,G,h=>by
  replace h:=zac h;obtain⟨⟨x,args⟩,q,h⟩:=h;obtain⟨p2,p,rfl⟩:=zaF q;simp only[Λ,ϟ]at h;obtain⟨⟨⟨⟨h1,h2⟩,h3⟩,h4⟩,h5⟩:=h;obtain⟨n1,n2,n3⟩:=zc0 h2;obtain⟨ps,nd,hf,hj⟩:=zni h3;have ha:=(zaL es G h5).1;cases args with
  |nil=>
   have:es=.nil:=by cases es with|nil=>rfl|cons _ _=>rcases h4 with z|z<;>exact nB z
   rw[this];exact zlx G hf hj h1 n1
  |cons a as=>exact zn3 G hf hj h1 n1 ha (zaA h5)
 |.callW f j es,N,sc,e,X,G,h=>by
  replace h:=zac h;obtain⟨⟨x,args⟩,q,h⟩:=h;obtain⟨p2,p,rfl⟩:=zaF q;simp only[Λ]at h;obtain⟨⟨⟨⟨h1,h2⟩,h3⟩,h4⟩,h5⟩:=h;obtain⟨n1,n2,n3⟩:=zc0 h2;obtain⟨ps,nd,hf,hj⟩:=zni h3;have ha:=(zaL es G h5).1;cases args with
  |nil=>exact nB h4
  |cons a as=>exact zlv G hf hj h1 n1 ha (zaA h5)
 |.bi b es,N,sc,e,X,G,h=>by
  replace h:=zac h;obtain⟨⟨x,args⟩,q,h⟩:=h;obtain⟨p2,p,rfl⟩:=zaF q;rw[Λ,Λ]at h;obtain⟨⟨h1,h2⟩,h3⟩:=h;obtain⟨n1,n2,n3⟩:=zc0 h2;split at h3;rename_i t qt;replace h3:=zac h3;obtain⟨⟨e1,e2⟩,q2,h3⟩:=h3;cases two_inv q2;replace h3:=zac h3;obtain⟨y,q3,h3⟩:=h3;obtain⟨p3,rfl⟩:=zaH q3;simp only[Λ]at h3;obtain⟨⟨⟨⟨⟨hx,h4⟩,h5⟩,h6⟩,h7⟩,h8⟩:=h3;cases zaC hx;obtain⟨m1,m2,m3⟩:=zc0 h6;obtain⟨t1,t2⟩:=zpH h4;obtain⟨a,ea⟩:=zh8 h7;have he:=(zaL es G h8).2 a .nil e1 [] ea rfl;have hst:=zaA h8;have eb:b=.isin t:=by cases b with|isin _=>cases qt;rfl|_=>exact nS qt
  rw[ea,eb];exact znX G (za9 G h1) (za9 G h5) t2 t1 m3 m1 he (by simpa using hst);rw[Λ,Λ]at h3;cases args with
  |nil=>cases h3.1.2
  |cons a as=>obtain⟨id,hc,hv⟩:=ziV G h3.1.1;exact zsu hc (za9 G h1) hv (zaL es G h3.2).1 (zaA h3.2) n3 n1
 |.mt m o es,N,sc,e,X,G,h=>by
  replace h:=zac h;obtain⟨⟨oe,x,ap,e1,cp⟩,q,h⟩:=h;cases zbW q;simp only[Λ]at h;obtain⟨⟨⟨⟨⟨h1,h2⟩,h3⟩,h4⟩,h5⟩,h6⟩:=h;obtain⟨a,ea⟩:=zh8 h4;have he:=(zaL es G h6).2 a .nil e1 [] ea rfl;have hst:zah e1=Γ:=by simpa using zaA h6
  rw[ea];cases m with| append=>cases zaC h1;exact znU PySem.F.slot_list_append PySem.F.type_list_append zk3 (zad o G h5) he hst h2 h3| popAt=>cases zaC h1;exact znU PySem.F.slot_list_pop PySem.F.type_list_pop zlQ (zad o G h5) he hst h2 h3| count=>cases zaC h1;exact znU PySem.F.slot_list_count PySem.F.type_list_count zmB (zad o G h5) he hst h2 h3
 |.mkL l,N,sc,e,X,G,h=>by
  replace h:ite (zgU l=Γ) _ _=Γ:=h;split at h;rename_i c;have ht:zoY l=Γ:=by cases l with|comp=>rfl|_=>exact nB c
  exact PE.imp ((zbN l G ((Λ _ _).mp h).2).2.1 ht) λσ H Qv q=>zjX q;replace h:=zac h;obtain⟨⟨x,e1⟩,q,h⟩:=h;obtain⟨p2,p,rfl⟩:=zaz q;simp only[Λ,ϟ,not_eq_true']at h;obtain⟨⟨⟨⟨hx,h1⟩,h2⟩,h3⟩,h4⟩:=h;cases zaC hx;have hl:=zbN l G h4;rcases h3 with h3|h3;exact zqa G (za9 G h1) (hl.1 h3) h2;have:∃a,l=.rng1 a:=by cases l with|rng1 a=>exact⟨a,rfl⟩|_=>exact nB h3
  obtain⟨a,ea⟩:=this;obtain⟨a',p3,p4,rfl,hr,ha,hs⟩:=hl.2.2.2 a ea;rw[ea];exact znV G (za9 G h1) hr ha hs
 |.all l,N,sc,e,X,G,h=>by replace h:=zac h;obtain⟨⟨x,e1⟩,q,h⟩:=h;obtain⟨p2,p,rfl⟩:=zaz q;simp only[Λ,not_eq_true']at h;obtain⟨⟨⟨⟨hx,h1⟩,h2⟩,h3⟩,h4⟩:=h;cases zaC hx;exact zqm G (za9 G h1) ((zbN l G h4).1 h3) h2| .ext a l,N,sc,e,X,G,h=>by replace h:=zac h;obtain⟨⟨oe,x,ap,e1,cp⟩,q,h⟩:=h;cases zbW q;simp only[Λ]at h;obtain⟨⟨⟨⟨⟨⟨hx,h1⟩,h2⟩,h3⟩,h4⟩,h5⟩,h6⟩:=h;cases zaC hx;exact zqg (zad a G h5) ((zbN l G h6).2.1 h4) h1 h2 h3| .lenset l,N,sc,e,X,G,h=>by replace h:=zac h;obtain⟨⟨x,e1⟩,q,h⟩:=h;obtain⟨p2,p,rfl⟩:=zaz q;replace h:=zac h;obtain⟨⟨y,e2⟩,q2,h⟩:=h;obtain⟨p3,p4,hy⟩:=zaz q2;simp only[Λ,not_eq_true']at h;obtain⟨⟨⟨⟨⟨⟨hx,h1⟩,hz⟩,h2⟩,h3⟩,h4⟩,h5⟩:=h;cases zaC hx;cases zaC hz;dsimp only at hy;subst hy;exact zjm G (za9 G h1) (za9 G h2) ((zbN l G h5).1 h4) h3| .srtK a,N,sc,e,X,G,h=>by replace h:=zac h;obtain⟨⟨o,le⟩,q,h⟩:=h;obtain⟨p1,p2,p3,rfl⟩:=zjv q;simp only[Λ,decide_eq_true_eq]at h;obtain⟨⟨⟨⟨h1,h2⟩,h3⟩,h4⟩,h5⟩:=h;exact znT G h4 (za9 G h1) (zad a G h5) h2 h3| .dnew3,N,sc,e,X,G,h=>by obtain⟨p,rfl⟩:=zch h;exact zls| .srt a,N,sc,e,X,G,h=>by replace h:=zac h;obtain⟨⟨x,e1⟩,q,h⟩:=h;obtain⟨p2,p,rfl⟩:=zaz q;simp only[Λ]at h;obtain⟨⟨⟨hx,h1⟩,h3⟩,h5⟩:=h;cases zaC hx;exact zp7 G (za9 G h1) (zad a G h5) h3
theorem zaL:∀(ces:CEs){N:List Str}{sc:Scope}{es:List Expr}{X:Cx},Gd T cf k N sc X->zcR T ces N sc es=Γ->EsOk cf ces X es
 |.nil,N,sc,es,X,G,h=>by obtain rfl:=isEmpty_iff.mp h;exact⟨zm2,λa r e es' z=>by cases z⟩| .cons a r,N,sc,es,X,G,h=>by
  cases es with
  |nil=>exact nB h
  |cons e es=>replace h:=(Λ _ _).mp h;have he:=zad a G ((Λ _ _).mp h.1).2;exact⟨zjp he (zaL r G h.2).1 ((Λ _ _).mp h.1).1,λa' r' e' es' z1 z2=>by cases z1;cases z2;exact he⟩
theorem zaT(ce:CE){N:List Str}{sc:Scope}{e:Expr}{X:Cx}(G:Gd T cf k N sc X)(h:chkT T ce N sc e=Γ):PT X e (tT X.K cf ce)/\((∃op v r p,e=.BoolOp op (v::r) p)->PW X e (tT X.K cf ce)):=by
 cases ce with
 |cmp op a b=>replace h:=zac h;obtain⟨⟨l,os,rs⟩,q,h⟩:=h;obtain⟨p,rfl⟩:=zcp q;rw[Λ,decide_eq_true_eq]at h;obtain⟨e1,h⟩:=h;replace h:=zac h;obtain⟨r,q2,h⟩:=h;cases zbd q2;cases e1;simp only[Λ]at h;exact⟨zpZ G (zad a G h.1.2) (zad b G h.2) h.1.1,λ⟨_,_,_,_,z⟩=>by cases z⟩| cmp2 op op' a b c=>replace h:=zac h;obtain⟨⟨l,os,rs⟩,q,h⟩:=h;obtain⟨p,rfl⟩:=zcp q;rw[Λ,decide_eq_true_eq]at h;obtain⟨e1,h⟩:=h;replace h:=zac h;obtain⟨⟨r,r'⟩,q2,h⟩:=h;cases two_inv q2;cases e1;simp only[Λ]at h;obtain⟨⟨⟨⟨h1,h2⟩,h3⟩,h4⟩,h5⟩:=h;exact⟨znH G (zad a G h3) (zad b G h4) (zad c G h5) h1 h2,λ⟨_,_,_,_,z⟩=>by cases z⟩| nt a=>replace h:=zac h;obtain⟨⟨o,x⟩,q,h⟩:=h;obtain⟨p,rfl⟩:=zeI q;simp only[Λ,decide_eq_true_eq]at h;obtain⟨rfl,h1⟩:=h;exact⟨zso (zaT a G h1).1,λ⟨_,_,_,_,z⟩=>by cases z⟩| and a b=>replace h:=zac h;obtain⟨⟨o,vs,p⟩,q,h⟩:=h;cases zbX q;rw[Λ,decide_eq_true_eq]at h;obtain⟨e1,h⟩:=h;cases e1;dsimp only at h;split at h;rename_i x y rest;rw[Λ]at h;obtain⟨h1,h2⟩:=h;split at h2;rename_i c;cases isEmpty_iff.mp c;have w:=zmW (pos:=p) (zaT a G h1).1 (zoe (zaT b G h2).1);exact⟨w.pt,λ_=>w⟩;have w:=zmW (zaT a G h1).1 ((zaT b G h2).2 ⟨_,_,_,_,rfl⟩);exact⟨w.pt,λ_=>w⟩;exact nB h
 |or a b=>replace h:=zac h;obtain⟨⟨o,vs,p⟩,q,h⟩:=h;cases zbX q;rw[Λ,decide_eq_true_eq]at h;obtain⟨e1,h⟩:=h;cases e1;dsimp only at h;split at h;rename_i x y rest;rw[Λ]at h;obtain⟨h1,h2⟩:=h;split at h2;rename_i c;cases isEmpty_iff.mp c;have w:=zpY (pos:=p) (zaT a G h1).1 (zm5 (zaT b G h2).1);exact⟨w.pt,λ_=>w⟩;have w:=zpY (zaT a G h1).1 ((zaT b G h2).2 ⟨_,_,_,_,rfl⟩);exact⟨w.pt,λ_=>w⟩;exact nB h
 |tst a=>replace h:=(Λ _ _).mp h;exact⟨zpX (zad a G h.2) h.1,λ⟨_,_,_,_,z⟩=>by rw[z]at h;exact nB h.1⟩|_=>exact absurd h Ε
theorem zbN:∀(cl:CL){N:List Str}{sc:Scope}{e:Expr}{X:Cx},Gd T cf k N sc X->chkL T cl N sc e=Γ->LOk T cf k cl X e
 |.val a,N,sc,e,X,G,h=>by replace h:=(Λ _ _).mp h;have hp:=zp5 (zad a G h.2);exact⟨λ_=>hp,λz=>(by exact nB z),λtg _=>zmY hp zro,λa z=>by cases z⟩| .rng1 a,N,sc,e,X,G,h=>by replace h:=zac h;obtain⟨⟨x,e1⟩,q,h⟩:=h;obtain⟨p2,p,rfl⟩:=zaz q;simp only[Λ]at h;obtain⟨⟨⟨hx,h1⟩,h2⟩,h3⟩:=h;cases zaC hx;have he:=zad a G h3;exact⟨λz=>(by cases z),λz=>(by exact nB z),λtg _=>znP (za9 G h1) he h2,λa z=>by cases z;exact⟨e1,p2,p,rfl,za9 G h1,he,h2⟩⟩| .rng2 a b,N,sc,e,X,G,h=>by replace h:=zac h;obtain⟨⟨x,args⟩,q,h⟩:=h;obtain⟨p2,p,rfl⟩:=zaF q;replace h:=zac h;obtain⟨⟨e1,e2⟩,q2,h⟩:=h;cases two_inv q2;simp only[Λ]at h;obtain⟨⟨⟨⟨⟨hx,h1⟩,h2⟩,h3⟩,h4⟩,h5⟩:=h;cases zaC hx;exact⟨λz=>(by cases z),λz=>(by exact nB z),λtg _=>znO (za9 G h1) (zad a G h4) (zad b G h5) h2 h3,λa z=>by cases z⟩| .enum a,N,sc,e,X,G,h=>by replace h:=zac h;obtain⟨⟨x,e1⟩,q,h⟩:=h;obtain⟨p2,p,rfl⟩:=zaz q;simp only[Λ]at h;obtain⟨⟨⟨hx,h1⟩,h2⟩,h3⟩:=h;cases zaC hx;refine⟨λz=>(by cases z),λz=>(by exact nB z),λtg ht=>?_,λa z=>by cases z⟩;cases tg with|Tuple es j pt=>exact znQ (za9 G h1) (zad a G h3) h2|_=>exact nB ht
 |.comp nt js g it c e,N,sc,ex,X,G,h=>by
  replace h:=zac h;obtain⟨⟨elt,gs,scope,p⟩,q,h⟩:=h;cases zhA q;replace h:=zac h;obtain⟨⟨tg,iter,ifs,asy⟩,q2,h⟩:=h;cases zbd q2;rw[Λ,Λ,Λ,Λ,Λ,Λ,Λ,Λ,decide_eq_true_eq,decide_eq_true_eq,decide_eq_true_eq]at h;obtain⟨⟨⟨⟨⟨⟨⟨⟨h1,h2⟩,h3⟩,h4⟩,h5⟩,h6⟩,h7⟩,h8⟩,h9⟩:=h;dsimp only at h1 h2 h3 h4 h5 h6 h7 h8 h9;rw[Λ]at h3;subst h1 h5;have ok:=zh7 G h2;have G':=zkA G (tgs:=zbB tg) ok h6;have ht:∀cl C fp s H pn,PTs (zav X (capN X.N (zbB tg) js) scope cl C fp s H pn) ifs (tT X.K cf c):=λcl C fp s H pn=>by split at h8;rename_i ce;cases isEmpty_iff.mp ce;exact zhj (X:=zav X (capN X.N (zbB tg) js) scope cl C fp s H pn) h8;replace h8:=zac h8;obtain⟨t,q3,h8⟩:=h8;cases zbd q3;exact zjG (zaT c (G' cl C fp s H pn) h8).1
  have hp:PE X (.ListComp elt [⟨tg,iter,ifs,0⟩] scope p) (tLt X.K cf (.comp (zbB tg).length js g it c e)):=PE.imp (zlV X.env.scope (zbB tg) js G.calm rfl ok ((zbN it G h4).2.2.1 tg h3.2) (λcl C fp s H pn=>znB (G' cl C fp s H pn) h7) ht (λcl C fp s H pn=>zad e (G' cl C fp s H pn) h9) (zgV h3.1 X.env)) λσ H Qv q=>zh6 G.tab.frm q;exact⟨λ_=>(PE.ofT hp),λ_=>hp,λtg _=>zmY (PE.ofT hp) zoQ,λa z=>by cases z⟩
end
end
end R
end
namespace R
open PySem PySem.Spec PyProof.Rows L2
variable[Mks]
section
variable{T:Tab}{cf:CF}{k:Nat}
theorem znK(G:Gd T cf k N sc X)(hi:N[i]?=Φ x)(B:zfS sc x=Γ)(h:chkE T (.mkL l) N sc (.ListComp o gs scope M)=Γ)(hr:PSs X u (tS X.K cf r)):
  PSs X (.Assign [.Name x p] (.ListComp o gs scope M) pos::u) (tS X.K cf (.asg i (.mkL l) r)):=by
 have I:∃b,swapsWith (.ListComp o gs scope M) (Φ (.Name x p)) pos.line X.env=pure b:=⟨_,rfl⟩;obtain⟨b,I⟩:=I;cases b with
 |false=>refine PSs.imp (zaJ (zm7 (i:=i) (by rw[G.nm];exact G.nd) (by rw[G.nm];exact hi) (G.lc B).1 (zad (.mkL l) G h) I (G.lc B).2) hr) λE σ H z=>?_;obtain⟨δ,ι,S,Q,hs,hh,w,lf⟩:=z;change W (Out.bind _ _) _ at w;simp only[zaa] at w;refine tE.run hs hh w λd v O H1 S1 x1 U Y r1 w1=>?_;exact⟨δ.set i (Φ d),O,S1,Q,U.set r1 i,Y,w1,lf.up x1⟩| true=>
  replace h:ite (zgU l=Γ) _ _=Γ:=h;split at h;rename_i c0;replace h:=((Λ _ _).mp h).2;cases l with
  |comp nt A g it c e=>
   replace h:=zac h;obtain⟨⟨elt',gs',J,p'⟩,q,h⟩:=h;cases zhA q;replace h:=zac h;obtain⟨⟨m,iter,ifs,asy⟩,q2,h⟩:=h;cases zbd q2;rw[Λ,Λ,Λ,Λ,Λ,Λ,Λ,Λ,decide_eq_true_eq,decide_eq_true_eq,decide_eq_true_eq]at h;obtain⟨⟨⟨⟨⟨⟨⟨⟨h1,h2⟩,L⟩,h4⟩,h5⟩,h6⟩,h7⟩,n⟩,h9⟩:=h;dsimp only at h1 h2 L h4 h5 h6 h7 n h9;rw[Λ]at L;subst h1 h5;have ok:=zh7 G h2;have G':=zkA G (tgs:=zbB m) ok h6;have ht:∀a C f s H j,PTs (zav X (capN X.N (zbB m) A) scope a C f s H j) ifs (tT X.K cf c):=λa C f s H j=>by split at n;rename_i ce;cases isEmpty_iff.mp ce;exact zhj (X:=zav X (capN X.N (zbB m) A) scope a C f s H j) n;replace n:=zac n;obtain⟨t,q3,n⟩:=n;cases zbd q3;exact zjG (zaT c (G' a C f s H j) n).1
   have he:∀a C f s H j,PE (zav X (capN X.N (zbB m) A) scope a C f s H j) o (tE X.K cf e):=λa C f s H j=>zad e (G' a C f s H j) h9;have hg:∀a C f s H j,PG (zav X (capN X.N (zbB m) A) scope a C f s H j) m (tG X.K g):=λa C f s H j=>znB (G' a C f s H j) h7;have hps:=zok (spos:=pos) (py:=p) (pos:=M) X.env.scope (zbB m) A (i:=i) (y:=x) (by rw[G.nm];exact G.nd) (by rw[G.nm];exact hi) (G.lc B).1 G.calm rfl ok ((zbN it G h4).2.2.1 m L.2) hg ht he I (zgV L.1 X.env) (G.lc B).2;exact znM G hi ⟨_,hps,λσ H Qv q=>zh6 G.tab.frm (zjX q)⟩ hr
  |_=>exact nB c0
  exact nB h
theorem zpd(h:zbe v=Δ)(a:chkE T e N c v=Γ):∃l b gs scope p,v=.ListComp b gs scope p/\e=.mkL l:=by
 cases v with
 |ListComp b gs scope p=>cases e with|mkL l=>exact⟨l,b,gs,scope,p,rfl,rfl⟩|_=>exact absurd a Ε
 |SetComp=>cases e<;>(first|exact nB a|exact absurd (h.symm.trans a) Ε|(rename_i l;cases l<;>(first|exact nB a|exact absurd (h.symm.trans a) Ε)))|DictComp=>cases e<;>(first|exact nB a|exact absurd (h.symm.trans a) Ε|(rename_i l;cases l<;>(first|exact nB a|exact absurd (h.symm.trans a) Ε)))|_=>cases h
theorem zaU:∀(cs:CS){N:List Str}{y:Scope}{st:List Stmt}{X:Cx},Gd T cf k N y X->chkS T cs N y st=Γ->PSs X st (tS X.K cf cs)
 |.nil,N,y,st,X,G,h=>by obtain rfl:=isEmpty_iff.mp h;exact zp1|.stop,N,y,st,X,G,h=>λpins s σ H E I z=>(by obtain⟨δ,ι,S,Q,hs,hh,w,l⟩:=z;exact (by exact w.elim))| .asg i e r,N,y,st,X,G,h=>by
  cases st with
  |nil=>exact nB h
  |cons s d=>replace h:=zac h;obtain⟨⟨M,v,pos⟩,q,h⟩:=h;cases zcs q;replace h:=zac h;obtain⟨x,L,h⟩:=h;obtain⟨p,m⟩:=zaH L;dsimp only at m;subst m;simp only[Λ,beq_iff_eq]at h;obtain⟨⟨⟨n,B⟩,A⟩,C⟩:=h;have hr:=zaU r G C;cases hn:zbe v with|true=>exact zp3 G n B (zad e G A) hn hr| false=>obtain⟨l,elt,gs,O,U,rfl,rfl⟩:=zpd hn A;exact znK G n B A hr
 |.asgT g e r,N,y,st,X,G,h=>by
  cases st with
  |nil=>exact nB h
  |cons s d=>replace h:=zac h;obtain⟨⟨M,v,pos⟩,q,h⟩:=h;cases zcs q;replace h:=zac h;obtain⟨es,L,h⟩:=h;obtain⟨j,p,m⟩:=zdB L;dsimp only at m;subst m;simp only[Λ,decide_eq_true_eq]at h;obtain⟨⟨⟨⟨n,B⟩,A⟩,C⟩,J⟩:=h;refine znL G A B (zad e G C) ?_ (zaU r G J);rw[ϟ]at n;rcases n with n|n;obtain⟨x,m⟩:=Option.isSome_iff_exists.mp n;obtain⟨U,Y⟩:=zaH m;exact .inl ⟨x,U,Y⟩;obtain⟨⟨x,as⟩,m⟩:=Option.isSome_iff_exists.mp n;obtain⟨U,p3,Y⟩:=zaF m;exact .inr ⟨_,_,_,_,Y⟩
 |.setF a f e r,N,y,st,X,G,h=>by
  cases st with
  |nil=>exact nB h
  |cons s d=>replace h:=zac h;obtain⟨⟨M,v,pos⟩,q,h⟩:=h;cases zcs q;replace h:=zac h;obtain⟨⟨o,f',p⟩,L,h⟩:=h;have m:=zbY L;dsimp only at m;subst m;simp only[Λ,decide_eq_true_eq]at h;obtain⟨⟨⟨⟨⟨n,B⟩,A⟩,C⟩,J⟩,h6⟩:=h;subst n;exact znI G B (zad a G C) (zad e G J) A (zaU r G h6)
 |.setIx a b e r,N,y,st,X,G,h=>by
  cases st with
  |nil=>exact nB h
  |cons s d=>replace h:=zac h;obtain⟨⟨M,v,pos⟩,q,h⟩:=h;cases zcs q;replace h:=zac h;obtain⟨⟨o,i⟩,L,h⟩:=h;obtain⟨p,m⟩:=zdC L;dsimp only at m;subst m;simp only[Λ]at h;obtain⟨⟨⟨⟨n,B⟩,A⟩,C⟩,J⟩:=h;exact zle G (zad a G B) (zad b G A) (zad e G C) n (zaU r G J)
 |.ifS c t u r,N,y,st,X,G,h=>by
  cases st with
  |nil=>exact nB h
  |cons s d=>replace h:=zac h;obtain⟨⟨e,a,b⟩,q,h⟩:=h;obtain⟨p,rfl⟩:=zjy q;simp only[Λ]at h;exact zsp (zaT c G h.1.1.1).1 (zaU t G h.1.1.2) (zaU u G h.1.2) (zaU r G h.2)
 |.forS g l b r,N,y,st,X,G,h=>by
  cases st with
  |nil=>exact nB h
  |cons s d=>replace h:=zac h;obtain⟨⟨M,it,body⟩,q,h⟩:=h;obtain⟨p,rfl⟩:=zjz q;simp only[Λ]at h;obtain⟨⟨⟨⟨n,B⟩,A⟩,C⟩,J⟩:=h;exact zp2 G ((zbN l G B).2.2.1 M J.2) (znB G J.1) (zaU b G A) n (zaU r G C)
 |.ret e r,N,y,st,X,G,h=>by
  cases st with
  |nil=>exact nB h
  |cons s d=>replace h:=zac h;obtain⟨v,q,h⟩:=h;obtain⟨p,rfl⟩:=zjx q;simp only[Λ]at h;exact zp0 (zad e G h.1) (zaU r G h.2)
 |.expr e r,N,y,st,X,G,h=>by
  cases st with
  |nil=>exact nB h
  |cons s d=>replace h:=zac h;obtain⟨v,q,h⟩:=h;obtain⟨p,rfl⟩:=zjA q;simp only[Λ]at h;exact znJ (zad e G h.1.2) h.1.1 (zaU r G h.2)
theorem RS.start{K}(r:RVs K ι H l vs)(c:l.length=F.np)(f:F.nn=N.length):RS K ι H (zaB F l) (L2.start N vs):=by
 have a:=r.length;refine⟨by simp[zaB,L2.start,a,c,f],λi d e=>?_⟩;unfold zaB at e;unfold L2.start;by_cases b:i<l.length;rw[getElem?_append_left (by simpa using b),getElem?_map]at e;rw[getElem?_append_left (by simpa[a]using b),getElem?_map];cases z:l[i]? with
 |none=>rw[z]at e;exact nS e
 |some j=>rw[z]at e;simp only[Option.map_some,Option.some.injEq]at e;subst e;obtain⟨v,g,h⟩:=r.get z;exact⟨v,by rw[g];rfl,h⟩
 . rw[getElem?_append_right (by simpa using b),List.getElem?_replicate]at e;split at e<;>cases e
def ChkD(T:Tab)(b:CS)(N:List Str)(a:Scope)(st:List Stmt):Prop:=chkS T b N a st=Γ/\N≠T.lam
structure DefOk(K:Frag)(mg:Str->Option Θ)(T:Tab)(Pg:List Fn)(fi:Nat)(x:Str)(ps:List Str)(nd:Nat):Prop where
 ex:∃(F:Fn) (qual:Str) (st:Stmt) (dV:Θ) (f:Addr) (fd:FuncData) (N:List Str),Pg[fi]?=Φ F/\F.prim=Ψ/\FunV K x qual st dV f fd/\FnScope N ps (zab st)/\ChkD T F.body N (zab st) (zak st)/\F.np=ps.length/\F.nn=N.length/\
  mg x=Φ (.ref f)/\∀j,j<=nd->Binds K fd ps (List.replicate j Θ.none)
theorem zom:Fr S (prm S p a):=by
 unfold prm
 repeat' first
 |exact .bad
 |exact .ok
 |exact .of (.push _ _)
 |split
theorem zf0(a)(n):CFok (callF a n):=by
 induction n with
 |zero=>exact λ_ _ _ _ _ e=>by cases e| succ n b=>
  intro f c S;show Fr S _;unfold callF
  repeat' first
  |exact .bad
  |exact .ok
  |exact frS b _ _ _
  |exact zom
  |refine Fr.bind ?_ λ_ _=>?_
  |split
variable{P:Υ}{w:ύ}{K:Frag}{mg:Str->Option Θ}{base:Heap}{Pg:List Fn}
theorem zce{ps:List Str}(a:Pg[b]?=Φ F)(d:F.np=ps.length)(h:spF K (callF Pg n) b vs H Q E):vs.length=ps.length:=by obtain⟨e,S,f,r,g,w⟩:=h;rw[r.length];cases n with|zero=>exact w.elim| succ n=>simp only[callF,a]at w;split at w;rename_i c;rw[c,d];exact w.elim
theorem zkM{st}(tab:TabOk T (callF Pg n) m P w K mg base)(y:FunV K x b st dV f B)(o:Pg[C]?=Φ F)(S:FnScope N ps (zab st))(p:ChkD T F.body N (zab st) (zak st))(I:F.np=ps.length)(J:F.nn=N.length)(L:F.prim=Ψ:=by rfl):
  FnOk P w K mg base CX0 (m+2) f B ps (spF K (callF Pg (n+1)) C):=by
 refine y.ok S (λM H Q E h=>zce o I h) λl A a s H M Q E O h=>?_;obtain⟨U,Y,ds,r,hh,g⟩:=h;have G:Gd T (callF Pg n) m N (zab st) (cxOf CX0 P w K mg base N b (zab st) f l A a s H E).nox:=⟨rfl,S.nd,λx e=>e,λx e=>e,λx e=>.inl e,λx e=>e,.inl λ_=>rfl,rfl,rfl,O,tab,λz=>absurd z p.2⟩;refine⟨_,zaU F.body G p.1,?_⟩;simp only[callF,o,L]at g;split at g;rename_i c;rw[zaa]at g;refine⟨zaB F ds,U,Y,_,RS.start r c J,hh,g,?_⟩;intro fl i t S' u j q;cases fl with|nx δ'=>exact λσ' hs'=>q .non t i u rfl j|rt d=>exact λv rv=>q v t i u rv j
 exact g.elim
structure MOk(K:Frag)(T:Tab)(Pg:List Fn)(fi j:Nat)(Ex:Addr->Prop):Prop where
 ex:∃(F:Fn) (x qual:Str) (st:Stmt) (dV:Θ) (f:Addr) (fd:FuncData) (N ps:List Str),Pg[fi]?=Φ F/\F.prim=Ψ/\FunV K x qual st dV f fd/\FnScope N ps (zab st)/\ChkD T F.body N (zab st) (zak st)/\F.np=ps.length/\F.nn=N.length/\
  Binds K fd ps (List.replicate j Θ.none)/\Ex f
theorem zeX(z:MOk K T Pg g j i):∃f a ps,i f/\keepIn K (.ref f)=Γ/\Binds K a ps (List.replicate j Θ.none)/\FnOk P w K mg base CX0 0 f a ps (spF K (callF Pg 0) g):=by obtain⟨F,x,d,st,q,f,a,N,ps,l,t,m,S,u,n,y,o,e⟩:=z.ex;refine⟨f,a,ps,e,m.kp,o,⟨λp H Q E h=>zce l n h,λA c s H args B p Q E C G b v h=>?_⟩⟩;obtain⟨I,S,J,r,L,w⟩:=h;exact w.elim
theorem zeY(tab:TabOk T (callF Pg n) m P w K mg base)(z:MOk K T Pg d j g):∃f a ps,g f/\keepIn K (.ref f)=Γ/\Binds K a ps (List.replicate j Θ.none)/\FnOk P w K mg base CX0 (m+2) f a ps (spF K (callF Pg (n+1)) d):=by obtain⟨F,x,b,st,r,f,a,N,ps,h,i,c,S,l,o,p,q,e⟩:=z.ex;exact⟨f,a,ps,e,c.kp,q,zkM tab c h S l o p i⟩
def ExM(K:Frag)(c:Nat)(m:Str)(f:Addr):Prop:=∃C,Mks.cl[c]?=Φ C/\Cls K C/\Meth K C m f
def ExI(K:Frag)(c:Nat)(f:Addr):Prop:=∃C,Mks.cl[c]?=Φ C/\Mk K C f
def ExC(K:Frag)(mg:Str->Option Θ)(x m:Str)(f:Addr):Prop:=∃(C:Addr) (a:Θ),mg x=Φ (.ref C)/\specialIn K (.ref C) "__getattribute__"=Φ (Φ (.builtin "type.__getattribute__"))/\readsIn K C a=Γ/\findCls K (.ref C) a m=Φ (.val (.ref f))
structure ClsOk(T:Tab)(K:Frag)(mg:Str->Option Θ)(Pg:List Fn):Prop where
 cls:∀(c:Nat)(x:Str),T.cls[c]?=Φ x->∃C,Mks.cl[c]?=Φ C/\Cls K C/\mg x=Φ (.ref C)/\∀f,T.flds.contains f=Γ->NoAttr K C f
 mth:∀(c:Nat)(m:Str)(fi:Nat),T.mts.contains (c,m,fi)=Γ->MOk K T Pg fi 0 (ExM K c m)
 ini:∀(c fi j:Nat),T.inits.contains (c,fi,j)=Γ->MOk K T Pg fi j (ExI K c)
 cmd:∀(x m:Str)(fi:Nat),T.cms.contains (x,m,fi)=Γ->MOk K T Pg fi 0 (ExC K mg x m)
 cln:Mks.cl.length<=T.cls.length
 isa:∀(x:Str)(cs:List Nat),T.isas.contains (x,cs)=Γ->∃D,mg x=Φ (.ref D)/\∀c C,Mks.cl[c]?=Φ C->IsaOk K C/\kitOne K (.ref C) (.ref D)=Φ (cs.contains c)
theorem zku(h:∃f a ps,ExM K c m f/\keepIn K (.ref f)=Γ/\Binds K a ps []/\FnOk P w K mg base CX0 k f a ps (spF K cf b)):HasM P w K mg base k c m (spF K cf b):=by obtain⟨f,a,ps,⟨C,d,e,g⟩,_,i,j⟩:=h;exact⟨C,f,a,ps,d,e,g,j,i⟩
theorem zkv(h:∃f a ps,ExI K c f/\keepIn K (.ref f)=Γ/\Binds K a ps (List.replicate j Θ.none)/\FnOk P w K mg base CX0 k f a ps (spF K cf b)):HasI P w K mg base k c j (spF K cf b):=by obtain⟨f,a,ps,⟨C,d,e⟩,_,g,i⟩:=h;exact⟨C,f,a,ps,d,e,i,g⟩
theorem zkw(h:∃f a ps,ExC K mg x m f/\keepIn K (.ref f)=Γ/\Binds K a ps []/\FnOk P w K mg base CX0 k f a ps (spF K cf b)):HasC P w K mg base k x m (spF K cf b):=by obtain⟨f,a,ps,⟨C,c,d,e,g,i⟩,j,l,n⟩:=h;exact⟨C,f,a,ps,c,d,e,g,i,j,n,l⟩
structure PrimOk(P:Υ)(w:ύ)(K:Frag)(mg:Str->Option Θ)(base:Heap)(T:Tab)(Pg:List Fn)(fi:Nat)(x:Str)(ps:List Str)(nd:Nat):Prop where
 ex:∃(F:Fn) (p:Prim) (f:Addr) (fd:FuncData),Pg[fi]?=Φ F/\F.prim=Φ p/\F.np=ps.length/\mg x=Φ (.ref f)/\keepIn K (.ref f)=Γ/\(∀j,j<=nd->Binds K fd ps (List.replicate j Θ.none))/\
  ∀n,3<=n->TabOk T (callF Pg n) (2*n) P w K mg base->FnOk P w K mg base CX0 (2*n+2) f fd ps (spF K (callF Pg (n+1)) fi)
theorem zpP(U:∀x,T.blt.contains x=Γ->mg x=Ψ)(Y:∀x d,T.cons.lookup x=Φ d->zn4 d=Γ/\∃u,mg x=Φ u/\RelV (sV d) u)(hd:∀a x ps o,T.fns[a]?=Φ (x,ps,o)->DefOk K mg T Pg a x ps o\/PrimOk P w K mg base T Pg a x ps o)(g:ClsOk T K mg Pg) :
  ∀n,TabOk T (callF Pg n) (2*n) P w K mg base:=by
 intro n;induction n with
 |zero=>refine⟨U,Y,λa x ps o M j B=>?_,zf0 Pg 0,g.cls,λc m a h=>zku (zeX (g.mth c m a h)),λc a j h=>zkv (zeX (g.ini c a j h)),λx m a h=>zkw (zeX (g.cmd x m a h)),λ_=>g.cln,g.isa⟩;rcases hd a x ps o M with z|z;obtain⟨F,C,st,dV,f,q,N,l,G,L,S,ck,t,hn,y,e⟩:=z.ex;refine⟨f,q,_,⟨λI H Q E h=>zce l t h,λA i s H args us I Q E hr e0 b v h=>?_⟩,y,L.kp,e j B,Vals.nons j⟩;obtain⟨ι,S,ds,r,hh,w⟩:=h;exact w.elim;obtain⟨F,p,f,q,l,G,t,y,O,e,ok⟩:=z.ex;refine⟨f,q,_,⟨λI H Q E h=>zce l t h,λA i s H args us I Q E hr e0 b v h=>?_⟩,y,O,e j B,Vals.nons j⟩;obtain⟨ι,S,ds,r,hh,w⟩:=h;exact w.elim
 |succ n J=>
  refine⟨U,Y,λa x ps o M j B=>?_,zf0 Pg (n+1),g.cls,λc m a h=>zku (zeY J (g.mth c m a h)),λc a j h=>zkv (zeY J (g.ini c a j h)),λx m a h=>zkw (zeY J (g.cmd x m a h)),λ_=>g.cln,g.isa⟩;rcases hd a x ps o M with z|z;obtain⟨F,C,st,dV,f,q,N,l,G,L,S,ck,t,hn,y,e⟩:=z.ex;exact⟨f,q,_,(zkM J L l S ck t hn G),y,L.kp,e j B,Vals.nons j⟩;obtain⟨F,p,f,q,l,G,t,y,O,e,ok⟩:=z.ex;refine⟨f,q,_,?_,y,O,e j B,Vals.nons j⟩;by_cases c:3<=n;exact(ok n c J).mono (by lia)
  . refine⟨λI H Q E h=>zce l t h,λA i s H args us I Q E hr e0 b v h=>?_⟩;obtain⟨ι,S,ds,r,hh,w⟩:=h;cases p<;>(simp only[callF,l,G]at w;split at w<;>exact w.elim)
def AllAtG{α:Type}(P:Nat->α->Prop):Nat->List α->Prop
 |_,[]=>True|k,a::r=>P k a/\AllAtG P (k+1) r
theorem zns{P}:∀{l:List α}{k:Nat},AllAtG P k l->∀(i:Nat)(a:α),l[i]?=Φ a->P (k+i) a
 | [],_,_,i,a,h=>by simp at h|b::r,k,q,0,a,h=>by cases h;exact q.1| b::r,k,q,i+1,a,h=>by
  have:=zns q.2 i a (by simpa using h)
  rwa [Nat.add_right_comm]at this
theorem AllAt.get{P:Nat->α->Prop}{l:List α}(q:AllAtG P 0 l)(i)(a)(h:l[i]?=Φ a):P i a:=zero_add i▸zns q i a h
def AllInG{α:Type}(P:α->Prop):List α->Prop
 | []=>True|a::r=>P a/\AllInG P r
theorem AllIn.get[BEq α][LawfulBEq α]{P}:∀{l:List α},AllInG P l->∀a,l.contains a=Γ->P a
 | [],_,a,h=>by simp at h| b::r,q,a,h=>by rw[List.contains_cons,ϟ]at h;rcases h with h|h;rw[eq_of_beq h];exact q.1;exact AllIn.get q.2 a h
theorem law_spT{ns:List Int}(c:FixL K H a (ns.map V.int))(f:TB H)(b:W (callF Pg k g [.fix (ns.map .int)] ⟨[],[],[]⟩) λd _=>d=.bl Γ):spF K (callF Pg k) g [.ref a] H (λv _=>v=.bl Γ) λ_ _ _=>False:=by
 refine⟨[],⟨[],[],[]⟩,[.fix (ns.map .int)],⟨.ref a,[],rfl,⟨a,_,rfl,c,RVs.ints ns⟩,rfl⟩,⟨rfl,List.nodup_nil,λl o e=>(by simp[St.get]at e),f⟩,?_⟩;obtain⟨d,h,e,q⟩:=zgn b;rw[e];intro v m j x r i;subst q;exact r
end
noncomputable def okD(T:Tab)(F:Fn)(N ps:List Str)(st:Stmt):Bool:=
 decide ((zab st).kind=.function)&&(!(zab st).isCoroutine&&(!(zab st).isGenerator&&(decide N.Nodup&&(decide (N.take ps.length=ps)&&(ps.all (λx=>decide ((zab st).names.lookup x=Φ .local)||decide ((zab st).names.lookup x=Φ .cell)) &&
  ((zab st).names.all (λy=>decide (y.2≠.free))&&(chkS T F.body N (zab st) (zak st)&&(decide (F.np=ps.length)&&(decide (F.nn=N.length)&&(F.prim.isNone&&decide (N≠T.lam)))))))))))
structure OkD(T:Tab)(Pg:List Fn)(fi:Nat)(x q:Str)(ps:List Str)(st:Stmt):Prop where
 ex:∃(F:Fn) (N:List Str),Pg[fi]?=Φ F/\F.prim=Ψ/\FnScope N ps (zab st)/\ChkD T F.body N (zab st) (zak st)/\F.np=ps.length/\F.nn=N.length
 bd:∀(kV doc pm:Θ)(an:Option Addr)(cdv ct:Θ)(us:List Θ),us.length=ps.length->bindArgs (fnOf x q (zan st) (zak st) (zab st) .none kV doc pm an cdv ct) ⟨us,[]⟩=pure (ps.zip us)
theorem zar{st}(N)(e:Pg[fi]?=Φ F)(h:okD T F N ps st=Γ)(b:∀(kV doc pm:Θ)(an:Option Addr)(cdv ct:Θ)(us:List Θ),us.length=ps.length->bindArgs (fnOf x q (zan st) (zak st) (zab st) .none kV doc pm an cdv ct) ⟨us,[]⟩=pure (ps.zip us)):OkD T Pg fi x q ps st:=by
 simp only[okD,Λ,not_eq_true',decide_eq_true_eq,all_eq_true,ϟ,Option.isNone_iff_eq_none]at h;obtain⟨h1,h2,h3,h4,h5,h6,h7,h8,h9,h10,h11,h12⟩:=h;exact⟨⟨F,N,e,h11,⟨h1,h2,h3,h4,h5,h6,h7⟩,⟨h8,h12⟩,h9,h10⟩,b⟩
theorem AllInG.cons{b:Type}{P:b->Prop}{a:b}{r:List b}(h:P a)(t:AllInG P r):AllInG P (a::r):=⟨h,t⟩
theorem AllAtG.cons{b:Type}{P:Nat->b->Prop}{k:Nat}{a:b}{r:List b}(h:P k a)(t:AllAtG P (k+1) r):AllAtG P k (a::r):=⟨h,t⟩
theorem AllInG.mem:∀{l:List c},AllInG P l->∀a∈l,P a
 |b::r,q,a,h=>by rcases mem_cons.mp h with rfl|h;exact q.1;exact AllInG.mem q.2 a h
section
variable{P:Υ}{w:ύ}{K:Frag}{h base:Heap}{mg:Str->Option Θ}{T:Tab}{Pg:List Fn}{fi c:Nat}{x q m:Str}{ps:List Str}{st:Stmt}{f C:Addr}{oc kV dc pm cd ct:Θ}{od an:Option Addr}{sl:Array (Option Θ)}
theorem dOk(X:K.In h)(G:h.Ns mainGlobals mg)(o:OkD T Pg fi x x ps st)(a:nsIn K mainGlobals x=Φ (Φ (.ref f)))(l:K.lookup f=Φ ⟨oc,od,.func (fnOf x x (zan st) (zak st) (zab st) .none kV dc pm an cd ct),sl⟩)(c:codeIn K cd x=Γ)
  (k:keepIn K (.ref f)=Γ):DefOk K mg T Pg fi x ps 0\/PrimOk P w K mg base T Pg fi x ps 0:=by
 obtain⟨F,N,d,e,g,i,n,p⟩:=o.ex;have b:=zcP (st:=st) l c k;exact .inl ⟨⟨F,x,st,_,f,_,N,d,e,b,g,i,n,p,mg_of X G a,λj r=>(Nat.le_zero.mp r).symm▸b.binds o.bd⟩⟩
def ClAt(K:Frag)(mg:Str->Option Θ)(T:Tab)(c:Nat)(x:Str):Prop:=∃C,Mks.cl[c]?=Φ C/\Cls K C/\mg x=Φ (.ref C)/\∀f,T.flds.contains f=Γ->NoAttr K C f
theorem clOk(X:K.In h)(G:h.Ns mainGlobals mg)(e:Mks.cl[c]?=Φ C)(a:nsIn K mainGlobals x=Φ (Φ (.ref C)))(b:plainGet K C Str.empty=Γ)(hd:hasDictIn K C=Γ)(d:plainOver K C=Γ)
  (g:findIn K (.ref C) "__setattr__"=Φ (Φ (.builtin "object.__setattr__"))) (n:AllInG (λf=>findIn K (.ref C) f=Φ Ψ) T.flds):ClAt K mg T c x:=
 ⟨C,e,⟨b,hd,d,g⟩,mg_of X G a,AllIn.get n⟩
theorem mOk0(o:OkD T Pg fi m q ps st)(l:K.lookup f=Φ ⟨oc,od,.func (fnOf m q (zan st) (zak st) (zab st) .none kV dc pm an cd ct),sl⟩)(b:codeIn K cd q=Γ)(k:keepIn K (.ref f)=Γ)(e:d f):MOk K T Pg fi 0 d:=by obtain⟨F,N,g,i,j,n,p,r⟩:=o.ex;have a:=zcP l b k;exact⟨⟨F,m,q,st,_,f,_,N,ps,g,i,a,j,n,p,r,a.binds o.bd,e⟩⟩
theorem mOk(b:AllAtG (ClAt K mg T) 0 T.cls)(o:OkD T Pg fi m q ps st)(e:Mks.cl[c]?=Φ C)(ex:T.cls[c]?=Φ x)(t:findIn K (.ref C) m=Φ (Φ (.ref f)))(l:K.lookup f=Φ ⟨oc,od,.func (fnOf m q (zan st) (zak st) (zab st) .none kV dc pm an cd ct),sl⟩)
  (d:codeIn K cd q=Γ) (k:keepIn K (.ref f)=Γ) (i:isFn K (.ref f)=Γ):MOk K T Pg fi 0 (ExM K c m):=by
 obtain⟨g,a,j,_⟩:=AllAt.get b c x ex;exact mOk0 o l d k ⟨g,a,j,by rw[e]at a;cases a;exact⟨t,i,k⟩⟩
theorem iOk(o:OkD T Pg fi "__init__" q ps st)(e:Mks.cl[c]?=Φ C)(mk:makesIn K C=Γ)(t:findIn K (.ref C) "__init__"=Φ (Φ (.ref f)))(a:keepIn K (.ref C)=Γ)(l:K.lookup f=Φ ⟨oc,od,.func (fnOf "__init__" q (zan st) (zak st) (zab st) .none kV dc pm an cd ct),sl⟩)
 (b:codeIn K cd q=Γ) (k:keepIn K (.ref f)=Γ) (i:isFn K (.ref f)=Γ):MOk K T Pg fi 0 (ExI K c):=mOk0 o l b k ⟨C,e,mk,t,i,a⟩
theorem cOk(X:K.In h)(G:h.Ns mainGlobals mg)(o:OkD T Pg fi m q ps st)(a:nsIn K mainGlobals x=Φ (Φ (.ref C)))(g:specialIn K (.ref C) "__getattribute__"=Φ (Φ (.builtin "type.__getattribute__")))(r:readsIn K C (.type "type")=Γ)
  (t:findCls K (.ref C) (.type "type") m=Φ (.val (.ref f))) (l:K.lookup f=Φ ⟨oc,od,.func (fnOf m q (zan st) (zak st) (zab st) .none kV dc pm an cd ct),sl⟩) (b:codeIn K cd q=Γ) (k:keepIn K (.ref f)=Γ):MOk K T Pg fi 0 (ExC K mg x m):=
 mOk0 o l b k ⟨C,_,mg_of X G a,g,r,t⟩
def IsAt(K:Frag)(mg:Str->Option Θ)(z:Str×List Nat):Prop:=∃D,mg z.1=Φ (.ref D)/\∀c C,Mks.cl[c]?=Φ C->IsaOk K C/\kitOne K (.ref C) (.ref D)=Φ (z.2.contains c)
def CoAt(K:Frag)(z:Str×D):Prop:=∃i t,z.2=.int i/\nsIn K mainGlobals z.1=Φ (Φ (.int i t))
theorem coOk(a:nsIn K mainGlobals x=Φ (Φ (.int i t))):CoAt K (x,.int i):=⟨i,t,rfl,a⟩
end
noncomputable def okL(T:Tab)(F:Fn)(ps:List Str)(st:Stmt):Bool:=
 decide ((zab st).kind=.function)&&(!(zab st).isCoroutine&&(!(zab st).isGenerator&&(decide T.lam.Nodup&&(decide (T.lam.take ps.length=ps)&&(ps.all (λx=>decide ((zab st).names.lookup x=Φ .local)||decide ((zab st).names.lookup x=Φ .cell)) &&
  ((zab st).names.all (λy=>decide (y.2≠.free))&&(chkS T F.body T.lam (zab st) (zak st)&&(decide (F.np=ps.length)&&decide (F.nn=T.lam.length)))))))))
structure OkL(T:Tab)(Pg:List Fn)(fi:Nat)(x:Str)(ps:List Str)(nd:Nat)(st:Stmt):Prop where
 ex:∃F:Fn,Pg[fi]?=Φ F/\F.prim=Φ .lam/\FnScope T.lam ps (zab st)/\chkS T F.body T.lam (zab st) (zak st)=Γ/\F.np=ps.length/\F.nn=T.lam.length
theorem zre{st}(e:b[c]?=Φ F)(d:F.prim=Φ .lam)(h:okL T F ps st=Γ):OkL T b c x ps p st:=by simp only[okL,Λ,not_eq_true',decide_eq_true_eq,all_eq_true,ϟ]at h;obtain⟨f,g,i,j,k,l,m,n,o,a⟩:=h;exact⟨F,e,d,⟨f,g,i,j,k,l,m⟩,n,o,a⟩
theorem zrr{K}{st}{y kV g z ct}(lk:K.lookup f=Φ ⟨oc,od,.func (fnOf x a (zan st) (zak st) (zab st) y kV g z J (.ref c) ct),L⟩)(l:codeIn K (.ref c) a=Γ)(M:codeHdIn K c T.lamP=Γ)(N:BM o base)(t:(T.lamP,a ++ ".<locals>." ++ "<lambda>")∈Mks.ts)(one:∀p∈Mks.ts,p.1=T.lamP->p.2=a ++ ".<locals>." ++ "<lambda>")(S:FnScope T.lam ps (zab st))(O:chkS T F.body T.lam (zab st) (zak st)=Γ)(B:u[U]?=Φ F)(Y:F.prim=Φ .lam)(hp:F.np=ps.length)(hn:F.nn=T.lam.length)(h3:3<=n)(hm:3<=m)(tab:TabOk T (callF u n) m P w K o base):
  FnOk P w K o base CX0 (m+2) f (fnOf x a (zan st) (zak st) (zab st) y kV g z J (.ref c) ct) ps (spF K (callF u (n+1)) U):=by
 refine zo6 lk l S (λvs H Q E h=>zce B hp h) λA b s H vs Q E hr h=>?_;obtain⟨ι,S0,ds,r,hh,i⟩:=h;have G:Gd T (callF u n) m T.lam (zab st) (cxOf CX0 P w K o base T.lam a (zab st) f (.ref c) A b s H E).nox:=⟨rfl,S.nd,λx e=>e,λx e=>e,λx e=>.inl e,λx e=>e,.inl λ_=>rfl,rfl,rfl,hr,tab,λ_=>⟨hm,c,⟨N,rfl,M,t,one⟩⟩⟩;refine⟨_,(zaU F.body G O).nox,?_⟩;simp only[callF,B,Y,h3,if_true]at i;split at i;rename_i c;rw[zaa]at i;refine⟨zaB F ds,ι,S0,_,RS.start r c hn,hh,i,?_⟩;intro fl j C S' I k q;cases fl with|nx δ'=>exact λσ' hs'=>q .non C j I rfl k|rt d=>exact λv rv=>q v C j I rv k
 exact i.elim
theorem lOk{K}{st}{y m kV b q ct}(X:K.In h)(G:h.Ns mainGlobals d)(z:BM d base)(o:OkL T r s x ps g st)(i:(T.lamP,x ++ ".<locals>." ++ "<lambda>")∈Mks.ts)(one:∀p∈Mks.ts,p.1=T.lamP->p.2=x ++ ".<locals>." ++ "<lambda>")(A:∀j,j<=g->Binds K (fnOf x x (zan st) (zak st) (zab st) m kV b q B (.ref c) ct) ps (List.replicate j Θ.none))(a:nsIn K mainGlobals x=Φ (Φ (.ref f)))(l:K.lookup f=Φ ⟨y,L,.func (fnOf x x (zan st) (zak st) (zab st) m kV b q B (.ref c) ct),M⟩)(C:codeIn K (.ref c) x=Γ)(k:keepIn K (.ref f)=Γ)(e:codeHdIn K c T.lamP=Γ):DefOk K d T r s x ps g\/PrimOk P w K d base T r s x ps g:=by
 obtain⟨F,t,u,E,H,v,I⟩:=o.ex;exact .inr ⟨⟨F,.lam,f,_,t,u,v,mg_of X G a,k,A,λn J tab=>zrr l C e z i one E H t u v I J (by lia) tab⟩⟩
structure OkE(T:Tab)(Pg:List Fn)(fi:Nat)(ps:List Str)(st:Stmt):Prop where
 ex:∃(F:Fn) (N:List Str),Pg[fi]?=Φ F/\F.prim=Ψ/\FnScope N ps (zab st)/\ChkD T F.body N (zab st) (zak st)/\F.np=ps.length/\F.nn=N.length
theorem zrf{st}(N)(e:d[f]?=Φ F)(h:okD T F N ps st=Γ):OkE T d f ps st:=by simp only[okD,Λ,not_eq_true',decide_eq_true_eq,all_eq_true,ϟ,Option.isNone_iff_eq_none]at h;obtain⟨g,i,j,k,l,m,n,o,p,a,b,c⟩:=h;exact⟨F,N,e,b,⟨g,i,j,k,l,m,n⟩,⟨o,c⟩,p,a⟩
theorem lOkD{K}{st}{oc kV doc pm ct xc}(X:K.In h)(G:h.Ns mainGlobals mg)(bm:BM mg base)(o:OkL T Pg fi x ps nd st)(mem:(T.lamP,x ++ ".<locals>." ++ "<lambda>")∈Mks.ts)(one:∀p∈Mks.ts,p.1=T.lamP->p.2=x ++ ".<locals>." ++ "<lambda>")(hb:∀j,j<=nd->∃n,ps.length=n+j/\∀(d:Addr)(kV doc pm:Θ)(an:Option Addr)(cdv ct:Θ)(us:List Θ),us.length=n->∃k,bindArgs (fnOf x x (zan st) (zak st) (zab st) (.ref d) kV doc pm an cdv ct) ⟨us,[]⟩=seqItems? (.ref d)>>=k/\k (Φ items)=pure (ps.zip (us++List.replicate j Θ.none)))(a:nsIn K mainGlobals x=Φ (Φ (.ref f)))(l:K.lookup f=Φ ⟨oc,od,.func (fnOf x x (zan st) (zak st) (zab st) (.ref d) kV doc pm an (.ref c) ct),sl⟩)(cc:codeIn K (.ref c) x=Γ)(k:keepIn K (.ref f)=Γ)(e:codeHdIn K c T.lamP=Γ)(ed:K.lookup d=Φ ⟨xc,xd,.seq items xn,xs⟩):DefOk K mg T Pg fi x ps nd\/PrimOk P w K mg base T Pg fi x ps nd:=
 lOk X G bm o mem one (λj hj=>by obtain⟨n,hn,q⟩:=hb j hj;exact zno (ds:=List.replicate j Θ.none) n (by rw[length_replicate];exact hn) (zcP (st:=st) l cc k) ed (q d)) a l cc k e
theorem all_of{l:PySem.W.OpenLaw}{K}{st}{H kV A B y ct}(X:K.In h)(G:h.Ns mainGlobals g)(z:g "law"=Φ (.ref I))(o:OkD T r b "law" "law" [C] st)(J:Mks.cl.length<=T.cls.length)(u:AllAtG (ClAt K g T) 0 T.cls)(L:AllInG (λx=>nsIn K mainGlobals x=Φ Ψ) T.blt)(M:AllInG (CoAt K) T.cons)(hd:∀base:Heap,BM g base->AllAtG (λb q=>DefOk K g T r b q.1 q.2.1 q.2.2\/PrimOk l.prog w K g base T r b q.1 q.2.1 q.2.2) 0 T.fns)(O:AllAtG (ClAt K g T) 0 T.cls->AllInG (λq=>MOk K T r q.2.2 0 (ExM K q.1 q.2.1)) T.mts)(hi:AllInG (λq=>MOk K T r q.2.1 q.2.2 (ExI K q.1)) T.inits)(p:AllInG (λq=>MOk K T r q.2.2 0 (ExC K g q.1 q.2.1)) T.cms)(hs:AllInG (IsAt K g) T.isas)(a:nsIn K mainGlobals "law"=Φ (Φ (.ref f)))(Q:K.lookup f=Φ ⟨H,od,.func (fnOf "law" "law" (zan st) (zak st) (zab st) .none kV A B U y ct),sl⟩)(c:codeIn K y "law"=Γ)(k:keepIn K (.ref f)=Γ):
  ∃E:FuncData,(∀(s:Ζ)(v:Θ),BindsTo s E ⟨[v],[]⟩ [(C,v)])/\∀base:Heap,K.In base->base.Ns mainGlobals g->BM g base->FnOk l.prog w K g base CX0 (2*n+2) I E [C] (spF K (callF r (n+1)) b):=by
 have e:=z.symm.trans (mg_of X G a);cases e;obtain⟨F,N,Y,h2,h3,h4,h5,h6⟩:=o.ex;refine⟨fnOf "law" "law" (zan st) (zak st) (zab st) .none kV A B U y ct,λs v=>.of_eq (o.bd _ _ _ _ _ _ [v] rfl),λbase _ _ bm=>?_⟩;refine zkM (zpP (λx p=>PySem.W.mg_none_of X G (AllIn.get L x p)) (λx d p=>?_) (λb x ps nd hf=>AllAt.get (hd base bm) b _ hf)
  ⟨AllAt.get u,λc m b p=>AllIn.get (O u) (c,m,b) p,λc b j p=>AllIn.get hi (c,b,j) p,λx m b h=>AllIn.get p (x,m,b) h,J,λx cs p=>AllIn.get hs (x,cs) p⟩ n) (zcP (st:=st) Q c k) Y h3 h4 h5 h6 h2
 obtain⟨i,t,e,q⟩:=M.mem (x,d) (PySem.mem_of_lookup p);cases(show d=.int i from e);exact⟨rfl,_,mg_of X G q,⟨_,rfl⟩⟩
noncomputable def H0(K:Frag)(a:Addr)(o:Obj)(xs:List V):Hp:=λb=>if b∈Mks.ts.map (·.1) then Φ (.tbl #[]) else if b=a then(match K.lookup a with|some _=>Ψ|none=>Φ (.frz o (.lst xs))) else Ψ
theorem zj8{K}(KX:K.In c.heap)(J:c.heap.Ns mainGlobals A)(hb:c.heap.Ns builtinsNs mb)(hbb:∀x:Str,x≠"__name__"->mb x=bootBuiltins x)(L:c.heap.NoLimit)(hg:c.gens = #[])(bm:BM A c.heap)(I:c.heap.get? a=Φ {cls:=.type "list",data:=.seq vs.toArray})(hi:IntsAre vs ns)(hl:ns.length<=sizeLine)(hr:Room k callerA)(g:∀p∈Mks.ts,c.heap.get? p.1=Φ (tabObj #[])/\K.lookup p.1=Ψ/\isCodeTable c.heap p.1)(F:∀base:Heap,K.In base->base.Ns mainGlobals A->BM A base->FnOk P w K A base CX0 k fa fd [x] sp)(B:∀(s:Ζ)(u:Θ),BindsTo s fd ⟨[u],[]⟩ [(x,u)])(hsp:∀H:Hp,FixL K H a (ns.map V.int)->TB H->sp [.ref a] H (λv _=>v=.bl Γ) λ_ _ _=>False):
  codeAny (model P w) callerA (.call (.ref fa) ⟨[.ref a],[]⟩) (λr C=>r=.ok (.ret (.bool Γ))/\OldK c.heap C.heap/\C.os=c.os/\AllBare C.gens) c:=by
 have rv:=zds hi;have M:=hi.length;generalize hH:H0 K a {cls:=.type "list",data:=.seq vs.toArray} (ns.map V.int)=H;have U:∀b,H b=Ψ\/((∃p∈Mks.ts,p.1=b)/\H b=Φ (.tbl #[]))\/(b=a/\K.lookup a=Ψ/\H b=Φ (.frz {cls:=.type "list",data:=.seq vs.toArray} (.lst (ns.map V.int)))):=λb=>by
  rw[<-hH];unfold H0;by_cases E:b∈Mks.ts.map (·.1);obtain⟨p,i,e⟩:=mem_map.mp E;exact .inr (.inl ⟨⟨p,i,e⟩,if_pos E⟩);rw[if_neg E];by_cases G:b=a;rw[if_pos G];cases e:K.lookup a with|some o=>exact .inl rfl|none=>exact .inr (.inr ⟨G,rfl,rfl⟩)
  rw[if_neg G];exact .inl rfl
 have tb:TB H:=λp i=>⟨#[],by rw[<-hH];unfold H0;exact if_pos (mem_map.mpr ⟨p,i,rfl⟩),trivial,λpos v e=>by simp[codeAmong]at e⟩;have na:a∉Mks.ts.map (·.1):=λz=>by obtain⟨p,i,e⟩:=mem_map.mp z;have:=(g p i).1;rw[e,I]at this;cases this
 have hx:FixL K H a (ns.map V.int):=by cases e:K.lookup a with| some o=>have Y:=KX a o e;rw[I]at Y;cases Y;exact .inr ⟨_,vs.toArray,_,e,rfl,rfl,rfl,by rw[size_toArray,M];exact hl,by simpa using rv⟩| none=>refine .inl ⟨{cls:=.type "list",data:=.seq vs.toArray},?_⟩;rw[<-hH];unfold H0;rw[if_neg na,if_pos rfl,e]
 have hok:HOk P w H c.heap:=λb u e=>by rcases U b with z|⟨⟨p,i,rfl⟩,z⟩|⟨rfl,_,z⟩;rw[z]at e;exact nS e;rw[z]at e;cases e;exact(g p i).1;rw[z]at e;cases e;exact⟨I,by rw[length_map];exact hl,vs,_,rv,I⟩
 have N:∀{b:Addr}{o:Obj},c.heap.get? b=Φ o->(∀xs n,o.data≠.seq xs n)->(∀fs,o.data≠.fields fs)->H b=Ψ:=λ{b o} e n1 n2=>by rcases U b with z|⟨⟨p,i,rfl⟩,_⟩|⟨rfl,_,_⟩;exact z;rw[(g p i).1]at e;cases e;exact absurd rfl (n2 _);rw[I]at e;cases e;exact absurd rfl (n1 _ _)
 have f:∀{b:Addr}{o:Obj},c.heap.get? b=Φ o->H b=Ψ->(hidT c.heap H).get? b=Φ o:=λe n=>zml e n;have j:∀{b:Addr}{m:Str->Option Θ},c.heap.Ns b m->(hidT c.heap H).Ns b m:=λ{b m} ⟨o,es,ep,e,d,r⟩=>⟨o,es,ep,f e (N e (λ_ _ z=>by rw[d]at z;cases z) λ_ z=>by rw[d]at z;cases z),d,r⟩;have O:K.In (hidT c.heap H):=λb o e=>f (KX b o e) (by
  rcases U b with z|⟨⟨p,i,rfl⟩,_⟩|⟨rfl,z,_⟩;exact z;rw[(g p i).2.1]at e;exact nS e;rw[z]at e;exact nS e)
 have hbm:BM A (hidT c.heap H):=by obtain⟨m,o,E,G,h3,h4,h5,h6,h7⟩:=bm;exact⟨m,o,E,G,h3,f h4 (N h4 (λ_ _ z=>by rw[h7]at z;cases z) λ_ z=>by rw[h7]at z;cases z),h5,h6,h7⟩
 have hM:Mod K A (hidT c.heap H):=⟨O,j J,⟨mb,j hb,hbb⟩,let ⟨mc,E,G⟩:=L;⟨mc,j E,G⟩⟩;have e0:Env0 P w K A (hidT c.heap H) callerA [] c H:=⟨rfl,hM,λb o e=>zoG e,Nat.le_of_eq (zks _ _),trivial,λb hb=>absurd (show b∈([]:List Addr) from hb) (by simp),hok,.of_eq hg⟩;refine codeAny_mono ((F _ O (j J) hbm).run callerA [] c H ⟨[.ref a],[]⟩ [.ref a] [.ref a] _ _ hr e0 (B c (.ref a)) (.cons rfl .nil) (hsp H hx tb)) λr C h=>?_;cases r with
 |error e=>exact False.elim h| ok fl=>
  cases fl with
  |ret u=>
   obtain⟨v,H',os,Q,un,l,r',q⟩:=h;have q':v=.bl Γ:=q;subst q';obtain rfl:u=Θ.bool Γ:=r';have T:∀b o,c.heap.get? b=Φ o->asItWas c.heap C.heap b o/\∃o',C.heap.get? b=Φ o':=λb o e=>by rcases U b with z|⟨⟨p,i,rfl⟩,z⟩|⟨rfl,_,z⟩;have k:=un.keep b o e z (by intro y;exact absurd (show b∈([]:List Addr) from y) (by simp)) (by simp);exact⟨.inl k,_,k⟩;obtain⟨t,z2⟩:=un.tbls _ _ z;have k:C.heap.get? p.1=Φ (tabObj (#[]++t)):=l _ _ z2;have Y:=(g p i).1;rw[Y]at e;cases e;exact⟨.inr (.inl ⟨(g p i).2.2,rfl,#[],t,rfl,k⟩),_,k⟩;have z2:=un.frzs _ _ _ z;have k:=(l _ _ z2).1;rw[I]at e;cases e;exact⟨.inl k,_,k⟩
   exact⟨rfl,⟨λb o e=>(T b o e).1,λb o e=>(T b o e).2⟩,os,Q⟩
  |_=>exact False.elim h
theorem walk_ofT{l:PySem.W.OpenLaw}{K:Params->Frag}{sp:ύ->Sp}(hn:l.most=Φ n)(r:n<=sizeLine)(t:d.params.defaults=[])(hr:Room k callerA)(hY:∀(w:ύ)(h:Heap),M w h->(K w.params).In h)(hT:∀(w:ύ)(h:Heap),M w h->∀p∈Mks.ts,h.get? p.1=Φ (tabObj #[]))(hK:∀(w:ύ),∀p∈Mks.ts,(K w.params).lookup p.1=Ψ/\∃c,codeHdIn (K w.params) c p.1=Γ)(F:∀(w:ύ)(g:Str->Option Θ)(m:Addr)(h:Heap),(K w.params).In h->h.Ns mainGlobals g->g d.name=Φ (.ref m)->
   ∃y:FuncData,(∀(s:Ζ)(u:Θ),BindsTo s y ⟨[u],[]⟩ [(x,u)])/\
    ∀base:Heap,(K w.params).In base->base.Ns mainGlobals g->BM g base->FnOk l.prog w (K w.params) g base CX0 k m y [x] (sp w))(A:∀(w:ύ)(H:Hp)(a:Addr)(ns:List Int),ns.length<=n->FixL (K w.params) H a (ns.map V.int)->TB H->sp w [.ref a] H (λv _=>v=.bl Γ) λ_ _ _=>False):
  PySem.W.WalkO q B XP M l.row.toRowW d [] (λf vs=>PySem.call f vs):=by
 refine Att.attach_call hn t λw N O g mb m o pm cd doc a vs ns G Y ho Q hcd C j i b hg=>?_;have E:=hY w _ Y;obtain⟨y,hb,hF⟩:=F w g m _ E G.T.g C;obtain⟨T,ob,b1,b2,I,b4,b5,J⟩:=G.T.bmain;have L:T≠mainGlobals:=λz=>by obtain⟨o,es,ep,e,Q,_⟩:=G.T.g;rw[z,e]at I;cases I;rw[Q]at J;cases J
 refine zj8 E G.T.g G.T.b G.T.builtins G.T.nolimit hg ⟨T,ob,b1,b2,L,I,b4,b5,J⟩ j i (le_trans b r) hr (λp U=>?_) hF hb λH hx tb=>A w H a ns b hx tb;obtain⟨k1,c,k2⟩:=hK w p U;have e:=hT w _ Y p U;exact⟨e,k1,((PySem.W.codeHd_of_K E k2).tab e).isCodeTable⟩
end R
namespace R
noncomputable def oD:Option Int->D|some i=>.int i|none=>.non
open PySem (PyData)
theorem ze3{α β:Type}{f}:∀{xs:List α}{ys:List β},xs.mapM f=Φ ys->∀y∈ys,∃x∈xs,f x=Φ y
 | [],ys,h,y,hy=>by simp at h;subst h;cases hy
 |x::xs,ys,h,y,hy=>by
  rw[Ϣ]at h;cases e:f x with
  |none=>rw[e]at h;exact nS h
  |some z=>
   rw[e]at h;cases e2:xs.mapM f with
   |none=>rw[e2]at h;exact nS h
   |some zs=>rw[e2]at h;injection h with h;subst h;rcases mem_cons.mp hy with rfl|hy;exact⟨x,by simp,e⟩;obtain⟨u,hu,eu⟩:=ze3 e2 y hy;exact⟨u,by simp[hu],eu⟩
theorem zcm:∀{xs:List PyData},(∀x∈xs,PyData.eqv x x=Γ)->PyData.eqvAll xs xs=Γ
 | [],_=>by simp[PyData.eqvAll]|x::xs,h=>by simp[PyData.eqvAll,h x (by simp),zcm (xs:=xs) λy a=>h y (by simp[a])]
set_option tactic.hygienic true in
theorem zoB:∀{n:Nat}{d:D}{a:PyData},pd S n d=Φ a->PyData.eqv a a=Γ:=by
 intro n;induction n with
 |zero=>
  intro d a h;cases d<;>simp only[pd]at h
  cases h;simp[PyData.eqv];cases h;simp[PyData.eqv];cases h;simp[PyData.eqv];split at h;cases h;simp[PyData.eqv];exact nS h;exact nS h;exact nS h;exact nS h
 |succ n g=>
  intro d a h;cases d<;>simp only[pd]at h
  cases h;simp[PyData.eqv];cases h;simp[PyData.eqv];cases h;simp[PyData.eqv];split at h;cases h;simp[PyData.eqv];exact nS h;rename_i b;cases e:b.mapM (pd S n) with
  |none=>rw[e]at h;exact nS h
  |some i=>rw[e]at h;cases h;exact zcm λx c=>let ⟨d,_,f⟩:=ze3 e x c;g f
  split at h;rename_i b _;cases e:b.mapM (pd S n) with
  |none=>rw[e]at h;exact nS h
  |some i=>rw[e]at h;cases h;exact zcm λx c=>let ⟨d,_,f⟩:=ze3 e x c;g f
  exact nS h;exact nS h
theorem zrM(b:pd S 60 x=Φ a)(c:pd S 60 y=Φ a):eqD S x y=Φ Γ:=by unfold eqD;rw[b,c];exact congrArg Φ (zoB b)
theorem zeT(h:S.get l=Φ (.lst ds))(e:ds.mapM (pd S n)=Φ xs):pd S (n+1) (.ref l)=Φ (.list xs):=by simp only[pd,h,e];rfl
theorem zmw(h:S.get a=Φ (.lst ds)):dKvs S (.ref a)=Ψ:=by unfold dKvs;dsimp only;rw[h]
theorem zf5(h:S.get a=Φ (.lst ds)):zf6 S (.ref a) y=eqD S (.ref a) y:=by unfold zf6;rw[zmw h]
theorem zg1(c:S.get a=Φ (.lst ds))(d:S.get b=Φ (.lst ds))(e:ds.mapM (pd S 59)=Φ xs):cmpO S .Eq (.ref a) (.ref b)=Φ Γ:=(zf5 c).trans (zrM (zeT c e) (zeT d e))
theorem zag(S:St)(o):(S.push o).get S.len=Φ o:=by
 have h:¬S.len<S.frz.length:=by unfold St.len;lia
 unfold St.get St.push;simp only[h,if_false];unfold St.len;simp
theorem zae{S:St}(e:S.get l=Φ u):(S.push o).get l=Φ u:=by have h:=get_lt e;unfold St.len at h;unfold St.get at e⊢;unfold St.push;simp only;split;rename_i c;rw[if_pos c]at e;exact e;rename_i c;rw[if_neg c]at e;rw[getElem?_append_left (by omega)];exact e
theorem zeQ{S:St}(o)(d:S.frz.length<=l)(b:S.lk.contains l=Δ):∃a,S.put l o=Φ a/\a.frz=S.frz/\a.lk=S.lk/\a.len=S.len/\(∀m,m≠l->a.get m=S.get m)/\(l<S.len->a.get l=Φ o):=by refine⟨{S with new:=S.new.set (l-S.frz.length) o},?_,rfl,rfl,by simp[St.len],λm e=>?_,λc=>?_⟩;unfold St.put;rw[if_neg (by lia),b];rfl;unfold St.get;simp only;split;rfl;rw[getElem?_set_ne (by lia)];unfold St.len at c;unfold St.get;simp only[show ¬l<S.frz.length by lia,if_false];rw[getElem?_set_self (by lia)]
theorem zej(p):zdf (.tup (p.map .int))=Φ p:=by show zax (p.map .int)=Φ p;unfold zax;induction p with|nil=>rfl|cons k b a=>rw[Ν,Ϣ,a];rfl
theorem zkU(h:S.get l=Φ (.dtp a))(p):dGet S (.ref l) (.tup (p.map .int))=Φ (valP a p):=by unfold dGet;dsimp only;rw[h];dsimp only;rw[zej];rfl
theorem zo9(S)(i j):eqD S (.int i) (.int j)=Φ (i==j):=by unfold eqD;have e:∀k,pd S 60 (.int k)=Φ (.int k):=λk=>rfl;show Φ (PyData.eqv (.int i) (.int j))=_;rw[L2.eqv_int]
theorem zhW(S)(x):∀ks:List Int,inD S (.int x) (ks.map .int)=Φ (decide (x∈ks)):=by
 intro ks;have e:(ks.map D.int).mapM (λz=>eqD S z (.int x))=Φ (ks.map λk=>k==x):=by induction ks with|nil=>rfl|cons k ks ih=>rw[Ν,Ϣ,ih];rfl
 have f:∀ks:List Int,((ks.map λk=>k==x).any id)=decide (x∈ks):=by intro ks;induction ks with|nil=>rfl| cons k ks ih=>rw[Ν,any_cons,ih];by_cases c:k=x;subst c;simp;have c':¬x=k:=λz=>c z.symm;have b:=beq_eq_false_iff_ne.mpr c;simp only[b,id,Bool.false_or,mem_cons,c',false_or]
 unfold inD;rw[e];exact congrArg Φ (f ks)
theorem zfG(S)(x)(ks:List Int):cmpO S .NotIn (.int x) (.tup (ks.map .int))=Φ (!decide (x∈ks)):=by show((Φ (ks.map D.int)).bind λa=>inD S (.int x) a).map (!·)=_;rw[Ϛ,zhW];rfl
theorem zmH(xs)(x:α):R.atI (xs++[x]) (-1)=Φ x:=by
 have:R.ixN (xs++[x]).length (-1)=Φ xs.length:=by unfold R.ixN;rw[if_neg (by lia),if_pos (by simp;lia)];simp;lia
 unfold R.atI;rw[this];simp
theorem zmz(xs)(x:α):cut (xs++[x]) Ψ (Φ (-1))=xs:=by
 unfold cut;have a:sIx (xs++[x]).length (xs++[x]).length (Φ (-1))=xs.length:=by unfold sIx;simp;lia
 have b:sIx (xs++[x]).length 0 Ψ=0:=rfl;rw[a,b];simp
theorem zco{α:Type}{os:List α}{o}(h:os[i]?=Φ o):os.take (i+1)=os.take i++[o]:=by rw[List.take_add_one,h];rfl
theorem zg6{xs:List α}{k:Nat}{x:α}(h:xs[k]?=Φ x):R.atI xs (k:Int)=Φ x:=by
 have a:=(Α.mp h).1;have e:R.ixN xs.length (k:Int)=Φ k:=by simp[R.ixN,a]
 unfold R.atI;rw[e];exact h
theorem zmI:R.atI (x::xs) 0=Φ x:=by
 have:R.ixN (x::xs).length 0=Φ 0:=by simp[R.ixN]
 unfold R.atI;rw[this];rfl
theorem zr1:R.atI (x::y::xs) 1=Φ y:=by
 have:R.ixN (x::y::xs).length 1=Φ 1:=by simp[R.ixN];lia
 unfold R.atI;rw[this];rfl
noncomputable def zbo(ns:List Int)(k:Nat):Int:=match ns[k]? with|some v=>v%10^64|none=>0
theorem zbb(ns)(k):0<=zbo ns k:=by unfold zbo;split;exact Int.emod_nonneg _ (by decide);exact Int.le_refl 0
theorem zbw:∀ks:List Int,zax (ks.map D.int)=Φ ks
 | []=>rfl| k::ks=>by unfold zax;rw[Ν,Ϣ,show(ks.map D.int).mapM zcz=Φ ks from zbw ks];rfl
end R
namespace R
noncomputable def hnds(n:Nat):List Int:=(List.range n).map λ(k:Nat)=>(k:Int)
noncomputable def oth(n:Nat)(h:Int)(p:List Int):List Int:=(hnds n).filter λo=>!decide (o=h)&&!decide (o∈p)
end R
namespace R
open PySem PySem.Spec PyProof.Rows L2
variable[Mks]
noncomputable def wayB(d e f g h i j k l a b c:Pos)(m:List Stmt):List Stmt:=[.If (.BoolOp .Or [.UnaryOp .Not (.Call (.Name "isinstance" d) [.Name "thing" e,.Name "str" f] [] g) h,.Compare (.Name "thing" i) [.NotIn] [.Name "WAYS" j] k] l) m [] a,.Return (Φ (.Name "thing" b)) c]
structure WaySt(st:Stmt):Prop where
 ex:∃(p1 p2 p3 p4 p5 p6 p7 p8 p9 p10 p11 p12:Pos) (ra:List Stmt),zak st=wayB p1 p2 p3 p4 p5 p6 p7 p8 p9 p10 p11 p12 ra
 sc:FnScope ["thing"] ["thing"] (zab st)
 h0:(zab st).names.lookup ("thing":Str)=Φ .local
 h1:(zab st).names.lookup ("isinstance":Str)=Φ .globalImplicit
 h2:(zab st).names.lookup ("str":Str)=Φ .globalImplicit
 h3:(zab st).names.lookup ("WAYS":Str)=Φ .globalImplicit
set_option tactic.hygienic true in
theorem zgE(h:W (prm S .way ds) Q):∃x,ds=[.str x]/\(x=("oral":Str)\/x=("kings":Str))/\Q (.str x) S:=by unfold prm at h;split at h;rename_i e;cases e;rename_i x _;split at h;rename_i c;exact⟨x,rfl,c,h⟩;exact h.elim;exact h.elim
theorem zpz{K}{st}{B kV e C ct}(lk:K.lookup f=Φ ⟨oc,od,.func (fnOf x a (zan st) (zak st) (zab st) B kV e C I k ct),J⟩)(l:codeIn K k a=Γ)(T:WaySt st)(hi:g "isinstance"=Ψ)(hs:g "str"=Ψ)(L:g "WAYS"=Φ (.ref j))(M:K.lookup j=Φ ⟨.type "tuple",wd,.seq (List.toArray [.str "oral" t1,.str "kings" t2]) wn,ws⟩)(G:N[O]?=Φ F)(U:F.prim=Φ .way)(Y:F.np=1)(hn:3<=n):
  FnOk P w K g base CX0 (n+2) f (fnOf x a (zan st) (zak st) (zab st) B kV e C I k ct) ["thing"] (spF K (callF N (n+1)) O):=by
 obtain⟨p1,p2,p3,p4,p5,p6,p7,p8,p9,m,o,t,ra,eb⟩:=T.ex;refine zo6 lk l T.sc (λvs H Q E h=>zce (ps:=["thing"]) G Y h) λA d s H vs Q E hr h=>?_;obtain⟨ι,S0,ds,r,hh,b⟩:=h;simp only[callF,G,U,hn,if_true]at b;split at b;obtain⟨z,rfl,hz,q⟩:=zgE b;generalize c:cxOf CX0 P w K g base ["thing"] a (zab st) f k A d s H E=X;have y:∀{p:Pos},PE X (.Name "thing" p) (tVar 0):=by subst c;exact zjQ (i:=0) (x:="thing") rfl (.inl T.h0)
 have g1:Gl X "isinstance":=by subst c;exact T.h1
 have g2:Gl X "str":=by subst c;exact T.h2
 have g3:Gl X "WAYS":=by subst c;exact T.h3
 have e1:X.mg "isinstance"=Ψ:=by subst c;exact hi
 have e2:X.mg "str"=Ψ:=by subst c;exact hs
 have e3:X.mg "WAYS"=Φ (.ref j):=by subst c;exact L
 have eK:X.K=K:=by subst c;rfl
 have c1:=zb1 (p:=p1) (pos:=p4) zd0 g1 e1 zcD (zbI (y (p:=p2)) (zbI (zjT (pos:=p3) (v:=.ty "str") g2 e2 (u:=.type "str") rfl rfl (by decide) (by decide)) zfE) (zaf rfl _ X.env)) (by decide) (by decide) (zaf rfl _ X.env);have c2:=zjH (pos:=p8) zfF (y (p:=p6)) (zgG (pos:=p7) (v:=.ref j) g3 e3 rfl) rfl;have c3:=(zqF (pos:=p9) (zm6 (pos:=p5) (zqH c1)) (zm5 c2)).pt;have fa:PSs X ra (λ_ _ _=>False):=λ_ _ _ _ _ _ z=>z.elim;have c4:=zaJ (zqI (pos:=m) c3 fa zjI) (zoj (zm8 (pos:=t) (y (p:=o))));refine⟨_,by rw[eb];exact c4,?_⟩;obtain⟨v,r0,rfl,rv,rn⟩:=r;cases(show r0=[] from rn);cases(show v=.str z from rv);refine⟨.str z,rfl,.str z,"str","str",rfl,rfl,by decide,Γ,rfl,?_⟩;show(if(!Γ)=Γ then _ else _);rw[if_neg (by decide)];have fin:inV (.str z) [V.str "oral",V.str "kings"]=Γ:=by rcases hz with rfl|rfl<;>decide +kernel
 refine⟨.str z,rfl,j,[V.str "oral",V.str "kings"],rfl,.inr (.inr ⟨_,_,_,by rw[eK];exact M,rfl,rfl,by rw[ϋ];exact(show 2<=16777216 by decide),.cons ⟨_,rfl⟩ (.cons ⟨_,rfl⟩ .nil)⟩),rfl,rfl,Δ,by rw[fin];rfl,?_⟩;show ∃v,_/\_;refine⟨.str z,rfl,?_⟩;exact q _ _ ι (Ext.refl _ _) rfl hh;exact b.elim
theorem dOkD{K}{st}{oc kV dc pm cd ct xc}(X:K.In h)(G:h.Ns mainGlobals mg)(o:OkE T Pg fi ps st)(hb:∀j,j<=nd->∃n,ps.length=n+j/\∀(d:Addr)(kV doc pm:Θ)(an:Option Addr)(cdv ct:Θ)(us:List Θ),us.length=n->∃k,bindArgs (fnOf x x (zan st) (zak st) (zab st) (.ref d) kV doc pm an cdv ct) ⟨us,[]⟩=seqItems? (.ref d)>>=k/\k (Φ items)=pure (ps.zip (us++List.replicate j Θ.none)))(a:nsIn K mainGlobals x=Φ (Φ (.ref f)))(l:K.lookup f=Φ ⟨oc,od,.func (fnOf x x (zan st) (zak st) (zab st) (.ref d) kV dc pm an cd ct),sl⟩)(cc:codeIn K cd x=Γ)(k:keepIn K (.ref f)=Γ)(ed:K.lookup d=Φ ⟨xc,xd,.seq items xn,xs⟩):DefOk K mg T Pg fi x ps nd\/PrimOk P w K mg base T Pg fi x ps nd:=by
 obtain⟨F,N,h1,h2,h3,h4,h5,h6⟩:=o.ex;have FV:=zcP (st:=st) l cc k;exact .inl ⟨⟨F,x,st,_,f,_,N,h1,h2,FV,h3,h4,h5,h6,mg_of X G a,λj hj=>by obtain⟨n,hn,q⟩:=hb j hj;exact zno (ds:=List.replicate j Θ.none) n (by rw[length_replicate];exact hn) FV ed (q d)⟩⟩
end R
section
namespace Kz
local macro_rules|`(#[$x])=>`(.cons $x .nil)|`(#[$x,$y,*])=>`(.cons $x #[$y,*])
local macro_rules|`($x:ident)=>let s:=x.getId.toString;let n:=Lean.Syntax.mkNumLit (s.drop 1).toString;if s.length<2||!(s.drop 1).all Char.isDigit then Lean.Macro.throwUnsupported else if s.front=='J' then `(.loc $n) else if s.front=='V' then `(.con (.int $n)) else Lean.Macro.throwUnsupported
local macro_rules | `(tactic| exists $e)=>`(tactic| refine R.wOpt_of $e ?_)
local macro_rules | `(tactic| change $e)=>`(tactic| refine R.wNeed_of $e ?_)
local macro_rules | `(tactic| specialize $e)=>`(tactic| refine R.wOut_of $e ?_)
local macro_rules | `(tactic| left)=>`(tactic| conv=>whnf)
local macro_rules | `(tactic| right)=>`(tactic| refine R.wNeed_of (by first|decide|lia|(simp;done)|(simp;lia)) ?_)
section
open PySem R L2
noncomputable def zeu:Fn:=⟨1,1,(.ret (.and (.bi (.isin "int") #[J0]) (.nt (.bi (.isin "bool") #[J0]))) .nil),Ψ⟩
noncomputable def zgg:Fn:=⟨2,2,(.ret (.and (.call 0 0 #[J0]) (.cmp2 .LtE .Lt V0 J0 J1)) .nil),Ψ⟩
noncomputable def zgf:Fn:=⟨1,1,(.ret (.and (.call 0 0 #[J0]) (.cmp .Lt (.bi .abs #[J0]) (.bin .Pow V10 V60))) .nil),Ψ⟩
noncomputable def zev:Fn:=⟨3,3,(.ifS (.or (.nt (.tst (.call 0 0 #[J0]))) (.nt (.cmp2 .LtE .LtE J1 J0 J2)))
 .stop .nil (.ret J0 .nil)),Ψ⟩
noncomputable def zgh:Fn:=⟨2,2,(.ifS (.nt (.tst (.call 1 0 #[J0,J1])))
 .stop .nil (.ret J0 .nil)),Ψ⟩
noncomputable def zge:Fn:=⟨1,1,(.ifS (.nt (.tst (.call 2 0 #[J0])))
 .stop .nil (.ret J0 .nil)),Ψ⟩
noncomputable def c_run:Fn:=⟨3,6,(.asg 3 (.lst .nil) (.forS [4] (.rng2 V1 (.bin .Add J1 V1)) (.asg 5 (.srtK (.call 7 0 #[J4,J0,J2])) (.expr (.callW 8 0 #[J4,J0,J5]) (.expr (.extv J3 J5) .nil))) (.ret J3 .nil))),Φ .lam⟩
noncomputable def c_said_in:Fn:=⟨3,9,(.asg 3 (.lst .nil) (.forS [4,5] (.enum J1) (.forS [6,7,8] (.val (.meth "say" [(0,25)] J5 #[J0])) (.expr (.mt .append J3 #[.tup #[J0,J6,.ite (.cmp .Is J2 (.con D.non)) J7 (.ix (.ix J2 J4) J7),J8]]) .nil) .nil) (.ret J3 .nil))),Ψ⟩
noncomputable def c_deliver:Fn:=⟨3,7,(.asg 3 .dnew (.forS [4] (.val J2) (.expr (.mt .append (.dsetI J3 (.ix J4 V2) (.lst .nil)) #[.tup #[.ix J4 V1,.ix J4 V3]]) .nil) (.forS [5,6] (.enum J1) (.expr (.meth "hear" [(0,23)] J6 #[J0,.dgetI J3 J5 (.lst .nil)]) .nil) .nil))),Ψ⟩
noncomputable def zg3:Fn:=⟨4,6,(.ifS (.or (.nt (.cmp2 .LtE .LtE V1 J2 V7)) (.or (.nt (.tst (.call 1 0 #[J1,J0]))) (.cmp .Eq J1 J3))) (.ret (.lst .nil) .nil) .nil (.asg 4 (.lst #[.tup #[J1]]) (.forS [5] (.rng2 V1 J2) (.asg 4 (.call 10 0 #[J4,J0,J3]) .nil) (.ret J4 .nil)))),Ψ⟩
noncomputable def zc4:Fn:=⟨3,5,(.asg 3 (.lst .nil) (.forS [4] (.val J0) (.expr (.ext J3 (.comp 1 [4,2] [0] (.rng1 J1) (.and (.cmp .NotEq J0 J2) (.cmp .NotIn J0 J1)) (.bin .Add J1 (.tup #[J0])))) .nil) (.ret J3 .nil))),Ψ⟩
noncomputable def zc3:Fn:=⟨4,4,(.ret (.mkL (.comp 1 [0,1,2,3] [0] (.rng1 J0) (.tst (.con (D.bl Γ))) (.mk 0 22 "OralHand" 0 #[J0,J1,J2,J3,.ite (.cmp .Eq J0 J3) J4 (.con D.non)]))) .nil),Ψ⟩
noncomputable def zia:Fn:=⟨1,1,.nil,Φ .way⟩
noncomputable def zcC:Fn:=⟨2,2,(.ifS (.cmp .Lt J1 (.bi .len #[J0])) (.ret (.bin .Mod (.ix J0 J1) (.bin .Pow V10 V64)) .nil) .nil (.ret V0 .nil)),Ψ⟩
noncomputable def zcS:Fn:=⟨1,1,(.ifS (.cmp .Eq (.bin .Mod J0 V3) V0) (.ret (.bin .Sub (.bin .Mod (.bin .FloorDiv J0 V3) V5) V2) .nil) .nil (.ret (.bin .Sub (.bin .Mod (.bin .FloorDiv J0 V3) (.bin .Sub (.bin .Mult V2 (.bin .Pow V10 V60)) V1)) (.bin .Sub (.bin .Pow V10 V60) V1)) .nil)),Ψ⟩
noncomputable def zcn:Fn:=⟨1,6,(.asg 1 (.call 13 0 #[J0,V0]) (.asg 2 (.bin .Add V1 (.bin .Mod J1 V2)) (.asg 3 (.bin .Add V3 (.bin .Mod (.bin .FloorDiv J1 V2) (.bin .Sub (.bin .Mult V3 J2) V2))) (.asg 4 (.call 14 0 #[.call 13 0 #[J0,V2]]) (.asg 5 (.call 14 0 #[.call 13 0 #[J0,V3]]) (.ifS (.cmp .Eq J5 J4) (.asg 5 (.bin .Sub (.bin .Add J4 V1) (.bin .Mult V2 (.intb (.cmp .Gt J4 V0)))) .nil) .nil (.ret (.tup #[.ix (.lst #[.con (D.str "oral"),.con (D.str "kings")]) (.bin .Mod (.bin .FloorDiv J1 V8) V2),J3,J2,.bin .Mod (.call 13 0 #[J0,V1]) J3,J4,J5]) .nil))))))),Ψ⟩
noncomputable def zd2:Fn:=⟨3,3,(.ret (.bin .Mod (.bin .Mod (.bin .Sub (.bin .Add J2 J0) J1) J0) V3) .nil),Ψ⟩
noncomputable def zd1:Fn:=⟨1,1,(.ret (.and (.bi (.isin "int") #[J0]) (.nt (.bi (.isin "bool") #[J0]))) .nil),Ψ⟩
noncomputable def zc6:Fn:=⟨3,7,(.ifS (.or (.nt (.tst (.bi (.isin "tuple") #[J0]))) (.or (.cmp .NotEq (.bi .len #[J0]) V4) (.nt (.tst (.bi (.isin "tuple") #[.ix J0 V1]))))) (.ret (.con (D.bl Δ)) .nil) .nil (.ifS (.or (.nt (.tst (.all (.comp 1 [] [0] (.val (.ix J0 V1)) (.tst (.con (D.bl Γ))) (.call 17 0 #[J0]))))) (.nt (.tst (.all (.comp 1 [0] [0] (.val (.lst #[V0,V2,V3])) (.tst (.con (D.bl Γ))) (.call 17 0 #[.ix J1 J0])))))) (.ret (.con (D.bl Δ)) .nil) .nil (.asgT [3,4,5,6] J0 (.ifS (.or (.cmp .Lt J5 V0) (.or (.cmp .GtE J5 (.bin .Mult V2 J1)) (.or (.cmp .NotEq (.bi .len #[J4]) J3) (.or (.cmp .Lt J3 V1) (.cmp .NotEq (.ix J4 V0) J2))))) (.ret (.con (D.bl Δ)) .nil) .nil (.ifS (.or (.cmp .NotEq (.lenset (.val J4)) J3) (.cmp .In (.bin .Mod J5 J1) J4)) (.ret (.con (D.bl Δ)) .nil) .nil (.ret (.all (.comp 1 [1] [0] (.val J4) (.tst (.con (D.bl Γ))) (.and (.cmp .LtE V0 J0) (.cmp .Lt J0 J1)))) .nil)))))),Ψ⟩
noncomputable def zc5:Fn:=⟨4,5,(.asg 4 (.lst #[.call 16 0 #[J0,J1,.bin .Mod J3 J0],.call 16 0 #[J0,J1,J2]]) (.ifS (.or (.cmp .Eq J4 (.lst #[V1,V2])) (.cmp .Eq J4 (.lst #[V2,V1]))) (.ret (.bin .Add (.bin .Mult (.bin .Sub V1 (.bin .FloorDiv J3 J0)) J0) J2) .nil) .nil (.ret (.bin .Add (.bin .Mult (.bin .FloorDiv J3 J0) J0) J2) .nil))),Ψ⟩
noncomputable def zd3:Fn:=⟨2,5,(.asg 2 V0 (.asg 3 V1 (.forS [4] (.rng1 J1) (.asg 3 (.bin .Mult J3 (.bi .max2 #[V0,.bin .Sub (.bin .Sub J0 V1) J4])) (.asg 2 (.bin .Add J2 J3) .nil)) (.ret (.bin .Mult V2 J2) .nil)))),Ψ⟩
noncomputable def c_law:Fn:=⟨1,18,(.asgT [1,2,3,4,5,6] (.call 15 0 #[J0]) (.asg 7 (.mk 1 26 "Ring" 0 #[.con (D.str "oral"),J2,J3,J4,J5,J6]) (.asg 8 (.meth "letters" [(1,29)] J7 .nil) (.ifS (.or (.nt (.tst (.bi (.isin "list") #[J8]))) (.cmp .NotEq (.bi .len #[J8]) (.call 20 0 #[J2,.bin .Add J3 V1]))) (.ret (.con (D.bl Δ)) .nil) .nil (.asg 9 .dnew3 (.asg 10 (.tup #[V0,.tup .nil,V0]) (.forS [11] (.val J8) (.ifS (.or (.nt (.tst (.call 18 0 #[J11,J2,J4]))) (.or (.cmp .LtE (.sl J11 Δ Γ (.con .non) V3) J10) (.cmp .Gt (.ix J11 V0) (.bin .Add J3 V1)))) (.ret (.con (D.bl Δ)) .nil) .nil (.asgT [12,13,14,15] J11 (.asg 10 (.sl J11 Δ Γ (.con .non) V3) (.setIx J9 J10 J15 (.asg 16 (.call 19 0 #[J2,J4,.ix J13 (.neg V1),J14]) (.ifS (.and (.cmp .Eq J12 V1) (.cmp .NotEq J15 (.ix (.lst #[J5,J6]) (.bin .FloorDiv J16 J2)))) (.ret (.con (D.bl Δ)) .nil) .nil (.ifS (.and (.cmp .Gt J12 V1) (.cmp .NotEq J15 (.dgN J9 (.tup #[.bin .Sub J12 V1,.sl J13 Δ Γ (.con .non) (.neg V1),J16])))) (.ret (.con (D.bl Δ)) .nil) .nil .nil))))))) (.asg 17 (.mkL (.val J8)) (.expr (.clr J8) (.ret (.cmp .Eq (.meth "letters" [(1,29)] J7 .nil) J17) .nil)))))))))),Ψ⟩
noncomputable def zbR:Fn:=⟨6,6,(.expr (.callC 33 "Hand" "__init__" #[J0,J1,J2,J3]) (.setF J0 "sender" J4 (.setF J0 "word" J5 (.setF J0 "notes" .dnewT .nil)))),Ψ⟩
noncomputable def zbS:Fn:=⟨3,5,(.forS [3,4] (.val J2) (.expr (.dsetd (.fld J0 "notes") J3 (.ite (.cmp .Is J4 (.con D.non)) V0 J4)) .nil) .nil),Ψ⟩
noncomputable def zaM:Fn:=⟨3,4,(.asg 3 (.bin .Add J1 (.tup #[.fld J0 "number"])) (.ret (.mkL (.comp 1 [3,2] [0] (.rng1 (.fld J0 "many")) (.cmp .NotIn J0 J1) (.tup #[J1,J0,J2]))) .nil)),Ψ⟩
noncomputable def zcc:Fn:=⟨2,4,(.ifS (.cmp .Eq J1 V1) (.ret (.ite (.cmp .Eq (.fld J0 "number") (.fld J0 "sender")) (.meth "letters_with" [(0,24)] J0 #[.tup .nil,.fld J0 "word"]) (.lst .nil)) .nil) .nil (.asg 2 (.lst .nil) (.forS [3] (.val (.call 9 0 #[.fld J0 "many",.fld J0 "sender",.bin .Sub J1 V1,.fld J0 "number"])) (.expr (.extv J2 (.meth "letters_with" [(0,24)] J0 #[J3,.dget2 (.fld J0 "notes") J3 V0])) .nil) (.ret J2 .nil)))),Ψ⟩
noncomputable def c_Ring_init:Fn:=⟨7,8,(.setF J0 "way" (.call 12 0 #[J1]) (.setF J0 "bound" (.call 3 0 #[J3,V1,V2]) (.setF J0 "many" (.call 3 0 #[J2,V3,.bin .Mult V3 J3]) (.setF J0 "sender" (.call 4 0 #[J4,J2]) (.setF J0 "one" (.call 5 0 #[J5]) (.setF J0 "other" (.call 5 0 #[J6]) (.ifS (.cmp .Eq J6 J5)
 .stop .nil (.asg 7 (.bin .Add (.meth "hands_with" [(1,28)] J0 #[J5]) (.meth "hands_with" [(1,28)] J0 #[J6])) (.setF J0 "sent" (.callW 6 0 #[J7,.fld (.ix J7 V0) "rounds",.meth "wires" [(1,31)] J0 .nil]) .nil))))))))),Ψ⟩
noncomputable def zbQ:Fn:=⟨2,2,(.ret (.bin .Mod (.bin .Mod (.bin .Sub J1 (.fld J0 "sender")) (.fld J0 "many")) V3) .nil),Ψ⟩
noncomputable def zbp:Fn:=⟨2,2,(.ifS (.cmp .Eq (.fld J0 "way") (.con (D.str "oral"))) (.ret (.call 11 0 #[.fld J0 "many",.bin .Add (.fld J0 "bound") V1,.fld J0 "sender",J1]) .nil) .nil
 .stop),Ψ⟩
noncomputable def zcb:Fn:=⟨1,1,(.ret (.mkL (.val (.fld J0 "sent"))) .nil),Ψ⟩
noncomputable def zbz:Fn:=⟨3,5,(.asg 3 (.bin .FloorDiv J1 (.fld J0 "many")) (.asg 4 (.srt (.lst #[.meth "group_of" [(1,27)] J0 #[.bin .Mod J1 (.fld J0 "many")],.meth "group_of" [(1,27)] J0 #[J2]])) (.ifS (.cmp .Eq J4 (.lst #[V1,V2])) (.asg 3 (.bin .Sub V1 J3) .nil) .nil (.ret (.bin .Add (.bin .Mult J3 (.fld J0 "many")) J2) .nil)))),Ψ⟩
noncomputable def zc7:Fn:=⟨1,1,(.ret (.mkL (.comp 1 [0] [0] (.rng1 (.bin .Mult V2 (.fld J0 "many"))) (.tst (.con (D.bl Γ))) (.meth "wires_at" [(1,32)] J1 #[J0]))) .nil),Ψ⟩
noncomputable def zbP:Fn:=⟨2,2,(.ret (.mkL (.comp 1 [1,0] [0] (.rng1 (.fld J0 "many")) (.tst (.con (D.bl Γ))) (.meth "place_for" [(1,30)] J2 #[J1,J0]))) .nil),Ψ⟩
noncomputable def zd4:Fn:=⟨4,4,(.setF J0 "number" J1 (.setF J0 "many" J2 (.setF J0 "rounds" J3 .nil))),Ψ⟩
noncomputable def prog:List Fn:=[zeu,zgg,zgf,zev,zgh,zge,c_run,c_said_in,c_deliver,zg3,zc4,zc3,zia,zcC,zcS,zcn,zd2,zd1,zc6,zc5,zd3,c_law,zbR,zbS,zaM,zcc,c_Ring_init,zbQ,zbp,zcb,zbz,zc7,zbP,zd4]
noncomputable def top(i:Nat):Stmt:=PySem.Challenge.pw_traitorround_k73_oral_rings.main.body.getD i (.Pass ⟨0,0,0,0⟩)
noncomputable abbrev zgB:Stmt:=top 12
noncomputable abbrev zit:Stmt:=top 13
noncomputable abbrev zis:Stmt:=top 14
noncomputable abbrev zgC:Stmt:=top 15
noncomputable abbrev ziu:Stmt:=top 16
noncomputable abbrev ziq:Stmt:=top 17
noncomputable abbrev zhD:Stmt:=top 26
noncomputable abbrev zir:Stmt:=top 27
noncomputable abbrev ziv:Stmt:=top 28
noncomputable abbrev zdj:Stmt:=top 41
noncomputable abbrev zeM:Stmt:=top 42
noncomputable abbrev zeL:Stmt:=top 57
noncomputable abbrev zbE:Stmt:=top 63
noncomputable abbrev zd8:Stmt:=top 66
noncomputable abbrev zgA:Stmt:=top 67
noncomputable abbrev zfw:Stmt:=top 68
noncomputable abbrev zfv:Stmt:=top 69
noncomputable abbrev zfu:Stmt:=top 70
noncomputable abbrev zeO:Stmt:=top 71
noncomputable abbrev zeN:Stmt:=top 72
noncomputable abbrev zfx:Stmt:=top 73
noncomputable abbrev zqE:Stmt:=top 74
noncomputable def zdg(s:Stmt)(j:Nat):Stmt:=match s with|.ClassDef _ _ _ b _ _ _ _ _ _ _=>b.getD j (.Pass ⟨0,0,0,0⟩)|s=>s
noncomputable abbrev zdc:Stmt:=zdg (top 55) 0
noncomputable abbrev zdd:Stmt:=zdg (top 55) 3
noncomputable abbrev zbl:Stmt:=zdg (top 55) 2
noncomputable abbrev zdF:Stmt:=zdg (top 55) 1
noncomputable abbrev zfy:Stmt:=zdg (top 62) 0
noncomputable abbrev zdb:Stmt:=zdg (top 62) 2
noncomputable abbrev zct:Stmt:=zdg (top 62) 1
noncomputable abbrev zdE:Stmt:=zdg (top 62) 8
noncomputable abbrev zcL:Stmt:=zdg (top 62) 7
noncomputable abbrev zeP:Stmt:=zdg (top 62) 5
noncomputable abbrev zda:Stmt:=zdg (top 62) 6
noncomputable abbrev zfz:Stmt:=zdg (top 22) 0
noncomputable instance mks:R.Mks:={ts:=[(287,"run.<locals>.<lambda>")],cl:=[622,770]}
noncomputable def tab:Tab:=⟨["abs","all","bool","enumerate","int","isinstance","len","list","max","range","set","sorted","tuple"],[("STILL",(D.int 0)),("LONGEST",(D.int 7)),("MOST_HANDS",(D.int 7)),("GREATEST_BOUND",(D.int 5)),("LAST_TURN",(D.int 30)),("MOST_ROUNDS",(D.int 8)),("LAST_PLAY",(D.int 2))],("is_whole",["thing"],0)::("is_hand",["thing","many"],0)::("is_word",["thing"],0)::("count_of",["thing","least","greatest"],0)::("hand_of",["thing","many"],0)::("word_of",["thing"],0)::("run",["hands","rounds","wires"],1)::("said_in",["turn","hands","wires"],0)::("deliver",["turn","hands","said"],0)::("paths",["many","sender","length","without"],1)::("lengthened",["shorter","many","without"],0)::("oral_hands",["many","rounds","sender","word"],0)::("way_of",["thing"],0)::("_law_cell_at",["_law_script","_law_k"],0)::("_law_word",["_law_cell"],0)::("_law_drawn",["_law_script"],0)::("_law_group",["_law_many","_law_sender","_law_hand"],0)::("_law_whole",["_law_found"],0)::("_law_letter",["_law_found","_law_many","_law_sender"],0)::("_law_writer",["_law_many","_law_sender","_law_hand","_law_place"],0)::("_law_count",["_law_many","_law_rounds"],0)::("law",["_law_script"],0)::[],["OralHand","Ring"],["number","many","rounds","sender","word","notes","way","bound","one","other","sent"],[(1,"group_of",27),(1,"hands_with",28),(0,"hear",23),(1,"letters",29),(0,"letters_with",24),(1,"place_for",30),(0,"say",25),(1,"wires",31),(1,"wires_at",32)],[(0,22,0),(1,26,0)],[("Hand","__init__",33)],[],["hands","rounds","wires","letters","turn","said"],287⟩
theorem zps:WaySt zbE:=⟨⟨_,_,_,_,_,_,_,_,_,_,_,_,_,rfl⟩,⟨rfl,rfl,rfl,by decide +kernel,rfl,by decide +kernel,by decide +kernel⟩,rfl,rfl,rfl,rfl⟩
theorem O21:OkD tab prog 0 "is_whole" "is_whole" ["thing"] zgB:=zar ["thing"] rfl (by decide +kernel) λ_ _ _ _ _ _=>usS λ_=>usZ rfl
theorem O26:OkD tab prog 1 "is_hand" "is_hand" ["thing","many"] zit:=zar ["thing","many"] rfl (by decide +kernel) λ_ _ _ _ _ _=>usS λ_=>usS λ_=>usZ rfl
theorem O24:OkD tab prog 2 "is_word" "is_word" ["thing"] zis:=zar ["thing"] rfl (by decide +kernel) λ_ _ _ _ _ _=>usS λ_=>usZ rfl
theorem O22:OkD tab prog 3 "count_of" "count_of" ["thing","least","greatest"] zgC:=zar ["thing","least","greatest"] rfl (by decide +kernel) λ_ _ _ _ _ _=>usS λ_=>usS λ_=>usS λ_=>usZ rfl
theorem O27:OkD tab prog 4 "hand_of" "hand_of" ["thing","many"] ziu:=zar ["thing","many"] rfl (by decide +kernel) λ_ _ _ _ _ _=>usS λ_=>usS λ_=>usZ rfl
theorem O28:OkD tab prog 5 "word_of" "word_of" ["thing"] ziq:=zar ["thing"] rfl (by decide +kernel) λ_ _ _ _ _ _=>usS λ_=>usZ rfl
theorem O31:OkL tab prog 6 "run" ["hands","rounds","wires"] 1 zhD:=zre (F:=c_run) rfl rfl (by decide +kernel)
theorem O25:OkD tab prog 7 "said_in" "said_in" ["turn","hands","wires"] zir:=zar ["turn","hands","wires","said","place","hand","path","to","word"] rfl (by decide +kernel) λ_ _ _ _ _ _=>usS λ_=>usS λ_=>usS λ_=>usZ rfl
theorem O29:OkD tab prog 8 "deliver" "deliver" ["turn","hands","said"] ziv:=zar ["turn","hands","said","boxes","letter","place","hand"] rfl (by decide +kernel) λ_ _ _ _ _ _=>usS λ_=>usS λ_=>usS λ_=>usZ rfl
theorem O30:OkE tab prog 9 ["many","sender","length","without"] zdj:=zrf (F:=zg3) ["many","sender","length","without","found","step"] rfl (by decide +kernel)
theorem O10:OkD tab prog 10 "lengthened" "lengthened" ["shorter","many","without"] zeM:=zar ["shorter","many","without","longer","path"] rfl (by decide +kernel) λ_ _ _ _ _ _=>usS λ_=>usS λ_=>usS λ_=>usZ rfl
theorem O13:OkD tab prog 11 "oral_hands" "oral_hands" ["many","rounds","sender","word"] zeL:=zar ["many","rounds","sender","word"] rfl (by decide +kernel) λ_ _ _ _ _ _=>usS λ_=>usS λ_=>usS λ_=>usS λ_=>usZ rfl
theorem O9:OkD tab prog 13 "_law_cell_at" "_law_cell_at" ["_law_script","_law_k"] zd8:=zar ["_law_script","_law_k"] rfl (by decide +kernel) λ_ _ _ _ _ _=>usS λ_=>usS λ_=>usZ rfl
theorem O23:OkD tab prog 14 "_law_word" "_law_word" ["_law_cell"] zgA:=zar ["_law_cell"] rfl (by decide +kernel) λ_ _ _ _ _ _=>usS λ_=>usZ rfl
theorem O16:OkD tab prog 15 "_law_drawn" "_law_drawn" ["_law_script"] zfw:=zar ["_law_script","_law_cell","_law_bound","_law_many","_law_one","_law_other"] rfl (by decide +kernel) λ_ _ _ _ _ _=>usS λ_=>usZ rfl
theorem O18:OkD tab prog 16 "_law_group" "_law_group" ["_law_many","_law_sender","_law_hand"] zfv:=zar ["_law_many","_law_sender","_law_hand"] rfl (by decide +kernel) λ_ _ _ _ _ _=>usS λ_=>usS λ_=>usS λ_=>usZ rfl
theorem O19:OkD tab prog 17 "_law_whole" "_law_whole" ["_law_found"] zfu:=zar ["_law_found"] rfl (by decide +kernel) λ_ _ _ _ _ _=>usS λ_=>usZ rfl
theorem O14:OkD tab prog 18 "_law_letter" "_law_letter" ["_law_found","_law_many","_law_sender"] zeO:=zar ["_law_found","_law_many","_law_sender","_law_turn","_law_path","_law_place","_law_word_here"] rfl (by decide +kernel) λ_ _ _ _ _ _=>usS λ_=>usS λ_=>usS λ_=>usZ rfl
theorem O12:OkD tab prog 19 "_law_writer" "_law_writer" ["_law_many","_law_sender","_law_hand","_law_place"] zeN:=zar ["_law_many","_law_sender","_law_hand","_law_place","_law_both"] rfl (by decide +kernel) λ_ _ _ _ _ _=>usS λ_=>usS λ_=>usS λ_=>usS λ_=>usZ rfl
theorem O20:OkD tab prog 20 "_law_count" "_law_count" ["_law_many","_law_rounds"] zfx:=zar ["_law_many","_law_rounds","_law_total","_law_part","_law_k"] rfl (by decide +kernel) λ_ _ _ _ _ _=>usS λ_=>usS λ_=>usZ rfl
theorem O32:OkD tab prog 21 "law" "law" ["_law_script"] zqE:=zar ["_law_script","_law_way","_law_many","_law_bound","_law_sender","_law_one","_law_other","_law_ring","_law_found","_law_known","_law_before","_law_letter_here","_law_turn","_law_path","_law_place","_law_word_here","_law_writer_here","_law_kept"] rfl (by decide +kernel) λ_ _ _ _ _ _=>usS λ_=>usZ rfl
theorem O3:OkD tab prog 22 "__init__" "OralHand.__init__" ["self","number","many","rounds","sender","word"] zdc:=zar ["self","number","many","rounds","sender","word"] rfl (by decide +kernel) λ_ _ _ _ _ _=>usS λ_=>usS λ_=>usS λ_=>usS λ_=>usS λ_=>usS λ_=>usZ rfl
theorem O5:OkD tab prog 23 "hear" "OralHand.hear" ["self","turn","letters"] zdd:=zar ["self","turn","letters","path","word"] rfl (by decide +kernel) λ_ _ _ _ _ _=>usS λ_=>usS λ_=>usS λ_=>usZ rfl
theorem O0:OkD tab prog 24 "letters_with" "OralHand.letters_with" ["self","path","word"] zbl:=zar ["self","path","word","longer"] rfl (by decide +kernel) λ_ _ _ _ _ _=>usS λ_=>usS λ_=>usS λ_=>usZ rfl
theorem O7:OkD tab prog 25 "say" "OralHand.say" ["self","turn"] zdF:=zar ["self","turn","letters","path"] rfl (by decide +kernel) λ_ _ _ _ _ _=>usS λ_=>usS λ_=>usZ rfl
theorem O15:OkD tab prog 26 "__init__" "Ring.__init__" ["self","way","many","bound","sender","one","other"] zfy:=zar ["self","way","many","bound","sender","one","other","hands"] rfl (by decide +kernel) λ_ _ _ _ _ _=>usS λ_=>usS λ_=>usS λ_=>usS λ_=>usS λ_=>usS λ_=>usS λ_=>usZ rfl
theorem O4:OkD tab prog 27 "group_of" "Ring.group_of" ["self","hand"] zdb:=zar ["self","hand"] rfl (by decide +kernel) λ_ _ _ _ _ _=>usS λ_=>usS λ_=>usZ rfl
theorem O1:OkD tab prog 28 "hands_with" "Ring.hands_with" ["self","word"] zct:=zar ["self","word"] rfl (by decide +kernel) λ_ _ _ _ _ _=>usS λ_=>usS λ_=>usZ rfl
theorem O8:OkD tab prog 29 "letters" "Ring.letters" ["self"] zdE:=zar ["self"] rfl (by decide +kernel) λ_ _ _ _ _ _=>usS λ_=>usZ rfl
theorem O2:OkD tab prog 30 "place_for" "Ring.place_for" ["self","place","reader"] zcL:=zar ["self","place","reader","double","apart"] rfl (by decide +kernel) λ_ _ _ _ _ _=>usS λ_=>usS λ_=>usS λ_=>usZ rfl
theorem O11:OkD tab prog 31 "wires" "Ring.wires" ["self"] zeP:=zar ["self"] rfl (by decide +kernel) λ_ _ _ _ _ _=>usS λ_=>usZ rfl
theorem O6:OkD tab prog 32 "wires_at" "Ring.wires_at" ["self","place"] zda:=zar ["self","place"] rfl (by decide +kernel) λ_ _ _ _ _ _=>usS λ_=>usS λ_=>usZ rfl
theorem O17:OkD tab prog 33 "__init__" "Hand.__init__" ["self","number","many","rounds"] zfz:=zar ["self","number","many","rounds"] rfl (by decide +kernel) λ_ _ _ _ _ _=>usS λ_=>usS λ_=>usS λ_=>usS λ_=>usZ rfl
end
section
open R
theorem plen(S:R.St)(o:MO):(S.push o).len=S.len+1:=by simp[St.push,St.len];lia
noncomputable abbrev pD(p:List Int):D:=.tup (p.map .int)
theorem zpo{P:List Fn}{F:Fn}{f n:Nat}{ds rs:List D}{S:R.St}(h:P[f]?=Φ F)(b:ds.length=F.np)(w:W (exS (callF P n) F.body (zaB F ds) S.enter) λr T=>∃l,r=.rt (.ref l)/\S.len<=l/\T.get l=Φ (.lst rs)/\flats S.len rs=Γ)(c:F.prim=Ψ:=by rfl) :
  app (callF P (n+1)) f ds S=.ok (.ref S.len) (S.push (.lst rs)):=by
 refine W.eq ?_;rw[zk4 h b c,zaa];refine w.mono λr T q=>?_;obtain⟨l,rfl,d,e,g⟩:=q;have:=zdr (Q:=λa i=>a=.ref S.len/\i=S.push (.lst rs)) d e g ⟨rfl,rfl⟩;unfold wFin at this;exact this
theorem zti{P:List Fn}{F:Fn}{f n:Nat}{ds:List D}{S b:R.St}{d:D}(h:P[f]?=Φ F)(c:ds.length=F.np)(w:W (exS (callF P n) F.body (zaB F ds) S.enter) λr T=>wFin S r T λa e=>a=d/\e=b)(g:F.prim=Ψ:=by rfl) :
  app (callF P (n+1)) f ds S=.ok d b:=by
 refine W.eq ?_;rw[zk4 h c g,zaa];refine w.mono λr T q=>?_;unfold wFin at q;exact q
theorem zdo{cf:CF}{g:List Nat}{l:CL}{b r:CS}{δ:Ev}{S a:R.St}{xs:List D}{e:List Nat}{Q:Fl->R.St->Prop}(h:evL cf l δ S=.ok (xs,e) a)
  (w:W (zaV g (exS cf b) xs δ {a with lk:=e++a.lk}) λf T=>match f with|.nx c=>W (exS cf r c {T with lk:=a.lk}) Q|.rt d=>Q (.rt d) {T with lk:=a.lk}):W (exS cf (.forS g l b r) δ S) Q:=by
 show W (Out.bind _ _) _;rw[h,za2];unfold za7;dsimp only;rw[zaa,zaa];refine w.mono λf T i=>?_;rw[W_ok];cases f with|nx c=>exact i|rt d=>exact i
theorem zdy{n:Nat}{S:R.St}{ns:List Int}{k:Nat}:app (callF prog (n+1)) 13 [.fix (ns.map .int),.int k] S=.ok (.int (zbo ns k)) S:=by
 refine zaX (F:=zcC) rfl rfl ?_;left;refine zi7 (λc=>?_) (λc=>?_);have c:k<ns.length:=by simpa using c
 left;exists zg6 (x:=D.int ns[k]) (by simp[c]);left;change by decide
 left;change by decide
 left;refine zao rfl ⟨?_,rfl⟩;unfold zbo;rw[getElem?_eq_getElem c];rfl;have c:¬k<ns.length:=by simpa using c
 left;refine zao rfl ⟨?_,rfl⟩;unfold zbo;rw[List.getElem?_eq_none (by lia)]
theorem zo7(N:Nat)(p:List Int):flat N (pD p)=Γ:=by simp[zbM]
theorem zeH{n:Nat}{S:R.St}{i:Int}:app (callF prog (n+1)) 0 [.int i] S=.ok (.bl Γ) S:=by refine zaX (F:=zeu) rfl rfl ?_;left;exists(show tyOf S.enter (.int i)=Φ "int" from rfl);left;exists(show tyOf S.enter (.int i)=Φ "int" from rfl);left;exact zao rfl ⟨rfl,rfl⟩
theorem zm3{n:Nat}{S:R.St}{i m:Int}(h:0<=i/\i<m):app (callF prog (n+2)) 1 [.int i,.int m] S=.ok (.bl Γ) S:=by refine zaX (F:=zgg) rfl rfl ?_;left;specialize zeH (n:=n);left;refine zgq (by simpa using h.1) ?_;left;exact zao rfl ⟨by simp[h.2],rfl⟩
theorem zqo{n:Nat}{S:R.St}{i:Int}(h:-10^60<i/\i<10^60):app (callF prog (n+2)) 2 [.int i] S=.ok (.bl Γ) S:=by
 refine zaX (F:=zgf) rfl rfl ?_;left;specialize zeH (n:=n);left;right;left;refine zao rfl ⟨?_,rfl⟩;have:(if i<0 then -i else i)<(10:Int)^60:=by have a:=h.1;have b:=h.2;split<;>omega
 rw[show Int.toNat 60=60 from rfl,decide_eq_true this]
theorem zjt{n:Nat}{S:R.St}{i lo hi:Int}(a:lo<=i)(b:i<=hi):app (callF prog (n+2)) 3 [.int i,.int lo,.int hi] S=.ok (.int i) S:=by refine zaX (F:=zev) rfl rfl ?_;left;specialize zeH (n:=n);left;refine zgq (by simpa using a) ?_;left;refine zb7 (by simpa using b) ?_;left;exact zao rfl ⟨rfl,rfl⟩
theorem zlD{n:Nat}{S:R.St}{i m:Int}(h:0<=i/\i<m):app (callF prog (n+3)) 4 [.int i,.int m] S=.ok (.int i) S:=by refine zaX (F:=zgh) rfl rfl ?_;left;specialize zm3 (n:=n) h;left;exact zao rfl ⟨rfl,rfl⟩
theorem zrA(S:R.St)(x:Int)(ks:List Int):cmpO S .In (.int x) (.tup (ks.map .int))=Φ (decide (x∈ks)):=zhW S x ks
theorem zoO{S:R.St}{l:Nat}{ks:List Int}(h:S.get l=Φ (.lst (ks.map .int))):lstI S (.ref l)=Φ ks:=by unfold lstI;dsimp only;rw[h];exact zbw ks
theorem zhq{n:Nat}{S:R.St}{i:Int}(h:-10^60<i/\i<10^60):app (callF prog (n+3)) 5 [.int i] S=.ok (.int i) S:=by refine zaX (F:=zge) rfl rfl ?_;left;specialize zqo (n:=n) h;left;exact zao rfl ⟨rfl,rfl⟩
section
variable{S:R.St}{a l:Nat}{m b i s k:Int}{w h:Option Int}
theorem zay{c:Nat}{d:List (PySem.Str×D)}(e:S.get a=Φ (.ins c d)):zcj S (.ref a)=Φ (c,d):=by unfold zcj;dsimp only;rw[e]
theorem zaK{c:Nat}{d:List (PySem.Str×D)}{f:PySem.Str}{v:D}(e:S.get a=Φ (.ins c d))(g:d.lookup f=Φ v):((zcj S (.ref a)).bind λp=>p.2.lookup f)=Φ v:=by rw[zay e];exact g
theorem zbU{P:List Fn}{F:Fn}{f n:Nat}{ds:List D}{S:R.St}{Q:D->R.St->Prop}(h:P[f]?=Φ F)(c:ds.length=F.np)(w:W (exS (callF P n) F.body (zaB F ds) S) λr T=>match r with|.nx _=>Q .non T|.rt d=>Q d T)(e:F.prim=Ψ:=by rfl):W (appW (callF P (n+1)) f ds S) Q:=by unfold appW;simp only[callF,h,c,e,if_true,zaa];refine w.mono λr T q=>?_;cases r<;>exact q
theorem zg8{P:List Fn}{F:Fn}{f n:Nat}{ds:List D}{S c:R.St}{d:D}(h:P[f]?=Φ F)(e:ds.length=F.np)(w:wS (callF P n) F.body (zaB F ds) S λr T=>match r with|.nx _=>D.non=d/\T=c|.rt z=>z=d/\T=c)(g:F.prim=Ψ:=by rfl):appW (callF P (n+1)) f ds S=.ok d c:=by refine W.eq (zbU h e ((wS_W _ w).mono λr T q=>?_) g);cases r<;>exact q
end
structure Mv(A:List Nat)(S T:R.St):Prop where
 frz:T.frz=S.frz
 lk:T.lk=S.lk
 len:S.len<=T.len
 old:∀m o,m∉A->S.get m=Φ o->T.get m=Φ o
theorem Mv.refl(A:List Nat)(S:R.St):Mv A S S:=⟨rfl,rfl,le_refl _,λ_ _ _ h=>h⟩
theorem Mv.trans{A:List Nat}{S T U:R.St}(a:Mv A S T)(b:Mv A T U):Mv A S U:=⟨b.frz.trans a.frz,b.lk.trans a.lk,le_trans a.len b.len,λm o h e=>b.old m o h (a.old m o h e)⟩
theorem Mv.push(A:List Nat)(S:R.St)(o:MO):Mv A S (S.push o):=⟨rfl,rfl,by rw[plen];lia,λ_ _ _ e=>zae e⟩
theorem Mv.up{A B:List Nat}{S T:R.St}(h:Mv A S T)(s:∀m,m∈A->m∈B):Mv B S T:=⟨h.frz,h.lk,h.len,λm o a e=>h.old m o (λz=>a (s m z)) e⟩
theorem get_lt{S:R.St}(h:S.get l=Φ o):l<S.len:=by unfold St.get at h;unfold St.len;split at h;lia;have:=(Α.mp h).1;lia
structure Fr(S:R.St)(a:Nat):Prop where
 f:S.frz.length<=a
 k:S.lk.contains a=Δ
theorem Fr.mv{A:List Nat}{S T:R.St}{a:Nat}(h:Fr S a)(v:Mv A S T):Fr T a:=⟨by rw[v.frz];exact h.f,by rw[v.lk];exact h.k⟩
theorem zbk{S:R.St}{a c:Nat}{b gs:List (PySem.Str×D)}{f:PySem.Str}{v:D}(e:S.get a=Φ (.ins c b))(d:Fr S a)(g:b.length<1000)(h:zjF f v b=gs):∃T,zb9 S (.ref a) f v=Φ T/\Mv [a] S T/\T.get a=Φ (.ins c gs):=by obtain⟨T,i,j,k,r,n,p⟩:=zeQ (S:=S) (l:=a) (.ins c gs) d.f d.k;refine⟨T,?_,⟨j,k,by lia,λm o q e=>by rw[n m (by simpa using q)];exact e⟩,p (get_lt e)⟩;unfold zb9;dsimp only;rw[e];dsimp only;rw[if_pos g,h,i]
theorem zcv{T:R.St}{N:Nat}(a:∀l∈T.lk,l<N)(b:N<=T.len):T.lk.contains T.len=Δ:=by rw[Bool.eq_false_iff];intro z;have:=a _ (List.contains_iff_mem.mp z);lia
structure Row where
 p:List Int
 to:Int
 w:D
noncomputable def rD(r:Row):D:=.tup [pD r.p,.int r.to,r.w]
noncomputable def leD(t:Int)(r:Row):D:=.tup [.int t,pD r.p,.int r.to,r.w]
noncomputable abbrev Bxl:=List Int×D
noncomputable def bxD(x:Bxl):D:=.tup [pD x.1,x.2]
noncomputable def key(r:Row):K3:=(0,r.p,r.to)
structure Town where
 H:Type
 m:Nat
 who:Nat->Nat
 adr:Nat->List Nat
 ok:R.St->Nat->Nat->H->Prop
 say:Nat->Int->H->List Row
 hear:Nat->Int->H->List Bxl->H
 lt:Bxl->Prop
 tt:Int->Prop
 wr:Nat
 la:Nat->Nat
 nh:Nat
 rt:Nat->Int->Int
 mx:Nat
noncomputable def Town.go(V:Town)(k:Nat)(r:Row):Row:=⟨r.p,V.rt k r.to,r.w⟩
structure Town.wok(V:Town)(S:R.St):Prop where
 w:S.get V.wr=Φ (.lst ((List.range V.m).map λj=>.ref (V.la j)))
 l:∀j,j<V.m->S.get (V.la j)=Φ (.lst ((List.range V.nh).map λ(o:Nat)=>.int (V.rt j o)))
theorem Town.wok.up{V:Town}{S T:R.St}(h:V.wok S)(u:∀o,S.get V.wr=Φ o->T.get V.wr=Φ o)(v:∀j,j<V.m->∀o,S.get (V.la j)=Φ o->T.get (V.la j)=Φ o):V.wok T:=⟨u _ h.w,λj a=>v j a _ (h.l j a)⟩
noncomputable def saT:List (Nat×Nat):=[(0,25)]
noncomputable def heT:List (Nat×Nat):=[(0,23)]
noncomputable def Town.said(V:Town)(t:Int):Nat->List V.H->List Row
 |_,[]=>[]|k,h::a=>(V.say k t h).map (V.go k)++V.said t (k+1) a
structure TownOk(V:Town)(q:Nat):Prop where
 dep:∀{S T:R.St}{d j:Nat}{h:V.H},V.ok S d j h->(∀z∈V.adr j,∀o,S.get z=Φ o->T.get z=Φ o)->V.ok T d j h
 has:∀{S:R.St}{d j:Nat}{h:V.H},V.ok S d j h->∀z∈V.adr j,∃o,S.get z=Φ o
 say:∀{S:R.St}{d j:Nat}{h:V.H}(t:Int)(n:Nat),V.tt t->(∀l∈S.lk,l<S.len)->j<V.m->V.ok S d j h->∃c fs f,S.get (V.who j)=Φ (.ins c fs)/\saT.lookup c=Φ f/\fs.lookup ("say":PySem.Str)=Ψ/\
  W (appW (callF prog (n+q)) f [.ref (V.who j),.int t] S) λx T=>∃l,x=.ref l/\S.len<=l/\Mv [] S T/\T.get l=Φ (.lst ((V.say j t h).map rD))
 rto:∀(j:Nat)(t:Int)(h:V.H),∀r∈V.say j t h,∃o:Nat,o<V.nh/\r.to=(o:Nat)
 slt:∀(j:Nat)(t:Int)(h:V.H),∀r∈V.say j t h,V.lt (r.p,r.w)
 wa:∀j,V.who j∈V.adr j
 flt:∀x,V.lt x->∀N,flat N x.2=Γ
 hear:∀{S:R.St}{d j b:Nat}{h:V.H}{B:List Bxl}(t:Int)(n:Nat),j<V.m->d<=40->V.ok S d j h->(∀z∈V.adr j,Fr S z)->S.get b=Φ (.lst (B.map bxD))->b∉V.adr j->B.length<=V.mx->(∀x∈B,V.lt x)->
  ∃c fs f,S.get (V.who j)=Φ (.ins c fs)/\heT.lookup c=Φ f/\fs.lookup ("hear":PySem.Str)=Ψ/\
  W (appW (callF prog (n+q)) f [.ref (V.who j),.int t,.ref b] S) λx T=>x=.non/\Mv (V.adr j) S T/\V.ok T (d+1) j (V.hear j t h B)
 unl:∀(t:Int)(hs:List V.H),V.tt t->hs.length=V.m->((V.said t 0 hs).map key).Nodup
 few:∀(t:Int)(hs:List V.H),V.tt t->hs.length=V.m->(V.said t 0 hs).length<=V.mx
 mx:V.mx<=450
theorem Mv.lock{A:List Nat}{S T:R.St}{l:List Nat}(h:Mv A {S with lk:=l} T):Mv A S {T with lk:=S.lk}:=⟨h.frz,rfl,h.len,λm o a e=>h.old m o a e⟩
theorem zoP{T:R.St}{l:List Nat}(h:T.lk=l):({T with lk:=l}:R.St)=T:=by subst h;rfl
theorem zdG{T:R.St}{l:Nat}{o u:MO}(a:Fr T l)(e:T.get l=Φ o):∃U,T.put l u=Φ U/\Mv [l] T U/\U.get l=Φ u:=by obtain⟨U,b,c,d,i,f,g⟩:=zeQ (S:=T) (l:=l) u a.f a.k;exact⟨U,b,⟨c,d,by lia,λm x h e=>by rw[f m (by simpa using h)];exact e⟩,g (get_lt e)⟩
noncomputable abbrev Es(t:Int)(x:D)(wr l:Nat)(c d e f g:Option D):Ev:=[Φ (.int t),Φ x,Φ (.ref wr),Φ (.ref l),c,d,e,f,g]
noncomputable def sIn:CS:=.expr (.mt .append J3 #[.tup #[J0,J6,.ite (.cmp .Is J2 (.con D.non)) J7 (.ix (.ix J2 J4) J7),J8]]) .nil
theorem zpn{k m:Nat}{la:Nat->Nat}(h:k<m):R.atI ((List.range m).map λj=>D.ref (la j)) (k:Nat)=Φ (.ref (la k)):=zg6 (by simp[h])
theorem znf{cf:CF}{V:Town}{t:Int}{x:D}{l k:Nat}{d:Option D}(c:k<V.m)(q:V.wr≠l)(v:V.la k≠l):∀(rs:List Row)(a:List D)(T:R.St)(e f g:Option D),V.wok T->(∀r∈rs,∃o:Nat,o<V.nh/\r.to=(o:Nat))->T.get l=Φ (.lst a)->Fr T l->(∀j,j<V.m->V.la j≠l)->a.length+rs.length<=1000->
  W (zaV [6,7,8] (exS cf sIn) (rs.map rD) (Es t x V.wr l (Φ (.int k)) d e f g) T) λfl U=>(∃e f g,fl=.nx (Es t x V.wr l (Φ (.int k)) d e f g))/\U.get l=Φ (.lst (a++(rs.map (V.go k)).map (leD t)))/\Mv [l] T U
 | [],a,T,e,f,g,w,i,h,m,n,s=>by show W (Out.ok (Fl.nx _) T) _;rw[W_ok];exact⟨⟨e,f,g,rfl⟩,by simpa using h,Mv.refl _ _⟩| r::rs,a,T,e,f,g,w,i,h,m,n,s=>by
  simp only[Χ]at s;obtain⟨o,y,z⟩:=i r (by simp);show W (Out.bind (exS cf sIn (Es t x V.wr l (Φ (.int k)) d (Φ (pD r.p)) (Φ (.int r.to)) (Φ r.w)) T) _) _;rw[zaa];refine wS_W _ ?_;left;exists h;left;exists w.w;left;exists zpn c;left;exists w.l k c;left;have A:R.atI ((List.range V.nh).map λ(o:Nat)=>D.int (V.rt k o)) r.to=Φ (.int (V.rt k r.to)):=by rw[z];exact zg6 (by simp[y])
  exists A;left;change show 4<=16777216 by decide
  left;exists h;left;change by simp;lia
  left;obtain⟨U,B,b,C⟩:=zdG (u:=.lst (a++[leD t (V.go k r)])) m h;exists B;left;refine(znf c q v rs (a++[leD t (V.go k r)]) U _ _ _ (w.up (λ_ e=>b.old _ _ (by simpa using q) e) λj E _ e=>b.old _ _ (by simpa using n j E) e) (λr p=>i r (by simp[p])) C (m.mv b) n (by simp;lia)).mono λfl V G=>?_;obtain⟨H,I,J⟩:=G;exact⟨H,by rw[I,append_assoc];rfl,b.trans J⟩
noncomputable def sayC:CL:=.val (.meth "say" saT J5 #[J0])
theorem zn5{V:Town}{q:Nat}(X:TownOk V q){S:R.St}{n d j:Nat}{t:Int}{h:V.H}{x:D}{l:Nat}{c e f g:Option D}(tt:V.tt t)(b:∀l∈S.lk,l<S.len)(i:j<V.m)(o:V.ok S d j h) :
  W (evL (callF prog (n+q)) sayC (Es t x V.wr l c (Φ (.ref (V.who j))) e f g) S) λr T=>∃a,r=((V.say j t h).map rD,[a])/\S.len<=a/\Mv [] S T:=by
 obtain⟨B,C,k,m,p,s,w⟩:=X.say t n tt b i o;refine wL_W _ ?_;unfold sayC;left;exists zay m;left;exists p;left;change by rw[s];rfl
 left;refine zbh (w.mono λy T u=>?_);obtain⟨a,rfl,z,v,A⟩:=u;left;exists A;left;exact⟨_,rfl,z,v⟩
noncomputable def sOut:CS:=.forS [6,7,8] sayC sIn .nil
noncomputable def enW(V:Town):Nat->Nat->List D
 |_,0=>[]|k,c+1=>ziy (.int (k:Nat)) (.ref (V.who k))::enW V (k+1) c
noncomputable def whoL(V:Town):Nat->Nat->List D
 |_,0=>[]|k,c+1=>.ref (V.who k)::whoL V (k+1) c
theorem zlB{V:Town}{q:Nat}(X:TownOk V q){S:R.St}{n d j:Nat}{t:Int}{h:V.H}{x:D}{l:Nat}{e f g:Option D}{a:List D}(tt:V.tt t)(u:∀l∈S.lk,l<S.len)(c:j<V.m)(o:V.ok S d j h)(m:S.get l=Φ (.lst a))(p:Fr S l)(y:a.length+(V.say j t h).length<=1000)(w:V.wok S)(z:V.wr≠l)(s:∀j,j<V.m->V.la j≠l) :
  W (exS (callF prog (n+q)) sOut (Es t x V.wr l (Φ (.int j)) (Φ (.ref (V.who j))) e f g) S) λfl U=>(∃e f g,fl=.nx (Es t x V.wr l (Φ (.int j)) (Φ (.ref (V.who j))) e f g))/\U.get l=Φ (.lst (a++((V.say j t h).map (V.go j)).map (leD t)))/\Mv [l] S U:=by
 unfold sOut;show W (Out.bind _ _) _;rw[zaa];refine(zn5 X (n:=n) tt u c o).mono λr T A=>?_;obtain⟨b,rfl,O,v⟩:=A;have B:l≠b:=by have:=get_lt m;lia
 rw[zaa];unfold za7;rw[zaa];have C:({T with lk:=[b]++T.lk}:R.St).get l=Φ (.lst a):=v.old _ _ (by simp) m;have E:Fr ({T with lk:=[b]++T.lk}:R.St) l:=⟨by show T.frz.length<=l;rw[v.frz];exact p.f,by
  show(b::T.lk).contains l=Δ;rw[contains_cons,v.lk,p.k,Bool.or_false];simpa using B⟩
 have G:V.wok ({T with lk:=[b]++T.lk}:R.St):=w.up (λ_ e=>v.old _ _ (by simp) e) λj c _ e=>v.old _ _ (by simp) e;refine(znf (cf:=callF prog (n+q)) (V:=V) (k:=j) c z (s j c) (V.say j t h) a _ e f g G (X.rto j t h) C E s y).mono λfl U H=>?_;obtain⟨⟨I,J,L,rfl⟩,M,N⟩:=H;rw[W_ok];show W (exS (callF prog (n+q)) .nil _ _) _;(conv=>lhs;whnf);rw[W_ok];refine⟨⟨I,J,L,rfl⟩,M,?_⟩;have i:=N.lock;exact(v.up (by simp)).trans i
theorem zfr{V:Town}{q:Nat}(X:TownOk V q){n d:Nat}{t:Int}{x:D}{l:Nat}(tt:V.tt t)(b:V.wr≠l)(m:∀j,j<V.m->V.la j≠l):∀(hs:List V.H)(k:Nat)(a:List D)(T:R.St)(c e f g z:Option D),(∀l∈T.lk,l<T.len)->k+hs.length<=V.m->
  (∀i h,hs[i]?=Φ h->V.ok T d (k+i) h/\l∉V.adr (k+i))->T.get l=Φ (.lst a)->Fr T l->a.length+(V.said t k hs).length<=1000->V.wok T->
  W (zaV [4,5] (exS (callF prog (n+q)) sOut) (enW V k hs.length) (Es t x V.wr l c e f g z) T) λfl U=>(∃c d e f g,fl=.nx (Es t x V.wr l c d e f g))/\U.get l=Φ (.lst (a++(V.said t k hs).map (leD t)))/\Mv [l] T U
 | [],k,a,T,c,e,f,g,z,_,_,_,p,r,s,w=>by show W (Out.ok (Fl.nx _) T) _;rw[W_ok];exact⟨⟨c,e,f,g,z,rfl⟩,by simpa[Town.said]using p,Mv.refl _ _⟩| h::hs,k,a,T,c,e,f,g,z,u,B,y,p,r,s,w=>by simp only[Χ]at B;simp only[Town.said,length_append,length_map]at s;obtain⟨C,nr⟩:=y 0 h rfl;show W (Out.bind (exS (callF prog (n+q)) sOut (Es t x V.wr l (Φ (.int k)) (Φ (.ref (V.who k))) f g z) T) _) _;rw[zaa];refine(zlB X (n:=n) (j:=k) tt u (by lia) C p r (by lia) w b m).mono λfl U E=>?_;obtain⟨⟨e',f',g',rfl⟩,G,v⟩:=E;refine(zfr X (d:=d) tt b m hs (k+1) (a++((V.say k t h).map (V.go k)).map (leD t)) U _ _ _ _ _ (by rw[v.lk];exact λx H=>lt_of_lt_of_le (u x H) v.len) (by lia) (λi I J=>?_) G (r.mv v) (by rw[length_append,length_map,length_map];lia) (w.up (λ_ e=>v.old _ _ (by simpa using b) e) λj L _ e=>v.old _ _ (by simpa using m j L) e)).mono λfl W' M=>?_;obtain⟨N,A⟩:=y (i+1) I (by simpa using J);rw[show k+1+i=k+(i+1) by lia];refine⟨X.dep N λz O o e=>v.old _ _ ?_ e,A⟩;simp only[mem_singleton];intro Q;exact A (Q▸O);obtain⟨Y,a2,a3⟩:=M;exact⟨Y,by rw[a2,append_assoc,Town.said,map_append],v.trans a3⟩
theorem zkJ(V:Town):∀(c k:Nat),(whoL V k c).mapIdx (λi d=>ziy (.int ((i+k:Nat):Int)) d)=enW V k c
 |0,_=>rfl| c+1,k=>by rw[whoL,List.mapIdx_cons,enW,<-zkJ V c (k+1),zero_add];congr 2;funext i d;rw[show i+1+k=i+(k+1) by lia]
theorem zjo:c_said_in.body=.asg 3 (.lst .nil) (.forS [4,5] (.enum J1) sOut (.ret J3 .nil)):=rfl
theorem zgw{V:Town}{q:Nat}(X:TownOk V q)(t:Int):∀(hs:List V.H)(k:Nat),∀r∈V.said t k hs,V.lt (r.p,r.w)
 | [],_,r,a=>by cases a
 |h::hs,k,r,a=>by rw[Town.said]at a;rcases mem_append.mp a with a|a;obtain⟨c,b,rfl⟩:=mem_map.mp a;exact X.slt k t h c b;exact zgw X t hs (k+1) r a
theorem ziO{V:Town}{q:Nat}(X:TownOk V q)(N:Nat)(t:Int)(hs:List V.H)(k:Nat):flats N ((V.said t k hs).map (leD t))=Γ:=by rw[zbM];intro d b;obtain⟨r,c,rfl⟩:=mem_map.mp b;have:=X.flt _ (zgw X t hs k r c) N;unfold leD;rw[zhZ];have a:=zo7 N r.p;rw[zhZ]at a;simp only[flats,flat,a,Bool.true_and,Bool.and_true];exact this
theorem zh4{V:Town}{T:R.St}{th:Nat}(a:T.get th=Φ (.lst (whoL V 0 V.m))):zer T (.ref th)=Φ (enW V 0 V.m,[th]):=by unfold zer;dsimp only;rw[a];dsimp only;rw[<-zkJ V V.m 0];rfl
theorem zqp{V:Town}{q:Nat}(X:TownOk V q){S:R.St}{n d:Nat}{t:Int}{th:Nat}{hs:List V.H}(tt:V.tt t)(hh:hs.length=V.m)(hg:S.get th=Φ (.lst (whoL V 0 V.m)))(h1:∀(i:Nat) h,hs[i]?=Φ h->V.ok S d i h)(w:V.wok S) :
  app (callF prog (n+q+1)) 7 [.int t,.ref th,.ref V.wr] S=.ok (.ref S.len) (S.push (.lst ((V.said t 0 hs).map (leD t)))):=by
 refine zti (F:=c_said_in) rfl rfl ?_;rw[zjo];show W (Out.bind _ _) _;rw[zaa];have e3:evE (callF prog (n+q)) (.lst .nil) (zaB c_said_in [.int t,.ref th,.ref V.wr]) S.enter=.ok (.ref S.enter.len) (S.enter.push (.lst [])):=by rfl
 rw[e3,W_ok];have up:∀l o,S.get l=Φ o->(S.enter.push (.lst [])).get l=Φ o:=λl o e=>zae (by rw[zcB];exact e);have el:evL (callF prog (n+q)) (.enum J1) (Es t (.ref th) V.wr S.enter.len Ψ Ψ Ψ Ψ Ψ) (S.enter.push (.lst []))=.ok (enW V 0 V.m,[th]) (S.enter.push (.lst [])):=by show Out.bind (lift (S.enter.push (.lst [])) (Φ (D.ref th))) _=_;rw[zcw,za2,zh4 (up _ _ hg)];rfl
 refine zdo (δ:=Es t (.ref th) V.wr S.enter.len Ψ Ψ Ψ Ψ Ψ) el ?_;have lt:=get_lt hg;have f1:Fr ({S.enter.push (.lst []) with lk:=[th]++(S.enter.push (.lst [])).lk}:R.St) S.enter.len:=⟨by show(S.frz++S.new).length<=_;rw[ze6,R.enter_len];exact le_refl _,by
  show([th]:List Nat).contains _=Δ;rw[R.enter_len];simp;lia⟩
 have few:=X.few t hs tt hh;have mx:=X.mx;have nw:∀x o,S.get x=Φ o->x≠S.enter.len:=λx o e=>by have:=get_lt e;rw[R.enter_len];lia
 rw[<-hh];refine(zfr X (n:=n) (d:=d) tt (nw _ _ w.w) (λj hj=>nw _ _ (w.l j hj)) hs 0 [] {S.enter.push (.lst []) with lk:=[th]++(S.enter.push (.lst [])).lk} Ψ Ψ Ψ Ψ Ψ (λl hl=>by
  have:l=th:=by simpa[St.enter,St.push]using hl
  subst this;show _<(S.enter.push (.lst [])).len;rw[plen,R.enter_len];lia) (by lia) (λi h e2=>?_) (zag _ _) f1 (by simp;lia) (w.up (λ_ e=>up _ _ e) λj hj _ e=>up _ _ e)).mono λfl U hU=>?_
 have o:=h1 i h e2;rw[zero_add];refine⟨X.dep o λz _ o' e=>up _ _ e,λhz=>?_⟩;obtain⟨o',e⟩:=X.has o _ hz;have:=get_lt e;rw[R.enter_len]at this;lia;obtain⟨⟨c,d,e,f,g,rfl⟩,g2,v⟩:=hU;dsimp only;refine W.mono (wS_W (.ret J3 .nil) (Q:=λr T=>wFin S r T λa T'=>a=.ref S.len/\T'=S.push (.lst ((V.said t 0 hs).map (leD t)))) ?_) λr T z=>z;left;refine zdr (by rw[R.enter_len];exact le_refl _) (show({U with lk:=_}:R.St).get _=_ from g2) (by rw[List.nil_append];exact ziO X _ _ _ _) ⟨rfl,by rw[List.nil_append]⟩
theorem zel:∀p:List Int,zax (p.map .int)=Φ p
 | []=>rfl| i::p=>by have:=zel p;unfold zax at this⊢;rw[Ν,Ϣ,this];rfl
theorem zoR(t:Int)(r:Row):ze5 (leD t r)=Φ (key r):=by show(zax (r.p.map .int)).map _=_;rw[zel];rfl
theorem zka(t:Int):∀rs:List Row,(rs.map (leD t)).mapM ze5=Φ (rs.map key)
 | []=>rfl|r::rs=>by rw[Ν,Ϣ,zoR,zka t rs];rfl
theorem zhb{α:Type}{z:α}:∀{ks:List K3}{ds:List α},ks.Nodup->ks.length=ds.length->(ks.map λk=>((ks.zip ds).lookup k).getD z)=ds
 | [],[],_,_=>rfl| k::ks,d::ds,a,b=>by
  rw[nodup_cons]at a;have c:=zhb (z:=z) (ks:=ks) (ds:=ds) a.2 (by simpa using b);rw[Ν,ϐ,ϗ,beq_self_eq_true];refine congrArg (d::·) (Eq.trans (Ο λx e=>?_) c);have:(x==k)=Δ:=by rw[beq_eq_false_iff_ne];intro z;exact a.1 (z▸e)
  rw[ϗ,this]
theorem zhO{α a:Type}(f:α->a)(k:K3):∀(ks:List K3)(rs:List α),(ks.zip (rs.map f)).lookup k=((ks.zip rs).lookup k).map f
 | [],_=>rfl|_::_,[]=>rfl| j::ks,r::rs=>by rw[Ν,ϐ,ϐ,ϗ,ϗ,zhO f k ks rs];cases k==j<;>rfl
theorem zfM{α:Type}{k:K3}:∀{ks:List K3}{rs:List α},ks.length=rs.length->k∈ks->∃r,(ks.zip rs).lookup k=Φ r
 |j::ks,r::rs,a,h=>by rw[ϐ,ϗ];by_cases e:k=j;subst e;rw[beq_self_eq_true];exact⟨_,rfl⟩;rw[beq_eq_false_iff_ne.mpr e];exact zfM (by simpa using a) ((mem_cons.mp h).resolve_left e)
noncomputable def srtR(rs:List Row):List Row:=(zgu (rs.map key)).map λk=>(((rs.map key).zip rs).lookup k).getD ⟨[],0,.non⟩
theorem zbj{rs:List Row}(a:(rs.map key).Nodup):(srtR rs).Perm rs:=((za4 _).map _).trans (List.Perm.of_eq (zhb a (by rw[length_map])))
theorem zlf{t:Int}{rs:List Row}(c:(rs.map key).Nodup):srtD (rs.map (leD t)) (rs.map key)=(srtR rs).map (leD t):=by unfold srtD srtR;rw[map_map];refine Ο λk a=>?_;obtain⟨r,b⟩:=zfM (rs:=rs) (by rw[length_map]) ((za4 _).mem_iff.mp a);simp only[Function.comp,zhO,b];rfl
theorem zj4{T:R.St}{l:Nat}{t:Int}{rs:List Row}(h:T.get l=Φ (.lst (rs.map (leD t)))):zfP T (.ref l)=Φ (rs.map (leD t),rs.map key):=by unfold zfP;dsimp only;rw[h];dsimp only;rw[zka];rfl
structure Kn(N:Nat)(S T:R.St):Prop where
 frz:T.frz=S.frz
 lk:T.lk=S.lk
 len:S.len<=T.len
 old:∀l o,l<N->S.get l=Φ o->T.get l=Φ o
theorem Kn.refl(N:Nat)(S:R.St):Kn N S S:=⟨rfl,rfl,le_refl _,λ_ _ _ h=>h⟩
theorem Kn.trans{N:Nat}{S T U:R.St}(a:Kn N S T)(b:Kn N T U):Kn N S U:=⟨b.frz.trans a.frz,b.lk.trans a.lk,le_trans a.len b.len,λl o h e=>b.old l o h (a.old l o h e)⟩
theorem Kn.of{N:Nat}{A:List Nat}{S T:R.St}(v:Mv A S T)(h:∀a∈A,N<=a):Kn N S T:=⟨v.frz,v.lk,v.len,λl o b e=>v.old l o (λz=>by have:=h l z;lia) e⟩
noncomputable def box(Ls:List Row)(o:Int):List Bxl:=(Ls.filter λx=>decide (x.to=o)).map λx=>(x.p,x.w)
theorem zb6(Ls:List Row)(x:Row)(o:Int):box (Ls++[x]) o=if x.to=o then box Ls o++[(x.p,x.w)] else box Ls o:=by unfold box;rw[List.filter_append,map_append];by_cases h:x.to=o<;>simp[h]
theorem zpi(Ls:List Row)(o:Int):(box Ls o).length<=Ls.length:=by unfold box;rw[length_map];exact length_filter_le _ _
theorem zph{Ls:List Row}{o:Int}{x:Bxl}(h:x∈box Ls o):∃r∈Ls,x=(r.p,r.w):=by obtain⟨r,a,rfl⟩:=mem_map.mp h;exact⟨r,(mem_filter.mp a).1,rfl⟩
structure Bx(N:Nat)(T:R.St)(bx:Nat)(Ls:List Row)(kvs:List (Int×D)):Prop where
 at_:T.get bx=Φ (.dic kvs)
 fr:Fr T bx
 nw:N<=bx
 no_:∀o,valI kvs o=Ψ->box Ls o=[]
 so_:∀o d,valI kvs o=Φ d->∃b,d=.ref b/\N<=b/\Fr T b/\T.get b=Φ (.lst ((box Ls o).map bxD))
 inj:∀o o' b,valI kvs o=Φ (.ref b)->valI kvs o'=Φ (.ref b)->o=o'
 len:kvs.length<=Ls.length
theorem zeA(b:List (Int×D))(k j:Int)(v:D):valI (putI b k v) j=if j=k then Φ v else valI b j:=by
 induction b with
 |nil=>by_cases c:j=k;subst c;simp[putI,valI];have f:¬k=j:=λz=>c z.symm;simp[putI,valI,c,f]| cons a r g=>
  obtain⟨i,d⟩:=a;unfold putI;by_cases e:i=k;subst e;rw[if_pos rfl];by_cases c:j=i;subst c;simp[valI];have f:¬i=j:=λz=>c z.symm;simp[valI,c,f];rw[if_neg e];by_cases c:i=j;subst c;simp[valI,e];have h:valI ((i,d)::putI r k v) j=valI (putI r k v) j:=by simp[valI,c]
  have l:valI ((i,d)::r) j=valI r j:=by simp[valI,c]
  rw[h,l,g]
theorem zlL(b:List (Int×D))(k:Int)(v:D):(putI b k v).length<=b.length+1:=by induction b with|nil=>simp[putI]| cons a r c=>obtain⟨i,d⟩:=a;unfold putI;split;simp;simp;omega
noncomputable abbrev Ed(t:Int)(x y:D)(d:Nat)(a b c:Option D):Ev:=[Φ (.int t),Φ x,Φ y,Φ (.ref d),a,b,c]
noncomputable def dIn:CS:=.expr (.mt .append (.dsetI J3 (.ix J4 V2) (.lst .nil)) #[.tup #[.ix J4 V1,.ix J4 V3]]) .nil
theorem zkm{T:R.St}{l:Nat}{a:List (Int×D)}(h:T.get l=Φ (.dic a)):isDi T (.ref l)=Γ:=by unfold isDi;dsimp only;rw[h]
theorem zfi{T:R.St}{l:Nat}{a:List (Int×D)}{o:Int}(h:T.get l=Φ (.dic a)):zgb T (.ref l) (.int o)=Φ (valI a o):=by unfold zgb;dsimp only;rw[h];rfl
theorem zmE{cf:CF}{N:Nat}{T:R.St}{m:Nat}{Ls:List Row}{i:List (Int×D)}{x:Row}{t tt:Int}{u y:D}{b c:Option D}(B:Bx N T m Ls i)(hN:N<=T.len)(hl:Ls.length<=500)(Y:T.lk.contains T.len=Δ) :
  W (exS cf dIn (Ed t u y m (Φ (leD tt x)) b c) T) λf U=>f=.nx (Ed t u y m (Φ (leD tt x)) b c)/\(∃H,Bx N U m (Ls++[x]) H)/\Kn N T U:=by
 obtain⟨p,o,w⟩:=x;refine wS_W _ ?_;left;change zkm B.at_;left;exists show R.atI [D.int tt,pD p,.int o,w] 2=Φ (.int o) from rfl;left;change show 0<=16777216 by decide
 left;have lb:=get_lt B.at_;have hbl:(box Ls o).length<=Ls.length:=by unfold box;rw[length_map];exact length_filter_le _ _
 have I:=zae (o:=.lst []) B.at_;have hlen:=B.len;cases A:valI i o with
 |none=>
  have fT:Fr (T.push (.lst [])) m:=⟨B.fr.f,B.fr.k⟩;obtain⟨U,hU,G,gU⟩:=zdG (u:=.dic (putI i o (.ref T.len))) fT I;have es:zfg (T.push (.lst [])) (.ref m) (.int o) (.ref T.len)=Φ (.ref T.len,U):=by unfold zfg;rw[zfi I,A];dsimp only;unfold dPut;dsimp only;rw[I];dsimp only[zcz,Ϛ];rw[if_pos (by lia),hU];rfl
  exists es;left;have nb:T.len≠m:=by lia
  have C:U.get T.len=Φ (.lst []):=G.old _ _ (by simpa using nb) (zag T (.lst []));have fL:Fr U T.len:=⟨by rw[G.frz];show T.frz.length<=T.len;unfold St.len;lia,by rw[G.lk];exact Y⟩;exists C;left;exists show R.atI [D.int tt,pD p,.int o,w] 1=Φ (pD p) from rfl;left;exists show R.atI [D.int tt,pD p,.int o,w] 3=Φ w from rfl;left;change show 2<=16777216 by decide
  left;exists C;left;change show 1<=16777216 by decide
  left;obtain⟨V,hV,n,gV⟩:=zdG (u:=.lst ([]++[bxD (p,w)])) fL C;exists hV;left;have v:=Mv.push [] T (.lst []);refine⟨rfl,⟨putI i o (.ref T.len),?_⟩,?_⟩;have J:∀l q,l≠m->l≠T.len->T.get l=Φ q->V.get l=Φ q:=λl q E k e=>n.old _ _ (by simpa using k) (G.old _ _ (by simpa using E) (v.old _ _ (by simp) e));have j:∀l,Fr T l->Fr V l:=λl h=>((h.mv v).mv G).mv n;refine⟨n.old _ _ (by simpa using nb.symm) gU,j _ B.fr,B.nw,λs g=>?_,λs d g=>?_,λo1 o2 b E k=>?_,?_⟩;rw[zeA]at g;split at g;cases g;rename_i ne;rw[zb6,if_neg (λz=>ne z.symm)];exact B.no_ s g;rw[zeA]at g;split at g;rename_i L;cases g;subst L;refine⟨T.len,rfl,hN,fL.mv n,?_⟩;rw[zb6,if_pos rfl,B.no_ _ A];exact gV;rename_i ne;obtain⟨b,rfl,k,h3,r⟩:=B.so_ s d g;refine⟨b,rfl,k,j _ h3,?_⟩;rw[zb6,if_neg (λz=>ne z.symm)];refine J _ _ (λz=>?_) (by have:=get_lt r;lia) r;rw[z,B.at_]at r;cases r
  . rw[zeA]at E k;split at E<;>split at k
    rename_i a1 a2;rw[a1,a2];cases E;obtain⟨b,e1,_,_,r⟩:=B.so_ o2 _ k;cases e1;have:=get_lt r;lia;cases k;obtain⟨b,e1,_,_,r⟩:=B.so_ o1 _ E;cases e1;have:=get_lt r;lia;exact B.inj o1 o2 b E k
  have:=zlL i o (.ref T.len);rw[length_append];simp only[Χ,ϩ];lia;refine(Kn.of v (by simp)).trans ((Kn.of G ?_).trans (Kn.of n ?_));intro a M;rw[mem_singleton.mp M];exact B.nw;intro a M;rw[mem_singleton.mp M];exact hN
 |some d=>
  obtain⟨O,rfl,Q,fb,gb⟩:=B.so_ o d A;have v:=Mv.push [] T (.lst []);have es:zfg (T.push (.lst [])) (.ref m) (.int o) (.ref T.len)=Φ (.ref O,T.push (.lst [])):=by unfold zfg;rw[zfi I,A]
  exists es;left;have C:(T.push (.lst [])).get O=Φ (.lst ((box Ls o).map bxD)):=zae gb;exists C;left;exists show R.atI [D.int tt,pD p,.int o,w] 1=Φ (pD p) from rfl;left;exists show R.atI [D.int tt,pD p,.int o,w] 3=Φ w from rfl;left;change show 2<=16777216 by decide
  left;exists C;left;change by rw[length_append,length_map];simp only[Χ,ϩ];lia
  obtain⟨V,hV,n,gV⟩:=zdG (u:=.lst ((box Ls o).map bxD++[bxD (p,w)])) (fb.mv v) C;exists hV;left;have j:∀l,Fr T l->Fr V l:=λl h=>(h.mv v).mv n;have nbx:m≠O:=λz=>by rw[<-z,B.at_]at gb;cases gb
  refine⟨rfl,⟨i,?_⟩,(Kn.of v (by simp)).trans (Kn.of n (by intro a M;rw[mem_singleton.mp M];exact Q))⟩;refine⟨n.old _ _ (by simpa using nbx) I,j _ B.fr,B.nw,λs g=>?_,λs d g=>?_,B.inj,by rw[length_append];lia⟩;rw[zb6,if_neg (λz=>by rw[<-z]at g;rw[show(Row.mk p o w).to=o from rfl,A]at g;cases g)];exact B.no_ s g;by_cases L:o=s;subst L;rw[A]at g;cases g;refine⟨O,rfl,Q,j _ fb,?_⟩;rw[zb6,if_pos rfl,map_append];exact gV;obtain⟨b,rfl,k,h3,r⟩:=B.so_ s d g;refine⟨b,rfl,k,j _ h3,?_⟩;rw[zb6,if_neg (λz=>L z)];refine n.old _ _ (λz=>?_) (v.old _ _ (by simp) r);have z:b=O:=by simpa using z
  subst z;exact L (B.inj o s b A g)
theorem zib{cf:CF}{N:Nat}{h:Nat}{t tt:Int}{u y:D}{b c:Option D}:∀(d Ls:List Row)(g:List (Int×D))(T:R.St)(a:Option D),Bx N T h Ls g->N<=T.len->(∀l∈T.lk,l<N)->Ls.length+d.length<=500->
  W (zaV [4] (exS cf dIn) (d.map (leD tt)) (Ed t u y h a b c) T) λf U=>(∃a,f=.nx (Ed t u y h a b c))/\(∃e,Bx N U h (Ls++d) e)/\Kn N T U
 | [],Ls,g,T,a,B,_,_,_=>by show W (Out.ok (Fl.nx _) T) _;rw[W_ok];exact⟨⟨a,rfl⟩,⟨g,by rw[append_nil];exact B⟩,Kn.refl _ _⟩| x::d,Ls,g,T,a,B,j,k,n=>by simp only[Χ]at n;show W (Out.bind (exS cf dIn (Ed t u y h (Φ (leD tt x)) b c) T) _) _;rw[zaa];refine(zmE B j (by lia) (zcv k j)).mono λf U o=>?_;obtain⟨rfl,⟨e,p⟩,v⟩:=o;refine(zib d (Ls++[x]) e U _ p (le_trans j v.len) (by rw[v.lk];exact k) (by simp;lia)).mono λf V q=>?_;obtain⟨r,⟨i,m⟩,s⟩:=q;exact⟨r,⟨i,by rw[append_assoc]at m;exact m⟩,v.trans s⟩
noncomputable def zkT:CS:=.expr (.meth "hear" heT J6 #[J0,.dgetI J3 J5 (.lst .nil)]) .nil
structure Pk(V:Town)(S:R.St)(d j:Nat)(h:V.H):Prop where
 ok:V.ok S d j h
 fr:∀z∈V.adr j,Fr S z
theorem zmm{V:Town}{q:Nat}(X:TownOk V q){S:R.St}{N n l d j:Nat}{t:Int}{h:V.H}{Ls:List Row}{g:List (Int×D)}{x y:D}{a:Option D}(C:j<V.m)(hd:d<=40)(o:Pk V S d j h)(ad:∀z∈V.adr j,z<N)(B:Bx N S l Ls g)(E:N<=S.len)(hl:Ls.length<=V.mx)(G:∀r∈Ls,V.lt (r.p,r.w)) :
  W (exS (callF prog (n+q)) zkT (Ed t x y l a (Φ (.int j)) (Φ (.ref (V.who j)))) S) λf U=>f=.nx (Ed t x y l a (Φ (.int j)) (Φ (.ref (V.who j))))/\Mv (V.adr j) S U/\Pk V U (d+1) j (V.hear j t h (box Ls j)):=by
 have m:=Mv.push [] S (.lst []);have H:∃i,(valI g j).getD (.ref S.len)=.ref i/\(S.push (.lst [])).get i=Φ (.lst ((box Ls j).map bxD))/\N<=i:=by cases p:valI g j with|none=>exact⟨S.len,rfl,by rw[B.no_ _ p];exact zag _ _,E⟩| some d=>obtain⟨b,rfl,I,_,J⟩:=B.so_ _ _ p;exact⟨b,rfl,zae J,I⟩
 obtain⟨i,L,M,nq⟩:=H;have O:=zae (o:=.lst []) B.at_;have Q:V.ok (S.push (.lst [])) d j h:=X.dep o.ok λz _ o e=>zae e;have bl:=zpi Ls j;obtain⟨c,fs,k,Y,g2,g3,w⟩:=X.hear (S:=S.push (.lst [])) (b:=i) t n C hd Q (λz hz=>(o.fr z hz).mv m) M (λhm=>by have:=ad _ hm;lia) (by lia) (λx hx=>by obtain⟨r,hr,rfl⟩:=zph hx;exact G r hr);obtain⟨o0,s⟩:=X.has o.ok _ (X.wa j);have A:=zae (o:=.lst []) s;rw[Y]at A;cases A;refine wS_W _ ?_;left;exists zay s;left;exists g2;left;change by rw[g3];rfl
 left;change zkm B.at_;left;change show 0<=16777216 by decide
 left;exists zfi O;rw[L];left;refine zbh (w.mono λu T hT=>?_);obtain⟨_,v,z⟩:=hT;left;exact⟨rfl,(m.up (by simp)).trans v,z,λy hy=>((o.fr y hy).mv m).mv v⟩
theorem Bx.mv{N:Nat}{T U:R.St}{c:Nat}{Ls:List Row}{a:List (Int×D)}{A:List Nat}(B:Bx N T c Ls a)(v:Mv A T U)(h:∀x∈A,x<N):Bx N U c Ls a:=⟨v.old _ _ (λz=>by have:=h _ z;have:=B.nw;lia) B.at_,B.fr.mv v,B.nw,B.no_,λo d e=>let ⟨b,f,g,i,j⟩:=B.so_ o d e;⟨b,f,g,i.mv v,v.old _ _ (λz=>by have:=h _ z;lia) j⟩,B.inj,B.len⟩
noncomputable def adrF(V:Town):Nat->Nat->List Nat
 |_,0=>[]|k,c+1=>V.adr k++adrF V (k+1) c
theorem ze1(V:Town){z:Nat}:∀(c k:Nat),z∈adrF V k c->∃i,k<=i/\i<k+c/\z∈V.adr i
 |0,_,h=>by cases h
 |c+1,k,h=>by rw[adrF]at h;rcases mem_append.mp h with h|h;exact⟨k,le_refl _,by lia,h⟩;obtain⟨i,b,d,a⟩:=ze1 V c (k+1) h;exact⟨i,by lia,by lia,a⟩
noncomputable def Dj(V:Town):Prop:=∀i j,i<V.m->j<V.m->i≠j->∀z∈V.adr i,z∉V.adr j
noncomputable def za8(V:Town)(t:Int)(Ls:List Row):Nat->List V.H->List V.H
 |_,[]=>[]|k,h::a=>V.hear k t h (box Ls (k:Nat))::za8 V t Ls (k+1) a
theorem Pk.away{V:Town}{q:Nat}(X:TownOk V q){S T:R.St}{d j:Nat}{h:V.H}{A:List Nat}(o:Pk V S d j h)(v:Mv A S T)(n:∀z∈V.adr j,z∉A):Pk V T d j h:=⟨X.dep o.ok λz a o e=>v.old _ _ (n z a) e,λz a=>(o.fr z a).mv v⟩
theorem zfZ{V:Town}{q:Nat}(X:TownOk V q){N n m d:Nat}{t:Int}{Ls:List Row}{o:List (Int×D)}{x y:D}{a:Option D}(hd:d<=40)(p:Dj V)(u:Ls.length<=V.mx)(A:∀r∈Ls,V.lt (r.p,r.w))(ad:∀i,i<V.m->∀z∈V.adr i,z<N):∀(hs:List V.H)(k:Nat)(T:R.St)(b c:Option D),k+hs.length<=V.m->Bx N T m Ls o->N<=T.len->
  (∀i h,hs[i]?=Φ h->Pk V T d (k+i) h)->
  W (zaV [5,6] (exS (callF prog (n+q)) zkT) (enW V k hs.length) (Ed t x y m a b c) T) λf U=>(∃b c,f=.nx (Ed t x y m a b c))/\Mv (adrF V k hs.length) T U/\∀i h,(za8 V t Ls k hs)[i]?=Φ h->Pk V U (d+1) (k+i) h
 | [],k,T,b,c,_,_,_,_=>by show W (Out.ok (Fl.nx _) T) _;rw[W_ok];exact⟨⟨b,c,rfl⟩,Mv.refl _ _,λi h e=>by simp[za8]at e⟩| h::hs,k,T,b,c,I,B,C,E=>by
  simp only[Χ]at I;have J:Pk V T d k h:=E 0 h rfl;have l:k<V.m:=by lia
  show W (Out.bind (exS (callF prog (n+q)) zkT (Ed t x y m a (Φ (.int k)) (Φ (.ref (V.who k)))) T) _) _;rw[zaa];refine(zmm X (n:=n) (t:=t) l hd J (ad k l) B C u A).mono λf U L=>?_;obtain⟨rfl,v,M⟩:=L;refine(zfZ X hd p u A ad hs (k+1) U _ _ (by lia) (B.mv v (ad k l)) (le_trans C v.len) (λi g G=>?_)).mono λf W' O=>?_;have Q:=E (i+1) g (by simpa using G);have il:=(Α.mp G).1;rw[show k+1+i=k+(i+1) by lia];exact Q.away X v λz j s=>p (k+(i+1)) k (by lia) l (by lia) z j s;obtain⟨Y,w,hp⟩:=O;refine⟨Y,(v.up (λz j=>mem_append_left _ j)).trans (w.up (λz j=>mem_append_right _ j)),λi g H=>?_⟩;cases i with| zero=>cases H;refine M.away X w λz j s=>?_;obtain⟨i,a1,a2,a3⟩:=ze1 V _ _ s;exact p k i l (by lia) (by lia) z j a3| succ i=>have:=hp i g (by simpa[za8]using H);rw[show k+1+i=k+(i+1) by lia]at this;exact this
theorem zoI{L:List Nat}{N b:Nat}(h:∀l∈L,l<N)(a:N<=b):L.contains b=Δ:=by rw[Bool.eq_false_iff];intro z;have:=h _ (List.contains_iff_mem.mp z);lia
theorem Bx.relk{N:Nat}{T:R.St}{c:Nat}{Ls:List Row}{a:List (Int×D)}{L:List Nat}(B:Bx N T c Ls a)(h:∀l∈L,l<N):Bx N ({T with lk:=L}:R.St) c Ls a:=⟨B.at_,⟨B.fr.f,zoI h B.nw⟩,B.nw,B.no_,λo d e=>let ⟨b,g,f,i,j⟩:=B.so_ o d e;⟨b,g,f,⟨i.f,zoI h f⟩,j⟩,B.inj,B.len⟩
theorem zf8:c_deliver.body=.asg 3 .dnew (.forS [4] (.val J2) dIn (.forS [5,6] (.enum J1) zkT .nil)):=rfl
theorem zjs{V:Town}{q:Nat}(X:TownOk V q){S:R.St}{n d:Nat}{t tt:Int}{th sd:Nat}{hs:List V.H}{Ls:List Row}(hh:hs.length=V.m)(hd:d<=40)(dj:Dj V)(hl:Ls.length<=V.mx)(lt:∀r∈Ls,V.lt (r.p,r.w))(hg:S.get th=Φ (.lst (whoL V 0 V.m)))(hsd:S.get sd=Φ (.lst (Ls.map (leD tt))))(hk:∀l∈S.lk,l<S.len)
  (h1:∀(i:Nat) h,hs[i]?=Φ h->Pk V S d i h) (nt:∀i,i<V.m->th∉V.adr i) :
  W (appW (callF prog (n+q+1)) 8 [.int t,.ref th,.ref sd] S) λx U=>x=.non/\U.frz=S.frz/\U.lk=S.lk/\S.len<=U.len/\(∀l o,l∉adrF V 0 V.m->S.get l=Φ o->U.get l=Φ o)/\∀(i:Nat) h,(za8 V t Ls 0 hs)[i]?=Φ h->Pk V U (d+1) i h:=by
 have mx:=X.mx;refine zbU (F:=c_deliver) rfl rfl ?_;rw[zf8];show W (Out.bind _ _) _;rw[zaa];have e0:evE (callF prog (n+q)) .dnew (zaB c_deliver [.int t,.ref th,.ref sd]) S=.ok (.ref S.len) (S.push (.dic [])):=by (conv=>lhs;whnf)
 rw[e0,W_ok];have up:∀l o,S.get l=Φ o->(S.push (.dic [])).get l=Φ o:=λl o e=>zae e;have e1:evL (callF prog (n+q)) (.val J2) (Ed t (.ref th) (.ref sd) S.len Ψ Ψ Ψ) (S.push (.dic []))=.ok (Ls.map (leD tt),[sd]) (S.push (.dic [])):=by show Out.bind (lift (S.push (.dic [])) (Φ (D.ref sd))) _=_;rw[zcw,za2];unfold zcg;dsimp only;rw[up _ _ hsd];rfl
 refine zdo (δ:=Ed t (.ref th) (.ref sd) S.len Ψ Ψ Ψ) e1 ?_;have lsd:=get_lt hsd;have lth:=get_lt hg;have fr0:S.frz.length<=S.len:=by unfold St.len;lia
 have ad:∀i,i<V.m->∀z∈V.adr i,z<S.len:=λi hi z hz=>by obtain⟨o,e⟩:=X.has (h1 i hs[i] (by simp[hh,hi])).ok z hz;exact get_lt e
 have B0:Bx S.len ({S.push (.dic []) with lk:=[sd]++(S.push (.dic [])).lk}:R.St) S.len [] []:=by refine⟨zag _ _,⟨fr0,?_⟩,le_refl _,λo _=>rfl,(λo d e=>by exact nS e),(λo o' b e=>by exact nS e),le_refl _⟩;show(sd::S.lk).contains S.len=Δ;rw[contains_cons,zcv hk (le_refl _),Bool.or_false];simp;lia
 refine(zib (cf:=callF prog (n+q)) (t:=t) (tt:=tt) (u:=.ref th) (y:=.ref sd) (b:=Ψ) (c:=Ψ) Ls [] [] _ Ψ B0 (by show S.len<=(S.push (.dic [])).len;rw[plen];lia) (by
  intro l hl;rcases mem_cons.mp (show l∈sd::S.lk from hl) with rfl|hl;exact lsd;exact hk l hl) (by simp;lia)).mono λf T hT=>?_
 obtain⟨⟨a,rfl⟩,⟨kvs,B⟩,kn⟩:=hT;rw[List.nil_append]at B;show W (exS (callF prog (n+q)) (.forS [5,6] (.enum J1) zkT .nil) (Ed t (.ref th) (.ref sd) S.len a Ψ Ψ) {T with lk:=S.lk}) _;have old:∀l o,S.get l=Φ o->({T with lk:=S.lk}:R.St).get l=Φ o:=λl o e=>kn.old l o (get_lt e) (up l o e);have el:evL (callF prog (n+q)) (.enum J1) (Ed t (.ref th) (.ref sd) S.len a Ψ Ψ) {T with lk:=S.lk}=.ok (enW V 0 V.m,[th]) {T with lk:=S.lk}:=by show Out.bind (lift ({T with lk:=S.lk}:R.St) (Φ (D.ref th))) _=_;rw[zcw,za2,zh4 (old _ _ hg)];rfl
 refine zdo el ?_;have hk2:∀l∈th::S.lk,l<S.len:=λl hl=>by rcases mem_cons.mp hl with rfl|hl;exact lth;exact hk l hl
 have lenT : S.len ≤ T.len := by have := kn.len; have e : S.len + 1 ≤ T.len := by rw [← plen S (.dic [])]; exact this
                                 lia
 rw[<-hh];refine(zfZ X (n:=n) (d:=d) (t:=t) (x:=.ref th) (y:=.ref sd) (a:=a) hd dj hl lt ad hs 0 ({T with lk:=th::S.lk}:R.St) Ψ Ψ (by lia) (B.relk hk2) lenT (λi h e2=>?_)).mono λf U hU=>?_;have o:=h1 i h e2;have il:=(Α.mp e2).1;rw[zero_add];refine⟨X.dep o.ok λz _ o' e=>old _ _ e,λz hz=>⟨by show T.frz.length<=z;rw[show T.frz=S.frz from kn.frz];exact(o.fr z hz).f,?_⟩⟩;show(th::S.lk).contains z=Δ;rw[contains_cons,(o.fr z hz).k,Bool.or_false];have:z≠th:=λe=>nt i (by lia) (e▸hz);simpa using this;obtain⟨⟨b,c,rfl⟩,v,hP⟩:=hU;dsimp only;(conv=>lhs;whnf);rw[W_ok];dsimp only;refine⟨rfl,v.frz.trans kn.frz,rfl,le_trans lenT v.len,λl o hl e=>v.old l o (by first|exact hl|(rw[hh];exact hl)) (old l o e),λi h e=>?_⟩;have z:=hP i h e;rw[zero_add]at z;have il:=(Α.mp e).1;have il2:i<hs.length:=by
  have:∀(hs:List V.H)(k:Nat),(za8 V t Ls k hs).length=hs.length:=λhs=>by induction hs with|nil=>intro k;rfl|cons a r ih=>intro k;simp[za8,ih]
  rw[this]at il;exact il
 exact⟨X.dep z.ok λ_ _ _ e=>e,λy hy=>⟨(z.fr y hy).f,by
  have:=(h1 i hs[i] (by simp[il2])).fr y hy;exact this.k⟩⟩
noncomputable def rB:CS:=.asg 5 (.srtK (.call 7 0 #[J4,J0,J2])) (.expr (.callW 8 0 #[J4,J0,J5]) (.expr (.extv J3 J5) .nil))
theorem zlF:c_run.body=.asg 3 (.lst .nil) (.forS [4] (.rng2 V1 (.bin .Add J1 V1)) rB (.ret J3 .nil)):=rfl
theorem zr3{P:List Fn}{F:Fn}{f n:Nat}{ds:List D}{S:R.St}{Q:D->R.St->Prop}(h:P[f]?=Φ F)(a:ds.length=F.np)(b:3<=n)(w:W (exS (callF P n) F.body (zaB F ds) S) λr T=>match r with|.nx _=>Q .non T|.rt d=>Q d T)(c:F.prim=Φ .lam:=by rfl):W (appW (callF P (n+1)) f ds S) Q:=by unfold appW;simp only[callF,h,a,c,b,if_true,zaa];refine w.mono λr T q=>?_;cases r<;>exact q
noncomputable def rnd(V:Town)(t:Int)(hs:List V.H):List V.H:=za8 V t (srtR (V.said t 0 hs)) 0 hs
theorem zb5(V:Town)(t:Int)(Ls:List Row):∀(hs:List V.H)(k:Nat),(za8 V t Ls k hs).length=hs.length
 | [],_=>rfl|_::hs,k=>by rw[za8,Χ,Χ,zb5 V t Ls hs (k+1)]
structure Tn(V:Town)(T:R.St)(d th lt:Nat)(hs:List V.H)(acc:List D):Prop where
 lh:hs.length=V.m
 hg:T.get th=Φ (.lst (whoL V 0 V.m))
 p1:∀(i:Nat) h,hs[i]?=Φ h->Pk V T d i h
 nt:∀i,i<V.m->th∉V.adr i
 nl:∀i,i<V.m->lt∉V.adr i
 ne:th≠lt
 hk:∀l∈T.lk,l<T.len
 gl:T.get lt=Φ (.lst acc)
 fl:Fr T lt
 w:V.wok T
 w1:∀i,i<V.m->V.wr∉V.adr i
 w2:∀i,i<V.m->∀j,j<V.m->V.la j∉V.adr i
 w3:V.wr≠lt
 w4:∀j,j<V.m->V.la j≠lt
noncomputable abbrev Er(th:Nat)(rr:Int)(wr c:Nat)(a b:Option D):Ev:=[Φ (.ref th),Φ (.int rr),Φ (.ref wr),Φ (.ref c),a,b]
theorem zlE{V:Town}{q:Nat}(X:TownOk V q){T:R.St}{n d:Nat}{t rr:Int}{th p:Nat}{hs:List V.H}{c:List D}{b:Option D}(tt:V.tt t)(Y:Tn V T d th p hs c)(dj:Dj V)(hd:d<=40)(ha:c.length<=20000) :
  W (exS (callF prog (n+q+2)) rB (Er th rr V.wr p (Φ (.int t)) b) T) λf U=>(∃b,f=.nx (Er th rr V.wr p (Φ (.int t)) b))/\Tn V U (d+1) th p (rnd V t hs) (c++(srtR (V.said t 0 hs)).map (leD t))/\U.lk=T.lk/\U.frz=T.frz/\T.len<=U.len/\∀l o,l≠p->(∀i,i<V.m->l∉V.adr i)->T.get l=Φ o->U.get l=Φ o:=by
 have few:=X.few t hs tt Y.lh;have M:=X.unl t hs tt Y.lh;have mx:=X.mx;have A:=zqp X (n:=n+1) (d:=d) (t:=t) tt Y.lh Y.hg (λi h e=>(Y.p1 i h e).ok) Y.w;rw[show n+1+q+1=n+q+2 by lia]at A;have O:=zgw X t hs 0;have rl:(srtR (V.said t 0 hs)).length=(V.said t 0 hs).length:=(zbj M).length_eq;have Q:∀r∈srtR (V.said t 0 hs),V.lt (r.p,r.w):=λr hr=>O r ((zbj M).mem_iff.mp hr);refine wS_W _ ?_;left;specialize A;left;exists zj4 (zag _ _);left;change⟨by rw[length_map];lia,M⟩;rw[show srtD ((V.said t 0 hs).map (leD t),(V.said t 0 hs).map key).1 ((V.said t 0 hs).map (leD t),(V.said t 0 hs).map key).2=(srtR (V.said t 0 hs)).map (leD t) from zlf M];generalize hrr:V.said t 0 hs=N at *;generalize hrs:srtR N=v at *;left;change by rw[length_map];lia
 left;generalize B:(T.push (.lst (N.map (leD t)))).push (.lst (v.map (leD t)))=S2;have a:Mv [] T S2:=by rw[<-B];exact(Mv.push [] _ _).trans (Mv.push [] _ _)
 have C:S2.get (T.push (.lst (N.map (leD t)))).len=Φ (.lst (v.map (leD t))):=by rw[<-B];exact zag _ _
 generalize E:(T.push (.lst (N.map (leD t)))).len=G at *;have lsd:T.len<=G:=by rw[<-E,plen];lia
 have ltl:=get_lt Y.gl;have lth:=get_lt Y.hg;have dl:=zjs X (S:=S2) (n:=n+1) (d:=d) (t:=t) (tt:=t) (Ls:=v) Y.lh hd dj (by lia) Q (a.old _ _ (by simp) Y.hg) C (by rw[a.lk];exact λl H=>lt_of_lt_of_le (Y.hk l H) a.len) (λi h e=>(Y.p1 i h e).away X a (by simp)) Y.nt;rw[show n+1+q+1=n+q+2 by lia]at dl;refine zbh (dl.mono λx U hU=>?_);obtain⟨_,uf,uk,ul,y,up⟩:=hU;have k:∀l,(∀i,i<V.m->l∉V.adr i)->l∉adrF V 0 V.m:=λl H I=>by obtain⟨i,_,h2,h3⟩:=ze1 V _ _ I;exact H i (by lia) h3
 have s:∀i,i<V.m->∀z∈V.adr i,z<T.len:=λi J z hz=>by
  have hil:i<hs.length:=by rw[Y.lh];exact J
  obtain⟨o,e⟩:=X.has (Y.p1 i hs[i] (by simp[hil])).ok z hz;exact get_lt e
 have w:U.get p=Φ (.lst c):=y _ _ (k p Y.nl) (a.old _ _ (by simp) Y.gl);have gs3:U.get G=Φ (.lst (v.map (leD t))):=y _ _ (k G λi J I=>by have:=s i J G I;lia) C;have L:Fr U p:=⟨by rw[uf,a.frz];exact Y.fl.f,by rw[uk,a.lk];exact Y.fl.k⟩;left;exists w;left;exists show lsts U (.ref p) (.ref G)=Φ (p,c,v.map (leD t)) by unfold lsts;dsimp only;rw[w,gs3]
 left;change show(c++v.map (leD t)).length<=16777216 by rw[length_append,length_map];lia
 obtain⟨U2,hV,m,gV⟩:=zdG (u:=.lst (c++v.map (leD t))) L w;exists hV;left;refine⟨⟨_,rfl⟩,⟨by unfold rnd;rw[zb5];exact Y.lh,m.old _ _ (by simpa using Y.ne) (y _ _ (k th Y.nt) (a.old _ _ (by simp) Y.hg)),λi g e=>?_,Y.nt,Y.nl,Y.ne,?_,gV,L.mv m,Y.w.up (λ_ e=>m.old _ _ (by simpa using Y.w3) (y _ _ (k _ Y.w1) (a.old _ _ (by simp) e))) (λj hj _ e=>m.old _ _ (by simpa using Y.w4 j hj) (y _ _ (k _ λi J=>Y.w2 i J j hj) (a.old _ _ (by simp) e))),Y.w1,Y.w2,Y.w3,Y.w4⟩,by rw[m.lk,uk,a.lk],by rw[m.frz,uf,a.frz],le_trans a.len (le_trans ul m.len),λl o h1 h2 e=>m.old _ _ (by simpa using h1) (y _ _ (k l h2) (a.old _ _ (by simp) e))⟩;have il:=(Α.mp e).1;unfold rnd at e il;rw[zb5,Y.lh]at il;rw[hrr,hrs]at e;exact(up i g e).away X m λz hz I=>Y.nl i il (by rw[<-mem_singleton.mp I];exact hz);rw[m.lk,uk,a.lk];exact λl H=>lt_of_lt_of_le (Y.hk l H) (le_trans a.len (le_trans ul m.len))
noncomputable def rnds(V:Town):Nat->Nat->List V.H->List V.H
 |_,0,a=>a|t,c+1,a=>rnds V (t+1) c (rnd V t a)
noncomputable def lets(V:Town):Nat->Nat->List V.H->List D
 |_,0,_=>[]|t,c+1,a=>(srtR (V.said t 0 a)).map (leD t)++lets V (t+1) c (rnd V t a)
noncomputable def zjh:Nat->Nat->List D
 |_,0=>[]|t,c+1=>.int (t:Nat)::zjh (t+1) c
theorem zhv{V:Town}{q:Nat}(X:TownOk V q){n:Nat}{rr:Int}{th h:Nat}(k:Dj V):∀(c t:Nat)(hs:List V.H)(g:List D)(T:R.St)(a b:Option D)(d:Nat),(∀i:Nat,t<=i->i<t+c->V.tt (i:Nat))->Tn V T d th h hs g->d+c<=40->g.length+450*c<=20000->
  W (zaV [4] (exS (callF prog (n+q+2)) rB) (zjh t c) (Er th rr V.wr h a b) T) λf U=>(∃a b,f=.nx (Er th rr V.wr h a b))/\Tn V U (d+c) th h (rnds V t c hs) (g++lets V t c hs)/\U.lk=T.lk/\U.frz=T.frz/\T.len<=U.len/\∀l o,l≠h->(∀i,i<V.m->l∉V.adr i)->T.get l=Φ o->U.get l=Φ o
 |0,t,hs,g,T,a,b,d,_,Y,_,_=>by show W (Out.ok (Fl.nx _) T) _;rw[W_ok];exact⟨⟨a,b,rfl⟩,by rw[lets,append_nil];exact Y,rfl,rfl,le_refl _,λl o _ _ e=>e⟩| c+1,t,hs,g,T,a,b,d,tt,Y,G,H=>by show W (Out.bind (exS (callF prog (n+q+2)) rB (Er th rr V.wr h (Φ (.int (t:Nat))) b) T) _) _;rw[zaa];have j:V.tt (t:Int):=tt t (le_refl _) (by lia);have I:=X.few (t:Int) hs j Y.lh;have J:=X.mx;have L:(srtR (V.said t 0 hs)).length=(V.said t 0 hs).length:=(zbj (X.unl t hs j Y.lh)).length_eq;refine(zlE X (n:=n) (t:=(t:Int)) (tt t (le_refl _) (by lia)) Y k (by lia) (by lia)).mono λf U u=>?_;obtain⟨⟨M,rfl⟩,Z,m,p,v,w⟩:=u;refine(zhv X k c (t+1) (rnd V t hs) (g++(srtR (V.said t 0 hs)).map (leD t)) U _ _ (d+1) (λi m p=>tt i (by lia) (by lia)) Z (by lia) (by rw[length_append,length_map];lia)).mono λf N x=>?_;obtain⟨y,z,A,B,C,E⟩:=x;refine⟨y,?_,A.trans m,B.trans p,le_trans v C,λl o r s e=>E l o r s (w l o r s e)⟩;rw[lets,<-append_assoc,show d+(c+1)=d+1+c by lia];exact z
theorem zfn:∀(c t:Nat),(List.range c).map (λ(k:Nat)=>D.int ((t:Int)+k))=zjh t c
 |0,_=>rfl| c+1,t=>by rw[List.range_succ_eq_map,Ν,map_map,zjh,<-zfn c (t+1)];congr 1;simp;intro a _;lia
theorem zsw{V:Town}{q:Nat}(X:TownOk V q){S:R.St}{n c:Nat}{z:Int}{th:Nat}{hs:List V.H}(tt:∀i:Nat,1<=i->i<1+c->V.tt (i:Nat))(dj:Dj V)(lh:hs.length=V.m)(hg:S.get th=Φ (.lst (whoL V 0 V.m)))(p1:∀(i:Nat) h,hs[i]?=Φ h->Pk V S 0 i h)(nt:∀i,i<V.m->th∉V.adr i)(hk:∀l∈S.lk,l<S.len)(hc:c<=40)(hz:z=(c:Nat))(h1q:1<=q)(w:V.wok S)(w1:∀i,i<V.m->V.wr∉V.adr i)(w2:∀i,i<V.m->∀j,j<V.m->V.la j∉V.adr i) :
  W (appW (callF prog (n+q+3)) 6 [.ref th,.int z,.ref V.wr] S) λx U=>x=.ref S.len/\Tn V U c th S.len (rnds V 1 c hs) (lets V 1 c hs)/\U.lk=S.lk/\U.frz=S.frz/\S.len<U.len/\∀l o,(∀i,i<V.m->l∉V.adr i)->S.get l=Φ o->U.get l=Φ o:=by
 refine zr3 (F:=c_run) rfl rfl (by lia) ?_;rw[zlF];show W (Out.bind _ _) _;rw[zaa];have e0:evE (callF prog (n+q+2)) (.lst .nil) (zaB c_run [.ref th,.int z,.ref V.wr]) S=.ok (.ref S.len) (S.push (.lst [])):=by rfl
 rw[e0,W_ok];show W (exS (callF prog (n+q+2)) (.forS [4] (.rng2 V1 (.bin .Add J1 V1)) rB (.ret J3 .nil)) (Er th z V.wr S.len Ψ Ψ) (S.push (.lst []))) _;have mP:=Mv.push [] S (.lst []);have el:evL (callF prog (n+q+2)) (.rng2 V1 (.bin .Add J1 V1)) (Er th z V.wr S.len Ψ Ψ) (S.push (.lst []))=.ok (zjh 1 c,[]) (S.push (.lst [])):=by generalize hδ:Er th z V.wr S.len Ψ Ψ=δ;refine W.eq (wL_W _ ?_);subst hδ;left;change⟨by decide,by decide,Int.le_trans (by decide) (show(0:Int)<=z+1 by lia),Int.lt_of_le_of_lt (show z+1<=41 by lia) (by decide)⟩;refine⟨?_,rfl⟩;rw[<-zfn c 1,show(z+1-1).toNat=c by lia];rfl
 generalize hδ:Er th z V.wr S.len Ψ Ψ=δ at el⊢;refine zdo el ?_;subst hδ;have Y:Tn V (S.push (.lst [])) 0 th S.len hs []:=by
  have lt_adr:∀i,i<V.m->∀z∈V.adr i,z<S.len:=λi hi z hz=>by
   have hil:i<hs.length:=by rw[lh];exact hi
   obtain⟨o,e⟩:=X.has (p1 i hs[i] (by simp[hil])).ok z hz;exact get_lt e
  have lth:=get_lt hg;exact⟨lh,zae hg,λi h e=>(p1 i h e).away X mP (by simp),nt,λi hi hm=>by have:=lt_adr i hi _ hm;lia,by lia,λl hl=>by have:=hk l hl;rw[plen];lia,zag _ _,⟨by show S.frz.length<=S.len;unfold St.len;lia,zcv hk (le_refl _)⟩,w.up (λ_ e=>zae e) (λj hj _ e=>zae e),w1,w2,λe=>by have:=get_lt w.w;lia,λj hj e=>by have:=get_lt (w.l j hj);lia⟩
 refine(zhv X (n:=n) (rr:=z) dj c 1 hs [] _ Ψ Ψ 0 tt Y (by lia) (by simp;lia)).mono λf U hU=>?_;obtain⟨⟨a,b,rfl⟩,Z,h1,h2,h4,h3⟩:=hU;dsimp only;rw[List.nil_append,zero_add]at Z;have eU:({U with lk:=(S.push (.lst [])).lk}:R.St)=U:=zoP (h1.trans rfl);rw[eU];refine wS_W _ ?_;left;exact⟨rfl,Z,h1,h2,by rw[plen]at h4;lia,λl o a1 e=>h3 l o (by have:=get_lt e;lia) a1 (zae e)⟩
theorem zaY{S T:R.St}{x:D}{f:PySem.Str}{v:D}(h:zb9 S x f v=Φ T):T.len=S.len:=by unfold zb9 at h;split at h;split at h;split at h;unfold St.put at h;split at h;exact nS h;split at h;exact nS h;cases h;simp[St.len];exact nS h;exact nS h;exact nS h
theorem zoM{S:R.St}{n a c:Nat}{i m r:Int}(e:S.get a=Φ (.ins c []))(b:Fr S a):W (appW (callF prog (n+1)) 33 [.ref a,.int i,.int m,.int r] S) λd T=>d=.non/\Mv [a] S T/\T.len=S.len/\T.get a=Φ (.ins c [("number",.int i),("many",.int m),("rounds",.int r)]):=by refine zbU (F:=zd4) rfl rfl (wS_W _ ?_);obtain⟨t,h,g,o⟩:=zbk (f:="number") (v:=.int i) (gs:=[("number",.int i)]) e b (by simp) rfl;obtain⟨u,j,k,p⟩:=zbk (f:="many") (v:=.int m) (gs:=[("number",.int i),("many",.int m)]) o (b.mv g) (by simp) rfl;obtain⟨w,l,q,s⟩:=zbk (f:="rounds") (v:=.int r) (gs:=[("number",.int i),("many",.int m),("rounds",.int r)]) p ((b.mv g).mv k) (by simp) rfl;left;exists h;left;exists j;left;exists l;left;exact⟨rfl,(g.trans k).trans q,by rw[zaY l,zaY j,zaY h],s⟩
noncomputable def wdO(s w i:Int):Option Int:=if i=s then Φ w else Ψ
noncomputable def refs(N:Nat):Nat->List D
 |0=>[]|c+1=>.ref N::refs (N+2) c
noncomputable def intD(k:Nat):Nat->List D
 |0=>[]|c+1=>.int (k:Nat)::intD (k+1) c
theorem ze7:∀(c k:Nat),(List.range c).map (λ(i:Nat)=>D.int ((i+k:Nat):Int))=intD k c
 |0,_=>rfl| c+1,k=>by rw[List.range_succ_eq_map,Ν,map_map,intD,<-ze7 c (k+1),zero_add];congr 1;refine Ο λi _=>?_;simp only[Function.comp];rw[show Nat.succ i+k=i+(k+1) by lia]
theorem ziP{N:Nat}:∀{c k:Nat},N<=k->0<c->flats N (refs k c)=Δ
 |c+1,k,h,_=>by simp only[refs,flats,flat];simp;lia
theorem zhU{S T:R.St}{l:Nat}(c:T.frz=S.frz++S.new):(R.St.mk S.frz (S.new++T.new) S.lk).get l=T.get l:=by unfold St.get;dsimp only;rw[c];by_cases a:l<S.frz.length;rw[if_pos a,if_pos (by rw[length_append];lia),getElem?_append_left a];rw[if_neg a];by_cases b:l<S.frz.length+S.new.length;rw[if_pos (by rw[length_append];exact b),getElem?_append_left (by lia),getElem?_append_right (by lia)];rw[if_neg (by rw[length_append];exact b),getElem?_append_right (by lia),length_append];congr 1;lia
theorem zhT{S T:R.St}(a:T.frz=S.frz++S.new):(R.St.mk S.frz (S.new++T.new) S.lk).len=T.len:=by unfold St.len;dsimp only;rw[a,length_append,length_append];lia
theorem zoX{S T:R.St}(v:Mv [] S.enter T):Mv [] S ⟨S.frz,S.new++T.new,S.lk⟩:=⟨rfl,rfl,by rw[zhT v.frz];have:=v.len;rw[R.enter_len]at this;exact this,λl o _ e=>by rw[zhU v.frz];exact v.old l o (by simp) (by rw[zcB];exact e)⟩
noncomputable def unD:D->Option Int|.int i=>Φ i|_=>Ψ
theorem zsh(o:Option Int):unD (oD o)=o:=by cases o<;>rfl
noncomputable def gZ(m s h:Int):Int:=(h-s)%m%3
noncomputable def plZ(m s p o:Int):Int:=(if(gZ m s (p%m)=1/\gZ m s o=2)\/(gZ m s (p%m)=2/\gZ m s o=1) then 1-p/m else p/m)*m+o
theorem zdH{m s p o:Int}(h0:0<=o)(a:o<m):plZ m s p o%m=o:=by unfold plZ;rw[Int.add_comm,Int.add_mul_emod_self_right];exact Int.emod_eq_of_lt h0 a
theorem zos{m s p q o:Int}(c:0<m)(e:p%m=q%m)(h:plZ m s p o=plZ m s q o):p=q:=by
 unfold plZ at h;rw[e]at h;have d:p/m=q/m:=by split at h;have:=Int.eq_of_mul_eq_mul_right (Int.ne_of_gt c) (show(1-p/m)*m=(1-q/m)*m by lia);lia;exact Int.eq_of_mul_eq_mul_right (Int.ne_of_gt c) (by lia)
 have a:=Int.mul_ediv_add_emod p m;have b:=Int.mul_ediv_add_emod q m;rw[<-a,<-b,d,e]
theorem zhp{V:Town}{t:Int}(l:∀j h,j<V.m->(((V.say j t h).map (V.go j)).map key).Nodup)(m:∀j d h h',j<d->d<V.m->∀r∈V.say j t h,∀e∈V.say d t h',key (V.go j r)≠key (V.go d e)) :
  ∀(hs:List V.H)(k:Nat),k+hs.length<=V.m->((V.said t k hs).map key).Nodup/\∀r∈V.said t k hs,∃j h,k<=j/\j<V.m/\∃c∈V.say j t h,r=V.go j c
 | [],k,_=>⟨.nil,λr a=>(by cases a)⟩| h::hs,k,o=>by simp only[Χ]at o;obtain⟨p,n⟩:=zhp l m hs (k+1) (by lia);refine⟨?_,λr a=>?_⟩;rw[Town.said,map_append,nodup_append];refine⟨l k h (by lia),p,λx s y u=>?_⟩;obtain⟨r,a,rfl⟩:=mem_map.mp s;obtain⟨c,b,rfl⟩:=mem_map.mp a;obtain⟨e,f,rfl⟩:=mem_map.mp u;obtain⟨j,h',v,g,w,i,rfl⟩:=n e f;exact m k j h h' (by lia) g c b w i;rw[Town.said]at a;rcases mem_append.mp a with a|a;obtain⟨c,b,rfl⟩:=mem_map.mp a;exact⟨k,h,le_refl _,by lia,c,b,rfl⟩;obtain⟨j,h',v,g,q⟩:=n r a;exact⟨j,h',by lia,g,q⟩
theorem zho{V:Town}{t:Int}{B:Nat}(a:∀j h,(V.say j t h).length<=B):∀(hs:List V.H)(k:Nat),(V.said t k hs).length<=B*hs.length
 | [],k=>zero_le _| h::hs,k=>by have b:=zho a hs (k+1);have:=a k h;rw[Town.said,length_append,length_map,Χ,Nat.mul_succ];lia
noncomputable abbrev hnZ(m j:Nat):Int:=((j%m:Nat):Int)
theorem zor{m j c:Nat}{s:Int}{p f:List Int}{o d:Nat}(i:0<m)(k:j≠c)(l:o<m)(g:d<m)(h:p=f->j%m=c%m):(0,p,plZ m s (j:Nat) (o:Nat))≠((0,f,plZ m s (c:Nat) (d:Nat)):K3):=by intro e;simp only[Prod.mk.injEq,true_and]at e;have n:=h e.1;have a:=zdH (m:=(m:Nat)) (s:=s) (p:=(j:Nat)) (o:=(o:Nat)) (by lia) (by lia);have b:=zdH (m:=(m:Nat)) (s:=s) (p:=(c:Nat)) (o:=(d:Nat)) (by lia) (by lia);rw[e.2,b]at a;rw[a]at e;have:=zos (by lia) (by lia) e.2;lia
noncomputable def wdP(m:Nat)(s w1 w2:Int)(j:Nat):Option Int:=if j%m=s.toNat then Φ (if j<m then w1 else w2) else Ψ
noncomputable def whP(N m j:Nat):Nat:=N+2*j+j/m
namespace Or
theorem zhx(n:Nat):((List.range (n:Int).toNat).map λ(k:Nat)=>D.int k)=(hnds n).map D.int:=by rw[ϝ];unfold hnds;rw[map_map];rfl
theorem zdn(n:Nat):(hnds n).length=n:=by simp[hnds]
theorem zq4(n:Nat)(h:Int)(p:List Int):(oth n h p).length<=n:=by have:=length_filter_le (λo=>!decide (o=h)&&!decide (o∈p)) (hnds n);unfold oth;rw[zdn]at this;exact this
noncomputable def kids(n:Nat)(b:Int)(p:List Int):List (List Int):=(oth n b p).map λo=>p++[o]
noncomputable def nxt(n:Nat)(b:Int)(ps:List (List Int)):List (List Int):=ps.flatMap (kids n b)
noncomputable def pz(n:Nat)(s b:Int):Nat->List (List Int)
 |0=>if s=b then [] else [[s]]|k+1=>nxt n b (pz n s b k)
theorem zhR{n:Nat}(hn:n<=7)(b:Int)(p:List Int):(kids n b p).length<=7:=by unfold kids;rw[length_map];exact le_trans (zq4 n b p) hn
theorem zgK{n:Nat}(hn:n<=7)(b:Int):∀ps:List (List Int),(nxt n b ps).length<=7*ps.length
 | []=>by simp[nxt]| p::ps=>by have:=zgK hn b ps;have h:=zhR hn b p;unfold nxt at *;rw[List.flatMap_cons,length_append,Χ];lia
theorem zoH(n:Nat)(b:Int)(ps qs:List (List Int)):nxt n b (ps++qs)=nxt n b ps++nxt n b qs:=by simp[nxt]
theorem zgJ(n:Nat)(b:Int)(p:List Int):nxt n b [p]=kids n b p:=by simp[nxt]
theorem zjE{n:Nat}(hn:n<=7)(s b:Int):∀k,(pz n s b k).length<=7^k
 |0=>by unfold pz;split<;>simp| k+1=>by have:=zjE hn s b k;have h:=zgK hn b (pz n s b k);rw[pz,Nat.pow_succ];lia
theorem zqM{k:Nat}(h:k<=7):7^k<=823543:=le_trans (Nat.pow_le_pow_right (by decide) h) (by decide)
theorem zgz{n:Nat}{s b:Int}:∀{k:Nat},∀p∈pz n s b k,p.length=k+1
 |0,p,h=>by unfold pz at h;split at h;cases h;simp at h;subst h;rfl| k+1,p,h=>by rw[pz,nxt,List.mem_flatMap]at h;obtain⟨q,hq,hp⟩:=h;obtain⟨o,_,rfl⟩:=mem_map.mp hp;rw[length_append,zgz q hq];rfl
theorem zrT{cf:CF}{T:R.St}{n:Nat}{b:Int}{p:List Int}(hp:p.length<=1000)(v:Option D):zaG [0] (evT cf (.and (.cmp .NotEq J0 J2) (.cmp .NotIn J0 J1))) (evE cf (.bin .Add J1 (.tup #[J0]))) ((List.range (n:Int).toNat).map λ(k:Nat)=>D.int k) [v,Φ (pD p),Φ (.int b)] T=.ok ((kids n b p).map pD) T:=by
 rw[zbr (λd=>match d with|.int o=>!decide (o=b)&&!decide (o∈p)|_=>Δ) (λd=>match d with|.int o=>pD (p++[o])|d=>d) _ v (λz hz=>?_) (λz hz _=>?_)];congr 1;rw[zhx,List.filter_map,map_map];unfold kids oth;rw[map_map];rfl;obtain⟨o,_,rfl⟩:=mem_map.mp hz;refine W.eq (wT_W _ ?_);left;refine zi8 (λc=>?_) (λc=>?_);left;exists zfG _ _ _;left;exact⟨by simp at c;simp[c],rfl⟩;exact⟨by simp at c;simp[c],rfl⟩;obtain⟨o,_,rfl⟩:=mem_map.mp hz;refine W.eq (wE_W _ ?_);left;right;left;change by simp only[length_map,Χ,ϩ];lia
 left;exact⟨by simp,rfl⟩
theorem zfc(N:Nat)(ps:List (List Int)):flats N (ps.map pD)=Γ:=by rw[zbM];intro d a;obtain⟨p,_,rfl⟩:=mem_map.mp a;simp
theorem zfs{f l n:Nat}{S:R.St}{b:Int}{ps:List (List Int)}(hg:S.get l=Φ (.lst (ps.map pD)))(hn:n<=7)(hp:∀p∈ps,p.length<=100)(hl:ps.length<=823543) :
  app (callF prog (f+1)) 10 [.ref l,.int n,.int b] S=.ok (.ref S.len) (S.push (.lst ((nxt n b ps).map pD))):=by
 have ll:=get_lt hg;have hlk:([l]:List Nat).contains ((S.frz++S.new).length+0)=Δ:=by rw[ze6];simp;lia
 refine zaX (F:=zc4) rfl rfl ?_;left;right;left;refine zlb hg ?_;left;refine zaw ?_;refine W.mono (zaQ (λi δ T=>(∃v4,δ=[Φ (.ref l),Φ (.int n),Φ (.int b),Φ (.ref ((S.frz++S.new).length+0)),v4])/\T=⟨S.frz++S.new,[.lst ((nxt n b (ps.take i)).map pD)],[l]⟩) (λ_ _=>False) _ 0 _ _ ⟨⟨Ψ,rfl⟩,rfl⟩ ?_) ?_;rintro i z δ T hz ⟨⟨v4,rfl⟩,rfl⟩;rw[zero_add];rw[getElem?_map]at hz;cases e:ps[i]? with
 |none=>rw[e]at hz;exact nS hz
 |some p=>
  rw[e]at hz;cases hz;have hpl:=hp p (mem_of_getElem? e);have hk:=zhR hn b p;have ht:=zgK hn b (ps.take i);have htl:(ps.take i).length<=ps.length:=by rw[ϣ];lia
  refine⟨_,rfl,?_⟩;generalize hδ:List.set _ 4 _=δ1;refine wS_W _ ?_;subst hδ;left;refine zhg rfl ?_;left;change by lia
  left;refine zaw ?_;refine W.of (zrT (by lia) _) ?_;change by simp only[length_map];lia
  left;refine zhg rfl ?_;left;change by simp only[length_append,length_map];lia
  left;refine zk9 hlk ?_;refine⟨⟨_,rfl⟩,?_⟩;rw[zco e,zoH,zgJ,map_append];rfl
 intro r T hr;cases r with|rt d=>exact hr.elim| nx δ=>obtain⟨⟨v4,rfl⟩,rfl⟩:=hr;rw[zero_add,length_map,List.take_length];left;exact zlc (i:=0) rfl (zfc _ _) ⟨rfl,rfl⟩
theorem zm4{n:Nat}{s:Int}:∀k,pz n s s k=[]
 |0=>by simp[pz]|k+1=>by rw[pz,zm4 k];rfl
theorem zn6{f k n:Nat}{S:R.St}{s b:Int}(hn:n<=7)(hs:0<=s/\s<n)(hk:k<=6):app (callF prog (f+3)) 9 [.int n,.int s,.int ((k+1:Nat):Int),.int b] S=.ok (.ref S.len) (S.push (.lst ((pz n s b k).map pD))):=by
 refine zpo (F:=zg3) rfl rfl (wS_W _ ?_);left;refine zgq (by simp;lia) ?_;left;refine zb7 (by simp;lia) ?_;left;specialize zm3 (n:=f) hs;left;refine zi7 (λc=>?_) (λc=>?_);subst c;left;right;left;exact⟨_,rfl,by rw[enter_len];exact le_refl _,(zag _ _).trans (by rw[zm4];rfl),zfc _ _⟩;left;right;left;right;left;change by lia
 left;refine zaw ?_;refine W.mono (zaQ (λi δ T=>∃l v5,δ=[Φ (.int n),Φ (.int s),Φ (.int ((k+1:Nat):Int)),Φ (.int b),Φ (.ref l),v5]/\S.len<=l/\S.len<=T.len/\T.get l=Φ (.lst ((pz n s b i).map pD))) (λ_ _=>False) _ 0 _ _ ?_ ?_) ?_;exact⟨_,Ψ,rfl,by rw[enter_len];exact le_refl _,by show S.len<=(S.enter.push (.lst [D.tup [D.int s]])).len;rw[plen,enter_len];lia,(zag _ _).trans (by simp[pz,c]<;>rfl)⟩;rintro i z δ T hz ⟨l,v5,rfl,h1,h2,h3⟩;rw[zero_add]at h3;rw[zero_add];have hi:i<k:=by have:=(Α.mp hz).1;simpa using this
 have pl:=zjE hn s b i;have p7:=zqM (show i<=7 by lia);refine⟨_,rfl,?_⟩;generalize hδ:List.set _ 5 _=δ1;refine wS_W _ ?_;subst hδ;left;specialize zfs (f:=f+1) h3 hn (λp hp=>by have:=zgz p hp;lia) (by lia);left;refine⟨_,_,rfl,h2,?_,zag _ _⟩;rw[plen];lia;intro r T hr;cases r with
 |rt d=>exact hr.elim| nx δ=>
  obtain⟨l,v5,rfl,h1,h2,h3⟩:=hr;have e:0+((List.range (((k+1:Nat):Int)-1).toNat).map λ(k:Nat)=>D.int (1+(k:Int))).length=k:=by simp
  rw[e]at h3;left;exact⟨l,rfl,h1,h3,zfc _ _⟩
noncomputable def hD(i:Int)(n t:Nat)(s:Int)(w:Option Int)(l:Nat):MO:=.ins 0 [("number",.int i),("many",.int n),("rounds",.int t),("sender",.int s),("word",oD w),("notes",.ref l)]
section
variable{S:R.St}{a l n t:Nat}{i s:Int}{w:Option Int}
theorem zfd(e:S.get a=Φ (hD i n t s w l)):((zcj S (.ref a)).bind λp=>p.2.lookup ("number":PySem.Str))=Φ (.int i):=zaK e rfl
theorem znj(e:S.get a=Φ (hD i n t s w l)):((zcj S (.ref a)).bind λp=>p.2.lookup ("many":PySem.Str))=Φ (.int n):=zaK e rfl
theorem zh0(e:S.get a=Φ (hD i n t s w l)):((zcj S (.ref a)).bind λp=>p.2.lookup ("sender":PySem.Str))=Φ (.int s):=zaK e rfl
theorem zrL(e:S.get a=Φ (hD i n t s w l)):((zcj S (.ref a)).bind λp=>p.2.lookup ("word":PySem.Str))=Φ (oD w):=zaK e rfl
theorem zgW(e:S.get a=Φ (hD i n t s w l)):((zcj S (.ref a)).bind λp=>p.2.lookup ("notes":PySem.Str))=Φ (.ref l):=zaK e rfl
end
theorem Mv.put{S:R.St}{l:Nat}{o u:MO}(e:S.get l=Φ o)(a:S.frz.length<=l)(b:S.lk.contains l=Δ):∃T,S.put l u=Φ T/\Mv [l] S T/\T.get l=Φ u:=by obtain⟨T,c,d,f,j,g,h⟩:=zeQ (S:=S) (l:=l) u a b;exact⟨T,c,⟨d,f,by lia,λm o i e=>by rw[g m (by simpa using i)];exact e⟩,h (get_lt e)⟩
noncomputable def ltw(n:Nat)(i:Int)(p:List Int)(d:D):List D:=((hnds n).filter λo=>!decide (o∈p++[i])).map λo=>.tup [pD (p++[i]),.int o,d]
theorem zgQ{n:Nat}(hn:n<=7)(i:Int)(p:List Int)(d:D):(ltw n i p d).length<=7:=by unfold ltw;rw[length_map];refine le_trans (length_filter_le _ _) ?_;rw[zdn];exact hn
theorem zth{cf:CF}{T:R.St}{n:Nat}{i:Int}{p:List Int}{d:D}(v:Option D):zaG [0] (evT cf (.cmp .NotIn J0 J1)) (evE cf (.tup #[J1,J0,J2])) ((List.range (n:Int).toNat).map λ(k:Nat)=>D.int k) [v,Φ (pD (p++[i])),Φ d] T=.ok (ltw n i p d) T:=by rw[zbr (λx=>match x with|.int o=>!decide (o∈p++[i])|_=>Δ) (λx=>match x with|.int o=>.tup [pD (p++[i]),.int o,d]|x=>x) _ v (λz hz=>?_) (λz hz _=>?_)];congr 1;rw[zhx,List.filter_map,map_map];rfl;obtain⟨o,_,rfl⟩:=mem_map.mp hz;refine W.eq (wT_W _ ?_);left;exists zfG _ _ _;left;exact⟨rfl,rfl⟩;obtain⟨o,_,rfl⟩:=mem_map.mp hz;refine W.eq (wE_W _ ?_);left;right;left;exact⟨rfl,rfl⟩
section
variable{S:R.St}{a l n t:Nat}{i s:Int}{w:Option Int}
theorem m_lw{f:Nat}{p:List Int}{d:D}(e:S.get a=Φ (hD i n t s w l))(hn:n<=7)(hp:p.length<=100):appW (callF prog (f+1)) 24 [.ref a,pD p,d] S=.ok (.ref S.len) (S.push (.lst (ltw n i p d))):=by
 have hl:=zgQ hn i p d;refine zg8 (F:=zaM) rfl rfl ?_;left;exists zfd e;left;right;left;change by simp only[length_map,Χ,ϩ];lia
 left;rw[show p.map D.int++[D.int i]=(p++[i]).map D.int by simp];exists znj e;left;change by lia
 left;refine zaw ?_;refine W.of (zth Ψ) ?_;change le_trans hl (by decide);left;change le_trans hl (by decide);left;exact⟨rfl,rfl⟩
noncomputable def wd(b:List (List Int×D))(p:List Int):D:=(valP b p).getD (.int 0)
noncomputable def sayK(n:Nat)(i:Int)(kvs:List (List Int×D))(ps:List (List Int)):List D:=ps.flatMap λp=>ltw n i p (wd kvs p)
noncomputable def sayL(n:Nat)(i s:Int)(w:Option Int)(kvs:List (List Int×D)):Nat->List D
 |0=>[]|1=>if i=s then ltw n i [] (oD w) else []|k+2=>sayK n i kvs (pz n s i k)
theorem zhl{n:Nat}(hn:n<=7)(i:Int)(kvs:List (List Int×D)):∀ps:List (List Int),(sayK n i kvs ps).length<=7*ps.length
 | []=>by simp[sayK]| p::ps=>by have:=zhl hn i kvs ps;have h:=zgQ hn i p (wd kvs p);unfold sayK at *;rw[List.flatMap_cons,length_append,Χ];lia
theorem zlA(n:Nat)(i:Int)(kvs:List (List Int×D))(ps qs:List (List Int)):sayK n i kvs (ps++qs)=sayK n i kvs ps++sayK n i kvs qs:=by simp[sayK]
theorem zlz(n:Nat)(i:Int)(kvs:List (List Int×D))(p:List Int):sayK n i kvs [p]=ltw n i p (wd kvs p):=by simp[sayK]
theorem zoN{x y:Nat}{xs ys:List D}(b:S.get x=Φ (.lst xs))(c:S.get y=Φ (.lst ys)):lsts S (.ref x) (.ref y)=Φ (x,xs,ys):=by unfold lsts;dsimp only;rw[b,c]
theorem zsR{f k:Nat}{kvs:List (List Int×D)}(e:S.get a=Φ (hD i n t s w l))(g:S.get l=Φ (.dtp kvs))(hn:n<=7)(hs:0<=s/\s<n)(hk:k<=7)(hlk:∀l∈S.lk,l<S.len) :
  W (appW (callF prog (f+4)) 25 [.ref a,.int ((k+1:Nat):Int)] S) λd T=>∃m,d=.ref m/\Mv [] S T/\S.len<=m/\T.get m=Φ (.lst (sayL n i s w kvs (k+1))):=by
 refine zbU (F:=zcc) rfl rfl (wS_W _ ?_);cases k with
 |zero=>left;exists zfd e;left;exists zh0 e;left;refine zi7 (λc=>?_) (λc=>?_);left;exists zay e;left;exists rfl;left;change rfl;left;right;left;exists zrL e;left;specialize(m_lw (p:=[]) (f:=f+2) (d:=oD w) e hn (by simp));left;exact⟨_,rfl,Mv.push _ _ _,le_refl _,by rw[zag];simp[sayL,c]⟩;left;right;left;exact⟨_,rfl,Mv.push _ _ _,le_refl _,by rw[zag];simp[sayL,c]⟩| succ k=>
  have pl:=zjE hn s i k;have p7:=zqM (show k<=7 by lia);have frl:S.frz.length<=S.len:=by simp[St.len]
  left;right;left;have e1:(S.push (.lst [])).get a=Φ (hD i n t s w l):=zae e;exists znj e1;left;exists zh0 e1;left;exists zfd e1;left;rw[show(((k+1+1:Nat):Int)-1)=((k+1:Nat):Int) by lia];specialize zn6 (f:=f) hn hs (show k<=6 by lia);left;exists zag _ _;left;refine zaw ?_;have v0:Mv [] (S.push (.lst [])) ((S.push (.lst [])).push (.lst ((pz n s i k).map pD))):=Mv.push [] _ _;have lS:(S.push (.lst [])).len=S.len+1:=plen _ _;refine W.mono (zaQ (λm δ T=>(∃v3,δ=[Φ (.ref a),Φ (.int ((k+1+1:Nat):Int)),Φ (.ref S.len),v3])/\Mv [S.len] ({(S.push (.lst [])).push (.lst ((pz n s i k).map pD)) with lk:=(S.push (.lst [])).len::S.lk}:R.St) T/\T.get S.len=Φ (.lst (sayK n i kvs ((pz n s i k).take m)))) (λ_ _=>False) _ 0 _ _ ⟨⟨Ψ,rfl⟩,Mv.refl _ _,zae (zag _ _)⟩ ?_) ?_;rintro m z δ T hz ⟨⟨v3,rfl⟩,mv,gT⟩;rw[zero_add]at gT;rw[zero_add];rw[getElem?_map]at hz;cases ep:(pz n s i k)[m]? with
  |none=>rw[ep]at hz;exact nS hz
  |some p=>
   rw[ep]at hz;cases hz;have hpl:=zgz p (mem_of_getElem? ep);have la:=get_lt e;have ll:=get_lt g;have eT:=mv.old a _ (by simp;lia) (zae e1);have gl:=mv.old l _ (by simp;lia) (zae (zae g));have hlt:=zgQ hn i p (wd kvs p);have ht:=zhl hn i kvs ((pz n s i k).take m);have htl:((pz n s i k).take m).length<=(pz n s i k).length:=by rw[ϣ];lia
   obtain⟨U,u1,u2,u3⟩:=Mv.put (S:=T.push (.lst (ltw n i p (wd kvs p)))) (l:=S.len) (u:=.lst (sayK n i kvs ((pz n s i k).take m)++ltw n i p (wd kvs p))) (zae gT) (by show T.frz.length<=_;rw[mv.frz];exact frl) (by show T.lk.contains _=Δ;rw[mv.lk];show((S.push (.lst [])).len::S.lk).contains _=Δ;rw[contains_cons,zcv hlk (le_refl _),Bool.or_false,lS];simp);refine⟨_,rfl,?_⟩;generalize hδ:List.set _ 3 _=δ1;refine wS_W _ ?_;subst hδ;left;exists gT;left;exists zay eT;left;exists rfl;left;change rfl;left;exists zgW eT;left;change by simp only[isDt,gl]
   left;exists zkU gl p;left;specialize(m_lw (f:=f+2) (d:=wd kvs p) eT hn (by lia));left;exists zoN (zae gT) (zag _ _);left;change by simp only[length_append];lia
   left;exists u1;left;refine⟨⟨_,rfl⟩,(mv.trans (Mv.push _ _ _)).trans u2,?_⟩;rw[u3,zco ep,zlA,zlz]
  intro r T hr;cases r with|rt d=>exact hr.elim| nx δ=>obtain⟨⟨v3,rfl⟩,mv,gT⟩:=hr;rw[zero_add,length_map,List.take_length]at gT;left;refine⟨_,rfl,⟨mv.frz,rfl,?_,λm o _ eo=>mv.old m o (by have:=get_lt eo;simp;lia) (zae (zae eo))⟩,le_refl _,gT⟩;have:=mv.len;have h2:((S.push (.lst [])).push (.lst ((pz n s i k).map pD))).len<=T.len:=this;rw[plen,plen]at h2;show S.len<=T.len;lia
end
noncomputable abbrev Kk:=List (List Int×Option Int)
noncomputable def gK(g:Option Int->D)(K:Kk):List (List Int×D):=K.map λx=>(x.1,g x.2)
noncomputable def hv(o:Option Int):D:=.int (o.getD 0)
noncomputable def setK(K:Kk)(p:List Int)(o:Option Int):Kk:=if p∈K.map (·.1) then K else K++[(p,o)]
noncomputable def za5(K Ls:Kk):Kk:=Ls.foldl (λK x=>setK K x.1 x.2) K
theorem zlm(K:Kk)(p:List Int)(o:Option Int):(setK K p o).length<=K.length+1:=by unfold setK;split<;>simp
theorem zcI:∀(Ls K:Kk),(za5 K Ls).length<=K.length+Ls.length
 | [],K=>by simp[za5]| x::Ls,K=>by have:=zcI Ls (setK K x.1 x.2);have h:=zlm K x.1 x.2;simp only[za5,List.foldl_cons,Χ]at *;lia
theorem zgv(K Ls:Kk)(x:List Int×Option Int):za5 K (Ls++[x])=setK (za5 K Ls) x.1 x.2:=by simp[za5,List.foldl_append]
theorem zhh(g:Option Int->D)(p:List Int):∀K:Kk,valP (gK g K) p=(K.find? λx=>decide (x.1=p)).map λx=>g x.2
 | []=>rfl| x::K=>by have ih:=zhh g p K;unfold valP gK at *;rw[Ν,ϖ,ϖ];by_cases c:x.1=p;simp[c];simp only[c,decide_false];exact ih
theorem zld(g:Option Int->D)(p:List Int)(K:Kk):(valP (gK g K) p).isSome=decide (p∈K.map (·.1)):=by rw[zhh];induction K with|nil=>rfl| cons x K ih=>rw[ϖ];by_cases c:x.1=p;simp[c];simp only[c,decide_false,Ν,mem_cons];rw[ih];have:p≠x.1:=λz=>c z.symm;simp[this]
theorem zed(g:Option Int->D)(p:List Int)(o:Option Int):∀K:Kk,p∉K.map (·.1)->putP (gK g K) p (g o)=gK g (K++[(p,o)])
 | [],_=>rfl| x::K,h=>by rw[Ν,mem_cons,not_or]at h;have ih:=zed g p o K h.2;have c:¬x.1=p:=λz=>h.1 z.symm;show putP ((x.1,g x.2)::gK g K) p (g o)=_;rw[putP,if_neg c,ih];rfl
theorem zrG(g:Option Int->D)(K:Kk):(gK g K).length=K.length:=by simp[gK]
theorem zmu{S:R.St}{l:Nat}{K:Kk}(g:Option Int->D)(e:S.get l=Φ (.dtp (gK g K)))(h1:S.frz.length<=l)(h2:S.lk.contains l=Δ)(h3:K.length<16777216)(p:List Int)(o:Option Int) :
  ∃d T,zf9 S (.ref l) (pD p) (g o)=Φ (d,T)/\Mv [l] S T/\T.get l=Φ (.dtp (gK g (setK K p o))):=by
 have hv:=zld g p K;have hg:=zkU e p;unfold setK;cases c:valP (gK g K) p with
 |some u=>
  rw[c]at hv hg;have:p∈K.map (·.1):=by simpa using hv.symm
  rw[if_pos this];exact⟨u,S,by unfold zf9;rw[hg],Mv.refl _ _,e⟩
 |none=>
  rw[c]at hv hg;have:p∉K.map (·.1):=by simpa using hv.symm
  rw[if_neg this];obtain⟨T,t1,t2,t3⟩:=Mv.put (u:=.dtp (putP (gK g K) p (g o))) e h1 h2;refine⟨g o,T,?_,t2,by rw[t3,zed g p o K this]⟩;unfold zf9;rw[hg];dsimp only;unfold dPut;dsimp only;rw[e];dsimp only;rw[zej];dsimp only[Ϛ];rw[if_pos (by rw[zrG];exact h3),t1];rfl
noncomputable def lD(x:List Int×Option Int):D:=.tup [pD x.1,oD x.2]
section
variable{S:R.St}{a l n t:Nat}{i s:Int}{w:Option Int}{K:Kk}
theorem zrk{f q:Nat}{j:Int}{Ls:Kk}(e:S.get a=Φ (hD i n t s w l))(g:S.get l=Φ (.dtp (gK hv K)))(gq:S.get q=Φ (.lst (Ls.map lD)))(hf:Fr S l)(hl:K.length+Ls.length<16777216) :
  W (appW (callF prog (f+1)) 23 [.ref a,.int j,.ref q] S) λd T=>d=.non/\Mv [l] S T/\T.get l=Φ (.dtp (gK hv (za5 K Ls))):=by
 have hql:q≠l:=λz=>by rw[z,g]at gq;cases gq
 have hal:a≠l:=λz=>by rw[z,g]at e;cases e
 refine zbU (F:=zbS) rfl rfl (wS_W _ ?_);left;exists gq;left;refine zaw ?_;refine W.mono (zaQ (λm δ T=>(∃v3 v4,δ=[Φ (.ref a),Φ (.int j),Φ (.ref q),v3,v4])/\Mv [l] {S with lk:=q::S.lk} T/\T.get l=Φ (.dtp (gK hv (za5 K (Ls.take m))))) (λ_ _=>False) _ 0 _ _ ⟨⟨Ψ,Ψ,rfl⟩,Mv.refl _ _,g⟩ ?_) ?_;rintro m z δ T hz ⟨⟨v3,v4,rfl⟩,mv,gT⟩;rw[zero_add]at gT;rw[zero_add];rw[getElem?_map]at hz;cases ex:Ls[m]? with
 |none=>rw[ex]at hz;exact nS hz
 |some x=>
  rw[ex]at hz;cases hz;obtain⟨p,o⟩:=x;have eT:=mv.old a _ (by simpa using hal) (show St.get {S with lk:=q::S.lk} a=_ from e);have hlen:=zcI (Ls.take m) K;have htl:(Ls.take m).length<=Ls.length:=by rw[ϣ];lia
  obtain⟨d,U,u1,u2,u3⟩:=zmu hv gT (by rw[mv.frz];exact hf.f) (by rw[mv.lk];show(q::S.lk).contains l=Δ;rw[contains_cons,hf.k,Bool.or_false];simpa using λz=>hql z.symm) (by lia) p o;refine⟨_,rfl,?_⟩;generalize hδ:zd5 _ _ _=δ1;refine wS_W _ ?_;subst hδ;have fin:∀b:Ev,b=[Φ (.ref a),Φ (.int j),Φ (.ref q),Φ (pD p),Φ (oD o)]->(∃v3 v4,b=[Φ (.ref a),Φ (.int j),Φ (.ref q),v3,v4])/\Mv [l] {S with lk:=q::S.lk} U/\U.get l=Φ (.dtp (gK hv (za5 K (Ls.take (m+1))))):=λb hb=>⟨⟨_,_,hb⟩,mv.trans u2,by rw[u3,zco ex,zgv]⟩;cases o with
  |none=>
   left;exists zgW eT;left;change by simp only[isDt,gT]
   left;exists u1;left;exact fin _ rfl
  |some v=>
   left;exists zgW eT;left;change by simp only[isDt,gT]
   left;exists u1;left;exact fin _ rfl
 intro r T hr;cases r with|rt d=>exact hr.elim| nx δ=>obtain⟨⟨v3,v4,rfl⟩,mv,gT⟩:=hr;rw[zero_add,length_map,List.take_length]at gT;left;exact⟨rfl,⟨mv.frz,rfl,mv.len,λm o hm eo=>mv.old m o hm eo⟩,gT⟩
end
theorem zqs{S:R.St}{n a m t:Nat}{i s:Int}{w:Option Int}(e:S.get a=Φ (.ins 0 []))(hf:Fr S a) :
  W (appW (callF prog (n+2)) 22 [.ref a,.int i,.int (m:Nat),.int (t:Nat),.int s,oD w] S) λd T=>d=.non/\Mv [a] S T/\T.len=S.len+1/\T.get a=Φ (hD i m t s w S.len)/\T.get S.len=Φ (.dtp []):=by
 refine zbU (F:=zbR) rfl rfl (wS_W _ ?_);left;refine zbh ((zoM (n:=n) (m:=(m:Nat)) (r:=(t:Nat)) e hf).mono λd T hT=>?_);obtain⟨_,v,l0,g⟩:=hT;have f:=hf.mv v;obtain⟨T1,a1,v1,g1⟩:=zbk (f:="sender") (v:=.int s) (gs:=[("number",.int i),("many",.int (m:Nat)),("rounds",.int (t:Nat)),("sender",.int s)]) g f (by simp) rfl;obtain⟨T2,a2,v2,g2⟩:=zbk (f:="word") (v:=oD w) (gs:=[("number",.int i),("many",.int (m:Nat)),("rounds",.int (t:Nat)),("sender",.int s),("word",oD w)]) g1 (f.mv v1) (by simp) rfl;have l2:T2.len=S.len:=by rw[zaY a2,zaY a1,l0]
 have vp:=Mv.push [a] T2 (.dtp []);obtain⟨T3,a3,v3,g3⟩:=zbk (S:=T2.push (.dtp [])) (f:="notes") (v:=.ref T2.len) (gs:=[("number",.int i),("many",.int (m:Nat)),("rounds",.int (t:Nat)),("sender",.int s),("word",oD w),("notes",.ref T2.len)]) (zae g2) (((f.mv v1).mv v2).mv vp) (by simp) rfl;left;exists a1;left;exists a2;left;exists a3;left;have lt:=get_lt e;refine⟨rfl,(((v.trans v1).trans v2).trans vp).trans v3,by rw[zaY a3,plen,l2],by rw[l2]at g3;exact g3,?_⟩;rw[<-l2];exact v3.old _ _ (by simp;lia) (zag _ _)
noncomputable def mkE:CE:=.mk 0 22 "OralHand" 0 #[J0,J1,J2,J3,.ite (.cmp .Eq J0 J3) J4 (.con D.non)]
noncomputable def wdO(s w i:Int):Option Int:=if i=s then Φ w else Ψ
noncomputable abbrev Eh(o:Option D)(m t:Nat)(s w:Int):Ev:=[o,Φ (.int (m:Nat)),Φ (.int (t:Nat)),Φ (.int s),Φ (.int w)]
theorem zrg{T:R.St}{n:Nat}{m t:Nat}{s w i:Int}(hk:∀l∈T.lk,l<T.len) :
  W (evE (callF prog (n+2)) mkE (Eh (Φ (.int i)) m t s w) T) λd U=>d=.ref T.len/\Mv [] T U/\U.len=T.len+2/\U.get T.len=Φ (hD i m t s (wdO s w i) (T.len+1))/\U.get (T.len+1)=Φ (.dtp []):=by
 have fin:∀o:Option Int,o=wdO s w i->wOut (appW (callF prog (n+2)) 22 [.ref T.len,.int i,.int (m:Nat),.int (t:Nat),.int s,oD o] (T.push (.ins 0 []))) λd S2=>zaP (zkj d=Γ) (D.ref T.len=.ref T.len/\Mv [] T S2/\S2.len=T.len+2/\S2.get T.len=Φ (hD i m t s (wdO s w i) (T.len+1))/\S2.get (T.len+1)=Φ (.dtp [])):=by rintro o rfl;refine zbh ((zqs (n:=n) (zag T (.ins 0 [])) ⟨by show T.frz.length<=T.len;unfold St.len;lia,zcv hk (le_refl _)⟩).mono λd U hU=>?_);obtain⟨rfl,v,l,g1,g2⟩:=hU;rw[plen]at g1 g2 l;refine wNeed_of rfl ⟨rfl,⟨v.frz,v.lk,by lia,λm o _ e=>v.old m o (by have:=get_lt e;simp;lia) (zae e)⟩,by lia,g1,g2⟩
 refine wE_W _ ?_;unfold mkE;left;refine zi7 (λc=>?_) (λc=>?_);left;exact fin (Φ w) (by unfold wdO;rw[if_pos c]);left;exact fin Ψ (by unfold wdO;rw[if_neg c])
structure Hs(U:R.St)(N k c m t:Nat)(s w:Int):Prop where
 a:∀i,i<c->U.get (N+2*i)=Φ (hD ((k+i:Nat):Int) m t s (wdO s w ((k+i:Nat):Int)) (N+2*i+1))/\U.get (N+2*i+1)=Φ (.dtp [])
theorem zjW{n:Nat}{m t:Nat}{s w:Int}:∀(c k:Nat)(T:R.St)(o:Option D),(∀l∈T.lk,l<T.len)->
  W (zaG [0] (evT (callF prog (n+2)) (.tst (.con (D.bl Γ)))) (evE (callF prog (n+2)) mkE) (intD k c) (Eh o m t s w) T) λds U=>ds=refs T.len c/\Mv [] T U/\U.len=T.len+2*c/\Hs U T.len k c m t s w
 |0,k,T,o,hk=>by show W (Out.ok [] T) _;rw[W_ok];exact⟨rfl,Mv.refl _ _,rfl,⟨λi hi=>by lia⟩⟩| c+1,k,T,o,hk=>by rw[intD,zaG];show W (Out.bind (Out.ok Γ T) _) _;rw[za2];show W (Out.bind (evE (callF prog (n+2)) mkE (Eh (Φ (.int (k:Nat))) m t s w) T) _) _;rw[zaa];refine(zrg (n:=n) hk).mono λd U hU=>?_;obtain⟨rfl,v,l,g1,g2⟩:=hU;rw[zaa];refine(zjW c (k+1) U _ (by rw[v.lk,l];exact λx hx=>by have:=hk x hx;lia)).mono λds W' hV=>?_;obtain⟨rfl,v2,l2,H⟩:=hV;rw[W_ok];rw[l]at H l2⊢;refine⟨rfl,v.trans v2,by lia,⟨λi hi=>?_⟩⟩;cases i with|zero=>exact⟨v2.old _ _ (by simp) g1,v2.old _ _ (by simp) g2⟩| succ i=>have:=H.a i (by lia);rw[show T.len+2+2*i=T.len+2*(i+1) by lia,show k+1+i=k+(i+1) by lia]at this;exact this
theorem s_hands{S:R.St}{n m t:Nat}{s w:Int}(m1:1<=m)(m7:m<=7) :
  W (app (callF prog (n+3)) 11 [.int (m:Nat),.int (t:Nat),.int s,.int w] S) λd U=>d=.ref (S.len+2*m)/\Mv [] S U/\U.get (S.len+2*m)=Φ (.lst (refs S.len m))/\Hs U S.len 0 m m t s w/\U.len=S.len+2*m+1:=by
 refine zr2 rfl rfl ?_;left;change⟨by cutsat,by cutsat⟩;left;refine zaw ?_;have e:(List.range ((m:Nat):Int).toNat).map (λ(k:Nat)=>D.int (k:Nat))=intD 0 m:=by rw[<-ze7 m 0];rfl
 rw[e];refine(zjW m 0 S.enter Ψ (λl hl=>by cases hl)).mono λds U hU=>?_;obtain⟨rfl,v,l,H⟩:=hU;have lr:∀(c N:Nat),(refs N c).length=c:=λc=>by induction c with|zero=>intro N;rfl|succ c ih=>intro N;rw[refs,Χ,ih]
 change by rw[lr];cutsat
 left;change by rw[lr];cutsat
 rw[R.enter_len]at H l⊢;have vl:Mv [] S.enter ({U with lk:=S.enter.lk}:R.St):=⟨v.frz,rfl,v.len,v.old⟩;have vp:=vl.trans (Mv.push [] _ (.lst (refs S.len m)));refine zi9 (l:=U.len) (by cutsat) (zag ({U with lk:=S.enter.lk}:R.St) (.lst (refs S.len m))) (ziP (le_refl _) m1) ?_;have kg:∀x,(R.St.mk S.frz (S.new++(({U with lk:=S.enter.lk}:R.St).push (.lst (refs S.len m))).new) S.lk).get x=(({U with lk:=S.enter.lk}:R.St).push (.lst (refs S.len m))).get x:=λx=>zhU vp.frz;refine⟨by rw[l],zoX vp,?_,⟨λi hi=>?_⟩,?_⟩;rw[kg,<-l];exact zag ({U with lk:=S.enter.lk}:R.St) _;obtain⟨h1,h2⟩:=H.a i hi;rw[kg,kg];exact⟨zae h1,zae h2⟩;rw[zhT vp.frz,plen];show U.len+1=_;rw[l]
noncomputable def ltwR(n:Nat)(i:Int)(p:List Int)(d:D):List Row:=((hnds n).filter λo=>!decide (o∈p++[i])).map λo=>⟨p++[i],o,d⟩
theorem zrl(n:Nat)(i:Int)(p:List Int)(d:D):ltw n i p d=(ltwR n i p d).map rD:=by unfold ltw ltwR;rw[map_map];rfl
noncomputable def sayR(n:Nat)(i s:Int)(w:Option Int)(kvs:List (List Int×D)):Nat->List Row
 |0=>[]|1=>if i=s then ltwR n i [] (oD w) else []|k+2=>(pz n s i k).flatMap λp=>ltwR n i p (wd kvs p)
theorem zcY(n:Nat)(i s:Int)(w:Option Int)(kvs:List (List Int×D)):sayR n i s w kvs 1=if i=s then ltwR n i [] (oD w) else []:=rfl
theorem zcX(n:Nat)(i s:Int)(w:Option Int)(kvs:List (List Int×D))(k:Nat):sayR n i s w kvs (k+2)=(pz n s i k).flatMap λp=>ltwR n i p (wd kvs p):=rfl
theorem zqn(n:Nat)(i s:Int)(w:Option Int)(kvs:List (List Int×D)):∀k,sayL n i s w kvs k=(sayR n i s w kvs k).map rD
 |0=>rfl|1=>by rw[zcY,show sayL n i s w kvs 1=if i=s then ltw n i [] (oD w) else [] from rfl];split<;>simp[zrl]| k+2=>by rw[zcX,show sayL n i s w kvs (k+2)=(pz n s i k).flatMap λp=>ltw n i p (wd kvs p) from rfl,List.map_flatMap];simp only[zrl]
theorem zhN(n:Nat)(i:Int)(p:List Int)(d:D):(ltwR n i p d).length<=n:=by unfold ltwR;rw[length_map];exact le_trans (length_filter_le _ _) (by rw[zdn];exact le_refl _)
theorem zcA{n:Nat}{o:Int}(h:o∈hnds n):∃k:Nat,k<n/\o=(k:Nat):=by unfold hnds at h;obtain⟨k,a,rfl⟩:=mem_map.mp h;exact⟨k,mem_range.mp a,rfl⟩
theorem zdm{n:Nat}{i:Int}{p:List Int}{d:D}{r:Row}(h:r∈ltwR n i p d):∃k:Nat,k<n/\r=⟨p++[i],(k:Nat),d⟩:=by unfold ltwR at h;obtain⟨o,ho,rfl⟩:=mem_map.mp h;obtain⟨k,hk,rfl⟩:=zcA (mem_filter.mp ho).1;exact⟨k,hk,rfl⟩
theorem zpv(K:Kk)(p:List Int):∃v,wd (gK hv K) p=.int v:=by unfold wd;rw[zhh];cases K.find? λx=>decide (x.1=p) with|none=>exact⟨0,rfl⟩|some x=>exact⟨_,rfl⟩
theorem zdh{n:Nat}{i s:Int}{w:Option Int}{K:Kk}{k:Nat}{r:Row}(h:r∈sayR n i s w (gK hv K) k):∃(q:List Int) (o:Nat) (x:Option Int),o<n/\r=⟨q++[i],(o:Nat),oD x⟩:=by
 match k,h with
 |1,h=>rw[zcY]at h;split at h;obtain⟨k,hk,rfl⟩:=zdm h;exact⟨[],k,w,hk,rfl⟩;cases h
 |k+2,h=>rw[zcX]at h;obtain⟨p,_,h⟩:=List.mem_flatMap.mp h;obtain⟨k,hk,rfl⟩:=zdm h;obtain⟨v,hv⟩:=zpv K p;rw[hv];exact⟨p,k,Φ v,hk,rfl⟩
theorem zen(n:Nat):(hnds n).Nodup:=by unfold hnds;rw[List.nodup_iff_pairwise_ne,pairwise_map];exact List.nodup_range.imp λ{a b} h e=>h (by exact_mod_cast e)
theorem zoC(n:Nat)(b:Int)(p:List Int):(oth n b p).length<=n:=by unfold oth;exact le_trans (length_filter_le _ _) (by rw[zdn];exact le_refl _)
theorem zqD{n:Nat}(n1:1<=n)(s i:Int):∀k,k<=1->(pz n s i k).length<=n
 |0,_=>by unfold pz;split<;>simp;omega| 1,_=>by rw[pz,pz];split;simp[nxt];rw[zgJ,kids,length_map];exact zoC n i [s]
theorem zsD{n:Nat}(s i:Int):∀k,k<=1->(pz n s i k).Nodup
 |0,_=>by unfold pz;split<;>simp| 1,_=>by rw[pz,pz];split;simp[nxt];rw[zgJ,kids,List.nodup_iff_pairwise_ne,pairwise_map];have h:(oth n i [s]).Nodup:=(zen n).filter _;exact h.imp λ{a b} h e=>h (by simpa using e)
theorem zly{n:Nat}{i s:Int}{w:Option Int}{kvs:List (List Int×D)}{k:Nat}(n1:1<=n)(n6:n<=6)(hk:k<=3):(sayR n i s w kvs k).length<=36:=by
 match k,hk with
 |0,_=>simp[sayR]| 1,_=>rw[zcY];split;have:=zhN n i [] (oD w);lia;simp| k+2,hk=>
  rw[zcX];have h:=zqD n1 s i k (by lia);have:∀ps:List (List Int),(ps.flatMap λp=>ltwR n i p (wd kvs p)).length<=6*ps.length:=λps=>by induction ps with|nil=>simp| cons p ps ih=>have:=zhN n i p (wd kvs p);rw[List.flatMap_cons,length_append,Χ];lia
  have:=this (pz n s i k);lia
noncomputable def cvO(B:List Bxl):Kk:=B.map λx=>(x.1,unD x.2)
noncomputable def oLt(x:Bxl):Prop:=∃o:Option Int,x.2=oD o
theorem cv_O:∀{B:List Bxl},(∀x∈B,oLt x)->B.map bxD=(cvO B).map lD
 | [],_=>rfl| x::B,h=>by obtain⟨o,e⟩:=h x (by simp);have ih:=cv_O (B:=B) λy hy=>h y (by simp[hy]);unfold cvO at ih⊢;rw[Ν,Ν,Ν,ih];congr 1;obtain⟨p,d⟩:=x;have e:d=oD o:=e;subst e;show D.tup [pD p,oD o]=.tup [pD p,oD (unD (oD o))];rw[zsh]
noncomputable def rg(m t:Nat)(s w1 w2:Int)(N wr:Nat)(la:Nat->Nat):Town where
 H:=Kk
 m:=2*m
 who j:=whP N m j
 adr j:=[whP N m j,whP N m j+1]
 ok S d j K:=S.get (whP N m j)=Φ (hD (hnZ m j) m t s (wdP m s w1 w2 j) (whP N m j+1))/\S.get (whP N m j+1)=Φ (.dtp (gK hv K))/\K.length<=450*d
 say j t K:=sayR m (hnZ m j) s (wdP m s w1 w2 j) (gK hv K) t.toNat
 hear _ _ K B:=za5 K (cvO B)
 lt:=oLt
 tt t:=t=1\/t=2\/t=3
 wr:=wr
 la:=la
 nh:=m
 rt j o:=plZ (m:Nat) s (j:Nat) o
 mx:=432
theorem zne{m j:Nat}{s:Int}{p:List Int}{d:D}:(((ltwR m (hnZ m j) p d).map λr:Row=>(⟨r.p,plZ (m:Nat) s (j:Nat) r.to,r.w⟩:Row)).map key).Nodup:=by
 unfold ltwR;rw[map_map,map_map,List.nodup_iff_pairwise_ne,pairwise_map];refine((zen m).filter _).imp_of_mem λ{a c} ha hc q e=>?_;obtain⟨x,hx,rfl⟩:=zcA (mem_filter.mp ha).1;obtain⟨y,hy,rfl⟩:=zcA (mem_filter.mp hc).1;have e:plZ (m:Nat) s (j:Nat) (x:Nat)=plZ (m:Nat) s (j:Nat) (y:Nat):=by simp only[Function.comp,key,Prod.mk.injEq]at e;exact e.2.2
 have h1:=zdH (m:=(m:Nat)) (s:=s) (p:=(j:Nat)) (o:=(x:Nat)) (by lia) (by lia);have h2:=zdH (m:=(m:Nat)) (s:=s) (p:=(j:Nat)) (o:=(y:Nat)) (by lia) (by lia);rw[e,h2]at h1;exact q h1.symm
theorem rg_ok{m t:Nat}{s w1 w2:Int}{N wr:Nat}{la:Nat->Nat}(m1:1<=m)(m6:m<=6)(hs:0<=s/\s<m):TownOk (rg m t s w1 w2 N wr la) 7:=by
 refine⟨λ{S T d j h} o g=>?_,λ{S d j h} o z hz=>?_,λ{S d j h} t n tt hk hj o=>?_,λj t h r hr=>?_,λj t h r hr=>?_,λj=>by simp[rg],λx hx M=>?_,λ{S d j bx h B} t n hj hd o fr gb nb hl lt=>?_,λt hs' tt hh=>?_,λt hs' tt hh=>?_,by simp[rg]⟩;exact⟨g _ (by simp[rg]) _ o.1,g _ (by simp[rg]) _ o.2.1,o.2.2⟩;rcases mem_cons.mp hz with rfl|hz;exact⟨_,o.1⟩;cases mem_singleton.mp hz;exact⟨_,o.2.1⟩;refine⟨_,_,25,o.1,rfl,rfl,?_⟩;have ek:∃k:Nat,k<=2/\t=((k+1:Nat):Int):=by rcases tt with rfl|rfl|rfl;exact⟨0,by lia,rfl⟩;exact⟨1,by lia,rfl⟩;exact⟨2,by lia,rfl⟩
 obtain⟨k,k2,rfl⟩:=ek;have:=zsR (f:=n+3) (k:=k) o.1 o.2.1 (by lia) (by lia) (by lia) hk;rw[show n+3+4=n+7 by lia]at this;refine this.mono λx T hT=>?_;obtain⟨l,rfl,v,hl,g⟩:=hT;refine⟨l,rfl,hl,v,?_⟩;rw[g,zqn];rfl;obtain⟨q,o,x,ho,rfl⟩:=zdh hr;exact⟨o,ho,rfl⟩;obtain⟨q,o,x,ho,rfl⟩:=zdh hr;exact⟨x,rfl⟩
 . obtain⟨o,e⟩:=hx;rw[e];cases o<;>rfl
 refine⟨_,_,23,o.1,rfl,rfl,?_⟩;have gq:S.get bx=Φ (.lst ((cvO B).map lD)):=by rw[gb,cv_O lt]
 have cl:(cvO B).length=B.length:=by unfold cvO;rw[length_map]
 have hl:B.length<=432:=hl;have o3:=o.2.2;have:=zrk (f:=n+6) (j:=t) o.1 o.2.1 gq (fr _ (by simp[rg])) (by lia);refine this.mono λx T hT=>?_;obtain⟨rfl,v,g⟩:=hT;have sl:=zcI (cvO B) h;refine⟨rfl,v.up (by simp[rg]),v.old _ _ (by simp) o.1,g,?_⟩;show(za5 h (cvO B)).length<=450*(d+1);lia;have k3:t.toNat<=3:=by rcases tt with rfl|rfl|rfl<;>decide
 refine(zhp (λj h hj=>?_) (λj j' h h' hjj hj' r hr r' hr'=>?_) hs' 0 (by rw[zero_add,hh];exact le_refl _)).1
 . show(((sayR _ _ _ _ _ t.toNat).map λr:Row=>(⟨r.p,plZ (m:Nat) s (j:Nat) r.to,r.w⟩:Row)).map key).Nodup
   match t.toNat,k3 with|0,_=>simp[sayR]| 1,_=>rw[zcY];split;exact zne;simp| k+2,k3=>rw[zcX,List.map_flatMap,List.map_flatMap,List.nodup_iff_pairwise_ne,List.pairwise_flatMap];refine⟨λp _=>zne,(zsD s (hnZ m j) k (by lia)).imp λ{p q} ne x hx y hy e=>ne ?_⟩;obtain⟨r,hr,rfl⟩:=mem_map.mp hx;obtain⟨r0,hr0,rfl⟩:=mem_map.mp hr;obtain⟨a,_,rfl⟩:=zdm hr0;obtain⟨r',hr',rfl⟩:=mem_map.mp hy;obtain⟨r1,hr1,rfl⟩:=mem_map.mp hr';obtain⟨c,_,rfl⟩:=zdm hr1;simp only[key,Prod.mk.injEq]at e;exact List.append_cancel_right e.2.1
 obtain⟨q,o,x,ho,rfl⟩:=zdh hr;obtain⟨q',o',x',ho',rfl⟩:=zdh hr';exact zor (by lia) (by lia) ho ho' λe=>by
  have e:q++[hnZ m j]=q'++[hnZ m j']:=e;have e:=congrArg List.getLast? e;have e:Φ (hnZ m j)=Φ (hnZ m j'):=by simpa using e
  have e:=Option.some.inj e;unfold hnZ at e;lia
 have k3:t.toNat<=3:=by rcases tt with rfl|rfl|rfl<;>decide
 have h2:List.length hs'=2*m:=hh;have:=zho (V:=rg m _ s w1 w2 N wr la) (t:=t) (B:=36) (λj h=>zly m1 m6 k3) hs' 0;show _<=432;have h3:36*List.length hs'<=432:=by rw[h2];lia
 exact le_trans this h3
end Or
structure Rg(S:R.St)(a:Nat)(m:Nat)(s:Int):Prop where
 ex:∃fs,S.get a=Φ (.ins 1 fs)/\fs.lookup ("many":PySem.Str)=Φ (.int (m:Nat))/\fs.lookup ("sender":PySem.Str)=Φ (.int s)/\fs.lookup ("group_of":PySem.Str)=Ψ/\fs.lookup ("place_for":PySem.Str)=Ψ/\fs.lookup ("wires_at":PySem.Str)=Ψ/\fs.lookup ("hands_in":PySem.Str)=Ψ/\fs.lookup ("groups":PySem.Str)=Ψ/\fs.lookup ("wires":PySem.Str)=Ψ
theorem Rg.mv{S T:R.St}{a m:Nat}{s:Int}{A:List Nat}(h:Rg S a m s)(v:Mv A S T)(n:a∉A):Rg T a m s:=by obtain⟨b,e,r⟩:=h.ex;exact⟨b,v.old _ _ n e,r⟩
theorem zjZ{S:R.St}{n a m:Nat}{s h:Int}(r:Rg S a m s)(d:0<m):appW (callF prog (n+1)) 27 [.ref a,.int h] S=.ok (.int (gZ (m:Nat) s h)) S:=by
 obtain⟨f,e,b,c,_⟩:=r.ex;refine zg8 (F:=zbQ) rfl rfl ?_;left;exists zaK e c;left;exists zaK e b;left;change by lia
 left;right;left;exact⟨rfl,rfl⟩
theorem zh1:∀xs ys:List Int,PySem.PyData.eqvAll (xs.map PySem.PyData.int) (ys.map PySem.PyData.int)=decide (xs=ys)
 | [],[]=>by simp[PySem.PyData.eqvAll]| [],_::_=>by simp[PySem.PyData.eqvAll]|_::_,[]=>by simp[PySem.PyData.eqvAll]| x::xs,y::ys=>by rw[Ν,Ν,PySem.PyData.eqvAll,zh1 xs ys,L2.eqv_int];by_cases h:x=y<;>simp[h]
theorem zeU(S:R.St)(n:Nat):∀xs:List Int,(xs.map D.int).mapM (pd S n)=Φ (xs.map PySem.PyData.int)
 | []=>rfl|x::xs=>by rw[Ν,Ϣ,zeU S n xs];cases n<;>rfl
theorem zgY{S:R.St}{x y:Nat}{xs ys:List Int}(a:S.get x=Φ (.lst (xs.map .int)))(b:S.get y=Φ (.lst (ys.map .int))):cmpO S .Eq (.ref x) (.ref y)=Φ (decide (xs=ys)):=by show zf6 S (.ref x) (.ref y)=_;rw[zf5 a];unfold eqD;rw[zeT a (zeU S 59 xs),zeT b (zeU S 59 ys)];simp only[Ϛ,Option.map_some,PySem.PyData.eqv,zh1]
theorem zlh(a c:Int):decide (zcH [a,c]=[1,2])=decide ((a=1/\c=2)\/(a=2/\c=1)):=by apply Bool.eq_iff_iff.mpr;simp only[zcH,insZ];split<;>simp<;>lia
theorem zoL{S:R.St}{n a m:Nat}{s p o:Int}(r:Rg S a m s)(f:0<m)(j:m<=7):W (appW (callF prog (n+2)) 30 [.ref a,.int p,.int o] S) λd T=>d=.int (plZ (m:Nat) s p o)/\Mv [] S T:=by
 obtain⟨k,e,b,l,g,q,t,u⟩:=r.ex;refine zbU (F:=zbz) rfl rfl (wS_W _ ?_);left;exists zaK e b;left;change by omega
 left;exists zay e;left;exists rfl;left;change by rw[g];rfl
 left;exists zaK e b;left;change by omega
 left;specialize zjZ (n:=n) r f;left;exists zay e;left;exists rfl;left;change by rw[g];rfl
 left;specialize zjZ (n:=n) r f;left;right;left;exists zoO (ks:=[gZ (m:Nat) s (p%(m:Nat)),gZ (m:Nat) s o]) (zag _ _);left;right;left;change by rw[length_map,(zbV _).length_eq];simp
 left;right;left;have i:=zag ((S.push (.lst [D.int (gZ (m:Nat) s (p%(m:Nat))),D.int (gZ (m:Nat) s o)]))) (.lst ((zcH [gZ (m:Nat) s (p%(m:Nat)),gZ (m:Nat) s o]).map .int));exists zgY (xs:=zcH [gZ (m:Nat) s (p%(m:Nat)),gZ (m:Nat) s o]) (ys:=[1,2]) (zae i) (zag _ _);rw[zlh];have v:Mv [] S (((S.push (.lst [D.int (gZ (m:Nat) s (p%(m:Nat))),D.int (gZ (m:Nat) s o)])).push (.lst ((zcH [gZ (m:Nat) s (p%(m:Nat)),gZ (m:Nat) s o]).map .int))).push (.lst ([1,2].map .int))):=((Mv.push [] _ _).trans (Mv.push [] _ _)).trans (Mv.push [] _ _);have h:=v.old _ _ (by simp) e;unfold plZ;refine zi8 (λc=>?_) (λc=>?_);have c:=of_decide_eq_true c;rw[if_pos c];left;exists zaK h b;left;change by unfold zbJ;simp;omega
 left;exact⟨rfl,v⟩;have c:=of_decide_eq_false c;rw[if_neg c];left;exists zaK h b;left;change by unfold zbJ;simp;omega
 left;exact⟨rfl,v⟩
noncomputable def wrow(m:Nat)(s:Int)(p:Int):List D:=(List.range m).map λ(o:Nat)=>.int (plZ (m:Nat) s p (o:Nat))
noncomputable def pfE:CE:=.meth "place_for" [(1,30)] J2 #[J1,J0]
theorem zjO{n a m:Nat}{s p:Int}(b:0<m)(f:m<=7):∀(c k:Nat)(T:R.St)(o:Option D),Rg T a m s->
  W (zaG [0] (evT (callF prog (n+2)) (.tst (.con (D.bl Γ)))) (evE (callF prog (n+2)) pfE) (intD k c) [o,Φ (.int p),Φ (.ref a)] T) λds U=>ds=(List.range' k c).map (λ(o:Nat)=>D.int (plZ (m:Nat) s p (o:Nat)))/\Mv [] T U
 |0,k,T,o,r=>by show W (Out.ok [] T) _;rw[W_ok];exact⟨rfl,Mv.refl _ _⟩| c+1,k,T,o,r=>by
  rw[intD,zaG];show W (Out.bind (Out.ok Γ T) _) _;rw[za2];show W (Out.bind (evE (callF prog (n+2)) pfE [Φ (.int (k:Nat)),Φ (.int p),Φ (.ref a)] T) _) _;rw[zaa];obtain⟨l,e,q,t,u,g,w,x⟩:=r.ex;refine wE_W _ ?_;unfold pfE;left;exists zay e;left;exists rfl;left;change by rw[g];rfl
  left;refine zbh ((zoL (n:=n) (p:=p) (o:=(k:Nat)) r b f).mono λd U h=>?_);obtain⟨rfl,v⟩:=h;rw[zaa];refine(zjO b f c (k+1) U _ (r.mv v (by simp))).mono λds V i=>?_;obtain⟨rfl,j⟩:=i;rw[W_ok];exact⟨by rw[List.range'_succ];rfl,v.trans j⟩
theorem zhw(m:Nat):(List.range ((m:Nat):Int).toNat).map (λ(k:Nat)=>D.int (k:Nat))=intD 0 m:=by rw[<-ze7 m 0];rfl
theorem zsQ{S:R.St}{n a m:Nat}{s p:Int}(r:Rg S a m s)(b:0<m)(c:m<=7)(i:∀l∈S.lk,l<S.len):W (appW (callF prog (n+3)) 32 [.ref a,.int p] S) λd T=>∃l,d=.ref l/\S.len<=l/\T.len=l+1/\T.get l=Φ (.lst (wrow m s p))/\Mv [] S T:=by
 obtain⟨j,e,f,k,o,q,t,u⟩:=r.ex;refine zbU (F:=zbP) rfl rfl (wS_W _ ?_);left;exists zaK e f;left;change⟨by cutsat,by cutsat⟩;left;refine zaw ?_;rw[zhw];refine(zjO (n:=n) (p:=p) b c m 0 S Ψ r).mono λw U g=>?_;obtain⟨rfl,v⟩:=g;rw[<-List.range_eq_range'];change by rw[length_map,Ϩ];cutsat
 left;change by rw[length_map,Ϩ];cutsat
 have h:Mv [] S ({U with lk:=S.lk}:R.St):=⟨v.frz,rfl,v.len,v.old⟩;exact⟨_,rfl,v.len,plen _ _,zag ({U with lk:=S.lk}:R.St) _,h.trans (Mv.push [] _ _)⟩
noncomputable def waE:CE:=.meth "wires_at" [(1,32)] J1 #[J0]
theorem zi2{n a m:Nat}{s:Int}(g:0<m)(h:m<=7):∀(c k:Nat)(T:R.St)(o:Option D),Rg T a m s->(∀l∈T.lk,l<T.len)->
  W (zaG [0] (evT (callF prog (n+3)) (.tst (.con (D.bl Γ)))) (evE (callF prog (n+3)) waE) (intD k c) [o,Φ (.ref a)] T) λds U=>(∃la:Nat->Nat,ds=(List.range' k c).map (λj=>D.ref (la j))/\∀j,k<=j->j<k+c->T.len<=la j/\la j<U.len/\U.get (la j)=Φ (.lst (wrow m s (j:Nat))))/\Mv [] T U
 |0,k,T,o,r,_=>by show W (Out.ok [] T) _;rw[W_ok];exact⟨⟨λ_=>0,rfl,λj i u=>by lia⟩,Mv.refl _ _⟩| c+1,k,T,o,r,q=>by
  rw[intD,zaG];show W (Out.bind (Out.ok Γ T) _) _;rw[za2];show W (Out.bind (evE (callF prog (n+3)) waE [Φ (.int (k:Nat)),Φ (.ref a)] T) _) _;rw[zaa];obtain⟨I,e,J,L,M,N,w,O⟩:=r.ex;refine wE_W _ ?_;unfold waE;left;exists zay e;left;exists rfl;left;change by rw[w];rfl
  left;refine zbh ((zsQ (n:=n) (p:=(k:Nat)) r g h q).mono λd U y=>?_);obtain⟨l,rfl,i,u,z,v⟩:=y;rw[zaa];refine(zi2 g h c (k+1) U _ (r.mv v (by simp)) (by rw[v.lk];exact λx A=>lt_of_lt_of_le (q x A) v.len)).mono λds V B=>?_;obtain⟨⟨la,rfl,b⟩,f⟩:=B;rw[W_ok];refine⟨⟨λj=>if j=k then l else la j,?_,λj Q Y=>?_⟩,v.trans f⟩;rw[List.range'_succ,Ν];dsimp only;rw[if_pos rfl];congr 1;refine Ο λj C=>?_;have:=(List.mem_range'_1.mp C).1;rw[if_neg (by lia)];by_cases t:j=k;subst t;dsimp only;rw[if_pos rfl];exact⟨i,by have:=f.len;lia,f.old _ _ (by simp) z⟩;dsimp only;rw[if_neg t];obtain⟨E,G,H⟩:=b j (by lia) (by lia);exact⟨le_trans v.len E,G,H⟩
structure Wi(T:R.St)(N wr:Nat)(la:Nat->Nat)(m:Nat)(s:Int):Prop where
 w:T.get wr=Φ (.lst ((List.range (2*m)).map λj=>.ref (la j)))
 l:∀j,j<2*m->T.get (la j)=Φ (.lst (wrow m s (j:Nat)))
 n1:N<=wr
 n2:∀j,j<2*m->N<=la j
 n3:∀j,j<2*m->la j<wr
theorem zoK{S:R.St}{n a m:Nat}{s:Int}(r:Rg S a m s)(f:0<m)(g:m<=7)(h:∀l∈S.lk,l<S.len):W (appW (callF prog (n+4)) 31 [.ref a] S) λd T=>∃wr la,d=.ref wr/\T.len=wr+1/\Wi T S.len wr la m s/\Mv [] S T:=by
 obtain⟨p,e,i,q,t,u,w,x⟩:=r.ex;refine zbU (F:=zc7) rfl rfl (wS_W _ ?_);left;exists zaK e i;left;change by unfold zbJ;simp
 left;change⟨by cutsat,by cutsat⟩;left;refine zaw ?_;rw[show((2:Int)*((m:Nat):Int))=((2*m:Nat):Int) by cutsat,zhw];refine(zi2 (n:=n) f g (2*m) 0 S Ψ r h).mono λy U k=>?_;obtain⟨⟨la,rfl,b⟩,v⟩:=k;rw[<-List.range_eq_range'];change by rw[length_map,Ϩ];cutsat
 left;change by rw[length_map,Ϩ];cutsat
 have o:Mv [] S ({U with lk:=S.lk}:R.St):=⟨v.frz,rfl,v.len,v.old⟩;refine⟨U.len,la,rfl,plen _ _,⟨zag ({U with lk:=S.lk}:R.St) _,λj c=>zae (S:=({U with lk:=S.lk}:R.St)) (b j (by cutsat) (by cutsat)).2.2,v.len,λj c=>(b j (by cutsat) (by cutsat)).1,λj c=>(b j (by cutsat) (by cutsat)).2.1⟩,o.trans (Mv.push [] _ _)⟩
theorem zsv{S:R.St}{n:Nat}{x:PySem.Str}(h:x=("oral":PySem.Str)\/x=("kings":PySem.Str)):app (callF prog (n+4)) 12 [.str x] S=.ok (.str x) S:=by
 have a:prm S.enter .way [.str x]=.ok (.str x) S.enter:=by unfold prm;dsimp only;rw[if_pos h]
 have:callF prog (n+4) 12 [.str x] S.enter=.ok (.str x) S.enter:=by show(if([D.str x]:List D).length=1 then(if 3<=n+3 then prm S.enter .way [.str x] else .bad) else .bad)=_;rw[if_pos (show([D.str x]:List D).length=1 from rfl),if_pos (by lia),a]
 unfold app;rw[this];rfl
theorem zi0{N m j:Nat}(h:j<m):whP N m j=N+2*j:=by unfold whP;rw[Nat.div_eq_of_lt h,Nat.add_zero]
theorem zi1{N m j:Nat}(h0:m<=j)(h:j<2*m):whP N m j=N+2*m+1+2*(j-m):=by
 unfold whP;have:j/m=1:=by rw[Nat.div_eq_iff (by lia)];lia
 lia
theorem zmL{N m i j:Nat}(h:i<j):whP N m i+2<=whP N m j:=by unfold whP;have:=Nat.div_le_div_right (c:=m) (le_of_lt h);lia
theorem zmM{N m j:Nat}(h:j<2*m):N<=whP N m j/\whP N m j+1<N+4*m+2:=by by_cases c:j<m;rw[zi0 c];lia;rw[zi1 (by lia) h];lia
theorem zdi:∀(c N:Nat),refs N c=(List.range c).map λi=>D.ref (N+2*i)
 |0,_=>rfl| c+1,N=>by rw[refs,zdi c (N+2),List.range_succ_eq_map,Ν,map_map];congr 1;refine Ο λi _=>?_;simp only[Function.comp];congr 1;lia
theorem zhe(V:Town):∀(c k:Nat),whoL V k c=(List.range' k c).map λj=>D.ref (V.who j)
 |0,_=>rfl|c+1,k=>by rw[whoL,zhe V c (k+1),List.range'_succ];rfl
theorem znv{V:Town}{N m:Nat}(b:V.m=2*m)(c:V.who=whP N m):whoL V 0 V.m=refs N m++refs (N+2*m+1) m:=by rw[zhe,b,c,<-List.range_eq_range',zdi,zdi,show 2*m=m+m by lia,List.range_add,map_append,map_map];congr 1;refine Ο λi a=>?_;rw[zi0 (mem_range.mp a)];refine Ο λi a=>?_;have:=mem_range.mp a;simp only[Function.comp];rw[zi1 (by lia) (by lia)];congr 1;lia
theorem zrR{V:Town}{N m:Nat}(c:∀j,V.adr j=[whP N m j,whP N m j+1]):Dj V:=by intro i j _ _ h z a b;rw[c]at a b;simp only[mem_cons,not_mem_nil,or_false]at a b;rcases Nat.lt_or_gt_of_ne h with q|q;have:=zmL (N:=N) (m:=m) q;lia;have:=zmL (N:=N) (m:=m) q;lia
theorem zpx{m j:Nat}{s w1 w2:Int}(hs:0<=s)(h:j<m):wdO s w1 ((0+j:Nat):Int)=wdP m s w1 w2 j:=by unfold wdO wdP;rw[Nat.mod_eq_of_lt h,if_pos h,zero_add];by_cases c:(j:Int)=s;rw[if_pos c,if_pos (by lia)];rw[if_neg c,if_neg (by lia)]
theorem zpy{m j:Nat}{s w1 w2:Int}(hs:0<=s)(h0:m<=j)(h:j<2*m):wdO s w2 ((0+(j-m):Nat):Int)=wdP m s w1 w2 j:=by
 unfold wdO wdP;have e:j%m=j-m:=by rw[Nat.mod_eq_sub_mod h0,Nat.mod_eq_of_lt (by lia)]
 rw[e,if_neg (show ¬j<m by lia),zero_add];by_cases c:((j-m:Nat):Int)=s;rw[if_pos c,if_pos (by lia)];rw[if_neg c,if_neg (by lia)]
theorem zs4{m j:Nat}(h:j<m):((0+j:Nat):Int)=hnZ m j:=by unfold hnZ;rw[Nat.mod_eq_of_lt h,zero_add]
theorem zs5{m j:Nat}(h0:m<=j)(h:j<2*m):((0+(j-m):Nat):Int)=hnZ m j:=by unfold hnZ;rw[Nat.mod_eq_sub_mod h0,Nat.mod_eq_of_lt (by omega),zero_add]
theorem zlG{V:Town}{m N c n th wr:Nat}{la:Nat->Nat}{s z:Int}{T:R.St}{h0:Nat->V.H}(X:TownOk V 7)(f:V.m=2*m)(B:V.who=whP N m)(g:∀j,V.adr j=[whP N m j,whP N m j+1])(k:V.wr=wr)(p:V.la=la)(C:V.nh=m)(E:V.rt=λj o=>plZ (m:Nat) s (j:Nat) o)
  (tt:∀i:Nat,1<=i->i<1+c->V.tt (i:Nat)) (G:T.get th=Φ (.lst (refs N m++refs (N+2*m+1) m))) (H:∀j,j<2*m->V.ok T 0 j (h0 j)) (I:N+4*m+2<=th) (d:Wi T (N+4*m+2) wr la m s) (hf:T.frz.length<=N) (u:∀l∈T.lk,l<N) (J:N<=T.len) (L:c<=40) (hz:z=(c:Nat)) :
  W (appW (callF prog (n+10)) 6 [.ref th,.int z,.ref wr] T) λx U=>x=.ref T.len/\U.get T.len=Φ (.lst (lets V 1 c ((List.range (2*m)).map h0)))/\U.lk=T.lk/\U.frz=T.frz/\T.len<U.len/\∀l o,l<N->T.get l=Φ o->U.get l=Φ o:=by
 have a:∀l,l<N\/N+4*m+2<=l->∀i,i<V.m->l∉V.adr i:=λl h i b v=>by rw[g]at v;have:=zmM (N:=N) (show i<2*m by lia);simp only[mem_cons,not_mem_nil,or_false]at v;lia
 have w:=zsw X (S:=T) (n:=n) (c:=c) (z:=z) (th:=th) (hs:=(List.range (2*m)).map h0) tt (zrR g) (by rw[length_map,Ϩ,f]) (by rw[znv f B];exact G) (λi h e=>?_) (a th (.inr I)) (λl q=>lt_of_lt_of_le (u l q) J) L hz (by lia)
  ⟨by rw[k,p,f];exact d.w,λj M=>by rw[p,C,E];exact d.l j (by lia)⟩ (by rw[k];exact a _ (.inr d.n1)) (λi b j M=>by rw[p];exact a _ (.inr (d.n2 j (by lia))) i b)
 rw[k]at w;refine w.mono λx U O=>?_;obtain⟨rfl,Q,Y,q2,q3,q4⟩:=O;exact⟨rfl,Q.gl,Y,q2,q3,λl o q e=>q4 l o (a l (.inl q)) e⟩;rw[getElem?_map]at e;cases r:(List.range (2*m))[i]? with
 |none=>rw[r]at e;exact nS e
 |some x=>
  rw[r]at e;cases e;obtain⟨b,rfl⟩:=Α.mp r;simp only[Ϩ]at b;rw[List.getElem_range];refine⟨H i b,λy A=>?_⟩;rw[g]at A;have:=zmM (N:=N) b;simp only[mem_cons,not_mem_nil,or_false]at A;have t:N<=y:=by lia
  exact⟨by lia,zoI u t⟩
theorem ztg(S:R.St){a b:PySem.Str}(c:PySem.PyData.strOk a=Γ)(d:PySem.PyData.strOk b=Γ):cmpO S .Eq (.str a) (.str b)=Φ (PySem.PyData.eqv (.str a) (.str b)):=by show(pd S 60 (.str a)).bind (λx=>(pd S 60 (.str b)).map λy=>PySem.PyData.eqv x y)=_;unfold pd;rw[if_pos c,if_pos d];rfl
noncomputable def rf(way:PySem.Str)(b m s one a:Int):List (PySem.Str×D):=[("way",.str way),("bound",.int b),("many",.int m),("sender",.int s),("one",.int one),("other",.int a)]
theorem zkr{S:R.St}{n a m b:Nat}{s w one c:Int}(e:S.get a=Φ (.ins 1 (rf "oral" (b:Nat) (m:Nat) s one c)))(f:1<=m)(g:m<=7) :
  W (appW (callF prog (n+4)) 28 [.ref a,.int w] S) λd U=>d=.ref (S.len+2*m)/\Mv [] S U/\U.get (S.len+2*m)=Φ (.lst (refs S.len m))/\Or.Hs U S.len 0 m m (b+1) s w/\U.len=S.len+2*m+1:=by
 refine zbU (F:=zbp) rfl rfl (wS_W _ ?_);left;exists zaK e rfl;left;exists(ztg S (by decide +kernel) (by decide +kernel)).trans (show _=Φ Γ from congrArg Φ (by decide +kernel));left;exists zaK e rfl;left;exists zaK e rfl;left;exists zaK e rfl;left;have:=Or.s_hands (S:=S) (n:=n) (m:=m) (t:=b+1) (s:=s) (w:=w) f g;rw[show(((b+1:Nat)):Int)=(b:Nat)+1 by lia]at this;refine zbh (this.mono λd U h=>?_);left;exact h
theorem zqv{N m:Nat}{xs:List D}(a:1<=m):R.atI (refs N m++xs) 0=Φ (.ref N):=by cases m with|zero=>lia|succ m=>exact zmI
noncomputable def iTl:CS:=.setF J0 "sent" (.callW 6 0 #[J7,.fld (.ix J7 V0) "rounds",.meth "wires" [(1,31)] J0 .nil]) .nil
noncomputable def iHd:CE:=.bin .Add (.meth "hands_with" [(1,28)] J0 #[J5]) (.meth "hands_with" [(1,28)] J0 #[J6])
noncomputable abbrev Ei(a:Nat)(way:PySem.Str)(m b s one c:Int)(x:Option D):Ev:=[Φ (.ref a),Φ (.str way),Φ (.int m),Φ (.int b),Φ (.int s),Φ (.int one),Φ (.int c),x]
theorem zsz{S:R.St}{a m:Nat}{way:PySem.Str}{b s one c:Int}(e:S.get a=Φ (.ins 1 (rf way b (m:Nat) s one c))):Rg S a m s:=⟨_,e,rfl,rfl,rfl,rfl,rfl,rfl,rfl,rfl⟩
theorem zsZ{S T:R.St}{n a m b:Nat}{way:PySem.Str}{s one c z:Int}{Ls:Nat->(Nat->Nat)->List D}{Q:Fl->R.St->Prop}(e:S.get a=Φ (.ins 1 (rf way (b:Nat) (m:Nat) s one c)))(t:Fr S a)(B:∀l∈S.lk,l<S.len)(C:1<=m)(E:m<=7)(v:Mv [] S T)(g:T.get (S.len+4*m+2)=Φ (.lst (refs S.len m++refs (S.len+2*m+1) m)))(lT:T.len=S.len+4*m+3)
  (G:∃u k,T.get S.len=Φ (.ins u k)/\k.lookup ("rounds":PySem.Str)=Φ (.int z))
  (H:∀U wr la,Mv [] T U->Wi U T.len wr la m s->W (appW (callF prog (n+10)) 6 [.ref (S.len+4*m+2),.int z,.ref wr] U) λx V=>x=.ref U.len/\V.get U.len=Φ (.lst (Ls wr la))/\V.lk=U.lk/\V.frz=U.frz/\U.len<V.len/\∀l o,l<S.len->U.get l=Φ o->V.get l=Φ o) (q:∀δ V l wr la,V.get a=Φ (.ins 1 (rf way (b:Nat) (m:Nat) s one c++([("sent",.ref l)]:List (PySem.Str×D))))->V.get l=Φ (.lst (Ls wr la))->Mv [a] S V->Q (.nx δ) V) :
  wS (callF prog (n+10)) iTl (Ei a way (m:Nat) (b:Nat) s one c (Φ (.ref (S.len+4*m+2)))) T Q:=by
 obtain⟨u,k,I,J⟩:=G;have la:=get_lt e;have p:=v.old _ _ (by simp) e;unfold iTl;left;exists g;left;exists zqv C;left;exists zaK I J;left;exists zay p;left;exists rfl;left;change rfl;left;refine zbh ((zoK (n:=n+6) (zsz p) (by lia) E (by rw[v.lk];exact λl r=>lt_of_lt_of_le (B l r) v.len)).mono λd U L=>?_);obtain⟨wr,i,rfl,lU,M,h⟩:=L;left;refine zbh ((H U wr i h M).mono λd V N=>?_);obtain⟨rfl,O,w,y,q3,A⟩:=N;have Y:=A _ _ la (h.old _ _ (by simp) p);have fV:Fr V a:=⟨by rw[y,h.frz,v.frz];exact t.f,by rw[w,h.lk,v.lk];exact t.k⟩;obtain⟨X,a1,j,x2⟩:=zbk (f:="sent") (v:=.ref U.len) (gs:=rf way (b:Nat) (m:Nat) s one c++([("sent",.ref U.len)]:List (PySem.Str×D))) Y fV (by simp[rf]) rfl;left;exists a1;left;have h1:=v.len;have h2:=h.len;refine q _ _ _ wr i x2 (j.old _ _ (by simp;lia) O) ⟨by rw[j.frz,y,h.frz,v.frz],by rw[j.lk,w,h.lk,v.lk],?_,λl o r e=>j.old _ _ r (A _ _ (get_lt e) (h.old _ _ (by simp) (v.old _ _ (by simp) e)))⟩;have:=j.len;lia
theorem zkp:c_Ring_init.body=.setF J0 "way" (.call 12 0 #[J1]) (.setF J0 "bound" (.call 3 0 #[J3,V1,V2]) (.setF J0 "many" (.call 3 0 #[J2,V3,.bin .Mult V3 J3]) (.setF J0 "sender" (.call 4 0 #[J4,J2]) (.setF J0 "one" (.call 5 0 #[J5]) (.setF J0 "other" (.call 5 0 #[J6]) (.ifS (.cmp .Eq J6 J5) .stop .nil (.asg 7 iHd iTl))))))):=rfl
structure Ok6(way:PySem.Str)(m b:Nat)(s one other:Int):Prop where
 w:way=("oral":PySem.Str)\/way=("kings":PySem.Str)
 b1:1<=b
 b2:b<=2
 m3:3<=m
 mb:m<=3*b
 s:0<=s/\s<(m:Nat)
 o1:-10^60<one/\one<10^60
 o2:-10^60<other/\other<10^60
 ne:other≠one
theorem zsY{S:R.St}{n a m b:Nat}{way:PySem.Str}{s one c:Int}{Q:Fl->R.St->Prop}(k:Ok6 way m b s one c)(e:S.get a=Φ (.ins 1 []))(d:Fr S a)
  (q:∀T,Mv [a] S T->T.len=S.len->T.get a=Φ (.ins 1 (rf way (b:Nat) (m:Nat) s one c))->wS (callF prog (n+10)) (.asg 7 iHd iTl) (Ei a way (m:Nat) (b:Nat) s one c Ψ) T Q) :
  wS (callF prog (n+10)) c_Ring_init.body (Ei a way (m:Nat) (b:Nat) s one c Ψ) S Q:=by
 have L:=k.b1;have M:=k.b2;have N:=k.m3;have O:=k.mb;obtain⟨U,o,g,A⟩:=zbk (f:="way") (v:=.str way) (gs:=[("way",.str way)]) e d (by simp) rfl;obtain⟨Y,p,h,B⟩:=zbk (f:="bound") (v:=.int (b:Nat)) (gs:=[("way",.str way),("bound",.int (b:Nat))]) A (d.mv g) (by simp) rfl;obtain⟨T3,r,j,C⟩:=zbk (f:="many") (v:=.int (m:Nat)) (gs:=[("way",.str way),("bound",.int (b:Nat)),("many",.int (m:Nat))]) B ((d.mv g).mv h) (by simp) rfl;obtain⟨T4,t,l,E⟩:=zbk (f:="sender") (v:=.int s) (gs:=[("way",.str way),("bound",.int (b:Nat)),("many",.int (m:Nat)),("sender",.int s)]) C (((d.mv g).mv h).mv j) (by simp) rfl;obtain⟨T5,u,w,G⟩:=zbk (f:="one") (v:=.int one) (gs:=[("way",.str way),("bound",.int (b:Nat)),("many",.int (m:Nat)),("sender",.int s),("one",.int one)]) E ((((d.mv g).mv h).mv j).mv l) (by simp) rfl;obtain⟨H,x,I,J⟩:=zbk (f:="other") (v:=.int c) (gs:=rf way (b:Nat) (m:Nat) s one c) G (((((d.mv g).mv h).mv j).mv l).mv w) (by simp) rfl;have y:=q H (((((g.trans h).trans j).trans l).trans w).trans I) (by rw[zaY x,zaY u,zaY t,zaY r,zaY p,zaY o]) J;rw[zkp];generalize hr:(CS.asg 7 iHd iTl)=z at y⊢;left;specialize(zsv (n:=n+6) k.w);left;exists o;left;specialize zjt (n:=n+8) (i:=(b:Nat)) (lo:=1) (hi:=2) (by lia) (by lia);left;exists p;left;change by unfold zbJ;simp
 left;specialize zjt (n:=n+8) (i:=(m:Nat)) (lo:=3) (hi:=3*(b:Nat)) (by lia) (by lia);left;exists r;left;specialize zlD (n:=n+7) k.s;left;exists t;left;specialize zhq (n:=n+7) k.o1;left;exists u;left;specialize zhq (n:=n+7) k.o2;left;exists x;left;refine zb7 (by simpa using k.ne) ?_;exact y
theorem Or.mv_keep{S T:R.St}(v:Mv [] S T){N k c m t:Nat}{s w:Int}(h:Or.Hs S N k c m t s w):Or.Hs T N k c m t s w:=⟨λi a=>⟨v.old _ _ (by simp) (h.a i a).1,v.old _ _ (by simp) (h.a i a).2⟩⟩
theorem zqz{S:R.St}{n a m b:Nat}{s one f:Int}(k:Ok6 "oral" m b s one f)(e:S.get a=Φ (.ins 1 []))(O:Fr S a)(hk:∀l∈S.lk,l<S.len) :
  W (appW (callF prog (n+11)) 26 [.ref a,.str "oral",.int (m:Nat),.int (b:Nat),.int s,.int one,.int f] S) λd V=>d=.non/\Mv [a] S V/\∃l N wr la,V.get a=Φ (.ins 1 (rf "oral" (b:Nat) (m:Nat) s one f++([("sent",.ref l)]:List (PySem.Str×D))))/\V.get l=Φ (.lst (lets (Or.rg m (b+1) s one f N wr la) 1 (b+1) ((List.range (2*m)).map λ_=>([]:Or.Kk)))):=by
 have b1:=k.b1;have b2:=k.b2;have m3:=k.m3;have mb:=k.mb;have B:=k.s;refine zbU (F:=c_Ring_init) rfl rfl (wS_W _ ?_);refine zsY k e O λT v lT g=>?_;have fT:=O.mv v;have p:∀l∈T.lk,l<T.len:=by rw[v.lk,lT];exact hk
 unfold iHd;left;exists zay g;left;exists rfl;left;change rfl;left;refine zbh ((zkr (n:=n+6) (w:=one) g (by lia) (by lia)).mono λd U C=>?_);obtain⟨rfl,Q,E,h1,Y⟩:=C;have gU:=Q.old _ _ (by simp) g;left;exists zay gU;left;exists rfl;left;change rfl;left;refine zbh ((zkr (n:=n+6) (w:=f) gU (by lia) (by lia)).mono λd h C=>?_);obtain⟨rfl,G,u,h2,l2⟩:=C;rw[Y]at u h2 l2;have H:=G.old _ _ (by simp) E;have lr:∀(c N:Nat),(refs N c).length=c:=λc N=>by rw[zdi,length_map,Ϩ]
 left;exists H;left;rw[Y];exists u;left;change by rw[length_append,lr,lr];lia
 have q:=(Q.trans G).trans (Mv.push [] h (.lst (refs T.len m++refs (T.len+2*m+1) m)));have I:h.len=T.len+4*m+2:=by lia
 rw[I];have J:=Or.mv_keep ((G).trans (Mv.push [] h (.lst (refs T.len m++refs (T.len+2*m+1) m)))) h1;have H2:=Or.mv_keep (Mv.push [] h (.lst (refs T.len m++refs (T.len+2*m+1) m))) h2;have A:=zag h (.lst (refs T.len m++refs (T.len+2*m+1) m));rw[I]at A;have lP:(h.push (.lst (refs T.len m++refs (T.len+2*m+1) m))).len=T.len+4*m+3:=by rw[plen,I]
 generalize h.push (.lst (refs T.len m++refs (T.len+2*m+1) m))=P at q J H2 A lP⊢;refine zsZ (z:=((b+1:Nat):Int)) (Ls:=λwr la=>lets (Or.rg m (b+1) s one f T.len wr la) 1 (b+1) ((List.range (2*m)).map λ_=>([]:Or.Kk))) g fT p (by lia) (by lia) q A lP ⟨_,_,(J.a 0 (by lia)).1,rfl⟩ (λU wr la o r=>?_) λδ V l wr la E u vV=>⟨rfl,v.trans vV,l,T.len,wr,la,E,u⟩;have L:=Or.mv_keep o J;have M:=Or.mv_keep o H2;have fz:T.frz.length<=T.len:=by unfold St.len;lia
 refine zlG (V:=Or.rg m (b+1) s one f T.len wr la) (m:=m) (N:=T.len) (c:=b+1) (s:=s) (h0:=λ_=>[]) (Or.rg_ok (by lia) (by lia) B) rfl rfl (λj=>rfl) rfl rfl rfl rfl (λi i1 i2=>by show((i:Nat):Int)=1\/((i:Nat):Int)=2\/((i:Nat):Int)=3;lia) (o.old _ _ (by simp) A) (λj t=>?_) (le_refl _) ?_ (by rw[o.frz,q.frz];exact fz) (by rw[o.lk,q.lk];exact p) (le_trans q.len o.len) (by lia) (by lia);by_cases c:j<m;obtain⟨x,y⟩:=L.a j c;rw[show Or.wdO s one ((0+j:Nat):Int)=wdP m s one f j from zpx B.1 c,zs4 c]at x;rw[<-zi0 (N:=T.len) c]at x y;exact⟨x,y,zero_le _⟩;obtain⟨x,y⟩:=M.a (j-m) (by lia);rw[show Or.wdO s f ((0+(j-m):Nat):Int)=wdP m s one f j from zpy B.1 (by lia) t,zs5 (by lia) t]at x;rw[<-zi1 (N:=T.len) (by lia) t]at x y;exact⟨x,y,zero_le _⟩;exact⟨r.w,r.l,le_trans (by lia) r.n1,λj t=>le_trans (by lia) (r.n2 j t),r.n3⟩
theorem zqr{S:R.St}{n:Nat}{c:Int}(h0:0<=c):∃w:Int,app (callF prog (n+1)) 14 [.int c] S=.ok (.int w) S/\-10^60<w/\w<10^60:=by by_cases a:c%3=0;refine⟨c/3%5-2,?_,by lia,by lia⟩;refine zaX rfl rfl ?_;left;right;left;refine zgq (by simpa using a) ?_;left;right;left;right;left;exact zao rfl ⟨rfl,rfl⟩;refine⟨c/3%(2*10^60-1)-(10^60-1),?_,by lia,by lia⟩;refine zaX rfl rfl ?_;left;right;left;refine zb7 (by simpa using a) ?_;left;right;left;right;left;right;left;right;left;right;left;exact zao rfl ⟨rfl,rfl⟩
noncomputable def dTup(way:PySem.Str)(m b:Nat)(s one a:Int):D:=.tup [.str way,.int (m:Nat),.int (b:Nat),.int s,.int one,.int a]
theorem zn7{S:R.St}{n:Nat}{ns:List Int}:∃way m b s one other,Ok6 way m b s one other/\app (callF prog (n+2)) 15 [.fix (ns.map .int)] S=.ok (dTup way m b s one other) S:=by
 have c0:=zbb ns 0;have c1:=zbb ns 1;obtain⟨w1,e1,l1,u1⟩:=zqr (S:=S.enter) (n:=n) (zbb ns 2);obtain⟨w2,e2,l2,u2⟩:=zqr (S:=S.enter) (n:=n) (zbb ns 3);obtain⟨b,hb⟩:∃b:Nat,(b:Int)=1+zbo ns 0%2:=⟨(1+zbo ns 0%2).toNat,by lia⟩;have q0:0<3*(b:Int)-2:=by lia
 have q1:=Int.emod_nonneg (zbo ns 0/2) (show 3*(b:Int)-2≠0 by lia);have q2:=Int.emod_lt_of_pos (zbo ns 0/2) q0;obtain⟨m,hm⟩:∃m:Nat,(m:Int)=3+zbo ns 0/2%(3*(b:Int)-2):=⟨(3+zbo ns 0/2%(3*(b:Int)-2)).toNat,by lia⟩;have s1:=Int.emod_nonneg (zbo ns 1) (show(m:Int)≠0 by lia);have s2:=Int.emod_lt_of_pos (zbo ns 1) (show 0<(m:Int) by lia);have way:∃way:PySem.Str,(way=("oral":PySem.Str)\/way=("kings":PySem.Str))/\R.atI [D.str "oral",D.str "kings"] (zbo ns 0/8%2)=Φ (.str way):=by
  have:zbo ns 0/8%2=0\/zbo ns 0/8%2=1:=by lia
  rcases this with e|e;exact⟨_,.inl rfl,by rw[e];exact zmI⟩;exact⟨_,.inr rfl,by rw[e];exact zr1⟩
 obtain⟨way,hw,ew⟩:=way;have fin:∀o2:Int,∀δ:Ev,δ=[Φ (.fix (ns.map .int)),Φ (.int (zbo ns 0)),Φ (.int (b:Nat)),Φ (.int (m:Nat)),Φ (.int w1),Φ (.int o2)]->wS (callF prog (n+1)) (.ret (.tup #[.ix (.lst #[.con (D.str "oral"),.con (D.str "kings")]) (.bin .Mod (.bin .FloorDiv J1 V8) V2),J3,J2,.bin .Mod (.call 13 0 #[J0,V1]) J3,J4,J5]) .nil) δ S.enter (λr T=>wFin S r T λa T'=>a=dTup way m b (zbo ns 1%(m:Nat)) w1 o2/\T'=S):=by
  rintro o2 δ rfl;left;right;left;right;left;right;left;exists zag _ _;left;exists ew;left;specialize zdy (n:=n) (ns:=ns) (k:=1);left;change by lia
  left;right;left;refine zao ?_ ⟨rfl,rfl⟩;rfl
 by_cases c:w2=w1;refine⟨way,m,b,zbo ns 1%(m:Nat),w1,w1+1-2*(if 0<w1 then 1 else 0),⟨hw,by lia,by lia,by lia,by lia,⟨s1,s2⟩,⟨l1,u1⟩,?_,?_⟩,?_⟩
 . split<;>lia
 . split<;>lia
 refine zaX (F:=zcn) rfl rfl ?_;left;specialize zdy (n:=n) (ns:=ns) (k:=0);left;right;left;rw[<-hb];left;right;left;change by unfold zbJ;simp
 left;change by lia
 left;rw[<-hm];left;specialize zdy (n:=n) (ns:=ns) (k:=2);left;specialize e1;left;specialize zdy (n:=n) (ns:=ns) (k:=3);left;specialize e2;left;refine zgq (by simpa using c) ?_;left;have ei:(if decide (0<w1)=Γ then(1:Int) else 0)=if 0<w1 then 1 else 0:=by simp
 change by unfold zbJ;simp
 left;exact fin _ _ (by rw[ei];rfl);refine⟨way,m,b,zbo ns 1%(m:Nat),w1,w2,⟨hw,by lia,by lia,by lia,by lia,⟨s1,s2⟩,⟨l1,u1⟩,⟨l2,u2⟩,c⟩,?_⟩;refine zaX (F:=zcn) rfl rfl ?_;left;specialize zdy (n:=n) (ns:=ns) (k:=0);left;right;left;rw[<-hb];left;right;left;change by unfold zbJ;simp
 left;change by lia
 left;rw[<-hm];left;specialize zdy (n:=n) (ns:=ns) (k:=2);left;specialize e1;left;specialize zdy (n:=n) (ns:=ns) (k:=3);left;specialize e2;left;refine zb7 (by simpa using c) ?_;left;exact fin _ _ rfl
theorem zhs{S:R.St}{n m:Nat}{s h:Int}(a:0<m):app (callF prog (n+1)) 16 [.int (m:Nat),.int s,.int h] S=.ok (.int (gZ (m:Nat) s h)) S:=by
 refine zaX (F:=zd2) rfl rfl ?_;left;change by lia
 left;right;left;refine zao rfl ⟨?_,rfl⟩;unfold gZ;rw[show h+(m:Nat)-s=h-s+(m:Nat) by lia,Int.add_emod_right]
theorem zhr{S:R.St}{n:Nat}{i:Int}:app (callF prog (n+1)) 17 [.int i] S=.ok (.bl Γ) S:=by refine zaX (F:=zd1) rfl rfl ?_;left;exists(show tyOf S.enter (.int i)=Φ "int" from rfl);left;exists(show tyOf S.enter (.int i)=Φ "int" from rfl);left;exact zao rfl ⟨rfl,rfl⟩
theorem zjq{S:R.St}{n m:Nat}{s o:Int}{p:Nat}(b:0<m)(e:m<=7)(f:p<2*m):app (callF prog (n+2)) 19 [.int (m:Nat),.int s,.int o,.int (p:Nat)] S=.ok (.int (plZ (m:Nat) s (p:Nat) o)) S:=by
 refine zaX (F:=zc5) rfl rfl ?_;left;change by lia
 left;specialize zhs (n:=n) b;left;specialize zhs (n:=n) b;left;right;left;right;left;have d:=zag S.enter (.lst [D.int (gZ (m:Nat) s ((p:Nat)%(m:Nat))),D.int (gZ (m:Nat) s o)]);exists zgY (xs:=[gZ (m:Nat) s ((p:Nat)%(m:Nat)),gZ (m:Nat) s o]) (ys:=[1,2]) (zae d) (zag _ _);have g:(p:Int)/(m:Nat)=0\/(p:Int)/(m:Nat)=1:=by have h:(0:Int)<=(p:Int)/(m:Nat):=Int.ediv_nonneg (by lia) (by lia);have i:(p:Int)/(m:Nat)<2:=Int.ediv_lt_of_lt_mul (by lia) (by lia);lia
 unfold plZ;refine zi8 (λc=>?_) (λc=>?_);have c:=of_decide_eq_true c;rw[if_pos (.inl (by simpa using c))];left;change by lia
 left;change by unfold zbJ;simp;lia
 left;exact zao rfl ⟨rfl,rfl⟩;have c:=of_decide_eq_false c;left;right;left;exists zgY (xs:=[gZ (m:Nat) s ((p:Nat)%(m:Nat)),gZ (m:Nat) s o]) (ys:=[2,1]) (zae (zae d)) (zag _ _);refine zi8 (λa=>?_) (λa=>?_);have a:=of_decide_eq_true a;rw[if_pos (.inr (by simpa using a))];left;change by lia
 left;change by unfold zbJ;simp;lia
 left;exact zao rfl ⟨rfl,rfl⟩;have a:=of_decide_eq_false a;rw[if_neg (by simp at c a⊢;lia)];left;change by lia
 left;change by unfold zbJ;simp;lia
 left;exact zao rfl ⟨rfl,rfl⟩
theorem zqN{m p o:Nat}{s:Int}(r:0<m)(t:p<2*m)(u:o<m):∃q:Nat,q<2*m/\plZ (m:Nat) s (p:Nat) (o:Nat)=(q:Nat)/\plZ (m:Nat) s (q:Nat) ((p:Nat)%(m:Nat))=(p:Nat):=by
 have i:((p:Nat):Int)/(m:Nat)=0\/((p:Nat):Int)/(m:Nat)=1:=by have v:=Int.ediv_nonneg (show(0:Int)<=(p:Nat) by lia) (show(0:Int)<=(m:Nat) by lia);have w:((p:Nat):Int)/(m:Nat)<2:=Int.ediv_lt_of_lt_mul (by lia) (by lia);lia
 have f:=Int.mul_ediv_add_emod (p:Nat) (m:Nat);have key:∀d:Nat,d<=1->((d*m+o:Nat):Int)/(m:Nat)=(d:Nat)/\((d*m+o:Nat):Int)%(m:Nat)=(o:Nat):=λd _=>by
  have e:((d*m+o:Nat):Int)=(o:Nat)+(d:Nat)*(m:Nat):=by rw[Int.natCast_add,Int.natCast_mul];lia
  rw[e];exact⟨by rw[Int.add_mul_ediv_right _ _ (by lia),Int.ediv_eq_zero_of_lt (by lia) (by lia)];lia,by rw[Int.add_mul_emod_self_right];exact Int.emod_eq_of_lt (by lia) (by lia)⟩
 have g:∀d:Nat,d<=1->d*m+o<2*m:=λd h=>by have:d*m<=1*m:=Nat.mul_le_mul_right m h;lia
 have mk:∀d:Nat,d<=1->plZ (m:Nat) s (p:Nat) (o:Nat)=((d*m+o:Nat):Int)->((if(gZ (m:Nat) s (o:Nat)=1/\gZ (m:Nat) s ((p:Nat)%(m:Nat))=2)\/(gZ (m:Nat) s (o:Nat)=2/\gZ (m:Nat) s ((p:Nat)%(m:Nat))=1) then 1-((d:Nat):Int) else(d:Nat))=((p:Nat):Int)/(m:Nat))->∃q:Nat,q<2*m/\plZ (m:Nat) s (p:Nat) (o:Nat)=(q:Nat)/\plZ (m:Nat) s (q:Nat) ((p:Nat)%(m:Nat))=(p:Nat):=λd a j k=>by refine⟨d*m+o,g d a,j,?_⟩;obtain⟨l,n⟩:=key d a;unfold plZ;rw[l,n,k,Int.mul_comm];exact f
 by_cases c:(gZ (m:Nat) s ((p:Nat)%(m:Nat))=1/\gZ (m:Nat) s (o:Nat)=2)\/(gZ (m:Nat) s ((p:Nat)%(m:Nat))=2/\gZ (m:Nat) s (o:Nat)=1);have b:(gZ (m:Nat) s (o:Nat)=1/\gZ (m:Nat) s ((p:Nat)%(m:Nat))=2)\/(gZ (m:Nat) s (o:Nat)=2/\gZ (m:Nat) s ((p:Nat)%(m:Nat))=1):=by lia
 rcases i with h|h;refine mk 1 (by lia) ?_ (by rw[if_pos b,h];rfl);unfold plZ;rw[if_pos c,h];lia;refine mk 0 (by lia) ?_ (by rw[if_pos b,h];rfl);unfold plZ;rw[if_pos c,h];lia;have b:¬((gZ (m:Nat) s (o:Nat)=1/\gZ (m:Nat) s ((p:Nat)%(m:Nat))=2)\/(gZ (m:Nat) s (o:Nat)=2/\gZ (m:Nat) s ((p:Nat)%(m:Nat))=1)):=by lia
 rcases i with h|h;refine mk 0 (by lia) ?_ (by rw[if_neg b,h];rfl);unfold plZ;rw[if_neg c,h];lia;refine mk 1 (by lia) ?_ (by rw[if_neg b,h];rfl);unfold plZ;rw[if_neg c,h];lia
noncomputable abbrev Zl:=Int×List Int×Int×Option Int
noncomputable def zD(z:Zl):D:=.tup [.int z.1,pD z.2.1,.int z.2.2.1,oD z.2.2.2]
theorem zsd(S:R.St)(z:Zl):∃x,pd S 59 (zD z)=Φ x:=by obtain⟨a,p,c,o⟩:=z;refine⟨.tuple [.int a,.tuple (p.map PySem.PyData.int),.int c,match o with|none=>.none|some v=>.int v],?_⟩;unfold zD;simp only[pd,Ϣ,List.mapM_nil];have e:=zeU S 57 p;cases o<;>simp[pd,oD,e]
theorem zk6{α:Type}(a:List α):allD (a.map λ_=>D.bl Γ)=Φ Γ:=by
 unfold allD;have:(a.map λ_=>D.bl Γ).mapM zgi=Φ (a.map λ_=>Γ):=by induction a with|nil=>rfl|cons q c b=>rw[Ν,Ϣ,b];rfl
 rw[this];simp
theorem zfK{S:R.St}{n a l:Nat}{b:List (PySem.Str×D)}{ds:List D}(e:S.get a=Φ (.ins 1 b))(c:b.lookup ("sent":PySem.Str)=Φ (.ref l))(d:S.get l=Φ (.lst ds))(f:ds.length<=16777216):appW (callF prog (n+1)) 29 [.ref a] S=.ok (.ref S.len) (S.push (.lst ds)):=by refine zg8 (F:=zcb) rfl rfl ?_;left;exists zaK e c;left;exists d;left;change f;left;exact⟨rfl,rfl⟩
theorem zpG{S:R.St}{l:Nat}{ds:List D}(h:S.get l=Φ (.lst ds)):tyOf S (.ref l)=Φ "list":=by unfold tyOf;dsimp only;rw[h]
theorem zfY(V:Town)(t:Int)(Ls:List Row):∀(hs:List V.H)(k i:Nat),(za8 V t Ls k hs)[i]?=(hs[i]?).map λh=>V.hear (k+i) t h (box Ls ((k+i:Nat):Int))
 | [],k,i=>by simp[za8]|h::hs,k,0=>by simp[za8]| h::hs,k,i+1=>by rw[za8,List.getElem?_cons_succ,List.getElem?_cons_succ,zfY V t Ls hs (k+1) i,show k+1+i=k+(i+1) by lia]
theorem zhm{V:Town}{t:Int}{r:Row}:∀{hs:List V.H}{k:Nat},r∈V.said t k hs↔∃i h,hs[i]?=Φ h/\∃a∈V.say (k+i) t h,r=V.go (k+i) a
 | [],k=>⟨λh=>(by cases h),λz=>(by obtain⟨i,h,e,_⟩:=z;simp at e)⟩| x::hs,k=>by rw[Town.said,mem_append,zhm (hs:=hs) (k:=k+1),mem_map];constructor;rintro(⟨a,b,rfl⟩|⟨i,h,e,a,b,rfl⟩);exact⟨0,x,rfl,a,b,rfl⟩;exact⟨i+1,h,by simpa using e,a,by rw[show k+(i+1)=k+1+i by lia];exact b,by rw[show k+(i+1)=k+1+i by lia]⟩;rintro⟨i,h,e,a,b,rfl⟩;cases i with|zero=>cases e;exact .inl ⟨a,b,rfl⟩|succ i=>exact .inr ⟨i,h,by simpa using e,a,by rw[show k+1+i=k+(i+1) by lia];exact b,by rw[show k+1+i=k+(i+1) by lia]⟩
theorem zdx{V:Town}{t:Int}{g:Nat->Nat}(a:∀j h,(V.say j t h).length=g j):∀(hs:List V.H)(k:Nat),(V.said t k hs).length=((List.range' k hs.length).map g).sum
 | [],k=>rfl| h::hs,k=>by rw[Town.said,length_append,length_map,a,zdx a hs (k+1),Χ,List.range'_succ];simp
structure Vp(m:Nat)(s:Int)(P:List Int):Prop where
 hd:P.head?=Φ s
 nd:P.Nodup
 rg:∀i∈P,∃k:Nat,k<m/\i=(k:Nat)
theorem zjb{m:Nat}{s o:Int}{q:List Int}(h:Vp m s q)(c:∃k:Nat,k<m/\o=(k:Nat))(n:o∉q):Vp m s (q++[o]):=by
 refine⟨by rw[List.head?_append,h.hd];rfl,nodup_append.mpr ⟨h.nd,by simp,λa d b f=>?_⟩,λi g=>?_⟩;have:b=o:=by simpa using f
 subst this;exact λe=>n (e▸d);rcases mem_append.mp g with z|z;exact h.rg i z;have:i=o:=by simpa using z
 subst this;exact c
theorem zgr{m:Nat}{s o:Int}{q:List Int}(h:Vp m s (q++[o])):(q≠[]->Vp m s q)/\o∉q/\(∃k:Nat,k<m/\o=(k:Nat))/\(q=[]->o=s):=by
 have b:=nodup_append.mp h.nd;refine⟨λc=>⟨?_,b.1,λi d=>h.rg i (mem_append_left _ d)⟩,λz=>b.2.2 o z o (by simp) rfl,h.rg o (by simp),λe=>?_⟩;have:=h.hd;cases q with|nil=>exact absurd rfl c|cons a r=>simpa using this
 subst e;have:=h.hd;simpa using this
theorem zmS{m:Nat}{s:Int}(hs:∃k:Nat,k<m/\s=(k:Nat)):Vp m s [s]:=⟨rfl,by simp,λi a=>by
 have:i=s:=by simpa using a
 subst this;exact hs⟩
namespace Or
theorem oth_mem{n:Nat}{h o:Int}{p:List Int}:o∈oth n h p↔(∃k:Nat,k<n/\o=(k:Nat))/\o≠h/\o∉p:=by unfold oth;rw[mem_filter];constructor;rintro⟨h1,h2⟩;refine⟨zcA h1,?_⟩;simpa using h2;rintro⟨⟨k,hk,rfl⟩,h2⟩;exact⟨mem_map.mpr ⟨k,mem_range.mpr hk,rfl⟩,by simpa using h2⟩
theorem zhC{n:Nat}{s b:Int}(hs:∃k:Nat,k<n/\s=(k:Nat)):∀{k:Nat}{P:List Int},P∈pz n s b k↔P.length=k+1/\Vp n s P/\b∉P
 |0,P=>by
  unfold pz;constructor;intro h;split at h;cases h;rename_i c;have:P=[s]:=by simpa using h
  subst this;exact⟨rfl,zmS hs,by simpa using λz=>c z.symm⟩;rintro⟨h1,h2,h3⟩;obtain⟨x,rfl⟩:=List.length_eq_one_iff.mp h1;have:x=s:=by simpa using h2.hd
  subst this;rw[if_neg (λz=>h3 (by rw[z];exact mem_singleton.mpr rfl))];exact mem_singleton.mpr rfl
 |k+1,P=>by
  rw[pz,nxt,List.mem_flatMap];constructor;rintro⟨q,hq,hP⟩;obtain⟨h1,h2,h3⟩:=(zhC hs).mp hq;obtain⟨o,ho,rfl⟩:=mem_map.mp hP;obtain⟨o1,o2,o3⟩:=oth_mem.mp ho;refine⟨by rw[length_append,h1];rfl,zjb h2 o1 o3,λz=>?_⟩;rcases mem_append.mp z with z|z;exact h3 z;exact o2 (mem_singleton.mp z).symm;rintro⟨h1,h2,h3⟩;rcases List.eq_nil_or_concat P with rfl|⟨q,o,rfl⟩;simp at h1;rw[List.concat_eq_append]at *;have hl:q.length=k+1:=by simpa using h1
  obtain⟨a1,a2,a3,_⟩:=zgr h2;have hq:q≠[]:=λe=>by rw[e]at hl;simp at hl
  exact⟨q,(zhC hs).mpr ⟨hl,a1 hq,λz=>h3 (mem_append_left _ z)⟩,mem_map.mpr ⟨o,oth_mem.mpr ⟨a3,λe=>h3 (e▸by simp),a2⟩,rfl⟩⟩
theorem ltwR_iff{n:Nat}{i:Int}{p:List Int}{d:D}{r:Row}:r∈ltwR n i p d↔∃k:Nat,k<n/\((k:Nat):Int)∉p++[i]/\r=⟨p++[i],(k:Nat),d⟩:=by unfold ltwR;rw[mem_map];constructor;rintro⟨o,ho,rfl⟩;obtain⟨h1,h2⟩:=mem_filter.mp ho;obtain⟨k,hk,rfl⟩:=zcA h1;exact⟨k,hk,by simpa using h2,rfl⟩;rintro⟨k,hk,h2,rfl⟩;exact⟨(k:Nat),mem_filter.mpr ⟨mem_map.mpr ⟨k,mem_range.mpr hk,rfl⟩,by simpa using h2⟩,rfl⟩
end Or
noncomputable def WZ(m:Nat)(s w1 w2:Int):List Int->Nat->Int
 | [],_=>0| [i],j=>(wdP m s w1 w2 (plZ (m:Nat) s (j:Nat) i).toNat).getD 0|i::k::r,j=>WZ m s w1 w2 (k::r) (plZ (m:Nat) s (j:Nat) i).toNat
theorem zk7{m j:Nat}{s w1 w2 i:Int}:WZ m s w1 w2 [i].reverse j=(wdP m s w1 w2 (plZ (m:Nat) s (j:Nat) i).toNat).getD 0:=rfl
theorem zha{m j:Nat}{s w1 w2 i:Int}{q:List Int}(a:q≠[]):WZ m s w1 w2 (q++[i]).reverse j=WZ m s w1 w2 q.reverse (plZ (m:Nat) s (j:Nat) i).toNat:=by rw[List.reverse_append];cases h:q.reverse with|nil=>exact absurd (by simpa using h) a|cons k r=>rfl
theorem zg5{m j k:Nat}{s:Int}(b:0<m)(c:j<2*m)(d:k<m):∃i:Nat,i<2*m/\plZ (m:Nat) s (j:Nat) ((k:Nat):Int)=(i:Nat)/\plZ (m:Nat) s (i:Nat) (hnZ m j)=(j:Nat)/\hnZ m i=(k:Nat):=by obtain⟨i,e,a,f⟩:=zqN (s:=s) b c d;refine⟨i,e,a,f,?_⟩;have:=zdH (m:=(m:Nat)) (s:=s) (p:=(j:Nat)) (o:=(k:Nat)) (by lia) (by lia);rw[a]at this;exact this
namespace Or
theorem zpu{K:Kk}{p:List Int}{w:Int}(h:(K.find? λx=>decide (x.1=p))=Φ (p,Φ w)):wd (gK hv K) p=.int w:=by unfold wd;rw[zhh,h];rfl
structure Full(m:Nat)(s w1 w2:Int)(t:Nat)(hs:List Kk):Prop where
 l:hs.length=2*m
 f:∀(j:Nat)(K:Kk),hs[j]?=Φ K->∀P,Vp m s P->P.length<=t->hnZ m j∉P->(K.find? λx=>decide (x.1=P))=Φ (P,Φ (WZ m s w1 w2 P.reverse j))
 g:∀(j:Nat)(K:Kk),hs[j]?=Φ K->∀x∈K,x.1.length<=t
noncomputable def rowZ(m:Nat)(s w1 w2:Int)(P:List Int)(j:Nat):Row:=⟨P,(j:Nat),.int (WZ m s w1 w2 P.reverse j)⟩
theorem zpw{m i:Nat}{s w1 w2:Int}(h:hnZ m i=s):∃w,wdP m s w1 w2 i=Φ w:=by unfold wdP;rw[if_pos (by unfold hnZ at h;lia)];exact⟨_,rfl⟩
theorem zhn{m c t:Nat}{s w1 w2:Int}{N wr:Nat}{la:Nat->Nat}{hs:List Kk}(hm:0<m)(hS:∃k:Nat,k<m/\s=(k:Nat))(F:Full m s w1 w2 t hs){r:Row}:r∈(rg m c s w1 w2 N wr la).said ((t+1:Nat):Int) 0 hs↔∃P j,Vp m s P/\P.length=t+1/\j<2*m/\hnZ m j∉P/\r=rowZ m s w1 w2 P j:=by
 have to_:∀{i k:Nat}{q:List Int}{d:D},i<2*m->k<m->((k:Nat):Int)∉q++[hnZ m i]->∃j,j<2*m/\plZ (m:Nat) s (i:Nat) ((k:Nat):Int)=(j:Nat)/\(plZ (m:Nat) s (j:Nat) (hnZ m i)).toNat=i/\hnZ m j∉q++[hnZ m i]:=λ{i k q d} hi hk hn=>by obtain⟨j,h1,h2,h3,h4⟩:=zg5 (s:=s) hm hi hk;exact⟨j,h1,h2,by rw[h3];exact ϝ _,by rw[h4];exact hn⟩
 refine(zhm (V:=rg m c s w1 w2 N wr la) (t:=((t+1:Nat):Int)) (r:=r) (hs:=hs) (k:=0)).trans ?_;constructor;rintro⟨i,K,e,r',h,rfl⟩;rw[zero_add]at h⊢;have hi:i<2*m:=Nat.lt_of_lt_of_eq (Α.mp e).1 F.l;have h:r'∈sayR m (hnZ m i) s (wdP m s w1 w2 i) (gK hv K) (t+1):=h;cases t with
 |zero=>rw[zcY]at h;split at h;rename_i c;obtain⟨k,hk,hn,rfl⟩:=ltwR_iff.mp h;obtain⟨j,j1,j2,j3,j4⟩:=to_ (d:=.non) hi hk hn;obtain⟨w,hw⟩:=zpw (w1:=w1) (w2:=w2) c;refine⟨[s],j,zmS hS,rfl,j1,by rw[c]at j4;exact j4,?_⟩;show Row.mk ([]++[hnZ m i]) (plZ (m:Nat) s (i:Nat) ((k:Nat):Int)) (oD (wdP m s w1 w2 i))=_;rw[j2,c,hw];unfold rowZ;rw[zk7];rw[c]at j3;rw[j3,hw];rfl;cases h
 |succ t=>
  rw[zcX]at h;obtain⟨q,hq,h⟩:=List.mem_flatMap.mp h;obtain⟨q1,q2,q3⟩:=(zhC hS).mp hq;obtain⟨k,hk,hn,rfl⟩:=ltwR_iff.mp h;obtain⟨j,j1,j2,j3,j4⟩:=to_ (d:=.non) hi hk hn;have qn:q≠[]:=λe=>by rw[e]at q1;simp at q1
  refine⟨q++[hnZ m i],j,zjb q2 ⟨i%m,Nat.mod_lt _ hm,rfl⟩ q3,by rw[length_append,q1];rfl,j1,j4,?_⟩;show Row.mk (q++[hnZ m i]) (plZ (m:Nat) s (i:Nat) ((k:Nat):Int)) (wd (gK hv K) q)=_;rw[j2,zpu (F.f i K e q q2 (by lia) q3)];unfold rowZ;rw[zha qn,j3]
 rintro⟨P,j,v,hl,hj,hn,rfl⟩;rcases List.eq_nil_or_concat P with rfl|⟨q,i0,rfl⟩;simp at hl;rw[List.concat_eq_append]at *;obtain⟨a1,a2,⟨k0,hk0,rfl⟩,a4⟩:=zgr v;obtain⟨i,i1,i2,i3,i4⟩:=zg5 (s:=s) hm hj hk0;have il:i<hs.length:=by rw[F.l];exact i1
 have ql:q.length=t:=by simpa using hl
 refine⟨i,hs[i],getElem?_eq_getElem il,⟨q++[hnZ m i],hnZ m j,.int (WZ m s w1 w2 (q++[((k0:Nat):Int)]).reverse j)⟩,?_,?_⟩;rw[zero_add];show _∈sayR m (hnZ m i) s (wdP m s w1 w2 i) (gK hv hs[i]) (t+1);rw[<-i4]at hn⊢;have jm:hnZ m j=((j%m:Nat):Int):=rfl;cases t with
 |zero=>
  have:q=[]:=List.length_eq_zero_iff.mp ql;subst this;have hs':hnZ m i=s:=by rw[i4];exact a4 rfl
  obtain⟨w,hw⟩:=zpw (w1:=w1) (w2:=w2) hs';rw[zcY,if_pos hs',hw];refine ltwR_iff.mpr ⟨j%m,Nat.mod_lt _ hm,hn,?_⟩;rw[show([]++[hnZ m i]:List Int).reverse=[hnZ m i].reverse from rfl,zk7,i4,i2,ϝ,hw];rfl
 |succ t=>
  have qn:q≠[]:=λe=>by rw[e]at ql;simp at ql
  rw[zcX];refine List.mem_flatMap.mpr ⟨q,(zhC hS).mpr ⟨ql,a1 qn,by rw[i4];exact a2⟩,ltwR_iff.mpr ⟨j%m,Nat.mod_lt _ hm,hn,?_⟩⟩;rw[zpu (F.f i _ (getElem?_eq_getElem il) q (a1 qn) (by lia) (by rw[i4];exact a2)),zha qn,i4,i2,ϝ]
 rw[zero_add];show _=Row.mk (q++[hnZ m i]) (plZ (m:Nat) s (i:Nat) (hnZ m j)) _;rw[i3,i4];rfl
theorem zdv{K:Kk}{p P:List Int}{o:Option Int}:((setK K p o).find? λx=>decide (x.1=P))=(K.find? λx=>decide (x.1=P)).or (if p=P/\p∉K.map (·.1) then Φ (p,o) else Ψ):=by unfold setK;by_cases c:p∈K.map (·.1);rw[if_pos c,if_neg (λz=>z.2 c),Option.or_none];rw[if_neg c,List.find?_append];congr 1;by_cases d:p=P;rw[if_pos ⟨d,c⟩];simp[d];rw[if_neg (λz=>d z.1)];simp[d]
theorem zcf{P:List Int}{y:List Int×Option Int}:∀(Ls K:Kk),(K.find? λx=>decide (x.1=P))=Φ y->((za5 K Ls).find? λx=>decide (x.1=P))=Φ y
 | [],K,h=>h|x::Ls,K,h=>zcf Ls (setK K x.1 x.2) (by rw[zdv,h];rfl)
theorem zdw{P:List Int}{v:Option Int}:∀(Ls K:Kk),(K.find? λx=>decide (x.1=P))=Ψ->(∀x∈Ls,x.1=P->x.2=v)->(∃x∈Ls,x.1=P)->((za5 K Ls).find? λx=>decide (x.1=P))=Φ (P,v)
 | [],K,h,h1,h2=>by obtain⟨x,hx,_⟩:=h2;cases hx
 |x::Ls,K,h,h1,h2=>by
  by_cases c:x.1=P;refine zcf Ls _ ?_;have ni:x.1∉K.map (·.1):=λz=>by obtain⟨y,hy,e⟩:=mem_map.mp z;have:=List.find?_eq_none.mp h y hy;simp at this;exact this (e.trans c)
  rw[zdv,h,if_pos ⟨c,ni⟩,c,h1 x ϊ c];rfl;refine zdw Ls (setK K x.1 x.2) ?_ (λy hy=>h1 y (Τ _ hy)) ?_;rw[zdv,h,if_neg (λz=>c z.1)];rfl;obtain⟨y,hy,e⟩:=h2;rcases mem_cons.mp hy with z|z;subst z;exact absurd e c;exact⟨y,z,e⟩
theorem zll{K:Kk}{p:List Int}{o:Option Int}{x:List Int×Option Int}(h:x∈setK K p o):x∈K\/x=(p,o):=by unfold setK at h;split at h;exact .inl h;rcases mem_append.mp h with z|z;exact .inl z;exact .inr (mem_singleton.mp z)
theorem zec{x:List Int×Option Int}:∀(Ls K:Kk),x∈za5 K Ls->x∈K\/x∈Ls
 | [],K,h=>.inl h| y::Ls,K,h=>by rcases zec Ls (setK K y.1 y.2) h with z|z;rcases zll z with z|z;exact .inl z;exact .inr (by rw[z];exact ϊ);exact .inr (Τ _ z)
theorem cv_mem{Ls:List Row}{j:Int}{x:List Int×Option Int}:x∈cvO (box Ls j)↔∃r∈Ls,r.to=j/\x=(r.p,unD r.w):=by unfold cvO box;rw[map_map,mem_map];constructor;rintro⟨r,hr,rfl⟩;obtain⟨h1,h2⟩:=mem_filter.mp hr;exact⟨r,h1,of_decide_eq_true h2,rfl⟩;rintro⟨r,h1,h2,rfl⟩;exact⟨r,mem_filter.mpr ⟨h1,decide_eq_true h2⟩,rfl⟩
theorem zpI{m c t:Nat}{s w1 w2:Int}{N wr:Nat}{la:Nat->Nat}(h:t+1<=3):(rg m c s w1 w2 N wr la).tt ((t+1:Nat):Int):=by show((t+1:Nat):Int)=1\/((t+1:Nat):Int)=2\/((t+1:Nat):Int)=3;lia
theorem zqq{m:Nat}{s:Int}(h:0<=s/\s<(m:Nat)):∃k:Nat,k<m/\s=(k:Nat):=⟨s.toNat,by lia,by lia⟩
theorem zkC{m c t:Nat}{s w1 w2:Int}{N wr:Nat}{la:Nat->Nat}{hs:List Kk}(m1:1<=m)(m6:m<=6)(hS:0<=s/\s<(m:Nat))(ht:t+1<=3)(F:Full m s w1 w2 t hs):Full m s w1 w2 (t+1) (rnd (rg m c s w1 w2 N wr la) ((t+1:Nat):Int) hs:List Kk):=by
 have nd:=(rg_ok (t:=c) (w1:=w1) (w2:=w2) (N:=N) (wr:=wr) (la:=la) m1 m6 hS).unl ((t+1:Nat):Int) hs (zpI ht) F.l;have iff:∀r,r∈srtR ((rg m c s w1 w2 N wr la).said ((t+1:Nat):Int) 0 hs)↔_:=λr=>(zbj nd).mem_iff.trans (zhn (c:=c) (N:=N) (wr:=wr) (la:=la) m1 (zqq hS) F);have at_:∀(j:Nat)(K':Kk),(rnd (rg m c s w1 w2 N wr la) ((t+1:Nat):Int) hs:List Kk)[j]?=Φ K'->∃K,hs[j]?=Φ K/\K'=za5 K (cvO (box (srtR ((rg m c s w1 w2 N wr la).said ((t+1:Nat):Int) 0 hs)) ((j:Nat):Int))):=λj K' e=>by have e:(za8 (rg m c s w1 w2 N wr la) ((t+1:Nat):Int) (srtR ((rg m c s w1 w2 N wr la).said ((t+1:Nat):Int) 0 hs)) 0 hs)[j]?=Φ K':=e;replace e:=(zfY (rg m c s w1 w2 N wr la) ((t+1:Nat):Int) (srtR ((rg m c s w1 w2 N wr la).said ((t+1:Nat):Int) 0 hs)) hs 0 j).symm.trans e;rw[zero_add]at e;obtain⟨K,e1,e2⟩:=Option.map_eq_some_iff.mp e;exact⟨K,e1,e2.symm⟩
 refine⟨(zb5 _ _ _ _ _).trans F.l,λj K' e0 P v hl hn=>?_,λj K' e0 x hx=>?_⟩;obtain⟨K,eK,rfl⟩:=at_ j K' e0;by_cases c:P.length<=t;exact zcf _ _ (F.f j K eK P v c hn);have hj:j<2*m:=by have:=(Α.mp eK).1;rw[F.l]at this;exact this
 refine zdw _ _ (List.find?_eq_none.mpr λx hx z=>?_) (λx hx e=>?_) ?_;have:=F.g j K eK x hx;rw[of_decide_eq_true z]at this;lia;obtain⟨r,hr,h1,rfl⟩:=cv_mem.mp hx;obtain⟨P',j',_,_,_,_,rfl⟩:=(iff r).mp hr;have e2:P'=P:=e;clear e;have h1:((j':Nat):Int)=(j:Nat):=h1;obtain rfl:j'=j:=by lia
 subst e2;rfl;exact⟨(P,Φ (WZ m s w1 w2 P.reverse j)),cv_mem.mpr ⟨rowZ m s w1 w2 P j,(iff _).mpr ⟨P,j,v,by lia,hj,hn,rfl⟩,rfl,rfl⟩,rfl⟩;obtain⟨K,eK,rfl⟩:=at_ j K' e0;rcases zec _ _ hx with z|z;have:=F.g j K eK x z;lia;obtain⟨r,hr,h1,rfl⟩:=cv_mem.mp z;obtain⟨P',j',_,h2,_,_,rfl⟩:=(iff r).mp hr;show P'.length<=t+1;lia
theorem full_0{m:Nat}{s w1 w2:Int}:Full m s w1 w2 0 ((List.range (2*m)).map λ_=>([]:Kk)):=by
 have nil:∀(j:Nat)(K:Kk),((List.range (2*m)).map λ_=>([]:Kk))[j]?=Φ K->K=[]:=λj K e=>by obtain⟨x,_,rfl⟩:=mem_map.mp (mem_of_getElem? e);rfl
 refine⟨by simp,λj K e P v hl hn=>?_,λj K e x hx=>?_⟩;have:P=[]:=List.length_eq_zero_iff.mp (by lia);subst this;have:=v.hd;exact nS this;rw[nil j K e]at hx;cases hx
end Or
theorem zhP{k:K3}{z:Row}:∀{rs:List Row},k∈rs.map key->key ((((rs.map key).zip rs).lookup k).getD z)=k
 | [],h=>by cases h| r::rs,h=>by rw[Ν,ϐ,ϗ];by_cases e:k=key r;rw[beq_iff_eq.mpr e];exact e.symm;rw[beq_eq_false_iff_ne.mpr e];exact zhP ((mem_cons.mp h).resolve_left e)
theorem zlg(rs:List Row):(srtR rs).map key=zgu (rs.map key):=by unfold srtR;rw[map_map];refine(Ο (g:=id) λk a=>?_).trans (List.map_id _);exact zhP ((za4 _).mem_iff.mp a)
noncomputable abbrev Zk:=K3×Int
noncomputable def zkD(z:Zk):D:=.tup [.int z.1.1,pD z.1.2.1,.int z.1.2.2,.int z.2]
noncomputable def zgI(m:Nat):Nat->Int
 |0=>1|t+1=>zgI m t*(if(m:Int)-1-t>0 then(m:Int)-1-t else 0)
noncomputable def lenZ(m:Nat):Nat->Nat->Int
 |_,0=>0|t,n+1=>2*zgI m (t+1)+lenZ m (t+1) n
namespace Or
theorem ze4(n:Nat)(i:Int)(p:List Int)(d:D):(ltwR n i p d).length=(ltwR n i p .non).length:=by unfold ltwR;rw[length_map,length_map]
theorem zij(n:Nat)(i s:Int)(w:Option Int)(kvs:List (List Int×D)):∀k,(sayR n i s w kvs k).length=(sayR n i s Ψ [] k).length
 |0=>rfl| 1=>by rw[zcY,zcY];split;rw[ze4,ze4 n i [] (oD Ψ)];rfl| k+2=>by rw[zcX,zcX,List.length_flatMap,List.length_flatMap];congr 1;refine Ο λp _=>?_;rw[ze4,ze4 n i p (wd [] p)]
theorem zpf:∀m:Fin 7,3<=m.val->∀s:Fin 7,s.val<m.val->∀t:Fin 4,1<=t.val->((((List.range' 0 (2*m.val)).map λj=>(sayR m.val (hnZ m.val j) (s.val:Int) Ψ [] t.val).length).sum:Nat):Int)=2*zgI m.val t.val:=by decide +kernel
theorem zik{m c t:Nat}{s w1 w2:Int}{N wr:Nat}{la:Nat->Nat}{hs:List Kk}(m3:3<=m)(m6:m<=6)(hS:0<=s/\s<(m:Nat))(ht:t+1<=3)(hl:hs.length=2*m):(((rg m c s w1 w2 N wr la).said ((t+1:Nat):Int) 0 hs).length:Int)=2*zgI m (t+1):=by have sl:=zdx (g:=λj=>(sayR m (hnZ m j) s Ψ [] (t+1)).length) (V:=rg m c s w1 w2 N wr la) (t:=((t+1:Nat):Int)) (λj h=>zij m (hnZ m j) s (wdP m s w1 w2 j) (gK hv h) (t+1)) hs 0;rw[sl];have:=zpf ⟨m,by lia⟩ m3 ⟨s.toNat,by lia⟩ (show s.toNat<m by lia) ⟨t+1,by lia⟩ (by show 1<=t+1;lia);dsimp only at this;rw[Int.toNat_of_nonneg hS.1]at this;refine Eq.trans ?_ this;show((((List.range' 0 (List.length (α:=Kk) hs)).map _).sum:Nat):Int)=_;rw[hl]
noncomputable def zOf(m:Nat)(s w1 w2:Int)(P:List Int)(j:Nat):Zk:=((((P.length:Nat):Int),P,((j:Nat):Int)),WZ m s w1 w2 P.reverse j)
structure Lz(m:Nat)(s w1 w2:Int)(t n:Nat)(zs:List Zk):Prop where
 a:∀z∈zs,∃P j,t<P.length/\P.length<=t+n/\Vp m s P/\j<2*m/\hnZ m j∉P/\z=zOf m s w1 w2 P j
 b:∀(P:List Int)(j:Nat),t<P.length->P.length<=t+n->Vp m s P->j<2*m->hnZ m j∉P->zOf m s w1 w2 P j∈zs
 o:zs.Pairwise λx y=>Lt3 x.1 y.1
 n:(zs.length:Int)=lenZ m t n
theorem lets_ex{m c:Nat}{s w1 w2:Int}{N wr:Nat}{la:Nat->Nat}(m3:3<=m)(m6:m<=6)(hS:0<=s/\s<(m:Nat)):∀(n t:Nat)(hs:List Kk),Full m s w1 w2 t hs->t+n<=3->∃zs:List Zk,lets (rg m c s w1 w2 N wr la) (t+1) n hs=zs.map zkD/\Lz m s w1 w2 t n zs
 |0,t,hs,F,ht=>⟨[],rfl,⟨λz h=>(by cases h),λP j h1 h2=>(by lia),Pairwise.nil,rfl⟩⟩| n+1,t,hs,F,ht=>by
  have nd:=(rg_ok (t:=c) (w1:=w1) (w2:=w2) (N:=N) (wr:=wr) (la:=la) (by lia) m6 hS).unl ((t+1:Nat):Int) hs (zpI (by lia)) F.l;have iff:∀r,r∈srtR ((rg m c s w1 w2 N wr la).said ((t+1:Nat):Int) 0 hs)↔_:=λr=>(zbj nd).mem_iff.trans (zhn (c:=c) (N:=N) (wr:=wr) (la:=la) (by lia) (zqq hS) F);obtain⟨zs,e,L⟩:=lets_ex m3 m6 hS n (t+1) _ (zkC (c:=c) (N:=N) (wr:=wr) (la:=la) (by lia) m6 hS (by lia) F) (by lia);have cnt:=zik (c:=c) (w1:=w1) (w2:=w2) (N:=N) (wr:=wr) (la:=la) m3 m6 hS (show t+1<=3 by lia) F.l;have srt:((srtR ((rg m c s w1 w2 N wr la).said ((t+1:Nat):Int) 0 hs)).map key).Pairwise Lt3:=by rw[zlg];exact zbC nd
  have ln:=(zbj nd).length_eq;show ∃zs:List Zk,(srtR ((rg m c s w1 w2 N wr la).said ((t+1:Nat):Int) 0 hs)).map (leD ((t+1:Nat):Int))++lets (rg m c s w1 w2 N wr la) (t+1+1) n (rnd (rg m c s w1 w2 N wr la) ((t+1:Nat):Int) hs)=_/\_;rw[e];generalize srtR ((rg m c s w1 w2 N wr la).said ((t+1:Nat):Int) 0 hs)=rs at iff srt ln;rw[<-ln]at cnt;have of:∀r∈rs,∃P j,P.length=t+1/\Vp m s P/\j<2*m/\hnZ m j∉P/\r=rowZ m s w1 w2 P j:=λr hr=>by obtain⟨P,j,h1,h2,h3,h4,h5⟩:=(iff r).mp hr;exact⟨P,j,h2,h1,h3,h4,h5⟩
  refine⟨rs.map (λr=>((((t+1:Nat):Int),r.p,r.to),(unD r.w).getD 0))++zs,?_,⟨λz hz=>?_,λP j h1 h2 h3 h4 h5=>?_,?_,?_⟩⟩;rw[map_append,map_map];congr 1;refine Ο λr hr=>?_;obtain⟨P,j,_,_,_,_,rfl⟩:=of r hr;rfl;rcases mem_append.mp hz with h|h;obtain⟨r,hr,rfl⟩:=mem_map.mp h;obtain⟨P,j,h1,h2,h3,h4,rfl⟩:=of r hr;refine⟨P,j,by lia,by lia,h2,h3,h4,?_⟩;unfold zOf;rw[h1];rfl;obtain⟨P,j,h1,h2,h3⟩:=L.a z h;exact⟨P,j,by lia,by lia,h3⟩;by_cases c:P.length=t+1;refine mem_append_left _ (mem_map.mpr ⟨rowZ m s w1 w2 P j,(iff _).mpr ⟨P,j,h3,c,h4,h5,rfl⟩,?_⟩);unfold zOf;rw[c];rfl;exact mem_append_right _ (L.b P j (by lia) (by lia) h3 h4 h5);refine List.pairwise_append.mpr ⟨?_,L.o,λx hx y hy=>?_⟩;rw[pairwise_map]at srt⊢;refine srt.imp λ{a b} h=>?_;unfold Lt3 at h⊢;dsimp only[key]at h⊢;rcases h with h|h;lia;exact .inr ⟨rfl,h.2⟩;obtain⟨r,_,rfl⟩:=mem_map.mp hx;obtain⟨P,j,h1,_,_,_,_,rfl⟩:=L.a y hy;refine Or.inl ?_;show((t+1:Nat):Int)<((P.length:Nat):Int);lia;rw[length_append,length_map,lenZ,<-cnt,<-L.n];lia
end Or
noncomputable def sumZ(m:Nat):Nat->Int
 |0=>0|t+1=>sumZ m t+zgI m (t+1)
theorem zj5{m c:Nat}(h:c<=3):lenZ m 0 c=2*sumZ m c:=by match c,h with|0,_=>rfl|1,_=>simp only[lenZ,sumZ,Nat.reduceAdd];lia|2,_=>simp only[lenZ,sumZ,Nat.reduceAdd];lia|3,_=>simp only[lenZ,sumZ,Nat.reduceAdd];lia
theorem zlC{S:R.St}{n m c:Nat}(k:c<=3)(l:m<=7):app (callF prog (n+1)) 20 [.int (m:Nat),.int (c:Nat)] S=.ok (.int (2*sumZ m c)) S:=by
 refine zaX (F:=zd3) rfl rfl ?_;left;change by lia
 left;refine zaw ?_;refine W.mono (zaQ (λi b T=>(∃u,b=[Φ (.int (m:Nat)),Φ (.int (c:Nat)),Φ (.int (sumZ m i)),Φ (.int (zgI m i)),u])/\T=S.enter) (λ_ _=>False) _ 0 _ _ ⟨⟨Ψ,rfl⟩,rfl⟩ ?_) ?_;rintro i z b T a ⟨⟨u,rfl⟩,rfl⟩;obtain⟨o,rfl⟩:i<c/\z=.int (i:Nat):=by rw[getElem?_map,ϝ]at a;by_cases h:i<c;rw[List.getElem?_range h]at a;exact⟨h,by cases a;rfl⟩;rw[List.getElem?_eq_none (by simpa using h)]at a;exact nS a
 refine⟨_,rfl,?_⟩;rw[zero_add];generalize e:List.set _ 4 _=j;refine wS_W _ ?_;subst e;left;change show zbJ (zgI m i) (if(m:Int)-1-(i:Nat)>0 then(m:Int)-1-(i:Nat) else 0)=Γ from ?_
 . unfold zbJ;rw[ϟ,decide_eq_true_eq,decide_eq_true_eq];refine .inr ?_;split<;>lia
 left;exact⟨⟨_,rfl⟩,rfl⟩;rintro f T g;cases f with
 |rt d=>exact g.elim| nx b=>
  obtain⟨⟨u,rfl⟩,rfl⟩:=g;rw[zero_add,length_map,Ϩ,ϝ];left;change by unfold zbJ;simp
  left;exact zao rfl ⟨rfl,rfl⟩
theorem zcF{cf:CF}{T:R.St}{e:CE}{δ:Ev}(v:Option D)(xs:List D)(h:∀d∈xs,evE cf e (Φ d::δ) T=.ok (.bl Γ) T):zaG [0] (evT cf (.tst (.con (D.bl Γ)))) (evE cf e) xs (v::δ) T=.ok (xs.map λ_=>D.bl Γ) T:=by rw[zbr (λ_=>Γ) (λ_=>D.bl Γ) xs v (λz a=>rfl) (λz a _=>h z a)];congr 2;exact List.filter_eq_self.mpr λ_ _=>rfl
theorem zmt{ns:List Int}(h:ns.Nodup):R.dedup ns=ns:=by
 unfold R.dedup;suffices ∀(l a:List Int),(a++l).Nodup->(l.foldl (λa x=>if a.contains x then a else a++[x]) a)=a++l from this ns [] h
 intro l;induction l with
 |nil=>intro a h;simp| cons x l b=>
  intro a h;have c:a.contains x=Δ:=by
   rw[Bool.eq_false_iff];intro z;have z:x∈a:=by simpa using z
   exact(nodup_append.mp h).2.2 x z x ϊ rfl
  show l.foldl _ (if a.contains x=Γ then a else a++[x])=_;rw[c,if_neg Ε,b _ (by rw[append_assoc];exact h),append_assoc];rfl
theorem zkH{n f:Nat}{T:R.St}{δ:Ev}{d e:D}(h:app (callF prog n) f [d] T=.ok e T):evE (callF prog n) (.call f 0 #[J0]) (Φ d::δ) T=.ok e T:=by refine W.eq (wE_W _ ?_);left;specialize h;left;exact⟨rfl,rfl⟩
theorem zjr{S:R.St}{n m j:Nat}{s w:Int}{P:List Int}(v:Vp m s P)(p:j<2*m)(h:hnZ m j∉P)(q:1<=m)(t:m<=7)(l:1<=P.length)(u:P.length<=3):app (callF prog (n+2)) 18 [zkD ((((P.length:Nat):Int),P,((j:Nat):Int)),w),.int (m:Nat),.int s] S=.ok (.bl Γ) S:=by
 obtain⟨b,c,rfl⟩:∃b c,P=b::c:=by cases P with|nil=>simp at l|cons a r=>exact⟨a,r,rfl⟩
 have f:b=s:=by simpa using v.hd
 refine zaX (F:=zc6) rfl rfl ?_;have g:R.atI [D.int (((b::c).length:Nat):Int),pD (b::c),.int (j:Nat),.int w] 1=Φ (pD (b::c)):=rfl;left;exists(show tyOf S.enter (zkD ((((((b::c).length:Nat):Int),b::c,((j:Nat):Int)):K3),w))=Φ "tuple" from rfl);left;exists g;left;exists(show tyOf S.enter (pD (b::c))=Φ "tuple" from rfl);left;exists g;left;refine zaw ?_;refine W.of (zcF Ψ _ λd e=>?_) ?_;obtain⟨k,_,rfl⟩:=mem_map.mp e;exact zkH (zhr (n:=n));change by rw[length_map,length_map];lia
 left;exists zk6 _;left;right;left;exists zag _ _;left;refine zaw ?_;refine W.of (zcF (δ:=[Φ (zkD ((((((b::c).length:Nat):Int),b::c,((j:Nat):Int)):K3),w))]) Ψ _ λd e=>?_) ?_
 . have e:d=.int 0\/d=.int 2\/d=.int 3:=by simpa using e
   rcases e with rfl|rfl|rfl
   all_goals
    refine W.eq (wE_W _ ?_);left;exists rfl;left;specialize zhr (n:=n);left;exact⟨rfl,rfl⟩
 right;left;exists rfl;left;exists rfl;left;change by unfold zbJ;simp
 left;refine zb7 (decide_eq_false (show ¬(2*(m:Int)<=((j:Nat):Int)) by lia)) ?_;left;refine zb7 (by simp) ?_;left;exists(show R.atI (D.int b::c.map D.int) 0=Φ (D.int b) from zmI);left;refine zb7 (by simp[f]) ?_;left;exists zbw (b::c);left;change by lia
 left;rw[zmt v.nd];refine zb7 (by simp) ?_;left;change by lia
 left;exists zrA _ _ (b::c);left;refine zb7 (decide_eq_false h) ?_;left;refine zaw ?_;refine W.of (zcF (δ:=[Φ (.int (m:Nat))]) Ψ _ λd e=>?_) ?_;obtain⟨i,o,rfl⟩:=mem_map.mp e;obtain⟨k,x,rfl⟩:=v.rg i o;refine W.eq (wE_W _ ?_);left;exact⟨congrArg D.bl (decide_eq_true (show((k:Nat):Int)<(m:Nat) by lia)),rfl⟩;change by rw[length_map,length_map];show(b::c).length<=16777216;lia
 left;exists zk6 _;left;exact zao rfl ⟨rfl,rfl⟩
theorem zhS(k:K3):key3 (zci k)=Φ k:=by obtain⟨a,p,c⟩:=k;show(zax (p.map .int)).map _=_;rw[zbw];rfl
theorem zsS{T:R.St}{k c:K3}(h:Lt3 c k):cmpO T .LtE (zci k) (zci c)=Φ Δ:=by show(key3 (zci k)).bind (λa=>(key3 (zci c)).map λb=>!decide (Lt3 b a))=_;rw[zhS,zhS];show Φ (!decide (Lt3 c k))=_;rw[decide_eq_true h];rfl
theorem znn{T:R.St}{l:Nat}{a:List (K3×D)}(h:T.get l=Φ (.d3 a)):d3K T (.ref l)=Φ a:=by unfold d3K;dsimp only;rw[h]
theorem zmy{T:R.St}{l:Nat}{a:List (K3×D)}{k:K3}(h:T.get l=Φ (.d3 a)):ziT T (.ref l) (zci k)=Φ (zd7 a k):=by unfold ziT;rw[znn h,zhS];rfl
noncomputable def kvZ(a:List Zk):List (K3×D):=a.map λz=>(z.1,.int z.2)
theorem zjd{z:Zk}:∀{a:List Zk},a.Pairwise (λx y=>Lt3 x.1 y.1)->z∈a->zd7 (kvZ a) z.1=Φ (.int z.2)
 |x::a,h,b=>by rw[pairwise_cons]at h;unfold kvZ zd7;rw[Ν,ϖ];by_cases c:x.1=z.1;rw[decide_eq_true c];rcases mem_cons.mp b with e|e;subst e;rfl;have:=h.1 z e;rw[c]at this;exact absurd this (zaS _);rw[decide_eq_false c];exact zjd h.2 ((mem_cons.mp b).resolve_left λe=>c (by rw[e]))
theorem znC{a:List Zk}{i:Nat}{z x:Zk}(o:a.Pairwise λx y=>Lt3 x.1 y.1)(e:a[i]?=Φ z)(c:x∈a.take i):Lt3 x.1 z.1:=by
 obtain⟨k,d,rfl⟩:=List.getElem_of_mem c;obtain⟨f,rfl⟩:=Α.mp e;have b:k<i:=by rw[ϣ]at d;lia
 rw[List.getElem_take];exact List.pairwise_iff_getElem.mp o k i (by lia) f b
theorem znD{a:List Zk}{i:Nat}{z x:Zk}(o:a.Pairwise λx y=>Lt3 x.1 y.1)(e:a[i]?=Φ z)(d:x∈a)(h:Lt3 x.1 z.1):x∈a.take (i+1):=by
 obtain⟨k,b,rfl⟩:=List.getElem_of_mem d;obtain⟨f,rfl⟩:=Α.mp e;by_cases c:k<=i;have:(a.take (i+1))[k]?=Φ a[k]:=by rw[List.getElem?_take_of_lt (by lia)];exact getElem?_eq_getElem b
 exact mem_of_getElem? this;exact absurd (zcu h (List.pairwise_iff_getElem.mp o i k f b (by lia))) (zaS _)
theorem zog{a:List Zk}{z:Zk}(h:∀x∈a,Lt3 x.1 z.1):zeS (kvZ a) z.1 (.int z.2)=kvZ (a++[z]):=by unfold zeS;rw[if_neg ?_];unfold kvZ;rw[map_append];rfl;intro m;obtain⟨y,b,e⟩:=mem_map.mp m;obtain⟨x,c,rfl⟩:=mem_map.mp b;have:=h x c;rw[show x.1=z.1 from e]at this;exact zaS _ this
theorem zmv{T:R.St}{l:Nat}{a:List (K3×D)}{k:K3}{v:D}(h:T.get l=Φ (.d3 a))(f:Fr T l)(b:a.length<16777216):∃U,dPut T (.ref l) (zci k) v=Φ U/\Mv [l] T U/\U.get l=Φ (.d3 (zeS a k v)):=by obtain⟨U,c,d,e⟩:=zdG (u:=.d3 (zeS a k v)) f h;refine⟨U,?_,d,e⟩;unfold dPut;dsimp only;rw[h];dsimp only;rw[zhS,Ϛ,if_pos b,c]
noncomputable abbrev El(ns:List Int)(m b:Nat)(s one a:Int)(way:D)(rg fl kn c l t p j w wr kp:Option D):Ev:=[Φ (.fix (ns.map .int)),Φ way,Φ (.int (m:Nat)),Φ (.int (b:Nat)),Φ (.int s),Φ (.int one),Φ (.int a),rg,fl,kn,c,l,t,p,j,w,wr,kp]
@[irreducible]noncomputable def lB:CS:=.ifS (.or (.nt (.tst (.call 18 0 #[J11,J2,J4]))) (.or (.cmp .LtE (.sl J11 Δ Γ (.con .non) V3) J10) (.cmp .Gt (.ix J11 V0) (.bin .Add J3 V1)))) (.ret (.con (D.bl Δ)) .nil) .nil (.asgT [12,13,14,15] J11 (.asg 10 (.sl J11 Δ Γ (.con .non) V3) (.setIx J9 J10 J15 (.asg 16 (.call 19 0 #[J2,J4,.ix J13 (.neg V1),J14]) (.ifS (.and (.cmp .Eq J12 V1) (.cmp .NotEq J15 (.ix (.lst #[J5,J6]) (.bin .FloorDiv J16 J2)))) (.ret (.con (D.bl Δ)) .nil) .nil (.ifS (.and (.cmp .Gt J12 V1) (.cmp .NotEq J15 (.dgN J9 (.tup #[.bin .Sub J12 V1,.sl J13 Δ Γ (.con .non) (.neg V1),J16])))) (.ret (.con (D.bl Δ)) .nil) .nil .nil))))))
theorem zsT{T:R.St}{ns:List Int}{n m b i kn:Nat}{s one a:Int}{way:D}{rg fl t p j w wr kp:Option D}{h:List Zk}{z:Zk}{bk:K3}(B:1<=m)(Q:m<=7)(hb:b<=2)(L:Or.Lz m s one a 0 (b+1) h)(e:h[i]?=Φ z)(hl:h.length<=10000)(g:T.get kn=Φ (.d3 (kvZ (h.take i))))(f:Fr T kn)(lt:Lt3 bk z.1) :
  W (exS (callF prog (n+3)) lB (El ns m b s one a way rg fl (Φ (.ref kn)) (Φ (zci bk)) (Φ (zkD z)) t p j w wr kp) T) λr U=>(∃t p j w wr,r=.nx (El ns m b s one a way rg fl (Φ (.ref kn)) (Φ (zci z.1)) (Φ (zkD z)) t p j w wr kp))/\U.get kn=Φ (.d3 (kvZ (h.take (i+1))))/\Mv [kn] T U:=by
 obtain⟨P,C,a1,a2,v,E,hn,o⟩:=L.a z (mem_of_getElem? e);rcases List.eq_nil_or_concat P with rfl|⟨q,i0,rfl⟩;simp at a1;rw[List.concat_eq_append]at *;obtain⟨v1,v2,⟨l,G,rfl⟩,v4⟩:=zgr v;obtain⟨d,w1,H,w3,Y⟩:=zg5 (s:=s) B E G;have sl:=zjr (S:=T) (n:=n+1) (w:=z.2) v E hn B Q (by simp) (by lia);have I:zkD ((((((q++[((l:Nat):Int)]).length:Nat):Int),q++[((l:Nat):Int)],((C:Nat):Int)):K3),z.2)=zkD z:=by rw[o];rfl
 rw[I]at sl;have tl:(h.take i).length<=h.length:=by rw[ϣ];lia
 obtain⟨U,hU,mU,u⟩:=zmv (k:=z.1) (v:=.int z.2) g f (by unfold kvZ;rw[length_map];lia);rw[zog λx J=>znC L.o e J,<-zco e]at u;refine wS_W _ ?_;unfold lB;left;specialize sl;left;have c3:D.tup (cut [D.int z.1.1,pD z.1.2.1,D.int z.1.2.2,D.int z.2] Ψ (Φ 3))=zci z.1:=rfl;rw[c3];exists zsS lt;left;exists show R.atI [D.int z.1.1,pD z.1.2.1,D.int z.1.2.2,D.int z.2] 0=Φ (.int z.1.1) from rfl;left;refine zb7 (decide_eq_false (show ¬(((b:Nat):Int)+1<z.1.1) by rw[o];show ¬(((b:Nat):Int)+1<(((q++[((l:Nat):Int)]).length:Nat):Int));lia)) ?_;left;exists(show asgG [12,13,14,15] (zkD z) (El ns m b s one a way rg fl (Φ (.ref kn)) (Φ (zci bk)) (Φ (zkD z)) t p j w wr kp)=Φ (El ns m b s one a way rg fl (Φ (.ref kn)) (Φ (zci bk)) (Φ (zkD z)) (Φ (.int z.1.1)) (Φ (pD z.1.2.1)) (Φ (.int z.1.2.2)) (Φ (.int z.2)) wr kp) from rfl);left;rw[c3];exists hU;left;have J:R.atI (z.1.2.1.map D.int) (-1)=Φ (.int ((l:Nat):Int)):=by rw[o];show R.atI ((q++[((l:Nat):Int)]).map D.int) (-1)=_;rw[map_append];exact zmH _ _
 have cw:app (callF prog (n+3)) 19 [.int (m:Nat),.int s,.int ((l:Nat):Int),.int z.1.2.2] U=.ok (.int ((d:Nat):Int)) U:=by rw[show z.1.2.2=((C:Nat):Int) by rw[o];rfl,<-H];exact zjq (n:=n+1) B Q E
 exists J;left;specialize cw;left;have y:z.1.1=(((q++[((l:Nat):Int)]).length:Nat):Int):=by rw[o];rfl
 have ew:z.2=WZ m s one a (q++[((l:Nat):Int)]).reverse C:=by rw[o];rfl
 refine zi7 (λc=>?_) (λc=>?_);have A:q=[]:=by rw[y]at c;refine List.length_eq_zero_iff.mp ?_;rw[length_append,List.length_singleton]at c;lia
 subst A;left;right;left;change by lia
 left;exists zag _ _;left;have ei:R.atI [D.int one,D.int a] (((d:Nat):Int)/((m:Nat):Int))=Φ (.int z.2):=by
  have e0:z.2=if d<m then one else a:=by rw[ew,List.nil_append,zk7,H,ϝ];unfold wdP;have:=v4 rfl;unfold hnZ at Y;rw[if_pos (by lia)];rfl
  rw[e0,show(((d:Nat):Int)/((m:Nat):Int))=((d/m:Nat):Int) from rfl];by_cases M:d<m;rw[Nat.div_eq_of_lt M,if_pos M];exact zmI;rw[show d/m=1 by rw[Nat.div_eq_iff B];lia,if_neg M];exact zr1
 exists ei;left;refine zb7 (by simp) ?_;left;refine zb7 (decide_eq_false (show ¬(1<z.1.1) by lia)) ?_;left;exact⟨⟨_,_,_,_,_,rfl⟩,zae u,mU.trans (Mv.push _ _ _)⟩;left;refine zgq (decide_eq_true (show 1<z.1.1 by rw[y]at c⊢;rw[length_append,List.length_singleton]at c⊢;lia)) ?_;left;exists znn u;left;have A:q≠[]:=λz=>c (by rw[y,z];rfl);have ec:cut (z.1.2.1.map D.int) Ψ (Φ (-1))=q.map D.int:=by rw[o];show cut ((q++[((l:Nat):Int)]).map D.int) Ψ (Φ (-1))=_;rw[map_append];exact zmz _ _
 have eg:ziT U (.ref kn) (.tup [.int (z.1.1-1),.tup (cut (z.1.2.1.map D.int) Ψ (Φ (-1))),.int ((d:Nat):Int)])=Φ (Φ (.int z.2)):=by
  have q3:hnZ m d∉q:=by rw[Y];exact v2
  have ql:=Nat.pos_of_ne_zero λz=>A (List.length_eq_zero_iff.mp z);have N:Or.zOf m s one a q d∈h:=L.b q d (by lia) (by rw[length_append]at a2;lia) (v1 A) w1 q3;have O:Lt3 (Or.zOf m s one a q d).1 z.1:=by refine Or.inl ?_;show((q.length:Nat):Int)<z.1.1;rw[y,length_append,List.length_singleton];lia
  have:=zjd (L.o.sublist (List.take_sublist (i+1) h)) (znD L.o e N O);rw[ec,show z.1.1-1=((q.length:Nat):Int) by rw[y,length_append,List.length_singleton];lia];refine(zmy (k:=(Or.zOf m s one a q d).1) u).trans ?_;rw[this];show Φ (Φ (D.int (WZ m s one a q.reverse d)))=_;rw[ew,zha A,H,ϝ]
 right;left;exists eg;left;refine zb7 (by simp) ?_;left;exact⟨⟨_,_,_,_,_,rfl⟩,u,mU⟩
theorem zsc(S:R.St)(z:Zk):∃x,pd S 59 (zkD z)=Φ x:=zsd S (z.1.1,z.1.2.1,z.1.2.2,Φ z.2)
theorem zmK(S:R.St):∀a:List Zk,∃xs,(a.map zkD).mapM (pd S 59)=Φ xs
 | []=>⟨[],rfl⟩| z::a=>by obtain⟨x,c⟩:=zsc S z;obtain⟨xs,b⟩:=zmK S a;exact⟨x::xs,by rw[Ν,Ϣ,c,b];rfl⟩
noncomputable def lTl:CS:=.asg 17 (.mkL (.val J8)) (.expr (.clr J8) (.ret (.cmp .Eq (.meth "letters" [(1,29)] J7 .nil) J17) .nil))
theorem zrs{T:R.St}{ns:List Int}{n m b rg fl l:Nat}{s one a:Int}{way:D}{kn k x t p j w wr:Option D}{c:List Zk}{g:List (PySem.Str×D)}(o:T.get rg=Φ (.ins 1 g))(q:g.lookup ("sent":PySem.Str)=Φ (.ref l))(u:g.lookup ("letters":PySem.Str)=Ψ)(v:T.get l=Φ (.lst (c.map zkD)))(d:T.get fl=Φ (.lst (c.map zkD)))(f:Fr T fl)(y:l≠fl)(z:rg≠fl)(E:c.length<=10000) :
  wS (callF prog (n+1)) lTl (El ns m b s one a way (Φ (.ref rg)) (Φ (.ref fl)) kn k x t p j w wr Ψ) T λr _=>r=.rt (.bl Γ):=by
 left;exists d;left;change by rw[length_map];lia
 left;exists zae d;left;right;left;obtain⟨U,A,h,G⟩:=zdG (T:=T.push (.lst (c.map zkD))) ⟨f.f,f.k⟩ (zae d);exists A;left;have H:=get_lt d;have i:=h.old _ _ (by simpa using z) (zae o);have B:=h.old _ _ (by simpa using y) (zae v);have C:=h.old _ _ (by simp;lia) (zag T (.lst (c.map zkD)));exists zay i;left;exists rfl;left;change by rw[u];rfl
 left;specialize zfK i q B (by rw[length_map];lia);left;obtain⟨I,e⟩:=zmK (U.push (.lst (c.map zkD))) c;exists zg1 (zag _ _) (zae C) e;rfl
theorem zrt{c:R.St}{ns:List Int}{n m b rg fl l kn:Nat}{s one a:Int}{way:D}{g:List Zk}{y:List (PySem.Str×D)}(T:1<=m)(Y:m<=7)(hb:b<=2)(L:Or.Lz m s one a 0 (b+1) g)(I:g.length<=10000)(A:c.get rg=Φ (.ins 1 y))(J:y.lookup ("sent":PySem.Str)=Φ (.ref l))(hm:y.lookup ("letters":PySem.Str)=Ψ)(B:c.get l=Φ (.lst (g.map zkD)))(C:c.get fl=Φ (.lst (g.map zkD)))(f:Fr c fl)(n1:l≠fl)(n3:rg≠fl)(k:c.get kn=Φ (.d3 []))(M:Fr c kn) :
  wS (callF prog (n+3)) (.forS [11] (.val J8) lB lTl) (El ns m b s one a way (Φ (.ref rg)) (Φ (.ref fl)) (Φ (.ref kn)) (Φ (zci (0,[],0))) Ψ Ψ Ψ Ψ Ψ Ψ Ψ) c λr _=>r=.rt (.bl Γ):=by
 have N:kn≠fl:=λe=>by rw[e,C]at k;cases k
 have kr:rg≠kn:=λe=>by rw[e,k]at A;cases A
 have kl:l≠kn:=λe=>by rw[e,k]at B;cases B
 left;exists C;left;refine zaw ?_;refine W.mono (zaQ (λi E U=>(∃o x t p j w wr,E=El ns m b s one a way (Φ (.ref rg)) (Φ (.ref fl)) (Φ (.ref kn)) (Φ (zci o)) x t p j w wr Ψ/\∀z,g[i]?=Φ z->Lt3 o z.1)/\U.get kn=Φ (.d3 (kvZ (g.take i)))/\Mv [kn] {c with lk:=fl::c.lk} U) (λ_ _=>False) _ 0 _ _ ⟨⟨(0,[],0),Ψ,Ψ,Ψ,Ψ,Ψ,Ψ,rfl,λz h=>?_⟩,k,Mv.refl _ _⟩ ?_) ?_;obtain⟨P,j,J,_,_,_,_,rfl⟩:=L.a z (mem_of_getElem? h);refine Or.inl ?_;show(0:Int)<((P.length:Nat):Int);lia;rintro i d E U h ⟨⟨o,x,t,p,j,w,wr,rfl,O⟩,G,q⟩;rw[zero_add]at O G;rw[getElem?_map]at h;cases e:g[i]? with
 |none=>rw[e]at h;exact nS h
 |some z=>rw[e]at h;cases h;refine⟨El ns m b s one a way (Φ (.ref rg)) (Φ (.ref fl)) (Φ (.ref kn)) (Φ (zci o)) (Φ (zkD z)) t p j w wr Ψ,rfl,?_⟩;have H:Fr U kn:=⟨by rw[q.frz];exact M.f,by rw[q.lk];show(fl::c.lk).contains kn=Δ;rw[contains_cons,M.k,Bool.or_false];simpa using N⟩;refine(zsT (n:=n) (rg:=Φ (.ref rg)) (fl:=Φ (.ref fl)) (kp:=Ψ) (t:=t) (p:=p) (j:=j) (w:=w) (wr:=wr) (ns:=ns) (way:=way) T Y hb L e I G H (O z e)).mono λr X hX=>?_;obtain⟨⟨t,p,j,w,wr,rfl⟩,gX,mX⟩:=hX;refine⟨⟨z.1,Φ (zkD z),t,p,j,w,wr,rfl,λz' u=>?_⟩,by rw[zero_add];exact gX,q.trans mX⟩;rw[zero_add]at u;obtain⟨i1,e1⟩:=Α.mp e;obtain⟨i2,e2⟩:=Α.mp u;rw[<-e1,<-e2];exact List.pairwise_iff_getElem.mp L.o i (i+1) i1 i2 (by lia)
 intro r U Q;cases r with|rt d=>exact Q.elim| nx E=>obtain⟨⟨o,x,t,p,j,w,wr,rfl,_⟩,G,q⟩:=Q;have v:Mv [kn] c ({U with lk:=c.lk}:R.St):=q.lock;have H:Fr ({U with lk:=c.lk}:R.St) fl:=f.mv v;exact zrs (n:=n+2) (v.old _ _ (by simpa using kr) A) J hm (v.old _ _ (by simpa using kl) B) (v.old _ _ (by simpa using λe=>N e.symm) C) H n1 n3 I
theorem zme:c_law.body=.asgT [1,2,3,4,5,6] (.call 15 0 #[J0]) (.asg 7 (.mk 1 26 "Ring" 0 #[.con (D.str "oral"),J2,J3,J4,J5,J6]) (.asg 8 (.meth "letters" [(1,29)] J7 .nil) (.ifS (.or (.nt (.tst (.bi (.isin "list") #[J8]))) (.cmp .NotEq (.bi .len #[J8]) (.call 20 0 #[J2,.bin .Add J3 V1]))) (.ret (.con (D.bl Δ)) .nil) .nil (.asg 9 .dnew3 (.asg 10 (.tup #[V0,.tup .nil,V0]) (.forS [11] (.val J8) lB lTl)))))):=by unfold lB;rfl
theorem law_true(ns:List Int)(hn:ns.length<=63):W (callF prog 12 21 [.fix (ns.map .int)] ⟨[],[],[]⟩) λd _=>d=.bl Γ:=by
 have key:W (exS (callF prog 11) c_law.body (zaB c_law [.fix (ns.map .int)]) ⟨[],[],[]⟩) λf _=>f=.rt (.bl Γ):=by
  obtain⟨way,m,b,s,one,other,k,ed⟩:=zn7 (n:=9) (S:=⟨[],[],[]⟩) (ns:=ns);have b1:=k.b1;have b2:=k.b2;have m3:=k.m3;have mb:=k.mb;have er:(R.St.push ⟨[],[],[]⟩ (.ins 1 [])).get 0=Φ (.ins 1 []):=rfl;have fr:Fr (R.St.push ⟨[],[],[]⟩ (.ins 1 [])) 0:=⟨le_refl _,rfl⟩;have rg:=zqz (n:=0) (S:=R.St.push ⟨[],[],[]⟩ (.ins 1 [])) (a:=0) ⟨.inl rfl,k.b1,k.b2,k.m3,k.mb,k.s,k.o1,k.o2,k.ne⟩ er fr (λl hl=>by cases hl);rw[zme];generalize hr:(CS.forS [11] (.val J8) lB lTl)=rest;refine wS_W _ ?_;left;specialize ed;left;exists show asgG [1,2,3,4,5,6] (dTup way m b s one other) (zaB c_law [.fix (ns.map .int)])=Φ (El ns m b s one other (.str way) Ψ Ψ Ψ Ψ Ψ Ψ Ψ Ψ Ψ Ψ Ψ) from rfl;left;refine zbh (rg.mono λd V hV=>?_);obtain⟨rfl,v,l,N,wr,la,g0,gl⟩:=hV;obtain⟨zs,ez,L⟩:=Or.lets_ex (m:=m) (c:=b+1) (s:=s) (w1:=one) (w2:=other) (N:=N) (wr:=wr) (la:=la) m3 (by lia) k.s (b+1) 0 _ Or.full_0 (by lia);have gl:V.get l=Φ (.lst (zs.map zkD)):=gl.trans (congrArg (λx=>Φ (MO.lst x)) ez);have hl:zs.length<=10000:=by
   have h1:=L.n;rw[zj5 (by lia)]at h1;have h2:∀m:Fin 7,∀c:Fin 4,sumZ m.val c.val<=5000:=by decide +kernel
   have:=h2 ⟨m,by lia⟩ ⟨b+1,by lia⟩;dsimp only at this;lia
  have ll:=get_lt gl;have l0:=get_lt g0;left;right;left;exists zay g0;left;exists rfl;left;change rfl;left;specialize zfK (n:=10) g0 rfl gl (by rw[length_map];lia);left;exists zpG (zag _ _);left;exists zag _ _;left;specialize zlC (n:=10) (m:=m) (c:=b+1) (by lia) (by lia);left;refine zb7 (by rw[length_map,L.n,zj5 (by lia)];simp) ?_;left;right;left;right;left;subst hr;have p1:((V.push (.lst (zs.map zkD))).push (.d3 [])).get V.len=Φ (.lst (zs.map zkD)):=zae (zag _ _);have fz:V.frz=[]:=v.frz;have lk:V.lk=[]:=v.lk;have fr2:∀x,Fr ((V.push (.lst (zs.map zkD))).push (.d3 [])) x:=λx=>⟨by show V.frz.length<=x;rw[fz];exact zero_le _,by show V.lk.contains x=Δ;rw[lk];rfl⟩;exact zrt (n:=8) (rg:=0) (fl:=V.len) (kn:=(V.push (.lst (zs.map zkD))).len) (by lia) (by lia) b2 L hl (zae (zae g0)) rfl rfl (zae (zae gl)) p1 (fr2 _) (by lia) (by lia) (zag _ _) (fr2 _)
 have hP:prog[21]?=Φ c_law:=rfl;simp only[callF,hP];show W (Out.bind (exS (callF prog 11) c_law.body (zaB c_law [.fix (ns.map .int)]) ⟨[],[],[]⟩) _) _;rw[zaa];refine key.mono λf T h=>?_;subst h;rfl
end
section
open PySem R L2
theorem p_way_of{P:Υ}{w:ύ}{K:Frag}{h base:Heap}{b:Str->Option Θ}{f d:Addr}{g kV i m ct e:Θ}{o p q:Option Addr}{r s:Array (Option Θ)}{t u:Tok}{v:Nat}(X:K.In h)(G:h.Ns mainGlobals b)(E:BM b base)(a:nsIn K mainGlobals "way_of"=Φ (Φ (.ref f)))(l:K.lookup f=Φ ⟨g,o,.func (fnOf "way_of" "way_of" (zan zbE) (zak zbE) (zab zbE) .none kV i m p e ct),r⟩)(c:codeIn K e "way_of"=Γ)(k:keepIn K (.ref f)=Γ)(x:nsIn K mainGlobals "isinstance"=Φ Ψ)(y:nsIn K mainGlobals "str"=Φ Ψ)(z:nsIn K mainGlobals "WAYS"=Φ (Φ (.ref d)))(A:K.lookup d=Φ ⟨.type "tuple",q,.seq (List.toArray [.str "oral" t,.str "kings" u]) v,s⟩):DefOk K b tab prog 12 "way_of" ["thing"] 0\/PrimOk P w K b base tab prog 12 "way_of" ["thing"] 0:=.inr ⟨⟨zia,.way,_,_,rfl,rfl,rfl,mg_of X G a,k,(λj B=>(Nat.le_zero.mp B).symm▸(zcP (st:=zbE) l c k).binds λ_ _ _ _ _ _=>usS λ_=>usZ rfl),λn C _=>(zpz l c zps (PySem.W.mg_none_of X G x) (PySem.W.mg_none_of X G y) (mg_of X G z) A rfl rfl rfl C).mono (by lia)⟩⟩
theorem lam_mem:(tab.lamP,("run":Str) ++ ".<locals>." ++ "<lambda>")∈Mks.ts:=by decide +kernel
theorem lam_one:∀p∈Mks.ts,p.1=tab.lamP->p.2=("run":Str) ++ ".<locals>." ++ "<lambda>":=by intro p a z;simp only[Mks.ts,mks,mem_cons,not_mem_nil,or_false]at a;subst a<;>first|decide +kernel|exact absurd z (by decide +kernel)
theorem lam_b:∀j,j<=1->∃n,(["hands","rounds","wires"]:List Str).length=n+j/\∀(d:Addr)(kV doc pm:Θ)(an:Option Addr)(cdv ct:Θ)(us:List Θ),us.length=n->∃k,bindArgs (fnOf "run" "run" (zan zhD) (zak zhD) (zab zhD) (.ref d) kV doc pm an cdv ct) ⟨us,[]⟩=seqItems? (.ref d)>>=k/\k (Φ [Θ.none].toArray)=pure ((["hands","rounds","wires"]:List Str).zip (us++List.replicate j Θ.none))
 |0,_=>⟨3,rfl,λ_ _ _ _ _ _ _=>usS λ_=>usS λ_=>usS λ_=>usZ ⟨_,rfl,rfl⟩⟩|1,_=>⟨2,rfl,λ_ _ _ _ _ _ _=>usS λ_=>usS λ_=>usZ ⟨_,rfl,rfl⟩⟩
theorem db_paths:∀j,j<=1->∃n,(["many","sender","length","without"]:List Str).length=n+j/\∀(d:Addr)(kV doc pm:Θ)(an:Option Addr)(cdv ct:Θ)(us:List Θ),us.length=n->∃k,bindArgs (fnOf "paths" "paths" (zan zdj) (zak zdj) (zab zdj) (.ref d) kV doc pm an cdv ct) ⟨us,[]⟩=seqItems? (.ref d)>>=k/\k (Φ [Θ.none].toArray)=pure ((["many","sender","length","without"]:List Str).zip (us++List.replicate j Θ.none))
 |0,_=>⟨4,rfl,λ_ _ _ _ _ _ _=>usS λ_=>usS λ_=>usS λ_=>usS λ_=>usZ ⟨_,rfl,rfl⟩⟩|1,_=>⟨3,rfl,λ_ _ _ _ _ _ _=>usS λ_=>usS λ_=>usS λ_=>usZ ⟨_,rfl,rfl⟩⟩
end
end Kz
open PySem PySem.W PyProof.Rows
set_option maxRecDepth 100000 in
set_option maxHeartbeats 0 in
theorem PySem.Challenge.cw_traitorround_k73_oral_rings_holds : PySem.Challenge.rw_traitorround_k73_oral_rings.Holds := by
 w_on;o_law;k_head;(case hw=>w_witness2)
 k_fill
 refine R.walk_ofT (l:=PySem.Challenge.rw_traitorround_k73_oral_rings) (n:=63) (k:=24) (x:="_law_script") (sp:=λw=>R.spF _ (R.callF Kz.prog 12) 21) rfl (by decide) rfl ⟨rfl,by decide,by decide⟩ (λw h Y=>PySem.W.km_in_of Y) ?hT ?hK ?F (λ_ _ a ns hl hx tb=>R.law_spT hx tb (Kz.law_true ns hl))
 case hT=>intro w h Y p hp;simp only[R.Mks.ts,Kz.mks,mem_cons,not_mem_nil,or_false]at hp;subst hp;exact PySem.W.km_tabs_of Y 287 (by simp)
 case hK=>intro w p hp;simp only[R.Mks.ts,Kz.mks,mem_cons,not_mem_nil,or_false]at hp;subst hp;exact⟨by with_unfolding_all rfl,291,by with_unfolding_all rfl⟩
 case F=>
  intro w mg fa h KX G hmg;apply R.all_of (n:=11) KX G hmg Kz.O32 (le_refl _)
  . (repeat' (first|exact trivial|apply R.AllAtG.cons|apply R.AllInG.cons))
    . apply R.clOk (c:=0) KX G rfl<;>first|k_is|((repeat' (first|exact trivial|apply R.AllAtG.cons|apply R.AllInG.cons))<;>k_is)
    . apply R.clOk (c:=1) KX G rfl<;>first|k_is|((repeat' (first|exact trivial|apply R.AllAtG.cons|apply R.AllInG.cons))<;>k_is)
  . (repeat' (first|exact trivial|apply R.AllAtG.cons|apply R.AllInG.cons))<;>k_is
  . (repeat' (first|exact trivial|apply R.AllAtG.cons|apply R.AllInG.cons))<;>(apply R.coOk;k_is)
  . intro base bm
    (repeat' (first|exact trivial|apply R.AllAtG.cons|apply R.AllInG.cons))
    . apply R.dOk KX G Kz.O21<;>k_is
    . apply R.dOk KX G Kz.O26<;>k_is
    . apply R.dOk KX G Kz.O24<;>k_is
    . apply R.dOk KX G Kz.O22<;>k_is
    . apply R.dOk KX G Kz.O27<;>k_is
    . apply R.dOk KX G Kz.O28<;>k_is
    . apply R.lOkD KX G bm Kz.O31 Kz.lam_mem Kz.lam_one Kz.lam_b<;>first|k_is|with_unfolding_all rfl
    . apply R.dOk KX G Kz.O25<;>k_is
    . apply R.dOk KX G Kz.O29<;>k_is
    . apply R.dOkD KX G Kz.O30 Kz.db_paths<;>k_is
    . apply R.dOk KX G Kz.O10<;>k_is
    . apply R.dOk KX G Kz.O13<;>k_is
    . apply Kz.p_way_of KX G bm<;>first|k_is|with_unfolding_all rfl
    . apply R.dOk KX G Kz.O9<;>k_is
    . apply R.dOk KX G Kz.O23<;>k_is
    . apply R.dOk KX G Kz.O16<;>k_is
    . apply R.dOk KX G Kz.O18<;>k_is
    . apply R.dOk KX G Kz.O19<;>k_is
    . apply R.dOk KX G Kz.O14<;>k_is
    . apply R.dOk KX G Kz.O12<;>k_is
    . apply R.dOk KX G Kz.O20<;>k_is
    . apply R.dOk KX G Kz.O32<;>k_is
  . intro hc
    (repeat' (first|exact trivial|apply R.AllAtG.cons|apply R.AllInG.cons))
    . apply R.mOk (c:=1) hc Kz.O4 rfl rfl<;>k_is
    . apply R.mOk (c:=1) hc Kz.O1 rfl rfl<;>k_is
    . apply R.mOk (c:=0) hc Kz.O5 rfl rfl<;>k_is
    . apply R.mOk (c:=1) hc Kz.O8 rfl rfl<;>k_is
    . apply R.mOk (c:=0) hc Kz.O0 rfl rfl<;>k_is
    . apply R.mOk (c:=1) hc Kz.O2 rfl rfl<;>k_is
    . apply R.mOk (c:=0) hc Kz.O7 rfl rfl<;>k_is
    . apply R.mOk (c:=1) hc Kz.O11 rfl rfl<;>k_is
    . apply R.mOk (c:=1) hc Kz.O6 rfl rfl<;>k_is
  . (repeat' (first|exact trivial|apply R.AllAtG.cons|apply R.AllInG.cons))
    . apply R.iOk (c:=0) Kz.O3 rfl<;>k_is
    . apply R.iOk (c:=1) Kz.O15 rfl<;>k_is
  . (repeat' (first|exact trivial|apply R.AllAtG.cons|apply R.AllInG.cons))
    . apply R.cOk KX G Kz.O17<;>k_is
  . (repeat' (first|exact trivial|apply R.AllAtG.cons|apply R.AllInG.cons))
  all_goals k_is
end

import PyProof.Rows.All
import Wide.All
import OpenK.AllK
import Wide.FinOn
import Lean
import PyProof.EqAt
import PyProof.EqKinds
import PyProof.TupleCall
import PyProof.P3Statements
import PySem.Syntax
import PyProof.Dict
import PySem.Challenge.RW_traitorround_k53_stories_by_letters
set_option Elab.async false
set_option linter.all false
set_option maxHeartbeats 4000000
set_option maxRecDepth 100000
set_option bootstrap.genMatcherCode false
set_option genInjectivity false
set_option genSizeOf false
set_option genSizeOfSpec false
local macro_rules|`(command|def $n:declId $b:bracketedBinder* : $t $v:declVal)=>`(command|theorem $n:declId $b:bracketedBinder* : $t $v:declVal)
local macro_rules|`(command|abbrev $n:declId $s:optDeclSig $v:declVal)=>`(command|noncomputable def $n:declId $s:optDeclSig $v:declVal)
local macro_rules|`(tactic|simp! [$x,*] $[$l]?)=>`(tactic|simp only [$x,*] $[$l]?)
local macro_rules|`(tactic|let ⟨$x,*⟩:=$e)=>do let N:=fun (k:Lean.Name) a=>Lean.Syntax.node .none (`Lean.Parser.Tactic++k) a;let O:=fun a=>Lean.mkNullNode a;let M:=fun p=>N `rcasesPatMed #[O #[p]];return N `obtain #[Lean.mkAtom "",O #[M ((← `(⟨$x,*⟩)).raw.rewriteBottomUp fun s=>if s.isIdent then N `rcasesPat.one #[s] else match s with|.node _ k a=>if k==`Lean.Parser.Term.hole then N `rcasesPat.ignore a else if k==`Lean.Parser.Term.anonymousCtor then N `rcasesPat.tuple #[a[0]!,O (a[1]!.getArgs.mapIdx fun i p=>if i%2==0 then N `rcasesPatLo #[M p,O #[]] else p),a[2]!] else s|_=>s)],O #[],O #[Lean.mkAtom "",O #[e]]]
open Option renaming some→Φ,none→Ψ
open Bool renaming true→Γ,false→Δ,and_eq_true→Ε,false_ne_true→Ν,false_eq_true→ύ,or_eq_true→Ϙ,not_eq_true'→ϝ
open PySem renaming wpAny_bind→Θ,Value→Ξ,wpAny_pure→Ω,Shared→Β,Program→Υ,sizeLine_eq→Χ,World→ϋ,wpAny_mono→ό,Around→ϐ,mem_of_lookup→ϑ,wpAny_call_entry→ϒ,wpAny_truthy_bool→ϓ,wpAny_newObj_type→ϔ,wpAny_Call_Name_kw→ϖ,wpAny_holding→ϙ,codeAny_mono→Ϛ
open PySem.Heap renaming get?_push_of_some→Λ,get?_push_size→Ζ,lt_size→Η,size_push→ώ
open List renaming getElem?_eq_some_iff→Α,getElem?_eq_getElem→Ι,mem_cons_of_mem→Κ,mem_cons_self→Μ,map_cons→Ο,length_cons→Ρ,map_congr_left→Τ,getD_eq_getElem?_getD→ϊ,prefix_append→ϗ,prefix_refl→ϛ,lookup_cons→Ϝ,mapM_cons→ϟ,length_nil→Ϡ,append_nil→ϡ,pairwise_cons→Ϣ
open Nat renaming lt_succ_self→ϕ,lt_succ_of_lt→Ϟ
def qa1{a b:Bool}(h:(a&&b)=Γ):a=Γ/\b=Γ:=(Bool.and_eq_true a b).mp h
def qd1{p:Prop}[Decidable p]{b:Bool}(h:(decide p&&b)=Γ):p/\b=Γ:=(qa1 h).imp_left of_decide_eq_true
def qb1{α:Type}[BEq α][LawfulBEq α]{x y:α}{b:Bool}(h:(x==y&&b)=Γ):x=y/\b=Γ:=(qa1 h).imp_left eq_of_beq
def qL{a b:Bool}{p:Prop}(f:a=Γ->p)(h:(a&&b)=Γ):p/\b=Γ:=(qa1 h).imp_left f
open PySem.W (Frag KatTups Looks callWith_K callWith_K0 cellsFrom_some codeHdIn codeIn emptyDict findCls findIn fnOf handedIn hasDictIn instObj isFn kat_cons kat_no kat_one keepIn kia_one kitOne kitx_dict kitx_list kla_fn kla_obj lookIn makesIn methodObj mg_of mroIn nsIn plainGet plainGet_of plainOver readsIn specialIn tabObj takerIn takesIn)
open Bool (and_eq_true not_eq_true' or_eq_true)
open Nat (le_of_eq le_of_lt le_refl le_succ le_trans lt_irrefl lt_of_lt_of_le lt_succ_of_lt lt_succ_self lt_trans ne_of_gt ne_of_lt zero_add zero_le)
open List (Pairwise all_cons all_eq_true any_cons append_assoc append_nil contains_cons getElem?_append_left getElem?_append_right getElem?_map getElem?_set_ne getElem?_set_self isEmpty_iff length_append length_cons length_filter_le length_map length_nil length_range length_replicate length_take lookup_cons mapM_cons map_append map_cons map_map map_nil mem_append mem_append_left mem_append_right mem_cons mem_cons_of_mem mem_cons_self mem_filter mem_map mem_of_getElem? mem_range mem_singleton nodup_append nodup_cons not_mem_nil of_mem_zip pairwise_cons pairwise_map prefix_append prefix_refl size_toArray)
open Array (length_toList)
open Option (bind_some)
open Int (emod_nonneg)
structure PySem.W.Fast:Prop where(tw10334913902618929385 tw10686775907605360194 tw10719951785641902552 tw10747643688459304023 tw11040055807454994873 tw11103784518506482172 tw11339768230132948656 tw11425607862315100265 tw11486359636735307471 tw11614308731317357097 tw11662040451136225836 tw11781779513638798645 tw11793034524269464330 tw11926102477407133123 tw12007206077239862670 tw12195702813068920350 tw1237289686077509500 tw12414194711113292991 tw12738876036380546466 tw12830280143817936663 tw12850150577332254898 tw13057789609176287688 tw1320525955653483786 tw1364991824260106744 tw13666615523550867826 tw13735450392294408362 tw13788341826047004610 tw1384632922288442315 tw13873987230488234915 tw13898026397063230834 tw14270649796959222627 tw14448403445347919172 tw14509343662929740632 tw14649587770729597094 tw14679317337215453324 tw14682487637612373765 tw14752164828525631324 tw151477156068700155 tw15172791303868235330 tw15359512690392202944 tw15456564209316325548 tw15949637843098108404 tw1623754101554100765 tw16285961162243164158 tw16342778348491682452 tw16378448256128418211 tw16474802538577480804 tw16664500959830232889 tw16770769669372306576 tw16911277453906912379 tw16916435493763260704 tw17001980934536833390 tw17047989414920711664 tw17097272643833867280 tw1713954356591135878 tw17246304807190100234 tw1732771464523858294 tw17374532090263878335 tw17872215845955186543 tw17884641348008877326 tw17911030337440308310 tw18054647288800680818 tw18076282082091935064 tw18080867515137497837 tw18117608439066915894 tw1813263897086975452 tw18167025596841077735 tw18249052031061045677 tw18267287166078579568 tw18281162857203584844 tw18437643268826797772 tw18444679522125215722 tw1943969052094724888 tw2007457198366030643 tw2048124087151468594 tw2077129204155143109 tw2332272437468592610 tw2535859448914894565 tw2601517219115418914 tw2619172345885469959 tw2672338285546580447 tw2758617007847320934 tw2937311373124904592 tw2960547561584937648 tw3050584881593173618 tw3211436119759024943 tw3460452361933285153 tw3467258973390070488 tw3697585147888972352 tw372950279511659347 tw3761895013592407360 tw3771559721086132855 tw420647014868379131 tw420845428191319595 tw4284042816986591846 tw437752002308326816 tw4390322309967172048 tw4458855002617320439 tw4689745828313413170 tw4734140872048337490 tw4765787686836489122 tw4790003427225245333 tw4855192069702369877 tw4994705088935748440 tw5037173295572785569 tw5390963300445562605 tw5603655880243619257 tw5634038222090940585 tw5635651192588242368 tw6083564503020862848 tw6221047155841621272 tw6364252256103371946 tw6635581882891361738 tw6684219404043185277 tw6871481589325315611 tw6921782158270913027 tw6967743103307545542 tw7070555529733996873 tw7321559244259042727 tw7477115281065371451 tw7607132538287241654 tw7828056193965073308 tw8063865765320920022 tw8129656308264154706 tw8227401302196534049 tw8354738483829351843 tw8429386592645355375 tw8510906179379520787 tw8834906502023642832 tw8878693388066689893 tw8950008885042241124 tw8971754803768815502 tw9145126829179892121 tw9162437004736568928 tw9175626071417674904 tw9374313097509005676 tw9592881663306729645 tw9902144026649658537 tw99736942276121026 tw5358846406194941748 tw9599105441649843332 tw10646548936788684484 tw13259335269976627532 tw14005372428656267689 tw16252462416091901400 tw18441313746655223788 tw2263779068538707137 tw4254812011458942593 tw6995865491810665697 tw782220150307974072 tw8111651210630775557 tw9492700183730459460 tw10767885149687550088 tw11274306921366265736 tw1303516067463269189 tw15692529117958651153 tw598557231460989563 tw8232810236541919023 tw8697701628865716947 tw12946447096198386065 tw10147508990203629258 tw10831954588363867934 tw13089838477533712453 tw1313464028931661035 tw14666608156668539751 tw15422617937061647498 tw15701777121726490719 tw17600173913354666150 tw1844248431557964113 tw4297007574511657248 tw4339352312297282822 tw10047201645922204211 tw10854688620798848444 tw11775142985987340007 tw13155498900213816515 tw13477664245112834645 tw17294242298940769330 tw17571995430306374291 tw1776328272109132714 tw593652997880955563 tw6000064176774430358 tw8802122450026357665 tw5825215730062931926 tw1435472691476254436 tw10074636318669431120 tw13403198310890342228 tw16327097199882735528 tw17923666952300774355 tw18262265179470133058 tw2695218878234547734 tw3364061677101537283 tw4990827871784293482 tw5406214998943369306 tw6999905274088178408 tw8462314896198153371 tw11008278595829277166 tw16687484701552853330 tw1733731357373389900 tw18204899442609377469 tw3773472969469927761 tw6948252209082586635 tw14663603295188278298 tw11408389221570484240 tw6421825818629736145 tw169293725215527231 tw6603700461508290700 tw10580336679169675677 tw7041047525897820785 tw8818234245032150534 tw12865492601013331874 tw1882487902907708819 tw2054130890721609864 tw6743893897544518394 tw13379522761758226122 tw14747656749709021389 tw14895718777974216459 tw4110080762614425522 tw4390947153322564976 tw4710950549045063536 tw6904759759461806087 tw4597519053030515635 tw7991670428014223902 tw8528983992246940795 tw240639307316436548 tw668536942225106449 tw7950227009303259696 tw8586746229781655571 tw5511620966617076714 tw17369380651874446062 tw10749119620181465185 tw11262779489023627476 tw8120330416676235525 tw164113163043248525 tw16187722427621645341 tw17366192283312839463 tw1967691182635572695 tw6129540857957534373 tw14149978548275036359 tw8381005280122323952 tw3947892908644175263 tw3219759313143538718 tw6253797877327251731 tw14645284025853956345 tw13131845920259688756 tw5888345110404170931 tw5993211567821391810 tw8341181109305060793 tw3671483439483072419 tw16853801459406187330 tw11041296988228666920 tw14277702241688463683 tw1766008737259660138 tw4477232384547178723 tw17493913916718237710 tw3817465509692406404 tw14476174191514660426 tw4628185143631156037 tw3477559657529039485 tw7421057002437364767 tw1933917870049707755 tw6689761407872202747 tw10035708074924690548 tw7198274635213139349 tw11372891460073942005 tw4754899157256247489 tw12455356857958299491 tw15782301747236125022 tw5715827376606429363 tw14363697826299946599 tw5002058122266383480 tw4958905861700085846 tw11717442324032600275 tw3618246058171940133 tw2310750825015271671 tw17296374829442625188 tw1944163666006157165 tw2563326296699020741 tw9377893935990577797 tw15533819110418222760 tw18239334574152590919 tw7995430577983125506 tw6760712071421797436 tw9458125582840434534 tw8242242013980579885 tw4730008766076428871 tw14044286385027726897 tw18249010349840656623 tw17092533643412863137 tw14636317202363542032 tw1995527098648294399 tw8323503320419778614 tw9870204326902657810 tw16719411282876278871 tw4358552742055205418 tw10274194592281883134 tw8163638317786537254 tw14872990055135999324 tw3356029056089321934 tw14190621144561389604 tw15232291542246881533 tw13263524200660388400 tw6628779229001567552 tw7519581808125784382 tw9549586472723243483 tw108479385292741956 tw10878055852941506179 tw5731901473714231680 tw14951081001819019488 tw17220722577650734747 tw343508220789974928 tw9306530191673401163 tw12442403417188362974 tw10185770062462969507 tw10491899338288290557 tw11241506949750470748 tw13217079773678965163 tw644173071459897619 tw12057344290405386929 tw8461998500079636303 tw11900061147771791225 tw13593697967128281946 tw2992572508082822128 tw7043402708638556670 tw15901502313262381728 tw14342095267661281277 tw6105809372172164838 tw591224154880985845 tw129721840079655874 tw3252249324725504862 tw10626086367982129037 tw7880669171000071846 tw13378373250211970221 tw2725382379663973244 tw3635327949924543990 tw8445975872349102193 tw1294538474668312867 tw16475166592755501918 tw7141771897196377253 tw17103094600038739316 tw3815511252895645644 tw15497490345072713683 tw14283242762105267033 tw672380632424391102 tw12394269071013611869 tw8258520954617380804 tw11934237672601593056 tw12414379153944383324 tw1679710365721555534 tw11749685522170981093 tw1739966465683417309 tw1918670387545630991 tw9311610189751967359 tw7052469982607803649 tw15062257120473159517 tw876329310244946413 tw8485436138371070909 tw519242679555958654 tw15041783745595608507 tw10085636342885662525 tw12850182410121017304 tw1896302483952556837 tw1439547538850248229 tw7264883564279964236 tw10937072814581815572 tw11645340172321989932 tw17612309836607508773 tw11267369689508737646 tw8647480796435673085 tw10209945708619726812 tw9195910727820406104 tw14981040083582258005 tw13845378060059498955 tw9136520947264395277 tw15614479900685383077 tw14944704449067979209 tw4820625046575456818 tw9170729672235794563 tw9565575236839855324 tw11642804418593632090 tw11614215802685569219 tw15096246032805545261 tw17461639774344844920 tw1905640098889646113 tw4851678741938664516 tw2639943148176305732 tw13933038609126860706 tw12889040507518642055 tw11080997641348498411 tw8526278171806038478 tw2582651079982152668 tw1094226210199175589 tw11352533738744844883 tw17389698797775641101 tw17283993571278844446 tw16989026330649258152 tw15080892825114685244 tw17289093680615337085 tw8844951769790813870 tw8900812788379525434 tw11752507610669013728 tw12530465978713039919 tw14670928100864498554 tw15111067950082605433 tw7713412876820174926 tw9398898064811265531 tw1229495600266723045 tw16588315414841450980 tw9964049443333661438 tw4343674640667150151 tw10232912584206270784 tw1538190815924166367 tw7482493320009044274 tw18071599357059709685 tw9825992893820366809 tw4581126604708091195 tw6283326996779345598 tw18228468903241098639 tw11757165696540780180 tw17231593850274998196 tw856463968700969461 tw9714721035882193519 tw10428054069529710647 tw14245106761994308505 tw16875888862068750437 tw2034015151376715908 tw15966536800493369466 tw521989677872897541 tw12427280480934214510 tw702432768511046846 tw13686692566078986961 tw811343639500583820 tw16086577868199322975 tw11832150871829290696 tw14524706859499027142 tw3965847018790065337 tw4764367063987043303 tw9362563271178502458 tw5261170255974542257 tw6177239984586645302 tw7808276976791124271 tw1362417317712901583 tw6223218079829590745 tw14595674352860034567 tw16182412025701846868 tw7471168715326339525 tw2012154408640618236 tw6693076606199133618 tw7107279506506919688 tw5308039040577922253 tw5638268329360826092 tw9527556315217986776 tw12612525818846946292 tw8054594719139048977 tw14842900024788131721 tw7781434945088806222 tw10404078132423655648 tw5831144157745808533 tw3539844604461965347 tw7305801010389495494 tw14393159876177512468 tw3663465942051410213 tw6114889622544961757 tw9285236981374661186 tw18342899189823408779 tw6395310313002750116 tw941003711447902462 tw84542453585793940 tw17984230322965430512 tw10157824143452704199 tw2918417844893070393 tw15874773266868143070 tw9363075995025285271 tw14689650056464259886 tw2973145005021895056 tw2379596059782948722 tw4273984484516166033 tw1350180871669084408 tw8126160132238117229 tw9933237981926550794 tw19591073076071897 tw5730305892999018884 tw16411237873134083594 tw3139884364509397716 tw9400207121034323717 tw14887883001595993076 tw11318580166584969437 tw10042267538157823147 tw10038016886921837144 tw13554028758077950205 tw2614614664067499920 tw16528599217414911810 tw15831562374528690666 tw1231534347689594809 tw14099795307583249730 tw3792064546822794895 tw15993847764406345355 tw13228577870147114771 tw11622692147956211986 tw3697724050746500442 tw9810908322506525659 tw16117673714540909501 tw1538110504497983237 tw7915045431490270215 tw9013032901070518832 tw12423791420769566401 tw14698204963176003690 tw10554326468505416764 tw7515898883641339833 tw11447565368984589211 tw16613121176187645034 tw4277468088597698259 tw17003185517570844323 tw7577450623305523101 tw1620368255421698950 tw7307311174804461354 tw9165246083276789992 tw15834221871636978417 tw537017593056000391 tw5797152977241721081 tw3663011391385036793 tw3317193449593280128 tw16261015529224884192 tw8724799838551323624 tw14247792607638839602 tw12923581292215771177 tw11353580864598702332 tw14235781689259642530 tw7733928516279568805 tw2194582967811385776 tw11514236952604584256 tw18014246078928100334 tw12180767489015487742 tw12452397366960102444 tw17722712331132729949 tw9658959932742271786 tw2401569609799544292 tw10975189482962743210 tw8246865596396450316 tw13342827952069407556 tw5752228069786362090 tw13753615309044564113 tw3881047373700046975 tw7440135874003376546 tw7960186377413267942 tw5417512631061126634 tw10198963101108957669 tw2238515293534645937 tw11572078984349306200 tw13133933058827278795 tw4344204245453510759 tw9588314667443948113 tw13124417952534414410 tw1810015179530879788 tw11963553011269506893 tw7884178987360050591 tw17634038990723760956 tw13154469274255277889 tw13944673577756154170 tw6264924919185902371 tw13084850232614575902 tw1075970557774110739 tw7181006696322772398 tw12790361482424697467 tw18205437185090238468 tw15720424622591351692 tw720170597207960401 tw3888929655714950645 tw8411453982920956798 tw9980845880542754207 tw10557546178759136241 tw3285000569674713871 tw14740495525324805711 tw10742888890618847078 tw9256667606567979536 tw7014178919216325017:True)
def nS{α:Type _}{a:α}{P:Prop}(h:Ψ=Φ a):P:=by cases h
def nB{P:Prop}(h:Δ=Γ):P:=by cases h
def usS{b:Type}{P:List b->Prop}(h:∀a,∀us:List b,us.length=n->P (a::us)):∀us:List b,us.length=n+1->P us:=λus e=>by cases us with|nil=>cases e|cons a us=>exact h a us (Nat.succ.inj e)
def usZ{a:Type}{P:List a->Prop}(h:P []):∀us:List a,us.length=0->P us:=λus e=>by cases us with|nil=>exact h|cons=>cases e
def eY{α β:Type _}{p q r:α->β->Prop}{P:Prop}(h:∃a b,p a b/\q a b/\r a b)(k:∀a b,p a b->q a b->r a b->P):P:=h.elim λa h=>h.elim λb h=>k a b h.1 h.2.1 h.2.2
namespace L2
open PySem PySem.Spec PyProof.Rows
@[reducible]def Key:=Sum Int Str
abbrev zgG:Key->Ξ->Bool
 |.inl k,v=>Ξ.isInt k v|.inr x,v=>Ξ.isStrOf x v
abbrev keyH(w:ϋ):Key->Int
 |.inl k=>hashInt k|.inr x=>hashStr w x
def zaz:∀{k:Key}{v:Ξ},zgG k v=Γ->(∃i t,k=Sum.inl i/\v=Ξ.int i t)\/(∃x t,k=Sum.inr x/\v=Ξ.str x t)
 |.inl i,v,h=>by let⟨t,e⟩:=Ξ.isInt_shape h;exact .inl ⟨i,t,rfl,e⟩| .inr x,v,h=>by let⟨t,e⟩:=Ξ.isStrOf_shape h;exact .inr ⟨x,t,rfl,e⟩
def zlr(i)(t):zgG (.inl i) (.int i t)=Γ:=by simp[zgG,Ξ.isInt]
def zlq(x)(t):zgG (.inr x) (.str x t)=Γ:=by simp[zgG,Ξ.isStrOf]
def ztm(a b):decide ((Sum.inl a:Key)=Sum.inl b)=(a==b):=by by_cases e:a=b;subst e;simp;have h:¬(Sum.inl a:Key)=Sum.inl b:=λq=>e (Sum.inl.inj q);rw[decide_eq_false h];exact(beq_eq_false_iff_ne.mpr e).symm
def zti(a b):decide ((Sum.inr a:Key)=Sum.inr b)=decide (a=b):=by by_cases e:a=b;subst e;simp;have h:¬(Sum.inr a:Key)=Sum.inr b:=λq=>e (Sum.inr.inj q);rw[decide_eq_false h,decide_eq_false e]
def ztl(a)(b):decide ((Sum.inl a:Key)=Sum.inr b)=Δ:=decide_eq_false (λq=>by cases q)
def ztj(a)(b):decide ((Sum.inr a:Key)=Sum.inl b)=Δ:=decide_eq_false (λq=>by cases q)
abbrev zaq(prog:Υ)(w:ϋ):PySem.KeyKind prog w Key where
 is:=zgG
 hash:=keyH w
 inj:=λv a b f d=>by rcases zaz f with⟨i,t,rfl,rfl⟩|⟨x,t,rfl,rfl⟩;rcases zaz d with⟨j,u,rfl,e⟩|⟨y,u,rfl,e⟩;injection e with e1 _;rw[e1];exact nomatch e;rcases zaz d with⟨j,u,rfl,e⟩|⟨y,u,rfl,e⟩;exact nomatch e;injection e with e1 _;rw[e1]
 byValue:=λk v h=>by rcases zaz h with⟨i,t,rfl,rfl⟩|⟨x,t,rfl,rfl⟩<;>rfl
 pyHash:=λc h=>by rcases zaz c with⟨i,t,rfl,rfl⟩|⟨x,t,rfl,rfl⟩;exact wpAny_pyHash_int h;exact wpAny_pyHash_str h
 eqBool:=λg c h=>by rcases zaz g with⟨i,t,rfl,rfl⟩|⟨x,t,rfl,rfl⟩;rcases zaz c with⟨j,u,rfl,rfl⟩|⟨y,u,rfl,rfl⟩;rw[ztm]at h;exact wpAny_eqBool_int h;rw[ztl]at h;exact SeqAt.EqAt.int_str i t y u _ _ _ _ h;rcases zaz c with⟨j,u,rfl,rfl⟩|⟨y,u,rfl,rfl⟩;rw[ztj]at h;exact SeqAt.EqAt.str_int x t j u _ _ _ _ h;rw[zti]at h;exact wpAny_eqBool_str h
 «strs»:=λk x t v h=>by
  rcases zaz h with⟨i,u,rfl,e⟩|⟨y,u,rfl,e⟩;exact nomatch e
  . injection e with e1 _;subst e1;cases v<;>rfl
def zju(prog)(w)(k)(v):(zaq prog w).is k v=zgG k v:=rfl
def zhE(prog)(w)(i)(t):(zaq prog w).is (.inl i) (.int i t)=Γ:=zlr i t
def zhD(prog)(w)(x)(t):(zaq prog w).is (.inr x) (.str x t)=Γ:=zlq x t
set_option genInjectivity true in
inductive V where
 |non|bl (b:Bool)|int (i:Int)|str (x:Str)|byt (b:Array UInt8)|flt (b:UInt64)|ref (a:Addr)|ty (n:String)
 deriving DecidableEq
abbrev RelV:V->Ξ->Prop
 |.non,u=>u=Ξ.none|.bl b,u=>u=Ξ.bool b|.int i,u=>∃t,u=Ξ.int i t|.str x,u=>∃t,u=Ξ.str x t|.byt b,u=>∃t,u=Ξ.bytes b t|.flt b,u=>∃t,u=Ξ.float b t|.ref a,u=>u=Ξ.ref a|.ty n,u=>u=Ξ.type n
@[reducible]def Vals:List V->List Ξ->Prop:=Paired RelV
def Vals.length(r:Vals xs us):xs.length=us.length:=Paired.length r
def Vals.get:∀{xs:List V}{us:List Ξ}{i:Nat}{x:V},Vals xs us->xs[i]?=Φ x->∃u,us[i]?=Φ u/\RelV x u
 |_,_,_,_,.nil,e=>by simp at e|_,_,0,_,.cons r _,e=>by simp at e;subst e;exact⟨_,rfl,r⟩| _,_,i+1,x,.cons _ t,e=>by let⟨u,a,b⟩:=Vals.get (i:=i) (x:=x) t (by simpa using e);exact⟨u,by simpa using a,b⟩
def Vals.append:∀{xs ys:List V}{us a:List Ξ},Vals xs us->Vals ys a->Vals (xs++ys) (us++a)
 |_,_,_,_,.nil,s=>s|_,_,_,_,.cons r t,s=>.cons r (Vals.append t s)
def Vals.take:∀{xs:List V}{us:List Ξ}(n:Nat),Vals xs us->Vals (xs.take n) (us.take n)
 |_,_,0,_=>.nil|_,_,_+1,.nil=>.nil|_,_,n+1,.cons r t=>.cons r (Vals.take n t)
def Vals.drop:∀{xs:List V}{us:List Ξ}(n:Nat),Vals xs us->Vals (xs.drop n) (us.drop n)
 |_,_,0,r=>r|_,_,_+1,.nil=>.nil|_,_,n+1,.cons _ t=>Vals.drop n t
abbrev RelO:Option V->Option Ξ->Prop
 |some v,Φ u=>RelV v u|none,Ψ=>True|_,_=>False
abbrev KV{a:Type}:List (a×V)->List (a×Ξ)->Prop:=Paired λ(p:a×V) (q:a×Ξ)=>p.1=q.1/\RelV p.2 q.2
abbrev kV:Key->V
 |.inl i=>.int i|.inr x=>.str x
inductive HO where
 |lst (xs:List V)
 |tup (xs:List V)
 |dK (kvs:List (Key×V))|dT (kvs:List (List Key×V))
 |set (S:Int->Bool) (n:Nat)
 |ins (C dx:Addr) (fs:List (Str×V))
 |own (x:Addr)
 |xd (fs:List (Str×V))
 |met (f x:Addr)
 |rng (lo hi:Int)
 |frz (o:Obj) (u:HO)
 |tbl (ps:Array Ξ)
 |ext (φ:Heap->Prop)
@[reducible]def Hp:=Addr->Option HO
abbrev upd(H:Hp)(a:Addr)(o:HO):Hp:=λb=>if b=a then Φ o else H b
def zag:upd H a o a=Φ o:=by unfold upd;rw[if_pos rfl]
def zad(h:b≠a):upd H a o b=H b:=by unfold upd;rw[if_neg h]
def zpa:upd (upd H a o) a u=upd H a u:=by funext b;unfold upd;split<;>rfl
def ne_of{H:Hp}(h:H a=Φ o)(h':H b=Φ u)(d:o≠u):a≠b:=by intro e;subst e;rw[h]at h';exact d (Option.some.inj h')
def zah{H:Hp}(h:H a=Φ o)(h':H b=Ψ):a≠b:=by intro e;subst e;rw[h]at h';cases h'
section
variable(P:Υ)(w:ϋ)
abbrev ObjOk(H:Hp)(h:Heap)(a:Addr):HO->Prop
 |.lst d=>d.length<=sizeLine/\∃(b:List Ξ) (n:Nat),Vals d b/\h.get? a=Φ {cls:=.type "list",data:=.seq b.toArray n}|.tup d=>d.length<=sizeLine/\∃b:List Ξ,Vals d b/\IsTup h a b.toArray|.dK c=>c.length<=sizeLine/\(a==sysModules)=Δ/\∃k,KV c k/\h.DictOf (zaq P w) a k
 |.dT c=>c.length<=sizeLine/\(a==sysModules)=Δ/\∃d:List (List Key×Addr×Ξ),
  Paired (λ(p:List Key×V) (q:List Key×Addr×Ξ)=>p.1=q.1/\H q.2.1=Φ (.tup (p.1.map kV))/\RelV p.2 q.2.2) c d/\
  ∃o l s,h.get? a=Φ o/\o.ExactDict/\o.data=.dict l s/\l.toList=d.map (entryOfKey (tupleKind (zaq P w)))/\(d.map (·.1)).Nodup
 |.set S n=>h.SetOf (intKind P w) a S n
 |.ins C i g=>H i=Φ (.own a)/\g.length<=1000/\i≠a/\h.get? a=Φ (instObj C i)/\
  ∃e,h.Ns1 i e/\(∀f,RelO (g.lookup f) (e f))/\PySem.Within e (g.map (·.1))
 |.own _=>∃o,h.get? a=Φ o|.xd g=>∃e,h.Ns1 a e/\∀f,RelO (g.lookup f) (e f)|.rng lo y=>∃t u v,h.get? a=Φ {cls:=.type "range",data:=.fields #[.int lo t,.int y u,.int 1 v]}|.frz o u=>h.get? a=Φ o/\ObjOk H h a u|.tbl z=>h.get? a=Φ {cls:=.none,data:=.fields z}|.met f x=>h.get? a=Φ (methodObj (.ref f) (.ref x))|.ext j=>j h/\(∃o,h.get? a=Φ o)/\∀m r:Heap,j m->(∀o,m.get? a=Φ o->r.get? a=Φ o)->j r
abbrev HOk(H:Hp)(h:Heap):Prop:=∀a o,H a=Φ o->ObjOk P w H h a o
end
section
variable{P:Υ}{w:ϋ}{H H':Hp}{h h':Heap}{a:Addr}{o:HO}
def ObjOk.lt(x:ObjOk P w H h a o):a<h.objs.size:=by cases o with|lst c=>let⟨_,_,_,_,e⟩:=x;exact Η e|tup c=>let⟨_,_,_,p⟩:=x;exact p.lt|dK b=>let⟨_,_,_,_,o,_,_,e,_⟩:=x;exact Η e|dT b=>let⟨_,_,_,_,o,_,_,e,_⟩:=x;exact Η e|set S n=>let⟨o,_,_,_,e,_⟩:=x;exact Η e|ins C g d=>let⟨_,_,_,e,_⟩:=x;exact Η e|own y=>let⟨_,e⟩:=x;exact Η e|xd d=>let⟨_,⟨_,_,_,e,_⟩,_⟩:=x;exact Η e|rng lo i=>let⟨_,_,_,e⟩:=x;exact Η e|frz j u=>let⟨e,_⟩:=x;exact Η e|tbl k=>exact Η (show h.get? a=Φ _ from x)|met f y=>exact Η (show h.get? a=Φ _ from x)|ext l=>let⟨_,⟨_,e⟩,_⟩:=x;exact Η e
def Paired.mapP{c:List e}{d:List g}(h:Paired F c d)(f:∀a b,F a b->G a b):Paired G c d:=by induction h with|nil=>exact .nil|cons r _ i=>exact .cons (f _ _ r) i
def ObjOk.stay(x:ObjOk P w H h a o)(k:∀b u,(b=a\/H b=Φ (.own a))->h.get? b=Φ u->h'.get? b=Φ u)
  (E:∀b,H b=Φ (.own a)->H' b=Φ (.own a)) (G:∀b xs,H b=Φ (.tup xs)->H' b=Φ (.tup xs)):ObjOk P w H' h' a o:=by
 induction o with|lst xs=>let⟨z,l,n,r,e⟩:=x;exact⟨z,l,n,r,k _ _ (.inl rfl) e⟩|tup xs=>let⟨z,l,r,g,e,c⟩:=x;exact⟨z,l,r,g,k _ _ (.inl rfl) e,c⟩|dK m=>let⟨z,y,I,r,g,i,j,e,c⟩:=x;exact⟨z,y,I,r,g,i,j,k _ _ (.inl rfl) e,c⟩| dT m=>let⟨z,y,xs,r,g,i,j,e,c⟩:=x;exact⟨z,y,xs,Paired.mapP r λp q z=>⟨z.1,G _ _ z.2.1,z.2.2⟩,g,i,j,k _ _ (.inl rfl) e,c⟩|set S n=>let⟨g,i,j,t,e,c⟩:=x;exact⟨g,i,j,t,k _ _ (.inl rfl) e,c⟩| ins C O J=>let⟨d,z,L,e,s,⟨A,i,j,M,c⟩,r⟩:=x;exact⟨E _ d,z,L,k _ _ (.inl rfl) e,s,⟨A,i,j,k _ _ (.inr d) M,c⟩,r⟩|own y=>let⟨g,e⟩:=x;exact⟨g,k _ _ (.inl rfl) e⟩|xd J=>let⟨s,⟨A,i,j,e,c⟩,r⟩:=x;exact⟨s,⟨A,i,j,k _ _ (.inl rfl) e,c⟩,r⟩|rng lo Q=>let⟨t,u,v,e⟩:=x;exact⟨t,u,v,k _ _ (.inl rfl) e⟩|frz g u N=>let⟨e,q⟩:=x;exact⟨k _ _ (.inl rfl) e,N q⟩| tbl B=>have e:=x;exact k a _ (.inl rfl) e| met f y=>have e:=x;exact k a _ (.inl rfl) e|ext T=>let⟨p,⟨o,e⟩,st⟩:=x;exact⟨st _ _ p λo q=>k _ _ (.inl rfl) q,⟨o,k _ _ (.inl rfl) e⟩,st⟩
def HOk.lt(x:HOk P w H h)(e:H a=Φ o):a<h.objs.size:=(x a o e).lt
def HOk.fresh(x:HOk P w H h)(e:h.objs.size<=a):H a=Ψ:=by cases q:H a with|none=>rfl|some u=>exact absurd (lt_of_lt_of_le (x.lt q) e) (lt_irrefl _)
def HOk.kept(x:HOk P w H h)(k:∀b u,h.get? b=Φ u->h'.get? b=Φ u):HOk P w H h':=λa o e=>(x a o e).stay (λb u _ q=>k b u q) (λ_ q=>q) λ_ _ q=>q
def HOk.laid(x:HOk P w H h)(k:∀b u,h.get? b=Φ u->h'.get? b=Φ u)(g:h.objs.size<=a)(new:ObjOk P w (upd H a o) h' a o):HOk P w (upd H a o) h':=λb u e=>by have d:=x.fresh g;by_cases f:b=a;subst f;rw[zag]at e;cases e;exact new;rw[zad f]at e;exact(x b u e).stay (λc v _ q=>k c v q) (λc q=>by rw[zad (zah q d)];exact q) λc i q=>by rw[zad (zah q d)];exact q
end
abbrev Rd(H:Hp)(a:Addr)(u:HO):Prop:=H a=Φ u\/∃o,H a=Φ (.frz o u)
def Rd.of(h:H a=Φ u):Rd H a u:=.inl h
def Rd.ok(r:Rd H a u)(x:HOk P w H h):ObjOk P w H h a u:=by rcases r with r|⟨o,r⟩;exact x a u r;let⟨_,q⟩:=x a _ r;exact q
abbrev Mut:Option HO->Prop
 |some (.lst _)=>True|some (.dK _)=>True|some (.dT _)=>True|some (.set _ _)=>True|some (.ins _ _ _)=>True|some (.ext _)=>True|_=>False
section
variable{P:Υ}{w:ϋ}{H:Hp}{h h':Heap}{x e:Addr}{o':HO}
def HOk.write(ok:HOk P w H h)(g:Mut (H x))(n:e=x\/H e=Φ (.own x))(k:∀b u,b≠e->h.get? b=Φ u->h'.get? b=Φ u)(m:∃u,h'.get? e=Φ u)
  (new:ObjOk P w (upd H x o') h' x o'):HOk P w (upd H x o') h':=λb u q=>by
 have d:∀c y,H c=Φ (.own y)->c≠x:=λc y r z=>by subst z;rw[r]at g;exact g
 have f:∀c i,H c=Φ (.tup i)->c≠x:=λc i r z=>by subst z;rw[r]at g;exact g
 by_cases j:b=x;subst j;rw[zag]at q;cases q;exact new;rw[zad j]at q;by_cases a:b=e;have o:H b=Φ (.own x):=by rcases n with z|z;exact absurd (a.trans z) j;rw[a];exact z
 rw[q]at o;cases o;let⟨v,p⟩:=m;exact⟨v,by rw[a];exact p⟩;refine(ok b u q).stay (λc v l r=>k c v ?_ r) (λc r=>by rw[zad (d c b r)];exact r) λc i r=>by rw[zad (f c i r)];exact r
 rcases l with rfl|l;exact a;rintro rfl;rcases n with z|z;exact d c b l z;rw[l]at z;cases z;exact j rfl
end
structure Un(fs ex:List Addr)(H H':Hp)(h h':Heap):Prop where
 keep:∀b o,h.get? b=Φ o->H b=Ψ->b∉fs->b∉ex->h'.get? b=Φ o
 slot:∀b o,h.get? b=Φ o->H b=Ψ->b∈fs->b∉ex->∃sl,h'.get? b=Φ {o with slots:=sl}
 free:∀b o,h.get? b=Φ o->H b=Ψ->b∉ex->H' b=Ψ
 there:∀b o,h.get? b=Φ o->b∉ex->∃o',h'.get? b=Φ o'
 tups:∀b xs,H b=Φ (.tup xs)->H' b=Φ (.tup xs)
 frzs:∀b o u,H b=Φ (.frz o u)->H' b=Φ (.frz o u)
 tbls:∀b ps,H b=Φ (.tbl ps)->∃more,H' b=Φ (.tbl (ps++more))
section
variable{fs fs' ex ex':List Addr}{H H1 H2:Hp}{h h1 h2 h':Heap}{a x e:Addr}{o:HO}
def Un.any(u:Un fs ex H H1 h h1)(q:h.get? b=Φ c)(n:H b=Ψ)(d:b∉ex):∃g,h1.get? b=Φ {c with slots:=g}:=by by_cases f:b∈fs;exact u.slot b c q n f d;exact⟨c.slots,u.keep b c q n f d⟩
def Un.kept(k:∀b u,h.get? b=Φ u->h'.get? b=Φ u):Un fs ex H H h h':=⟨λb c q _ _ _=>k b c q,λb c q _ _ _=>⟨c.slots,k b c q⟩,λ_ _ _ n _=>n,λb c q _=>⟨c,k b c q⟩,λ_ _ q=>q,λ_ _ _ q=>q,λ_ d q=>⟨#[],by rw[q];simp⟩⟩
def Un.refl:Un fs ex H H h h:=Un.kept λ_ _ q=>q
def Un.laid(k:∀b u,h.get? b=Φ u->h'.get? b=Φ u)(d:h.objs.size<=a)(c:H a=Ψ):Un fs ex H (upd H a o) h h' where
 keep:=λb u q _ _ _=>k b u q
 slot:=λb u q _ _ _=>⟨u.slots,k b u q⟩
 free:=λb u q n _=>by rw[zad (ne_of_lt (lt_of_lt_of_le (Η q) d))];exact n
 there:=λb u q _=>⟨u,k b u q⟩
 tups:=λb f q=>by rw[zad (zah q c)];exact q
 frzs:=λb u f q=>by rw[zad (zah q c)];exact q
 tbls:=λb g q=>⟨#[],by rw[zad (zah q c),q];simp⟩
def Un.write(d:Mut (H x))(l:e=x\/H e=Φ (.own x))(k:∀b u,b≠e->h.get? b=Φ u->h'.get? b=Φ u)(f:∃u,h'.get? e=Φ u):Un fs ex H (upd H x o) h h':=by
 have i:∀b,H b=Ψ->b≠x:=λb n z=>by subst z;rw[n]at d;exact d
 have j:∀b,H b=Ψ->b≠e:=λb n z=>by subst z;rcases l with r|r;exact i b n r;rw[n]at r;exact nS r
 have g:∀b u,H b=Φ u->¬Mut (Φ u)->b≠x:=λb u q m z=>by subst z;rw[q]at d;exact m d
 refine⟨λb u q n _ _=>k b u (j b n) q,λb u q n _ _=>⟨u.slots,k b u (j b n) q⟩,λb u q n _=>by rw[zad (i b n)];exact n,λb u q _=>?_,
  λb p q=>by rw[zad (g b _ q λz=>z)];exact q,λb u p q=>by rw[zad (g b _ q λz=>z)];exact q,λb s q=>⟨#[],by rw[zad (g b _ q λz=>z),q];simp⟩⟩
 by_cases c:b=e;subst c;exact f;exact⟨u,k b u c q⟩
end
abbrev trk(h:Heap)(H:Hp):List Addr:=(List.range h.objs.size).filter λa=>(H a).isSome
abbrev hidT(h:Heap)(H:Hp):Heap:=PySem.W.hideAll h (trk h H)
def zlM(h)(H):(hidT h H).objs.size=h.objs.size:=PySem.W.hideAll_size _ _
def znI(e:h.get? b=Φ o)(n:H b=Ψ):(hidT h H).get? b=Φ o:=PySem.W.hideAll_get _ e λa=>by have q:(H b).isSome=Γ:=(mem_filter.mp a).2;rw[n]at q;simp at q
def zqw(e:(hidT h H).get? b=Φ o):h.get? b=Φ o/\H b=Ψ:=by have a:h.get? b=Φ o:=PySem.W.of_hideAll (trk h H) e;refine⟨a,?_⟩;cases q:H b with|none=>rfl| some x=>have c:b∈trk h H:=mem_filter.mpr ⟨mem_range.mpr (Η a),by simp[q]⟩;have z:(hidT h H).get? b=Ψ:=PySem.W.hideAll_none (trk h H) c;rw[z]at e;exact nS e
structure Mod(K:Frag)(mg:Str->Option Ξ)(base:Heap):Prop where
 kin:K.In base
 glob:base.Ns mainGlobals mg
 blt:∃mb,base.Ns builtinsNs mb/\∀x:Str,x≠"__name__"->mb x=bootBuiltins x
 nolimit:base.NoLimit
structure Cx where
 prog:Υ
 w:ϋ
 K:Frag
 mg:Str->Option Ξ
 base:Heap
 A:ϐ
 N:List Str
 s₀:Β
 H₀:Hp
 env:Env
 outer:List Env
 stack:List Env
 ex:List Addr
 fn:Str->Bool
 calm:Bool
 pn:List (Addr×Obj)
 xe:Ξ->Β->Prop
abbrev frs(l:List Env):List Addr:=l.filterMap (·.frame)
noncomputable abbrev Cx.fs(X:Cx):List Addr:=frs X.outer
abbrev Vis(a:Scope)(x:Str):Prop:=a.names.lookup x=Φ .local\/a.names.lookup x=Φ .cell\/a.names.lookup x=Φ .free
abbrev Loc(a:Scope)(x:Str):Prop:=a.names.lookup x=Φ .local\/a.names.lookup x=Φ .cell
abbrev Look(env:Env)(h:Heap)(m:Str->Option Ξ)(x:Str)(u:Ξ):Prop:=(env.kindOf x=Φ .local/\m x=Φ u)\/((env.kindOf x=Φ .cell\/env.kindOf x=Φ .free)/\∃c,env.cells.lookup x=Φ c/\h.IsCell c (Φ u))
structure Cx.Ok(X:Cx):Prop where
 mod:Mod X.K X.mg X.base
 kind:X.env.scope.kind=.function
 glob:X.env.globals=mainGlobals
 blt:X.env.builtins=builtinsNs
 above:X.s₀.heap.objs.size<=X.env.locals
 inj:∀x y c,X.env.cells.lookup x=Φ c->X.env.cells.lookup y=Φ c->x=y
 has:∀x,(X.env.kindOf x=Φ .cell\/X.env.kindOf x=Φ .free)->∃c,X.env.cells.lookup x=Φ c
 cab:∀x c,X.fn x=Γ->X.env.cells.lookup x=Φ c->X.s₀.heap.objs.size<=c
 hd:X.calm=Γ->X.A.handled=Ψ
 frames:X.A.frames=Φ X.stack
 stk:X.stack=X.outer\/(X.stack=X.env::X.outer/\X.env.frame=Φ X.env.locals)
 exf:∀b∈X.ex,b≠X.env.locals/\∀x c,X.env.cells.lookup x=Φ c->c≠b
 bs:∀b o,X.base.get? b=Φ o->X.s₀.heap.get? b=Φ o/\X.H₀ b=Ψ
 bsz:X.base.objs.size<=X.s₀.heap.objs.size
 noex:∀b o,X.base.get? b=Φ o->b∉X.ex
 exfs:∀b∈X.ex,b∉X.fs
 funs:X.s₀.heap.FunFrames X.base X.outer
 frf:∀b∈X.fs,X.H₀ b=Ψ
structure Inv(X:Cx)(pins:List (Addr×Obj))(σ:List (Option V))(H:Hp)(s:Β):Prop where
 ok:X.Ok
 os:s.os=X.s₀.os
 bare:AllBare s.gens
 base:Un X.fs X.ex X.H₀ H X.s₀.heap s.heap
 loc:∃m,s.heap.Ns X.env.locals m/\∀(i:Nat)(x:Str)(v:V),X.N[i]?=Φ x->σ[i]?=Φ (Φ v)->Vis X.env.scope x->∃u,RelV v u/\Look X.env s.heap m x u
 cell:∀x c,X.env.cells.lookup x=Φ c->∃v,s.heap.IsCell c v
 free:H X.env.locals=Ψ
 freeC:∀x c,X.env.cells.lookup x=Φ c->H c=Ψ
 pin:∀p∈X.pn++pins,s.heap.get? p.1=Φ p.2/\H p.1=Ψ/\p.1≠X.env.locals/\p.1∉X.fs/\∀v,p.2.data≠.cell v
 hok:HOk X.prog X.w H s.heap
 len:σ.length=X.N.length
section
variable{X:Cx}{pins:List (Addr×Obj)}{σ:List (Option V)}{H H':Hp}{s:Β}{h':Heap}
def Cx.Ok.nofr(ok:X.Ok)(e:X.base.get? b=Φ o):b∉X.fs:=λa=>by have:=(ok.funs.mem a).1;rw[e]at this;cases this
def Inv.bs(I:Inv X pins σ H s):∀b o,X.base.get? b=Φ o->s.heap.get? b=Φ o/\H b=Ψ:=λb o e=>⟨I.base.keep b o (I.ok.bs b o e).1 (I.ok.bs b o e).2 (I.ok.nofr e) (I.ok.noex b o e),I.base.free b o (I.ok.bs b o e).1 (I.ok.bs b o e).2 (I.ok.noex b o e)⟩
def Inv.bk(I:Inv X pins σ H s):∀b o,X.base.get? b=Φ o->s.heap.get? b=Φ o:=λb o e=>(I.bs b o e).1
def Inv.mod(I:Inv X pins σ H s):Mod X.K X.mg X.base:=I.ok.mod
def Inv.kIn(I:Inv X pins σ H s):X.K.In s.heap:=I.ok.mod.kin.keeps I.bk
def Inv.lt(I:Inv X pins σ H s):X.env.locals<s.heap.objs.size:=let ⟨_,a,_⟩:=I.loc;a.lt
def Inv.sz(I:Inv X pins σ H s):X.s₀.heap.objs.size<=s.heap.objs.size:=le_trans I.ok.above (le_of_lt I.lt)
def Inv.nofs(I:Inv X pins σ H s)(h:s.heap.objs.size<=a):a∉X.fs:=λb=>by let⟨_,o,c,_⟩:=I.ok.funs.mem b;exact absurd (lt_of_lt_of_le (Η c) (le_trans I.sz h)) (lt_irrefl _)
def Inv.cne(I:Inv X pins σ H s):∀x c,X.env.cells.lookup x=Φ c->c≠X.env.locals:=λx c e z=>by let⟨v,o,d,f⟩:=I.cell x c e;let⟨m,⟨g,h,i,a,b,_⟩,_⟩:=I.loc;rw[z,a]at d;cases d;rw[b]at f;cases f
def Inv.funs(I:Inv X pins σ H s):s.heap.FunFrames X.base X.outer:=by
 have a:∀(l:List Env),(∀b∈frs l,b∈X.fs)->X.s₀.heap.FunFrames X.base l->s.heap.FunFrames X.base l:=by intro l;induction l with|nil=>intro _ _;trivial| cons h r i=>intro g j;let⟨k,⟨L,o,c,m,n,p⟩,q⟩:=j;have d:L∈X.fs:=g L (by unfold frs;rw[List.filterMap_cons,c];exact Μ);let⟨t,e⟩:=I.base.slot L o n (I.ok.frf L d) d λz=>I.ok.exfs L z d;exact⟨k,⟨L,_,c,m,e,p⟩,i (λb f=>g b (by unfold frs;rw[List.filterMap_cons,c];exact Κ _ f)) q⟩
 exact a X.outer (λ_ f=>f) I.ok.funs
def Inv.stack(I:Inv X pins σ H s):s.heap.FunFrames X.base X.stack:=by rcases I.ok.stk with e|⟨e,a⟩;rw[e];exact I.funs;rw[e];let⟨m,b,_⟩:=I.loc;refine .cons (by rw[I.ok.kind];decide) a b ?_ I.funs;exact Heap.get?_none_of_le (le_trans I.ok.bsz I.ok.above)
def Inv.stkSub(I:Inv X pins σ H s):∀b∈frs X.stack,b∈X.env.locals::X.fs:=λb a=>by rcases I.ok.stk with e|⟨e,c⟩;rw[e]at a;exact Κ _ a;rw[e]at a;unfold frs at a;rw[List.filterMap_cons,c]at a;exact a
def Inv.stkFree(I:Inv X pins σ H s):∀b∈frs X.stack,H b=Ψ:=λb a=>by rcases mem_cons.mp (I.stkSub b a) with e|a;rw[e];exact I.free;let⟨_,o,c,_⟩:=I.ok.funs.mem a;exact I.base.free b o c (I.ok.frf b a) λz=>I.ok.exfs b z a
def Inv.step{ch:List Addr}(I:Inv X pins σ H s)(f:∀b∈ch,(b∈X.ex\/X.s₀.heap.objs.size<=b)/\b≠X.env.locals/\(∀x c,X.env.cells.lookup x=Φ c->c≠b)/\∀p∈X.pn++pins,p.1≠b)(g:∀b o,b≠X.env.locals->b∉X.fs->b∉ch->s.heap.get? b=Φ o->H b=Ψ->h'.get? b=Φ o)(A:∀b o,b≠X.env.locals->b∈X.fs->b∉ch->s.heap.get? b=Φ o->H b=Ψ->∃T,h'.get? b=Φ {o with slots:=T})(free:∀b o,b∉ch->s.heap.get? b=Φ o->H b=Ψ->H' b=Ψ)(B:∀b o,b∉ch->s.heap.get? b=Φ o->∃G,h'.get? b=Φ G)(J:∀b xs,H b=Φ (.tup xs)->H' b=Φ (.tup xs))(L:∀b o u,H b=Φ (.frz o u)->H' b=Φ (.frz o u))(M:∀b ps,H b=Φ (.tbl ps)->∃N,H' b=Φ (.tbl (ps++N)))(ns:∀m,s.heap.Ns X.env.locals m->h'.Ns X.env.locals m)(hok:HOk X.prog X.w H' h')(hg:AllBare g'):
  Inv X pins σ H' {s with heap:=h',gens:=g',drawn:=d',toks:=t'}:=by
 have O:∀b o,X.s₀.heap.get? b=Φ o->b≠X.env.locals:=λb o e=>ne_of_lt (lt_of_lt_of_le (Η e) I.ok.above);have t:∀b o,X.s₀.heap.get? b=Φ o->b∉X.ex->b∉ch:=λb o e a C=>by rcases(f b C).1 with z|z;exact a z;exact absurd (lt_of_lt_of_le (Η e) z) (lt_irrefl _)
 have h:∀x c,X.env.cells.lookup x=Φ c->∀v,s.heap.IsCell c v->h'.IsCell c v:=λx c e v y=>by let⟨o,E,U⟩:=y;have j:c∉ch:=λz=>(f c z).2.2.1 x c e rfl;by_cases hc:c∈X.fs;let⟨T,q⟩:=A c o (I.cne x c e) hc j E (I.freeC x c e);exact⟨_,q,U⟩;exact⟨o,g c o (I.cne x c e) hc j E (I.freeC x c e),U⟩
 refine⟨I.ok,I.os,hg,⟨λb o e n C a=>?_,λb o e n C a=>?_,λb o e n a=>?_,λb o e a=>?_,λb xs e=>J b xs (I.base.tups b xs e),λb o xs e=>L b o xs (I.base.frzs b o xs e),λb ps e=>?_⟩,?_,λx c e=>?_,?_,λx c e=>?_,λp hp=>?_,hok,I.len⟩;exact g b o (O b o e) C (t b o e a) (I.base.keep b o e n C a) (I.base.free b o e n a);let⟨T,w⟩:=I.base.slot b o e n C a;let⟨Y,Q⟩:=A b _ (O b o e) C (t b o e a) w (I.base.free b o e n a);exact⟨Y,Q⟩;let⟨G,w⟩:=I.base.there b o e a;exact free b G (t b o e a) w (I.base.free b o e n a);let⟨G,w⟩:=I.base.there b o e a;exact B b G (t b o e a) w;let⟨m1,w⟩:=I.base.tbls b ps e;let⟨m2,Q⟩:=M b _ w;exact⟨m1++m2,by rw[Q,Array.append_assoc]⟩;let⟨m,hn,hl⟩:=I.loc;refine⟨m,ns m hn,λi x v w Q e3=>?_⟩;let⟨u,r,l⟩:=hl i x v w Q e3;refine⟨u,r,?_⟩;rcases l with l|⟨k,c,e,z⟩;exact .inl l;exact .inr ⟨k,c,e,h x c e _ z⟩;let⟨v,z⟩:=I.cell x c e;exact⟨v,h x c e v z⟩;let⟨m,⟨o,_,_,E,_⟩,_⟩:=I.loc;exact free _ o (λz=>(f _ z).2.1 rfl) E I.free;let⟨v,o,E,U⟩:=I.cell x c e;exact free c o (λz=>(f c z).2.2.1 x c e rfl) E (I.freeC x c e);let⟨e,n,ne,nf,d⟩:=I.pin p hp;have j:p.1∉ch:=λz=>(f p.1 z).2.2.2 p hp rfl;exact⟨g p.1 p.2 ne nf j e n,free p.1 p.2 j e n,ne,nf,d⟩
def Inv.un(I:Inv X pins σ H s)(u:Un X.fs [] H H' s.heap h')(hok:HOk X.prog X.w H' h'):Inv X pins σ H' {s with heap:=h',toks:=t'}:=by let⟨m,⟨o,k,l,g,r⟩,_⟩:=id I.loc;let⟨p,h⟩:=u.any g I.free (by simp);exact I.step (ch:=[]) (λ_ z=>by cases z) (λb o _ c _ e n=>u.keep b o e n c (by simp)) (λb o _ c _ e n=>u.slot b o e n c (by simp)) (λb o _ e n=>u.free b o e n (by simp)) (λb o _ e=>u.there b o e (by simp)) u.tups u.frzs u.tbls (λq i=>by let⟨t,d,f,a,j⟩:=i;rw[g]at a;cases a;exact⟨_,d,f,h,j⟩) hok I.bare
def Inv.call(I:Inv X pins σ H s)(u:Un (frs X.stack) ch H H' s.heap h')(hok:HOk X.prog X.w H' h')(k:AllBare g')(d:∀b∈ch,(b∈X.ex\/X.s₀.heap.objs.size<=b)/\b≠X.env.locals/\(∀x c,X.env.cells.lookup x=Φ c->c≠b)/\∀p∈X.pn++pins,p.1≠b):
  Inv X pins σ H' {s with heap:=h',gens:=g',drawn:=d',toks:=t'}:=by
 let⟨m,⟨o,v,w,j,r⟩,_⟩:=id I.loc;let⟨y,g⟩:=u.any j I.free λz=>(d _ z).2.1 rfl;exact I.step d (λb o g l a e n=>u.keep b o e n (λz=>(mem_cons.mp (I.stkSub b z)).elim g l) a) (λb o _ _ a e n=>u.any e n a) (λb o a e n=>u.free b o e n a) (λb o a e=>u.there b o e a) u.tups u.frzs u.tbls (λA q=>by let⟨B,h,i,f,t⟩:=q;rw[j]at f;cases f;exact⟨_,h,i,g,t⟩) hok k
def Inv.turned(I:Inv X pins σ H s)(k:∀b o,b≠it->s.heap.get? b=Φ o->h'.get? b=Φ o)(g:H it=Ψ)(f:it≠X.env.locals)(h:it∈X.ex\/X.s₀.heap.objs.size<=it)(i:∀x c,X.env.cells.lookup x=Φ c->c≠it)(j:∀p∈X.pn++pins,p.1≠it):Inv X pins σ H {s with heap:=h',toks:=t'}:=by
 have d:∀b u,H b=Φ u->b≠it:=λb u e z=>by rw[z,g]at e;exact nS e
 refine I.step (ch:=[it]) (λb l=>?_) (λb o _ _ a e _=>k b o (λz=>a (by simp[z])) e) (λb o _ _ a e _=>⟨o.slots,k b o (λz=>a (by simp[z])) e⟩) (λ_ _ _ _ n=>n)
  (λb o a e=>⟨o,k b o (λz=>a (by simp[z])) e⟩) (λ_ _ e=>e) (λ_ _ _ e=>e) (λb B e=>⟨#[],by rw[e];simp⟩) (λm t=>?_) (λb u e=>?_) I.bare
 have e:b=it:=by simpa using l
 subst e;exact⟨h,f,i,j⟩;let⟨o,w,y,A,r⟩:=t;exact⟨o,w,y,k _ o (Ne.symm f) A,r⟩;refine(I.hok b u e).stay (λc v a q=>k c v ?_ q) (λ_ q=>q) λ_ _ q=>q;rcases a with z|z;rw[z];exact d b u e;exact d c _ z
def Inv.tok(I:Inv X pins σ H s)(t):Inv X pins σ H {s with toks:=t}:=I.un Un.refl I.hok
def Inv.kept(I:Inv X pins σ H s)(k:∀b u,s.heap.get? b=Φ u->h'.get? b=Φ u):Inv X pins σ H {s with heap:=h',toks:=t'}:=I.un (Un.kept k) (I.hok.kept k)
def Inv.laid(I:Inv X pins σ H s)(k:∀b u,s.heap.get? b=Φ u->h'.get? b=Φ u)(c:s.heap.objs.size<=a)(new:ObjOk X.prog X.w (upd H a o) h' a o):
 Inv X pins σ (upd H a o) {s with heap:=h',toks:=t'}:=I.un (Un.laid k c (I.hok.fresh c)) (I.hok.laid k c new)
def Inv.write(I:Inv X pins σ H s)(c:Mut (H x))(d:e=x\/H e=Φ (.own x))(k:∀b u,b≠e->s.heap.get? b=Φ u->h'.get? b=Φ u)(a:∃u,h'.get? e=Φ u)(new:ObjOk X.prog X.w (upd H x o) h' x o):Inv X pins σ (upd H x o) {s with heap:=h',toks:=t'}:=I.un (Un.write c d k a) (I.hok.write c d k a new)
def Inv.pins_of(I:Inv X pins σ H s)(h:∀p∈a,s.heap.get? p.1=Φ p.2/\H p.1=Ψ/\p.1≠X.env.locals/\p.1∉X.fs/\∀v,p.2.data≠.cell v):Inv X a σ H s:=⟨I.ok,I.os,I.bare,I.base,I.loc,I.cell,I.free,I.freeC,λp b=>(mem_append.mp b).elim (λz=>I.pin p (mem_append_left _ z)) (h p),I.hok,I.len⟩
def ziw{N:List Str}(c:N.Nodup){i j:Nat}(a:N[i]?=Φ x)(b:N[j]?=Φ x):i=j:=by let⟨d,e1⟩:=Α.mp a;let⟨e,e2⟩:=Α.mp b;exact(List.getElem_inj c).mp (e1.trans e2.symm)
def zga(I:Inv X pins σ H s)(hN:X.N.Nodup)(O:X.N[i]?=Φ x)(t:Loc X.env.scope x)(r:RelV v u)(h:∀s',Inv X pins (σ.set i (Φ v)) H s'->(∃a,Heap.SameBut a s.heap s'.heap/\(a=X.env.locals\/X.env.cells.lookup x=Φ a))->Q () s')(hf:X.fn x=Γ\/X.env.scope.names.lookup x=Φ .local:=by first|exact .inl rfl|exact .inr rfl|assumption):wpAny M A (storeName X.env x u) Q E s:=by
 let⟨m,hn,hl⟩:=id I.loc;have T:(X.env.scope.kind==.class||(X.env.scope.kind==.module&&X.env.locals != X.env.globals))=Δ:=by rw[I.ok.kind];rfl
 have B:i<σ.length:=by rw[I.len];exact(Α.mp O).1
 have G:=I.cne;have g:∀{a:Addr}{h':Heap},(∃o,s.heap.get? a=Φ o/\H a=Ψ)->Heap.SameBut a s.heap h'->HOk X.prog X.w H h':=λ{a h'} ha f b ob e=>by let⟨_,_,w⟩:=ha;refine(I.hok b ob e).stay (λc w' l q=>(f.2 c ?_).trans q) (λ_ q=>q) λ_ _ q=>q;rintro rfl;rcases l with rfl|l;rw[w]at e;exact nS e;rw[w]at l;exact nS l
 rcases t with C|C;refine wpAny_storeName_local C hn (λh' hn' f=>?_) T;let⟨oL,_,_,hoL,_⟩:=id hn;refine h _ ⟨I.ok,I.os,I.bare,⟨λb o e n J t=>?_,λb o e n J t=>?_,I.base.free,λb o e t=>?_,I.base.tups,I.base.frzs,I.base.tbls⟩,⟨_,hn',λj y v' e1 e2 e3=>?_⟩,λy c e=>?_,I.free,I.freeC,λp hp=>?_,g ⟨oL,hoL,I.free⟩ f,by simpa using I.len⟩ ⟨_,f,.inl rfl⟩;exact(f.2 b (ne_of_lt (lt_of_lt_of_le (Η e) I.ok.above))).trans (I.base.keep b o e n J t);let⟨sl,e1⟩:=I.base.slot b o e n J t;exact⟨sl,(f.2 b (ne_of_lt (lt_of_lt_of_le (Η e) I.ok.above))).trans e1⟩;let⟨o',e1⟩:=I.base.there b o e t;exact⟨o',(f.2 b (ne_of_lt (lt_of_lt_of_le (Η e) I.ok.above))).trans e1⟩;by_cases L:j=i;subst L;rw[O]at e1;cases e1;rw[getElem?_set_self B]at e2;cases e2;exact⟨u,r,.inl ⟨C,by simp⟩⟩;rw[getElem?_set_ne (Ne.symm L)]at e2;let⟨u',r',q⟩:=hl j y v' e1 e2 e3;refine⟨u',r',?_⟩;rcases q with⟨k,e⟩|⟨k,c,e,z⟩;refine .inl ⟨k,?_⟩;have:y≠x:=λe=>L (ziw hN e1 (e▸O));simp[this,e];exact .inr ⟨k,c,e,z.sameBut f (G y c e)⟩;let⟨w',z⟩:=I.cell y c e;exact⟨w',z.sameBut f (G y c e)⟩;let⟨e,n,ne,nf,d⟩:=I.pin p hp;exact⟨(f.2 p.1 ne).trans e,n,ne,nf,d⟩;have N:X.fn x=Γ:=by rcases hf with z|z;exact z;rw[z]at C;cases C
 let⟨c,l⟩:=I.ok.has x (.inl C);let⟨w',z⟩:=I.cell x c l;refine wpAny_storeName_cell I.ok.kind C l z (λh' U f=>?_);let⟨oc,Y,hocd⟩:=id z;refine h {s with heap:=h'} ⟨I.ok,I.os,I.bare,⟨λb o e n J t=>?_,λb o e n J t=>?_,I.base.free,λb o e t=>?_,I.base.tups,I.base.frzs,I.base.tbls⟩,⟨m,hn.sameBut f (Ne.symm (G x c l)),λj y v' e1 e2 e3=>?_⟩,λy c' e=>?_,I.free,I.freeC,λp hp=>?_,g ⟨oc,Y,I.freeC x c l⟩ f,by simpa using I.len⟩ ⟨c,f,.inr l⟩;exact(f.2 b (ne_of_lt (lt_of_lt_of_le (Η e) (I.ok.cab x c N l)))).trans (I.base.keep b o e n J t);let⟨sl,e1⟩:=I.base.slot b o e n J t;exact⟨sl,(f.2 b (ne_of_lt (lt_of_lt_of_le (Η e) (I.ok.cab x c N l)))).trans e1⟩;let⟨o',e1⟩:=I.base.there b o e t;exact⟨o',(f.2 b (ne_of_lt (lt_of_lt_of_le (Η e) (I.ok.cab x c N l)))).trans e1⟩;by_cases L:j=i;subst L;rw[O]at e1;cases e1;rw[getElem?_set_self B]at e2;cases e2;exact⟨u,r,.inr ⟨.inl C,c,l,U⟩⟩;rw[getElem?_set_ne (Ne.symm L)]at e2;let⟨u',r',q⟩:=hl j y v' e1 e2 e3;refine⟨u',r',?_⟩;rcases q with q|⟨k,c',e,z'⟩;exact .inl q;refine .inr ⟨k,c',e,z'.sameBut f ?_⟩;rintro rfl;exact L (ziw hN e1 (I.ok.inj _ _ _ e l▸O));by_cases hcc:c'=c;subst hcc;exact⟨_,U⟩;let⟨w2,z2⟩:=I.cell y c' e;exact⟨w2,z2.sameBut f hcc⟩;let⟨e,n,ne,nf,d⟩:=I.pin p hp;refine⟨(f.2 p.1 ?_).trans e,n,ne,nf,d⟩;intro q;rw[q,Y]at e;have q':oc=p.2:=Option.some.inj e;exact d w' (by rw[<-q'];exact hocd)
def zfh(I:Inv X pins σ H s)(a:X.N.Nodup)(b:X.N[i]?=Φ x)(c:Loc X.env.scope x)(r:RelV v u)(h:∀s',Inv X pins (σ.set i (Φ v)) H s'->Q () s')(d:X.fn x=Γ\/X.env.scope.names.lookup x=Φ .local:=by first|exact .inl rfl|exact .inr rfl|assumption):wpAny M A (storeName X.env x u) Q E s:=
 zga I a b c r (λs' e _=>h s' e) d
def Inv.call'(I:Inv X pins σ H s)(d:s'.os=s.os)(u:Un (frs X.stack) ch H H' s.heap s'.heap)(hok:HOk X.prog X.w H' s'.heap)(f:AllBare s'.gens)(a:∀b∈ch,(b∈X.ex\/X.s₀.heap.objs.size<=b)/\b≠X.env.locals/\(∀x c,X.env.cells.lookup x=Φ c->c≠b)/\∀p∈X.pn++pins,p.1≠b):Inv X pins σ H' s':=by
 let⟨h',g',d',t',g⟩:=s';have e:=d;subst e;exact I.call u hok f a
end
@[reducible]def XK:=Ξ->Option Addr->Hp->Prop
@[reducible]def St:=List (Option V)
@[reducible]def VK:=V->Hp->Prop
@[reducible]def TE:=St->Hp->VK->Prop
@[reducible]def TT:=St->Hp->(Bool->Hp->Prop)->Prop
@[reducible]def TA:=St->Hp->(List V->Hp->Prop)->Prop
structure Ends where
 nx:St->Hp->Prop
 rt:VK
 bk:St->Hp->Prop:=λ_ _=>False
 ct:St->Hp->Prop:=λ_ _=>False
@[reducible]def TS:=Ends->St->Hp->Prop
abbrev EP(X:Cx)(a:List (Addr×Obj))(c:St)(Q:VK)(u:Ξ)(s':Β):Prop:=∃v b,Inv X a c b s'/\RelV v u/\Q v b
abbrev TP(X:Cx)(a:List (Addr×Obj))(d:St)(Q:Bool->Hp->Prop)(b:Bool)(s':Β):Prop:=∃c,Inv X a d c s'/\Q b c
abbrev AP(X:Cx)(a:List (Addr×Obj))(d:St)(Q:List V->Hp->Prop)(us:List Ξ)(s':Β):Prop:=∃b c,Inv X a d c s'/\Vals b us/\Q b c
abbrev SP(X:Cx)(b:List (Addr×Obj))(D:Ends)(f:Flow)(s':Β):Prop:=match f with|.next=>∃a c,Inv X b a c s'/\D.nx a c|.brk=>∃a c,Inv X b a c s'/\D.bk a c|.cont=>∃a c,Inv X b a c s'/\D.ct a c|.ret u=>∃v a c,Inv X b a c s'/\RelV v u/\D.rt v c
abbrev PE(X:Cx)(e:Expr)(t:TE):Prop:=∀(a:List (Addr×Obj))(s:Β)(b:St)(H:Hp)(Q:VK),Inv X a b H s->t b H Q->wpAny (model X.prog X.w) X.A (eval e X.env) (EP X a b Q) X.xe s
abbrev PT(X:Cx)(e:Expr)(t:TT):Prop:=∀(a:List (Addr×Obj))(s:Β)(b:St)(H:Hp)(Q:Bool->Hp->Prop),Inv X a b H s->t b H Q->wpAny (model X.prog X.w) X.A (isTrue e X.env (eval e X.env)) (TP X a b Q) X.xe s
abbrev PW(X:Cx)(e:Expr)(t:TT):Prop:=∀(b:Sem Ξ)(a:List (Addr×Obj))(s:Β)(c:St)(H:Hp)(Q:Bool->Hp->Prop),Inv X a c H s->t c H Q->wpAny (model X.prog X.w) X.A (isTrue e X.env b) (TP X a c Q) X.xe s
def PW.pt(h:PW X e t):PT X e t:=h _
abbrev PA(X:Cx)(es:List Expr)(t:TA):Prop:=∀(pos:Pos)(a:List (Addr×Obj))(s:Β)(b:St)(H:Hp)(Q:List V->Hp->Prop),Inv X a b H s->t b H Q->wpAny (model X.prog X.w) X.A (spliced (backTo pos (starEach es X.env))) (AP X a b Q) X.xe s
abbrev PS(X:Cx)(st:Stmt)(t:TS):Prop:=∀(a:List (Addr×Obj))(s:Β)(b:St)(H:Hp)(D:Ends),Inv X a b H s->t D b H->wpAny (model X.prog X.w) X.A (exec st X.env) (SP X a D) X.xe s
abbrev PSs(X:Cx)(st:List Stmt)(t:TS):Prop:=∀(a:List (Addr×Obj))(s:Β)(b:St)(H:Hp)(D:Ends),Inv X a b H s->t D b H->wpAny (model X.prog X.w) X.A (execs st X.env) (SP X a D) X.xe s
def thn(h:wpAny M A t Q E s)(b:∀a s,Q a s->c a s):wpAny M A t c E s:=ό h b λ_ _ x=>x
section
variable{X:Cx}
def bin(l:PE X a m)(n:PE X b o){R:V->V->Hp->Prop}(I:Inv X c e H s)(h:m e H λx k=>o e k λy d=>R x y d){Q}{f:Ξ->Ξ->Sem E}(p:∀v u j x y d,Inv X c e d j->RelV x v->RelV y u->R x y d->wpAny (model X.prog X.w) X.A (f v u) Q X.xe j):
  wpAny (model X.prog X.w) X.A (eval a X.env) (λv g=>wpAny (model X.prog X.w) X.A (eval b X.env) (λu i=>wpAny (model X.prog X.w) X.A (f v u) Q X.xe i) X.xe g) X.xe s:=by
 refine thn (l c s e H _ I h) λv q z=>?_;let⟨x,k,r,t,w⟩:=z;refine thn (n c q e k _ r w) λu j z=>?_;let⟨y,d,A,B,C⟩:=z;exact p v u j x y d A t B C
abbrev tVar(i:Nat):TE:=λa H Q=>∃v,a[i]?=Φ (Φ v)/\Q v H
abbrev tC(v:V):TE:=λ_ H Q=>Q v H
def zbV(j:X.N[i]?=Φ x)(k:Vis X.env.scope x)(hd:(x==("__debug__":Str))=Δ:=by decide)(f:(x==("__classdict__":Str))=Δ:=by decide):PE X (.Name x pos) (tVar i):=by intro d s n H Q I h;let⟨v,e,h⟩:=h;let⟨m,o,p⟩:=I.loc;let⟨u,r,l⟩:=p i x v j e k;have fin:EP X d n Q u s:=⟨v,H,I,r,h⟩;rcases l with⟨b,q⟩|⟨b,c,g,a⟩;exact wpAny_Name (wpAny_loadName_local I.ok.kind b o q fin) hd;rcases b with b|b;exact wpAny_Name (wpAny_loadName_cell I.ok.kind b g a fin) hd;exact wpAny_Name (wpAny_loadName_free I.ok.kind b g a fin f) hd
def zgu:PE X (.Constant (.int i) j pos) (tC (.int i)):=λ_ _ _ H _ I h=>wpAny_Constant_int ⟨.int i,H,I.tok _,⟨_,rfl⟩,h⟩
def zuj:PE X (.Constant (.bool b) j pos) (tC (.bl b)):=λ_ _ _ H _ I h=>Constant_bool ⟨.bl b,H,I,rfl,h⟩
def zoA:PE X (.Constant .none j pos) (tC .non):=λ_ _ _ H _ I h=>Constant_none ⟨.non,H,I,rfl,h⟩
abbrev Gl(X:Cx)(x:Str):Prop:=X.env.kindOf x=Φ .globalImplicit
def zea(I:Inv X a d H s)(b:Gl X x)(c:X.mg x=Φ u)(h:Q u s)(hd:(x==("__debug__":Str))=Δ:=by decide):wpAny (model X.prog X.w) X.A (eval (.Name x pos) X.env) Q E s:=
 Calls.Name_function_global I.ok.kind b (Calls.loadGlobal_global (by rw[I.ok.glob];exact I.mod.glob.keeps I.bk) c h) hd
def zdm(I:Inv X a i H s)(b:Gl X x)(c:X.mg x=Ψ)(d:bootBuiltins x=Φ u)(h:Q u s)(e:x≠"__name__":=by decide)(hd:(x==("__debug__":Str))=Δ:=by decide):wpAny (model X.prog X.w) X.A (eval (.Name x pos) X.env) Q E s:=by
 let⟨j,f,g⟩:=I.mod.blt;exact Calls.Name_function_global I.ok.kind b (Calls.loadGlobal_builtin (by rw[I.ok.glob];exact I.mod.glob.keeps I.bk) c (by rw[I.ok.blt];exact f.keeps I.bk) ((g x e).trans d) h) hd
def zk0(a:Gl X x)(b:X.mg x=Φ u)(r:RelV v u)(hd:(x==("__debug__":Str))=Δ:=by decide):PE X (.Name x pos) (tC v):=λ_ _ _ H _ I h=>zea I a b ⟨v,H,I,r,h⟩ hd
def zqq(a:Gl X x)(b:X.mg x=Ψ)(c:bootBuiltins x=Φ u)(r:RelV v u)(d:x≠"__name__":=by decide)(hd:(x==("__debug__":Str))=Δ:=by decide):PE X (.Name x pos) (tC v):=λ_ _ _ H _ I h=>zdm I a b c ⟨v,H,I,r,h⟩ d hd
variable{a b:Expr}{ta tb:TE}{pos:Pos}
def RelV.none_iff(r:RelV x v):(v==Ξ.none)=decide (x=.non):=by cases x with|non=>cases r;rfl|bl _=>cases r;rfl|int _=>let⟨t,rfl⟩:=r;rfl|str _=>let⟨t,rfl⟩:=r;rfl|byt _=>let⟨t,rfl⟩:=r;rfl|flt _=>let⟨t,rfl⟩:=r;rfl|ref _=>cases r;rfl|ty _=>cases r;rfl
variable{tA tB':TT}{rest:List Expr}
abbrev tAnd(t u:TT):TT:=λd H Q=>t d H λc e=>if c=Γ then u d e Q else Q Δ e
abbrev tOr(t u:TT):TT:=λd H Q=>t d H λc e=>if c=Γ then Q Γ e else u d e Q
abbrev tNot(t:TT):TT:=λd H Q=>t d H λc e=>Q (!c) e
def zp5(f:PT X a tA):PW X (.BoolOp .And [a] pos) tA:=by intro i d s g H Q I h;refine isTrue_and (thn (f d s g H Q I h) λc j e=>?_);cases c with|true=>exact isTrue_and_nil e|false=>exact e
def zsA(f:PT X a tA):PW X (.BoolOp .Or [a] pos) tA:=by intro i d s g H Q I h;refine isTrue_or (thn (f d s g H Q I h) λc j e=>?_);cases c with|false=>exact isTrue_or_nil e|true=>exact e
def zsB(j:PT X a tA)(k:PW X (.BoolOp .And (b::rest) pos) tB'):PW X (.BoolOp .And (a::b::rest) pos) (tAnd tA tB'):=by intro l d s e H Q I h;refine isTrue_and (thn (j d s e H _ I h) λc m z=>?_);let⟨f,g,i⟩:=z;cases c with|true=>exact k l d m e f Q g i|false=>exact⟨f,g,i⟩
def zue(j:PT X a tA)(k:PW X (.BoolOp .Or (b::rest) pos) tB'):PW X (.BoolOp .Or (a::b::rest) pos) (tOr tA tB'):=by intro l d s e H Q I h;refine isTrue_or (thn (j d s e H _ I h) λc m z=>?_);let⟨f,g,i⟩:=z;cases c with|true=>exact⟨f,g,i⟩|false=>exact k l d m e f Q g i
def zsC(e:PT X a tA):PT X (.UnaryOp .Not a pos) (tNot tA):=by intro d s f H Q I h;exact isTrue_not (e d s f H (λc g=>Q (!c) g) I h)
abbrev zt1(ta tb:TE):TE:=λd H Q=>ta d H λx e=>∃c,x=.bl c/\if c=Γ then tb d e Q else Q (.bl Δ) e
abbrev tOrV(ta tb:TE):TE:=λd H Q=>ta d H λx e=>∃c,x=.bl c/\if c=Γ then Q (.bl Γ) e else tb d e Q
abbrev ztZ(ta:TE):TE:=λd H Q=>ta d H λx e=>∃c,x=.bl c/\Q (.bl (!c)) e
def zoz(h:PE X a t):PE X (.BoolOp op [a] pos) t:=λc s d H Q I e=>BoolOp_one (h c s d H Q I e)
def zsO(j:PE X a ta)(k:PE X (.BoolOp .And (b::rest) pos) tb):PE X (.BoolOp .And (a::b::rest) pos) (zt1 ta tb):=by intro d s f H Q I h;refine BoolOp_and (thn (j d s f H _ I h) λv l z=>?_);let⟨x,g,i,m,e⟩:=z;let⟨c,rfl,e⟩:=e;cases m;refine ϓ ?_;cases c with|true=>exact k d l f g Q i e|false=>exact⟨.bl Δ,g,i,rfl,e⟩
def zuh(j:PE X a ta)(k:PE X (.BoolOp .Or (b::rest) pos) tb):PE X (.BoolOp .Or (a::b::rest) pos) (tOrV ta tb):=by intro d s f H Q I h;refine BoolOp_or (thn (j d s f H _ I h) λv l z=>?_);let⟨x,g,i,m,e⟩:=z;let⟨c,rfl,e⟩:=e;cases m;refine ϓ ?_;cases c with|false=>exact k d l f g Q i e|true=>exact⟨.bl Γ,g,i,rfl,e⟩
def zsJ(f:PE X a ta):PE X (.UnaryOp .Not a pos) (ztZ ta):=by intro d s g H Q I h;refine UnaryOp_ (thn (f d s g H _ I h) λv l z=>?_);let⟨x,i,j,k,e⟩:=z;let⟨c,rfl,e⟩:=e;cases k;exact not_of (ϓ ⟨.bl (!c),i,j,rfl,e⟩)
abbrev tIf(t:TT)(ta tb:TE):TE:=λd H Q=>t d H λc e=>if c=Γ then ta d e Q else tb d e Q
def znj(l:PT X c tA)(m:PE X a ta)(n:PE X b tb):PE X (.IfExp c a b pos) (tIf tA ta tb):=by intro e s f H Q I h;refine wpAny_IfExp (thn (l e s f H _ I h) λd g z=>?_);let⟨i,j,k⟩:=z;cases d with|true=>exact m e g f i Q j k|false=>exact n e g f i Q j k
end
abbrev SqL(K:Frag)(H:Hp)(a:Addr)(xs:List V):Prop:=
 Rd H a (.lst xs)\/
  ∃(o:Obj) (b:Array Ξ) (n:Nat),K.lookup a=Φ o/\o.cls=.type "list"/\o.dict=Ψ/\o.data=.seq b n/\b.size<=sizeLine/\Vals xs b.toList
abbrev SqT(K:Frag)(H:Hp)(a:Addr)(xs:List V):Prop:=
 Rd H a (.tup xs)\/
  ∃(o:Obj) (b:Array Ξ) (n:Nat),K.lookup a=Φ o/\o.cls=.type "tuple"/\o.data=.seq b n/\b.size<=sizeLine/\Vals xs b.toList
abbrev absV:Ξ->Option V
 |.none=>Φ .non|.bool b=>Φ (.bl b)|.int i _=>Φ (.int i)|.str x _=>Φ (.str x)|.bytes b _=>Φ (.byt b)|.float b _=>Φ (.flt b)|.ref a=>Φ (.ref a)|.type n=>Φ (.ty n)|_=>Ψ
def RelV.abs(r:RelV x u):absV u=Φ x:=by cases x with|non=>cases r;rfl|bl _=>cases r;rfl|int _=>let⟨t,rfl⟩:=r;rfl|str _=>let⟨t,rfl⟩:=r;rfl|byt _=>let⟨t,rfl⟩:=r;rfl|flt _=>let⟨t,rfl⟩:=r;rfl|ref _=>cases r;rfl|ty _=>cases r;rfl
def RelV.inj(r:RelV x u)(q:RelV y u):x=y:=Option.some.inj (r.abs.symm.trans q.abs)
def Vals.inj{xs ys:List V}{us:List Ξ}(h:Vals xs us)(k:Vals ys us):xs=ys:=by induction h generalizing ys with|nil=>cases k;rfl|cons r t i=>cases k with|cons a b=>rw[r.inj a,i b]
section
variable{X:Cx}{pins:List (Addr×Obj)}{σ:St}{H:Hp}{s:Β}{a:Addr}{xs ys:List V}
def SqL.of{K}(h:H a=Φ (.lst xs)):SqL K H a xs:=.inl (.inl h)
def SqT.of{K}(h:H a=Φ (.tup xs)):SqT K H a xs:=.inl (.inl h)
def Inv.list(I:Inv X pins σ H s)(h:SqL X.K H a xs):∃its:List Ξ,Vals xs its/\PlainL s.heap a its.toArray/\xs.length<=sizeLine:=by rcases h with h|⟨o,its,n,b,c,d,f,g,r⟩;let⟨z,its,n,r,e⟩:=h.ok I.hok;exact⟨its,r,⟨_,n,e,rfl,rfl,rfl⟩,z⟩;refine⟨its.toList,r,⟨o,n,I.kIn a o b,c,d,by simpa using f⟩,?_⟩;have e:=r.length;simp![length_toList]at e;lia
def Inv.tuple(I:Inv X pins σ H s)(h:SqT X.K H a xs):∃its:List Ξ,Vals xs its/\IsTup s.heap a its.toArray/\xs.length<=sizeLine:=by rcases h with h|⟨o,its,n,b,c,d,f,r⟩;let⟨z,its,r,p⟩:=h.ok I.hok;exact⟨its,r,p,z⟩;refine⟨its.toList,r,⟨o,I.kIn a o b,c,n,by simpa using d⟩,?_⟩;have e:=r.length;simp![length_toList]at e;lia
def Inv.list_inj(I:Inv X pins σ H s)(h:SqL X.K H a xs)(h':SqL X.K H a ys):xs=ys:=by
 let⟨c,r,⟨o,n,e,_,_,d⟩,_⟩:=I.list h;let⟨b,i,⟨k,l,f,_,_,g⟩,_⟩:=I.list h';rw[e]at f;cases f;rw[d]at g;injection g with j _;have:c=b:=by simpa using congrArg Array.toList j
 subst this;exact r.inj i
def Inv.tuple_inj(I:Inv X pins σ H s)(h:SqT X.K H a xs)(h':SqT X.K H a ys):xs=ys:=by
 let⟨c,r,⟨o,e,_,n,d⟩,_⟩:=I.tuple h;let⟨b,i,⟨k,f,_,l,g⟩,_⟩:=I.tuple h';rw[e]at f;cases f;rw[d]at g;injection g with j _;have:c=b:=by simpa using congrArg Array.toList j
 subst this;exact r.inj i
end
noncomputable abbrev Cx.wish(X:Cx)(E:Ξ->Β->Prop):Cx:={X with xe:=E}
noncomputable abbrev Cx.nox(X:Cx):Cx:=X.wish λ_ _=>False
def Cx.Ok.wish{X:Cx}(ok:X.Ok)(E):(X.wish E).Ok:=⟨ok.mod,ok.kind,ok.glob,ok.blt,ok.above,ok.inj,ok.has,ok.cab,ok.hd,ok.frames,ok.stk,ok.exf,ok.bs,ok.bsz,ok.noex,ok.exfs,ok.funs,ok.frf⟩
def Cx.Ok.unwish{X:Cx}(ok:(X.wish E).Ok):X.Ok:=⟨ok.mod,ok.kind,ok.glob,ok.blt,ok.above,ok.inj,ok.has,ok.cab,ok.hd,ok.frames,ok.stk,ok.exf,ok.bs,ok.bsz,ok.noex,ok.exfs,ok.funs,ok.frf⟩
section
variable{X:Cx}{pins:List (Addr×Obj)}{σ:St}{H:Hp}{s:Β}{E:Ξ->Β->Prop}
def Inv.wish(I:Inv X pins σ H s)(E):Inv (X.wish E) pins σ H s:=⟨I.ok.wish E,I.os,I.bare,I.base,I.loc,I.cell,I.free,I.freeC,I.pin,I.hok,I.len⟩
def Inv.unwish(I:Inv (X.wish E) pins σ H s):Inv X pins σ H s:=⟨I.ok.unwish,I.os,I.bare,I.base,I.loc,I.cell,I.free,I.freeC,I.pin,I.hok,I.len⟩
def SP.unwish(h:SP (X.wish E) pins D f s'):SP X pins D f s':=by cases f with|next=>let⟨a,b,I,q⟩:=h;exact⟨a,b,I.unwish,q⟩|brk=>let⟨a,b,I,q⟩:=h;exact⟨a,b,I.unwish,q⟩|cont=>let⟨a,b,I,q⟩:=h;exact⟨a,b,I.unwish,q⟩|ret u=>let⟨v,a,b,I,r,q⟩:=h;exact⟨v,a,b,I.unwish,r,q⟩
def PE.nox(h:PE X.nox e t):PE X e t:=λpins s σ H Q I a=>ό (h pins s σ H Q (I.wish _) a) (λ_ _ k=>(by let⟨v,b,c,r,q⟩:=k;exact ⟨v,b,c.unwish,r,q⟩)) λ_ _ z=>False.elim z
def PSs.nox{st}(h:PSs X.nox st t):PSs X st t:=λpins s σ H D I a=>ό (h pins s σ H D (I.wish _) a) (λ_ _ q=>q.unwish) λ_ _ z=>False.elim z
end
section
variable{X:Cx}{st:Stmt}{rest:List Stmt}{t u:TS}{e:Expr}{te:TE}{pos:Pos}
abbrev zrR:TS:=λD a H=>D.nx a H
abbrev tSeq(t u:TS):TS:=λD a H=>t {D with nx:=u D} a H
def zkN:PSs X [] zrR:=λ_ _ a H _ I h=>wpAny_execs_nil ⟨a,H,I,h⟩
def zaN(c:PS X st t)(d:PSs X rest u):PSs X (st::rest) (tSeq t u):=by intro a s g H D I h;refine wpAny_execs_cons (thn (c a s g H {D with nx:=u D} I h) λf i q=>?_);cases f with| next=>let⟨b,j,k,q⟩:=q;exact d a i b j D k q|ret v=>exact q|brk=>exact q|cont=>exact q
def zfv(b:PS X st t):PSs X [st] t:=by intro a s c H D I h;refine wpAny_execs_cons (thn (b a s c H D I h) λf d q=>?_);cases f with|next=>exact wpAny_execs_nil q|ret v=>exact q|brk=>exact q|cont=>exact q
def Inv.quiet(I:Inv X a b H s):interactive X.env=Δ:=by simp[interactive,I.ok.kind]
abbrev zt0(te:TE):TS:=λD a H=>te a H λ_ b=>D.nx a b
def zqc(c:PE X e te)(hs:swapsWith e Ψ pos.line X.env=pure Δ:=by rfl):PS X (.Expr e pos) (zt0 te):=by intro a s b H D I h;exact wpAny_Expr_any (thn (c a s b H _ I h) λv i z=>(by let⟨x,d,f,j,g⟩:=z;exact ⟨b,d,f,g⟩)) I.quiet hs
abbrev tRet(te:TE):TS:=λD a H=>te a H D.rt
def zkP(c:PE X e te):PS X (.Return (Φ e) pos) (tRet te):=by intro a s b H D I h;exact wpAny_Return_some (thn (c a s b H _ I h) λv j z=>(by let⟨x,d,f,g,i⟩:=z;exact ⟨x,b,d,f,g,i⟩))
abbrev ztX:TS:=λD _ H=>D.rt .non H
def zqb:PS X (.Return Ψ pos) ztX:=λ_ _ a H _ I h=>wpAny_Return_none ⟨.non,a,H,I,rfl,h⟩
abbrev tIfS(c:TT)(t u:TS):TS:=λD a H=>c a H λb d=>if b=Γ then t D a d else u D a d
def zsD(m:PT X c n)(o:PSs X a t)(p:PSs X b u):PS X (.If c a b pos) (tIfS n t u):=by intro f s g H D I h;refine wpAny_If (thn (m f s g H _ I h) λd i z=>?_);let⟨j,k,l⟩:=z;cases d with|true=>exact o f i g j D k l|false=>exact p f i g j D k l
end
@[reducible]def TG:=V->St->Hp->(St->Hp->Prop)->Prop
@[reducible]def TGs:=List V->St->Hp->(St->Hp->Prop)->Prop
abbrev PG(X:Cx)(a:Expr)(t:TG):Prop:=
 ∀(b:List (Addr×Obj))(s:Β)(d:St)(H:Hp)(v:V)(u:Ξ)(Q:St->Hp->Prop),Inv X b d H s->RelV v u->t v d H Q->
  wpAny (model X.prog X.w) X.A (assign a X.env u) (λ_ f=>∃c e,Inv X b c e f/\Q c e) X.xe s
abbrev PGs(X:Cx)(ts:List Expr)(t:TGs):Prop:=
 ∀(a:List (Addr×Obj))(s:Β)(c:St)(H:Hp)(d:List V)(e:List Ξ)(Q:St->Hp->Prop),Inv X a c H s->Vals d e->t d c H Q->
  wpAny (model X.prog X.w) X.A (assignInOrder ((assignEach ts X.env).map (·.2)) e) (λ_ g=>∃b f,Inv X a b f g/\Q b f) X.xe s
section
variable{X:Cx}{pos:Pos}
abbrev zfP(i:Nat):TG:=λv a H Q=>Q (a.set i (Φ v)) H
def zhA(b:X.N.Nodup)(c:X.N[i]?=Φ x)(d:Loc X.env.scope x)(e:X.fn x=Γ\/X.env.scope.names.lookup x=Φ .local:=by first|exact .inl rfl|exact .inr rfl|assumption):PG X (.Name x pos) (zfP i):=by intro a s g H v u Q I r h;exact wpAny_assign_Name (zfh I b c d r (λj f=>⟨_,H,f,h⟩) e)
abbrev gNil:TGs:=λa b H Q=>a=[]/\Q b H
abbrev zuB(t:TG)(u:TGs):TGs:=λb c H Q=>∃v r,b=v::r/\t v c H λa d=>u r a d Q
def zqk:PGs X [] gNil:=by intro a s b H c d Q I r h;let⟨e,h⟩:=h;subst e;cases r;exact assignInOrder_nil ⟨b,H,I,h⟩
def znc(c:PG X e t)(d:PGs X es u)(hs:(assignEach (e::es) X.env).map (·.2)=assign e X.env::(assignEach es X.env).map (·.2):=by rfl):PGs X (e::es) (zuB t u):=by
 intro a s f H m n Q I r h;let⟨v,o,e1,h⟩:=h;subst e1;cases r with| cons r g=>rw[hs];refine assignInOrder_cons (thn (c a s f H _ _ _ I r h) λ_ i z=>?_);let⟨b,j,k,l⟩:=z;exact d a i b j _ _ Q k g l
abbrev gTup(K:Frag)(n:Nat)(t:TGs):TG:=λv c H Q=>∃a b,v=.ref a/\SqT K H a b/\b.length=n/\t b c H Q
def zsH(j:X.calm=Γ)(h:PGs X es t)(l:(assignEach es X.env).length=n:=by rfl)(d:(assignEach es X.env).findIdx? (·.1)=Ψ:=by rfl):PG X (.Tuple es k pos) (gTup X.K n t):=by
 intro c s g H v u Q I r f;let⟨a,m,p,q,w,f⟩:=f;subst p;cases r;let⟨x,i,y,C⟩:=I.tuple q;refine assign_Tuple_tuple (I.ok.hd j) y (by simp[l,<-w,i.length]) d λz A=>?_;have B:=I.kept (t':=s.toks) λb o e=>A b o (ne_of_lt (Η e)) e;exact h c _ g H m _ Q B (by simpa using i) f
abbrev tAsg(b:TE)(g:TG):TS:=λD a H=>b a H λx c=>g x a c D.nx
def zsF(d:PE X e f)(i:PG X b g)(hs:swapsWithSole [b] e pos.line X.env=pure Δ:=by rfl)(j:swappedStores [b] e X.env=pure Ψ:=by rfl)(k:(assignEach [b] X.env).map (·.2)=[assign b X.env]:=by rfl):PS X (.Assign [b] e pos) (tAsg f g):=by
 intro a s c H D I h;refine wpAny_Assign_stores (thn (d a s c H _ I h) λv l z=>?_) hs j;let⟨x,m,n,o,p⟩:=z;rw[k];exact thn (i a l c m x v _ n o p) λ_ r q=>q
def zkO(c:X.N.Nodup)(d:X.N[i]?=Φ x)(f:Loc X.env.scope x)(g:PE X e j)(hs:swapsWith e (Φ (.Name x a)) pos.line X.env=pure Δ:=by rfl)(k:X.fn x=Γ\/X.env.scope.names.lookup x=Φ .local:=by first|exact .inl rfl|exact .inr rfl|assumption):
  PS X (.Assign [.Name x a] e pos) (tAsg j (zfP i)):=by
 intro b s l H D I h;refine wpAny_Assign_Name (thn (g b s l H _ I h) λv r z=>?_) hs;let⟨y,m,n,o,p⟩:=z;exact zfh n c d f o (λt q=>⟨_,m,q,p⟩) k
end
structure It where
 go:Nat->Hp->Prop
 yld:Nat->Hp->V->Hp->Prop
 stop:Nat->Hp->Prop
abbrev FpOk(X:Cx)(a:List (Addr×Obj))(H:Hp)(b:Addr):Prop:=H b=Ψ/\b≠X.env.locals/\b∉X.fs/\(b∈X.ex\/X.s₀.heap.objs.size<=b)/\(∀x c,X.env.cells.lookup x=Φ c->c≠b)/\∀p∈X.pn++a,p.1≠b
def Inv.fpOk(I:Inv X a h H s)(d:s.heap.objs.size<=b)(f:H' b=Ψ):FpOk X a H' b:=by refine⟨f,ne_of_gt (lt_of_lt_of_le I.lt d),I.nofs d,.inr (le_trans I.sz d),λx c e z=>?_,λp g z=>?_⟩;let⟨v,q⟩:=I.cell x c e;exact absurd (lt_of_lt_of_le q.lt (by rw[z];exact d)) (lt_irrefl _);exact absurd (lt_of_lt_of_le (Η (I.pin p g).1) (by rw[z];exact d)) (lt_irrefl _)
structure Turn(P:Υ)(w:ϋ)(K:Frag)(tg:Expr)(J:It)(fp:List Addr)(it:Addr)(tn:Nat->Heap->Prop):Prop where
 mem:it∈fp
 obj:∀i h,tn i h->∀b∈fp,∃o,h.get? b=Φ o/\∀v,o.data≠.cell v
 keep:∀i h h',tn i h->(∀b∈fp,∀o,h.get? b=Φ o->h'.get? b=Φ o)->tn i h'
 item:∀(X:Cx),X.prog=P->X.w=w->X.K=K->X.calm=Γ->∀(i:Nat)(pins:List (Addr×Obj))(s:Β)(σ:St)(H:Hp)(E:Ξ->Β->Prop),Inv X pins σ H s->(∀b∈fp,FpOk X pins H b)->tn i s.heap->J.go i H->
  wpAny (model P w) X.A (pyNext (.ref it)) (λr s1=>∃u,r=Φ u/\
   wpAny (model P w) X.A (letOwnedTupleGo tg (.ref it) u) (λ_ s2=>∃x H',Inv X pins σ H' s2/\RelV x u/\J.yld i H x H'/\tn (i+1) s2.heap/\∀b∈fp,H' b=Ψ) E s1) E s
 done:∀(X:Cx),X.prog=P->X.w=w->X.K=K->X.calm=Γ->∀(i:Nat)(pins:List (Addr×Obj))(s:Β)(σ:St)(H:Hp)(E:Ξ->Β->Prop),Inv X pins σ H s->(∀b∈fp,FpOk X pins H b)->tn i s.heap->J.stop i H->
  wpAny (model P w) X.A (pyNext (.ref it)) (λr s1=>r=Ψ/\Inv X pins σ H s1) E s
 self:∀(A:ϐ)(i:Nat)(s:Β)(Q:Ξ->Β->Prop)(E:Ξ->Β->Prop),tn i s.heap->Q (.ref it) s->wpAny (model P w) A (pyIter (.ref it)) Q E s
@[reducible]def TI:=St->Hp->(It->Hp->Prop)->Prop
abbrev PIE(X:Cx)(a:List (Addr×Obj))(i:St)(j:Expr)(R:It->Hp->Prop)(c:Ξ)(e:Β):Prop:=∃(f:Addr) (g:List Addr) (h:Nat->Heap->Prop) (J:It) (d:Hp),c=.ref f/\Inv X a i d e/\Turn X.prog X.w X.K j J g f h/\h 0 e.heap/\(∀b∈g,FpOk X a d b)/\R J d
abbrev PI(X:Cx)(d b:Expr)(e:TI):Prop:=
 ∀(a:List (Addr×Obj))(s:Β)(c:St)(H:Hp)(R:It->Hp->Prop),Inv X a c H s->e c H R->
  wpAny (model X.prog X.w) X.A (eval b X.env) (λv f=>wpAny (model X.prog X.w) X.A (pyIter v) (PIE X a c d R) X.xe f) X.xe s
def zqX(b:s.heap.get? it=Φ o)(c:o.cls=.type n)(hd:o.data=.fields vs)(d:["enumerate","zip","dict_itemiterator","dict_reverseitemiterator","odict_iterator","itertools.zip_longest","itertools.pairwise"].contains n=Δ)(a:Q () s):wpAny M A (letOwnedTupleGo e (.ref it) u) Q E s:=by
 cases e<;>first
  |exact Ω a
  |(cases u<;>first
   |exact Ω a
   | (refine Θ (wpAny_load b ?_)
      rw[c,hd];show wpAny M A (if(["enumerate","zip","dict_itemiterator","dict_reverseitemiterator","odict_iterator","itertools.zip_longest","itertools.pairwise"].contains n&&vs[0]?==Φ (rawInt _))=Γ then _ else _) Q E s;rw[if_neg (by intro h;rw[d]at h;exact nB h)];exact Ω a))
abbrev Itl(K:Frag)(a:Addr):It:=⟨λi H=>∃b x,SqL K H a b/\b[i]?=Φ x,λi H x c=>c=H/\∀b,SqL K H a b->b[i]?=Φ x,λi H=>∃b,SqL K H a b/\b.length<=i⟩
abbrev Itt(K:Frag)(a:Addr):It:=⟨λi H=>∃b x,SqT K H a b/\b[i]?=Φ x,λi H x c=>c=H/\∀b,SqT K H a b->b[i]?=Φ x,λi H=>∃b,SqT K H a b/\b.length<=i⟩
abbrev Itr(lo:Int)(n:Nat):It:=⟨λi _=>i<n,λi H x a=>a=H/\x=.int (lo+i),λi _=>n<=i⟩
def zf7{P:Υ}{w:ϋ}{K:Frag}{tg:Expr}(a it:Addr):Turn P w K tg (Itl K a) [it] it (λi h=>h.IsListIter it a i) where
 mem:=by simp
 obj:=λi h st b hb=>by
  have e:b=it:=by simpa using hb
  subst e;let⟨o,e,c,d⟩:=st;exact⟨o,e,λv z=>by rw[d]at z;cases z⟩
 keep:=λi h h' st k=>st.at λo e=>k it (by simp) o e
 item:=by intro X hP hw hK hc i pins s σ H E I hf st hg;subst hP hw hK;let⟨xs,x,hq,hx⟩:=hg;let⟨its,rv,p,hz⟩:=I.list hq;let⟨u,hu,ru⟩:=rv.get hx;let⟨f0,f1,f2,f3,f4,f5⟩:=hf it (by simp);refine wpAny_pyNext_list_item st p.isList (x:=u) (by simpa using hu) λh' st' sb=>?_;have I1:=I.turned (t':=s.toks) (λb o hb e=>(sb.2 b hb).trans e) f0 f1 f3 f4 f5;let⟨o,e,c,d⟩:=id st';exact⟨u,rfl,zqX e c d (by decide) ⟨x,H,I1,ru,⟨rfl,λys hy=>by rw[I.list_inj hy hq];exact hx⟩,st',λb hb=>(hf b hb).1⟩⟩
 done:=by intro X hP hw hK hc i pins s σ H E I hf st hg;subst hP hw hK;let⟨xs,hq,hx⟩:=hg;let⟨its,rv,p,hz⟩:=I.list hq;let⟨f0,f1,f2,f3,f4,f5⟩:=hf it (by simp);have hl:=rv.length;exact wpAny_pyNext_list_end (I.ok.hd hc) st p.isList (by simp;lia) λh' eb=>⟨rfl,I.turned (t':=s.toks) (λb o hb e=>eb b o hb e) f0 f1 f3 f4 f5⟩
 self:=λ_ _ _ _ _ st h=>wpAny_pyIter_listiter st h
def zi3{P:Υ}{w:ϋ}{K:Frag}{tg:Expr}(a it:Addr):Turn P w K tg (Itt K a) [it] it (λi h=>h.IsTupleIter it a i) where
 mem:=by simp
 obj:=λi h st b hb=>by
  have e:b=it:=by simpa using hb
  subst e;let⟨o,e,c,d⟩:=st;exact⟨o,e,λv z=>by rw[d]at z;cases z⟩
 keep:=λi h h' st k=>st.at λo e=>k it (by simp) o e
 item:=by intro X hP hw hK hc i pins s σ H E I hf st hg;subst hP hw hK;let⟨xs,x,hq,hx⟩:=hg;let⟨its,rv,p,hz⟩:=I.tuple hq;let⟨u,hu,ru⟩:=rv.get hx;let⟨f0,f1,f2,f3,f4,f5⟩:=hf it (by simp);refine wpAny_pyNext_tuple_item st (show s.heap.IsTuple a its.toArray from p) (x:=u) (by simpa using hu) λh' st' sb=>?_;have I1:=I.turned (t':=s.toks) (λb o hb e=>(sb.2 b hb).trans e) f0 f1 f3 f4 f5;let⟨o,e,c,d⟩:=id st';exact⟨u,rfl,zqX e c d (by decide) ⟨x,H,I1,ru,⟨rfl,λys hy=>by rw[I.tuple_inj hy hq];exact hx⟩,st',λb hb=>(hf b hb).1⟩⟩
 done:=by intro X hP hw hK hc i pins s σ H E I hf st hg;subst hP hw hK;let⟨xs,hq,hx⟩:=hg;let⟨its,rv,p,hz⟩:=I.tuple hq;let⟨f0,f1,f2,f3,f4,f5⟩:=hf it (by simp);have hl:=rv.length;exact wpAny_pyNext_tuple_end (I.ok.hd hc) st (show s.heap.IsTuple a its.toArray from p) (by simp;lia) λh' eb=>⟨rfl,I.turned (t':=s.toks) (λb o hb e=>eb b o hb e) f0 f1 f3 f4 f5⟩
 self:=λ_ _ _ _ _ st h=>wpAny_pyIter_tupleiter st h
def zi4{P:Υ}{w:ϋ}{K:Frag}{G:Expr}(it:Addr)(lo:Int)(n:Nat):Turn P w K G (Itr lo n) [it] it (λi h=>IsRangeIter h it (lo+(i:Nat)*1) ((n:Int)-(i:Nat)) 1) where
 mem:=by simp
 obj:=λi h st b c=>by
  have e:b=it:=by simpa using c
  subst e;exact⟨_,st,λv z=>by have J:=z;cases J⟩
 keep:=λi h f st k=>k it (by simp) _ st
 item:=by intro X j l m p i a s B H E I g st q;subst j l m;let⟨r,u,L,x,y,A⟩:=g it (by simp);have W:=Walks.range (prog:=X.prog) (w:=X.w) (I.ok.hd p) it lo 1 n;refine W.item i s _ _ q st λv f C M d N=>?_;let⟨t,rfl⟩:=M;have O:Inv X a B H {s with heap:=f,toks:=C}:=I.turned (λb o c e=>N b o (by simpa using c) e) r u x y A;refine⟨_,rfl,zqX d rfl rfl (by decide) ⟨.int (lo+i),H,O,⟨t,?_⟩,⟨rfl,rfl⟩,d,λb c=>(g b c).1⟩⟩;rw[Int.mul_one]
 done:=by intro X j l m p i a s B H E I g st q;let⟨r,u,L,x,y,A⟩:=g it (by simp);exact wpAny_pyNext_range_end (I.ok.hd p) st (by have:n<=i:=q;lia) λf Q=>⟨rfl,I.turned (λb o c e=>Q b o c e) r u x y A⟩
 self:=λ_ _ _ _ _ st h=>wpAny_pyIter_rangeiter st h
section
variable{X:Cx}{tg:Expr}
abbrev zqV(K:Frag)(c:TE):TI:=λd H R=>c d H λx b=>∃a,x=.ref a/\(∃e,SqL K b a e)/\R (Itl K a) b
def zqi(g:PE X l i):PI X tg l (zqV X.K i):=by
 intro c s j H R I h;refine thn (g c s j H _ I h) λv d z=>?_;let⟨x,k,f,m,n⟩:=z;let⟨a,e,⟨w,r⟩,q⟩:=n;subst e;cases m;let⟨t,y,p,A⟩:=f.list r;refine wpAny_pyIter_list p.isList ?_;refine⟨d.heap.objs.size,[d.heap.objs.size],_,_,k,rfl,f.kept (t':=d.toks) λb o e=>Λ _ e,zf7 a _,⟨_,Ζ _ rfl,rfl,rfl⟩,λb u=>?_,q⟩;have e:b=d.heap.objs.size:=by simpa using u
 subst e;exact f.fpOk (le_refl _) (f.hok.fresh (le_refl _))
def zio{lo a}(I:Inv X c f H s)(g:-(2^62)<=lo)(h:lo<2^62)(i:-(2^62)<=a)(j:a<2^62)(q:R (Itr lo (a-lo).toNat) H):wpAny (model X.prog X.w) X.A (pyIter (.ref s.heap.objs.size)) (PIE X c f tg R) E {s with heap:=s.heap.push {cls:=.type "range",data:=.fields #[.int lo t,.int a u,.int 1 v]},toks:=tk}:=by
 refine wpAny_pyIter_range (IsRange.new ..) (small_one g h i j) ?_;have d:Inv X c f H {s with heap:=s.heap.push {cls:=.type "range",data:=.fields #[.int lo t,.int a u,.int 1 v]},toks:=tk}:=I.kept λb o e=>Λ _ e;refine⟨(s.heap.push {cls:=.type "range",data:=.fields #[.int lo t,.int a u,.int 1 v]}).objs.size,[(s.heap.push {cls:=.type "range",data:=.fields #[.int lo t,.int a u,.int 1 v]}).objs.size],_,_,H,rfl,
  d.kept λb o e=>Λ _ e,zi4 _ lo (a-lo).toNat,?_,λb k=>?_,q⟩
 have l:lo+((0:Nat):Int)*1=lo:=by simp
 have m:(((a-lo).toNat:Nat):Int)-((0:Nat):Int)=Builtin.Range.rangeSize lo a 1:=by rw[rangeSize_one];split<;>lia
 rw[l,m];exact Ζ _ rfl;have e:b=(s.heap.push {cls:=.type "range",data:=.fields #[.int lo t,.int a u,.int 1 v]}).objs.size:=by simpa using k
 subst e;exact d.fpOk (le_refl _) (d.hok.fresh (le_refl _))
abbrev zuz(a:TA):TI:=λb H R=>a b H λc d=>∃j:Int,c=[.int j]/\-(2^62)<=j/\j<2^62/\R (Itr 0 j.toNat) d
abbrev zuy(a:TA):TI:=λb H R=>a b H λc d=>∃i j:Int,c=[.int i,.int j]/\(-(2^62)<=i/\i<2^62/\-(2^62)<=j/\j<2^62)/\R (Itr i (j-i).toNat) d
def zkX(d:Gl X "range")(f:X.mg "range"=Ψ)(g:PA X [a] i)(hs:starEach [a] X.env=[(Δ,eval a X.env)]:=by rfl):PI X tg (.Call (.Name "range" p) [a] [] pos) (zuz i):=by intro b s k H R I h;refine Call_ (zdm I d f boot_range (PyProof.Rows.callWith_type1 (thn (g pos b s k H _ I h) λu v z=>?_) hs rfl));let⟨w,x,l,m,c⟩:=z;let⟨j,e,c,n,q⟩:=c;subst e;cases m with| cons r o=>cases o;let⟨t,rfl⟩:=r;exact call_range_1 (zio l (by lia) (by lia) c n (by simpa using q))
def zkW(k:Gl X "range")(l:X.mg "range"=Ψ)(m:PA X [a,b] n)(hs:starEach [a,b] X.env=[(Δ,eval a X.env),(Δ,eval b X.env)]:=by rfl)(c:starEach [b] X.env=[(Δ,eval b X.env)]:=by rfl):
  PI X tg (.Call (.Name "range" p) [a,b] [] pos) (zuy n):=by
 intro d s o H R I h;refine Call_ (zdm I k l boot_range (PyProof.Rows.callWith_type1 (thn (m pos d s o H _ I h) λA B ⟨C,E,u,v,f⟩=>?_) (by rw[hs,c]) (by rw[c];rfl)));let⟨i,j,e,⟨f,w,x,y⟩,q⟩:=f;subst e;cases v with| cons r g=>cases g with| cons z g=>cases g;let⟨t,rfl⟩:=r;let⟨G,rfl⟩:=z;exact call_range_2 (zio u f w x y q)
abbrev tFor(f:TI)(g:TG)(h:TS):TS:=λD a H=>f a H λJ j=>∃W:Nat->Nat->St->Hp->Prop,(∃m,W 0 m a j)/\∀i m a H,W i m a H->
 (J.stop i H/\D.nx a H)\/(J.go i H/\∃N:St->Hp->Prop,(∀b c,N b c->∃e,e<m/\W (i+1) e b c)/\∀x c,J.yld i H x c->g x a c λd k=>h {D with nx:=N,ct:=N,bk:=D.nx} d k)
abbrev zgt(a:List Addr)(h:Heap):List (Addr×Obj):=a.filterMap λb=>(h.get? b).map λo=>(b,o)
def zcm(a:b∈c)(e:h.get? b=Φ o):(b,o)∈zgt c h:=List.mem_filterMap.mpr ⟨b,a,by rw[e];rfl⟩
def zk3(a:p∈zgt c h):p.1∈c/\h.get? p.1=Φ p.2:=by
 let⟨b,d,e⟩:=List.mem_filterMap.mp a;cases q:h.get? b with
 |none=>rw[q]at e;exact nS e
 |some o=>rw[q]at e;have f:(b,o)=p:=Option.some.inj e;subst f;exact⟨d,q⟩
def Inv.pinned(I:Inv X a h H s)(i:∀b∈c,FpOk X a H b)(j:∀b∈c,∃o,s.heap.get? b=Φ o/\∀v,o.data≠.cell v):Inv X (a++zgt c s.heap) h H s:=I.pins_of λp k=>(mem_append.mp k).elim (λz=>I.pin p (mem_append_right _ z)) λz=>by let⟨f,e⟩:=zk3 z;let⟨l,m,n,_⟩:=i p.1 f;let⟨o,g,d⟩:=j p.1 f;rw[e]at g;cases g;exact⟨e,l,m,n,d⟩
def Inv.unpinned(I:Inv X (a++d) b H s):Inv X a b H s:=I.pins_of λp c=>I.pin p (mem_append_right _ (mem_append_left _ c))
def zow(G:PassesOwn (model X.prog X.w) X.A X.env X.xe)(hc:X.calm=Γ)(hi:PI X tg A wi)(hg:PG X tg g)(j:PSs X body tb)(hs:∀x,foldedSetIterable A X.env x=pure x:=by intro _;rfl):PS X (.For tg A body [] pos) (tFor wi g tb):=by
 intro a s σ H D I h;refine wpAny_For (thn (hi a s σ H _ I h) λv s1 h1=>thn h1 λitv s2 h2=>?_) hs;let⟨it,L,tn,J,H2,e,I2,T,st2,f2,W,⟨m0,w0⟩,M⟩:=h2;subst e
 -- what stays Γ of the B O through the loop
 have l:∀{y:Hp},(∀b∈L,y b=Ψ)->∀b∈L,FpOk X a y b:=λhn b j=>⟨hn b j,(f2 b j).2⟩;refine codeAny_forLoop_any (λn s'=>∃i p y,Inv X a p y s'/\tn i s'.heap/\(∀b∈L,y b=Ψ)/\W i n p y) ?_ m0 ⟨0,σ,H2,I2,st2,λb j=>(f2 b j).1,w0⟩;rintro n s3 ⟨i,q,H3,I3,Q,U,w3⟩;rcases M i n q H3 w3 with⟨stop,qn⟩|⟨go,N,hN,step⟩;refine wpAny_passesOwn G (thn (T.done X rfl rfl rfl hc i a s3 q H3 X.xe I3 (l U) Q stop) λr s4 k=>?_);let⟨hr,I4⟩:=k;subst hr;exact wpAny_execs_nil ⟨q,H3,I4,qn⟩;refine wpAny_passesOwn G (thn (T.item X rfl rfl rfl hc i a s3 q H3 X.xe I3 (l U) Q go) λr s4 z=>?_);let⟨u,hr,h4⟩:=z;subst hr;refine wpAny_passesOwn G (thn h4 λ_ s5 z=>?_);let⟨x,H5,I5,r5,y5,E,fr5⟩:=z;have I5':=I5.pinned (l fr5) (T.obj _ _ E);refine wpAny_passesOwn G (thn (hg _ s5 q H5 x u _ I5' r5 (step x H5 y5)) λ_ s6 z=>?_);let⟨σ6,H6,I6,q6⟩:=z;refine wpAny_passesOwn G (thn (j _ s6 σ6 H6 _ I6 q6) λf s7 C=>?_);have again:∀{c:St}{t:Hp},Inv X (a++zgt L s5.heap) c t s7->N c t->∃m,m<n/\∃i p y,Inv X a p y s7/\tn i s7.heap/\(∀b∈L,y b=Ψ)/\W i m p y:=λ{c t} w Y=>by let⟨m',hm,w7⟩:=hN c t Y;refine⟨m',hm,i+1,c,t,w.unpinned,T.keep _ _ _ E λb j o e=>(w.pin (b,o) (mem_append_right _ (mem_append_right _ (zcm j e)))).1,λb j=>?_,w7⟩;let⟨o,e,d⟩:=T.obj _ _ E b j;exact(w.pin (b,o) (mem_append_right _ (mem_append_right _ (zcm j e)))).2.1
 cases f with|next=>let⟨c,t,w,Y⟩:=C;exact again w Y|cont=>let⟨c,t,w,Y⟩:=C;exact again w Y|brk=>let⟨c,t,w,C⟩:=C;exact⟨c,t,w.unpinned,C⟩|ret v=>let⟨x7,c,t,w,r7,C⟩:=C;exact⟨x7,c,t,w.unpinned,r7,C⟩
end
def znO{K}{g:TG}{j:TS}{D:Ends}(Pv:Nat->St->Hp->Prop)(l:Pv 0 b H)(hl:∀i b H,i<=xs.length->Pv i b H->SqL K H a xs)(hs:∀i x b H,xs[i]?=Φ x->Pv i b H->g x b H λc h=>j {D with nx:=Pv (i+1),ct:=Pv (i+1),bk:=D.nx} c h)(hd:∀b H,Pv xs.length b H->D.nx b H):
  ∃W:Nat->Nat->St->Hp->Prop,(∃m,W 0 m b H)/\∀i m b H,W i m b H->
   ((Itl K a).stop i H/\D.nx b H)\/((Itl K a).go i H/\∃N:St->Hp->Prop,(∀d H',N d H'->∃k,k<m/\W (i+1) k d H')/\∀x H',(Itl K a).yld i H x H'->g x b H' λc h=>j {D with nx:=N,ct:=N,bk:=D.nx} c h):=by
 refine⟨λi m b H=>m=xs.length-i/\i<=xs.length/\Pv i b H,⟨xs.length,by simp,zero_le _,l⟩,?_⟩;rintro i m b H ⟨rfl,n,p⟩;have q:=hl i b H n p;by_cases f:i<xs.length;refine .inr ⟨⟨xs,xs[i],q,by simp[f]⟩,Pv (i+1),λd H' o=>⟨xs.length-(i+1),by lia,rfl,f,o⟩,λx H' y=>?_⟩;let⟨e,y⟩:=y;subst e;exact hs i x b _ (y xs q) p;have e:i=xs.length:=by lia
 subst e;exact .inl ⟨⟨xs,q,le_refl _⟩,hd b H p⟩
@[reducible]def R2:=V->V->Hp->VK->Prop
abbrev OpR(X:Cx)(f:Ξ->Ξ->Sem Ξ)(r:R2):Prop:=
 ∀(a:List (Addr×Obj))(s:Β)(b:St)(H:Hp)(x y:V)(v u:Ξ)(Q:VK),Inv X a b H s->RelV x v->RelV y u->r x y H Q->
  wpAny (model X.prog X.w) X.A (f v u) (EP X a b Q) X.xe s
abbrev UnR(X:Cx)(f:Ξ->Sem Ξ)(r:V->Hp->VK->Prop):Prop:=
 ∀(a:List (Addr×Obj))(s:Β)(b:St)(H:Hp)(x:V)(v:Ξ)(Q:VK),Inv X a b H s->RelV x v->r x H Q->
  wpAny (model X.prog X.w) X.A (f v) (EP X a b Q) X.xe s
abbrev zbt(X:Cx)(f:Ξ)(r:List V->Hp->VK->Prop):Prop:=
 ∀(a:List (Addr×Obj))(s:Β)(b:St)(H:Hp)(c:List V)(d:List Ξ)(Q:VK),Inv X a b H s->Vals c d->r c H Q->
  wpAny (model X.prog X.w) X.A (call f d) (EP X a b Q) X.xe s
abbrev TruR(X:Cx)(r:V->Hp->(Bool->Hp->Prop)->Prop):Prop:=
 ∀(a:List (Addr×Obj))(s:Β)(b:St)(H:Hp)(x:V)(v:Ξ)(Q:Bool->Hp->Prop),Inv X a b H s->RelV x v->r x H Q->
  wpAny (model X.prog X.w) X.A (truthy v) (TP X a b Q) X.xe s
abbrev tOp(r:R2)(b c:TE):TE:=λa H Q=>b a H λx d=>c a d λy e=>r x y e Q
abbrev tUn(r:V->Hp->VK->Prop)(a:TE):TE:=λb H Q=>a b H λx c=>r x c Q
abbrev rI(C:Int->Int->Prop)(g:Int->Int->V):R2:=λx y H Q=>∃i j,x=.int i/\y=.int j/\C i j/\Q (g i j) H
abbrev rI0(g:Int->Int->V):R2:=λx y H Q=>∃i j,x=.int i/\y=.int j/\Q (g i j) H
abbrev rU(g:Int->V):V->Hp->VK->Prop:=λx H Q=>∃i,x=.int i/\Q (g i) H
section
variable{X:Cx}{a b c:Expr}{ta tb tc:TE}{pos:Pos}
def binT(m:PE X a ta)(n:PE X b tb){R:V->V->Hp->Prop}(I:Inv X d g H s)(h:ta g H λx l=>tb g l λy e=>R x y e){f:Ξ->Ξ->Sem Ξ}(o:∀v u k x y e,Inv X d g e k->RelV x v->RelV y u->R x y e->wpAny (model X.prog X.w) X.A (f v u) Q X.xe k):
  wpAny (model X.prog X.w) X.A (eval a X.env) (λv i=>wpAny (model X.prog X.w) X.A (eval b X.env) (λu j=>wpAny (model X.prog X.w) X.A (f v u) Q X.xe j) X.xe i) X.xe s:=by
 refine thn (m d s g H _ I h) λv p z=>?_;let⟨x,l,q,r,t⟩:=z;refine thn (n d p g l _ q t) λu k z=>?_;let⟨y,e,w,A,B⟩:=z;exact o v u k x y e w r A B
def zsI(e:OpR X (binaryOp op) r)(f:PE X a ta)(g:PE X b tb):PE X (.BinOp a op b pos) (tOp r ta tb):=by intro d s i H Q I h;exact wpAny_BinOp (binT f g I h λv u j x y k l m n q=>e d j i k x y v u Q l m n q)
def zug(f:UnR X (unaryOp op) r)(g:PE X a ta):PE X (.UnaryOp op a pos) (tUn r ta):=by intro d s e H Q I h;exact UnaryOp_ (thn (g d s e H _ I h) λv i z=>(by let⟨x,j,k,l,m⟩:=z;exact f d i e j x v Q k l m))
def opI{g:Int->Int->Int}(rule:∀(i j:Int)(t u:Tok)(s:Β)(Q:Ξ->Β->Prop)(E:Ξ->Β->Prop),C i j->Q (.int (g i j) s.toks) {s with toks:=s.toks+1}->wpAny (model X.prog X.w) X.A (f (.int i t) (.int j u)) Q E s):
  OpR X f (rI C λi j=>.int (g i j)):=by
 intro d s n H x y v u Q I e k h;let⟨i,j,rfl,rfl,l,q⟩:=h;let⟨t,rfl⟩:=e;let⟨m,rfl⟩:=k;exact rule i j t m s _ _ l ⟨.int (g i j),H,I.tok _,⟨_,rfl⟩,q⟩
def opI0{g:Int->Int->Int}(rule:∀(i j:Int)(t u:Tok)(s:Β)(Q:Ξ->Β->Prop)(E:Ξ->Β->Prop),Q (.int (g i j) s.toks) {s with toks:=s.toks+1}->wpAny (model X.prog X.w) X.A (f (.int i t) (.int j u)) Q E s):
  OpR X f (rI0 λi j=>.int (g i j)):=by
 intro d s m H x y v u Q I e k h;let⟨i,j,rfl,rfl,q⟩:=h;let⟨t,rfl⟩:=e;let⟨l,rfl⟩:=k;exact rule i j t l s _ _ ⟨.int (g i j),H,I.tok _,⟨_,rfl⟩,q⟩
def opB0{g:Int->Int->Bool}(rule:∀(i j:Int)(t u:Tok)(s:Β)(Q:Ξ->Β->Prop)(E:Ξ->Β->Prop),Q (.bool (g i j)) s->wpAny (model X.prog X.w) X.A (f (.int i t) (.int j u)) Q E s):
  OpR X f (rI0 λi j=>.bl (g i j)):=by
 intro d s m H x y v u Q I e k h;let⟨i,j,rfl,rfl,q⟩:=h;let⟨t,rfl⟩:=e;let⟨l,rfl⟩:=k;exact rule i j t l s _ _ ⟨.bl (g i j),H,I,rfl,q⟩
abbrev CDiv(i j:Int):Prop:=0<j/\j<1073741824
abbrev CPow(i j:Int):Prop:=0<=j/\j<=1000000/\i.natAbs<2^64
abbrev CMul(i j:Int):Prop:=(-(2^64)<i/\i<2^64)\/(-(2^64)<j/\j<2^64)
def CMul.ok(h:CMul i j):IntMulOk i j:=by rcases h with⟨d,e⟩|⟨d,e⟩;exact .of_left (intBits_le_64 d e);exact .of_right (intBits_le_64 d e)
def zoE:OpR X (binaryOp .Add) (rI0 λi j=>.int (i+j)):=opI0 λ_ _ _ _ _ _ _ q=>add_int q
def zsR:OpR X (binaryOp .Sub) (rI0 λi j=>.int (i-j)):=opI0 λ_ _ _ _ _ _ _ q=>sub_int q
def zsU:OpR X (binaryOp .Mult) (rI CMul λi j=>.int (i*j)):=opI λ_ _ _ _ _ _ _ d q=>mul_int q d.ok
def zqt:OpR X (binaryOp .FloorDiv) (rI CDiv λi j=>.int (i/j)):=opI λi j _ _ _ _ _ d q=>by have e:=d.1;have f:=d.2;exact floordiv_int (by lia) (by rw[Int.fdiv_eq_ediv_of_nonneg i (by lia)];exact q) (.inl (PyProof.noPylong_small (by lia)))
def zsV:OpR X (binaryOp .Mod) (rI (λ_ j=>0<j) λi j=>.int (i%j)):=opI λi j _ _ _ _ _ d q=>by exact mod_int' (by lia) (by rw[Int.fmod_eq_emod_of_nonneg i (by lia)];exact q)
def zsS:OpR X (binaryOp .Pow) (rI CPow λi j=>.int (i^j.toNat)):=opI λ_ _ _ _ _ _ _ d q=>pow_int_small d.1 d.2.1 d.2.2 q
def unI{g:Int->Int}(rule:∀(i:Int)(t:Tok)(s:Β)(Q:Ξ->Β->Prop)(E:Ξ->Β->Prop),Q (.int (g i) s.toks) {s with toks:=s.toks+1}->wpAny (model X.prog X.w) X.A (f (.int i t)) Q E s):
  UnR X f (rU λi=>.int (g i)):=by
 intro d s j H x v Q I e h;let⟨i,rfl,q⟩:=h;let⟨t,rfl⟩:=e;exact rule i t s _ _ ⟨.int (g i),H,I.tok _,⟨_,rfl⟩,q⟩
def zrF:UnR X (unaryOp .USub) (rU λi=>.int (-i)):=unI λ_ _ _ _ _ q=>neg_int q
end
abbrev scal:V->V->Bool
 |.non,.non=>Γ|.non,.int _=>Γ|.int _,.non=>Γ|.non,.bl _=>Γ|.bl _,.non=>Γ|.non,.str _=>Γ|.str _,.non=>Γ
 |.int _,.int _=>Γ|.bl _,.bl _=>Γ|.str _,.str _=>Γ|.byt _,.byt _=>Γ
 |.int _,.str _=>Γ|.str _,.int _=>Γ|.bl _,.str _=>Γ|.str _,.bl _=>Γ
 |_,_=>Δ
abbrev rEq:R2:=λx y H Q=>scal x y=Γ/\Q (.bl (decide (x=y))) H
abbrev rNe:R2:=λx y H Q=>scal x y=Γ/\Q (.bl (!decide (x=y))) H
def zl4:decide (V.int i=V.int j)=(i==j):=by rw[Bool.eq_iff_iff];simp
def zoV:decide (V.bl i=V.bl j)=(i==j):=by rw[Bool.eq_iff_iff];simp
def zl3:decide (V.str i=V.str j)=(i==j):=by rw[Bool.eq_iff_iff];simp
def zl5:decide (V.byt i=V.byt j)=(i.toList==j.toList):=by rw[Bool.eq_iff_iff];cases i;cases j;simp
section
variable{X:Cx}{a b c:Expr}{ta tb tc:TE}{pos:Pos}
def zav(I:Inv X d f H s)(q:Q (.bl k) H)(e:k=k'):EP X d f Q (.bool k') s:=by subst e;exact⟨.bl k,H,I,rfl,q⟩
def zup:OpR X (compareOp .Eq) rEq:=by
 intro k s l H x y v u Q I g d h;let⟨f,q⟩:=h;cases x with
 |non=>cases g;cases y with|non=>cases d;exact PySem.EqNone.eq_none_none (zav I q (by simp))|bl j=>cases d;exact PySem.EqNone.eq_none_bool (zav I q (by simp))|int j=>let⟨e,rfl⟩:=d;exact PySem.EqNone.eq_none_int (zav I q (by simp))|str j=>let⟨e,rfl⟩:=d;exact PySem.EqNone.eq_none_str (zav I q (by simp))|_=>exact absurd (show Δ=Γ from f) Ν
 |bl i=>cases g;cases y with|non=>cases d;exact PySem.EqNone.eq_bool_none (zav I q (by simp))|bl j=>cases d;exact eq_bool (zav I q zoV)|str j=>let⟨e,rfl⟩:=d;exact PySem.EqMixed.eq_bool_str (zav I q (by simp))|_=>exact absurd (show Δ=Γ from f) Ν
 |int i=>let⟨t,rfl⟩:=g;cases y with|non=>cases d;exact PySem.EqNone.eq_int_none (zav I q (by simp))|int j=>let⟨e,rfl⟩:=d;exact eq_int (zav I q zl4)|str j=>let⟨e,rfl⟩:=d;exact PySem.EqMixed.eq_int_str (zav I q (by simp))|_=>exact absurd (show Δ=Γ from f) Ν
 |str i=>let⟨t,rfl⟩:=g;cases y with|non=>cases d;exact PySem.EqNone.eq_str_none (zav I q (by simp))|bl j=>cases d;exact PySem.EqMixed.eq_str_bool (zav I q (by simp))|int j=>let⟨e,rfl⟩:=d;exact PySem.EqMixed.eq_str_int (zav I q (by simp))|str j=>let⟨e,rfl⟩:=d;exact eq_str (zav I q zl3)|_=>exact absurd (show Δ=Γ from f) Ν
 |byt i=>let⟨t,rfl⟩:=g;cases y with|byt j=>let⟨e,rfl⟩:=d;exact PySem.W.eq_bytes (zav I q zl5)|_=>exact absurd (show Δ=Γ from f) Ν
 |_=>cases y<;>exact absurd (show Δ=Γ from f) Ν
def zuk:OpR X (compareOp .NotEq) rNe:=by
 intro k s l H x y v u Q I g d h;let⟨f,q⟩:=h;cases x with
 |non=>cases g;cases y with|non=>cases d;exact PySem.EqNone.ne_none_none (zav I q (by simp))|bl j=>cases d;exact PySem.EqNone.ne_none_bool (zav I q (by simp))|int j=>let⟨e,rfl⟩:=d;exact PySem.EqNone.ne_none_int (zav I q (by simp))|str j=>let⟨e,rfl⟩:=d;exact PySem.EqNone.ne_none_str (zav I q (by simp))|_=>exact absurd (show Δ=Γ from f) Ν
 |bl i=>cases g;cases y with|non=>cases d;exact PySem.EqNone.ne_bool_none (zav I q (by simp))|bl j=>cases d;exact ne_bool (zav I q (congrArg not zoV))|str j=>let⟨e,rfl⟩:=d;exact PySem.EqMixed.ne_bool_str (zav I q (by simp))|_=>exact absurd (show Δ=Γ from f) Ν
 |int i=>let⟨t,rfl⟩:=g;cases y with|non=>cases d;exact PySem.EqNone.ne_int_none (zav I q (by simp))|int j=>let⟨e,rfl⟩:=d;exact ne_int (zav I q (congrArg not zl4))|str j=>let⟨e,rfl⟩:=d;exact PySem.EqMixed.ne_int_str (zav I q (by simp))|_=>exact absurd (show Δ=Γ from f) Ν
 |str i=>let⟨t,rfl⟩:=g;cases y with|non=>cases d;exact PySem.EqNone.ne_str_none (zav I q (by simp))|bl j=>cases d;exact PySem.EqMixed.ne_str_bool (zav I q (by simp))|int j=>let⟨e,rfl⟩:=d;exact PySem.EqMixed.ne_str_int (zav I q (by simp))|str j=>let⟨e,rfl⟩:=d;exact ne_str (zav I q (congrArg not zl3))|_=>exact absurd (show Δ=Γ from f) Ν
 |byt i=>let⟨t,rfl⟩:=g;cases y with|byt j=>let⟨e,rfl⟩:=d;exact PySem.W.ne_bytes (zav I q (congrArg not zl5))|_=>exact absurd (show Δ=Γ from f) Ν
 |_=>cases y<;>exact absurd (show Δ=Γ from f) Ν
def zul:OpR X (compareOp .Lt) (rI0 λi j=>.bl (decide (i<j))):=opB0 λ_ _ _ _ _ _ _ q=>lt_int q
def zum:OpR X (compareOp .LtE) (rI0 λi j=>.bl (decide (i<=j))):=opB0 λ_ _ _ _ _ _ _ q=>le_int q
def zun:OpR X (compareOp .Gt) (rI0 λi j=>.bl (decide (j<i))):=opB0 λ_ _ _ _ _ _ _ q=>gt_int q
def zuo:OpR X (compareOp .GtE) (rI0 λi j=>.bl (decide (j<=i))):=opB0 λ_ _ _ _ _ _ _ q=>ge_int q
def zqs:OpR X (compareOp .IsNot) (λx y H Q=>y=.non/\Q (.bl (!decide (x=.non))) H):=by
 intro d s g H x y v u Q I e f h;let⟨rfl,q⟩:=h;cases f;refine isnot_none_gen (zav I q ?_);cases x<;>first
  |(cases e;rfl)
  |(let⟨t,rfl⟩:=e;rfl)
def zoG(b)(h:op≠.In:=by decide)(d:op≠.NotIn:=by decide):behindInMarks op b=Δ:=by
 have e:(op==CmpOp.In)=Δ:=by cases op<;>first|rfl|exact absurd rfl h
 have f:(op==CmpOp.NotIn)=Δ:=by cases op<;>first|rfl|exact absurd rfl d
 cases b<;>simp[behindInMarks,e,f]
def zqn(e:OpR X (compareOp op) r)(f:PE X a ta)(g:PE X b tb)(i:behindInMarks op b=Δ):PE X (.Compare a [op] [b] pos) (tOp r ta tb):=by intro d s j H Q I h;exact wpAny_Compare1 (binT f g I h λv u k x y l m n o q=>e d k j l x y v u Q m n o q) i
abbrev zpe(t:TE):TT:=λd H Q=>t d H λx e=>∃k,x=.bl k/\Q k e
def zkM(g:OpR X (compareOp op) r)(i:PE X a ta)(l:PE X b tb)(m:behindInMarks op b=Δ):PT X (.Compare a [op] [b] pos) (zpe (tOp r ta tb)):=by intro d s f H Q I h;refine wpAny_isTrue_Compare1 (thn (i d s f H _ I h) λv n z=>eY z λx o p q t=>thn (l d n f o _ p t) λu w z=>eY z λy A B C E=>thn (g d w f A x y v u _ B q C E) λc N j=>?_) m;let⟨z,G,J,L,k,e,M⟩:=j;subst e;cases L;exact ϓ ⟨G,J,M⟩
abbrev zog(r f:R2)(ta tb tc:TE):TE:=λd H Q=>ta d H λx g=>tb d g λy h=>r x y h λz e=>∃k,z=.bl k/\
 (if k=Γ then tc d e λi j=>f y i j Q else Q (.bl Δ) e)
def znn(t:OpR X (compareOp op) r)(l:OpR X (compareOp g) w)(A:PE X a ta)(B:PE X b tb)(C:PE X c tc)(E:lastMarks [op,g] [b,c]=Δ:=by with_unfolding_all rfl):PE X (.Compare a [op,g] [b,c] pos) (zog r w ta tb tc):=by
 intro f s i H Q I h;refine Compare_chain (thn (A f s i H _ I h) λv G z=>eY z λx J L M N=>chain_link (thn (B f G i J _ L N) λu O z=>eY z λy T U m Y=>thn (t f O i T x y v u _ U M m Y) λd s3 j=>?_)) E;let⟨z,n,o,r3,k,e,q⟩:=j;subst e;cases r3;refine ϓ ?_;cases k with|false=>exact ite_ff ⟨.bl Δ,n,o,rfl,q⟩|true=>exact ite_tt (chain_last (thn (C f s3 i n _ o q) λw' s4 p=>(by let⟨z',H4,I4,r4,q4⟩:=p;exact l f s4 i H4 y z' u w' Q I4 m r4 q4)))
def zm6(q:OpR X (compareOp op) r)(l:OpR X (compareOp g) t)(w:PE X a ta)(A:PE X b tb)(B:PE X c tc)(C:lastMarks [op,g] [b,c]=Δ:=by with_unfolding_all rfl):PT X (.Compare a [op,g] [b,c] pos) (zpe (zog r t ta tb tc)):=by
 intro f s i H Q I h;refine isTrue_chain (thn (w f s i H _ I h) λv E z=>eY z λx G J L M=>test_link (thn (A f E i G _ J M) λu N z=>eY z λy O T m U=>thn (q f N i O x y v u _ T L m U) λd Y j=>?_)) C;let⟨z,n,o,r3,k,e,p⟩:=j;subst e;cases r3;refine ϓ ?_;cases k with| false=>let⟨k',e',q'⟩:=p;cases e';exact ite_ff ⟨n,o,q'⟩| true=>refine ite_tt (test_last (thn (B f Y i n _ o p) λw' s4 z=>eY z λz' H4 I4 r4 q4=>thn (l f s4 i H4 y z' u w' _ I4 m r4 q4) λd' s5 j=>?_));let⟨z2,H5,I5,r5,k2,e2,q5⟩:=j;subst e2;cases r5;exact ϓ ⟨H5,I5,q5⟩
abbrev TruV(K:Frag)(x:V)(H:Hp)(k:Bool):Prop:=match x with|.non=>k=Δ|.bl b=>k=b|.int i=>k=(i != 0)|.str y=>y.length<=sizeLine/\k=((y.length:Int) != 0)|.byt y=>y.size<=sizeLine/\k=((y.size:Int) != 0)|.ref p=>(∃d,SqL K H p d/\k = !d.isEmpty)\/(∃d,SqT K H p d/\k = !d.isEmpty)\/∃e,H p=Φ (.dK e)/\k = !e.isEmpty|_=>False
def zjA(r:KV kvs vs):(!vs.isEmpty) = !kvs.isEmpty:=by cases r<;>rfl
def zeQ(r:Vals xs its):(!its.toArray.isEmpty) = !xs.isEmpty:=by cases r<;>simp
def zgA:(sizeLine:Nat)<2^63:=by rw[Χ];decide
def zrI:TruR X (λx H Q=>∃k,TruV X.K x H k/\Q k H):=by
 intro z s E H x v Q I l h;let⟨k,e,q⟩:=h;have G:=zgA;have J:sizeLine=16777216:=Χ;cases x with
 |non=>cases l;have d:k=Δ:=e;subst d;exact truthy_none ⟨H,I,q⟩| bl b=>cases l;have d:k=b:=e;subst d;exact ϓ ⟨H,I,q⟩| int i=>let⟨t,rfl⟩:=l;have d:k=(i != 0):=e;subst d;exact PySem.P.truthy_int ⟨H,I,q⟩| str y=>let⟨t,rfl⟩:=l;obtain⟨B,d⟩:y.length<=sizeLine/\k=((y.length:Int) != 0):=e;subst d;exact PySem.P.truthy_str (by lia) ⟨H,I.tok _,q⟩| byt y=>let⟨t,rfl⟩:=l;obtain⟨B,d⟩:y.size<=sizeLine/\k=((y.size:Int) != 0):=e;subst d;exact PySem.W.truthy_bytes (by lia) ⟨H,I.tok _,q⟩| ref p=>cases l;have d:(∃j,SqL X.K H p j/\k = !j.isEmpty)\/(∃j,SqT X.K H p j/\k = !j.isEmpty)\/∃f,H p=Φ (.dK f)/\k = !f.isEmpty:=e;rcases d with⟨j,n,d⟩|⟨j,n,d⟩|⟨f,n,d⟩;subst d;let⟨u,r,w,A⟩:=I.list n;have g:=r.length;exact wpAny_truthy_list w.isList (by simp![size_toArray];lia) ⟨H,I.tok _,by rw[zeQ r];exact q⟩;subst d;let⟨u,r,w,A⟩:=I.tuple n;have g:=r.length;exact truthy_tuple w (by simp![size_toArray];lia) ⟨H,I.tok _,by rw[zeQ r];exact q⟩;subst d;obtain⟨A,C,o,r,m⟩:f.length<=sizeLine/\(p==sysModules)=Δ/\∃o,KV f o/\s.heap.DictOf (zaq X.prog X.w) p o:=I.hok p _ n;have g:f.length=o.length:=Paired.length r;exact wpAny_truthy_dict C m (by lia) ⟨H,I.tok _,by rw[zjA r];exact q⟩
 |_=>exact(show False from e).elim
def zm5(g:PE X a ta)(i:∀d,isTrue a X.env d=(do let v <-d;standAt a.pos;holding [v] (truthy v))) :
  PT X a (λf H Q=>ta f H λx H'=>∃k,TruV X.K x H' k/\Q k H'):=by
 intro e s f H Q I h;exact isTrue_plain (thn (g e s f H _ I h) λv j z=>(by let⟨x,l,m,n,o⟩:=z;exact zrI e j f l x v Q m n o)) (i _)
def zmw(r:Vals [x] us):∃u,us=[u]/\RelV x u:=by cases r with|cons d e=>cases e;exact⟨_,rfl,d⟩
def zo9(r:Vals [x,y] us):∃u d,us=[u,d]/\RelV x u/\RelV y d:=by cases r with| cons e f=>cases f with|cons g h=>cases h;exact⟨_,_,rfl,e,g⟩
def zn1:zbt X (.builtin "abs") (λxs H Q=>∃i,xs=[.int i]/\Q (.int (if i<0 then -i else i)) H):=by intro d s e H xs f Q I r h;let⟨i,rfl,q⟩:=h;let⟨u,rfl,t,rfl⟩:=zmw r;exact call_abs_int λu g=>⟨.int (if i<0 then -i else i),H,I.tok _,⟨_,rfl⟩,q⟩
def zmd(f:X.calm=Γ):zbt X (.builtin "max") (λxs H Q=>∃i j,xs=[.int i,.int j]/\Q (.int (if j>i then j else i)) H):=by intro e s g H xs l Q I r h;let⟨i,j,rfl,q⟩:=h;let⟨u,m,rfl,⟨t,rfl⟩,⟨n,rfl⟩⟩:=zo9 r;refine max_two_ints (I.ok.hd f) λo p k=>⟨_,H,I.kept k,?_,q⟩;by_cases d:j>i;rw[if_pos d,if_pos d];exact⟨_,rfl⟩;rw[if_neg d,if_neg d];exact⟨_,rfl⟩
def zmc(f:X.calm=Γ):zbt X (.builtin "min") (λxs H Q=>∃i j,xs=[.int i,.int j]/\Q (.int (if j<i then j else i)) H):=by intro e s g H xs l Q I r h;let⟨i,j,rfl,q⟩:=h;let⟨u,m,rfl,⟨t,rfl⟩,⟨n,rfl⟩⟩:=zo9 r;refine min_two_ints (I.ok.hd f) λo p k=>⟨_,H,I.kept k,?_,q⟩;by_cases d:j<i;rw[if_pos d,if_pos d];exact⟨_,rfl⟩;rw[if_neg d,if_neg d];exact⟨_,rfl⟩
end
structure ObjM(h:Heap)(x dx C:Addr)(mA:Str->Option Ξ):Prop where
 obj:h.get? x=Φ (instObj C dx)
 ns:h.Ns1 dx mA
 ne:dx≠x
def zlb{h:Heap}(n:h.Ns1 f g):∃c,h.get? f=Φ c/\∀name,lookIn name c=Φ (g name):=by
 let⟨o,d,r,i,j,k,_,l⟩:=n;refine⟨o,i,λname=>?_⟩;have e:=l name;unfold nsFind findBy at e;rw[<-Array.find?_toList]at e;unfold lookIn;rw[j];dsimp only;split;rename_i y q;rw[q]at e;exact congrArg Φ e;rename_i q;rw[q]at e;have a:d.toList.any (·.refKey)=Δ:=by rw[List.any_eq_false];intro y m;let⟨z,t,b⟩:=k y (Array.mem_toList_iff.mp m);simp[DictEntry.refKey,b]
 have p:¬d.toList.any (·.refKey)=Γ:=by rw[a];exact Ν
 rw[if_neg p];exact congrArg Φ e
def ObjM.look(I:ObjM h x b C c):∃a,PySem.W.InstAt h x (instObj C b) C (Φ a)/\∀name,lookIn name a=Φ (c name):=
 let ⟨a,d,e⟩:=zlb I.ns
 ⟨a,⟨I.obj,rfl,rfl,d⟩,e⟩
section
variable{prog:Υ}{w:ϋ}{A:ϐ}{E:Ξ->Β->Prop}{s:Β}{K:Frag}{x dx C f:Addr}{mA:Str->Option Ξ}{name:Str}{v:Ξ}
def zqY(X:K.In s.heap)(I:ObjM s.heap x dx C mA)(c:plainGet K C name=Γ)(d:hasDictIn K C=Γ)(e:findIn K (.ref C) name=Φ Ψ)(g:mA name=Φ v)(a:handedIn v=Γ)(h:Q v {s with toks:=s.toks+1}):
  wpAny (model prog w) A (getAttr (.ref x) name b) Q E s:=by
 let⟨j,J,i⟩:=I.look;exact PySem.W.get_value X J (plainGet_of c).1 (PySem.W.findObj_own d e rfl (by rw[i,g])) a h
def znN(X:K.In s.heap)(I:ObjM s.heap x dx C mA)(a:plainGet K C name=Γ)(b:findIn K (.ref C) name=Φ (Φ (.ref f)))(c:isFn K (.ref f)=Γ)(d:mA name=Ψ)(h:Q (.ref f,[.ref x]) s):
  wpAny (model prog w) A (getMethod (.ref x) name i) Q E s:=by
 let⟨e,J,g⟩:=I.look;exact PySem.W.method_fn X J (plainGet_of a).1 (plainGet_of a).2 b (beq_iff_eq.mp c) (by show(lookIn name e).map (·.isSome)=Φ Δ;rw[g,d];rfl) h
def zpw(X:K.In s.heap)(I:ObjM s.heap x dx C mA)(hs:findIn K (.ref C) "__setattr__"=Φ (Φ (.builtin "object.__setattr__")))(k:plainOver K C=Γ)(l:takerIn K C name=Φ Ψ)(m:hasDictIn K C=Γ)(n:PySem.Within mA ns)(hsz:ns.length<=sizeLine)(h:∀h',ObjM h' x dx C (λy=>if y=name then Φ v else mA y)->Heap.SameBut dx s.heap h'->Q () {s with heap:=h',toks:=s.toks+2}):
  wpAny (model prog w) A (setAttr (.ref x) name v) Q E s:=by
 let⟨u,J,z⟩:=I.look;refine PySem.W.set_plain X J hs (PySem.W.osa_open X J k l λb=>?_);let⟨B,o,e⟩:=PySem.W.any_some m;have p:=I.obj;refine Θ (Ω (Θ (Θ (wpAny_loadPart p (Θ (Looks.here (PySem.W.looks_clsIn X o) ?_))))));rw[e];refine Ω (Θ (Ω (Θ ?_)));refine wpAny_nsSet1 I.ns λh' c d=>?_;let⟨oD,q,t,g,i,j⟩:=c.count (PySem.Within.cons name v n);refine Θ (wpAny_lookBehind g (by rw[i];exact pastItsLine_dict (le_trans j (by rw[Ρ];lia))) ?_);exact Ω (h _ ⟨(d.2 _ (Ne.symm I.ne)).trans I.obj,c,I.ne⟩ d)
def znt(X:K.In s.heap)(b:makesIn K C=Γ)(c:findIn K (.ref C) "__init__"=Φ (Φ (.ref f)))(e:PySem.W.typeIn K (.ref f)=Φ (.type "function"))(h:codeAny (model prog w) (A.under (.builtin "type.__call__" ⟨.ref C::vs,a⟩)) (.call (.ref f) ⟨.ref (s.heap.objs.size+1)::vs,a⟩) (PySem.W.InitBack (s.heap.objs.size+1) R)
   {s with heap:=(s.heap.push emptyDict).push (instObj C s.heap.objs.size)}):
  codeAny (model prog w) A (.call (.ref C) ⟨vs,a⟩) R s:=by
 exact PySem.W.make_core (PySem.W.makes_of X b) (PySem.W.looks_findIn X c) (λself=>PySem.W.bind_fn X self e) (.inl rfl) h
end
abbrev putF(f:Str)(v:V):List (Str×V)->List (Str×V)
 | []=>[(f,v)]|(g,x)::r=>if g=f then(g,v)::r else(g,x)::putF f v r
def zd8(f g)(v):∀c:List (Str×V),(putF f v c).lookup g=if g=f then Φ v else c.lookup g
 | []=>by show List.lookup g [(f,v)]=_;by_cases h:g=f;have a:=beq_iff_eq.mpr h;simp![List.lookup,a,if_pos h];have a:=beq_eq_false_iff_ne.mpr h;simp![List.lookup,a,if_neg h]| (k,x)::r=>by have d:=zd8 f g v r;rw[show putF f v ((k,x)::r)=(if k=f then(k,v)::r else(k,x)::putF f v r) from rfl];by_cases b:k=f;rw[if_pos b];by_cases h:g=k;have a:=beq_iff_eq.mpr h;simp![List.lookup,a,if_pos (h.trans b)];have a:=beq_eq_false_iff_ne.mpr h;simp![List.lookup,a,if_neg (λe:g=f=>h (e.trans b.symm))];rw[if_neg b];by_cases h:g=k;have a:=beq_iff_eq.mpr h;simp![List.lookup,a,if_neg (λe:g=f=>b (h.symm.trans e))];have a:=beq_eq_false_iff_ne.mpr h;simp![List.lookup,a];exact d
def zeb(f)(v):∀a:List (Str×V),f∈(putF f v a).map (·.1)/\∀g,g∈a.map (·.1)->g∈(putF f v a).map (·.1)
 | []=>⟨by simp[putF],λg h=>by simp at h⟩| (k,x)::r=>by let⟨c,d⟩:=zeb f v r;rw[show putF f v ((k,x)::r)=(if k=f then(k,v)::r else(k,x)::putF f v r) from rfl];by_cases b:k=f;subst b;exact⟨by simp,λg h=>by simpa using h⟩;rw[if_neg b];refine⟨?_,λg h=>?_⟩;exact Κ _ c;rcases mem_cons.mp h with e|e;exact mem_cons.mpr (.inl e);exact Κ _ (d g e)
def zd9(f)(v):∀a:List (Str×V),(putF f v a).length<=a.length+1
 | []=>by simp[putF]| (k,x)::r=>by have c:=zd9 f v r;rw[show putF f v ((k,x)::r)=(if k=f then(k,v)::r else(k,x)::putF f v r) from rfl];by_cases b:k=f;rw[if_pos b,Ρ,Ρ];lia;rw[if_neg b,Ρ,Ρ];lia
def RelO.some_of(r:RelO (Φ v) o):∃u,o=Φ u/\RelV v u:=by cases o with|none=>exact(show False from r).elim|some u=>exact⟨u,rfl,r⟩
def RelO.none_of(r:RelO Ψ o):o=Ψ:=by cases o with|none=>rfl|some u=>exact(show False from r).elim
def zlQ(r:RelV v u):handedIn u=Γ:=by cases v with|non=>cases(show u=Ξ.none from r);rfl|bl b=>cases(show u=Ξ.bool b from r);rfl|int i=>let⟨t,e⟩:=(show ∃t,u=Ξ.int i t from r);cases e;rfl|str x=>let⟨t,e⟩:=(show ∃t,u=Ξ.str x t from r);cases e;rfl|byt b=>let⟨t,e⟩:=(show ∃t,u=Ξ.bytes b t from r);cases e;rfl|flt b=>let⟨t,e⟩:=(show ∃t,u=Ξ.float b t from r);cases e;rfl|ref a=>cases(show u=Ξ.ref a from r);rfl|ty n=>cases(show u=Ξ.type n from r);rfl
section
variable{P:Υ}{w:ϋ}{H H':Hp}{h h':Heap}{a C dx:Addr}{fs fs':List (Str×V)}
def zfN(hok:HOk P w H h)(e:H a=Φ (.ins C dx fs)):∃b,ObjM h a dx C b/\(∀f,RelO (fs.lookup f) (b f))/\PySem.Within b (fs.map (·.1))/\fs.length<=1000/\H dx=Φ (.own a):=by let⟨d,z,c,g,b,n,r,q⟩:=(show ObjOk P w H h a (.ins C dx fs) from hok a _ e);exact⟨b,⟨g,n,c⟩,r,q,z,d⟩
end
structure Cls(K:Frag)(C:Addr):Prop where
 pg:plainGet K C Str.empty=Γ
 hd:hasDictIn K C=Γ
 po:plainOver K C=Γ
 sa:findIn K (.ref C) "__setattr__"=Φ (Φ (.builtin "object.__setattr__"))
def Cls.get{K}(c:Cls K C)(f):plainGet K C f=Γ:=c.pg
abbrev NoAttr(K:Frag)(C:Addr)(f:Str):Prop:=findIn K (.ref C) f=Φ Ψ
def NoAttr.taker{K}(n:NoAttr K C f):takerIn K C f=Φ Ψ:=by unfold takerIn;rw[show findIn K (.ref C) f=Φ Ψ from n];rfl
structure Con(K:Frag)(C:Addr)(f:Str)(v:V)(u:Ξ):Prop where
 at_:findIn K (.ref C) f=Φ (Φ u)
 rel:RelV v u
 get:specialIn K u "__get__"=Φ Ψ
 cp:PySem.W.copiedNames.contains f=Δ
structure Meth(K:Frag)(C:Addr)(m:Str)(f:Addr):Prop where
 at_:findIn K (.ref C) m=Φ (Φ (.ref f))
 fn:isFn K (.ref f)=Γ
 kp:keepIn K (.ref f)=Γ
section
variable{X:Cx}{pins:List (Addr×Obj)}{σ:St}{H:Hp}{s:Β}{a C dx:Addr}{fs:List (Str×V)}{f:Str}{v:V}{A:ϐ}{E:Ξ->Β->Prop}
def zjB(I:Inv X pins σ H s)(e:H a=Φ (.ins C dx fs))(c:Cls X.K C)(n:NoAttr X.K C f)(l:fs.lookup f=Φ v)(h:∀u s',Inv X pins σ H s'->RelV v u->Q u s'):wpAny (model X.prog X.w) A (getAttr (.ref a) f b) Q E s:=by
 let⟨g,O,r,_,_,_⟩:=zfN I.hok e;let⟨u,i,d⟩:=RelO.some_of (v:=v) (o:=g f) (by rw[<-l];exact r f);exact zqY I.kIn O (c.get f) c.hd n i (zlQ d) (h u _ (I.tok _) d)
def zeT(I:Inv X pins σ H s)(e:H a=Φ (.ins C dx fs))(c:Cls X.K C)(k:Meth X.K C m g)(l:fs.lookup m=Ψ)(h:Q (.ref g,[.ref a]) s):wpAny (model X.prog X.w) A (getMethod (.ref a) m i) Q E s:=by
 let⟨b,O,r,_,_,_⟩:=zfN I.hok e;have d:b m=Ψ:=RelO.none_of (by rw[<-l];exact r m);exact znN I.kIn O (c.get m) k.at_ k.fn d h
def zjb(I:Inv X pins σ H s)(e:H a=Φ (.ins C dx fs))(c:Cls X.K C)(n:NoAttr X.K C f)(L:fs.length<1000)(l:RelV y u)(h:∀s',Inv X pins σ (upd H a (.ins C dx (putF f y fs))) s'->Q () s'):wpAny (model X.prog X.w) A (setAttr (.ref a) f u) Q E s:=by
 let⟨i,O,r,j,_,k⟩:=zfN I.hok e;have m:(fs.map (·.1)).length<=sizeLine:=by rw[length_map,Χ];lia
 refine zpw I.kIn O c.sa c.po n.taker c.hd j m λp d t=>h _ ?_;have w:∃o,p.get? dx=Φ o:=let ⟨o,_,_,B,_⟩:=d.ns;⟨o,B⟩;refine I.write (x:=a) (e:=dx) (by rw[e];exact True.intro) (.inr k) (λb q G z=>(t.2 b G).trans z) w ?_;refine⟨by rw[zad O.ne];exact k,?_,O.ne,d.obj,_,d.ns,λg=>?_,λg J=>?_⟩
 have:=zd9 f y fs;lia;show RelO ((putF f y fs).lookup g) (if g=f then Φ u else i g);rw[zd8];by_cases q:g=f;rw[if_pos q,if_pos q];exact l;rw[if_neg q,if_neg q];exact r g;by_cases q:g=f;rw[q];exact(zeb f y fs).1;refine(zeb f y fs).2 g (j g λz=>J ?_);show(if g=f then Φ u else i g)=Ψ;rw[if_neg q];exact z
def Inv.made(I:Inv X pins σ H s):Inv X pins σ (upd (upd H s.heap.objs.size (.own (s.heap.objs.size+1))) (s.heap.objs.size+1) (.ins C s.heap.objs.size []))
  {s with heap:=(s.heap.push emptyDict).push (instObj C s.heap.objs.size)}:=by
 have c:(s.heap.push emptyDict).get? s.heap.objs.size=Φ emptyDict:=Ζ s.heap rfl;have g:((s.heap.push emptyDict).push (instObj C s.heap.objs.size)).get? (s.heap.objs.size+1)=Φ (instObj C s.heap.objs.size):=by
  have:=Ζ (s.heap.push emptyDict) (o:=instObj C s.heap.objs.size) rfl
  rwa [ώ]at this
 have e3:(s.heap.push emptyDict).Ns s.heap.objs.size (λ_=>Ψ):=⟨emptyDict,#[],_,c,rfl,(λe h=>absurd h (by simp)),λ_=>rfl⟩;have i:=I.laid (a:=s.heap.objs.size) (o:=.own (s.heap.objs.size+1)) (h':=s.heap.push emptyDict) (t':=s.toks) (λb u q=>Λ _ q) (le_refl _) ⟨_,c⟩;refine i.laid (a:=s.heap.objs.size+1) (o:=.ins C s.heap.objs.size []) (t':=s.toks) (λb u q=>Λ _ q) (le_of_eq (ώ _ _)) ?_;have d:s.heap.objs.size≠s.heap.objs.size+1:=ne_of_lt (ϕ _);refine⟨by rw[zad d,zag],zero_le _,d,g,λ_=>Ψ,(Heap.Ns1.of_empty e3).at λo q=>Λ _ q,λ_=>True.intro,λy j=>absurd rfl j⟩
def zrn(c:attributeBase e f env (eval e env)=eval e env)(h:wpAny (model prog w) A (eval e env) (λo b=>wpAny (model prog w) A (getAttr o f Γ) Q E b) E s):wpAny (model prog w) A (eval (.Attribute e f pos) env) Q E s:=
 Attribute_any_ h (by rw[arm_eval_Attribute,c])
end
abbrev tFld(K:Frag)(d:TE)(f:Str):TE:=λe H Q=>d e H λx b=>∃a C g c v,x=.ref a/\b a=Φ (.ins C g c)/\Cls K C/\NoAttr K C f/\c.lookup f=Φ v/\Q v b
abbrev sFld(K:Frag)(g h:TE)(f:Str):TS:=λD b H=>h b H λy i=>g b i λx d=>∃a C e c,x=.ref a/\d a=Φ (.ins C e c)/\Cls K C/\NoAttr K C f/\c.length<1000/\
 D.nx b (upd d a (.ins C e (putF f y c)))
section
variable{X:Cx}{o e value:Expr}{f:Str}{pos pos' tpos:Pos}{ta tv:TE}
def zsN(d:PE X e ta)(g:attributeBase e f X.env (eval e X.env)=eval e X.env):PE X (.Attribute e f pos) (tFld X.K ta f):=by intro b s i H Q I h;refine zrn g (thn (d b s i H _ I h) λu y z=>?_);let⟨x,j,k,m,a,C,A,B,v,p,r,c,n,l,q⟩:=z;subst p;obtain rfl:u=Ξ.ref a:=m;exact zjB k r c n l λE G t w=>⟨v,j,t,w,q⟩
def zsE(g:PE X o ta)(i:PE X value tv)(hs:swapsWith value (Φ (.Attribute o f pos')) pos.line X.env=pure Δ):PS X (.Assign [.Attribute o f pos'] value pos) (sFld X.K ta tv f):=by intro b s d H D I h;refine plainObj_wpAny_Assign_Attribute (thn (i b s d H _ I h) λu j z=>eY z λy k m p q=>thn (g b j d k _ m q) λr G z=>?_) hs;let⟨x,J,t,v,a,C,L,M,w,A,c,n,l,B⟩:=z;subst w;obtain rfl:r=Ξ.ref a:=v;exact zjb t A c n l p λN E=>⟨d,_,E,B⟩
end
section
variable{X:Cx}{pins:List (Addr×Obj)}{σ:St}{H:Hp}{s:Β}{A:ϐ}{E:Ξ->Β->Prop}{Q:Ξ->Β->Prop}{c:Ξ}{b:Bool}
inductive TyOf(K:Frag)(H:Hp):V->Ξ->Prop where
 |non:TyOf K H .non (.type "NoneType")
 |bl (x:Bool):TyOf K H (.bl x) (.type "bool")
 |int (i:Int):TyOf K H (.int i) (.type "int")
 |str (x:Str):TyOf K H (.str x) (.type "str")
 |flt (x:UInt64):TyOf K H (.flt x) (.type "float")
 |lst {a:Addr} {xs:List V} (e:H a=Φ (.lst xs)):TyOf K H (.ref a) (.type "list")
 |frz {a:Addr} {o:Obj} {xs:List V} (e:H a=Φ (.frz o (.lst xs))):TyOf K H (.ref a) (.type "list")
 |tup {a:Addr} {xs:List V} (e:H a=Φ (.tup xs)):TyOf K H (.ref a) (.type "tuple")
 |dK {a:Addr} {kvs:List (Key×V)} (e:H a=Φ (.dK kvs)):TyOf K H (.ref a) (.type "dict")
 |dT {a:Addr} {kvs:List (List Key×V)} (e:H a=Φ (.dT kvs)):TyOf K H (.ref a) (.type "dict")
 |ins {a C dx:Addr} {fs:List (Str×V)} (e:H a=Φ (.ins C dx fs)) (cl:Cls K C) (ha:findIn K (.ref C) "__class__"=Φ (Φ (.builtin "object.__class__")))
  (hn:specialIn K (.builtin "object.__class__") "__get__"=Φ (Φ (.builtin "getset_descriptor.__get__"))) (htk:takesIn K (.builtin "object.__class__")=Φ Γ)
  (hm:mroIn K C (.type "object")=Φ Γ):TyOf K H (.ref a) (.ref C)
def zlx(I:Inv X pins σ H s)(rx:RelV x u)(ty:TyOf X.K H x t)(e:kitOne X.K t c=Φ b)(h:∀tk,Q (.bool b) {s with toks:=tk}):
  wpAny (model X.prog X.w) A (call (.builtin "isinstance") [u,c]) Q E s:=by
 cases ty with|non=>cases(show u=Ξ.none from rx);exact kia_one PySem.W.kitx_none I.kIn True.intro e (λz=>by cases z) h|bl y=>cases(show u=Ξ.bool y from rx);exact kia_one PySem.W.kitx_bool I.kIn True.intro e (λz=>by cases z) h|int i=>let⟨t,q⟩:=(show ∃t,u=Ξ.int i t from rx);cases q;exact kia_one PySem.W.kitx_int I.kIn True.intro e (λz=>by cases z) h|str y=>let⟨t,q⟩:=(show ∃t,u=Ξ.str y t from rx);cases q;exact kia_one PySem.W.kitx_str I.kIn True.intro e (λz=>by cases z) h|flt y=>let⟨t,q⟩:=(show ∃t,u=Ξ.float y t from rx);cases q;exact kia_one PySem.W.kitx_float I.kIn True.intro e (λz=>by cases z) h| @lst a xs ea=>cases(show u=Ξ.ref a from rx);let⟨_,_,n,_,h1⟩:=(show ObjOk X.prog X.w H s.heap a (.lst xs) from I.hok a _ ea);exact kia_one kitx_list I.kIn ⟨_,h1,rfl⟩ e (λz=>by cases z) h| @frz a ob xs ea=>cases(show u=Ξ.ref a from rx);let⟨_,_,_,n,_,h1⟩:=(show ObjOk X.prog X.w H s.heap a (.frz ob (.lst xs)) from I.hok a _ ea);exact kia_one kitx_list I.kIn ⟨_,h1,rfl⟩ e (λz=>by cases z) h| @tup a xs ea=>cases(show u=Ξ.ref a from rx);let⟨_,_,_,p⟩:=(show ObjOk X.prog X.w H s.heap a (.tup xs) from I.hok a _ ea);let⟨o,h1,h2,_⟩:=p;exact kia_one PySem.W.kitx_tuple I.kIn ⟨o,h1,h2⟩ e (λz=>by cases z) h| @dK a kvs ea=>cases(show u=Ξ.ref a from rx);let⟨_,_,vs,_,p⟩:=(show ObjOk X.prog X.w H s.heap a (.dK kvs) from I.hok a _ ea);let⟨o,es,ep,h1,h2,_⟩:=p;exact kia_one kitx_dict I.kIn ⟨o,h1,h2.1⟩ e (λz=>by cases z) h| @dT a kvs ea=>cases(show u=Ξ.ref a from rx);let⟨_,_,xs,_,o,es,ep,h1,h2,_⟩:=(show ObjOk X.prog X.w H s.heap a (.dT kvs) from I.hok a _ ea);exact kia_one kitx_dict I.kIn ⟨o,h1,h2.1⟩ e (λz=>by cases z) h| @ins a C dx fs ea cl ha hn htk hm=>cases(show u=Ξ.ref a from rx);let⟨mA,O,_⟩:=zfN I.hok ea;let⟨od,J,_⟩:=O.look;exact kia_one (PySem.W.kitx_own (cl.get _) cl.hd ha hn htk hm) I.kIn J e (λz=>by cases z) h
end
structure Room(k:Nat)(A:ϐ):Prop where
 hd:A.handled=Ψ
 dp:A.depth+3*k+5<recursionLimit
 un:A.units+16*k+200<cLine
def Room.mono(r:Room k A)(h:j<=k):Room j A:=⟨r.hd,by have:=r.dp;lia,by have:=r.un;lia⟩
def Room.deeper(r:Room (k+1) A)(env):Room k (A.deeper env):=⟨r.hd,by have:=r.dp;show A.depth+1+3*k+5<_;lia,by have:=r.un;show A.units+3+16*k+200<_;lia⟩
def Room.in1(r:Room (k+1) A):Room k A.in1:=⟨r.hd,by have:=r.dp;show A.depth+3*k+5<_;lia,by have:=r.un;show A.units+1+16*k+200<_;lia⟩
def zjw{A:ϐ}:(A.under (.builtin "type.__call__" ⟨.ref C::us,a⟩)).depth=A.depth+1:=by first|rfl|simp[ϐ.under,Code.weight,Code.isCreation,Code.isGuard,Code.isCaller,Code.frames,Code.isFrame,guardIds]
def zjv{A:ϐ}:(A.under (.builtin "type.__call__" ⟨.ref C::us,a⟩)).units=A.units+1:=by first|rfl|simp[ϐ.under,Code.cUnits,Code.frames,Code.isFrame]
def Room.make(r:Room (k+1) A)(C)(us)(a):Room k (A.under (.builtin "type.__call__" ⟨.ref C::us,a⟩)):=⟨r.hd,by have:=r.dp;rw[zjw];lia,by have:=r.un;rw[zjv];lia⟩
def Room.depth(r:Room k A):A.depth<recursionLimit:=by have:=r.dp;lia
abbrev tNil:TA:=λ_ H Q=>Q [] H
abbrev zew(b:TE)(c:TA):TA:=λa H Q=>b a H λx d=>c a d λe f=>Q (x::e) f
section
variable{X:Cx}{e:Expr}{es:List Expr}{te:TE}{t:TA}{pos:Pos}
def zeM:PA X [] tNil:=λ_ _ _ _ H Q I h=>Calls.spliced_nil ⟨[],H,I,.nil,h⟩
def zbz(c:PE X e te)(d:PA X es t)(hs:starEach (e::es) X.env=(Δ,eval e X.env)::starEach es X.env:=by rfl):PA X (e::es) (zew te t):=by intro pos a s b H Q I h;rw[hs];refine Calls.spliced_cons (thn (c a s b H _ I h) λu f z=>?_);let⟨x,g,i,j,l⟩:=z;exact thn (d pos a f b g _ i l) λr v k=>(by let⟨m,n,o,p,q⟩:=k;exact ⟨x::m,n,o,.cons j p,q⟩)
abbrev tTup(t:TA):TE:=λc H Q=>t c H λa b=>a.length<=sizeLine/\∀p,b p=Ψ->Q (.ref p) (upd b p (.tup a))
abbrev tLst(t:TA):TE:=λc H Q=>t c H λa b=>a.length<=sizeLine/\∀p,b p=Ψ->Q (.ref p) (upd b p (.lst a))
def zoy(h:PA X es t):PE X (.Tuple es m pos) (tTup t):=by intro a s g H Q I i;refine wpAny_Tuple_spliced (thn (h pos a s g H _ I i) λj c ⟨k,d,f,r,z,q⟩=>⟨by rw[<-r.length];exact z,?_⟩);have l:=f.hok.fresh (le_refl _);refine⟨.ref c.heap.objs.size,upd d c.heap.objs.size (.tup k),f.laid (λb u e=>Λ _ e) (le_refl _) ?_,rfl,q _ l⟩;exact⟨z,j,r,⟨_,Ζ _ rfl,rfl,_,rfl⟩⟩
def zsK(h:PA X es t):PE X (.List es pos) (tLst t):=by intro a s g H Q I i;refine wpAny_List_spliced (thn (h pos a s g H _ I i) λj c ⟨k,d,f,r,z,q⟩=>⟨by rw[<-r.length];exact z,?_⟩);have l:=f.hok.fresh (le_refl _);refine⟨.ref c.heap.objs.size,upd d c.heap.objs.size (.lst k),f.laid (λb u e=>Λ _ e) (le_refl _) ?_,rfl,q _ l⟩;exact⟨z,j,0,r,Ζ _ rfl⟩
end
@[reducible]def Sp:=List V->Hp->VK->XK->Prop
@[reducible]def CXT:=List Env->Hp->Β->XK->Ξ->Β->Prop
structure Env0(P:Υ)(w:ϋ)(K:Frag)(mg:Str->Option Ξ)(base:Heap)(A:ϐ)(outer:List Env)(s:Β)(H:Hp):Prop where
 frames:A.frames=Φ outer
 mod:Mod K mg base
 bs:∀b o,base.get? b=Φ o->s.heap.get? b=Φ o/\H b=Ψ
 bsz:base.objs.size<=s.heap.objs.size
 funs:s.heap.FunFrames base outer
 frf:∀b∈frs outer,H b=Ψ
 hok:HOk P w H s.heap
 bare:AllBare s.gens
abbrev CE(outer:List Env)(P:Υ)(w:ϋ)(H:Hp)(s:Β)(Q:VK)(u:Ξ)(s':Β):Prop:=∃v a,s'.os=s.os/\AllBare s'.gens/\Un (frs outer) [] H a s.heap s'.heap/\HOk P w a s'.heap/\RelV v u/\Q v a
abbrev CR(CX:CXT)(outer:List Env)(P:Υ)(w:ϋ)(H:Hp)(s:Β)(Q:VK)(E:XK)(r:Result)(s':Β):Prop:=match r with|.ok (.ret u)=>CE outer P w H s Q u s'|.ok _=>False|.error e=>CX outer H s E e s'
structure FnOk(P:Υ)(w:ϋ)(K:Frag)(mg:Str->Option Ξ)(base:Heap)(CX:CXT)(k:Nat)(f:Addr)(fd:FuncData)(ps:List Str)(sp:Sp):Prop where
 len:∀vs H Q E,sp vs H Q E->vs.length=ps.length
 run:∀(A:ϐ)(outer:List Env)(s:Β)(H:Hp)(args:Args)(us:List Ξ)(vs:List V)(Q:VK)(E:XK),Room k A->Env0 P w K mg base A outer s H->BindsTo s fd args (ps.zip us)->Vals vs us->sp vs H Q E->
  codeAny (model P w) A (.call (.ref f) args) (CR CX outer P w H s Q E) s
def FnOk.mono{K}(F:FnOk P w K b base CX j f fd ps sp)(h:j<=k):
 FnOk P w K b base CX k f fd ps sp:=⟨F.len,λA a s H args c d Q E e=>F.run A a s H args c d Q E (e.mono h)⟩
def Env0.make{K}(e:Env0 P w K a base A outer s H)(C)(us)(b):
 Env0 P w K a base (A.under (.builtin "type.__call__" ⟨.ref C::us,b⟩)) outer s H:=⟨by first|exact e.frames|(simpa[ϐ.under,Code.envs,Code.isFrame,pushEnvs]using e.frames),e.mod,e.bs,e.bsz,e.funs,e.frf,e.hok,e.bare⟩
def Env0.in1{K}(e:Env0 P w K a base A outer s H):
 Env0 P w K a base A.in1 outer s H:=⟨e.frames,e.mod,e.bs,e.bsz,e.funs,e.frf,e.hok,e.bare⟩
section
variable{X:Cx}{pins:List (Addr×Obj)}{σ:St}{H:Hp}{s s':Β}
def Inv.env0(I:Inv X pins σ H s):Env0 X.prog X.w X.K X.mg X.base X.A X.stack s H:=⟨I.ok.frames,I.ok.mod,I.bs,le_trans I.ok.bsz I.sz,I.stack,I.stkFree,I.hok,I.bare⟩
def Inv.after(I:Inv X pins σ H s)(h:CE X.stack X.prog X.w H s Q u s'):EP X pins σ Q u s':=by let⟨v,f,os,a,i,c,r,q⟩:=h;let⟨j,g,d,t,e⟩:=s';obtain rfl:e=s.os:=os;exact⟨v,f,I.call (h':=j) (g':=g) (d':=d) (t':=t) (ch:=[]) i c a (λb z=>absurd z (by simp)),r,q⟩
end
abbrev zff(sp:Sp)(a:List V)(E:XK)(t:TA):TE:=λb H Q=>t b H λc d=>sp (c++a) d Q E
abbrev zph(C:Addr)(sp:Sp)(b:List V)(E:XK)(t:TA):TE:=λd H Q=>t d H λe c=>∀x a,c x=Ψ->c a=Ψ->a≠x->
 sp (.ref x::(e++b)) (upd (upd c a (.own x)) x (.ins C a [])) (λv f=>v=.non/\Q (.ref x) f) E
abbrev Binds(K:Frag)(fd:FuncData)(ps:List Str)(ds:List Ξ):Prop:=∀(s:Β)(a:List Ξ),K.In s.heap->(a++ds).length=ps.length->BindsTo s fd ⟨a,[]⟩ (ps.zip (a++ds))
def Binds.all{K}(h:∀us:List Ξ,us.length=ps.length->bindArgs fd ⟨us,[]⟩=pure (ps.zip us)):Binds K fd ps []:=λs us _ a=>by rw[ϡ]at a⊢;exact .of_eq (h us a)
abbrev zev(CX:CXT)(X:Cx)(E:XK):Prop:=∀(a:List (Addr×Obj))(c:St)(H:Hp)(s:Β)(e:Ξ)(b:Β),Inv X a c H s->CX X.stack H s E e b->X.xe e b
section
variable{X:Cx}{CX:CXT}{k:Nat}{f C:Addr}{fd:FuncData}{ps:List Str}{sp:Sp}{dvs:List V}{ds:List Ξ}{E:XK}{x m:Str}{p pos apos:Pos}{e o:Expr}{es:List Expr}{ta:TE}{t:TA}
def zge(F:FnOk X.prog X.w X.K X.mg X.base CX k f fd ps sp)(g:Room k X.A)(i:Binds X.K fd ps ds)(hd:Vals dvs ds)(j:zev CX X E)(I:Inv X a c H s)(r:Vals vs us)(h:sp (vs++dvs) H Q E):wpAny (model X.prog X.w) X.A (call (.ref f) us) (EP X a c Q) X.xe s:=by
 have d:=r.append hd;have l:(us++ds).length=ps.length:=by rw[<-d.length];exact F.len _ _ _ _ h
 refine wpAny_call (Ϛ (F.run X.A X.stack s H ⟨us,[]⟩ (us++ds) (vs++dvs) Q E g I.env0 (i s us I.kIn l) d h) λr n b=>?_);cases r with|error e=>exact j a c H s e n I b| ok q=>cases q with|ret u=>exact I.after b|next=>exact False.elim b|brk=>exact False.elim b|cont=>exact False.elim b
def zqo(F:FnOk X.prog X.w X.K X.mg X.base CX k f fd ps sp)(g:Room k X.A)(i:Gl X x)(j:X.mg x=Φ (.ref f))(l:keepIn X.K (.ref f)=Γ)(n:Binds X.K fd ps ds)(hd:Vals dvs ds)(u:zev CX X E)
  (v:PA X (e::es) t) (b:(x==("__debug__":Str))=Δ:=by decide) (w:starEach (e::es) X.env=(Δ,eval e X.env)::starEach es X.env:=by rfl) (c:(backTo pos (starEach es X.env)).any (·.1)=Δ:=by rfl) :
  PE X (.Call (.Name x p) (e::es) [] pos) (zff sp dvs E t):=by
 intro a s y H Q I h;refine ϖ (zea I i j ?_ b);refine callWith_K (h₀:=X.base) I.ok.mod.kin l (thn (v pos a s y H _ I h) λz A k=>eY k λB G d r q=>⟨d.kIn,?_⟩) w c;exact zge F g n hd u d r q
def znp(F:FnOk X.prog X.w X.K X.mg X.base CX k f fd ps sp)(c:Room k X.A)(d:Gl X x)(g:X.mg x=Φ (.ref f))(i:keepIn X.K (.ref f)=Γ)(j:Binds X.K fd ps ds)(hd:Vals dvs ds)(l:zev CX X E)
  (a:(x==("__debug__":Str))=Δ:=by decide):PE X (.Call (.Name x p) [] [] pos) (zff sp dvs E tNil):=by
 intro b s n H Q I h;refine ϖ (zea I d g ?_ a);exact callWith_K0 I.kIn i (zge (us:=[]) F c j hd l I .nil h)
structure Mk(K:Frag)(C f:Addr):Prop where
 makes:makesIn K C=Γ
 init:findIn K (.ref C) "__init__"=Φ (Φ (.ref f))
 fn:isFn K (.ref f)=Γ
 kp:keepIn K (.ref C)=Γ
def zih(M:Mk X.K C f)(F:FnOk X.prog X.w X.K X.mg X.base CX k f fd ps sp)(l:Room (k+1) X.A)(n:Binds X.K fd ps ds)(hd:Vals dvs ds)(q:zev CX X E)(I:Inv X b g H s)(r:Vals vs us)(h:∀x c,H x=Ψ->H c=Ψ->c≠x->sp (.ref x::(vs++dvs)) (upd (upd H c (.own x)) x (.ins C c [])) (λv w=>v=.non/\Q (.ref x) w) E):
  wpAny (model X.prog X.w) X.A (call (.ref C) us) (EP X b g Q) X.xe s:=by
 have i:=h (s.heap.objs.size+1) s.heap.objs.size (I.hok.fresh (le_succ _)) (I.hok.fresh (le_refl _)) (ne_of_lt (ϕ _));have d:=Inv.made (C:=C) I;have j:Vals (V.ref (s.heap.objs.size+1)::(vs++dvs)) (Ξ.ref (s.heap.objs.size+1)::(us++ds)):=.cons rfl (r.append hd);have y:(Ξ.ref (s.heap.objs.size+1)::us++ds).length=ps.length:=by have e:=j.length;rw[F.len _ _ _ _ i]at e;exact e.symm
 refine wpAny_call (znt (f:=f) I.kIn M.makes M.init (beq_iff_eq.mp M.fn) (Ϛ (F.run _ X.stack _ _ ⟨Ξ.ref (s.heap.objs.size+1)::us,[]⟩ (Ξ.ref (s.heap.objs.size+1)::(us++ds)) _ _ E (l.make C us [])
  (d.env0.make C us []) (n _ (Ξ.ref (s.heap.objs.size+1)::us) d.kIn y) j i) λr z a=>?_))
 cases r with|error e=>exact q b g _ _ e z d a| ok A=>cases A with| ret u=>let⟨v,B,G,J,L,N⟩:=d.after a;subst L;exact⟨J,⟨V.ref (s.heap.objs.size+1),B,G,rfl,N⟩⟩|next=>exact False.elim a|brk=>exact False.elim a|cont=>exact False.elim a
def zqm(M:Mk X.K C f)(F:FnOk X.prog X.w X.K X.mg X.base CX k f fd ps sp)(g:Room (k+1) X.A)(i:Gl X x)(j:X.mg x=Φ (.ref C))(l:Binds X.K fd ps ds)(hd:Vals dvs ds)(n:zev CX X E)
  (u:PA X (e::es) t) (b:(x==("__debug__":Str))=Δ:=by decide) (v:starEach (e::es) X.env=(Δ,eval e X.env)::starEach es X.env:=by rfl) (c:(backTo pos (starEach es X.env)).any (·.1)=Δ:=by rfl) :
  PE X (.Call (.Name x p) (e::es) [] pos) (zph C sp dvs E t):=by
 intro a s w H Q I h;refine ϖ (zea I i j ?_ b);refine callWith_K (h₀:=X.base) I.ok.mod.kin M.kp (thn (u pos a s w H _ I h) λy A z=>eY z λB G d r q=>⟨d.kIn,?_⟩) v c;exact zih M F g l hd n d r q
def zng(M:Mk X.K C f)(F:FnOk X.prog X.w X.K X.mg X.base CX k f fd ps sp)(c:Room (k+1) X.A)(d:Gl X x)(g:X.mg x=Φ (.ref C))(i:Binds X.K fd ps ds)(hd:Vals dvs ds)(j:zev CX X E)
  (a:(x==("__debug__":Str))=Δ:=by decide):PE X (.Call (.Name x p) [] [] pos) (zph C sp dvs E tNil):=by
 intro b s l H Q I h;refine ϖ (zea I d g ?_ a);exact callWith_K0 I.kIn M.kp (zih (us:=[]) M F c i hd j I .nil h)
end
abbrev PK(X:Cx)(b:List Keyword)(t:TA):Prop:=∀(pos:Pos)(a:List (Addr×Obj))(s:Β)(c:St)(H:Hp)(Q:List V->Hp->Prop),Inv X a c H s->t c H Q->wpAny (model X.prog X.w) X.A (evalAll ((backToKw pos (keywordEach b X.env)).map (·.2))) (AP X a c Q) X.xe s
section
variable{X:Cx}{CX:CXT}{k:Nat}{f C:Addr}{fd:FuncData}{ps ks:List Str}{sp:Sp}{E:XK}{x m:Str}{p pos apos kpos:Pos}{e o:Expr}{es:List Expr}{kws:List Keyword}{te ta:TE}{t tk:TA}{nm:Option Str}
def zox:PK X [] tNil:=λ_ _ _ _ H Q I h=>wpAny_evalAll_nil ⟨[],H,I,.nil,h⟩
def zkT(c:PE X e te)(d:PK X kws t):PK X (⟨nm,e,kpos⟩::kws) (zew te t):=by intro pos a s b H Q I h;show wpAny _ _ (evalAll ((do let v <-eval e X.env;standAt pos;pure v)::(backToKw pos (keywordEach kws X.env)).map (·.2))) _ _ s;refine wpAny_evalAll_cons (Θ (thn (c a s b H _ I h) λu g z=>eY z λx i j l n=>Θ (wpAny_standAt (Ω ?_))));exact thn (d pos a g b i _ j n) λB G z=>(by let⟨q,r,w,y,A⟩:=z;exact ⟨x::q,r,w,.cons l y,A⟩)
structure KBinds(K:Frag)(fd:FuncData)(ps ks:List Str)(g:List Ξ->List Ξ->List Ξ)(gV:List V->List V->List V):Prop where
 to:∀(s:Β)(us ws:List Ξ),K.In s.heap->(g us ws).length=ps.length->BindsTo s fd ⟨us,ks.zip ws⟩ (ps.zip (g us ws))
 rel:∀{vs:List V}{us:List Ξ}{zs:List V}{ws:List Ξ},Vals vs us->Vals zs ws->Vals (gV vs zs) (g us ws)
end
structure FnScope(N P:List Str)(sc:Scope):Prop where
 kind:sc.kind=.function
 co:sc.isCoroutine=Δ
 gen:sc.isGenerator=Δ
 nd:N.Nodup
 pre:N.take P.length=P
 par:∀x∈P,sc.names.lookup x=Φ .local\/sc.names.lookup x=Φ .cell
 nofree:∀y∈sc.names,y.2≠.free
def zha{kindOf}:∀{a:List (Str×Ξ)}{m:Str->Option Ξ},(∀v,(x,v)∉a)->bindL kindOf a m x=m x
 | [],_,_=>rfl| (n,v)::r,m,h=>by
  unfold bindL;rw[zha λw b=>h w (Κ _ b)];split;have:x≠n:=by rintro rfl;exact h v Μ
  simp[this];rfl
def zhc{kindOf}:∀{a:List (Str×Ξ)}{m:Str->Option Ξ},(∀v,(x,v)∉a)->bindC kindOf a m x=m x
 | [],_,_=>rfl| (n,v)::r,m,h=>by
  unfold bindC;rw[zhc λw b=>h w (Κ _ b)];split;rfl;have:x≠n:=by rintro rfl;exact h v Μ
  simp[this]
def zhb{kindOf}:∀{P:List Str}{vs:List Ξ}{i:Nat}{m:Str->Option Ξ},P.Nodup->P[i]?=Φ x->vs[i]?=Φ v->kindOf x=Φ .local->
  bindL kindOf (P.zip vs) m x=Φ v
 | [],_,_,_,_,h,_,_=>by simp at h|_::_,[],_,_,_,_,h,_=>by simp at h| p::P,w::vs,0,m,c,a,b,d=>by simp at a b;subst a;subst b;show bindL kindOf ((p,w)::P.zip vs) m p=_;unfold bindL;rw[zha λv e=>(nodup_cons.mp c).1 (of_mem_zip e).1,if_pos d];simp| p::P,w::vs,i+1,m,c,a,b,d=>by show bindL kindOf ((p,w)::P.zip vs) m x=_;unfold bindL;exact zhb (i:=i) (nodup_cons.mp c).2 (by simpa using a) (by simpa using b) d
def zhd{kindOf}:∀{P:List Str}{vs:List Ξ}{i:Nat}{m:Str->Option Ξ},P.Nodup->P[i]?=Φ x->vs[i]?=Φ v->kindOf x≠Φ .local->
  bindC kindOf (P.zip vs) m x=Φ v
 | [],_,_,_,_,h,_,_=>by simp at h|_::_,[],_,_,_,_,h,_=>by simp at h| p::P,w::vs,0,m,c,a,b,d=>by simp at a b;subst a;subst b;show bindC kindOf ((p,w)::P.zip vs) m p=_;unfold bindC;rw[zhc λv e=>(nodup_cons.mp c).1 (of_mem_zip e).1,if_neg d];simp| p::P,w::vs,i+1,m,c,a,b,d=>by show bindC kindOf ((p,w)::P.zip vs) m x=_;unfold bindC;exact zhd (i:=i) (nodup_cons.mp c).2 (by simpa using a) (by simpa using b) d
abbrev start(N:List Str)(vs:List V):St:=vs.map Φ++List.replicate (N.length-vs.length) Ψ
abbrev cxOf(CX:CXT)(P:Υ)(w:ϋ)(K:Frag)(mg:Str->Option Ξ)(base:Heap)(N:List Str)(a:Str)(scope:Scope)(f:Addr)(c:Ξ)(A:ϐ)(outer:List Env)(s:Β)(H:Hp)(E:XK):Cx where
 prog:=P
 w:=w
 K:=K
 mg:=mg
 base:=base
 A:=A.deeper (envOfC a scope s.heap.objs.size f c)
 N:=N
 s₀:=s
 H₀:=H
 env:=envOfC a scope s.heap.objs.size f c
 outer:=outer
 stack:=envOfC a scope s.heap.objs.size f c::outer
 ex:=[]
 calm:=Γ
 fn:=λ_=>Γ
 pn:=[]
 xe:=λe d=>wpAny (model P w) (A.deeper (envOfC a scope s.heap.objs.size f c)) (leaving (envOfC a scope s.heap.objs.size f c) e) (λ_ b=>CX outer H s E e b) (λg b=>CX outer H s E g b) d
def ziT{a:Scope}(h:a.names.lookup x=Φ .cell):∃c,(cellsFrom n a.names []).lookup x=Φ c:=by have q:=cellsFrom_some a.names n [] (.inl h);exact Option.isSome_iff_exists.mp q
def zec{K}(S:FnScope N ps scope)(hd:A.handled=Ψ)(j:Env0 P w K I base A outer s H)(U:vs.length=ps.length)(r:Vals vs us)(x:InCallC s s.heap.objs.size (bindL (envOfC g scope s.heap.objs.size f G).kindOf (ps.zip us) λ_=>Ψ) (cellsFrom (s.heap.objs.size+1) scope.names []) (bindC (envOfC g scope s.heap.objs.size f G).kindOf (ps.zip us) λ_=>Ψ) M):
  Inv (cxOf CX P w K I base N g scope f G A outer s H E) [] (start N vs) H M:=by
 have O:ps.length<=N.length:=by have:=congrArg List.length S.pre;rw[length_take]at this;lia
 let⟨B,Y,rfl,J⟩:=x.done;have l:∀b:Addr,b∉(cxOf CX P w K I base N g scope f G A outer s H E).ex:=λb z=>absurd (show b∈([]:List Addr) from z) (by simp);refine⟨⟨j.mod,S.kind,rfl,rfl,le_refl _,λy z c B d=>?_,λy m=>?_,λy c _ h=>?_,λ_=>hd,ϐ.frames_deeper j.frames,.inr ⟨rfl,rfl⟩,λb z=>absurd z (l b),j.bs,j.bsz,λb _ _=>l b,λb z=>absurd z (l b),j.funs,j.frf⟩,
  rfl,j.bare,Un.kept J,⟨_,x.toInCall.ns,λi y v B d h3=>?_⟩,λy c h=>⟨_,x.cell y c h⟩,j.hok.fresh (le_refl _),λy c h=>?_,λp o=>absurd (show p∈([]:List (Addr×Obj)) from o) (by simp),j.hok.kept J,?_⟩
 exact name_of_addr x.apart (ϑ B) (ϑ d);have m:scope.names.lookup y=Φ .cell\/scope.names.lookup y=Φ .free:=m;rcases m with m|m;exact ziT m;exact absurd rfl (S.nofree _ (ϑ m));exact le_of_lt (x.above y c (ϑ h));have C:i<vs.length:=by
  unfold start at d;by_cases C:i<vs.length;exact C
  . rw[getElem?_append_right (by simpa using C)]at d;rw[List.getElem?_replicate]at d;split at d<;>cases d
 have Q:vs[i]?=Φ v:=by
  unfold start at d;rw[getElem?_append_left (by simpa using C),getElem?_map]at d;cases e:vs[i]? with
  |none=>rw[e]at d;exact nS d
  |some a=>rw[e]at d;cases d;rfl
 let⟨u,L,T⟩:=r.get Q;have o:ps[i]?=Φ y:=by rw[<-S.pre,List.getElem?_take_of_lt (by lia)];exact B
 have t:ps.Nodup:=by rw[<-S.pre];exact S.nd.sublist (List.take_sublist _ _)
 refine⟨u,T,?_⟩;rcases S.par y (mem_of_getElem? o) with k|k;exact .inl ⟨k,zhb t o L k⟩;let⟨c,e⟩:=ziT (n:=s.heap.objs.size+1) k;refine .inr ⟨.inl k,c,e,?_⟩;have q:=x.cell y c e;rw[zhd t o L (by show scope.names.lookup y≠_;rw[k];decide)]at q;exact q;exact j.hok.fresh (le_of_lt (x.above y c (ϑ h)));unfold start;show _=N.length;rw[length_append,length_map,length_replicate];lia
def zq2{K}{O kV l T c ct oc}(lk:K.lookup f=Φ ⟨oc,od,.func (fnOf name a d body scope O kV l T an c ct),osl⟩)(z:codeIn K c a=Γ)(S:FnScope N ps scope)(len:∀vs H Q E,sp vs H Q E->vs.length=ps.length)(h:∀(A:ϐ)(outer:List Env)(s:Β)(H:Hp)(vs:List V)(Q:VK)(E:XK),Room k (A.deeper (envOfC a scope s.heap.objs.size f c))->sp vs H Q E->
   ∃t,PSs (cxOf CX P w K B base N a scope f c A outer s H E) body t/\t {nx:=λ_ H'=>Q .non H',rt:=Q} (start N vs) H):
  FnOk P w K B base CX (k+1) f (fnOf name a d body scope O kV l T an c ct) ps sp:=by
 refine⟨len,λA outer s H args us vs Q E C m hb r p=>?_⟩;have hl:=len _ _ _ _ p;have U:K.In s.heap:=m.mod.kin.keeps λb o e=>(m.bs b o e).1;have G:s.heap.NoLimit:=m.mod.nolimit.keeps λb o e=>(m.bs b o e).1;have i:∀y∈ps.zip us,scope.names.lookup y.1=Φ .local\/(scope.names.lookup y.1=Φ .cell/\((cellsFrom (s.heap.objs.size+1) scope.names []).lookup y.1).isSome=Γ):=λ⟨n,v⟩ hy=>by rcases S.par n (of_mem_zip hy).1 with q|q;exact .inl q;exact .inr ⟨q,cellsFrom_some _ _ _ (.inl q)⟩
 refine codeAny_call_function C.depth (U _ _ lk) rfl S.co S.gen rfl (PySem.W.codeRec_of U z) (hb _ _ _ _ ?_);refine wpAny_newFunctionEnv_cells S.kind i λenv he Y x=>?_;subst he;refine⟨G.keeps x.toInCall.keep,codeAny_func ?_⟩;let⟨t,ht,hq⟩:=h A outer s H vs Q E (C.deeper _) p;have I:Inv (cxOf CX P w K B base N a scope f c A outer s H E) [] (start N vs) H Y:=zec S C.hd m hl r x;refine ό (ht [] Y (start N vs) H _ I hq) (λfl L j=>?_) λe L j=>j;have fin:∀{g:St}{H':Hp}{v:V}{u:Ξ},Inv (cxOf CX P w K B base N a scope f c A outer s H E) [] g H' L->RelV v u->Q v H'->CE outer P w H s Q u L:=λ{g H' v u} J M q=>⟨v,H',J.os,J.bare,J.base,J.hok,M,q⟩;cases fl with| ret u=>let⟨v,g,H',J,M,q⟩:=j;exact fin J M q| next=>let⟨g,H',J,q⟩:=j;exact fin (v:=V.non) (u:=Ξ.none) J rfl q| brk=>let⟨_,_,_,q⟩:=j;exact False.elim q| cont=>let⟨_,_,_,q⟩:=j;exact False.elim q
section
variable{X:Cx}{x:Str}{p pos:Pos}{e:Expr}{es:List Expr}{t:TA}{id T:String}{r:List V->Hp->VK->Prop}
abbrev tCB(r:List V->Hp->VK->Prop)(t:TA):TE:=λa H Q=>t a H λb c=>r b c Q
def zcT(f:zbt X (.builtin id) r)(g:Gl X x)(i:X.mg x=Ψ)(j:bootBuiltins x=Φ (.builtin id))(k:PA X (e::es) t)(l:x≠"__name__":=by decide)(b:(x==("__debug__":Str))=Δ:=by decide)
  (m:starEach (e::es) X.env=(Δ,eval e X.env)::starEach es X.env:=by rfl) (c:(backTo pos (starEach es X.env)).any (·.1)=Δ:=by rfl):PE X (.Call (.Name x p) (e::es) [] pos) (tCB r t):=by
 intro a s d H Q I h;refine ϖ (zdm I g i j ?_ l b);exact PyProof.Rows.callWith_builtin1 (thn (k pos a s d H _ I h) λn o z=>(by let⟨q,u,v,w,y⟩:=z;exact f a o d u q n Q v w y)) m c
def zbF(f:zbt X (.type T) r)(g:Gl X x)(i:X.mg x=Ψ)(j:bootBuiltins x=Φ (.type T))(k:PA X (e::es) t)(l:x≠"__name__":=by decide)(b:(x==("__debug__":Str))=Δ:=by decide)
  (m:starEach (e::es) X.env=(Δ,eval e X.env)::starEach es X.env:=by rfl) (c:(backTo pos (starEach es X.env)).any (·.1)=Δ:=by rfl):PE X (.Call (.Name x p) (e::es) [] pos) (tCB r t):=by
 intro a s d H Q I h;refine ϖ (zdm I g i j ?_ l b);exact PyProof.Rows.callWith_type1 (thn (k pos a s d H _ I h) λn o z=>(by let⟨q,u,v,w,y⟩:=z;exact f a o d u q n Q v w y)) m c
end
section
variable{κ:Type}[DecidableEq κ]
abbrev valV(kvs:List (κ×V))(k:κ):Option V:=(kvs.find? λa=>decide (a.1=k)).map (·.2)
abbrev putK(kvs:List (κ×V))(k:κ)(v:V):List (κ×V):=if(kvs.any λa=>decide (a.1=k))=Γ then kvs.map (λa=>if a.1=k then(a.1,v) else a) else kvs++[(k,v)]
def zfa{k:κ}(e:p.1=k):valV (p::r) k=Φ p.2:=by simp[valV,List.find?_cons,e]
def zfb{k:κ}(e:¬p.1=k):valV (p::r) k=valV r k:=by simp[valV,e]
def zh8(k):∀kvs:List (κ×V),(kvs.any λa=>decide (a.1=k))=(valV kvs k).isSome
 | []=>rfl| p::r=>by rw[any_cons];by_cases e:p.1=k;simp![zfa e,decide_eq_true e,Bool.true_or,Option.isSome_some];rw[zfb e,decide_eq_false e];exact zh8 k r
def zcE(kvs)(k:κ)(v):(putK kvs k v).length<=kvs.length+1:=by unfold putK;split;rw[length_map];lia;rw[length_append,Ρ,Ϡ];lia
def RelO.isSome_eq(r:RelO o u):o.isSome=u.isSome:=by
 cases o with
 |none=>cases u with
  |none=>rfl|some _=>exact(show False from r).elim
 |some _=>cases u with|none=>exact(show False from r).elim|some _=>rfl
def RelO.getD(r:RelO o u)(a:RelV d d'):RelV (o.getD d) (u.getD d'):=by
 cases o with
 |none=>cases u with
  |none=>exact a|some _=>exact(show False from r).elim
 |some _=>cases u with|none=>exact(show False from r).elim|some _=>exact r
def KV.val(r:KV kvs vs)(k:κ):RelO (valV kvs k) (valueAt vs k):=by
 induction r with
 |nil=>exact True.intro| @cons p q i a h t f=>
  let⟨d,g⟩:=h;by_cases e:p.1=k;have c:=d.symm.trans e;have b:valueAt (q::a) k=Φ q.2:=by simp[valueAt,c]
  rw[zfa e,b];exact g;have c:¬q.1=k:=λz=>e (d.trans z);have b:valueAt (q::a) k=valueAt a k:=by simp[valueAt,c]
  rw[zfb e,b];exact f
def KV.any(r:KV kvs vs)(k:κ):(kvs.any λa=>decide (a.1=k))=vs.any λa=>decide (a.1=k):=by induction r with|nil=>rfl|cons h t b=>rw[any_cons,any_cons,b,h.1]
def KV.repl(r:KV kvs vs)(k:κ)(c:RelV y u):
  KV (kvs.map λa=>if a.1=k then(a.1,y) else a) (vs.map λa=>if a.1=k then(a.1,u) else a):=by
 induction r with|nil=>exact .nil| @cons p q g i h t d=>rw[Ο,Ο];refine .cons ?_ d;let⟨b,f⟩:=h;by_cases e:p.1=k;rw[if_pos e,if_pos (b.symm.trans e)];exact⟨b,c⟩;rw[if_neg e,if_neg (λz=>e (b.trans z))];exact⟨b,f⟩
def KV.put(r:KV kvs vs)(k:κ)(a:RelV y u):KV (putK kvs k y) (stored vs k u):=by unfold putK stored;rw[r.any k];by_cases e:(vs.any λb=>decide (b.1=k))=Γ;rw[if_pos e,if_pos e];exact r.repl k a;rw[if_neg e,if_neg e];exact Paired.snoc r ⟨rfl,a⟩
def KV.length{vs:List (κ×Ξ)}(r:KV kvs vs):kvs.length=vs.length:=Paired.length r
end
def znF(r:RelV (kV k) u):(zaq P w).is k u=Γ:=by cases k with|inl i=>let⟨t,e⟩:=(show ∃t,u=Ξ.int i t from r);subst e;exact zhE P w i t|inr x=>let⟨t,e⟩:=(show ∃t,u=Ξ.str x t from r);subst e;exact zhD P w x t
def zgH:∀{ks:List Key}{us:List Ξ},Vals (ks.map kV) us->ItemsAre (zaq P w) ks us
 | [],_,r=>by cases r;exact .nil| k::ks,_,r=>by cases r with|cons h t=>exact .cons (znF h) (zgH t)
@[reducible]def KT(H:Hp):List (List Key×V)->List (List Key×Addr×Ξ)->Prop:=Paired λp q=>p.1=q.1/\H q.2.1=Φ (.tup (p.1.map kV))/\RelV p.2 q.2.2
def KT.val(r:KT H kvs xs)(k):RelO (valV kvs k) ((atKey xs k).map (·.2)):=by
 induction r with
 |nil=>exact True.intro| @cons p q i a h t f=>
  let⟨d,_,g⟩:=h;by_cases e:p.1=k;have c:=d.symm.trans e;have b:atKey (q::a) k=Φ q.2:=by simp[atKey,c]
  rw[zfa e,b];exact g;have c:¬q.1=k:=λz=>e (d.trans z);have b:atKey (q::a) k=atKey a k:=by simp[atKey,c]
  rw[zfb e,b];exact f
def KT.repl(r:KT H kvs xs)(k)(d:RelV y u):
  KT H (kvs.map λb=>if b.1=k then(b.1,y) else b) (xs.map (putAt k u)):=by
 induction r with|nil=>exact .nil| @cons p q i j h t f=>rw[Ο,Ο];refine .cons ?_ f;let⟨a,c,g⟩:=h;unfold putAt;by_cases e:p.1=k;rw[if_pos e,if_pos (a.symm.trans e)];exact⟨a,c,d⟩;rw[if_neg e,if_neg (λz=>e (a.trans z))];exact⟨a,c,g⟩
def KT.put(r:KT H kvs xs)(k)(c:H b=Φ (.tup (k.map kV)))(a:RelV y u):
  KT H (putK kvs k y) (storedH xs k b u):=by
 have e:(kvs.any λd=>decide (d.1=k))=(atKey xs k).isSome:=by rw[zh8,(r.val k).isSome_eq,Option.isSome_map]
 unfold putK storedH;rw[e];by_cases q:(atKey xs k).isSome=Γ;rw[if_pos q,if_pos q];exact r.repl k a;rw[if_neg q,if_neg q];exact Paired.snoc r ⟨rfl,c,a⟩
def KT.keeps(r:KT H kvs xs)(a:∀b ys,H b=Φ (.tup ys)->H' b=Φ (.tup ys)):KT H' kvs xs:=Paired.mapP r λ_ _ z=>⟨z.1,a _ _ z.2.1,z.2.2⟩
section
variable{P:Υ}{w:ϋ}{H:Hp}{h:Heap}{a:Addr}
def zsu(ok:HOk P w H h)(e:Rd H a u):ObjOk P w H h a u:=e.ok ok
def zq9(ok:HOk P w H h)(e:Rd H a (.dK kvs)):kvs.length<=sizeLine/\(a==sysModules)=Δ/\∃vs,KV kvs vs/\h.DictOf (zaq P w) a vs:=show ObjOk P w H h a (.dK kvs) from zsu ok e
def zty(ok:HOk P w H h)(e:H a=Φ (.dK kvs)):kvs.length<=sizeLine/\(a==sysModules)=Δ/\∃vs,KV kvs vs/\h.DictOf (zaq P w) a vs:=zq9 ok (.inl e)
def zgF(ok:HOk P w H h)(e:H a=Φ (.tup (ks.map kV))):(tupleKind (zaq P w)).is h ks a:=by let⟨_,b,r,o,c,d,n,f⟩:=(show ObjOk P w H h a (.tup (ks.map kV)) from ok a _ e);exact⟨o,b.toArray,n,c,d,f,by simpa using zgH r⟩
def zq8(ok:HOk P w H h)(e:Rd H a (.dT kvs)):kvs.length<=sizeLine/\(a==sysModules)=Δ/\
  ∃xs,KT H kvs xs/\h.DictOfH (tupleKind (zaq P w)) a xs:=by
 let⟨z,y,xs,r,o,f,g,i,j,k,n,s⟩:=(show ObjOk P w H h a (.dT kvs) from zsu ok e);refine⟨z,y,xs,r,o,f,g,i,j,k,n,λx b=>?_,s⟩;have c:∀{l:List (List Key×V)}{m:List (List Key×Addr×Ξ)},KT H l m->∀x∈m,(tupleKind (zaq P w)).is h x.1 x.2.1:=by
  intro l m q;induction q with
  |nil=>intro x b;exact by cases b
  | @cons p q v A d t u=>intro x b;rcases mem_cons.mp b with e|b;subst e;exact zgF ok (by rw[<-d.1];exact d.2.1);exact u x b
 exact c r x b
def zuJ(ok:HOk P w H h)(e:H a=Φ (.dT kvs)):kvs.length<=sizeLine/\(a==sysModules)=Δ/\
 ∃xs,KT H kvs xs/\h.DictOfH (tupleKind (zaq P w)) a xs:=zq8 ok (.inl e)
end
abbrev DGet(H:Hp)(a:Addr)(y:V)(r:Option V):Prop:=(∃c k,Rd H a (.dK c)/\y=kV k/\r=valV c k)\/∃c k b,Rd H a (.dT c)/\y=.ref b/\H b=Φ (.tup (k.map kV))/\r=valV c k
abbrev DPut(H:Hp)(a:Addr)(y v:V)(H':Hp):Prop:=
 (∃c k,H a=Φ (.dK c)/\y=kV k/\c.length<sizeLine/\H'=upd H a (.dK (putK c k v)))\/
 ∃c k b,H a=Φ (.dT c)/\y=.ref b/\H b=Φ (.tup (k.map kV))/\c.length<sizeLine/\H'=upd H a (.dT (putK c k v))
def DGet.k{k}(e:H a=Φ (.dK kvs)):DGet H a (kV k) (valV kvs k):=.inl ⟨kvs,k,.inl e,rfl,rfl⟩
def DPut.k{k}(e:H a=Φ (.dK kvs))(b:kvs.length<sizeLine):DPut H a (kV k) v (upd H a (.dK (putK kvs k v))):=.inl ⟨kvs,k,e,rfl,b,rfl⟩
section
variable{X:Cx}{pins:List (Addr×Obj)}{σ:St}{H:Hp}{s:Β}{a:Addr}{y v:V}{u r:Ξ}{o:Option V}{A:ϐ}{E:Ξ->Β->Prop}
def Inv.big(I:Inv X pins σ H s):sysModules<s.heap.objs.size:=by have h:mainGlobals<s.heap.objs.size:=(I.mod.glob.keeps I.bk).lt;exact lt_trans (by decide) h
def zfT(I:Inv X pins σ H s)(d:Mut (H a))(hs:Heap.SameBut a s.heap h')(f:∃q,h'.get? a=Φ q)(new:ObjOk X.prog X.w (upd H a c) h' a c):
  Inv X pins σ (upd H a c) {s with heap:=h',toks:=t'}:=
 I.write (x:=a) (e:=a) d (.inl rfl) (λb q g z=>(hs.2 b g).trans z) f new
def zoU(z:kvs.length<=sizeLine)(hd:(a==sysModules)=Δ)(b:KV kvs vs)(c:h'.DictOf (zaq P w) a vs):
 ObjOk P w H' h' a (.dK kvs):=⟨z,hd,vs,b,c⟩
def zl6(N:A.units+1<cLine)(I:Inv X pins σ H s)(g:DPut H a y v H')(C:RelV y u)(G:RelV v r)(h:∀s',Inv X pins σ H' s'->Q () s'):
  wpAny (model X.prog X.w) A (setItem (.ref a) u r) Q E s:=by
 rcases g with⟨d,k,e,m,l,n⟩|⟨d,k,b,e,m,J,l,n⟩
 . subst m n;let⟨z,p,O,f,t⟩:=zty I.hok e;have w:O.length<=sizeLine:=by rw[<-f.length];exact z
   have x:(putK d k v).length<=sizeLine:=by have:=zcE d k v;lia
   refine wpAny_setItem_pairs (hsz:=w) (znF C) t λL i B=>h _ ?_;have T:∃q,L.get? a=Φ q:=let ⟨q,_,_,j,_⟩:=i;⟨q,j⟩;exact zfT I (by rw[e];exact True.intro) B T (zoU x p (f.put k G) i)
 subst m n;cases(show u=Ξ.ref b from C);let⟨z,p,U,f,t⟩:=zuJ I.hok e;have w:U.length<=sizeLine:=by rw[<-Paired.length f];exact z
 have x:(putK d k v).length<=sizeLine:=by have:=zcE d k v;lia
 refine wpAny_setItem_heap (hsz:=w) (tupleKind_room_in1 N) (zgF I.hok J) t λL i B=>h _ ?_;let⟨q,Y,ep,j,h2,h3,h4,_,h5⟩:=i;refine zfT I (by rw[e];exact True.intro) B ⟨q,j⟩ ⟨x,p,_,(f.put k J G).keeps λc ys M=>?_,q,Y,ep,j,h2,h3,h4,h5⟩;rw[zad (ne_of M e (λz=>by cases z))];exact M
end
abbrev zsp(d e f:TE):TS:=λD b H=>f b H λv g=>d b g λx h=>e b h λy i=>∃a c,x=.ref a/\DPut i a y v c/\D.nx b c
section
variable{X:Cx}{o i e value:Expr}{pos pos' tpos:Pos}{td ty tv:TE}
def zqd(d:X.A.units+1<cLine)(f:PE X o td)(j:PE X i ty)(k:PE X value tv)(hs:swapsWith value (Φ (.Subscript o i pos')) pos.line X.env=pure Δ) :
  PS X (.Assign [.Subscript o i pos'] value pos) (zsp td ty tv):=by
 intro b s c H D I h;refine wpAny_Assign_Subscript (thn (k b s c H _ I h) λr l z=>eY z λv m n p q=>thn (f b l c m _ n q) λu t z=>eY z λx w A B C=>thn (j b t c w _ A C) λO Q z=>?_) hs;let⟨y,T,E,G,a,J,L,g,M⟩:=z;subst L;obtain rfl:u=Ξ.ref a:=B;exact zl6 d E g G p λU N=>⟨c,J,N,M⟩
end
def znT(h:Heap)(a:sysModules<h.objs.size):ObjOk P w H (h.push {cls:=.type "dict",data:=.dict #[]}) h.objs.size (.dK []):=⟨zero_le _,beq_eq_false_iff_ne.mpr (Ne.symm (ne_of_lt a)),[],.nil,Heap.DictOf.new h⟩
abbrev zj8:TE:=λ_ H Q=>∀p,H p=Ψ->Q (.ref p) (upd H p (.dK []))
section
variable{X:Cx}{pos:Pos}
def ziu:PE X (.Dict [] [] pos) zj8:=λb s c H Q I h=>wpAny_Dict_empty ⟨.ref s.heap.objs.size,_,I.laid (λ_ _ q=>Λ _ q) (le_refl _) (znT s.heap I.big),rfl,h _ (I.hok.fresh (le_refl _))⟩
end
structure M1(X:Cx)(o:Expr)(m:Str)(apos:Pos)(e:Expr)(cpos:Pos):Prop where
 base:attributeBase o m X.env (eval o X.env)=eval o X.env
 few:((backTo cpos (starEach [e] X.env)).all (λx=>!x.1)&&(backToKw cpos (keywordEach [] X.env)).all (λx=>x.1.isSome)
  && decide (([e]:List Expr).length+([]:List Keyword).length+(if([]:List Keyword).isEmpty then 0 else 1)<30))=Γ
 line:(apos.endLine==cpos.line)=Γ
 trees:backTo cpos (starEach [e] X.env)=[(Δ,eval e X.env)]
structure M2(X:Cx)(o:Expr)(m:Str)(apos:Pos)(e f:Expr)(cpos:Pos):Prop where
 base:attributeBase o m X.env (eval o X.env)=eval o X.env
 few:((backTo cpos (starEach [e,f] X.env)).all (λx=>!x.1)&&(backToKw cpos (keywordEach [] X.env)).all (λx=>x.1.isSome)
  && decide (([e,f]:List Expr).length+([]:List Keyword).length+(if([]:List Keyword).isEmpty then 0 else 1)<30))=Γ
 line:(apos.endLine==cpos.line)=Γ
 trees:backTo cpos (starEach [e,f] X.env)=[(Δ,eval e X.env),(Δ,eval f X.env)]
abbrev IsD(H:Hp)(a:Addr):Prop:=(∃b,Rd H a (.dK b))\/∃b,Rd H a (.dT b)
def zlH(I:Inv X k l H s)(d:IsD H a):
  s.TypeIs (.ref a) "dict"/\(∀b,Ξ.ref a=.ref b->∃c,s.heap.get? b=Φ c/\c.dict=Ψ)/\(a==sysModules)=Δ:=by
 rcases d with⟨g,e⟩|⟨g,e⟩;let⟨_,h,m,_,f⟩:=zq9 I.hok e;refine⟨f.typeIs,λb q=>?_,h⟩;cases q;let⟨c,_,_,i,j,_⟩:=f;exact⟨c,i,j.2.1⟩;let⟨_,h,n,_,f⟩:=zq8 I.hok e;refine⟨f.typeIs,λb q=>?_,h⟩;cases q;let⟨c,_,_,i,j,_⟩:=f;exact⟨c,i,j.2.1⟩
section
variable{X:Cx}{pins:List (Addr×Obj)}{σ:St}{H:Hp}{s:Β}{a:Addr}{y d:V}{u r:Ξ}{o:Option V}{A:ϐ}{E:Ξ->Β->Prop}
def ztz(q:A.units+1<cLine)(I:Inv X pins σ H s)(g:DGet H a y o)(n:RelV y u)(p:RelV d r)(h:∀w' s',Inv X pins σ H s'->RelV (o.getD d) w'->Q w' s'):
  wpAny (model X.prog X.w) A (call (.builtin "dict.get") [.ref a,u,r]) Q E s:=by
 rcases g with⟨i,k,e,j,l⟩|⟨i,k,b,e,j,t,l⟩;subst j;let⟨z,m,w,c,f⟩:=zq9 I.hok e;refine call_meetsIn PySem.F.slot_dict_get f.typeIs PySem.F.entry_dict_get (PySem.F.args_dict_get_3 _ _ _) (meets_dict_get_default (zaq X.prog X.w) a (znF n) m r) ⟨_,f.mapOf,h _ _ (I.tok _) ?_⟩;rw[l];exact(c.val k).getD p;subst j;cases(show u=Ξ.ref b from n);let⟨z,m,v,c,f⟩:=zq8 I.hok e;refine call_meetsIn PySem.F.slot_dict_get f.typeIs PySem.F.entry_dict_get (PySem.F.args_dict_get_3 _ _ _) (meetsH_dict_get_default (tupleKind (zaq X.prog X.w)) a b m r) ⟨tupleKind_room_in1 q,k,v,zgF I.hok t,f,h _ _ (I.tok _) ?_⟩;rw[l];exact(c.val k).getD p
end
abbrev zof(e f g:TE):TE:=λb H Q=>e b H λx c=>∃a,x=.ref a/\IsD c a/\f b c λy h=>g b h λz d=>∃o,DGet d a y o/\Q (o.getD z) d
section
variable{X:Cx}{o e f:Expr}{apos cpos:Pos}{td ty tx:TE}
def ziv(l:X.A.units+1<cLine)(n:PE X o td)(p:PE X e ty)(q:PE X f tx)(m:M2 X o "get" apos e f cpos):PE X (.Call (.Attribute o "get" apos) [e,f] [] cpos) (zof td ty tx):=by intro b s c H Q I h;refine wpAny_Call_method m.base m.few m.line PySem.F.plainAttrs_dict PySem.F.slot_dict_get PySem.F.type_dict_get (thn (n b s c H _ I h) λu r k=>?_);let⟨x,t,j,v,a,w,d,A⟩:=k;subst w;obtain rfl:u=Ξ.ref a:=v;let⟨B,t2,_⟩:=zlH j d;refine⟨B,t2,?_⟩;rw[m.trees];exact Calls.callWith_builtin rfl (Calls.evalArgs_plain (Calls.spliced_cons (thn (p b r c t _ j A) λY C z=>eY z λy E G J L=>Calls.spliced_cons (thn (q b C c E _ G L) λfv s3 ⟨z,M,N,O,ov,g,T⟩=>Calls.spliced_nil (ztz l N g J O λw' s4 U i=>⟨_,M,U,i,T⟩)))))
end
end L2
namespace HT
open PySem PyProof.Rows
abbrev lexLt:List Int->List Int->Bool
 | [],[]=>Δ| [],_::_=>Γ|_::_,[]=>Δ|x::a,y::b=>if x=y then lexLt a b else decide (x<y)
def zjy(x y)(xs ys):lexLt (x::xs) (y::ys)=if x=y then lexLt xs ys else decide (x<y):=rfl
def zfG:lexLt [] []=Δ:=rfl
def zeC(y)(ys):lexLt [] (y::ys)=Γ:=rfl
def zeD(x)(xs):lexLt (x::xs) []=Δ:=rfl
def znS(A)(s)(a)(t)(c)(u):∃e,SeqAt.EqAt A s (.int a t) (.int c u) e/\(e=Γ↔a=c):=⟨(a==c),SeqAt.EqAt.int_int a t c u,by simp⟩
def zmZ(A)(s)(a)(t)(c)(u)(prog)(w)(E)(Q)(h:Q (.bool (decide (a<c))) s):
  wpAny (model prog w) A (richCompare .Lt (.int a t) (.int c u)) Q E s:=
 (PyProof.Rows.lt_int h:wpAny (model prog w) A (compareOp .Lt (.int a t) (.int c u)) Q E s)
section
open PySem.SeqAt
open PySem.AutoSeq1 (wpAny_loadPart')
open PySem.MeetsSeq PySem.MeetsSeq2 PySem.MeetsSeq3
def zfd(l b)(items f)(n n2)(dd N)(sl O)(ns H)(Y:IntsAre items.toList ns)(hj:IntsAre f.toList H):
  Meets (Builtin.«tuple.__lt__» ⟨[.ref l,.ref b],[]⟩)
   (λ_ R s=>s.heap.get? l=Φ {cls:=.type "tuple",dict:=dd,data:=.seq items n,slots:=sl}/\s.heap.get? b=Φ {cls:=.type "tuple",dict:=N,data:=.seq f n2,slots:=O}/\
    R (.ok (.ret (.bool (lexLt ns H)))) s):=
 .of_wp λprog w A R s h=>by
  let⟨I,g,d,J,os⟩:=s;let⟨hl,hb,h⟩:=h;have f2:=AutoSeq1.sub_tuple_tuple;have z1:items.size=ns.length:=by rw[<-Y.length];simp
  have z2:f.size=H.length:=by rw[<-hj.length];simp
  wp_walk using wpAny_loadPart' hl,wpAny_loadPart' hb,wpAny_forIn_list _ (λp b Q=>b.1=Ψ/\Q=⟨I,g,d,J,os⟩/\∃(L M:List Ξ) (j k:List Int),p=L.zip M/\
   IntsAre L j/\IntsAre M k/\j.length+f.size=k.length+items.size/\R (.ok (.ret (.bool (lexLt j k)))) ⟨I,g,d,J,os⟩) _
  case turn=>
   rintro⟨y,x⟩ p b Q ⟨z,rfl,L,M,j,k,m,B,o,i,r⟩;cases B with
   |nil=>rw[List.zip_nil_left]at m;cases m
   |cons a t E=>
    cases o with
    |nil=>rw[List.zip_nil_right]at m;cases m
    |cons c u G=>
     rw[List.zip_cons_cons]at m;injection m with T C;injection T with hy hx;subst hy hx;rw[zjy]at r;simp![Ρ]at i;let⟨e,he,v⟩:=znS A.in1 ⟨I,g,d,J,os⟩ a t c u;refine Θ (he prog w _ _ ?_);cases e with
     |true=>
      rw[if_pos (v.mp rfl)]at r
      wp_walk
      exact⟨rfl,rfl,_,_,_,_,C,E,G,by lia,r⟩
     |false=>
      rw[if_neg (λq=>absurd (v.mpr q) Ν)]at r;have U:=zmZ A.in1 ⟨I,g,d,J,os⟩ a t c u prog w
      wp_walk using U
      exact⟨_,rfl,by simpa using r⟩
  case fin=>
   rintro⟨b1,b2⟩ Q ⟨z,rfl,L,M,j,k,m,B,o,i,r⟩;simp only at z;subst z;have hv:lexLt j k=decide (items.size<f.size):=by
    cases B with
    |nil=>cases o with| nil=>simp![Ϡ]at i;rw[zfG];exact(decide_eq_false (by lia)).symm| cons c u hw=>simp![Ϡ,Ρ]at i;rw[zeC];exact(decide_eq_true (by lia)).symm
    |cons a t hv=>cases o with| nil=>simp![Ϡ,Ρ]at i;rw[zeD];exact(decide_eq_false (by lia)).symm| cons c u hw=>rw[List.zip_cons_cons]at m;cases m
   rw[hv]at r
   wp_walk
   exact⟨_,rfl,by simpa[Builtin.Tuple.tupleCompareSizes]using r⟩
  case h=>exact⟨rfl,rfl,items.toList,f.toList,ns,H,rfl,Y,hj,by lia,h⟩
end
section
variable{prog:Υ}{w:ϋ}{A:ϐ}{E:Ξ->Β->Prop}{s:Β}
def lt_tupInts(q:IsTup s.heap l items)(r:IsTup s.heap b a)(t:IntsAre items.toList ns)(u:IntsAre a.toList f)(v:A.units<cLine)(h:Q (.bool (lexLt ns f)) s):wpAny (model prog w) A (compareOp .Lt (.ref l) (.ref b)) Q E s:=by
 let⟨⟨y,z,j,B⟩,k,m,n,o⟩:=id q;let⟨⟨p,g,data2,i⟩,c,d,C,e⟩:=id r;subst m o d e;exact richCompare_meets_room (op:=.Lt) ⟨_,k,rfl⟩ ⟨_,c,rfl⟩ PySem.F.slot_tuple_lt PySem.F.entry_tuple_lt (PySem.F.args_tuple_lt_2 _ _) (zfd l b items a n C z g B i ns f t u)
  ⟨k,c,show Ξ.bool (lexLt ns f)≠Ξ.notImplemented/\Q (.bool (lexLt ns f)) s from⟨(λx=>by cases x),h⟩⟩ v
def cat_tup(u:IsTup s.heap t vs.toArray)(v:IsTup s.heap b a.toArray)(k:vs≠[])(x:a=[]->Q (.ref t) s)(y:a≠[]->Q (.ref s.heap.objs.size) {s with heap:=s.heap.push {cls:=.type "tuple",data:=.seq (vs++a).toArray}})(hsz:vs.length+a.length<=sizeLine):wpAny (model prog w) A (binaryOp .Add (.ref t) (.ref b)) Q E s:=by
 let⟨⟨cls,l,data,m⟩,i,o,n,p⟩:=id u;let⟨⟨q,d,data2,f⟩,c,g,r,h⟩:=id v;subst o p g h;have e:vs.toArray++a.toArray=(vs++a).toArray:=by simp
 by_cases j:a=[]
 exact concat_meets ⟨_,i,rfl⟩ ⟨_,c,rfl⟩ noFill_tuple_add seq_tuple_add PySem.F.slot_tuple_add PySem.F.entry_tuple_add (PySem.F.args_tuple_add_2 _ _)
  (tuple_addW1 t b vs.toArray a.toArray n r l d m f (by simpa using k) (by simp[j])) ⟨i,c,x j⟩
 refine concat_meets ⟨_,i,rfl⟩ ⟨_,c,rfl⟩ noFill_tuple_add seq_tuple_add PySem.F.slot_tuple_add PySem.F.entry_tuple_add (PySem.F.args_tuple_add_2 _ _)
  (tuple_addW2 t b vs.toArray a.toArray n r l d m f (by simpa using k) (by simpa using j) (by exact hsz)) ⟨i,c,?_⟩
 rw[e];exact y j
abbrev sIx(n d:Nat):Option Int->Nat
 |none=>d|some v=>if v<0 then(v+(n:Int)).toNat else min v.toNat n
def sIx_none(n d):sIx n d Ψ=d:=rfl
def sIx_nat(n d k:Nat):sIx n d (Φ (k:Int))=min k n:=by show(if(k:Int)<0 then((k:Int)+(n:Int)).toNat else min (k:Int).toNat n)=min k n;rw[if_neg (by lia),Int.toNat_natCast]
def zsn(n d)(hd:d<=n)(o):sIx n d o<=n:=by cases o with|none=>exact hd| some v=>show(if v<0 then(v+(n:Int)).toNat else min v.toNat n)<=n;by_cases a:v<0;rw[if_pos a];lia;rw[if_neg a];exact Nat.min_le_right _ _
def zmb(v)(n d:Nat):(if v<0 then max (v+(n:Int)) 0 else min v (n:Int))=((sIx n d (Φ v):Nat):Int):=by show(if v<0 then max (v+(n:Int)) 0 else min v (n:Int))=(((if v<0 then(v+(n:Int)).toNat else min v.toNat n):Nat):Int);by_cases a:v<0;simp![if_pos a];lia;simp![if_neg a];lia
def zjR(lo a)(n:Nat):Builtin.Slice.sliceAdjust lo a 1 (n:Int)=(((sIx n 0 lo:Nat):Int),((sIx n n a:Nat):Int)):=by
 have b:¬((1:Int)<0):=by lia
 unfold Builtin.Slice.sliceAdjust;simp![b,if_false];refine Prod.ext ?_ ?_;cases lo with|none=>rfl|some v=>exact zmb v n 0
 cases a with|none=>rfl|some v=>exact zmb v n n
def zjs(i j:Nat):Builtin.Slice.slicePlaces (i:Int) (j:Int) 1=j-i:=by
 unfold Builtin.Slice.slicePlaces;have a:(1:Int)>0:=by lia
 simp![a,if_true,Int.ediv_one];split<;>lia
def zeL(p:IsPart v o)(h:Q o s):wpAny (model prog w) A (Builtin.Slice.slicePartIndex v) Q E s:=by cases p with|none=>exact slicePart_none h|int i t=>exact slicePart_int h
def zdA{lo a}{Q:Int×Int×Nat->Β->Prop}(hs:s.heap.IsSliceOf sl d e .none)(f:IsPart d lo)(g:IsPart e a)(h:Q (((sIx n 0 lo:Nat):Int),1,sIx n n a-sIx n 0 lo) s):wpAny (model prog w) A (Builtin.Slice.sliceApplied (.ref sl) (pure (n:Int))) Q E s:=by
 let⟨os,b,i,c⟩:=id hs;unfold Builtin.Slice.sliceApplied Builtin.Slice.sliceFields;refine Θ (Θ (wpAny_field b c (x:=d) rfl (Θ (wpAny_field b c (x:=e) rfl (Θ (wpAny_field b c (x:=.none) rfl (Ω ?_)))))));refine Θ (slicePart_none ?_);show wpAny _ _ (if((1:Int)==0)=Γ then _ else _) _ _ s;rw[if_neg (by decide)];refine Θ (zeL f (Θ (zeL g (Θ (Ω ?_)))));show wpAny _ _ (match Builtin.Slice.sliceAdjust lo a 1 (n:Int) with|(lo,a)=>pure (lo,(1:Int),Builtin.Slice.slicePlaces lo a 1)) _ _ s;rw[zjR lo a n];show wpAny _ _ (pure (((sIx n 0 lo:Nat):Int),(1:Int),Builtin.Slice.slicePlaces ((sIx n 0 lo:Nat):Int) ((sIx n n a:Nat):Int) 1)) _ _ s;rw[zjs];exact Ω h
def zna(xs:Array Ξ)(i k:Nat):((List.range k).filterMap λ(m:Nat)=>xs[((i:Int)+(m:Int)*1).toNat]?).toArray=((xs.toList.drop i).take k).toArray:=by
 have e:(λ(m:Nat)=>xs[((i:Int)+(m:Int)*1).toNat]?)=λm=>xs[i+m]?:=by
  funext m;have:((i:Int)+(m:Int)*1).toNat=i+m:=by lia
  rw[this]
 rw[e];have:=pick_run xs i k;rw[List.filterMap_map]at this;have e2:((λx=>xs[x]?)∘λx=>i+x)=λm=>xs[i+m]?:=rfl;rw[e2]at this;rw[this]
def getItem_tuple_cut{lo b}(c:IsTup s.heap t items)(hs:s.heap.IsSliceOf sl i j .none)(k:IsPart i lo)(l:IsPart j b)(n:¬(sIx items.size 0 lo=0/\sIx items.size items.size b=items.size))(h:Q (.ref s.heap.objs.size) {s with heap:=s.heap.push {cls:=.type "tuple",data:=.seq ((items.toList.drop (sIx items.size 0 lo)).take (sIx items.size items.size b-sIx items.size 0 lo)).toArray}})(hsz:items.size<=sizeLine):wpAny (model prog w) A (getItem (.ref t) (.ref sl)) Q E s:=by
 have a:sizeOk (.seq ((items.toList.drop (sIx items.size 0 lo)).take (sIx items.size items.size b-sIx items.size 0 lo)).toArray):=by show((items.toList.drop (sIx items.size 0 lo)).take (sIx items.size items.size b-sIx items.size 0 lo)).toArray.size<=sizeLine;rw[size_toArray,length_take,List.length_drop,length_toList];omega
 have p:sIx items.size items.size b<=items.size:=zsn _ _ (le_refl _) b;let⟨os,d,e,o⟩:=id hs;have f:s.TypeIs (.ref sl) "slice":=⟨os,d,e⟩;unfold getItem
 try with_reducible refine ϙ ?_
 first|refine Θ (Ω ?_)|skip
 refine Θ (wpAny_sequenceKey c.typeIs (by decide) ?_);refine Θ (wpAny_callSpecial?_slot (name:=Str.ofString "__getitem__") c.typeIs PyProof.Rows.slot_tuple_getitem
  (ϒ PyProof.Rows.slot_tuple_getitem c.typeIs entry_tuple_getitem ?_ (args_tuple_getitem _ _)))
 show wpAny _ _ (Builtin.Tuple.tupleItemsOf (.ref t)>>=_) _ _ s;refine Θ (tupleItemsOf_ c ?_);refine Θ (wpAny_typeOf f ?_);rw[if_pos (by decide)];refine Θ (zdA hs k l ?_);have g:¬((((sIx items.size 0 lo:Nat):Int)==0&&(1:Int)==1&&(sIx items.size items.size b-sIx items.size 0 lo)==items.size)=Γ):=by intro q;replace q:=qL qa1 q;have r:((sIx items.size 0 lo:Nat):Int)=0:=eq_of_beq q.1.1;have u:sIx items.size items.size b-sIx items.size 0 lo=items.size:=eq_of_beq q.2;exact n ⟨by omega,by omega⟩
 show wpAny _ _ (if(((sIx items.size 0 lo:Nat):Int)==0&&(1:Int)==1&&(sIx items.size items.size b-sIx items.size 0 lo)==items.size)=Γ then _ else _) _ _ s;rw[if_neg g,zna]
 first
  |exact Θ (m:=Builtin.Tuple.tupleExact _) (ϔ (Ω ⟨_,rfl,Ω h⟩) a)
  |exact Θ (m:=Builtin.Tuple.tupleExact _) (ϔ (Θ (Ω (Ω ⟨_,rfl,Ω h⟩))) a)
  |exact Θ (Θ (m:=Builtin.Tuple.tupleExact _) (ϔ (Ω (Ω ⟨_,rfl,Ω h⟩)) a))
  |exact Θ (Θ (m:=Builtin.Tuple.tupleExact _) (ϔ (Ω ⟨_,rfl,Ω h⟩) a))
end
end HT
namespace L2
open PySem PySem.Spec PyProof.Rows
@[reducible]def TO:=St->Hp->(Option Int->Hp->Prop)->Prop
abbrev PO(X:Cx)(e:Option Expr)(t:TO):Prop:=
 ∀(a:List (Addr×Obj))(s:Β)(b:St)(H:Hp)(Q:Option Int->Hp->Prop),Inv X a b H s->t b H Q->
  wpAny (model X.prog X.w) X.A (evalPart e X.env) (λu d=>∃o c,Inv X a b c d/\IsPart u o/\Q o c) X.xe s
abbrev zpg:TO:=λ_ H Q=>Q Ψ H
abbrev ztY(t:TE):TO:=λa H Q=>t a H λx b=>∃i,x=.int i/\Q (Φ i) b
def zdd:∀{us:List Ξ},Vals (ns.map V.int) us->IntsAre us ns:=by induction ns with|nil=>intro us r;rw[map_nil]at r;cases r;exact .nil| cons n ns a=>intro us r;rw[Ο]at r;cases r with| cons b c=>let⟨t,e⟩:=b;subst e;exact .cons n t (a c)
section
variable{X:Cx}{e:Expr}{te:TE}{lo hi:Option Expr}{tl th:TO}{pos p2:Pos}
def zqg:PO X Ψ zpg:=by intro a s b H Q I h;rw[evalPart_none];exact Ω ⟨Ψ,H,I,.none,h⟩
def zhy(h:PE X e te):PO X (Φ e) (ztY te):=by intro a s b H Q I c;rw[evalPart_some];refine thn (h a s b H _ I c) λu k z=>?_;let⟨x,d,f,g,j⟩:=z;let⟨i,rfl,q⟩:=j;let⟨t,rfl⟩:=g;exact⟨Φ i,d,f,.int i t,q⟩
abbrev SlR(X:Cx)(r:V->Option Int->Option Int->Hp->VK->Prop):Prop:=
 ∀(a:List (Addr×Obj))(s:Β)(b:St)(H:Hp)(x:V)(v c d:Ξ)(lo hi:Option Int)(f:Addr)(Q:VK),Inv X a b H s->RelV x v->s.heap.IsSliceOf f c d .none->IsPart c lo->IsPart d hi->r x lo hi H Q->
  ∃T id,typeLookup (.type T) "__getitem__"=pure (Φ (.builtin id))/\s.TypeIs v T/\wpAny (model X.prog X.w) X.A (getItem v (.ref f)) (EP X a b Q) X.xe s
abbrev tSl(r:V->Option Int->Option Int->Hp->VK->Prop)(te:TE)(tl th:TO):TE:=λa H Q=>te a H λx b=>tl a b λl c=>th a c λu d=>r x l u d Q
def zit(j:SlR X r)(k:PE X e te)(m:PO X lo tl)(n:PO X hi th):PE X (.Subscript e (.Slice lo hi Ψ p2) pos) (tSl r te tl th):=by intro a s d H Q I h;refine Subscript_ (thn (k a s d H _ I h) λv o z=>?_);let⟨x,p,t,w,y⟩:=z;refine wpAny_Slice (thn (m a o d p _ t y) λf A z=>eY z λl B C E G=>thn (n a A d B _ C G) λg c z=>?_);let⟨u,i,J,L,M⟩:=z;rw[evalPart_none];refine Ω ?_;have N:Inv X a d i {c with heap:=c.heap.push {cls:=.type "slice",data:=.fields #[f,g,.none]}}:=J.kept (t':=c.toks) λb ob q=>Λ _ q;let⟨T,id,O,U,Y⟩:=j a {c with heap:=c.heap.push {cls:=.type "slice",data:=.fields #[f,g,.none]}} d i x v f g l u c.heap.objs.size Q N w (Heap.IsSliceOf.new ..) E L M;show wpAny (model X.prog X.w) X.A (subscriptTail e (.Slice lo hi Ψ p2) v (.ref c.heap.objs.size)) (EP X a d Q) X.xe {c with heap:=c.heap.push {cls:=.type "slice",data:=.fields #[f,g,.none]}};exact tail_any (ops:=[.ref c.heap.objs.size,v]) U O Y (by with_unfolding_all rfl)
abbrev cutV(xs:List V)(lo hi:Option Int):List V:=(xs.drop (HT.sIx xs.length 0 lo)).take (HT.sIx xs.length xs.length hi-HT.sIx xs.length 0 lo)
def zhV(xs)(lo hi):(cutV xs lo hi).length<=xs.length:=by unfold cutV;rw[length_take,List.length_drop];lia
abbrev rSlT(K:Frag):V->Option Int->Option Int->Hp->VK->Prop:=λx lo hi H Q=>∃a b,x=.ref a/\SqT K H a b/\
 ¬(HT.sIx b.length 0 lo=0/\HT.sIx b.length b.length hi=b.length)/\∀p,H p=Ψ->Q (.ref p) (upd H p (.tup (cutV b lo hi)))
def zok:SlR X (rSlT X.K):=by
 intro g s u H x v w y lo hi z Q I k l m n h;let⟨a,d,rfl,p,t,q⟩:=h;cases k;let⟨f,r,i,j⟩:=I.tuple p;have c:f.toArray.size=d.length:=by rw[size_toArray];exact r.length.symm
 refine⟨"tuple",_,PyProof.Rows.slot_tuple_getitem.lookup,i.typeIs,?_⟩;refine HT.getItem_tuple_cut i l m n (by rw[c];exact t) ?_ (by rw[c];exact j);rw[c];refine⟨.ref s.heap.objs.size,_,I.laid (t':=s.toks) (o:=.tup (cutV d lo hi)) (λb A q=>Λ _ q) (le_refl _) ?_,rfl,q _ (I.hok.fresh (le_refl _))⟩;exact⟨le_trans (zhV d lo hi) j,_,(r.drop (HT.sIx d.length 0 lo)).take (HT.sIx d.length d.length hi-HT.sIx d.length 0 lo),IsTup.new _ _⟩
abbrev zud(K:Frag):R2:=λx y H Q=>∃a b d c,x=.ref a/\y=.ref b/\SqT K H a d/\SqT K H b c/\d≠[]/\d.length+c.length<=sizeLine/\
 (c=[]->Q (.ref a) H)/\(c≠[]->∀p,H p=Ψ->Q (.ref p) (upd H p (.tup (d++c))))
def Vals.nil_iff(r:Vals xs us):us=[]↔xs=[]:=by cases r with|nil=>simp|cons _ _=>simp
def zqu:OpR X (binaryOp .Add) (zud X.K):=by intro f s E H x y v u Q I j k h;let⟨a,b,l,m,rfl,rfl,n,p,r,g,t,A⟩:=h;cases j;cases k;let⟨B,d,C,_⟩:=I.tuple n;let⟨i,c,p2,_⟩:=I.tuple p;refine HT.cat_tup C p2 (λz=>r (d.nil_iff.mp z)) (λz=>⟨.ref a,H,I,rfl,t (c.nil_iff.mp z)⟩) (λz=>?_) (by rw[<-d.length,<-c.length];exact g);refine⟨.ref s.heap.objs.size,_,I.laid (λb G q=>Λ _ q) (le_refl _) ?_,rfl,A (λw=>z (c.nil_iff.mpr w)) _ (I.hok.fresh (le_refl _))⟩;exact⟨by rw[length_append];exact g,_,d.append c,IsTup.new _ _⟩
end
abbrev ixN(n:Nat)(i:Int):Option Nat:=if 0<=i then(if i<n then Φ i.toNat else Ψ) else if -(n:Int)<=i then Φ (i+n).toNat else Ψ
abbrev atI{a:Type}(xs:List a)(i:Int):Option a:=(ixN xs.length i).bind λj=>xs[j]?
def zqQ(h:ixN n i=Φ j):seqIndex? i n=Φ j/\j<n/\-(n:Int)<=i/\i<n:=by unfold ixN at h;by_cases b:0<=i;rw[if_pos b]at h;by_cases a:i<n;rw[if_pos a]at h;have e:=Option.some.inj h;exact⟨by rw[seqIndex_of b a,e],by lia,by lia,a⟩;rw[if_neg a]at h;exact nS h;rw[if_neg b]at h;by_cases a:-(n:Int)<=i;rw[if_pos a]at h;have e:=Option.some.inj h;exact⟨by rw[seqIndex_neg (by lia) a,e],by lia,a,by lia⟩;rw[if_neg a]at h;exact nS h
def zh3(h:atI xs i=Φ v):∃j,seqIndex? i xs.length=Φ j/\xs[j]?=Φ v/\j<xs.length/\-(xs.length:Int)<=i/\i<xs.length:=by
 unfold atI at h;cases e:ixN xs.length i with
 |none=>rw[e]at h;exact nS h
 |some j=>rw[e]at h;let⟨a,b,c,d⟩:=zqQ e;exact⟨j,a,h,b,c,d⟩
abbrev zms(b:Expr):Prop:=∀o i,subscripted b Δ o i=operate [o,i] (getItem o i)
abbrev IxR(X:Cx)(r:R2):Prop:=
 ∀(c a:Expr)(b:List (Addr×Obj))(s:Β)(d:St)(H:Hp)(x y:V)(v u:Ξ)(Q:VK),Inv X b d H s->RelV x v->RelV y u->r x y H Q->
  subscripted a Δ v u=operate [v,u] (getItem v u)->wpAny (model X.prog X.w) X.A (subscriptTail c a v u) (EP X b d Q) X.xe s
abbrev MtR(X:Cx)(id:String)(r:V->List V->Hp->VK->Prop):Prop:=
 ∀(a:List (Addr×Obj))(s:Β)(b:St)(H:Hp)(x:V)(c:List V)(v:Ξ)(d:List Ξ)(Q:VK),Inv X a b H s->RelV x v->Vals c d->r x c H Q->
  wpAny (model X.prog X.w) X.A (call (.builtin id) (v::d)) (EP X a b Q) X.xe s
section
variable{X:Cx}{a b:Expr}{ta tb:TE}{pos:Pos}
def IxR.or(h:IxR X r)(h':IxR X k):IxR X (λx y H Q=>r x y H Q\/k x y H Q):=by intro c d e s f H x y v u Q I g i q j;rcases q with q|q;exact h c d e s f H x y v u Q I g i q j;exact h' c d e s f H x y v u Q I g i q j
def zui(d:IxR X r)(e:PE X a ta)(f:PE X b tb)(hs:zms b):PE X (.Subscript a b pos) (tOp r ta tb):=by intro c s g H Q I h;exact Subscript_ (binT e f I h λv u i x y j k l m q=>d a b c i g j x y v u Q k l m q (hs _ _))
abbrev rIxL(K:Frag):R2:=λx y H Q=>∃p c i v,x=.ref p/\y=.int i/\SqL K H p c/\atI c i=Φ v/\Q v H
abbrev rIxT(K:Frag):R2:=λx y H Q=>∃p c i v,x=.ref p/\y=.int i/\SqT K H p c/\atI c i=Φ v/\Q v H
abbrev rIxS:R2:=λx y H Q=>∃z i c,x=.str z/\y=.int i/\z.length<=sizeLine/\atI z.cps.toList i=Φ c/\Q (.str ⟨#[c]⟩) H
def ix_list:IxR X (rIxL X.K):=by
 intro e f c s n H x y v u Q I C E h o;let⟨p,U,i,z,rfl,rfl,G,J,q⟩:=h;cases C;let⟨t,rfl⟩:=E;let⟨g,r,k,Y⟩:=I.list G;let⟨j,d,L,h3,M,N⟩:=zh3 J;let⟨w,A,l⟩:=r.get L;have O:=r.length;have hn:=zgA;have fin:EP X c n Q w s:=⟨z,H,I,l,q⟩;by_cases B:0<=i;have m:i.toNat=j:=by rw[seqIndex_of B N]at d;exact Option.some.inj d
 exact item_listR k.isList B (by lia) (by rw[m];simpa using A) fin o;have m:(i+(g.toArray.size:Int)).toNat=j:=by rw[seqIndex_neg (by lia) M]at d;rw[size_toArray,<-O];exact Option.some.inj d
 exact subscriptTail_builtinR k.isList.typeIs slot_list_getitem.lookup
  (wpAny_getItem_list_neg k.isList (by lia) (by rw[size_toArray]<;>lia) (by lia) (by rw[m];simpa using A) ⟨rfl,fin⟩) o
def ix_tup:IxR X (rIxT X.K):=by
 intro d e c s g H x y v u Q I l m h n;let⟨p,M,i,z,rfl,rfl,o,A,q⟩:=h;cases l;let⟨t,rfl⟩:=m;let⟨B,r,k,N⟩:=I.tuple o;let⟨j,C,E,O,T,U⟩:=zh3 A;let⟨w,G,f⟩:=r.get E;have J:=r.length;have Y:=zgA;have fin:EP X c g Q w s:=⟨z,H,I,f,q⟩;exact subscriptTail_builtinR k.typeIs slot_tuple_getitem.lookup
  (getItem_tuple k (by lia) (by lia) (by rw[size_toArray,<-J];exact C) (by simpa using G) ⟨rfl,fin⟩) n
def ztn:IxR X rIxS:=by
 intro d e f s C H x y v u Q I k l h m;let⟨z,i,c,rfl,rfl,E,n,q⟩:=h;let⟨t,rfl⟩:=k;let⟨G,rfl⟩:=l;let⟨j,g,o,J,p,r⟩:=zh3 n;have w:z.cps.toList.length=z.length:=by simp[Str.length]
 rw[w]at g p r;have L:=zgA;exact tail_any (typeIs_str s z t) slot_str_getitem.lookup (getItem_str (by
  have A:decide (i < -(2^63:Int))=Δ:=decide_eq_false (by lia);have B:decide (i≥2^63)=Δ:=decide_eq_false (by lia);rw[A,B,Bool.or_false]) (by rw[g];simpa using o) ⟨.str ⟨#[c]⟩,H,I.tok _,⟨_,rfl⟩,q⟩) m
abbrev rIx(K:Frag):R2:=λx y H Q=>rIxL K x y H Q\/rIxT K x y H Q\/rIxS x y H Q
def zto:IxR X (rIx X.K):=ix_list.or (ix_tup.or ztn)
def Inv.lst{c:List (Addr×Obj)}{d:St}{H:Hp}{s:Β}{p:Addr}{xs:List V}(I:Inv X c d H s)(h:H p=Φ (.lst xs)) :
  ∃(its:List Ξ) (n:Nat),Vals xs its/\s.heap.get? p=Φ {cls:=.type "list",data:=.seq its.toArray n}/\xs.length<=sizeLine:=by
 let⟨z,its,n,r,e⟩:=I.hok p _ h;exact⟨its,n,r,e,z⟩
def zcc:zbt X (.builtin "len") (λxs H Q=>∃p ys,xs=[.ref p]/\(SqL X.K H p ys\/SqT X.K H p ys)/\Q (.int ys.length) H):=by intro i s l H xs m Q I r h;let⟨p,ys,rfl,d,q⟩:=h;let⟨u,rfl,j⟩:=zmw r;cases j;have n:=zgA;rcases d with d|d;let⟨e,f,g,k⟩:=I.list d;have c:=f.length;exact Calls.call_len_list g.isList (by simp![size_toArray]<;>lia) ⟨.int ys.length,H,I.tok _,⟨s.toks+1,by rw[size_toArray,c]⟩,q⟩;let⟨e,f,g,k⟩:=I.tuple d;have c:=f.length;exact len_tuple g (by simp![size_toArray]<;>lia) ⟨.int ys.length,H,I.tok _,⟨s.toks+1,by rw[size_toArray,c]⟩,q⟩
def zg1:zbt X (.type "list") (λxs H Q=>∃p ys,xs=[.ref p]/\(SqL X.K H p ys\/SqT X.K H p ys)/\∀l,H l=Ψ->Q (.ref l) (upd H l (.lst ys))):=by
 intro i s A H xs C Q I r h;let⟨p,ys,rfl,j,q⟩:=h;let⟨u,rfl,B⟩:=zmw r;cases B;have fin:∀(c:List Ξ),Vals ys c->ys.length<=sizeLine->∀(d:Heap)(f:Nat),(∀b z,s.heap.get? b=Φ z->d.get? b=Φ z)->
   d.get? s.heap.objs.size=Φ {cls:=.type "list",dict:=Ψ,data:=.seq c.toArray f,slots:=#[]}->EP X i A Q (.ref s.heap.objs.size) {s with heap:=d}:=λc g k d f m e=>
  ⟨.ref s.heap.objs.size,_,I.laid m (le_refl _) (show ObjOk X.prog X.w _ d _ (.lst ys) from⟨k,c,f,g,e⟩),rfl,q _ (I.hok.fresh (le_refl _))⟩
 rcases j with j|j;let⟨c,g,v,k⟩:=I.list j;have t:=g.length;let⟨o,w,x,n,y⟩:=v.isList;exact call_list_seq p (.inl rfl) w x y (λd f m e=>fin c g k d f m e) (by simp![size_toArray]<;>lia);let⟨c,g,v,k⟩:=I.tuple j;have t:=g.length;let⟨o,w,x,n,y⟩:=v;exact call_list_seq p (.inr rfl) w x y (λd f m e=>fin c g k d f m e) (by simp![size_toArray]<;>lia)
def zfX:zbt X (.type "tuple") (λxs H Q=>∃p ys,xs=[.ref p]/\((SqL X.K H p ys/\∀l,H l=Ψ->Q (.ref l) (upd H l (.tup ys)))\/(SqT X.K H p ys/\Q (.ref p) H))):=by intro c s k H xs y Q I r h;let⟨p,ys,rfl,h⟩:=h;let⟨u,rfl,v⟩:=zmw r;cases v;rcases h with⟨g,q⟩|⟨g,q⟩;let⟨d,i,j,m⟩:=I.list g;have n:=i.length;refine call_tuple_list j.isList (λf w=>?_) (by simp![size_toArray]<;>lia);have t:=I.kept (t':=s.toks) w;have x:=t.laid (t':=s.toks) (λb o e=>Λ _ e) (le_refl _) (show ObjOk X.prog X.w _ _ _ (.tup ys) from⟨m,d,i,IsTup.new _ _⟩);exact⟨.ref f.objs.size,_,x,rfl,q _ (t.hok.fresh (le_refl _))⟩;let⟨d,i,j,m⟩:=I.tuple g;exact call_tuple_same j ⟨.ref p,H,I,rfl,q⟩
abbrev tyV(K:Frag)(T:String)(x:V)(H:Hp):Prop:=match x with
 |.str _=>T="str"|.int _=>T="int"
 |.ref p=>(T="list"/\∃d,SqL K H p d)\/(T="tuple"/\∃o,K.lookup p=Φ o/\o.cls=.type "tuple"/\o.dict=Ψ)\/
  (T="dict"/\((∃c,H p=Φ (.dK c))\/∃c,H p=Φ (.dT c)))\/(T="set"/\∃S n,H p=Φ (.set S n))
 |_=>False
def zrG(I:Inv X l A H s)(r:RelV x v)(g:tyV X.K T x H):
  s.TypeIs v T/\∀a,v=.ref a->∃m,s.heap.get? a=Φ m/\m.dict=Ψ:=by
 cases x with
 |str z=>let⟨t,rfl⟩:=r;cases(show T="str" from g);exact⟨typeIs_str s z t,λ_ e=>by cases e⟩| int i=>let⟨t,rfl⟩:=r;cases(show T="int" from g);exact⟨typeIs_int s i t,λ_ e=>by cases e⟩| ref p=>
  cases r;rcases g with⟨rfl,B,u⟩|⟨rfl,o,d,w,h⟩|⟨rfl,d⟩|⟨rfl,S,n,d⟩;let⟨y,_,q,_⟩:=I.list u;refine⟨q.isList.typeIs,λa e=>?_⟩;cases e;let⟨o,n,e,c,h,_⟩:=q;exact⟨o,e,h⟩;refine⟨⟨o,I.kIn p o d,w⟩,λa e=>?_⟩;cases e;exact⟨o,I.kIn _ o d,h⟩;have z:∃o,s.heap.get? p=Φ o/\o.ExactDict:=by rcases d with⟨j,d⟩|⟨j,d⟩;let⟨_,_,_,_,o,_,_,e,f,_⟩:=I.hok p _ d;exact⟨o,e,f⟩;let⟨_,_,_,_,o,_,_,e,f,_⟩:=I.hok p _ d;exact⟨o,e,f⟩
  let⟨o,e,f⟩:=z;refine⟨⟨o,e,f.1⟩,λa k=>?_⟩;cases k;exact⟨o,e,f.2.1⟩;let⟨o,_,_,_,e,f,_⟩:=I.hok p _ d;refine⟨⟨o,e,f.1⟩,λa k=>?_⟩;cases k;exact⟨o,e,f.2.1⟩
 |_=>exact False.elim g
abbrev tBM(K:Frag)(T:String)(r:V->List V->Hp->VK->Prop)(e:TE)(t:TA):TE:=λc H Q=>e c H λx d=>tyV K T x d/\t c d λf g=>r x f g Q
variable{o e:Expr}{es:List Expr}{to:TE}{t:TA}{name:Str}{apos cpos:Pos}{T id:String}{r:V->List V->Hp->VK->Prop}
def zqp(u:PlainAttrs T)(i:Slot T name id)(l:typeOf (.builtin id)=pure (.type "method_descriptor"))(w:MtR X id r)(y:PE X o to)(A:PA X (e::es) t)
  (f:attributeBase o name X.env (eval o X.env)=eval o X.env:=by rfl)
  (j:((backTo cpos (starEach (e::es) X.env)).all (λx=>!x.1)&&(backToKw cpos (keywordEach [] X.env)).all (λx=>x.1.isSome)
   && decide ((e::es).length+([]:List Keyword).length+(if([]:List Keyword).isEmpty then 0 else 1)<30))=Γ:=by rfl)
  (g:(apos.endLine==cpos.line)=Γ:=by rfl) (hs:starEach (e::es) X.env=(Δ,eval e X.env)::starEach es X.env:=by rfl) (d:(backTo cpos (starEach es X.env)).any (·.1)=Δ:=by rfl) :
  PE X (.Call (.Attribute o name apos) (e::es) [] cpos) (tBM X.K T r to t):=by
 intro c s m H Q I h;refine wpAny_Call_method_late f j g rfl (thn (y c s m H _ I h) λv B z=>?_);let⟨x,C,n,p,E,G⟩:=z;let⟨J,L⟩:=zrG n p E;refine⟨T,id,u,i,l,J,L,?_⟩;have q:=A cpos c B m C _ n G;rw[hs]at q⊢;refine Calls.callWith_builtin (by show(Δ||(backTo cpos (starEach es X.env)).any (·.1))=Δ;rw[d]<;>rfl) (Calls.evalArgs_plain ?_);exact thn q λM N k=>(by let⟨O,U,Y,r2,q2⟩:=k;exact w c N m U x O v M Q Y p r2 q2)
end
abbrev MtM(X:Cx)(id:String)(r:V->List V->Hp->VK->Prop):Prop:=
 ∀(a:List (Addr×Obj))(s:Β)(b:St)(H:Hp)(x:V)(c:List V)(v:Ξ)(d:List Ξ)(Q:VK),Inv X a b H s->RelV x v->Vals c d->r x c H Q->
  wpAny (model X.prog X.w) X.A (call (.builtin id) (v::d)) (EP X a b Q) X.xe s
def Vals.one{x:V}{us:List Ξ}(h:Vals [x] us):∃u,us=[u]/\RelV x u:=by cases h with|cons r t=>cases t;exact⟨_,rfl,r⟩
def Vals.eraseIdx:∀{xs:List V}{us:List Ξ}(i:Nat),Vals xs us->Vals (xs.eraseIdx i) (us.eraseIdx i)
 |_,_,_,.nil=>.nil|_,_,0,.cons _ t=>t|_,_,i+1,.cons r t=>.cons r (Vals.eraseIdx i t)
def zgE{a:Type}:∀(l:List a)(i:Nat),(l.eraseIdx i).length<=l.length
 | [],_=>le_refl _|_::_,0=>le_succ _|_::r,i+1=>Nat.succ_le_succ (zgE r i)
section
variable{X:Cx}{pins:List (Addr×Obj)}{σ:St}{H:Hp}{s:Β}{l b:Addr}{xs ys zs:List V}
def Inv.lset{its its':List Ξ}(I:Inv X pins σ H s)(a:H l=Φ (.lst xs))(e:s.heap.get? l=Φ {cls:=.type "list",data:=.seq its.toArray n})(c:f its.toArray=its'.toArray)(d:Vals ys its')(hz:ys.length<=sizeLine):
  Inv X pins σ (upd H l (.lst ys)) {s with heap:=s.heap.update l (Obj.mapSeq f),toks:=t'}:=by
 have q:=PySem.IsL.update e f;rw[c]at q;refine I.write (x:=l) (e:=l) (by rw[a];exact trivial) (.inl rfl) (λi u g h=>(Heap.get?_update_other s.heap (Obj.mapSeq f) (Ne.symm g)).trans h) ⟨_,q⟩ ?_;exact⟨hz,its',_,d,q⟩
def Inv.lnew(I:Inv X pins σ H s)(a:Vals ys its)(hz:ys.length<=sizeLine):
  Inv X pins σ (upd H s.heap.objs.size (.lst ys)) {s with heap:=s.heap.push {cls:=.type "list",data:=.seq its.toArray},toks:=t'}:=
 I.laid (λ_ _ q=>Λ _ q) (le_refl _) ⟨hz,its,0,a,Ζ _ rfl⟩
def Inv.fresh(I:Inv X pins σ H s):H s.heap.objs.size=Ψ:=I.hok.fresh (le_refl _)
def Inv.lstM(I:Inv X pins σ H s)(a:H l=Φ (.lst xs)):xs.length<=sizeLine/\∃(its:List Ξ) (n:Nat),Vals xs its/\xs.length=its.length/\s.heap.get? l=Φ {cls:=.type "list",data:=.seq its.toArray n}:=by let⟨z,its,n,r,e⟩:=I.hok l _ a;exact⟨z,its,n,r,r.length,e⟩
def znr(h:n<=sizeLine):Builtin.List.listTooLong n=Δ:=by unfold Builtin.List.listTooLong;exact decide_eq_false (by lia)
end
section
variable{X:Cx}
abbrev zp4:V->List V->Hp->VK->Prop:=λx b H Q=>∃l a y,x=.ref l/\b=[y]/\H l=Φ (.lst a)/\a.length<sizeLine/\Q .non (upd H l (.lst (a++[y])))
def zgw:MtM X "list.append" zp4:=by intro b s i H x j v k Q I d f h;let⟨l,m,y,rfl,rfl,c,o,q⟩:=h;cases d;let⟨u,rfl,g⟩:=f.one;let⟨z,a,n,r,p,e⟩:=I.lstM c;refine call_meets F.slot_list_append ⟨_,e,rfl⟩ F.entry_list_append (F.args_list_append_2 _ _) (PySem.list_append l a.toArray n u (by rw[size_toArray];lia)) ⟨e,?_⟩;refine⟨.non,_,I.lset (its':=a++[u]) c e (by simp) (r.append (.cons g .nil)) ?_,rfl,q⟩;rw[length_append,List.length_singleton];lia
abbrev zp3:V->List V->Hp->VK->Prop:=λx d H Q=>∃l b a c,x=.ref l/\d=[.ref b]/\H l=Φ (.lst a)/\H b=Φ (.lst c)/\a.length+c.length<=sizeLine/\Q .non (upd H l (.lst (a++c)))
def zgv:MtM X "list.extend" zp3:=by
 intro g s y H x A v B Q I j k h;let⟨l,b,C,E,rfl,rfl,i,m,G,q⟩:=h;cases j;let⟨u,rfl,o⟩:=k.one;cases o;let⟨z,c,n,r,J,e⟩:=I.lstM i;let⟨L,a,p,t,w,e2⟩:=I.lstM m;have f:c.toArray.size+a.toArray.size<=sizeLine:=by rw[size_toArray,size_toArray];lia
 have d:¬(!c.toArray.isEmpty&&Builtin.List.listTooLong (c.toArray.size+a.toArray.size))=Γ:=by rw[znr f,Bool.and_false];exact Ν
 refine call_meets F.slot_list_extend ⟨_,e,rfl⟩ F.entry_list_extend (F.args_list_extend_2 _ _)
  (AutoSeq1.list_extend_list_list_0 l c.toArray n b a.toArray p d (by rw[size_toArray];lia) (by lia)) ⟨e,e2,?_⟩
 refine⟨.non,_,I.lset (its':=c++a) i e (by simp) (r.append t) ?_,rfl,q⟩;rw[length_append];lia
abbrev zsx:V->List V->Hp->VK->Prop:=λx b H Q=>∃l a i k y,x=.ref l/\b=[.int i]/\H l=Φ (.lst a)/\-(2^63)<=i/\i<2^63/\seqIndex? i a.length=Φ k/\a[k]?=Φ y/\Q y (upd H l (.lst (a.eraseIdx k)))
def zns:MtM X "list.pop" zsx:=by
 intro c s G H x J v L Q I f g h;let⟨l,j,i,k,y,rfl,rfl,d,m,o,p,A,q⟩:=h;cases f;let⟨u,rfl,B⟩:=g.one;let⟨t,rfl⟩:=B;let⟨z,a,n,r,C,e⟩:=I.lstM d;let⟨w,E,b⟩:=r.get A;refine call_meets F.slot_list_pop ⟨_,e,rfl⟩ F.entry_list_pop (F.args_list_pop_2 _ _)
  (MeetsSeq.list_pop_at l a.toArray n i t k w (fitsIndex_both m o) (by rw[size_toArray,<-C];exact p) (by rw[<-Array.getElem?_toList];exact E) (by rw[size_toArray];lia)) ⟨e,?_⟩
 refine⟨y,_,I.lset (its':=a.eraseIdx k) d e ?_ (r.eraseIdx k) ?_,b,q⟩;show a.toArray.eraseIdxIfInBounds k=(a.eraseIdx k).toArray;rw[List.eraseIdxIfInBounds_toArray];have:=zgE j k;lia
abbrev rCat:R2:=λx y H Q=>∃l b a c,x=.ref l/\y=.ref b/\H l=Φ (.lst a)/\H b=Φ (.lst c)/\a.length+c.length<=sizeLine/\∀p,H p=Ψ->Q (.ref p) (upd H p (.lst (a++c)))
def zsX:OpR X (binaryOp .Add) rCat:=by
 intro d s p H x y v u Q I f g h;let⟨l,b,t,w,rfl,rfl,i,hB,A,q⟩:=h;cases f;cases g;let⟨z,c,n,r,B,e⟩:=I.lstM i;let⟨C,a,E,j,k,m⟩:=I.lstM hB;refine PySem.P.add_list e m ?_ (by rw[size_toArray,size_toArray];lia);have o:c.toArray++a.toArray=(c++a).toArray:=by simp
 rw[o];exact⟨.ref _,_,I.lnew (t':=s.toks) (r.append j) (by rw[length_append];lia),rfl,q _ I.fresh⟩
end
end L2
namespace Att
open PySem PySem.W PySem.Calls PyProof.Rows
def zed:∀(ns:List Int)(vs:List Ξ),WellAll P h vs (ns.map WData.int)->IntsAre vs ns:=by intro ns;induction ns with| nil=>intro vs w;rw[map_nil]at w;cases w;exact .nil| cons n ns c=>intro vs w;rw[Ο]at w;cases w with| cons a b=>cases a;exact .cons _ _ (c _ b)
def zki{l:OpenLaw}(o:l.most=Φ n)(b:l.row.toRowW.claim.pre args=Γ)(j:WellAll P h c args):
  ∃a vs ns,c=[Ξ.ref a]/\args=[WData.list (ns.map WData.int)]/\h.get? a=Φ {cls:=.type "list",data:=.seq vs.toArray}/\IntsAre vs ns/\ns.length<=n:=by
 have k:WShape.hasAll [] args [.list .int]=Γ:=(pre_splitW b).1;have m:l.pre.holds [] {args:=args}=Γ:=(pre_splitW b).2;let⟨d,r,rfl,p,s⟩:=hasAllW_cons k;obtain rfl:=hasAllW_nil s;let⟨y,rfl,t⟩:=hasW_list p;let⟨ns,rfl⟩:=items_int t;have e:ns.length<=n:=by
  unfold OpenLaw.pre at m;have g:(WTm.not (.lt (.lit (.int (n:Int))) (.len (.arg 0)))).holds [] {args:=[.list (ns.map .int)]}=Γ:=by have g:=(holds_andW m).1;rw[o]at g;exact g
  have i:=condW_of g (w_not (w_lt w_lit (w_len_list (w_arg rfl))));rw[length_map]at i;refine Nat.le_of_not_lt λq=>?_;have u:(n:Int)<((ns.length:Nat):Int):=by omega
  first
   |(rw[decide_eq_true u]at i;exact absurd i (by decide))
   |(simp at i;omega)
 cases j with| cons v w=>cases w;cases v with|list x f=>exact⟨_,_,ns,rfl,rfl,x,zed ns _ f,e⟩
def zkS(l:OpenLaw)(args):l.row.toRowW.claim.post args (.bool Γ) args=Γ:=
 postW_of (r:=l.row.toRowW) (X:=(Γ==Γ))
  (show WShape.has [] (.bool Γ) .bool=Γ by first|rfl|decide|simp[WShape.has,WShape.arms,WShape.armsAll])
  (show(WTm.eq .res (.lit (.bool Γ))).value [] {args:=args,res:=Φ (.bool Γ),after:=args}=Φ (.bool (Γ==Γ)) from w_eq_bool (w_res rfl) w_lit) rfl
def attach_call{l:OpenLaw}(B:l.most=Φ n)(s:d.params.defaults=[])(call:∀(w:ϋ)(s₀ b:Β)(m t:Str->Option Ξ)(h:Addr)(o:Obj)(u p c:Ξ)(a:Addr)(vs:List Ξ)(ns:List Int),
   Ground q e [] C w s₀ m t b.heap->YP w b.heap->
   b.heap.get? h=Φ o->o.data=.func (docDef d.name d.params d.body d.scope u p c)->b.heap.CodeRec p d.name->m d.name=Φ (.ref h)->
   b.heap.get? a=Φ {cls:=.type "list",data:=.seq vs.toArray}->IntsAre vs ns->ns.length<=n->b.gens = #[]->
   codeAny (model l.prog w) callerA (.call (.ref h) ⟨[.ref a],[]⟩) (λr s'=>r=.ok (.ret (.bool Γ))/\OldK b.heap s'.heap/\s'.os=b.os/\AllBare s'.gens) b):
  WalkO q e C YP l.row.toRowW d [] (λf vs=>PySem.call f vs):=by
 intro w s₀ b m t G Y h o u p c E kV H I v hD x J args z as i A L y M;obtain rfl:E=.none:=Dflts.none hD s;obtain rfl:kV=.none:=Dflts.noKw hD;let⟨a,vs,ns,rfl,rfl,j,g,k⟩:=zki B i y;refine enter_call (Ϛ (call w s₀ b m t h o u p c a vs ns G Y H (fd_plain I) v x j g k J) λr s' N=>?_);let⟨rfl,O,Q,T⟩:=N;exact⟨.inl ⟨.bool Γ,.bool Γ,[],rfl,λ_=>rfl,.bool Γ,zkS l _,λ_=>⟨Pairwise.nil,λ_ U=>(by cases U)⟩⟩,O,Q,T⟩
end Att
namespace L2
open PySem PySem.Spec PyProof.Rows
def zdM:∀{vs:List Ξ}{ns:List Int},IntsAre vs ns->Vals (ns.map V.int) vs
 |_,_,.nil=>.nil|_,_,.cons n t h=>.cons ⟨t,rfl⟩ (zdM h)
abbrev zap(s:Stmt):Arguments:=match s with|.FunctionDef _ a _ _ _ _ _ _ _ _=>a|_=>{posonlyargs:=[],args:=[],vararg:=Ψ,kwonlyargs:=[],kw_defaults:=[],kwarg:=Ψ,defaults:=[]}
abbrev zal(s:Stmt):List Stmt:=match s with|.FunctionDef _ _ b _ _ _ _ _ _ _=>b|_=>[]
abbrev zaa(s:Stmt):Scope:=match s with|.FunctionDef _ _ _ _ _ _ a _ _ _=>a|_=>{kind:=.function,names:=[],isGenerator:=Δ,isCoroutine:=Δ}
@[reducible]def CX0:CXT:=λ_ _ _ _ _ _=>False
@[reducible]def E0:XK:=λ_ _ _=>False
def zhB:zev CX0 X E0:=λ_ _ _ _ _ _ _ h=>h.elim
structure Fun(K:Frag)(x qual:Str)(st:Stmt)(f:Addr)(fd:FuncData):Prop where
 ex:∃(oc:Ξ) (od:Option Addr) (kV doc pm:Ξ) (an:Option Addr) (cdv ct:Ξ) (osl:Array (Option Ξ)),
  fd=fnOf x qual (zap st) (zal st) (zaa st) .none kV doc pm an cdv ct/\K.lookup f=Φ ⟨oc,od,.func fd,osl⟩/\codeIn K cdv qual=Γ
 kp:keepIn K (.ref f)=Γ
abbrev Same(H H':Hp):Prop:=∀b o,H b=Φ o->H' b=Φ o
abbrev zbm(a:List (Str×Addr))(y:Str×NameKind)(b:List (Str×Addr)):List (Str×Addr):=if(y.2==NameKind.free)=Γ then(match a.lookup y.1 with|some c=>(y.1,c)::b|none=>b) else b
abbrev zhZ(b:List (Str×Addr))(names:List (Str×NameKind))(c:List (Str×Addr)):List (Str×Addr):=names.foldl (λa y=>zbm b y a) c
def zei{c a:Type}(f)(g:c->a->a):∀(l:List c)(b:a),(∀x∈l,∀b,f x b=pure (.yield (g x b)))->forIn l b f=(pure (l.foldl (λb x=>g x b) b):Sem a)
 | [],b,_=>rfl| x::l,b,h=>by rw[List.forIn_cons,h x Μ];exact zei f g l _ λy d=>h y (Κ _ d)
def zbW(h:∀y∈scope.names,y.2=.free->∃c,env.cells.lookup y.1=Φ c):
  closureFor scope env=pure (zhZ env.cells scope.names []):=by
 unfold closureFor zhZ;dsimp only;rw[zei _ (λy a=>zbm env.cells y a)];simp;intro y e a;let⟨n,k⟩:=y;by_cases b:k=.free;let⟨c,d⟩:=h _ e b;subst b;simp[cellOf,d,zbm];have:(k==NameKind.free)=Δ:=by simpa using b
 simp[this,zbm]
def zg0:∀(names:List (Str×NameKind))(b:List (Str×Addr)),(∀x c,b.lookup x=Φ c->a.lookup x=Φ c)->
  ∀x c,(zhZ a names b).lookup x=Φ c->a.lookup x=Φ c
 | [],b,h=>h| y::r,b,h=>by
  refine zg0 r (zbm a y b) ?_;intro x c e;unfold zbm at e;split at e;split at e;rename_i g d;rw[Ϝ]at e;cases f:x==y.1 with| true=>rw[f]at e;have q:=beq_iff_eq.mp f;have i:=Option.some.inj e;rw[q,<-i];exact d|false=>rw[f]at e;exact h x c e
  exact h x c e;exact h x c e
def zek:∀(names:List (Str×NameKind))(a:List (Str×Addr))(x:Str),(∀y∈names,y.2=.free->∃c,b.lookup y.1=Φ c)->
  ((∃c,a.lookup x=Φ c)\/(x,NameKind.free)∈names)->∃c,(zhZ b names a).lookup x=Φ c
 | [],a,x,_,h=>by rcases h with h|h;exact h;cases h
 |y::r,a,x,d,h=>by
  refine zek r (zbm b y a) x (λz f=>d z (Κ _ f)) ?_;rcases h with⟨c,h⟩|h;left;unfold zbm;split;split;rename_i g i;rw[Ϝ];cases j:x==y.1 with|true=>exact⟨g,rfl⟩|false=>exact⟨c,h⟩
  exact⟨c,h⟩;exact⟨c,h⟩;rcases mem_cons.mp h with h|h;left;subst h;let⟨c,e⟩:=d _ Μ rfl;refine⟨c,?_⟩;simp[zbm,e];exact .inr h
abbrev zcs(env:Env)(y:Str×NameKind):Str×NameKind:=if(y.2==.free&&env.scope.kind==.function&&env.kindOf y.1==Φ .cell)=Γ then(y.1,.cell) else y
def zbK(scope)(env):(relabel scope env).names=scope.names.map (zcs env):=by refine Τ λy _=>?_;rfl
def zdQ(env)(y):(zcs env y).1=y.1:=by unfold zcs;split<;>rfl
def zdP(env)(y):(zcs env y).2=y.2\/(y.2=.free/\(zcs env y).2=.cell):=by unfold zcs;split;rename_i h;replace h:=qL qb1 h;exact .inr ⟨h.1.1,rfl⟩;exact .inl rfl
def zb4(env)(x):∀names:List (Str×NameKind),∀k,(names.map (zcs env)).lookup x=Φ k->∃a,(x,a)∈names/\names.lookup x=Φ a/\(k=a\/(a=.free/\k=.cell))
 | [],k,h=>by simp at h| y::r,k,h=>by rw[Ο]at h;have c:=zdQ env y;have d:=zdP env y;let⟨n,f⟩:=y;generalize j:zcs env (n,f)=z at *;let⟨g,i⟩:=z;simp only at c d;subst c;rw[Ϝ]at h;rw[Ϝ];cases b:x==g with| true=>rw[b]at h;have q:x=g:=beq_iff_eq.mp b;subst q;have e:i=k:=Option.some.inj h;subst e;exact⟨f,Μ,rfl,d⟩| false=>rw[b]at h;let⟨a,m,l,q⟩:=zb4 env x r k h;exact⟨a,Κ _ m,l,q⟩
def zbL(env)(x):∀names:List (Str×NameKind),names.lookup x=Φ .free->(names.map (zcs env)).lookup x=Φ .free\/(names.map (zcs env)).lookup x=Φ .cell
 | [],h=>by simp at h| y::r,h=>by
  rw[Ο];have b:=zdQ env y;have a:=zdP env y;let⟨n,c⟩:=y;generalize i:zcs env (n,c)=z at *;let⟨g,d⟩:=z;simp only at b a;subst b;rw[Ϝ]at h;rw[Ϝ];cases f:x==g with
  |true=>rw[f]at h;have e:=Option.some.inj h;subst e;rcases a with a|⟨_,a⟩;left;rw[a];right;rw[a]
  |false=>rw[f]at h;exact zbL env x r h
structure CompOk(sc scope:Scope)(N0:List Str)(js:List Nat):Prop where
 kind:scope.kind=.function
 nocell:∀y∈scope.names,y.2≠.cell
 locs:∀y∈scope.names,y.2=.local->scope.names.lookup y.1=Φ .local
 frees:∀y∈scope.names,y.2=.free->sc.names.lookup y.1=Φ .cell\/sc.names.lookup y.1=Φ .free
 caps:∀j∈js,scope.names.lookup (N0.getD j "")=Φ .free/\j<N0.length
noncomputable abbrev zaI(X:Cx)(a:List Str)(scope:Scope)(cl:List (Str×Addr))(C:Addr)(b:List Addr)(s:Β)(H:Hp)(pn:List (Addr×Obj)):Cx:={X with N:=a,s₀:=s,H₀:=H,env:=compEnvC scope cl C X.env,outer:=X.stack,stack:=X.stack,ex:=b,fn:=λ_=>Δ,pn:=pn,xe:=λ_ _=>False}
abbrev csl(a:Nat)(b:List Nat)(c:St):St:=List.replicate a Ψ++b.map λj=>(c[j]?).join
noncomputable abbrev capN(a:List Str)(tgs:List Str)(b:List Nat):List Str:=tgs++b.map λj=>a.getD j ""
abbrev PTs(X:Cx)(b:List Expr)(t:TT):Prop:=
 ∀(a:List (Addr×Obj))(s:Β)(d:St)(H:Hp)(Q:Bool->Hp->Prop),Inv X a d H s->t d H Q->
  wpAny (model X.prog X.w) X.A (forIn b Γ λc r=>if r=Γ then do let e <-isTrue c X.env (eval c X.env);pure (ForInStep.yield e) else pure (ForInStep.yield r)) (TP X a d Q) X.xe s
abbrev tYes:TT:=λ_ H Q=>Q Γ H
def zp9:PTs X [] tYes:=λa s b H Q I h=>wpAny_tests_nil ⟨H,I,h⟩
def zkL(h:PT X c t):PTs X [c] t:=λa s b H Q I q=>wpAny_tests_one (h a s b H Q I q)
abbrev zpi(o:Nat)(q:List Nat)(r:TI)(g:TG)(tt:TT)(s:TE):TE:=λh H Q=>r h H λJ j=>∀p,j p=Ψ->
 ∃W:Nat->Nat->St->Hp->Prop,(∃m,W 0 m (csl o q h) (upd j p (.lst [])))/\∀i m d e,W i m d e->
  (J.stop i e/\Q (.ref p) e)\/(J.go i e/\∃N:St->Hp->Prop,(∀a f,N a f->∃k,k<m/\W (i+1) k a f)/\
   ∀x f,J.yld i e x f->g x d f λa t=>tt a t λb l=>if b=Γ then s a l λv n=>∃c,n p=Φ (.lst c)/\c.length<sizeLine/\N a (upd n p (.lst (c++[v]))) else N a l)
section
variable{prog:Υ}{w:ϋ}{A:ϐ}{R:Result->Β->Prop}{s:Β}
def zjH(J:Nat->Β->Prop)(k:∀n s,J n s->wpAny (model prog w) A (pyNext it) (λr b=>(r=Ψ/\R (.ok .next) b)\/∃v,r=Φ v/\
   wpAny (model prog w) A (letOwnedTupleGo B it v) (λ_ s₀=>wpAny (model prog w) A (assign B env v) (λ_ e=>
    wpAny (model prog w) A (forIn l Γ λc r=>if r=Γ then do let ok <-isTrue c env (eval c env);pure (ForInStep.yield ok) else pure (ForInStep.yield r)) (λok d=>
     if ok=Γ then wpAny (model prog w) A (eval o env) (λx g=>wpAny (model prog w) A (call (.builtin "list.append") [p,x]) (λ_ i=>∃m,m<n/\J m i) (λ_ _=>False) g) (λ_ _=>False) d
     else ∃m,m<n/\J m d) (λ_ _=>False) e) (λ_ _=>False) s₀) (λ_ _=>False) b) (λ_ _=>False) s)(n)(h:J n s):codeAny (model prog w) A (.compLoop (.ListComp o [⟨B,q,l,0⟩] scope pos) 0 it p env) R s:=by
 refine codeAny_loop rfl J (λn s C=>?_) n h;show wpAny _ A ((compTurn (.ListComp o [⟨B,q,l,0⟩] scope pos) 0 it p env).onRaise (λx=>do noteFrame x env;theTreesLotGoes x)) _ _ s;refine wpAny_noted ?_;rw[compTurn_list];refine Θ (wpAny_standAt (Θ (ό (k n s C) (λr b a=>?_) λ_ _ f=>f.elim)));rcases a with⟨rfl,a⟩|⟨v,rfl,a⟩;exact Ω a;refine Θ (ό a (λ_ s₀ t=>?_) λ_ _ f=>f.elim);refine Θ (ό t (λ_ e u=>?_) λ_ _ f=>f.elim);refine Θ (ό u (λok d j=>?_) λ_ _ f=>f.elim);cases ok with|false=>exact Ω ⟨rfl,j⟩| true=>refine Θ (Θ (ό j (λx g y=>?_) λ_ _ f=>f.elim));exact Θ (ό y (λ_ i z=>Ω (Ω ⟨rfl,z⟩)) λ_ _ f=>f.elim)
end
section
variable{X:Cx}{sc scope:Scope}{tgs:List Str}{js:List Nat}{elt tg iter:Expr}{ifs:List Expr}{pos:Pos}{wi:TI}{g:TG}{tt:TT}{te:TE}
def zeN(hc:X.calm=Γ)(hsc:X.env.scope=sc)(ok:CompOk sc scope X.N js)(hg:∀cl C A s H pn,PG (zaI X (capN X.N tgs js) scope cl C A s H pn) tg g)(ht:∀cl C A s H pn,PTs (zaI X (capN X.N tgs js) scope cl C A s H pn) ifs tt)(he:∀cl C A s H pn,PE (zaI X (capN X.N tgs js) scope cl C A s H pn) elt te){RR:Ξ->Addr->Result->Β->Prop}{Q:VK}(I2:Inv X a σ H2 s2)(T:Turn X.prog X.w X.K tg J A it tn)(st2:tn 0 s2.heap)(f2:∀b∈A,FpOk X a H2 b)(rd:∀p,H2 p=Ψ->∃W:Nat->Nat->St->Hp->Prop,(∃m,W 0 m (csl tgs.length js σ) (upd H2 p (.lst [])))/\∀i m G H',W i m G H'->
   (J.stop i H'/\Q (.ref p) H')\/(J.go i H'/\∃N:St->Hp->Prop,(∀O H2,N O H2->∃m',m'<m/\W (i+1) m' O H2)/\
    ∀x H2,J.yld i H' x H2->g x G H2 λO U=>tt O U λb H4=>if b=Γ then te O H4 λv H5=>∃I,H5 p=Φ (.lst I)/\I.length<sizeLine/\N O (upd H5 p (.lst (I++[v]))) else N O H4))(fin:∀p C H' s',Inv X a σ H' s'->(∃m,s'.heap.Ns C m)->s2.heap.objs.size<C->H' C=Ψ->Q (.ref p) H'->RR (.ref p) C (.ok .next) s'):
  wpAny (model X.prog X.w) X.A (newList []) (λI s₃=>wpAny (model X.prog X.w) X.A (newFunctionEnv scope X.env.globals (zhZ X.env.cells scope.names []) [] X.env.qual Ψ .none (Φ X.env)) (λcenv s₄=>codeAny (model X.prog X.w) X.A (.compStart (.ListComp elt [⟨tg,iter,ifs,0⟩] scope pos) 0 (.ref it) I {cenv with scope:=relabel scope X.env}) (RR I cenv.locals) s₄) E s₃) E s2:=by
 subst hsc;refine ϔ (wpAny_newFunctionEnv ok.nocell (by intro y hy;simp at hy) (λB hns₁ hsb₁=>?_) ok.kind);have w:Inv X a σ (upd H2 s2.heap.objs.size (.lst [])) {s2 with heap:=s2.heap.push {cls:=.type "list",data:=.seq ([]:List Ξ).toArray}}:=I2.lnew (its:=[]) (ys:=[]) (t':=s2.toks) .nil (zero_le _);let⟨W,⟨m0,w0⟩,turn⟩:=rd _ I2.fresh;generalize hp:s2.heap.objs.size=p at *;generalize hs3:({s2 with heap:=s2.heap.push {cls:=.type "list",data:=.seq ([]:List Ξ).toArray}}:Β)=l at w;have e3:l.heap=s2.heap.push {cls:=.type "list",data:=.seq ([]:List Ξ).toArray}:=by rw[<-hs3]
 have sz3:l.heap.objs.size=p+1:=by rw[e3,ώ,hp]
 generalize hH3:upd H2 p (.lst [])=U at *
 -- the block's frame
 have hns:B.Ns l.heap.objs.size (λx=>([]:List (Str×Ξ)).reverse.lookup x):=by rw[e3];exact hns₁
 have hsb:Heap.SameBut l.heap.objs.size (l.heap.push {cls:=.type "dict",data:=.dict #[]}) B:=by rw[e3];exact hsb₁
 have Y:∀b o,l.heap.get? b=Φ o->B.get? b=Φ o:=λb o e=>(hsb.2 b (ne_of_lt (Η e))).trans (Λ _ e);have frees:∀y∈scope.names,y.2=.free->∃c,X.env.cells.lookup y.1=Φ c:=λy hy hk=>I2.ok.has y.1 (ok.frees y hy hk);have t:∀x c,(zhZ X.env.cells scope.names []).lookup x=Φ c->X.env.cells.lookup x=Φ c:=zg0 scope.names [] (λx c e=>by simp at e);generalize hcl:zhZ X.env.cells scope.names []=cl at *;have okX:(zaI X (capN X.N tgs js) scope cl l.heap.objs.size A l U (X.pn++a)).Ok:=
  {mod:=w.ok.mod,kind:=ok.kind,glob:=w.ok.glob,blt:=w.ok.blt,above:=le_refl _,
   inj:=λx y c e1 M=>w.ok.inj x y c (t x c e1) (t y c M),
   has:=λx hk=>by
    have hk':(scope.names.map (zcs X.env)).lookup x=Φ .cell\/(scope.names.map (zcs X.env)).lookup x=Φ .free:=by rw[<-zbK];exact hk
    rw[<-hcl];refine zek scope.names [] x frees (.inr ?_);rcases hk' with q|q;let⟨k0,m,_,e⟩:=zb4 X.env x _ _ q;rcases e with e|⟨e,_⟩;subst e;exact absurd rfl (ok.nocell _ m);subst e;exact m;let⟨k0,m,_,e⟩:=zb4 X.env x _ _ q;rcases e with e|⟨e,z⟩;subst e;exact m;exact absurd z (λh=>(by cases h)),
   cab:=λx c e=>absurd e Ν,hd:=w.ok.hd,frames:=w.ok.frames,stk:=.inl rfl,
   exf:=λb f=>⟨ne_of_lt (by
    let⟨o,ho,_⟩:=T.obj 0 _ st2 b f;show b<l.heap.objs.size;rw[sz3,<-hp];exact Ϟ (Η ho)),λx c e=>(f2 b f).2.2.2.2.1 x c (t x c e)⟩,
   bs:=w.bs,bsz:=le_trans w.ok.bsz w.sz,
   noex:=λb o e f=>by rcases(f2 b f).2.2.2.1 with z|z;exact w.ok.noex b o e z;exact absurd (lt_of_lt_of_le (Η e) (le_trans w.ok.bsz z)) (lt_irrefl _),
   exfs:=λb f hx=>by rcases mem_cons.mp (w.stkSub b hx) with z|z;exact(f2 b f).2.1 z;exact(f2 b f).2.2.1 z,
   funs:=w.stack,frf:=w.stkFree}
 have I4:Inv (zaI X (capN X.N tgs js) scope cl l.heap.objs.size A l U (X.pn++a)) [] (csl tgs.length js σ) U {l with heap:=B}:=
  {ok:=okX,os:=rfl,bare:=w.bare,base:=Un.kept Y,
   loc:=⟨_,hns,λi x v e1 M e3=>by
    have e1:(tgs++js.map λj=>X.N.getD j "")[i]?=Φ x:=e1;have M:(List.replicate tgs.length Ψ++js.map λj=>(σ[j]?).join)[i]?=Φ (Φ v):=M;by_cases hi:i<tgs.length;rw[getElem?_append_left (by rw[length_replicate];exact hi),List.getElem?_replicate,if_pos hi]at M;cases M;rw[getElem?_append_right (by lia),getElem?_map]at e1;rw[getElem?_append_right (by rw[length_replicate];lia),length_replicate,getElem?_map]at M;cases hj:js[i-tgs.length]? with
    |none=>rw[hj]at e1;exact nS e1
    |some j=>
     rw[hj]at e1 M;have e1:X.N.getD j ""=x:=Option.some.inj e1;have M:(σ[j]?).join=Φ v:=Option.some.inj M;have hjm:j∈js:=mem_of_getElem? hj;let⟨hfr,hjl⟩:=ok.caps j hjm;rw[e1]at hfr;have hNj:X.N[j]?=Φ x:=by rw[Ι hjl];rw[ϊ,Ι hjl]at e1;exact congrArg Φ e1
     have hσ:σ[j]?=Φ (Φ v):=by
      cases q:σ[j]? with
      |none=>rw[q]at M;exact nS M
      |some o=>rw[q]at M;have M:o=Φ v:=M;rw[M]
     have hmem:(x,NameKind.free)∈scope.names:=by let⟨l1,l2,h3,_⟩:=List.lookup_eq_some_iff.mp hfr;rw[h3];simp
     have hkX:=ok.frees _ hmem rfl;have hvis:Vis X.env.scope x:=hkX.elim (λz=>.inr (.inl z)) λz=>.inr (.inr z);let⟨m,hn,hl⟩:=w.loc;let⟨u,r,lk⟩:=hl j x v hNj hσ hvis;refine⟨u,r,.inr ⟨?_,?_⟩⟩;have q:=zbL X.env x scope.names hfr;rw[<-zbK]at q;exact q.symm;rcases lk with⟨k,_⟩|⟨_,c,ec,z⟩
     . exfalso;have k:X.env.scope.names.lookup x=Φ .local:=k;rcases hkX with q|q<;>(rw[k]at q;cases q)
     obtain⟨c',hc'⟩:∃c',cl.lookup x=Φ c':=by rw[<-hcl];exact zek scope.names [] x frees (.inr hmem)
     have q:=t x c' hc';rw[ec]at q;cases q;let⟨o,ho,hd⟩:=z;exact⟨c,hc',o,Y _ _ ho,hd⟩⟩,
   cell:=λx c e=>by let⟨v,o,ho,hd⟩:=w.cell x c (t x c e);exact⟨v,o,Y _ _ ho,hd⟩,
   free:=w.fresh,
   freeC:=λx c e=>w.freeC x c (t x c e),
   pin:=λq hq=>by
    have hq:q∈X.pn++a:=by simpa using hq
    let⟨e,n,ne,nf,d⟩:=w.pin q hq;refine⟨Y _ _ e,n,ne_of_lt (Η e),λz=>?_,d⟩;rcases mem_cons.mp (w.stkSub _ z) with z|z;exact ne z;exact nf z,
   hok:=w.hok.kept Y,
   len:=by show(List.replicate tgs.length Ψ++js.map λj=>(σ[j]?).join).length=(tgs++js.map λj=>X.N.getD j "").length;simp}
 have stat:∀{H':Hp},(∀b∈A,H' b=Ψ)->∀b∈A,FpOk (zaI X (capN X.N tgs js) scope cl l.heap.objs.size A l U (X.pn++a)) [] H' b:=λhn b f=>
  ⟨hn b f,(okX.exf b f).1,okX.exfs b f,.inl f,(okX.exf b f).2,λq hq=>by
   have hq:q∈X.pn++a:=by simpa using hq
   exact(f2 b f).2.2.2.2.2 q hq⟩
 have fr3:∀b∈A,U b=Ψ:=λb f=>by let⟨o,ho,_⟩:=T.obj 0 _ st2 b f;rw[<-hH3,zad (ne_of_lt (hp▸Η ho))];exact(f2 b f).1
 have st4:tn 0 B:=T.keep 0 _ _ st2 λb f o e=>Y b o (by rw[e3];exact Λ _ e);have loop:codeAny (model X.prog X.w) X.A (.compLoop (.ListComp elt [⟨tg,iter,ifs,0⟩] scope pos) 0 (.ref it) (.ref p) (compEnvC scope cl l.heap.objs.size X.env)) (RR (.ref p) l.heap.objs.size) {l with heap:=B}:=by
  refine zjH (λn s'=>∃i G H',Inv (zaI X (capN X.N tgs js) scope cl l.heap.objs.size A l U (X.pn++a)) [] G H' s'/\tn i s'.heap/\(∀b∈A,H' b=Ψ)/\W i n G H') ?_ m0 ⟨0,_,U,I4,st4,fr3,w0⟩;rintro n s4 ⟨i,σ4,H4,J4,st4,fr4,w4⟩;rcases turn i n σ4 H4 w4 with⟨stop,qn⟩|⟨go,N,hN,step⟩;refine thn (T.done (zaI X (capN X.N tgs js) scope cl l.heap.objs.size A l U (X.pn++a)) rfl rfl rfl hc i [] s4 σ4 H4 _ J4 (stat fr4) st4 stop) λr s5 ⟨hr,J5⟩=>.inl ⟨hr,?_⟩;have hX:Inv X a σ H4 s5:=w.call' J5.os J5.base J5.hok J5.bare λb f=>⟨(f2 b f).2.2.2.1,(f2 b f).2.1,(f2 b f).2.2.2.2.1,(f2 b f).2.2.2.2.2⟩;let⟨m,hm,_⟩:=J5.loc;exact fin p _ H4 s5 hX ⟨m,hm⟩ (by rw[sz3];exact ϕ _) J5.free qn
  refine thn (T.item (zaI X (capN X.N tgs js) scope cl l.heap.objs.size A l U (X.pn++a)) rfl rfl rfl hc i [] s4 σ4 H4 _ J4 (stat fr4) st4 go) λr s5 ⟨u,hr,h5⟩=>.inr ⟨u,hr,?_⟩;refine thn h5 λ_ s6 q'=>?_;let⟨x,H6,J6,r6,y6,st6,fr6⟩:=q';have J6':=J6.pinned (stat fr6) (T.obj _ _ st6);refine thn (hg _ _ _ _ _ _ _ s6 σ4 H6 x u _ J6' r6 (step x H6 y6)) λ_ s7 q'=>?_;let⟨L,H7,J7,q7⟩:=q';refine thn (ht _ _ _ _ _ _ _ s7 L H7 _ J7 q7) λok8 s8 q'=>?_;let⟨H8,J8,q8⟩:=q';have again:∀{s9:Β}{H9:Hp},Inv (zaI X (capN X.N tgs js) scope cl l.heap.objs.size A l U (X.pn++a)) ([]++zgt A s6.heap) L H9 s9->N L H9->
    ∃m,m<n/\∃i G H',Inv (zaI X (capN X.N tgs js) scope cl l.heap.objs.size A l U (X.pn++a)) [] G H' s9/\tn i s9.heap/\(∀b∈A,H' b=Ψ)/\W i m G H':=λ{s9 H9} J9 n9=>by
   let⟨m',hm,w9⟩:=hN L H9 n9;refine⟨m',hm,i+1,L,H9,J9.unpinned,T.keep _ _ _ st6 λb f o e=>(J9.pin (b,o) (mem_append_right _ (mem_append_right _ (zcm f e)))).1,λb f=>?_,w9⟩;let⟨o,e,d⟩:=T.obj _ _ st6 b f;exact(J9.pin (b,o) (mem_append_right _ (mem_append_right _ (zcm f e)))).2.1
  cases ok8 with|false=>exact again J8 q8| true=>refine thn (he _ _ _ _ _ _ _ s8 L H8 _ J8 q8) λy s9 q'=>?_;let⟨v,H9,J9,r9,I,ha,hl,q9⟩:=q';refine thn (zgw _ s9 L H9 (.ref p) [v] (.ref p) [y] (λ_ H=>N L H) J9 rfl (.cons r9 .nil) ⟨p,I,v,rfl,rfl,ha,hl,q9⟩) λ_ s10 q'=>?_;let⟨_,H10,J10,_,q10⟩:=q';exact again J10 q10
 exact codeAny_compStart_list loop (T.self _ 0 _ _ _ st4 loop)
def znh(sc)(tgs)(js)(r:X.calm=Γ)(d:X.env.scope=sc)(ok:CompOk sc scope X.N js)(t:PI X tg iter wi)(u:∀cl C a s H pn,PG (zaI X (capN X.N tgs js) scope cl C a s H pn) tg g)(w:∀cl C a s H pn,PTs (zaI X (capN X.N tgs js) scope cl C a s H pn) ifs tt)(z:∀cl C a s H pn,PE (zaI X (capN X.N tgs js) scope cl C a s H pn) elt te)(hs:∀x,foldedSetIterable iter X.env x=pure x:=by intro _;rfl):
  PE X (.ListComp elt [⟨tg,iter,ifs,0⟩] scope pos) (zpi tgs.length js wi g tt te):=by
 intro f s A H Q I h;rw[eval_ListComp];have frees:∀y∈scope.names,y.2=.free->∃c,X.env.cells.lookup y.1=Φ c:=λy B E=>I.ok.has y.1 (by
  have q:=ok.frees y B E;rw[<-d]at q;exact q)
 refine wpAny_comprehension_free (use:=Ψ) rfl hs (zbW frees) ok.kind ok.locs (thn (t f s A H _ I h) λv s1 G=>thn G λL s2 M=>?_);let⟨it,a,tn,J,H2,e,i,T,k,N,O⟩:=M;subst e;refine zeN r d ok u w z i T k N O (Q:=Q) λp C U Y I' l j hn q=>?_;let⟨m,l⟩:=l;refine⟨m,l,λh' n=>⟨.ref p,U,?_,rfl,q⟩⟩;exact I'.turned (t':=Y.toks) (it:=C) (λb o hb e=>(n.2 b hb).trans e) hn (ne_of_gt (lt_trans i.lt j)) (.inr (le_trans i.sz (le_of_lt j))) (λx c e=>by let⟨v,o,ho,_⟩:=i.cell x c e;exact ne_of_lt (lt_trans (Η ho) j)) λq hq=>ne_of_lt (lt_trans (Η (i.pin q hq).1) j)
def zqa(sc)(tgs)(js)(hN:X.N.Nodup)(r:X.N[i]?=Φ y)(t:Loc X.env.scope y)(hc:X.calm=Γ)(j:X.env.scope=sc)(ok:CompOk sc scope X.N js)(hi:PI X tg iter wi)(hg:∀cl C f s H pn,PG (zaI X (capN X.N tgs js) scope cl C f s H pn) tg g)(ht:∀cl C f s H pn,PTs (zaI X (capN X.N tgs js) scope cl C f s H pn) ifs tt)(he:∀cl C f s H pn,PE (zaI X (capN X.N tgs js) scope cl C f s H pn) elt te)(u:swapsWith (.ListComp elt [⟨tg,iter,ifs,0⟩] scope pos) (Φ (.Name y py)) spos.line X.env=pure Γ:=by rfl)(hs:∀x,foldedSetIterable iter X.env x=pure x:=by intro _;rfl)(hf:X.fn y=Γ\/X.env.scope.names.lookup y=Φ .local:=by first|exact .inl rfl|exact .inr rfl|assumption):
  PS X (.Assign [.Name y py] (.ListComp elt [⟨tg,iter,ifs,0⟩] scope pos) spos) (tAsg (zpi tgs.length js wi g tt te) (zfP i)):=by
 intro d s w H D I h;have frees:∀y∈scope.names,y.2=.free->∃c,X.env.cells.lookup y.1=Φ c:=λy t hk=>I.ok.has y.1 (by
  have q:=ok.frees y t hk;rw[<-j]at q;exact q)
 rw[exec_Assign_Name_used _ _ _ _ u];refine Θ (wpAny_standAt (Θ ?_));show wpAny _ X.A (do let _ <-comprehension (.ListComp elt [⟨tg,iter,ifs,0⟩] scope pos) scope X.env _ (newList []) Δ (eval iter X.env) (Φ (assign (.Name y py) X.env))) _ _ s;refine Θ (ό (wpAny_comprehension_free (use:=Φ (assign (.Name y py) X.env)) (Q:=λ_ A=>SP X d D .next A) rfl hs (zbW frees) ok.kind ok.locs
  (thn (hi d s w H _ I h) λv s1 h1=>thn h1 λitv s2 h2=>?_)) (λ_ A B=>Ω (Ω B)) λ_ _ e=>e)
 let⟨it,f,tn,J,H2,e,k,T,E,f2,rd⟩:=h2;subst e;refine zeN hc j ok hg ht he k T E f2 rd (Q:=λx H1=>zfP i x w H1 D.nx) λp C H' A I' G n hn q=>?_;let⟨m,G⟩:=G;have hL:C≠X.env.locals:=ne_of_gt (lt_trans k.lt n);have l:∀x c,X.env.cells.lookup x=Φ c->c≠C:=λx c e=>by let⟨v,o,ho,_⟩:=k.cell x c e;exact ne_of_lt (lt_trans (Η ho) n)
 show wpAny _ X.A (assign (.Name y py) X.env (.ref p)) _ _ _;refine wpAny_assign_Name (zga I' hN r t (v:=.ref p) rfl (λL M N=>?_) hf);let⟨a,O,ha⟩:=N;have U:C≠a:=by rcases ha with z|z;rw[z];exact hL;exact λe=>l y a z e.symm
 refine⟨m,G.sameBut O U,λh' Y=>⟨w.set i (Φ (.ref p)),H',?_,q⟩⟩;exact M.turned (t':=L.toks) (it:=C) (λb o hb e=>(Y.2 b hb).trans e) hn hL (.inr (le_trans k.sz (le_of_lt n))) l λq B=>ne_of_lt (lt_trans (Η (k.pin q B).1) n)
end
structure FunV(K:Frag)(x qual:Str)(st:Stmt)(dV:Ξ)(f:Addr)(fd:FuncData):Prop where
 ex:∃(oc:Ξ) (od:Option Addr) (kV doc pm:Ξ) (an:Option Addr) (cdv ct:Ξ) (osl:Array (Option Ξ)),
  fd=fnOf x qual (zap st) (zal st) (zaa st) dV kV doc pm an cdv ct/\K.lookup f=Φ ⟨oc,od,.func fd,osl⟩/\codeIn K cdv qual=Γ
 kp:keepIn K (.ref f)=Γ
def zcH{K}{st}{e kV d g b ct}(l:K.lookup f=Φ ⟨j,m,.func (fnOf x a (zap st) (zal st) (zaa st) e kV d g i b ct),h⟩)(c:codeIn K b a=Γ)(k:keepIn K (.ref f)=Γ):FunV K x a st e f (fnOf x a (zap st) (zal st) (zaa st) e kV d g i b ct):=⟨⟨j,m,kV,d,g,i,b,ct,h,rfl,l,c⟩,k⟩
section
variable{P:Υ}{w:ϋ}{K:Frag}{mg:Str->Option Ξ}{base:Heap}
def FunV.ok{st}(F:FunV K x b st l f fd)(S:FnScope N ps (zaa st))(len:∀vs H Q E,sp vs H Q E->vs.length=ps.length)(c:∀(a:Ξ)(A:ϐ)(outer:List Env)(s:Β)(H:Hp)(vs:List V)(Q:VK)(E:XK),Room k (A.deeper (envOfC b (zaa st) s.heap.objs.size f a))->sp vs H Q E->
   ∃t,PSs (cxOf CX0 P w K mg base N b (zaa st) f a A outer s H E).nox (zal st) t/\t {nx:=λ_ H'=>Q .non H',rt:=Q} (start N vs) H):FnOk P w K mg base CX0 (k+1) f fd ps sp:=by
 let⟨m,n,kV,g,o,p,a,r,i,rfl,lk,d⟩:=F.ex;refine zq2 lk d S len λA outer s H vs Q E j e=>?_;let⟨t,h,q⟩:=c a A outer s H vs Q E j e;exact⟨t,h.nox,q⟩
def FunV.binds{st}(F:FunV K x c st g f fd)(h:∀(kV a d:Ξ)(e:Option Addr)(b ct:Ξ)(us:List Ξ),us.length=ps.length->bindArgs (fnOf x c (zap st) (zal st) (zaa st) g kV a d e b ct) ⟨us,[]⟩=pure (ps.zip us)):Binds K fd ps []:=by
 let⟨k,l,kV,a,d,e,b,ct,i,rfl,lk,j⟩:=F.ex;exact .all (h kV a d e b ct)
structure Has(P:Υ)(w:ϋ)(K:Frag)(mg:Str->Option Ξ)(base:Heap)(k:Nat)(x:Str)(ps:List Str)(dvs:List V)(sp:Sp):Prop where
 ex:∃(f:Addr) (fd:FuncData) (ds:List Ξ),FnOk P w K mg base CX0 k f fd ps sp/\mg x=Φ (.ref f)/\keepIn K (.ref f)=Γ/\Binds K fd ps ds/\Vals dvs ds
end
def zsM(G:Has X.prog X.w X.K X.mg X.base k x ps a sp)(d:Room k X.A)(g:PA X (e::es) t)(h:Gl X x:=by rfl)(b:(x==("__debug__":Str))=Δ:=by decide)(i:starEach (e::es) X.env=(Δ,eval e X.env)::starEach es X.env:=by rfl)(c:(backTo pos (starEach es X.env)).any (·.1)=Δ:=by rfl):
  PE X (.Call (.Name x p) (e::es) [] pos) (zff sp a E0 t):=by
 let⟨f,o,q,F,j,l,m,n⟩:=G.ex;exact zqo F d h j l m n zhB g b i c
def zsL(G:Has X.prog X.w X.K X.mg X.base k x ps a sp)(c:Room k X.A)(d:Gl X x:=by rfl)(b:(x==("__debug__":Str))=Δ:=by decide):PE X (.Call (.Name x p) [] [] pos) (zff sp a E0 tNil):=by
 let⟨f,j,l,F,e,g,h,i⟩:=G.ex;exact znp F c d e g h i zhB b
mutual
noncomputable def Rep(H:Hp):PyData->V->Prop
 |.none,v=>v=.non|.bool b,v=>v=.bl b|.int i,v=>v=.int i|.str x,v=>v=.str x|.list ds,v=>∃a vs,v=.ref a/\H a=Φ (.lst vs)/\RepAll H ds vs|.tuple ds,v=>∃a vs,v=.ref a/\H a=Φ (.tup vs)/\RepAll H ds vs|.dict _,_=>False
noncomputable def RepAll(H:Hp):List PyData->List V->Prop
 | [],vs=>vs=[]|d::ds,vs=>∃v r,vs=v::r/\Rep H d v/\RepAll H ds r
end
mutual
noncomputable def imm:PyData->Bool
 |.none=>Γ|.bool _=>Γ|.int _=>Γ|.str _=>Γ|.list _=>Δ|.tuple ds=>zgL ds|.dict _=>Δ
noncomputable def zgL:List PyData->Bool
 | []=>Γ|d::ds=>imm d&&zgL ds
end
abbrev Tups(H H':Hp):Prop:=∀b a,H b=Φ (.tup a)->H' b=Φ (.tup a)
def Tups.refl(H):Tups H H:=λ_ _ h=>h
def Tups.trans(a:Tups H e)(b:Tups e f):Tups H f:=λc d h=>b c d (a c d h)
def Tups.upd{H:Hp}{p:Addr}{o:HO}(h:∀xs,H p≠Φ (.tup xs)):Tups H (upd H p o):=λb xs e=>by
 have hb:b≠p:=λz=>by subst z;exact h xs e
 rw[zad hb];exact e
def Tups.upd_lst(h:H p=Φ (.lst xs)):Tups H (L2.upd H p o):=Tups.upd λa e=>by rw[h]at e;cases e
def Tups.upd_new(h:H p=Ψ):Tups H (L2.upd H p o):=Tups.upd λa e=>by rw[h]at e;exact nS e
mutual
theorem Rep.same{H H':Hp}(hs:Same H H'):∀{d:PyData}{v:V},Rep H d v->Rep H' d v
 |.none,_,h=>h|.bool _,_,h=>h|.int _,_,h=>h|.str _,_,h=>h| .list ds,v,h=>by let⟨a,vs,e,ha,r⟩:=h;exact⟨a,vs,e,hs _ _ ha,RepAll.same hs r⟩| .tuple ds,v,h=>by let⟨a,vs,e,ha,r⟩:=h;exact⟨a,vs,e,hs _ _ ha,RepAll.same hs r⟩|.dict _,_,h=>h
theorem RepAll.same{H H':Hp}(hs:Same H H'):∀{ds:List PyData}{vs:List V},RepAll H ds vs->RepAll H' ds vs
 | [],_,h=>h| d::ds,vs,h=>by let⟨v,r,e,h1,h2⟩:=h;exact⟨v,r,e,Rep.same hs h1,RepAll.same hs h2⟩
end
mutual
theorem Rep.tups{H H':Hp}(hs:Tups H H'):∀{d:PyData}{v:V},imm d=Γ->Rep H d v->Rep H' d v
 |.none,_,_,h=>h|.bool _,_,_,h=>h|.int _,_,_,h=>h|.str _,_,_,h=>h|.list ds,v,i,h=>by simp[imm]at i| .tuple ds,v,i,h=>by let⟨a,vs,e,ha,r⟩:=h;exact⟨a,vs,e,hs _ _ ha,RepAll.tups hs (by simpa[imm]using i) r⟩|.dict _,_,_,h=>h
theorem RepAll.tups{H H':Hp}(hs:Tups H H'):∀{ds:List PyData}{vs:List V},zgL ds=Γ->RepAll H ds vs->RepAll H' ds vs
 | [],_,_,h=>h| d::ds,vs,i,h=>by
  let⟨v,r,e,h1,h2⟩:=h;have i':imm d=Γ/\zgL ds=Γ:=by simpa[zgL]using i
  exact⟨v,r,e,Rep.tups hs i'.1 h1,RepAll.tups hs i'.2 h2⟩
end
mutual
theorem Rep.reads{X:Cx}{pins:List (Addr×Obj)}{σ:St}{H:Hp}{s:Β}(I:Inv X pins σ H s):∀(d:PyData)(v:V)(u:Ξ),Rep H d v->RelV v u->∃as,Reads s.heap u d as
 |.none,v,u,h,r=>by cases(show v=.non from h);cases(show u=Ξ.none from r);exact⟨_,.none⟩| .bool b,v,u,h,r=>by cases(show v=.bl b from h);cases(show u=Ξ.bool b from r);exact⟨_,.bool b⟩| .int i,v,u,h,r=>by cases(show v=.int i from h);let⟨t,rfl⟩:=(show ∃t,u=Ξ.int i t from r);exact⟨_,.int i t⟩| .str x,v,u,h,r=>by cases(show v=.str x from h);let⟨t,rfl⟩:=(show ∃t,u=Ξ.str x t from r);exact⟨_,.str x t⟩| .list ds,v,u,h,r=>by let⟨a,vs,rfl,ha,hr⟩:=h;cases(show u=Ξ.ref a from r);let⟨its,n,rv,e,_⟩:=I.lst ha;let⟨as,q⟩:=RepAll.reads I ds vs its hr rv;exact⟨_,.list e rfl rfl q⟩| .tuple ds,v,u,h,r=>by let⟨a,vs,rfl,ha,hr⟩:=h;cases(show u=Ξ.ref a from r);let⟨its,rv,⟨o,e1,e2,n,e3⟩,_⟩:=I.tuple (SqT.of (K:=X.K) ha);let⟨as,q⟩:=RepAll.reads I ds vs its hr rv;exact⟨_,.tuple e1 e2 e3 q⟩|.dict _,_,_,h,_=>False.elim h
theorem RepAll.reads{X:Cx}{pins:List (Addr×Obj)}{σ:St}{H:Hp}{s:Β}(I:Inv X pins σ H s):∀(ds:List PyData)(vs:List V)(us:List Ξ),RepAll H ds vs->Vals vs us->∃as,ReadsAll s.heap us ds as
 | [],vs,us,h,r=>by cases(show vs=[] from h);cases r;exact⟨_,.nil⟩| d::ds,vs,us,h,r=>by let⟨v,vr,rfl,h1,h2⟩:=h;cases r with| cons r1 r2=>let⟨as,q1⟩:=Rep.reads I d v _ h1 r1;let⟨bs,q2⟩:=RepAll.reads I ds vr _ h2 r2;exact⟨_,.cons q1 q2⟩
end
def eqv_int(i j):PyData.eqv (.int i) (.int j)=(i==j):=by simp[PyData.eqv]
section
variable{X:Cx}
abbrev rEqD(g:Bool->Bool):R2:=λx y H Q=>∃a b,Rep H a x/\Rep H b y/\a.canLay0=Γ/\b.canLay0=Γ/\min a.depth b.depth<=60/\Q (.bl (g (PyData.eqv a b))) H
def zsW(m:X.A.units+64<cLine):OpR X (compareOp .Eq) (rEqD id):=by intro a s n H x y v u Q I b c h;let⟨d,e,f,g,i,j,o,q⟩:=h;let⟨p,k⟩:=Rep.reads I d x v f b;let⟨r,l⟩:=Rep.reads I e y u g c;exact SeqAt.compareEq_reads k l i j (by lia) (zav I q rfl)
def zsT(m:X.A.units+64<cLine):OpR X (compareOp .NotEq) (rEqD not):=by intro a s n H x y v u Q I b c h;let⟨d,e,f,g,i,j,o,q⟩:=h;let⟨p,k⟩:=Rep.reads I d x v f b;let⟨r,l⟩:=Rep.reads I e y u g c;exact SeqAt.compareNe_reads k l i j (by lia) (zav I q rfl)
abbrev zdk(H:Hp):V->Option String
 |.non=>Φ "NoneType"|.bl _=>Φ "bool"|.int _=>Φ "int"|.str _=>Φ "str"
 |.ref a=>match H a with
  |some (.lst _)=>Φ "list"|some (.frz _ (.lst _))=>Φ "list"|some (.tup _)=>Φ "tuple"|some (.dK _)=>Φ "dict"|some (.dT _)=>Φ "dict"|_=>Ψ
 |_=>Ψ
def zj1{K}(h:zdk H x=Φ a):TyOf K H x (.type a):=by
 cases x with
 |non=>cases h;exact .non|bl b=>cases h;exact .bl b|int i=>cases h;exact .int i|str y=>cases h;exact .str y|byt _=>exact nS h
 |flt _=>exact nS h
 |ty _=>exact nS h
 |ref p=>
  unfold zdk at h;cases e:H p with
  |none=>simp[e]at h| some o=>
   cases o with
   |lst d=>simp[e]at h;subst h;exact .lst e|tup d=>simp[e]at h;subst h;exact .tup e|dK c=>simp[e]at h;subst h;exact .dK e|dT c=>simp[e]at h;subst h;exact .dT e| frz f q=>cases q with|lst d=>simp[e]at h;subst h;exact .frz e|_=>simp[e]at h
   |_=>simp[e]at h
abbrev subT(a b:String):Bool:=a==b||(a=="bool"&&b=="int")
def zqO(K)(c:a∈["NoneType","bool","int","str","list","tuple","dict"])(d:b∈["bool","int","str","list","tuple","dict"]):kitOne K (.type a) (.type b)=Φ (subT a b):=by simp![mem_cons,not_mem_nil,or_false]at c d;rcases c with rfl|rfl|rfl|rfl|rfl|rfl|rfl<;>rcases d with rfl|rfl|rfl|rfl|rfl|rfl<;>rfl
def zi2(h:zdk H x=Φ a):a∈["NoneType","bool","int","str","list","tuple","dict"]:=by
 cases x with
 |non=>cases h;simp|bl b=>cases h;simp|int i=>cases h;simp|str y=>cases h;simp|byt _=>exact nS h
 |flt _=>exact nS h
 |ty _=>exact nS h
 |ref p=>unfold zdk at h;simp only at h;split at h<;>first|(cases h;simp)|exact nS h
def zh0:zbt X (.builtin "isinstance") (λxs H Q=>∃x c a,xs=[x,.ty c]/\zdk H x=Φ a/\c∈["bool","int","str","list","tuple","dict"]/\Q (.bl (subT a c)) H):=by intro b s k H xs l Q I r h;let⟨x,c,a,rfl,d,e,q⟩:=h;let⟨u,f,rfl,g,i⟩:=zo9 r;cases(show f=Ξ.type c from i);exact zlx I g (zj1 d) (zqO X.K (zi2 d) e) λj=>⟨.bl (subT a c),H,I.tok j,rfl,q⟩
end
section
variable{X:Cx}(K:Frag)(hK:X.K=K)
include hK
end
def zo1:bootBuiltins "len"=Φ (.builtin "len"):=by decide +kernel
def ztL:bootBuiltins "abs"=Φ (.builtin "abs"):=by decide +kernel
def ztI:bootBuiltins "max"=Φ (.builtin "max"):=by decide +kernel
def ztK:bootBuiltins "all"=Φ (.builtin "all"):=by decide +kernel
def zf1:bootBuiltins "isinstance"=Φ (.builtin "isinstance"):=by decide +kernel
def ztJ:bootBuiltins "int"=Φ (.type "int"):=by decide +kernel
def zrm:bootBuiltins "bool"=Φ (.type "bool"):=by decide +kernel
def zh2:bootBuiltins "list"=Φ (.type "list"):=by decide +kernel
def ziX:bootBuiltins "tuple"=Φ (.type "tuple"):=by decide +kernel
def zo0:bootBuiltins "set"=Φ (.type "set"):=by decide +kernel
def zoY{K}{st}(n)(r:ps.length=n+ds.length)(F:FunV K x c st (.ref d) f fd)(e:K.lookup d=Φ ⟨t,u,.seq items v,xs⟩)(h:∀(kV a g:Ξ)(i:Option Addr)(b ct:Ξ)(us:List Ξ),us.length=n->∃k,bindArgs (fnOf x c (zap st) (zal st) (zaa st) (.ref d) kV a g i b ct) ⟨us,[]⟩=seqItems? (.ref d)>>=k/\k (Φ items)=pure (ps.zip (us++ds))):
  Binds K fd ps ds:=by
 let⟨w,y,kV,a,g,i,b,ct,j,rfl,lk,l⟩:=F.ex;intro s us m o;let⟨k,p,q⟩:=h kV a g i b ct us (by rw[length_append]at o;lia);exact BindsTo.of_defaults (T:=d) rfl (m _ _ e) rfl p q
end L2
namespace R
@[reducible]def K3:=Int×List Int×Int
abbrev lexZ:List Int->List Int->Bool
 | [],[]=>Δ| [],_::_=>Γ|_::_,[]=>Δ|x::a,y::b=>if x=y then lexZ a b else decide (x<y)
def zb9(x y)(xs ys):lexZ (x::xs) (y::ys)=if x=y then lexZ xs ys else decide (x<y):=rfl
def zdc:∀l:List Int,lexZ l l=Δ
 | []=>rfl|x::l=>by rw[zb9,if_pos rfl];exact zdc l
def zgB:∀{a b c:List Int},lexZ a b=Γ->lexZ b c=Γ->lexZ a c=Γ
 | [],[],c,h,k=>by exact nB h| [],y::b,[],h,k=>by exact nB k| [],y::b,z::c,h,k=>rfl|x::a,[],c,h,k=>by exact nB h|x::a,y::b,[],h,k=>by exact nB k| x::a,y::b,z::c,h,k=>by rw[zb9]at h k⊢;split at h;rename_i e;split at k;rename_i d;rw[if_pos (e.trans d)];exact zgB h k;rename_i d;have k:=of_decide_eq_true k;rw[if_neg (by lia)];exact decide_eq_true (by lia);rename_i e;have h:=of_decide_eq_true h;split at k;rename_i d;rw[if_neg (by lia)];exact decide_eq_true (by lia);rename_i d;have k:=of_decide_eq_true k;rw[if_neg (by lia)];exact decide_eq_true (by lia)
def zgC:∀{a b:List Int},a≠b->lexZ a b=Γ\/lexZ b a=Γ
 | [],[],h=>absurd rfl h| [],y::b,_=>.inl rfl|x::a,[],_=>.inr rfl| x::a,y::b,h=>by rw[zb9,zb9];by_cases e:x=y;subst e;rw[if_pos rfl,if_pos rfl];exact zgC λz=>h (by rw[z]);rw[if_neg e,if_neg (Ne.symm e)];rcases Int.lt_or_gt_of_ne e with z|z;exact .inl (decide_eq_true z);exact .inr (decide_eq_true z)
abbrev Lt3(a b:K3):Prop:=a.1<b.1\/(a.1=b.1/\(lexZ a.2.1 b.2.1=Γ\/(a.2.1=b.2.1/\a.2.2<b.2.2)))
noncomputable instance(a b:K3):Decidable (Lt3 a b):=by unfold Lt3;infer_instance
def zcn(a):¬Lt3 a a:=by unfold Lt3;rw[zdc];simp
def zd7(h:Lt3 a b)(k:Lt3 b c):Lt3 a c:=by unfold Lt3 at *;rcases h with h|⟨g,e⟩;rcases k with k|⟨f,d⟩;exact .inl (by lia);exact .inl (by lia);rcases k with k|⟨f,d⟩;exact .inl (by lia);refine .inr ⟨g.trans f,?_⟩;rcases e with e|⟨e,j⟩;rcases d with d|⟨d,i⟩;exact .inl (zgB e d);exact .inl (d▸e);rcases d with d|⟨d,i⟩;exact .inl (e▸d);exact .inr ⟨e.trans d,by lia⟩
def zgz(h:a≠b):Lt3 a b\/Lt3 b a:=by unfold Lt3;let⟨e,f,g⟩:=a;let⟨b1,b2,b3⟩:=b;dsimp only;by_cases c:e=b1;by_cases d:f=b2;have e3:g≠b3:=λz=>h (by rw[c,d,z]);rcases Int.lt_or_gt_of_ne e3 with z|z;exact .inl (.inr ⟨c,.inr ⟨d,z⟩⟩);exact .inr (.inr ⟨c.symm,.inr ⟨d.symm,z⟩⟩);rcases zgC d with z|z;exact .inl (.inr ⟨c,.inl z⟩);exact .inr (.inr ⟨c.symm,.inl z⟩);rcases Int.lt_or_gt_of_ne c with z|z;exact .inl (.inl z);exact .inr (.inl z)
abbrev ins3(x:K3):List K3->List K3
 | []=>[x]|y::l=>if Lt3 x y then x::y::l else y::ins3 x l
abbrev zja:List K3->List K3
 | []=>[]|x::l=>ins3 x (zja l)
def zeg(x):∀l:List K3,(ins3 x l).Perm (x::l)
 | []=>List.Perm.refl _| y::l=>by unfold ins3;split;exact List.Perm.refl _;exact((zeg x l).cons y).trans (List.Perm.swap ..)
def zcg:∀l:List K3,(zja l).Perm l
 | []=>List.Perm.refl _|x::l=>(zeg x _).trans ((zcg l).cons x)
def zef(x):∀{l:List K3},x∉l->l.Pairwise Lt3->(ins3 x l).Pairwise Lt3
 | [],_,_=>by simp[ins3]| y::l,g,h=>by have d:=Ϣ.mp h;unfold ins3;split;rename_i c;exact Ϣ.mpr ⟨λz f=>by rcases mem_cons.mp f with e|e;rw[e];exact c;exact zd7 c (d.1 z e),h⟩;rename_i c;refine Ϣ.mpr ⟨λz f=>?_,zef x (λm=>g (Κ _ m)) d.2⟩;rcases mem_cons.mp ((zeg x l).mem_iff.mp f) with e|e;rw[e];rcases zgz (a:=y) (b:=x) (λz=>g (by rw[z];exact Μ)) with q|q;exact q;exact absurd q c;exact d.1 z e
def zb3:∀{l:List K3},l.Nodup->(zja l).Pairwise Lt3
 | [],_=>Pairwise.nil| x::l,h=>by have a:=nodup_cons.mp h;exact zef x (λm=>a.1 ((zcg l).mem_iff.mp m)) (zb3 a.2)
def zcB:∀{a b:List K3},a.Perm b->a.Pairwise Lt3->b.Pairwise Lt3->a=b
 | [],b,p,_,_=>(List.nil_perm.mp p).symm|x::a,[],p,_,_=>absurd (List.perm_nil.mp p) (by simp)| x::a,y::b,p,h,i=>by
  have c:=Ϣ.mp h;have d:=Ϣ.mp i;have e:x=y:=by rcases mem_cons.mp (p.mem_iff.mp Μ) with f|f;exact f;rcases mem_cons.mp (p.mem_iff.mpr Μ) with g|g;exact g.symm;exact absurd (zd7 (d.1 x f) (c.1 y g)) (zcn y)
  subst e;rw[zcB (List.Perm.cons_inv p) c.2 d.2]
def zgR{b:Type}{p q}:∀{l:List b},(∀x∈l,p x=Γ->q x=Γ)->(l.filter p).length<=(l.filter q).length
 | [],_=>le_refl _| x::l,h=>by have a:=zgR (l:=l) λy c=>h y (Κ _ c);rw[List.filter_cons,List.filter_cons];cases e:p x with|true=>rw[h x Μ e];simp;exact a| false=>cases q x with|true=>simp;lia|false=>simpa using a
def zgQ{c:Type}{p q}:∀{l:List c}{a:c},(∀x∈l,p x=Γ->q x=Γ)->a∈l->p a=Δ->q a=Γ->(l.filter p).length<(l.filter q).length
 | [],_,_,h,_,_=>by cases h| x::l,a,h,i,d,f=>by rw[List.filter_cons,List.filter_cons];rcases mem_cons.mp i with e|e;subst e;have:=zgR (l:=l) λy b=>h y (Κ _ b);rw[d,f];simp;lia;have g:=zgQ (l:=l) (λy b=>h y (Κ _ b)) e d f;cases j:p x with|true=>rw[h x Μ j];simp;exact g| false=>cases q x with|true=>simp;lia|false=>simpa using g
end R
namespace R
open PySem PySem.Spec PyProof.Rows L2
section
variable{prog:Υ}{w:ϋ}{A:ϐ}{E:Ξ->Β->Prop}{s:Β}
abbrev IsTri(prog:Υ)(w:ϋ)(h:Heap)(k:K3)(a:Addr):Prop:=∃o t u b n,h.get? a=Φ o/\o.cls=.type "tuple"/\o.data=.seq #[.int k.1 t,.ref b,.int k.2.2 u] n/\IsTupleKey (zaq prog w) h (k.2.1.map Sum.inl) b
def zhM{x y:List Int}(h:(x.map Sum.inl:List Key)=y.map Sum.inl):x=y:=(List.map_inj_right (λa b e=>Sum.inl.inj e)).mp h
def IsTri.typeIs(x:IsTri prog w s.heap k a):s.TypeIs (.ref a) "tuple":=by let⟨o,_,_,_,_,b,c,_⟩:=x;exact⟨o,b,c⟩
def IsTri.inj(g:IsTri prog w h x a)(i:IsTri prog w h y a):x=y:=by let⟨o,t,u,b,n,j,_,k,l⟩:=g;let⟨m,p,q,r,v,e,_,c,f⟩:=i;obtain rfl:o=m:=Option.some.inj (j.symm.trans e);rw[k]at c;injection c with d _;have d:=congrArg Array.toList d;simp![List.cons.injEq,Ξ.int.injEq,Ξ.ref.injEq]at d;let⟨⟨z,_⟩,rfl,e3,_⟩:=d;have B:=zhM (l.inj f);let⟨C,G,H⟩:=x;simp_all
def IsTri.keeps(x:IsTri prog w h k a)(g:h.get? d=Φ o)(hd:o.data=.dict es ep)(hs:Heap.SameBut d h h'):IsTri prog w h' k a:=by
 let⟨i,t,u,b,n,e,j,c,l⟩:=x;have f:a≠d:=by rintro rfl;obtain rfl:i=o:=Option.some.inj (e.symm.trans g);rw[hd]at c;exact by cases c
 exact⟨i,t,u,b,n,(hs.2 a f).trans e,j,c,l.keeps g hd hs⟩
abbrev zdN(prog:Υ)(w:ϋ)(k:K3):Int:=reduceHash (Builtin.Tuple.tupleHashOf [hashInt k.1,tupleKeyHash (zaq prog w) (k.2.1.map Sum.inl),hashInt k.2.2])
def zdy(r:A.units+4<cLine)(l:IsTri prog w s.heap k a)(h:Q (zdN prog w k) {s with toks:=s.toks+(k.2.1.length+4)}):
  wpAny (model prog w) A (pyHash (.ref a)) Q E s:=by
 have i:=l.typeIs;let⟨o,t,u,b,n,m,_,p,q⟩:=l;unfold pyHash
 first|refine Θ (wpAny_cRoomFor_or (.inr (by lia)) ?_)|skip
 refine Θ (wpAny_specialOf i F.slot_tuple_hash.lookup ?_);refine Θ (wpAny_specialOf i F.slot_tuple_hash.lookup ?_);refine Θ (wpAny_callSpecialIfBoundUnlessNone?_slot i F.slot_tuple_hash (ϒ F.slot_tuple_hash i F.entry_tuple_hash ?_ (F.args_tuple_hash_1 _)));show wpAny _ _ (Builtin.Tuple.tupleItemsOf (.ref a)>>=_) _ _ s;refine Θ (wpAny_tupleItemsOf m p ?_);refine Θ ?_;rw[<-Array.forIn_toList];refine wpAny_forIn_list _
  (λc (g:Array Int) f=>(c=[.int k.1 t,.ref b,.int k.2.2 u]/\g.toList=[]/\f=s)\/(c=[.ref b,.int k.2.2 u]/\g.toList=[hashInt k.1]/\f={s with toks:=s.toks+1})
   \/(c=[.int k.2.2 u]/\g.toList=[hashInt k.1,tupleKeyHash (zaq prog w) (k.2.1.map Sum.inl)]/\f={s with toks:=s.toks+(k.2.1.length+2)})
   \/(c=[]/\g.toList=[hashInt k.1,tupleKeyHash (zaq prog w) (k.2.1.map Sum.inl),hashInt k.2.2]/\f={s with toks:=s.toks+(k.2.1.length+3)}))
  _ ?_ ?_ _ _ (.inl ⟨rfl,rfl,rfl⟩)
 rintro x c g f (⟨e,d,rfl⟩|⟨e,d,rfl⟩|⟨e,d,rfl⟩|⟨e,d,rfl⟩);cases e;exact Θ (wpAny_pyHash_int (Ω (.inr (.inl ⟨rfl,by simp[d],rfl⟩))));cases e;refine Θ (wpAny_pyHash_tuple ?_ q ?_);lia;exact Ω (.inr (.inr (.inl ⟨rfl,by simp[d],by simp![length_map];congr 1;lia⟩)));cases e;exact Θ (wpAny_pyHash_int (Ω (.inr (.inr (.inr ⟨rfl,by simp[d],by simp[Nat.add_assoc]⟩)))));cases e;rintro g f (⟨e,d,rfl⟩|⟨e,d,rfl⟩|⟨e,d,rfl⟩|⟨e,d,rfl⟩);cases e;cases e;cases e;show wpAny _ _ (retInt (Builtin.Tuple.tupleHashOf g.toList)) _ _ _;rw[d];refine wpAny_ret_mkInt ?_;show wpAny _ _ (if(decide (-(2:Int)^63<=Builtin.Tuple.tupleHashOf [hashInt k.1,tupleKeyHash (zaq prog w) (k.2.1.map Sum.inl),hashInt k.2.2])&&decide (Builtin.Tuple.tupleHashOf [hashInt k.1,tupleKeyHash (zaq prog w) (k.2.1.map Sum.inl),hashInt k.2.2]<2^63))=Γ then _ else _) Q E _;unfold zdN reduceHash at h;by_cases j:(decide (-(2:Int)^63<=Builtin.Tuple.tupleHashOf [hashInt k.1,tupleKeyHash (zaq prog w) (k.2.1.map Sum.inl),hashInt k.2.2])&&decide (Builtin.Tuple.tupleHashOf [hashInt k.1,tupleKeyHash (zaq prog w) (k.2.1.map Sum.inl),hashInt k.2.2]<2^63))=Γ;rw[if_pos j];rw[if_pos j]at h;exact Ω (by simpa[Nat.add_assoc]using h);rw[if_neg j];rw[if_neg j]at h;exact Θ (wpAny_rule (Ω (by simpa[Nat.add_assoc]using h)))
def zhj(O:A.units<cLine)(Q:IsTri prog w s.heap x a)(M:IsTri prog w s.heap y b)(h:P (.done (.ret (.bool (decide (x=y))))) s):
  wpAny (model prog w) A (Builtin.«tuple.__eq__» ⟨[.ref a,.ref b],[]⟩) P E s:=by
 have m:=M.typeIs;let⟨Y,T,n,b1,na,o,_,t,u⟩:=Q;let⟨ob,U,v,b2,nb,B,_,C,G⟩:=M;let⟨g,H,i⟩:=x;let⟨j,I,k⟩:=y;show wpAny _ _ (isInstance (.ref b) (.type "tuple")>>=_) _ _ s;refine Θ (wpAny_isInstance m isSubtype_tuple_tuple ?_);refine Θ (wpAny_tupleItemsOf o t ?_);refine Θ (wpAny_tupleItemsOf B C ?_);refine Θ ?_;refine wpAny_forIn_list _
  (λc r J=>r.1=Ψ/\J=s/\(c=[(.int g T,.int j U),(.ref b1,.ref b2),(.int i n,.int k v)]\/(c=[(.ref b1,.ref b2),(.int i n,.int k v)]/\g=j)\/(c=[(.int i n,.int k v)]/\g=j/\H=I)\/(c=[]/\g=j/\H=I/\i=k)))
  _ ?_ ?_ _ _ ⟨rfl,rfl,.inl rfl⟩
 rintro⟨p,q⟩ c r J ⟨L,rfl,(e|⟨e,f⟩|⟨e,f,l⟩|⟨e,f,l,N⟩)⟩;cases e;refine Θ (wpAny_eqBool_int ?_);by_cases d:g=j;rw[show(g==j)=Γ by simp[d]];simp![ύ];exact Ω ⟨rfl,rfl,.inr (.inl ⟨trivial,d⟩)⟩;rw[show(g==j)=Δ by simp[d]];rw[decide_eq_false (by simp[d])]at h;exact Θ (Ω (Ω (Ω h)));cases e;refine Θ (wpAny_eqBool_tuple O u G ?_);by_cases d:H=I;rw[decide_eq_true (by rw[d])];simp![ύ];exact Ω ⟨rfl,rfl,.inr (.inr (.inl ⟨trivial,f,d⟩))⟩;rw[decide_eq_false (λz=>d (zhM z))];rw[decide_eq_false (by simp[d])]at h;exact Θ (Ω (Ω (Ω h)));cases e;refine Θ (wpAny_eqBool_int ?_);by_cases d:i=k;rw[show(i==k)=Γ by simp[d]];simp![ύ];exact Ω ⟨rfl,rfl,.inr (.inr (.inr ⟨trivial,f,l,d⟩))⟩;rw[show(i==k)=Δ by simp[d]];rw[decide_eq_false (by simp[d])]at h;exact Θ (Ω (Ω (Ω h)));cases e;rintro⟨r1,r2⟩ J ⟨L,rfl,(e|⟨e,f⟩|⟨e,f,l⟩|⟨e,f,l,N⟩)⟩;cases e;cases e;cases e;subst L;refine Ω ?_;rw[decide_eq_true (by rw[f,l,N])]at h;exact h
def zdz(g:A.units+4<cLine)(d:IsTri prog w s.heap x a)(f:IsTri prog w s.heap y b)(h:Q (decide (x=y)) s):
  wpAny (model prog w) A (eqBool (.ref a) (.ref b)) Q E s:=by
 unfold eqBool
 try with_reducible refine ϙ ?_
 by_cases c:(Ξ.ref a==Ξ.ref b)=Γ;rw[if_pos c];have e:a=b:=by have:=eq_of_beq c;injection this
 subst e;obtain rfl:=d.inj f;exact Θ (wpAny_rule (Ω (by simpa using h)))
 rw[if_neg c];exact Θ (wpAny_richCompare_same_room d.typeIs f.typeIs F.slot_tuple_eq
  (ϒ F.slot_tuple_eq d.typeIs F.entry_tuple_eq (zhj (by lia) d f ⟨_,rfl,(λe=>by cases e),ϓ h⟩) (F.args_tuple_eq_2 _ _)) (by lia))
def zsy(i:IsTupleKey (zaq prog w) s.heap ks a)(h:Q Γ s):wpAny (model prog w) A (eqIsQuiet 7 (.ref a)) Q E s:=by have j:=i.typeIs;let⟨o,d,n,k,_,l,m⟩:=i;unfold eqIsQuiet;refine Θ (wpAny_specialOf j F.slot_tuple_eq.lookup ?_);refine Θ (wpAny_isInstance j isSubtype_tuple_tuple ?_);refine Θ (wpAny_seqItems k l ?_);refine Θ ?_;rw[<-Array.forIn_toList];refine wpAny_forIn_list _ (λb r e=>r.1=Ψ/\e=s/\∀v∈b,carriedByValue v=Γ) _ ?_ ?_ _ _ ⟨rfl,rfl,m.byValue⟩;rintro v b r e ⟨f,rfl,c⟩;rw[eqIsQuiet_byValue _ (c v Μ)];refine Θ (Ω ?_);exact Ω ⟨rfl,rfl,λu g=>c u (Κ _ g)⟩;rintro⟨p,q⟩ e ⟨f,rfl,_⟩;subst f;exact Ω h
def zcA(j:IsTri prog w s.heap k a)(h:Q Γ s):wpAny (model prog w) A (eqIsQuiet 8 (.ref a)) Q E s:=by have l:=j.typeIs;let⟨o,t,u,b,n,m,_,p,q⟩:=j;unfold eqIsQuiet;refine Θ (wpAny_specialOf l F.slot_tuple_eq.lookup ?_);refine Θ (wpAny_isInstance l isSubtype_tuple_tuple ?_);refine Θ (wpAny_seqItems m p ?_);refine Θ ?_;show wpAny _ _ (forIn #[Ξ.int k.1 t,.ref b,.int k.2.2 u] _ _) _ _ s;rw[<-Array.forIn_toList];refine wpAny_forIn_list _ (λd r g=>r.1=Ψ/\g=s/\∀v∈d,carriedByValue v=Γ\/v=.ref b) _ ?_ ?_ _ _ ⟨rfl,rfl,λv f=>by simp![mem_cons,not_mem_nil,or_false]at f;rcases f with rfl|rfl|rfl;exact .inl rfl;exact .inr rfl;exact .inl rfl⟩;rintro v d r g ⟨i,rfl,c⟩;rcases c v Μ with f|rfl;rw[eqIsQuiet_byValue _ f];refine Θ (Ω ?_);exact Ω ⟨rfl,rfl,λu e=>c u (Κ _ e)⟩;refine Θ (zsy q ?_);exact Ω ⟨rfl,rfl,λu e=>c u (Κ _ e)⟩;rintro⟨x,y⟩ g ⟨i,rfl,_⟩;subst i;exact Ω h
end
abbrev zb1(prog:Υ)(w:ϋ):HeapKind prog w K3 where
 is:=IsTri prog w
 hash:=zdN prog w
 draws:=λk=>k.2.1.length+4
 room:=λA=>A.units+4<cLine
 inj:=λa b=>a.inj b
 keeps:=λx e f g=>x.keeps e f g
 pyHash:=λc d h=>zdy c d h
 eqBool:=λc a b h=>zdz c a b h
 quiet:=λd h=>zcA d h
abbrev znL(k:K3):Int:=reduceHash (Builtin.Tuple.tupleHashOf [hashInt k.1,reduceHash (Builtin.Tuple.tupleHashOf (k.2.1.map hashInt)),hashInt k.2.2])
def znK(k):(zb1 P w).hash k=znL k:=by show zdN P w k=znL k;unfold zdN znL tupleKeyHash;rw[map_map];rfl
abbrev P3(p:K3×Addr×V)(q:K3×Addr×Ξ):Prop:=p.1=q.1/\p.2.1=q.2.1/\RelV p.2.2 q.2.2
abbrev ent3(x:K3×Addr×Ξ):DictEntry:=⟨znL x.1,.ref x.2.1,x.2.2⟩
def zhT(x):entryOfKey (zb1 P w) x=ent3 x:=by unfold entryOfKey ent3;rw[znK]
abbrev TriO(a:Addr)(b:List (K3×Addr×V))(h:Heap):Prop:=b.length<=sizeLine/\(a==sysModules)=Δ/\∃c,Paired P3 b c/\∃o d e,h.get? a=Φ o/\o.ExactDict/\o.data=.dict d e/\d.toList=c.map ent3/\(c.map (·.1)).Nodup
abbrev Key3(H:Hp)(k:K3)(c:Addr):Prop:=∃b,H c=Φ (.tup [.int k.1,.ref b,.int k.2.2])/\H b=Φ (.tup (k.2.1.map V.int))
abbrev TriK(H:Hp)(a:List (K3×Addr×V)):Prop:=∀x∈a,Key3 H x.1 x.2.1
def Key3.up(h:Key3 H k c)(a:∀b xs,H b=Φ (.tup xs)->H' b=Φ (.tup xs)):Key3 H' k c:=let ⟨b,d,e⟩:=h;⟨b,a _ _ d,a _ _ e⟩
def TriO.stay(x:TriO a b h)(k:∀o,h.get? a=Φ o->h'.get? a=Φ o):TriO a b h':=by let⟨z,y,d,r,o,f,g,e,c⟩:=x;exact⟨z,y,d,r,o,f,g,k _ e,c⟩
def TriO.objOk(x:TriO a b h):ObjOk P w H h a (.ext (TriO a b)):=by refine⟨x,?_,λc d p k=>p.stay k⟩;let⟨_,_,_,_,o,_,_,e,_⟩:=x;exact⟨o,e⟩
def zoC:∀{a:List (K3×Addr×V)}{xs:List (K3×Addr×Ξ)},Paired P3 a xs->xs.length=a.length
 |_,_,.nil=>rfl|_,_,.cons _ t=>by simp[zoC t]
def zk2:∀{a:List (K3×Addr×V)}{xs:List (K3×Addr×Ξ)},Paired P3 a xs->xs.map (·.1)=a.map (·.1)
 |_,_,.nil=>rfl|_,_,.cons h t=>by rw[Ο,Ο,zk2 t,h.1]
section
variable{P:Υ}{w:ϋ}{H:Hp}{h:Heap}{a c:Addr}{kxs:List (K3×Addr×V)}
def zfJ(ok:HOk P w H h)(e:Key3 H k c):IsTri P w h k c:=by let⟨b,f,g⟩:=e;let⟨_,i,d,o,j,l,n,m⟩:=(show ObjOk P w H h c (.tup _) from ok c _ f);cases d with| @cons _ v _ x p d=>cases d with| @cons _ q _ y r d=>cases d with| @cons _ z _ A s d=>cases d;let⟨t,rfl⟩:=p;cases(show q=Ξ.ref b from r);let⟨u,rfl⟩:=s;refine⟨o,t,u,b,n,j,l,m,?_⟩;have:=zgF (ks:=k.2.1.map Sum.inl) ok (a:=b) (by rw[map_map];exact g);exact this
def zrL(ok:HOk P w H h)(e:H a=Φ (.ext (TriO a kxs)))(tk:TriK H kxs):kxs.length<=sizeLine/\(a==sysModules)=Δ/\∃xs,Paired P3 kxs xs/\h.DictOfH (zb1 P w) a xs:=by
 let⟨⟨z,y,xs,r,o,g,i,j,b,k,n,s⟩,_,_⟩:=(show ObjOk P w H h a (.ext _) from ok a _ e);refine⟨z,y,xs,r,o,g,i,j,b,k,?_,?_,s⟩;rw[n];exact Τ λx _=>(zhT x).symm;have d:∀{l:List (K3×Addr×V)}{m:List (K3×Addr×Ξ)},Paired P3 l m->TriK H l->∀x∈m,(zb1 P w).is h x.1 x.2.1:=by
  intro l m q;induction q with
  |nil=>intro _ x b;exact by cases b
  | @cons p q A B f t u=>intro tk x b;rcases mem_cons.mp b with e|b;subst e;rw[<-f.1,<-f.2.1];exact zfJ ok (tk p Μ);exact u (λy v=>tk y (Κ _ v)) x b
 exact d r tk
end
abbrev put3(a:List (K3×Addr×V))(k:K3)(c:Addr)(v:V):List (K3×Addr×V):=if k∈a.map (·.1) then a.map (λx=>if x.1=k then(x.1,x.2.1,v) else x) else a++[(k,c,v)]
def zhe{k:K3}:(atKey xs k).isSome=decide (k∈xs.map (·.1)):=by unfold atKey;rw[Option.isSome_map];apply Bool.eq_iff_iff.mpr;rw[List.find?_isSome,decide_eq_true_eq,mem_map];constructor;rintro⟨x,a,e⟩;exact⟨x,a,by simpa using e⟩;rintro⟨x,a,e⟩;exact⟨x,a,by simpa using e⟩
def zsQ(g:RelV v r)(h:Paired P3 d xs):Paired P3 (put3 d k c v) (storedH xs k c r):=by
 unfold put3 storedH;rw[zhe,zk2 h];by_cases b:k∈d.map (·.1);rw[if_pos b,if_pos (by simpa using b)];clear b;induction h with|nil=>exact .nil| @cons p q i j a t f=>rw[Ο,Ο];refine .cons ?_ f;unfold putAt;by_cases e:p.1=k;rw[if_pos e,if_pos (by rw[<-a.1];exact e)];exact⟨a.1,a.2.1,g⟩;rw[if_neg e,if_neg (by rw[<-a.1];exact e)];exact a
 rw[if_neg b,if_neg (by simpa using b)];clear b;induction h with|nil=>exact .cons ⟨rfl,rfl,g⟩ .nil|cons a t f=>exact .cons a f
def zm4(a)(k)(c)(v):(put3 a k c v).length<=a.length+1:=by unfold put3;split;rw[length_map];lia;simp
section
variable{X:Cx}{pins:List (Addr×Obj)}{σ:L2.St}{H:Hp}{s:Β}{a c:Addr}{kxs:List (K3×Addr×V)}{k:K3}{v:V}{r:Ξ}{A:ϐ}{E:Ξ->Β->Prop}
def zjG(G:A.units+5<cLine)(I:Inv X pins σ H s)(e:H a=Φ (.ext (TriO a kxs)))(tk:TriK H kxs)(g:Key3 H k c)(J:kxs.length<sizeLine)(i:RelV v r)(h:∀s',Inv X pins σ (upd H a (.ext (TriO a (put3 kxs k c v)))) s'->Q () s'):wpAny (model X.prog X.w) A (setItem (.ref a) (.ref c) r) Q E s:=by
 let⟨z,j,l,b,m⟩:=zrL I.hok e tk;have n:l.length<=sizeLine:=by rw[zoC b];exact z
 have o:=zm4 kxs k c v;refine wpAny_setItem_heap (knd:=zb1 X.prog X.w) (hsz:=n) (show A.units+1+4<cLine by omega) (zfJ I.hok g) m λL d p=>h _ ?_;let⟨q,t,u,f,w,y,B,_,C⟩:=d;refine zfT I (by rw[e];exact True.intro) p ⟨q,f⟩ (TriO.objOk ⟨by omega,j,_,zsQ i b,q,t,u,f,w,y,?_,C⟩);rw[B];exact Τ λx _=>zhT x
def znl:PE X (.Dict [] [] pos) (λ_ H Q=>∀p,H p=Ψ->Q (.ref p) (upd H p (.ext (TriO p [])))):=λpins s σ H Q I h=>
 wpAny_Dict_empty ⟨.ref s.heap.objs.size,_,I.laid (a:=s.heap.objs.size) (o:=.ext (TriO s.heap.objs.size [])) (t':=s.toks) (λ_ _ q=>Λ _ q) (le_refl _)
  (TriO.objOk ⟨zero_le _,beq_eq_false_iff_ne.mpr (Ne.symm (ne_of_lt I.big)),[],.nil,_,#[],0,Ζ _ rfl,⟨rfl,rfl,rfl⟩,rfl,rfl,List.nodup_nil⟩),rfl,h _ (I.hok.fresh (le_refl _))⟩
end
end R
namespace R
abbrev zc7(a b:Int×Int):Bool:=decide (b.2<a.2\/(a.2=b.2/\a.1<=b.1))
abbrev zaW(rows:List (Int×Int)):List (Int×Int):=rows.mergeSort zc7
abbrev bump:List (Int×Int)->Int->List (Int×Int)
 | [],w=>[(w,1)]|(k,c)::r,w=>if k=w then(k,c+1)::r else(k,c)::bump r w
abbrev zaf(kvs:List (Int×Int))(b:List (Option Int)):List (Int×Int):=b.foldl (λa w=>match w with|some x=>bump a x|none=>a) kvs
def zc5:∀(kvs:List (Int×Int))(w:Int),(bump kvs w).map (·.1)=if w∈kvs.map (·.1) then kvs.map (·.1) else kvs.map (·.1)++[w]
 | [],w=>by simp[bump]| (k,c)::r,w=>by unfold bump;by_cases e:k=w;subst e;simp;have a:=zc5 r w;rw[if_neg e];simp![Ο,mem_cons,a];by_cases h:w∈r.map (·.1);rw[if_pos h,if_pos (.inr h)];rw[if_neg h,if_neg (by rintro(z|z);exact e z.symm;exact h z)];rfl
def zjM(h:(kvs.map (·.1)).Nodup):((bump kvs w).map (·.1)).Nodup:=by rw[zc5];split;exact h;rename_i n;rw[nodup_append];refine⟨h,by simp,?_⟩;intro a d b c;rw[mem_singleton]at c;subst c;intro z;subst z;exact n d
abbrev at0(kvs:List (Int×Int))(x:Int):Int:=match kvs.find? (λr=>r.1==x) with|some r=>r.2|none=>0
def ziZ:∀(kvs:List (Int×Int))(w x:Int),at0 (bump kvs w) x=at0 kvs x+if x=w then 1 else 0
 | [],w,x=>by unfold bump at0;by_cases e:w=x;subst e;simp;have:¬x=w:=λz=>e z.symm;simp[e,this]| (k,c)::r,w,x=>by
  unfold bump;have a:=ziZ r w x;by_cases e:k=w;subst e;rw[if_pos rfl];by_cases z:k=x;subst z;simp[at0];have b:¬x=k:=λy=>z y.symm;simp[at0,z,b];rw[if_neg e];by_cases z:k=x;subst z;simp[at0,e];have d:at0 ((k,c)::bump r w) x=at0 (bump r w) x:=by simp[at0,z]
  have f:at0 ((k,c)::r) x=at0 r x:=by simp[at0,z]
  rw[d,f,a]
def zmm(b:(kvs.map (·.1)).Nodup)(h:(x,c)∈kvs):at0 kvs x=c:=by
 induction kvs with
 |nil=>cases h
 |cons a r f=>
  let⟨k,d⟩:=a;simp![Ο,nodup_cons]at b;rcases mem_cons.mp h with e|e;cases e;simp[at0];have:¬k=x:=λz=>b.1 (by rw[z];exact mem_map.mpr ⟨_,e,rfl⟩);have g:at0 ((k,d)::r) x=at0 r x:=by simp[at0,this]
  rw[g];exact f b.2 e
def zaJ:∀(a:List (Option Int)){kvs:List (Int×Int)},(kvs.map (·.1)).Nodup->((zaf kvs a).map (·.1)).Nodup
 | [],_,h=>h|some w::a,kvs,h=>zaJ a (zjM (w:=w) h)|none::a,kvs,h=>zaJ a h
def zbP:∀(a:List (Option Int))(kvs:List (Int×Int))(x:Int),at0 (zaf kvs a) x=at0 kvs x+(a.count (Φ x):Nat)
 | [],kvs,x=>by simp[zaf]| some w::a,kvs,x=>by show at0 (zaf (bump kvs w) a) x=_;rw[zbP a (bump kvs w) x,ziZ,List.count_cons];by_cases e:x=w;subst e;simp;lia;have:¬(w=x):=λz=>e z.symm;simp[e,this]| none::a,kvs,x=>by show at0 (zaf kvs a) x=_;rw[zbP a kvs x,List.count_cons];simp
def za0:∀(a:List (Option Int))(kvs:List (Int×Int))(x:Int),x∈(zaf kvs a).map (·.1)↔x∈kvs.map (·.1)\/Φ x∈a
 | [],kvs,x=>by simp[zaf]| some w::a,kvs,x=>by show x∈(zaf (bump kvs w) a).map (·.1)↔_;rw[za0 a (bump kvs w) x,zc5];by_cases h:w∈kvs.map (·.1);rw[if_pos h];constructor;rintro(z|z);exact .inl z;exact .inr (Κ _ z);rintro(z|z);exact .inl z;rcases mem_cons.mp z with y|y;cases y;exact .inl h;exact .inr y;rw[if_neg h];constructor;rintro(z|z);rcases mem_append.mp z with y|y;exact .inl y;rw[mem_singleton]at y;subst y;exact .inr Μ;exact .inr (Κ _ z);rintro(z|z);exact .inl (mem_append_left _ z);rcases mem_cons.mp z with y|y;cases y;exact .inl (mem_append_right _ (mem_singleton.mpr rfl));exact .inr y
 |none::a,kvs,x=>by show x∈(zaf kvs a).map (·.1)↔_;rw[za0 a kvs x];simp
def counts_row:(x,c)∈zaf [] a↔Φ x∈a/\c=(a.count (Φ x):Nat):=by
 have d:((zaf [] a).map (·.1)).Nodup:=zaJ a (by simp);have b:=zbP a [] x;have g:at0 [] x=0:=rfl;rw[g,Int.zero_add]at b;constructor;intro h;have:=(za0 a [] x).mp (mem_map.mpr ⟨_,h,rfl⟩);refine⟨this.resolve_left (by simp),?_⟩;rw[<-b,zmm d h];rintro⟨h,rfl⟩;have:=(za0 a [] x).mpr (.inr h);let⟨⟨y,c⟩,f,rfl⟩:=mem_map.mp this;have e:=zmm d f;have:c=(a.count (Φ y):Nat):=by rw[<-b];exact e.symm
 rw[<-this];exact f
def zeY(b):(zaf [] b).length<=b.length:=by
 have:∀(b:List (Option Int))(a:List (Int×Int)),(zaf a b).length<=a.length+b.length:=by
  intro b;induction b with
  |nil=>intro a;simp[zaf]| cons w b c=>
   intro a;cases w with
   |none=>have:=c a;show(zaf a b).length<=_;simp;lia| some x=>
    have:=c (bump a x);have d:(bump a x).length<=a.length+1:=by have:=congrArg List.length (zc5 a x);simp![length_map]at this;rw[this];split<;>simp
    show(zaf (bump a x) b).length<=_;simp;lia
 simpa using this b []
end R
namespace R
open PySem (Str PyData Operator CmpOp)
set_option genInjectivity true in
inductive D where
 |non|bl (b:Bool)|int (i:Int)|tup (ds:List D)|ref (l:Nat)
 |fix (ds:List D)
 |clo (kvs:List (K3×Option Int))
inductive MO where
 |lst (ds:List D)|dic (kvs:List (Int×D))|ins (c:Nat) (fs:List (Str×D))
 |d3 (kvs:List (K3×D))
structure St where
 frz:List MO
 new:List MO
 lk:List Nat
inductive Out(α:Type) where
 |ok (a:α) (S:St)
 |err (d:D) (S:St)
 |bad
abbrev Out.bind{b c:Type}(o:Out b)(f:b->St->Out c):Out c:=match o with|.ok a S=>f a S|.err d S=>.err d S|.bad=>.bad
abbrev lift{b:Type}(S:St):Option b->Out b
 |some a=>.ok a S|none=>.bad
namespace St
abbrev get(S:St)(l:Nat):Option MO:=if l<S.frz.length then S.frz[l]? else S.new[l-S.frz.length]?
abbrev len(S:St):Nat:=S.frz.length+S.new.length
abbrev push(S:St)(o:MO):St:={S with new:=S.new++[o]}
abbrev put(S:St)(l:Nat)(o:MO):Option St:=if l<S.frz.length then Ψ else if S.lk.contains l then Ψ else Φ {S with new:=S.new.set (l-S.frz.length) o}
abbrev enter(S:St):St:=⟨S.frz++S.new,[],[]⟩
end St
abbrev lay(S:St)(ds:List D):Out D:=if ds.length<=16777216 then .ok (.ref S.len) (S.push (.lst ds)) else .bad
abbrev wr(S:St)(l:Nat)(ds:List D)(d:D):Out D:=if ds.length<=16777216 then(match S.put l (.lst ds) with|some a=>.ok d a|none=>.bad) else .bad
abbrev pd(S:St):Nat->D->Option PyData
 |_,.non=>Φ .none|_,.bl b=>Φ (.bool b)|_,.int i=>Φ (.int i)|n+1,.tup a=>(a.mapM (pd S n)).map PyData.tuple
 |n+1,.ref l=>match S.get l with
  |some (.lst a)=>(a.mapM (pd S n)).map PyData.list|_=>Ψ
 |_,.fix _=>Ψ|_,.clo _=>Ψ|0,_=>Ψ
mutual
noncomputable def flat(n:Nat):D->Bool
 |.tup ds=>flats n ds|.ref l=>decide (l<n)|.fix ds=>flats n ds|_=>Γ
noncomputable def flats(n:Nat):List D->Bool
 | []=>Γ|d::ds=>flat n d&&flats n ds
end
abbrev zbg(S:St):D->Option (List D)
 |.tup a=>Φ a|.fix a=>Φ a
 |.ref l=>match S.get l with
  |some (.lst a)=>Φ a|_=>Ψ
 |_=>Ψ
abbrev lkOf(S:St):D->List Nat
 |.ref l=>[l]|_=>[]
abbrev tru(S:St):D->Option Bool
 |.non=>Φ Δ|.bl b=>Φ b|.int i=>Φ (i != 0)|.tup a=>Φ (!a.isEmpty)
 |.ref l=>match S.get l with
  |some (.lst a)=>Φ (!a.isEmpty)|_=>Ψ
 |_=>Ψ
abbrev tyOf(S:St):D->Option String
 |.non=>Φ "NoneType"|.bl _=>Φ "bool"|.int _=>Φ "int"|.tup _=>Φ "tuple"
 |.ref l=>match S.get l with
  |some (.lst _)=>Φ "list"|_=>Ψ
 |_=>Ψ
abbrev ixN(n:Nat)(i:Int):Option Nat:=if 0<=i then(if i<n then Φ i.toNat else Ψ) else if -(n:Int)<=i then Φ (i+n).toNat else Ψ
abbrev atI{a:Type}(xs:List a)(i:Int):Option a:=(ixN xs.length i).bind λj=>xs[j]?
abbrev sIx(n d:Nat):Option Int->Nat
 |none=>d|some i=>if i<0 then(i+n).toNat else min i.toNat n
abbrev zee:D->Option Int
 |.int i=>Φ i|_=>Ψ
abbrev zdD(i j:Int):Bool:=decide (-(2^64)<i/\i<2^64)||decide (-(2^64)<j/\j<2^64)
abbrev binI(S:St)(op:Operator)(i j:Int):Out D:=match op with|.Add=>.ok (.int (i+j)) S|.Sub=>.ok (.int (i-j)) S|.Mult=>if zdD i j then .ok (.int (i*j)) S else .bad|.FloorDiv=>if 0<j/\j<1073741824 then .ok (.int (i/j)) S else .bad|.Mod=>if 0<j then .ok (.int (i%j)) S else .bad|.Pow=>if 0<=j/\j<=1000000/\-18446744073709551616<i/\i<18446744073709551616 then .ok (.int (i^j.toNat)) S else .bad|_=>.bad
abbrev binD(S:St)(op:Operator)(x y:D):Out D:=match x,y with|.int i,.int j=>binI S op i j|.tup c,.tup d=>(match op with|.Add=>if c.length+d.length<=16777216 then .ok (.tup (c++d)) S else .bad|_=>.bad)|.ref a,.ref b=>(match op,S.get a,S.get b with|.Add,Φ (.lst c),Φ (.lst d)=>lay S (c++d)|_,_,_=>.bad)|_,_=>.bad
abbrev eqD(S:St)(x y:D):Option Bool:=(pd S 60 x).bind λa=>(pd S 60 y).map λb=>PyData.eqv a b
abbrev inD(S:St)(x:D)(ys:List D):Option Bool:=(ys.mapM λz=>eqD S z x).map λa=>a.any id
abbrev zaD(ds:List D):Option (List Int):=ds.mapM zee
abbrev cmpI(op:CmpOp)(i j:Int):Option Bool:=match op with|.Eq=>Φ (decide (i=j))|.NotEq=>Φ (!decide (i=j))|.Lt=>Φ (decide (i<j))|.LtE=>Φ (decide (i<=j))|.Gt=>Φ (decide (j<i))|.GtE=>Φ (decide (j<=i))|_=>Ψ
abbrev zqS:D->Bool|.non=>Γ|_=>Δ
abbrev zf5:D->Option (Option Int)
 |.non=>Φ Ψ|.int i=>Φ (Φ i)|_=>Ψ
abbrev key3:D->Option K3
 |.tup [.int a,.tup c,.int b]=>(zaD c).map λp=>(a,p,b)|_=>Ψ
abbrev zhx(kvs:List (K3×D))(k:K3)(v:D):List (K3×D):=if k∈kvs.map (·.1) then kvs.map (λx=>if x.1=k then(x.1,v) else x) else kvs++[(k,v)]
abbrev zfH:D->Option K3
 |.tup [_,.tup a,.int b,_]=>(zaD a).map λp=>(0,p,b)|_=>Ψ
abbrev zgD(S:St)(x:D):Option (List D×List K3):=match x with|.ref p=>(match S.get p with|some (.lst a)=>(a.mapM zfH).map λb=>(a,b)|_=>Ψ)|_=>Ψ
abbrev srtD(ds:List D)(ks:List K3):List D:=(zja ks).map λk=>((ks.zip ds).lookup k).getD .non
abbrev cmpO(S:St)(op:CmpOp)(x y:D):Option Bool:=match op with|.Eq=>eqD S x y|.NotEq=>(eqD S x y).map (!·)|.Is=>(match y with|.non=>Φ (zqS x)|_=>Ψ)|.IsNot=>(match y with|.non=>Φ (!zqS x)|_=>Ψ)|.In=>(zbg S y).bind λa=>inD S x a|.NotIn=>((zbg S y).bind λa=>inD S x a).map (!·)|_=>Ψ
abbrev cmpD(S:St)(op:CmpOp)(x y:D):Option Bool:=match x,y with|.int i,.int j=>cmpI op i j|_,_=>cmpO S op x y
inductive Bi where
 |len
 |abs
 |max2
 |min2
 |isin (t:String)
abbrev zbe(ds:List D):Option (List (Option Int)):=ds.mapM zf5
inductive Mt where
 |append
 |popAt
 |count
abbrev bi(S:St):Bi->List D->Out D
 |.len,[x]=>(match x with
  |.tup b=>.ok (.int b.length) S|.fix b=>.ok (.int b.length) S|.ref l=>(match S.get l with|some (.lst b)=>.ok (.int b.length) S|_=>.bad)|_=>.bad)
 |.abs,[.int i]=>.ok (.int (if i<0 then -i else i)) S|.max2,[.int i,.int j]=>.ok (.int (if j>i then j else i)) S|.min2,[.int i,.int j]=>.ok (.int (if j<i then j else i)) S|.isin t,[x]=>(match tyOf S x with|some a=>.ok (.bl (a==t||(a=="bool"&&t=="int"))) S|none=>.bad)|_,_=>.bad
abbrev isL(S:St):D->Bool
 |.ref l=>(match S.get l with|some (.lst _)=>Γ|_=>Δ)|_=>Δ
abbrev mt(S:St):Mt->D->List D->Out D
 |.append,.ref l,[y]=>(match S.get l with|some (.lst a)=>wr S l (a++[y]) .non|_=>.bad)
 |.popAt,.ref l,[.int i]=>(match S.get l with
  |some (.lst a)=>if 0<=i then(match a[i.toNat]? with|some y=>wr S l (a.eraseIdx i.toNat) y|none=>.bad) else .bad|_=>.bad)
 |.count,.ref l,[.int i]=>(match S.get l with
  |some (.lst a)=>(match zbe a with|some os=>.ok (.int (os.count (Φ i):Nat)) S|none=>.bad)|_=>.bad)
 |.count,.ref l,[.non]=>(match S.get l with
  |some (.lst a)=>(match zbe a with|some os=>.ok (.int (os.count Ψ:Nat)) S|none=>.bad)|_=>.bad)
 |_,_,_=>.bad
abbrev putI:List (Int×D)->Int->D->List (Int×D)
 | [],k,v=>[(k,v)]|(j,d)::r,k,v=>if j=k then(j,v)::r else(j,d)::putI r k v
abbrev dicI(S:St)(x:D):Option (List Int):=match x with|.ref p=>(match S.get p with|some (.dic a)=>Φ (a.map (·.1))|_=>Ψ)|_=>Ψ
abbrev dPut(S:St)(x y v:D):Option St:=match x with
 |.ref l=>(match S.get l with
  |some (.dic a)=>(zee y).bind λk=>if a.length<16777216 then S.put l (.dic (putI a k v)) else Ψ|_=>Ψ)
 |_=>Ψ
abbrev zfV(S:St)(x y v:D):Option St:=match x with
 |.ref l=>(match S.get l with
  |some (.d3 a)=>(key3 y).bind λk=>if a.length<16777216 then S.put l (.d3 (zhx a k v)) else Ψ|_=>Ψ)
 |_=>Ψ
abbrev lsts(S:St)(x y:D):Option (Nat×List D×List D):=match x,y with|.ref p,.ref r=>(match S.get p,S.get r with|some (.lst a),Φ (.lst b)=>Φ (p,a,b)|_,_=>Ψ)|_,_=>Ψ
abbrev valI(kvs:List (Int×D))(k:Int):Option D:=(kvs.find? λa=>decide (a.1=k)).map (·.2)
abbrev isDi(S:St):D->Bool
 |.ref l=>(match S.get l with|some (.dic _)=>Γ|_=>Δ)|_=>Δ
abbrev zgZ(S:St)(x y:D):Option (Option D):=match x with|.ref l=>(match S.get l with|some (.dic a)=>(zee y).map λk=>valI a k|_=>Ψ)|_=>Ψ
abbrev zfU(S:St)(x y v:D):Option (D×St):=match zgZ S x y with|some (Φ u)=>Φ (u,S)|some Ψ=>(dPut S x y v).map λT=>(v,T)|none=>Ψ
abbrev wD:Option Int->D
 |none=>.non|some i=>.int i
abbrev putW(kvs:List (K3×Option Int))(k:K3)(o:Option Int):List (K3×Option Int):=if k∈kvs.map (·.1) then kvs.map (λx=>if x.1=k then(x.1,o) else x) else kvs++[(k,o)]
abbrev lie4:D->Option (K3×Option Int)
 |.tup [.int a,.tup c,.int b,w]=>(zaD c).bind λp=>(zf5 w).map λo=>((a,p,b),o)|_=>Ψ
abbrev zaA(kvs:List (K3×Option Int)):List (K3×Option Int)->List (K3×Option Int)
 | []=>kvs|l::a=>zaA (putW kvs l.1 l.2) a
abbrev zdp:D->List D->Option D
 |.clo a,[.int t,.tup d,.int b,w]=>(zaD d).map λp=>(match a.find? λc=>decide (c.1=(t,p,b)) with|some c=>wD c.2|none=>w)|_,_=>Ψ
abbrev zbY(S:St):D->Option (Nat×List (Str×D))
 |.ref l=>(match S.get l with|some (.ins c a)=>Φ (c,a)|_=>Ψ)|_=>Ψ
abbrev zkK(f:Str)(v:D):List (Str×D)->List (Str×D)
 | []=>[(f,v)]|(g,x)::r=>if g=f then(g,v)::r else(g,x)::zkK f v r
abbrev zbT(S:St)(x:D)(f:Str)(v:D):Option St:=match x with|.ref l=>(match S.get l with|some (.ins c a)=>if a.length<1000 then S.put l (.ins c (zkK f v a)) else Ψ|_=>Ψ)|_=>Ψ
abbrev zlD:D->Bool|.non=>Γ|_=>Δ
mutual
inductive CE where
 |loc (i:Nat)
 |con (d:D)
 |tst (a:CE)
 |bin (op:Operator) (a b:CE)
 |neg (a:CE)
 |nt (a:CE)
 |cmp (op:CmpOp) (a b:CE)
 |cmp2 (op op':CmpOp) (a b c:CE)
 |and (a b:CE)
 |or (a b:CE)
 |ite (c a b:CE)
 |tup (es:CEs)
 |lst (es:CEs)
 |dnew
 |dnew3
 |srtK (a:CE)
 |dgetI (a b c:CE)
 |dsetI (a b c:CE)
 |extv (a b:CE)
 |ix (a b:CE)
 |fld (a:CE) (f:Str)
 |mk (c f:Nat) (x:Str) (j:Nat) (es:CEs)
 |meth (m:Str) (tb:List (Nat×Nat)) (o:CE) (es:CEs)
 |callC (f:Nat) (x m:Str) (es:CEs)
 |callV (a:CE) (es:CEs)
 |sl (a:CE) (n:Nat)
 |call (f j:Nat) (es:CEs)
 |callW (f j:Nat) (es:CEs)
 |bi (b:Bi) (es:CEs)
 |mt (m:Mt) (o:CE) (es:CEs)
 |mkL (l:CL)
 |mkT (l:CL)
 |all (l:CL)
 |ext (a:CE) (l:CL)
 |lenset (l:CL)
 |sset (a:CE)
inductive CEs where
 |nil
 |cons (e:CE) (r:CEs)
inductive CL where
 |val (e:CE)
 |rng1 (a:CE)
 |rng2 (a b:CE)
 |enum (a:CE)
 |comp (nt:Nat) (js:List Nat) (g:List Nat) (it:CL) (c:CE) (e:CE)
end
inductive CS where
 |nil
 |stop
 |asg (i:Nat) (e:CE) (r:CS)
 |asgT (g:List Nat) (e:CE) (r:CS)
 |setIx (a b e:CE) (r:CS)
 |setF (a:CE) (f:Str) (e:CE) (r:CS)
 |retN (r:CS)
 |ifS (c:CE) (t u:CS) (r:CS)
 |forS (g:List Nat) (l:CL) (b:CS) (r:CS)
 |ret (e:CE) (r:CS)
 |expr (e:CE) (r:CS)
@[reducible]def Ev:=List (Option D)
abbrev zeu:List Nat->List D->Ev->Ev
 |i::b,d::c,a=>zeu b c (a.set i (Φ d))|_,_,a=>a
abbrev asgG(g:List Nat)(x:D)(δ:Ev):Option Ev:=match g with| [i]=>Φ (δ.set i (Φ x))|is=>(match x with|.tup a=>if a.length=is.length then Φ (zeu is a δ) else Ψ|_=>Ψ)
abbrev zhC(x y:D):D:=.tup [x,y]
abbrev zdo(S:St):D->Option (List D×List Nat)
 |.ref l=>(match S.get l with|some (.lst a)=>Φ (a.mapIdx λi d=>zhC (.int i) d,[l])|_=>Ψ)|_=>Ψ
@[reducible]def CF:=Nat->List D->St->Out D
abbrev zcF(S:St)(d:D)(T:St):Out D:=
 if flat S.len d then .ok d S else
 let a:Out D:=.ok d ⟨S.frz,S.new++T.new,S.lk⟩
 match d with
  |.ref l=>(match T.get l with
   |some (.lst c)=>if flats S.len c then .ok (.ref S.len) (S.push (.lst c)) else a|some (.dic b)=>if flats S.len (b.map (·.2)) then .ok (.ref S.len) (S.push (.dic b)) else a|_=>a)
  |_=>a
abbrev zli(S:St)(d:D)(T:St):Out (List D):=match d with|.ref l=>if l<S.len then .bad else(match T.get l with|some (.lst a)=>if flats S.len a then .ok a S else .bad|_=>.bad)|_=>.bad
@[irreducible]noncomputable def app(cf:CF)(f:Nat)(ds:List D)(S:St):Out D:=(cf f ds S.enter).bind λd T=>zcF S d T
@[irreducible]noncomputable def appL(cf:CF)(f:Nat)(ds:List D)(S:St):Out (List D):=(cf f ds S.enter).bind λd T=>zli S d T
@[irreducible]noncomputable def appW(cf:CF)(f:Nat)(ds:List D)(S:St):Out D:=cf f ds S
abbrev csl(a:Nat)(b:List Nat)(δ:Ev):Ev:=List.replicate a Ψ++b.map λj=>(δ[j]?).join
abbrev zay(g:List Nat)(c:Ev->St->Out Bool)(e:Ev->St->Out D):List D->Ev->St->Out (List D)
 | [],_,S=>.ok [] S| x::f,i,S=>match asgG g x i with|none=>.bad|some a=>(c a S).bind λb h=>if b then(e a h).bind λd j=>(zay g c e f a j).bind λk l=>.ok (d::k) l else zay g c e f a h
abbrev zbh{b:Type}(ls:List Nat)(S:St)(f:St->Out b):Out b:=(f {S with lk:=ls++S.lk}).bind λa c=>.ok a {c with lk:=S.lk}
abbrev zg9:D->Option Bool
 |.bl b=>Φ b|_=>Ψ
abbrev allD(ds:List D):Option Bool:=(ds.mapM zg9).map λa=>a.all id
abbrev insZ(x:Int):List Int->List Int
 | []=>[x]|y::l=>if x<=y then x::y::l else y::insZ x l
abbrev zfi:List Int->List Int
 | []=>[]|x::l=>insZ x (zfi l)
abbrev lstI(S:St)(x:D):Option (List Int):=match x with|.ref p=>(match S.get p with|some (.lst a)=>zaD a|_=>Ψ)|_=>Ψ
abbrev dedup(xs:List Int):List Int:=xs.foldl (λa x=>if a.contains x then a else a++[x]) []
section
variable(cf:CF)
mutual
noncomputable def evE(e₀:CE)(δ:Ev)(S:St):Out D:=match e₀ with
 |.loc i=>lift S (δ[i]?).join|.con d=>.ok d S|.tst _=>.bad|.bin op a b=>(evE a δ S).bind λx S1=>(evE b δ S1).bind λy S2=>binD S2 op x y|.neg a=>(evE a δ S).bind λx S1=>match x with|.int i=>.ok (.int (-i)) S1|_=>.bad
 |.nt a=>(evE a δ S).bind λx S1=>match x with|.bl b=>.ok (.bl (!b)) S1|_=>.bad
 |.cmp op a b=>(evE a δ S).bind λx S1=>(evE b δ S1).bind λy S2=>(lift S2 (cmpD S2 op x y)).bind λk S3=>.ok (.bl k) S3|.cmp2 op op' a b c=>(evE a δ S).bind λx S1=>(evE b δ S1).bind λy S2=>(lift S2 (cmpD S2 op x y)).bind λk S3=>if k then(evE c δ S3).bind λz S4=>(lift S4 (cmpD S4 op' y z)).bind λk' S5=>.ok (.bl k') S5 else .ok (.bl Δ) S3|.and a b=>(evE a δ S).bind λx S1=>match x with|.bl k=>if k then evE b δ S1 else .ok (.bl Δ) S1|_=>.bad
 |.or a b=>(evE a δ S).bind λx S1=>match x with|.bl k=>if k then .ok (.bl Γ) S1 else evE b δ S1|_=>.bad
 |.ite c a b=>(evT c δ S).bind λk S1=>if k then evE a δ S1 else evE b δ S1|.tup es=>(evEs es δ S).bind λds S1=>if ds.length<=16777216 then .ok (.tup ds) S1 else .bad|.lst es=>(evEs es δ S).bind λds S1=>lay S1 ds|.dnew=>.ok (.ref S.len) (S.push (.dic []))|.dnew3=>.ok (.ref S.len) (S.push (.d3 []))|.srtK a=>(evE a δ S).bind λx S1=>(lift S1 (zgD S1 x)).bind λq S2=>if q.2.length<64/\q.2.Nodup then lay S2 (srtD q.1 q.2) else .bad|.dgetI a b c=>(evE a δ S).bind λx S1=>if isDi S1 x then(evE b δ S1).bind λy S2=>(evE c δ S2).bind λz S3=>(lift S3 (zgZ S3 x y)).bind λo S4=>.ok (o.getD z) S4 else .bad|.dsetI a b c=>(evE a δ S).bind λx S1=>if isDi S1 x then(evE b δ S1).bind λy S2=>(evE c δ S2).bind λz S3=>(lift S3 (zfU S3 x y z)).bind λo _=>.ok o.1 o.2 else .bad|.extv a b=>(evE a δ S).bind λx S1=>if isL S1 x then(evE b δ S1).bind λy S2=>(lift S2 (lsts S2 x y)).bind λo S3=>wr S3 o.1 (o.2.1++o.2.2) .non else .bad|.fld a f=>(evE a δ S).bind λx S1=>lift S1 ((zbY S1 x).bind λp=>p.2.lookup f)|.mk c f _ j es=>(evEs es δ S).bind λds S1=>(appW cf f (.ref S1.len::(ds++List.replicate j .non)) (S1.push (.ins c []))).bind λd S2=>if zlD d then .ok (.ref S1.len) S2 else .bad|.meth m tb o es=>(evE o δ S).bind λx S1=>(lift S1 (zbY S1 x)).bind λp S1=>(lift S1 (tb.lookup p.1)).bind λf S1=>if(p.2.lookup m).isNone then(evEs es δ S1).bind λds S2=>appW cf f (x::ds) S2 else .bad|.callC f _ _ es=>(evEs es δ S).bind λds S1=>appW cf f ds S1|.callV a es=>(evE a δ S).bind λx S1=>(evEs es δ S1).bind λds S2=>lift S2 (zdp x ds)|.ix a b=>(evE a δ S).bind λx S1=>(evE b δ S1).bind λy S2=>match zbg S2 x,y with|some ds,.int i=>lift S2 (atI ds i)|_,_=>.bad
 |.sl a n=>(evE a δ S).bind λx S1=>match x with|.tup ds=>if n<ds.length then .ok (.tup (ds.take n)) S1 else .bad|_=>.bad
 |.call f j es=>(evEs es δ S).bind λds S1=>app cf f (ds++List.replicate j .non) S1|.callW f j es=>(evEs es δ S).bind λds S1=>appW cf f (ds++List.replicate j .non) S1|.bi b es=>(evEs es δ S).bind λds S1=>R.bi S1 b ds|.mt m o es=>(evE o δ S).bind λx S1=>if isL S1 x then(evEs es δ S1).bind λds S2=>R.mt S2 m x ds else .bad|.mkL l=>(evL l δ S).bind λr S1=>lay S1 r.1|.mkT l=>(evL l δ S).bind λr S1=>if r.1.length<=16777216 then .ok (.tup r.1) S1 else .bad|.all l=>(evL l δ S).bind λr S1=>(lift S1 (allD r.1)).bind λb S2=>.ok (.bl b) S2
 |.ext a l=>(evE a δ S).bind λx S1=>if isL S1 x then(evL l δ S1).bind λr S2=>(match x with
  |.ref p=>(match S2.get p with|some (.lst ds)=>wr S2 p (ds++r.1) .non|_=>.bad)|_=>.bad) else .bad
 |.lenset l=>(evL l δ S).bind λr S1=>(lift S1 (zaD r.1)).bind λis S2=>if is.length<4000 then .ok (.int (dedup is).length) S2 else .bad|.sset a=>(evE a δ S).bind λx S1=>(lift S1 (lstI S1 x)).bind λis S2=>if is.length<64 then lay S2 ((zfi (dedup is)).map .int) else .bad
noncomputable def evEs(e₀:CEs)(δ:Ev)(S:St):Out (List D):=match e₀ with|.nil=>.ok [] S|.cons e r=>(evE e δ S).bind λd S1=>(evEs r δ S1).bind λds S2=>.ok (d::ds) S2
noncomputable def evT(e₀:CE)(δ:Ev)(S:St):Out Bool:=match e₀ with|.cmp op a b=>(evE a δ S).bind λx S1=>(evE b δ S1).bind λy S2=>lift S2 (cmpD S2 op x y)|.cmp2 op op' a b c=>(evE a δ S).bind λx S1=>(evE b δ S1).bind λy S2=>(lift S2 (cmpD S2 op x y)).bind λk S3=>if k then(evE c δ S3).bind λz S4=>lift S4 (cmpD S4 op' y z) else .ok Δ S3|.nt a=>(evT a δ S).bind λk S1=>.ok (!k) S1|.and a b=>(evT a δ S).bind λk S1=>if k then evT b δ S1 else .ok Δ S1|.or a b=>(evT a δ S).bind λk S1=>if k then .ok Γ S1 else evT b δ S1|.tst e=>(evE e δ S).bind λx S1=>lift S1 (tru S1 x)|_=>.bad
noncomputable def evL(e₀:CL)(δ:Ev)(S:St):Out (List D×List Nat):=match e₀ with
 |.val e=>(evE e δ S).bind λx S1=>(lift S1 (zbg S1 x)).bind λds S2=>.ok (ds,lkOf S2 x) S2|.rng1 a=>(evE a δ S).bind λx S1=>match x with|.int j=>if -(2^62)<=j/\j<2^62 then .ok ((List.range j.toNat).map λ(k:Nat)=>.int k,[]) S1 else .bad|_=>.bad
 |.rng2 a b=>(evE a δ S).bind λx S1=>(evE b δ S1).bind λy S2=>match x,y with
  |.int i,.int j=>if -(2^62)<=i/\i<2^62/\-(2^62)<=j/\j<2^62 then .ok ((List.range (j-i).toNat).map λ(k:Nat)=>.int (i+k),[]) S2 else .bad|_,_=>.bad
 |.enum a=>(evE a δ S).bind λx S1=>lift S1 (zdo S1 x)|.comp n js g it c e=>(evL it δ S).bind λr S1=>(zbh r.2 S1 λS2=>zay g (evT c) (evE e) r.1 (csl n js δ) S2).bind λds S3=>if ds.length<=16777216 then .ok (ds,[]) S3 else .bad
end
inductive Fl where
 |nx (δ:Ev)|rt (d:D)
abbrev zba(g:List Nat)(b:Ev->St->Out Fl):List D->Ev->St->Out Fl
 | [],a,S=>.ok (.nx a) S| x::i,a,S=>match asgG g x a with|none=>.bad| some c=>(b c S).bind λf h=>match f with|.nx e=>zba g b i e h|.rt d=>.ok (.rt d) h
abbrev exS(o:CS)(δ:Ev)(S:St):Out Fl:=match o with
 |.nil=>.ok (.nx δ) S|.stop=>.bad|.asg i e r=>(evE cf e δ S).bind λx h=>exS r (δ.set i (Φ x)) h|.asgT g e r=>(evE cf e δ S).bind λx h=>(lift h (asgG g x δ)).bind λj m=>exS r j m|.setIx a b e r=>(evE cf e δ S).bind λv h=>(evE cf a δ h).bind λx m=>(evE cf b δ m).bind λy n=>match zfV n x y v with|some p=>exS r δ p|none=>.bad
 |.setF a f e r=>(evE cf e δ S).bind λv h=>(evE cf a δ h).bind λx m=>match zbT m x f v with|some n=>exS r δ n|none=>.bad
 |.ifS c t u r=>(evT cf c δ S).bind λk h=>(if k then exS t δ h else exS u δ h).bind λf m=>match f with
  |.nx j=>exS r j m|.rt d=>.ok (.rt d) m
 |.forS g l b r=>(evL cf l δ S).bind λq h=>(zbh q.2 h λm=>zba g (exS b) q.1 δ m).bind λf n=>match f with
  |.nx j=>exS r j n|.rt d=>.ok (.rt d) n
 |.retN _=>.ok (.rt .non) S|.ret e _=>(evE cf e δ S).bind λx h=>.ok (.rt x) h|.expr e r=>(evE cf e δ S).bind λ_ h=>exS r δ h
end
inductive Prim where
 |tally|road
 |lam
abbrev rowD(r:Int×Int):D:=.tup [.int r.1,.int r.2]
abbrev talD(os:List (Option Int)):List D:=(zaW (zaf [] os)).map rowD
abbrev prm(S:St):Prim->List D->Out D
 |.tally,[.ref l]=>(match S.get l with
  |some (.lst b)=>(match zbe b with
   |some os=>if(zaf [] os).length<64/\os.length<=16777216 then .ok (.ref S.len) (S.push (.lst (talD os))) else .bad|none=>.bad)
  |_=>.bad)
 |.road,[x]=>(match (zbg S x).bind λc=>c.mapM lie4 with
  |some a=>if a.length<=1000/\S.lk=[] then .ok (.clo (zaA [] a)) S else .bad|none=>.bad)
 |_,_=>.bad
structure Fn where
 np:Nat
 nn:Nat
 body:CS
 prim:Option Prim
abbrev zaX(F:Fn)(ds:List D):Ev:=ds.map Φ++List.replicate (F.nn-F.np) Ψ
abbrev callF(P:List Fn):Nat->CF
 |0,_,_,_=>.bad
 |n+1,f,a,S=>match P[f]? with
  | some F=>if a.length=F.np then(match F.prim with
     |some .lam=>if 3<=n then(exS (callF P n) F.body (zaX F a) S).bind λr T=>(match r with
      |.nx _=>.ok .non T|.rt d=>.ok d T) else .bad
     |some p=>if 3<=n then prm S p a else .bad| none=>(exS (callF P n) F.body (zaX F a) S).bind λr T=>match r with|.nx _=>.ok .non T|.rt d=>.ok d T)
    else .bad
  |none=>.bad
@[simp]theorem zat{α β:Type}(a:α)(S:St)(f:α->St->Out β):(Out.ok a S).bind f=f a S:=rfl
@[simp]theorem ztT{α β:Type}(f:α->St->Out β):(Out.bad:Out α).bind f=.bad:=rfl
@[simp]theorem ztS{α β:Type}(d:D)(S:St)(f:α->St->Out β):(Out.err d S:Out α).bind f=.err d S:=rfl
@[simp]theorem zcV{α:Type}(S:St)(a:α):lift S (Φ a)=.ok a S:=rfl
def zaP(S:St):S.enter.get=S.get:=by funext l;simp![St.get,St.enter,length_append,List.getElem?_append];by_cases h:l<S.frz.length;simp[lt_of_lt_of_le h (Nat.le_add_right _ _)];split;rfl;exact(List.getElem?_eq_none (by lia)).symm
@[simp]theorem zlY(S:St):S.enter.frz=S.frz++S.new:=rfl
@[simp]theorem ztx(S:St):S.enter.new=[]:=rfl
@[simp]theorem ztR(S:St):S.enter.lk=[]:=rfl
@[simp]theorem enter_len(S:St):S.enter.len=S.len:=by simp[St.len]
def zfI(S:St):(S.frz++S.new).length=S.len:=by simp[St.len]
def get_lt{S:St}(h:S.get l=Φ o):l<S.len:=by unfold St.get at h;unfold St.len;split at h;lia;have:=(Α.mp h).1;lia
def zde{S:St}(h:S.get l=Φ o)(a)(lk):(St.mk (S.frz++S.new) a lk).get l=Φ o:=by
 have b:=get_lt h;rw[<-zaP]at h;unfold St.get at h⊢;have e:l<(S.frz++S.new).length:=by rw[zfI];exact b
 simp![zlY,e]at h⊢;exact h
def zhO(F a)(lk)(i):(St.mk F a lk).get (F.length+i)=a[i]?:=by
 have:¬F.length+i<F.length:=by lia
 simp[St.get,this]
def ziK(F a)(lk):(St.mk F a lk).get F.length=a[0]?:=zhO F a lk 0
@[simp]theorem ztO(n:Nat):flat n .non=Γ:=by simp[flat]
@[simp]theorem zuH(n:Nat)(b:Bool):flat n (.bl b)=Γ:=by simp[flat]
@[simp]theorem ztP(n:Nat)(i:Int):flat n (.int i)=Γ:=by simp[flat]
@[simp]theorem zcX(n:Nat)(ds:List D):flat n (.tup ds)=flats n ds:=by simp[flat]
@[simp]theorem ztQ(n:Nat)(ds:List D):flat n (.fix ds)=flats n ds:=by simp[flat]
@[simp]theorem ztt(n:Nat):flats n []=Γ:=by simp[flats]
@[simp]theorem zrt(n:Nat)(d:D)(ds:List D):flats n (d::ds)=(flat n d&&flats n ds):=by simp[flats]
@[simp]theorem zgP(n:Nat):∀ds es:List D,flats n (ds++es)=(flats n ds&&flats n es)
  | [],es=>by simp|d::ds,es=>by simp[zgP n ds es,Bool.and_assoc]
def zaH(n):∀ds:List D,flats n ds=Γ↔∀d∈ds,flat n d=Γ
 | []=>by simp|d::ds=>by simp[zaH n ds]
@[simp]theorem zrs(n:Nat)(ns:List Int):flats n (ns.map D.int)=Γ:=by rw[zaH];simp
@[simp]theorem zjz(S:St)(d:D)(T:St)(h:flat S.len d=Γ):zcF S d T=.ok d S:=by simp[zcF,h]
abbrev W{b:Type}(o:Out b)(Q:b->St->Prop):Prop:=match o with|.ok a S=>Q a S|_=>False
@[simp]theorem W_ok{α:Type}(a:α)(S:St)(Q:α->St->Prop):W (.ok a S) Q=Q a S:=rfl
@[simp]theorem zuW{α:Type}(Q:α->St->Prop):W (.bad:Out α) Q=False:=rfl
@[simp]theorem zuV{α:Type}(d:D)(S:St)(Q:α->St->Prop):W (.err d S:Out α) Q=False:=rfl
@[simp]theorem zab{α β:Type}(o:Out α)(f:α->St->Out β)(Q:β->St->Prop):W (o.bind f) Q=W o λa S=>W (f a S) Q:=by cases o<;>rfl
def W.mono(h:W o Q)(b:∀a S,Q a S->c a S):W o c:=by cases o with|ok a S=>exact b a S h|err d S=>exact h|bad=>exact h
def W.b(h:W (o.bind f) Q):W o λa S=>W (f a S) Q:=Eq.mp (zab o f Q) h
def W.eq(h:W o λa T=>a=d/\T=S):o=.ok d S:=by cases o with|ok a T=>let⟨rfl,rfl⟩:=h;rfl|err d S=>exact False.elim h|bad=>exact False.elim h
def W.of(h:o=.ok d S)(q:Q d S):W o Q:=by rw[h];exact q
def W.iff:W o Q↔∃a S,o=.ok a S/\Q a S:=by cases o with|ok a S=>exact⟨λh=>⟨a,S,rfl,h⟩,λ⟨_,_,e,h⟩=>by cases e;exact h⟩|err d S=>exact⟨λh=>h.elim,λk=>(by let⟨_,_,e,_⟩:=k;cases e)⟩|bad=>exact⟨λh=>h.elim,λz=>(by let⟨_,_,e,_⟩:=z;cases e)⟩
abbrev fin(S:St)(r:Fl)(T:St):Out D:=match r with|.nx _=>zcF S .non T|.rt d=>zcF S d T
@[simp]theorem zlV(S T:St)(d:D):fin S (.rt d) T=zcF S d T:=rfl
@[simp]theorem zuT(S T:St)(δ:Ev):fin S (.nx δ) T=.ok .non S:=by simp[fin]
def zo3(h:P[f]?=Φ F)(hl:ds.length=F.np)(a:F.prim=Ψ:=by rfl):
  app (callF P (n+1)) f ds S=(exS (callF P n) F.body (zaX F ds) S.enter).bind λr T=>fin S r T:=by
 simp![app,callF,h,hl,a,if_true];generalize exS (callF P n) F.body (zaX F ds) S.enter=o;cases o with|ok r T=>cases r<;>rfl|err d S=>rfl|bad=>rfl
abbrev finL(S:St)(r:Fl)(T:St):Out (List D):=match r with|.nx _=>.bad|.rt d=>zli S d T
@[simp]theorem zuI(S T:St)(d:D):finL S (.rt d) T=zli S d T:=rfl
def zaw(I:Nat->Ev->St->Prop)(l:D->St->Prop):∀(xs:List D)(k:Nat)(δ:Ev)(S:St),I k δ S->
  (∀i x δ S,xs[i]?=Φ x->I (k+i) δ S->∃a,asgG g x δ=Φ a/\W (b a S) λf j=>match f with|.nx c=>I (k+i+1) c j|.rt d=>l d j)->
  W (zba g b xs δ S) λf j=>match f with|.nx a=>I (k+xs.length) a j|.rt d=>l d j
 | [],k,δ,S,h,_=>by simpa[zba]using h| x::xs,k,δ,S,h,step=>by let⟨a,e,w⟩:=step 0 x δ S rfl h;simp![zba,e,zab];refine w.mono λf o m=>?_;cases f with|rt d=>exact m| nx c=>have n:=zaw I l xs (k+1) c o m (λi y δ S p q=>by have:=step (i+1) y δ S (by simpa using p) (by rw[show k+(i+1)=k+1+i by lia];exact q);rw[show k+(i+1)+1=k+1+i+1 by lia]at this;exact this);rw[show k+1+xs.length=k+(x::xs).length by simp;lia]at n;exact n
def za6(p)(f):∀(xs:List D)(o:Option D),
  (∀x∈xs,c (Φ x::rest) S=.ok (p x) S)->(∀x∈xs,p x=Γ->e (Φ x::rest) S=.ok (f x) S)->zay [0] c e xs (o::rest) S=.ok ((xs.filter p).map f) S
 | [],o,_,_=>rfl| x::xs,o,d,g=>by have h:=za6 p f xs (Φ x) (λy a=>d y (Κ _ a)) (λy a=>g y (Κ _ a));simp![zay,asgG,List.set_cons_zero,d x Μ,zat];cases b:p x with|false=>simp[h,b]|true=>simp[h,b,g x Μ b]
def zeG(f)(xs)(o)(a:∀x∈xs,c (Φ x::rest) S=.ok Γ S)(b:∀x∈xs,e (Φ x::rest) S=.ok (f x) S):zay [0] c e xs (o::rest) S=.ok (xs.map f) S:=by
 have:=za6 (c:=c) (e:=e) (S:=S) (rest:=rest) (λ_=>Γ) f xs o a (λx d _=>b x d);rw[List.filter_eq_self.mpr (λ_ _=>rfl)]at this;exact this
@[simp]theorem zrr{α:Type}(S:St)(f:St->Out α):zbh [] S f=(f S).bind λa S'=>.ok a {S' with lk:=S.lk}:=rfl
abbrev wIf(c:Bool)(P Q:Prop):Prop:=match c with|true=>P|false=>Q
@[irreducible]def wOpt{α:Type}(o:Option α)(k:α->Prop):Prop:=match o with|some a=>k a|none=>False
@[irreducible]def za5(p k:Prop):Prop:=p/\k
@[irreducible]def wOut{α:Type}(o:Out α)(Q:α->St->Prop):Prop:=W o Q
def zi1(h:c=Γ)(k:P):wIf c P Q:=by subst h;exact k
def zjY(h:c=Δ)(k:Q):wIf c P Q:=by subst h;exact k
def zhi(a:c=Γ->P)(b:c=Δ->Q):wIf c P Q:=by cases c with|true=>exact zi1 rfl (a rfl)|false=>exact zjY rfl (b rfl)
def zbo[Decidable p](a:p->P)(b:¬p->Q):wIf (decide p) P Q:=zhi (λh=>a (of_decide_eq_true h)) (λh=>b (of_decide_eq_false h))
def wOpt_of(h:o=Φ a)(q:k a):wOpt o k:=by unfold wOpt;rw[h];exact q
def wNeed_of(h:p)(q:k):za5 p k:=by unfold za5;exact⟨h,q⟩
def wOut_of(h:o=.ok a S)(q:Q a S):wOut o Q:=by unfold wOut;rw[h];exact q
def zbn(h:W o Q):wOut o Q:=by unfold wOut;exact h
def zrA:wOpt o (λa=>Q a S)=W (lift S o) Q:=by unfold wOpt;cases o<;>rfl
def zbf(h:wOpt o k):∃a,o=Φ a/\k a:=by unfold wOpt at h;cases o with|none=>exact h.elim|some a=>exact⟨a,rfl,h⟩
def zbZ[Decidable p](h:za5 p k)(q:k->W o Q):W (if p then o else .bad) Q:=by unfold za5 at h;rw[if_pos h.1];exact q h.2
@[reducible]def wGet(S:St)(l:Nat)(k:MO->Prop):Prop:=wOpt (S.get l) k
@[reducible]def wPut(S:St)(l:Nat)(o:MO)(k:St->Prop):Prop:=wOpt (S.put l o) k
def zaB{S:St}(h:S.get l=Φ o)(q:k o):wGet (St.mk (S.frz++S.new) a lk) l k:=wOpt_of (zde h a lk) q
def zas(h:a[i]?=Φ o)(q:k o):wGet (St.mk F a lk) (F.length+i) k:=wOpt_of ((zhO F a lk i).trans h) q
def zp6(h:lk.contains (F.length+i)=Δ):(St.mk F a lk).put (F.length+i) o=Φ ⟨F,a.set i o,lk⟩:=by
 have b:¬F.length+i<F.length:=by lia
 simp![St.put,b,if_false,h,ύ,Nat.add_sub_cancel_left]
def zaR(h:lk.contains (F.length+i)=Δ)(q:k ⟨F,a.set i o,lk⟩):wPut (St.mk F a lk) (F.length+i) o k:=wOpt_of (zp6 h) q
abbrev wLay(S:St)(ds:List D)(Q:D->St->Prop):Prop:=za5 (ds.length<=16777216) (Q (.ref S.len) (S.push (.lst ds)))
def zn9(h:wLay S ds Q):W (lay S ds) Q:=zbZ h id
abbrev wWr(S:St)(l:Nat)(ds:List D)(d:D)(Q:D->St->Prop):Prop:=za5 (ds.length<=16777216) (wPut S l (.lst ds) λa=>Q d a)
def zo7(h:wWr S l ds d Q):W (wr S l ds d) Q:=by refine zbZ h λh=>?_;let⟨_,e,h⟩:=zbf h;rw[e];exact h
abbrev zrC(S:St)(op:Operator)(i j:Int)(Q:D->St->Prop):Prop:=match op with|.Add=>Q (.int (i+j)) S|.Sub=>Q (.int (i-j)) S|.Mult=>za5 (zdD i j=Γ) (Q (.int (i*j)) S)|.FloorDiv=>za5 (0<j/\j<1073741824) (Q (.int (i/j)) S)|.Mod=>za5 (0<j) (Q (.int (i%j)) S)|.Pow=>za5 (0<=j/\j<=1000000/\-18446744073709551616<i/\i<18446744073709551616) (Q (.int (i^j.toNat)) S)|_=>False
abbrev wBin(S:St)(op:Operator)(x y:D)(Q:D->St->Prop):Prop:=match x,y with|.int i,.int j=>zrC S op i j Q|.tup c,.tup d=>(match op with|.Add=>za5 (c.length+d.length<=16777216) (Q (.tup (c++d)) S)|_=>False)|.ref a,.ref b=>(match op with|.Add=>wGet S a λo=>wGet S b λu=>(match o,u with|.lst c,.lst d=>wLay S (c++d) Q|_,_=>False)|_=>False)|_,_=>False
def zrB(h:wBin S op x y Q):W (binD S op x y) Q:=by
 unfold wBin at h;unfold binD;split at h
 . unfold zrC za5 at h;unfold binI;split at h<;>(try dsimp only)<;>first|exact h|(rw[if_pos h.1];exact h.2)|exact False.elim h
 split at h;exact zbZ h id;exact h.elim;split at h
 . let⟨o,e1,h⟩:=zbf h;let⟨u,e2,h⟩:=zbf h;simp![e1,e2];cases o<;>cases u<;>first|exact zn9 h|exact h.elim
 exact h.elim;exact h.elim
abbrev wCmp(S:St)(op:CmpOp)(x y:D)(Q:Bool->Prop):Prop:=match x,y with|.int i,.int j=>(match cmpI op i j with|some k=>Q k|none=>False)| _,_=>(match op with|.Is=>(match cmpO S .Is x y with|some k=>Q k|none=>False)|.IsNot=>(match cmpO S .IsNot x y with|some k=>Q k|none=>False)|_=>wOpt (cmpO S op x y) Q)
def zrd(h:∀i j,x=.int i->y=.int j->False):cmpD S op x y=cmpO S op x y:=by unfold cmpD;split;rename_i i j;exact(h i j rfl rfl).elim;rfl
def zjZ(h:wCmp S op x y Q):∃k,cmpD S op x y=Φ k/\Q k:=by
 have fin:∀o:Option Bool,(match o with|some k=>Q k|none=>False)->∃k,o=Φ k/\Q k:=λo q=>by cases o with|none=>exact q.elim|some k=>exact⟨k,rfl,q⟩
 unfold wCmp at h;split at h;exact fin _ h;rename_i a;rw[zrd a];split at h;exact fin _ h;exact fin _ h;unfold wOpt at h;cases e:cmpO S op x y with|none=>rw[e]at h;exact h.elim|some k=>rw[e]at h;exact⟨k,rfl,h⟩
def zoc(h:wCmp S op x y λk=>Q k S):W (lift S (cmpD S op x y)) Q:=by let⟨k,e,q⟩:=zjZ h;rw[e];exact q
abbrev wBi(S:St)(b:Bi)(ds:List D)(Q:D->St->Prop):Prop:=match b,ds with
 |.len,[x]=>(match x with
  |.tup ds=>Q (.int ds.length) S|.fix ds=>Q (.int ds.length) S|.ref l=>wGet S l λo=>(match o with|.lst ds=>Q (.int ds.length) S|_=>False)|_=>False)
 |.abs,[.int i]=>Q (.int (if i<0 then -i else i)) S|.max2,[.int i,.int j]=>Q (.int (if j>i then j else i)) S|.min2,[.int i,.int j]=>Q (.int (if j<i then j else i)) S|.isin t,[x]=>wOpt (tyOf S x) λa=>Q (.bl (a==t||(a=="bool"&&t=="int"))) S|_,_=>False
def ztW(h:wBi S b ds Q):W (bi S b ds) Q:=by
 cases b<;>rcases ds with _|⟨x,_|⟨y,_|⟨z,_⟩⟩⟩
 all_goals first
 |exact h
 |exact h.elim
 |(let⟨o,e,h⟩:=zbf h;unfold bi;dsimp only;rw[e];exact h)
 |(cases x<;>first
  |exact h
  |exact h.elim
  |(let⟨o,e,h⟩:=zbf h;unfold bi;dsimp only;rw[e];cases o<;>first|exact h|exact h.elim)
  |(cases y<;>first|exact h|exact h.elim))
abbrev wIsL(S:St)(x:D)(P:Prop):Prop:=match x with|.ref l=>wGet S l λo=>(match o with|.lst _=>P|_=>False)|_=>False
def zjX(h:wIsL S x P):isL S x=Γ/\P:=by
 unfold wIsL at h;split at h
 . let⟨o,e,h⟩:=zbf h;cases o<;>first|exact⟨by simp![isL,e],h⟩|exact h.elim
 exact h.elim
abbrev wMt(S:St)(m:Mt)(x:D)(ds:List D)(Q:D->St->Prop):Prop:=match m,x,ds with
 |.append,.ref l,[y]=>wGet S l λo=>(match o with|.lst ds=>wWr S l (ds++[y]) .non Q|_=>False)
 |.popAt,.ref l,[.int i]=>wGet S l λo=>(match o with
  |.lst ds=>za5 (0<=i) (wOpt ds[i.toNat]? λy=>wWr S l (ds.eraseIdx i.toNat) y Q)|_=>False)
 |.count,.ref l,[.int i]=>wGet S l λo=>(match o with
  |.lst ds=>wOpt (zbe ds) λos=>Q (.int (os.count (Φ i):Nat)) S|_=>False)
 |.count,.ref l,[.non]=>wGet S l λo=>(match o with
  |.lst ds=>wOpt (zbe ds) λos=>Q (.int (os.count Ψ:Nat)) S|_=>False)
 |_,_,_=>False
def ztU(h:wMt S m x ds Q):W (mt S m x ds) Q:=by
 cases m<;>cases x<;>(try exact h.elim)<;>rcases ds with _|⟨y,_|⟨z,_⟩⟩
 all_goals first
 |exact h.elim
 |(let⟨o,e,h⟩:=zbf h;unfold mt;dsimp only;rw[e];cases o<;>first|exact h.elim|exact zo7 h)
 |(cases y<;>first
  |exact h.elim
  |(let⟨o,e,h⟩:=zbf h;unfold mt;dsimp only;rw[e];cases o<;>first
   |exact h.elim
   |(dsimp only at h⊢;refine zbZ h λh=>?_;let⟨y,e,h⟩:=zbf h;rw[e];exact zo7 h)
   |(dsimp only at h⊢;let⟨y,e,h⟩:=zbf h;rw[e];exact h)))
abbrev wSeq(S:St)(x:D)(k:List D->Prop):Prop:=match x with|.tup a=>k a|.fix a=>k a|.ref l=>wGet S l λo=>(match o with|.lst a=>k a|_=>False)|_=>False
def zjU(h:wSeq S x k):∃ds,zbg S x=Φ ds/\k ds:=by
 unfold wSeq at h;split at h;exact⟨_,rfl,h⟩;exact⟨_,rfl,h⟩
 . let⟨o,e,h⟩:=zbf h;cases o<;>first|exact⟨_,by simp![zbg,e],h⟩|exact h.elim
 exact h.elim
abbrev wTru(S:St)(x:D)(Q:Bool->Prop):Prop:=match x with|.bl b=>Q b|.non=>Q Δ|.int i=>Q (i != 0)|.tup a=>Q (!a.isEmpty)|.ref l=>wGet S l λo=>(match o with|.lst a=>Q (!a.isEmpty)|_=>False)|_=>False
def zry(h:wTru S x λk=>Q k S):W (lift S (tru S x)) Q:=by
 unfold wTru at h;split at h
 all_goals
  repeat' first
  |exact h
  |exact h.elim
  |split at h
  |(let⟨o,e,h⟩:=zbf h;simp![tru,e])
@[irreducible]def zi0{α:Type}(ls:List Nat)(S:St)(f:St->Out α)(Q:α->St->Prop):Prop:=W (zbh ls S f) Q
def zjW(h:zi0 ls S f Q):W (zbh ls S f) Q:=by unfold zi0 at h;exact h
def zar(h:W (f {S with lk:=ls++S.lk}) λa T=>Q a {T with lk:=S.lk}):zi0 ls S f Q:=by unfold zi0 zbh;rw[zab];exact h
section
variable(cf:CF)
mutual
noncomputable def wE(e₀:CE)(δ:Ev)(S:St)(Q:(D->St->Prop)):Prop:=match e₀ with
 |.loc i=>(match (δ[i]?).join with|some d=>Q d S|none=>False)|.con d=>Q d S|.tst _=>False|.bin op a b=>wE a δ S λx S1=>wE b δ S1 λy S2=>wBin S2 op x y Q|.neg a=>wE a δ S λx S1=>(match x with|.int i=>Q (.int (-i)) S1|_=>False)|.nt a=>wE a δ S λx S1=>(match x with|.bl b=>Q (.bl (!b)) S1|_=>False)|.cmp op a b=>wE a δ S λx S1=>wE b δ S1 λy S2=>wCmp S2 op x y λk=>Q (.bl k) S2|.cmp2 op op' a b c=>wE a δ S λx S1=>wE b δ S1 λy S2=>wCmp S2 op x y λk=>wIf k (wE c δ S2 λz S4=>wCmp S4 op' y z λk'=>Q (.bl k') S4) (Q (.bl Δ) S2)|.and a b=>wE a δ S λx S1=>(match x with|.bl k=>wIf k (wE b δ S1 Q) (Q (.bl Δ) S1)|_=>False)|.or a b=>wE a δ S λx S1=>(match x with|.bl k=>wIf k (Q (.bl Γ) S1) (wE b δ S1 Q)|_=>False)|.ite c a b=>wT c δ S λk S1=>wIf k (wE a δ S1 Q) (wE b δ S1 Q)|.tup es=>wEs es δ S λds S1=>za5 (ds.length<=16777216) (Q (.tup ds) S1)|.lst es=>wEs es δ S λds S1=>wLay S1 ds Q|.dnew=>Q (.ref S.len) (S.push (.dic []))|.dnew3=>Q (.ref S.len) (S.push (.d3 []))|.srtK a=>wE a δ S λr S1=>wOpt (zgD S1 r) λq=>za5 (q.2.length<64/\q.2.Nodup) (wLay S1 (srtD q.1 q.2) Q)|.dgetI a b c=>wE a δ S λx S1=>za5 (isDi S1 x=Γ) (wE b δ S1 λy S2=>wE c δ S2 λz S3=>wOpt (zgZ S3 x y) λo=>Q (o.getD z) S3)|.dsetI a b c=>wE a δ S λx S1=>za5 (isDi S1 x=Γ) (wE b δ S1 λy S2=>wE c δ S2 λz S3=>wOpt (zfU S3 x y z) λo=>Q o.1 o.2)|.extv a b=>wE a δ S λx S1=>wIsL S1 x (wE b δ S1 λy S2=>wOpt (lsts S2 x y) λo=>wWr S2 o.1 (o.2.1++o.2.2) .non Q)|.fld a f=>wE a δ S λx S1=>wOpt ((zbY S1 x).bind λp=>p.2.lookup f) λv=>Q v S1|.mk c f _ j es=>wEs es δ S λds S1=>wOut (appW cf f (.ref S1.len::(ds++List.replicate j .non)) (S1.push (.ins c []))) λd S2=>za5 (zlD d=Γ) (Q (.ref S1.len) S2)|.meth m tb o es=>wE o δ S λx S1=>wOpt (zbY S1 x) λp=>wOpt (tb.lookup p.1) λf=>za5 ((p.2.lookup m).isNone=Γ) (wEs es δ S1 λds S2=>wOut (appW cf f (x::ds) S2) Q)|.callC f _ _ es=>wEs es δ S λds S1=>wOut (appW cf f ds S1) Q|.callV a es=>wE a δ S λx S1=>wEs es δ S1 λds S2=>wOpt (zdp x ds) λd=>Q d S2|.ix a b=>wE a δ S λx S1=>wE b δ S1 λy S2=>wSeq S2 x λds=>(match y with|.int i=>wOpt (atI ds i) λd=>Q d S2|_=>False)|.sl a n=>wE a δ S λx S1=>(match x with|.tup ds=>za5 (n<ds.length) (Q (.tup (ds.take n)) S1)|_=>False)|.call f j es=>wEs es δ S λds S1=>wOut (app cf f (ds++List.replicate j .non) S1) Q|.callW f j es=>wEs es δ S λds S1=>wOut (appW cf f (ds++List.replicate j .non) S1) Q|.bi b es=>wEs es δ S λds S1=>wBi S1 b ds Q|.mt m o es=>wE o δ S λx S1=>wIsL S1 x (wEs es δ S1 λds S2=>wMt S2 m x ds Q)|.mkL l=>wL l δ S λr S1=>wLay S1 r.1 Q|.mkT l=>wL l δ S λr S1=>za5 (r.1.length<=16777216) (Q (.tup r.1) S1)|.all l=>wL l δ S λr S1=>wOpt (allD r.1) λb=>Q (.bl b) S1
 |.ext a l=>wE a δ S λx S1=>wIsL S1 x (wL l δ S1 λr S2=>(match x with
  |.ref p=>wGet S2 p λo=>(match o with|.lst ds=>wWr S2 p (ds++r.1) .non Q|_=>False)|_=>False))
 |.lenset l=>wL l δ S λr S1=>wOpt (zaD r.1) λis=>za5 (is.length<4000) (Q (.int (dedup is).length) S1)|.sset a=>wE a δ S λr S1=>wOpt (lstI S1 r) λis=>za5 (is.length<64) (wLay S1 ((zfi (dedup is)).map .int) Q)
noncomputable def wEs(e₀:CEs)(δ:Ev)(S:St)(Q:(List D->St->Prop)):Prop:=match e₀ with|.nil=>Q [] S|.cons e r=>wE e δ S λd S1=>wEs r δ S1 λds S2=>Q (d::ds) S2
noncomputable def wT(e₀:CE)(δ:Ev)(S:St)(Q:(Bool->St->Prop)):Prop:=match e₀ with|.cmp op a b=>wE a δ S λx S1=>wE b δ S1 λy S2=>wCmp S2 op x y λk=>Q k S2|.cmp2 op op' a b c=>wE a δ S λx S1=>wE b δ S1 λy S2=>wCmp S2 op x y λk=>wIf k (wE c δ S2 λz S4=>wCmp S4 op' y z λk'=>Q k' S4) (Q Δ S2)|.nt a=>wT a δ S λk S1=>Q (!k) S1|.and a b=>wT a δ S λk S1=>wIf k (wT b δ S1 Q) (Q Δ S1)|.or a b=>wT a δ S λk S1=>wIf k (Q Γ S1) (wT b δ S1 Q)|.tst e=>wE e δ S λx S1=>wTru S1 x λk=>Q k S1|_=>False
noncomputable def wL(e₀:CL)(δ:Ev)(S:St)(Q:(List D×List Nat->St->Prop)):Prop:=match e₀ with
 |.val e=>wE e δ S λx S1=>wSeq S1 x λds=>Q (ds,lkOf S1 x) S1|.rng1 a=>wE a δ S λx S1=>(match x with|.int j=>za5 (-(2^62)<=j/\j<2^62) (Q ((List.range j.toNat).map λ(k:Nat)=>.int k,[]) S1)|_=>False)
 |.rng2 a b=>wE a δ S λx S1=>wE b δ S1 λy S2=>(match x,y with
  |.int i,.int j=>za5 (-(2^62)<=i/\i<2^62/\-(2^62)<=j/\j<2^62) (Q ((List.range (j-i).toNat).map λ(k:Nat)=>.int (i+k),[]) S2)|_,_=>False)
 |.enum a=>wE a δ S λx S1=>wOpt (zdo S1 x) λr=>Q r S1|.comp n js g it c e=>wL it δ S λr S1=>zi0 r.2 S1 (λS2=>zay g (evT cf c) (evE cf e) r.1 (csl n js δ) S2) λds S3=>za5 (ds.length<=16777216) (Q (ds,[]) S3)
end
abbrev wS(o:CS)(δ:Ev)(S:St)(Q:(Fl->St->Prop)):Prop:=match o with|.nil=>Q (.nx δ) S|.stop=>False|.asg i e r=>wE cf e δ S λx h=>wS r (δ.set i (Φ x)) h Q|.asgT g e r=>wE cf e δ S λx h=>wOpt (asgG g x δ) λj=>wS r j h Q|.setIx a b e r=>wE cf e δ S λv h=>wE cf a δ h λx m=>wE cf b δ m λy n=>wOpt (zfV n x y v) λp=>wS r δ p Q|.setF a f e r=>wE cf e δ S λv h=>wE cf a δ h λx m=>wOpt (zbT m x f v) λn=>wS r δ n Q|.ifS c t u r=>wT cf c δ S λk h=>wIf k (wS t δ h λf m=>(match f with|.nx j=>wS r j m Q|.rt d=>Q (.rt d) m)) (wS u δ h λf m=>(match f with|.nx j=>wS r j m Q|.rt d=>Q (.rt d) m))|.forS g l b r=>wL cf l δ S λq h=>zi0 q.2 h (λm=>zba g (exS cf b) q.1 δ m) λf n=>(match f with|.nx j=>wS r j n Q|.rt d=>Q (.rt d) n)|.retN _=>Q (.rt .non) S|.ret e _=>wE cf e δ S λx h=>Q (.rt x) h|.expr e r=>wE cf e δ S λ_ h=>wS r δ h Q
end
section
variable{cf:CF}
def W.bnd(h:W o P)(k:∀a S,P a S->W (f a S) Q):W (o.bind f) Q:=by rw[zab];exact h.mono k
def zn8(h:wOpt o k)(q:∀a,k a->W (f a S) Q):W ((lift S o).bind f) Q:=by let⟨a,rfl,g⟩:=zbf h;exact q a g
def zjV(h:wOpt o λa=>Q a S):W (lift S o) Q:=by rw[<-zrA];exact h
def zoa(h:wIsL S x P)(q:P->W o Q):W (if isL S x then o else .bad) Q:=by rw[if_pos (zjX h).1];exact q (zjX h).2
def zmv(h:wIf c A B)(a:A->W o Q)(b:B->W u Q):W (if c then o else u) Q:=by cases c with|true=>exact a h|false=>exact b h
def ztV{o u:Out d}{f:d->St->Out e}{Q:e->St->Prop}(h:wIf c A B)(a:A->W (o.bind f) Q)(b:B->W (u.bind f) Q):W ((if c then o else u).bind f) Q:=by cases c with|true=>exact a h|false=>exact b h
def zob(h:wCmp S op x y k)(q:∀b,k b->W (f b S) Q):W ((lift S (cmpD S op x y)).bind f) Q:=by let⟨b,e,h⟩:=zjZ h;rw[e];exact q b h
def zrz(h:wSeq S x k)(q:∀b,k b->W (f b S) Q):W ((lift S (zbg S x)).bind f) Q:=by let⟨b,e,h⟩:=zjU h;rw[e];exact q b h
def zn7(h:wOut o Q):W o Q:=by unfold wOut at h;exact h
mutual
theorem wE_W(e:CE){δ:Ev}{S:St}{Q:D->St->Prop}(h:wE cf e δ S Q):W (evE cf e δ S) Q:=by
 cases e with
 |loc i=>
  show W (lift S _) Q;conv at h=>whnf
  split at h;rename_i e;rw[e];exact h;exact h.elim
 |ix a b=>refine W.bnd (wE_W a h) λx S1 h=>W.bnd (wE_W b h) λy S2 h=>?_;let⟨ds,e,h⟩:=zjU h;rw[e];cases y with|int i=>exact zjV h|_=>exact h.elim
 |ext a l=>
  refine W.bnd (wE_W a h) λx S1 h=>zoa h λh=>W.bnd (wL_W l h) λr S2 h=>?_;cases x with
  |ref p=>let⟨o,e,h⟩:=zbf h;simp![e];cases o<;>first|exact zo7 h|exact h.elim
  |_=>exact h.elim
 |_=>
  conv at h=>whnf
  first
  |exact h
  |exact h.elim
  |refine W.bnd (wE_W _ h) λ_ _ h=>?_|refine W.bnd (zo8 _ h) λ_ _ h=>?_|refine W.bnd (wL_W _ h) λ_ _ h=>?_|refine W.bnd (wT_W _ h) λ_ _ h=>?_
  repeat' first
  |exact h
  |exact h.elim
  |exact zrB h
  |exact ztW h
  |exact ztU h
  |exact zn9 h
  |exact zo7 h
  |exact zn7 h
  |exact zjV h
  |exact wE_W _ h
  |refine W.bnd (wE_W _ h) λ_ _ h=>?_|refine W.bnd (zo8 _ h) λ_ _ h=>?_|refine W.bnd (zn7 h) λ_ _ h=>?_|refine zob h λ_ h=>?_|refine zn8 h λ_ h=>?_|refine zbZ h λh=>?_|refine zoa h λh=>?_|refine zmv h (λh=>?_) λh=>?_
  |split at h
theorem zo8(es:CEs){δ:Ev}{S:St}{Q:List D->St->Prop}(h:wEs cf es δ S Q):W (evEs cf es δ S) Q:=by cases es with|nil=>exact h|cons e r=>exact W.bnd (wE_W e h) λ_ _ h=>W.bnd (zo8 r h) λ_ _ h=>h
theorem wT_W(e:CE){δ:Ev}{S:St}{Q:Bool->St->Prop}(h:wT cf e δ S Q):W (evT cf e δ S) Q:=by cases e with|cmp op a b=>exact W.bnd (wE_W a h) λ_ _ h=>W.bnd (wE_W b h) λ_ _ h=>zoc h|cmp2 op op' a b c=>exact W.bnd (wE_W a h) λ_ _ h=>W.bnd (wE_W b h) λ_ _ h=>zob h λ_ h=>zmv h (λh=>W.bnd (wE_W c h) λ_ _ h=>zoc h) λh=>h|nt a=>exact W.bnd (wT_W a h) λ_ _ h=>h|and a b=>exact W.bnd (wT_W a h) λ_ _ h=>zmv h (wT_W b) λh=>h|or a b=>exact W.bnd (wT_W a h) λ_ _ h=>zmv h (λh=>h) (wT_W b)|tst e=>exact W.bnd (wE_W e h) λ_ _ h=>zry h|_=>exact h.elim
theorem wL_W(l:CL){δ:Ev}{S:St}{Q:List D×List Nat->St->Prop}(h:wL cf l δ S Q):W (evL cf l δ S) Q:=by
 cases l with
 |val e=>exact W.bnd (wE_W e h) λ_ _ h=>zrz h λ_ h=>h| rng1 a=>refine W.bnd (wE_W a h) λx _ h=>?_;cases x<;>first|exact zbZ h λh=>h|exact h.elim
 |rng2 a b=>refine W.bnd (wE_W a h) λx _ h=>W.bnd (wE_W b h) λy _ h=>?_;cases x<;>first|exact h.elim|(cases y<;>first|exact zbZ h λh=>h|exact h.elim)
 |enum a=>exact W.bnd (wE_W a h) λ_ _ h=>zjV h|comp n js g it c e=>exact W.bnd (wL_W it h) λ_ _ h=>W.bnd (zjW h) λ_ _ h=>zbZ h λh=>h
end
def wS_W(s)(h:wS cf s δ S Q):W (exS cf s δ S) Q:=by
 induction s generalizing δ S Q with
 |nil=>exact h|stop=>exact h.elim|asg i e r d=>exact W.bnd (wE_W e h) λ_ _ h=>d h|asgT g e r d=>exact W.bnd (wE_W e h) λ_ _ h=>zn8 h λ_ h=>d h|setIx a b e r d=>exact W.bnd (wE_W e h) λ_ _ h=>W.bnd (wE_W a h) λ_ _ h=>W.bnd (wE_W b h) λ_ _ h=>(zbf h).elim λ_ h=>by rw[h.1];exact d h.2|setF a f e r d=>exact W.bnd (wE_W e h) λ_ _ h=>W.bnd (wE_W a h) λ_ _ h=>(zbf h).elim λ_ h=>by rw[h.1];exact d h.2| ifS c t u r j k d=>
  refine W.bnd (wT_W c h) λ_ _ h=>ztV h (λh=>W.bnd (j h) λf _ h=>?_) λh=>W.bnd (k h) λf _ h=>?_
  all_goals
   cases f with|nx=>exact d h|rt=>exact h
 |forS g l b r m d=>refine W.bnd (wL_W l h) λ_ _ h=>W.bnd (zjW h) λf _ h=>?_;cases f with|nx=>exact d h|rt=>exact h
 |retN=>exact h|ret e=>exact W.bnd (wE_W e h) λ_ _ h=>h|expr e r d=>exact W.bnd (wE_W e h) λ_ _ h=>d h
@[irreducible]def wFin(S:St)(r:Fl)(T:St)(Q:D->St->Prop):Prop:=W (fin S r T) Q
def zf2(h:P[f]?=Φ F)(hl:ds.length=F.np)(w:wS (callF P n) F.body (zaX F ds) S.enter λr T=>wFin S r T Q)(a:F.prim=Ψ:=by rfl):
  W (app (callF P (n+1)) f ds S) Q:=by
 rw[zo3 h hl a,zab];refine(wS_W _ w).mono λr T q=>?_;unfold wFin at q;exact q
def zaQ(h:P[f]?=Φ F)(b:ds.length=F.np)(w:wS (callF P n) F.body (zaX F ds) S.enter λr T=>wFin S r T λa c=>a=d/\c=e)(g:F.prim=Ψ:=by rfl):
 app (callF P (n+1)) f ds S=.ok d e:=W.eq (zf2 h b w g)
def zaj(h:flat S.len d=Γ)(q:Q d S):wFin S (.rt d) T Q:=by unfold wFin;rw[zlV,zjz S d T h];exact q
def zdK(c:S.len<=l)(a:T.get l=Φ (.lst ds))(h:flats S.len ds=Γ)(q:Q (.ref S.len) (S.push (.lst ds))):wFin S (.rt (.ref l)) T Q:=by
 have b:flat S.len (.ref l)=Δ:=by simp[flat];omega
 unfold wFin;rw[zlV];unfold zcF;simp![b,a,h,if_true,ύ,if_false];exact q
def ze9(b:a[i]?=Φ (.lst ds))(h:flats S.len ds=Γ)(q:Q (.ref S.len) (S.push (.lst ds))):
  wFin S (.rt (.ref ((S.frz++S.new).length+i))) (St.mk (S.frz++S.new) a lk) Q:=
 zdK (by rw[zfI];lia) ((zhO _ a lk i).trans b) h q
def zf6(c:S.len<=l)(a:T.get l=Φ (.lst ds))(h:flats S.len ds=Δ)(q:Q (.ref l) ⟨S.frz,S.new++T.new,S.lk⟩):wFin S (.rt (.ref l)) T Q:=by
 have b:flat S.len (.ref l)=Δ:=by simp[flat];omega
 unfold wFin;rw[zlV];unfold zcF;simp![b,a,h];exact q
end
structure Frm(S S':St):Prop where
 frz:S'.frz=S.frz
 lk:S'.lk=S.lk
 len:S.new.length<=S'.new.length
 same:∀l∈S.lk,l<S.len->S'.get l=S.get l
def Frm.refl(S):Frm S S:=⟨rfl,rfl,le_refl _,λ_ _ _=>rfl⟩
def Frm.lens(h:Frm S a):S.len<=a.len:=by unfold St.len;rw[h.frz];have:=h.len;lia
def Frm.trans(a:Frm S S1)(b:Frm S1 d):Frm S d:=⟨b.frz.trans a.frz,b.lk.trans a.lk,le_trans a.len b.len,λl c h=>(b.same l (by rw[a.lk];exact c) (lt_of_lt_of_le h a.lens)).trans (a.same l c h)⟩
def Frm.push(S)(o):Frm S (S.push o):=by refine⟨rfl,rfl,by simp[St.push],λl _ h=>?_⟩;unfold St.len at h;unfold St.get St.push;simp only;split;rfl;rw[getElem?_append_left (by omega)]
def Frm.put(h:S.put l o=Φ a):Frm S a:=by
 unfold St.put at h;split at h;exact nS h;split at h;exact nS h;rename_i f b;injection h with h;subst h;refine⟨rfl,rfl,by simp,λm c g=>?_⟩;have d:m≠l:=λe=>by subst e;exact b (by simpa using c)
 unfold St.get;split;rfl;rw[getElem?_set_ne (by lia)]
def Frm.keep(S T:St):Frm S ⟨S.frz,S.new++T.new,S.lk⟩:=by refine⟨rfl,rfl,by simp,λl _ h=>?_⟩;unfold St.len at h;unfold St.get;simp only;split;rfl;rw[getElem?_append_left (by omega)]
abbrev Fr{b:Type}(S:St)(o:Out b):Prop:=∀a T,o=.ok a T->Frm S T
section
variable{α β:Type}{S T:St}{o:Out α}
def Fr.of(h:Frm S T):Fr S (.ok a T):=λ_ _ e=>by cases e;exact h
def Fr.ok:Fr S (.ok a S):=.of (.refl S)
def Fr.bad:Fr S (.bad:Out α):=λ_ _ e=>by cases e
def Fr.to(h:Frm S T)(k:Fr T o):Fr S o:=λa U e=>h.trans (k a U e)
def Fr.bind(h:Fr S o)(k:∀a T,Fr T (f a T)):Fr S (o.bind f):=by cases o with|ok a T=>exact .to (h a T rfl) (k a T)|_=>exact λ_ _ e=>by cases e
def Fr.w(f:Fr S o)(h:W o Q):W o λa T=>Q a T/\Frm S T:=by cases o with|ok a T=>exact⟨h,f a T rfl⟩|_=>exact h
def Fr.lift{o:Option α}:Fr S (lift S o):=by cases o with|none=>exact .bad|some=>exact .ok
def Fr.lock(h:∀S,Fr S (f S)):Fr S (zbh ls S f):=by unfold zbh;cases e:f {S with lk:=ls++S.lk} with|ok a T=>exact .of (have h:=h _ a T e;⟨h.frz,rfl,h.len,λl b c=>h.same l (mem_append_right _ b) c⟩)|_=>exact λ_ _ e=>by cases e
def zts:Fr S (lay S ds):=by unfold lay;split;exact .of (.push _ _);exact .bad
def frWr:Fr S (wr S l ds d):=by
 unfold wr
 repeat' first
 |exact .bad
 |exact .of (.put (by assumption))
 |split
def zuF:Fr S (binD S op x y):=by
 unfold binD binI
 repeat' first
 |exact .bad
 |exact .ok
 |exact zts
 |split
def frBi:Fr S (bi S b ds):=by
 cases b<;>rcases ds with _|⟨x,_|⟨y,_|⟨z,_⟩⟩⟩
 all_goals first
 |exact .bad
 |exact .ok
 |(unfold bi;dsimp only;split<;>first|exact .bad|exact .ok|(split<;>first|exact .bad|exact .ok))
 |(cases x<;>first|exact .bad|exact .ok|(cases y<;>first|exact .bad|exact .ok))
def frMt:Fr S (mt S m x ds):=by
 cases m<;>cases x<;>(try exact .bad)<;>rcases ds with _|⟨y,_|⟨z,_⟩⟩
 all_goals first
 |exact .bad
 |(unfold mt;dsimp only;split<;>first|exact .bad|exact frWr)
 |(cases y<;>first
  |exact .bad
  |(unfold mt;dsimp only;repeat' first
   |exact .bad
   |exact .ok
   |exact frWr
   |split))
def zuE(h:zbT S x f v=Φ T):Frm S T:=by
 unfold zbT at h
 repeat' first
 |exact .put h
 |exact nS h
 |split at h
def zuD(h:dPut S x y v=Φ T):Frm S T:=by
 unfold dPut Option.bind at h
 repeat' first
 |exact .put h
 |exact nS h
 |split at h
 |dsimp only at h
def ztr(h:zfV S x y v=Φ T):Frm S T:=by
 unfold zfV Option.bind at h
 repeat' first
 |exact .put h
 |exact nS h
 |split at h
 |dsimp only at h
def zuC:Fr S ((R.lift S (zfU S x y v)).bind λo _=>.ok o.1 o.2):=by
 unfold zfU;split;exact .ok;cases e:dPut S x y v with|none=>exact .bad|some=>exact .of (zuD e)
 exact .bad
def zq1:Fr S (zcF S d T):=by
 unfold zcF;dsimp only
 repeat' first
 |exact .ok
 |exact .of (.push _ _)
 |exact .of (.keep _ _)
 |split
def zuG:Fr S (app cf f ds S):=by unfold app;cases cf f ds S.enter with|ok=>exact zq1|_=>exact λ_ _ e=>by cases e
def frC(a:∀δ S,Fr S (c δ S))(b:∀δ S,Fr S (e δ S))(xs)(δ)(S):Fr S (zay g c e xs δ S):=by
 induction xs generalizing δ S with
 |nil=>exact .ok| cons x xs d=>
  unfold zay
  repeat' first
  |exact .bad
  |exact .ok
  |exact d _ _
  |exact a _ _
  |exact b _ _
  |refine Fr.bind ?_ λ_ _=>?_
  |split
def frF(a:∀δ S,Fr S (b δ S))(xs)(δ)(S):Fr S (zba g b xs δ S):=by
 induction xs generalizing δ S with
 |nil=>exact .ok| cons x xs c=>
  unfold zba
  repeat' first
  |exact .bad
  |exact .ok
  |exact c _ _
  |exact a _ _
  |refine Fr.bind ?_ λ_ _=>?_
  |split
end
abbrev CFok(cf:CF):Prop:=∀f a S d T,cf f a S=.ok d T->Frm S T
section
variable{cf:CF}(hcf:CFok cf)
include hcf
def frW{f:Nat}{ds:List D}{S:St}:Fr S (appW cf f ds S):=by unfold appW;exact hcf f ds S
mutual
theorem frE(e:CE)(δ:Ev)(S:St):Fr S (evE cf e δ S):=by
 cases e
 all_goals
  first
  |exact .ok
  |exact .bad
  |exact .lift
  |exact .of (.push _ _)
  |refine Fr.bind ?_ λ_ _=>?_
 all_goals
  repeat' first
  |exact .ok
  |exact .bad
  |exact .lift
  |exact frE _ _ _
  |exact frEs _ _ _
  |exact frT _ _ _
  |exact frL _ _ _
  |exact zuF
  |exact frBi
  |exact frMt
  |exact zts
  |exact frWr
  |exact zuG
  |exact frW hcf
  |exact .to (.push _ _) (frW hcf)
  |exact zuC
  |refine Fr.bind ?_ λ_ _=>?_
  |split
theorem frEs(e:CEs)(δ:Ev)(S:St):Fr S (evEs cf e δ S):=by cases e with|nil=>exact .ok|cons e r=>exact .bind (frE e δ S) λ_ T=>.bind (frEs r δ T) λ_ _=>.ok
theorem frT(e:CE)(δ:Ev)(S:St):Fr S (evT cf e δ S):=by
 cases e
 all_goals
  first
  |exact .bad
  |refine Fr.bind ?_ λ_ _=>?_
 all_goals
  repeat' first
  |exact .ok
  |exact .lift
  |exact frE _ _ _
  |exact frT _ _ _
  |refine Fr.bind ?_ λ_ _=>?_
  |split
theorem frL(e:CL)(δ:Ev)(S:St):Fr S (evL cf e δ S):=by
 cases e
 all_goals
  refine Fr.bind ?_ λ_ _=>?_
  all_goals
   repeat' first
   |exact .ok
   |exact .bad
   |exact .lift
   |exact frE _ _ _
   |exact frL _ _ _
   |exact .lock λ_=>frC (λδ S=>frT _ δ S) (λδ S=>frE _ δ S) _ _ _|refine Fr.bind ?_ λ_ _=>?_
   |split
end
def frS(s:CS)(δ:Ev)(S:St):Fr S (exS cf s δ S):=by
 cases s
 all_goals
  first
  |exact .ok
  |exact .bad
  |refine Fr.bind ?_ λ_ _=>?_
 all_goals
  repeat' first
  |exact .ok
  |exact .bad
  |exact .lift
  |exact frE hcf _ _ _
  |exact frT hcf _ _ _
  |exact frL hcf _ _ _
  |exact frS _ _ _
  |exact .to (ztr (by assumption)) (frS _ _ _)
  |exact .to (zuE (by assumption)) (frS _ _ _)
  |exact .lock λ_=>frF (λδ S=>frS _ δ S) _ _ _|refine Fr.bind ?_ λ_ _=>?_
  |split
end
end R
namespace R
open PySem L2
abbrev KL(K:Frag)(a:Addr)(xs:List V):Prop:=∃(o:Obj) (b:Array Ξ) (n:Nat),K.lookup a=Φ o/\o.cls=.type "list"/\o.dict=Ψ/\o.data=.seq b n/\b.size<=sizeLine/\Vals xs b.toList
abbrev FixL(K:Frag)(H:Hp)(a:Addr)(xs:List V):Prop:=(∃o,H a=Φ (.frz o (.lst xs)))\/KL K a xs
def FixL.sq(h:FixL K H a xs):SqL K H a xs:=h.elim (λz=>(by let⟨o,e⟩:=z;exact .inl (.inr ⟨o,e⟩))) .inr
noncomputable abbrev arrN:Str:="word_on_arrival"
noncomputable abbrev arrQ:Str:="road.<locals>.word_on_arrival"
structure CloSt(st:Stmt):Prop where
 body:∃(x6:Nat) (p1 p2 p3 p4 p5 p6 p7 p8 p9:Pos),zal st=[.Return (Φ (.Call (.Attribute (.Name "last" p1) "get" p2) [.Tuple [.Name "turn" p3,.Name "path" p4,.Name "to" p5] x6 p6,.Name "word" p7] [] p8)) p9]/\(p2.endLine==p8.line)=Γ
 kind:(zaa st).kind=.function
 co:(zaa st).isCoroutine=Δ
 gen:(zaa st).isGenerator=Δ
 cell:∀y∈(zaa st).names,y.2≠.cell
 free:∀y∈(zaa st).names,y.2=.free->y.1=("last":Str)
 l0:(zaa st).names.lookup ("turn":Str)=Φ .local
 l1:(zaa st).names.lookup ("path":Str)=Φ .local
 l2:(zaa st).names.lookup ("to":Str)=Φ .local
 l3:(zaa st).names.lookup ("word":Str)=Φ .local
 l4:(zaa st).names.lookup ("last":Str)=Φ .free
 bind:∀(cl:List (Str×Addr))(doc pm cd ct a b c d:Ξ),bindArgs (PySem.W.fnX arrN arrQ (zap st) (zal st) (zaa st) cl .none .none doc pm Ψ cd ct) ⟨[a,b,c,d],[]⟩=pure [(("turn":Str),a),(("path":Str),b),(("to":Str),c),(("word":Str),d)]
 text:∃pos:Pos,st=.FunctionDef arrN (zap st) (zal st) [] Ψ [] (zaa st) Ψ arrN pos
 d0:(zap st).defaults=[]
 k0:(zap st).kw_defaults=[]
 an:∀env:Env,annTrees (zap st) Ψ env=[]
 clo:∀(env:Env)(c:Addr),env.cells.lookup ("last":Str)=Φ c->closureFor (zaa st) env=pure [(("last":Str),c)]
abbrev RsOk:Option Stmt->Prop
 |none=>True|some st=>CloSt st
class Mks where
 ts:List (Addr×Str)
 cl:List Addr
 rs:Option Stmt
 ro:RsOk rs
variable[Mks]
abbrev TabIn(H:Hp)(P:Addr)(q:Str):Prop:=∃a:Array Ξ,H P=Φ (.tbl a)/\TriplesOk a.toList/\
 ∀(pos:Pos)(v:Ξ),codeAmong pos a.toList=Φ v->∃(c:Addr) (b:Obj) (d:Array Ξ) (t:Tok),v=.ref c/\H c=Φ (.frz b (.own 0))/\b.data=.fields d/\d[1]?=Φ (.str q t)
def TabIn.up(t:TabIn H P q)(e:H' P=H P)(f:∀b o u,H b=Φ (.frz o u)->H' b=Φ (.frz o u)):TabIn H' P q:=by let⟨a,d,g,h⟩:=t;refine⟨a,by rw[e];exact d,g,λpos v i=>?_⟩;let⟨c,j,k,t,l,m,n⟩:=h pos v i;exact⟨c,j,k,t,l,f _ _ _ m,n⟩
abbrev TB(H:Hp):Prop:=∀p∈Mks.ts,TabIn H p.1 p.2
structure Kp(H H':Hp):Prop where
 tups:Tups H H'
 frzs:∀b o u,H b=Φ (.frz o u)->H' b=Φ (.frz o u)
 tab:TB H->TB H'
def Kp.refl(H):Kp H H:=⟨Tups.refl H,λ_ _ _ h=>h,λh=>h⟩
def Kp.trans(a:Kp H d)(b:Kp d e):Kp H e:=⟨a.tups.trans b.tups,λc o u h=>b.frzs c o u (a.frzs c o u h),λh=>b.tab (a.tab h)⟩
def Kp.same(a:Tups H H')(b:∀b o u,H b=Φ (.frz o u)->H' b=Φ (.frz o u))(c:∀P ps,H P=Φ (.tbl ps)->H' P=Φ (.tbl ps)):Kp H H':=⟨a,b,λh p d=>by let⟨ps,e,_⟩:=id (h p d);exact(h p d).up ((c _ _ e).trans e.symm) b⟩
def FixL.kp(h:FixL K H a xs)(k:Kp H H'):FixL K H' a xs:=h.elim (λz=>(by let⟨o,e⟩:=z;exact .inl ⟨o,k.frzs _ _ _ e⟩)) .inr
abbrev vW:Option Int->V
 |none=>.non|some i=>.int i
abbrev W3s(H:Hp):List (K3×Option Int)->List (K3×Addr×V)->Prop
 | [],a=>a=[]|(k,o)::r,a=>∃c w,a=(k,c,vW o)::w/\Key3 H k c/\W3s H r w
def W3s.up(d:∀b xs,H b=Φ (.tup xs)->H' b=Φ (.tup xs)):∀{kvs:List (K3×Option Int)}{a:List (K3×Addr×V)},W3s H kvs a->W3s H' kvs a
 | [],_,r=>r| (k,o)::kvs,a,r=>by let⟨c,w,e,f,g⟩:=r;exact⟨c,w,e,f.up d,W3s.up d g⟩
abbrev CloF(H:Hp)(f c:Addr):Prop:=∃(st:Stmt) (g h a:Ξ) (b:Addr) (d:Obj) (e:Array Ξ) (t:Tok),Mks.rs=Φ st/\H f=Φ (.frz (PySem.W.fnMade arrN arrQ (zap st) (zal st) (zaa st) [(("last":Str),c)] a g b h) (.own 0))/\H b=Φ (.frz d (.own 0))/\d.data=.fields e/\e[1]?=Φ (.str arrQ t)
abbrev CloAt(H:Hp)(f:Addr)(kvs:List (K3×Option Int)):Prop:=∃(c d:Addr) (a e:Obj) (b:List (K3×Addr×V)),CloF H f c/\H c=Φ (.frz a (.own 0))/\a.data=.cell (Φ (.ref d))/\H d=Φ (.frz e (.ext (TriO d b)))/\W3s H kvs b
def CloF.up(h:CloF H f c)(k:∀b o u,H b=Φ (.frz o u)->H' b=Φ (.frz o u)):CloF H' f c:=by let⟨st,d,e,a,g,i,j,t,l,m,n,p⟩:=h;exact⟨st,d,e,a,g,i,j,t,l,k _ _ _ m,k _ _ _ n,p⟩
def CloAt.kp(h:CloAt H f kvs)(k:Kp H H'):CloAt H' f kvs:=by let⟨c,d,a,b,e,g,i,j,l,m⟩:=h;exact⟨c,d,a,b,e,g.up k.frzs,k.frzs _ _ _ i,j,k.frzs _ _ _ l,m.up k.tups⟩
mutual
noncomputable def RV(K:Frag)(ι:List Addr)(H:Hp):D->V->Prop
 |.non,v=>v=.non|.bl b,v=>v=.bl b|.int i,v=>v=.int i|.tup ds,v=>∃a xs,v=.ref a/\H a=Φ (.tup xs)/\RVs K ι H ds xs|.ref l,v=>∃a,ι[l]?=Φ a/\v=.ref a|.fix ds,v=>∃a xs,v=.ref a/\FixL K H a xs/\RVs K ι H ds xs|.clo kvs,v=>∃f,v=.ref f/\CloAt H f kvs
noncomputable def RVs(K:Frag)(ι:List Addr)(H:Hp):List D->List V->Prop
 | [],vs=>vs=[]|d::ds,vs=>∃v r,vs=v::r/\RV K ι H d v/\RVs K ι H ds r
end
abbrev RPs{c a:Type}(e:c->a->Prop)(f:a->V)(K:Frag)(ι:List Addr)(H:Hp):List (c×D)->List a->Prop
 | [],b=>b=[]|(k,d)::r,b=>∃g w,b=g::w/\e k g/\RV K ι H d (f g)/\RPs e f K ι H r w
@[reducible]def RIs(K:Frag)(ι:List Addr)(H:Hp):List (Int×D)->List (Key×V)->Prop:=RPs (λk g=>Sum.inl k=g.1) (·.2) K ι H
@[reducible]def R3s(K:Frag)(ι:List Addr)(H:Hp):List (K3×D)->List (K3×Addr×V)->Prop:=RPs (λk g=>k=g.1/\Key3 H k g.2.1) (·.2.2) K ι H
@[reducible]def RFs(K:Frag)(ι:List Addr)(H:Hp):List (Str×D)->List (Str×V)->Prop:=RPs (λf g=>f=g.1) (·.2) K ι H
abbrev RO(K:Frag)(ι:List Addr)(H:Hp)(a:Addr):MO->Prop
 |.lst f=>∃e,H a=Φ (.lst e)/\RVs K ι H f e|.dic b=>(b.map (·.1)).Nodup/\∃d,H a=Φ (.dK d)/\RIs K ι H b d|.ins c g=>∃C h d,Mks.cl[c]?=Φ C/\H a=Φ (.ins C h d)/\RFs K ι H g d|.d3 b=>(b.map (·.1)).Nodup/\∃d,H a=Φ (.ext (TriO a d))/\R3s K ι H b d
structure RH(K:Frag)(ι:List Addr)(H:Hp)(S:St):Prop where
 len:ι.length=S.len
 nd:ι.Nodup
 obj:∀l o,S.get l=Φ o->∃a,ι[l]?=Φ a/\RO K ι H a o
 tab:TB H
structure Ext(ι:List Addr)(H:Hp)(ι':List Addr)(H':Hp):Prop where
 pre:ι <+: ι'
 kp:Kp H H'
 rest:∀a o,a∉ι->H a=Φ o->(H' a=Φ o\/((∃ps,o=.tbl ps)/\∃ps,H' a=Φ (.tbl ps)))/\a∉ι'
def Ext.refl(ι)(H):Ext ι H ι H:=⟨ϛ _,Kp.refl H,λa o h e=>⟨.inl e,h⟩⟩
def Ext.trans(a:Ext ι H f j)(b:Ext f j g k):Ext ι H g k:=⟨a.pre.trans b.pre,a.kp.trans b.kp,λx o h e=>by let⟨c,i⟩:=a.rest x o h e;rcases c with c|⟨t,l,c⟩;exact b.rest x o i c;let⟨d,m⟩:=b.rest x _ i c;refine⟨.inr ⟨t,?_⟩,m⟩;rcases d with d|⟨_,d⟩;exact⟨l,d⟩;exact d⟩
def Ext.keep(x:Ext ι H b c)(h:a∉ι)(e:H a=Φ o)(n:∀ps,o≠.tbl ps):c a=Φ o:=(x.rest a o h e).1.elim id λk=>(by let⟨⟨ps,z⟩,_⟩:=k;exact absurd z (n ps))
def zbO(h:ι <+: b){l:Nat}{a:Addr}(e:ι[l]?=Φ a):b[l]?=Φ a:=by let⟨t,rfl⟩:=h;rw[getElem?_append_left (Α.mp e).1];exact e
mutual
theorem RV.up{K:Frag}{ι ι':List Addr}{H H':Hp}(hp:ι <+: ι')(hk:Kp H H'):∀{d:D}{v:V},RV K ι H d v->RV K ι' H' d v
 |.non,_,r=>r|.bl _,_,r=>r|.int _,_,r=>r| .tup ds,_,r=>by let⟨a,xs,e,ha,q⟩:=r;exact⟨a,xs,e,hk.tups _ _ ha,RVs.up hp hk q⟩| .ref l,_,r=>by let⟨a,e,q⟩:=r;exact⟨a,zbO hp e,q⟩| .fix ds,_,r=>by let⟨a,xs,e,ha,q⟩:=r;exact⟨a,xs,e,ha.kp hk,RVs.up hp hk q⟩| .clo kvs,_,r=>by let⟨f,e,h⟩:=r;exact⟨f,e,h.kp hk⟩
theorem RVs.up{K:Frag}{ι ι':List Addr}{H H':Hp}(hp:ι <+: ι')(hk:Kp H H'):∀{ds:List D}{vs:List V},RVs K ι H ds vs->RVs K ι' H' ds vs
 | [],_,r=>r| d::ds,vs,r=>by let⟨v,w,e,r1,r2⟩:=r;exact⟨v,w,e,RV.up hp hk r1,RVs.up hp hk r2⟩
end
def RPs.upG{f a}{h}(i:ι <+: b)(j:Kp H H')(l:∀k g,f k g->a k g):∀{kvs:List (p×D)}{c:List q},RPs f h K ι H kvs c->RPs a h K b H' kvs c
 | [],_,r=>r| (k,d)::kvs,c,r=>by let⟨g,w,e,m,n,o⟩:=r;exact⟨g,w,e,l k g m,RV.up i j n,RPs.upG i j l o⟩
section
variable{K:Frag}{ι ι':List Addr}{H H':Hp}
def RPs.up(a:ι <+: ι')(b:Kp H H')(r:RPs c d K ι H kvs e):RPs c d K ι' H' kvs e:=r.upG a b λ_ _ h=>h
def R3s.up(b:ι <+: ι')(a:Kp H H')(r:R3s K ι H kvs c):R3s K ι' H' kvs c:=RPs.upG b a (λ_ _ h=>⟨h.1,h.2.up a.tups⟩) r
end
def RPs.length:∀{kvs:List (c×D)}{a:List e},RPs f h K ι H kvs a->a.length=kvs.length
 | [],_,r=>by rw[show _=[] from r];rfl| (k,d)::kvs,a,r=>by let⟨g,w,rfl,_,_,b⟩:=r;simp[RPs.length b]
def R3s.keys:∀{kvs:List (K3×D)}{a:List (K3×Addr×V)},R3s K ι H kvs a->a.map (·.1)=kvs.map (·.1)
 | [],_,r=>by rw[show _=[] from r];rfl| (k,d)::kvs,a,r=>by let⟨⟨_,c,v⟩,w,rfl,⟨rfl,_⟩,_,b⟩:=r;simp[R3s.keys b]
def R3s.triK:∀{kvs:List (K3×D)}{a:List (K3×Addr×V)},R3s K ι H kvs a->TriK H a
 | [],_,r=>by rw[show _=[] from r];intro x b;cases b
 |(k,d)::kvs,a,r=>by let⟨⟨_,c,v⟩,w,rfl,⟨rfl,f⟩,_,g⟩:=r;intro x b;rcases mem_cons.mp b with e|e;subst e;exact f;exact R3s.triK g x e
def R3s.put(q:RV K ι H d v)(n:Key3 H k c)(r:R3s K ι H kvs a):R3s K ι H (zhx kvs k d) (put3 a k c v):=by
 unfold zhx put3;rw[r.keys];split;rename_i i;clear i;induction kvs generalizing a with|nil=>rw[show a=[] from r];rfl| cons x kvs b=>let⟨j,e⟩:=x;let⟨⟨_,m,u⟩,w,rfl,⟨rfl,f⟩,l,h⟩:=r;rw[Ο,Ο];by_cases z:j=k;rw[if_pos z,if_pos z];exact⟨(j,m,v),_,rfl,⟨rfl,f⟩,q,b h⟩;rw[if_neg z,if_neg z];exact⟨(j,m,u),_,rfl,⟨rfl,f⟩,l,b h⟩
 rename_i i;clear i;induction kvs generalizing a with|nil=>rw[show a=[] from r];exact⟨(k,c,v),[],rfl,⟨rfl,n⟩,q,rfl⟩| cons x kvs b=>let⟨j,e⟩:=x;let⟨g,w,rfl,f,l,h⟩:=r;exact⟨g,_,rfl,f,l,b h⟩
def zhw(h:(kvs.map (·.1)).Nodup):((zhx kvs k d).map (·.1)).Nodup:=by unfold zhx;split;rw[map_map,show((λx:K3×D=>x.1)∘λx=>if x.1=k then(x.1,d) else x)=λx=>x.1 from by funext x;show(if x.1=k then(x.1,d) else x).1=x.1;split<;>rfl];exact h;rename_i n;rw[map_append,nodup_append];refine⟨h,by simp,λa e b c=>?_⟩;simp![Ο,map_nil,mem_singleton]at c;subst c;exact λz=>n (z▸e)
def RFs.look(f):∀{a:List (Str×D)}{b:List (Str×V)},RFs K ι H a b->(a.lookup f=Ψ/\b.lookup f=Ψ)\/∃d v,a.lookup f=Φ d/\b.lookup f=Φ v/\RV K ι H d v
 | [],_,h=>by cases(show _=[] from h);exact .inl ⟨rfl,rfl⟩| (g,d)::r,_,h=>by
  let⟨⟨_,v⟩,w,rfl,rfl,e,i⟩:=h;by_cases c:(f==g)=Γ;exact .inr ⟨d,v,by simp![List.lookup,c],by simp![List.lookup,c],e⟩;have c:(f==g)=Δ:=by simpa using c
  simp![List.lookup,c];exact RFs.look f i
def RFs.put(f)(q:RV K ι H d v):∀{a:List (Str×D)}{b:List (Str×V)},RFs K ι H a b->RFs K ι H (zkK f d a) (putF f v b)
 | [],_,h=>by cases(show _=[] from h);exact⟨(f,v),[],rfl,rfl,q,rfl⟩| (g,x)::r,_,h=>by let⟨⟨_,u⟩,w,rfl,rfl,i,e⟩:=h;unfold zkK putF;by_cases c:g=f;rw[if_pos c,if_pos c];exact⟨(g,v),w,rfl,rfl,q,e⟩;rw[if_neg c,if_neg c];exact⟨(g,u),_,rfl,rfl,i,RFs.put f q e⟩
def zkJ[DecidableEq a]{x:a×V}{r:List (a×V)}{k:a}(h:x.1≠k):putK (x::r) k v=x::putK r k v:=by unfold putK;have:decide (x.1=k)=Δ:=decide_eq_false h;simp![any_cons,this,Bool.false_or];split;rw[Ο,if_neg h];rfl
def RIs.keys:∀{kvs:List (Int×D)}{a:List (Key×V)},RIs K ι H kvs a->a.map (·.1)=kvs.map (λp=>(Sum.inl p.1:Key))
 | [],_,r=>by rw[show _=[] from r];rfl| (k,d)::kvs,a,r=>by let⟨⟨_,v⟩,w,rfl,rfl,_,b⟩:=r;simp[RIs.keys b]
def RIs.put(k)(q:RV K ι H d v):∀{kvs:List (Int×D)}{b:List (Key×V)},(kvs.map (·.1)).Nodup->RIs K ι H kvs b->RIs K ι H (putI kvs k d) (putK b (Sum.inl k:Key) v)
 | [],_,_,r=>by rw[show _=[] from r];exact⟨(_,v),[],rfl,rfl,q,rfl⟩| (j,e)::kvs,b,c,r=>by
  let⟨⟨_,u⟩,w,rfl,rfl,n,f⟩:=r;simp![Ο,nodup_cons]at c;by_cases z:j=k;subst z;have h:putI ((j,e)::kvs) j d=(j,d)::kvs:=by simp[putI]
  have i:putK (((Sum.inl j:Key),u)::w) (Sum.inl j:Key) v=((Sum.inl j:Key),v)::w:=by
   unfold putK;have:((((Sum.inl j:Key),u)::w).any λa=>decide (a.1=(Sum.inl j:Key)))=Γ:=by simp
   rw[if_pos this,Ο,if_pos rfl,Τ (g:=id),List.map_id];intro a l;have m:a.1∈w.map (·.1):=mem_map.mpr ⟨a,l,rfl⟩;rw[RIs.keys f]at m;let⟨p,o,s⟩:=mem_map.mp m;have:a.1≠(Sum.inl j:Key):=λy=>c.1 (by
    rw[<-s]at y;rw[<-Sum.inl.inj y];exact mem_map.mpr ⟨p,o,rfl⟩)
   simp[this]
  rw[h,i];exact⟨(_,v),w,rfl,rfl,q,f⟩;have h:putI ((j,e)::kvs) k d=(j,e)::putI kvs k d:=by simp[putI,z]
  have i:putK (((Sum.inl j:Key),u)::w) (Sum.inl k:Key) v=((Sum.inl j:Key),u)::putK w (Sum.inl k:Key) v:=zkJ λy=>z (Sum.inl.inj y);rw[h,i];exact⟨(_,u),_,rfl,rfl,n,RIs.put k q c.2 f⟩
def zgr(k)(d):∀kvs:List (Int×D),(putI kvs k d).map (·.1)=if k∈kvs.map (·.1) then kvs.map (·.1) else kvs.map (·.1)++[k]
 | []=>by simp[putI]| (j,e)::r=>by unfold putI;by_cases z:j=k;subst z;simp;have a:=zgr k d r;rw[if_neg z];simp![Ο,mem_cons,a];by_cases h:k∈r.map (·.1);rw[if_pos h,if_pos (.inr h)];rw[if_neg h,if_neg (by rintro(y|y);exact z y.symm;exact h y)];rfl
def zjr(h:(kvs.map (·.1)).Nodup):((putI kvs k d).map (·.1)).Nodup:=by rw[zgr];split;exact h;rename_i n;rw[nodup_append];refine⟨h,by simp,λa e b c=>?_⟩;rw[mem_singleton]at c;subst c;exact λz=>n (z▸e)
def RV.ext(h:Ext ι H ι' H')(r:RV K ι H d v):RV K ι' H' d v:=r.up h.pre h.kp
def RVs.ext(h:Ext ι H ι' H')(r:RVs K ι H ds vs):RVs K ι' H' ds vs:=r.up h.pre h.kp
def RVs.length:∀{ds:List D}{vs:List V},RVs K ι H ds vs->vs.length=ds.length
 | [],_,r=>by rw[show _=[] from r];rfl| d::ds,vs,r=>by let⟨v,w,rfl,_,a⟩:=r;simp[RVs.length a]
def RVs.get:∀{ds:List D}{vs:List V}{i:Nat}{d:D},RVs K ι H ds vs->ds[i]?=Φ d->∃v,vs[i]?=Φ v/\RV K ι H d v
 | [],_,_,_,_,e=>by simp at e| d::ds,vs,0,a,r,e=>by let⟨v,w,rfl,b,_⟩:=r;simp at e;subst e;exact⟨v,rfl,b⟩| d::ds,vs,i+1,a,r,e=>by let⟨v,w,rfl,_,c⟩:=r;let⟨u,f,g⟩:=RVs.get c (by simpa using e);exact⟨u,by simpa using f,g⟩
def RVs.get'{i:Nat}(r:RVs K ι H ds vs)(e:vs[i]?=Φ v):∃d,ds[i]?=Φ d/\RV K ι H d v:=by
 have a:i<ds.length:=by rw[<-r.length];exact(Α.mp e).1
 let⟨u,b,c⟩:=r.get (Ι a);rw[e]at b;cases b;exact⟨_,Ι a,c⟩
def RVs.append:∀{ds es:List D}{vs us:List V},RVs K ι H ds vs->RVs K ι H es us->RVs K ι H (ds++es) (vs++us)
 | [],_,_,_,r,q=>by rw[show _=[] from r];exact q| d::ds,es,vs,us,r,q=>by let⟨v,w,rfl,a,b⟩:=r;exact⟨v,w++us,rfl,a,RVs.append b q⟩
def RVs.take:∀{ds:List D}{vs:List V}(n:Nat),RVs K ι H ds vs->RVs K ι H (ds.take n) (vs.take n)
 |_,_,0,_=>rfl| [],_,n+1,r=>by rw[show _=[] from r];rfl| d::ds,vs,n+1,r=>by let⟨v,w,rfl,a,b⟩:=r;exact⟨v,w.take n,rfl,a,RVs.take n b⟩
def RVs.drop:∀{ds:List D}{vs:List V}(n:Nat),RVs K ι H ds vs->RVs K ι H (ds.drop n) (vs.drop n)
 |_,_,0,r=>r| [],_,n+1,r=>by rw[show _=[] from r];rfl| d::ds,vs,n+1,r=>by let⟨v,w,rfl,b,a⟩:=r;exact RVs.drop n a
def RVs.erase(n)(r:RVs K ι H ds vs):RVs K ι H (ds.eraseIdx n) (vs.eraseIdx n):=by rw[List.eraseIdx_eq_take_drop_succ,List.eraseIdx_eq_take_drop_succ];exact(r.take n).append (r.drop (n+1))
def RVs.ints:∀ns:List Int,RVs K ι H (ns.map D.int) (ns.map V.int)
 | []=>rfl|n::ns=>⟨_,_,rfl,rfl,RVs.ints ns⟩
def RVs.ints_eq:∀{ns:List Int}{vs:List V},RVs K ι H (ns.map D.int) vs->vs=ns.map V.int
 | [],_,h=>h| n::ns,vs,h=>by let⟨v,r,rfl,a,b⟩:=h;rw[RVs.ints_eq b,show v=.int n from a];rfl
def zfL:∀{ds:List D}{ns:List Int},zaD ds=Φ ns->ds=ns.map D.int:=by
 intro ds;unfold zaD;induction ds with
 |nil=>intro ns h;simp at h;subst h;rfl| cons d ds a=>
  intro ns h;rw[ϟ]at h;cases d with
  |int i=>cases e:List.mapM zee ds with|none=>rw[e]at h;simp[zee]at h|some b=>rw[e]at h;simp[zee]at h;subst h;simp[a e]
  |_=>simp[zee]at h
mutual
theorem RV.flat{K:Frag}{ι:List Addr}{H:Hp}:∀{d:D}{v:V},RV K ι H d v->R.flat ι.length d=Γ
 |.non,_,_=>by simp[R.flat]|.bl _,_,_=>by simp[R.flat]|.int _,_,_=>by simp[R.flat]| .tup ds,_,r=>by let⟨a,xs,e,ha,q⟩:=r;simp![R.flat];exact RVs.flats q| .ref l,_,r=>by let⟨a,e,q⟩:=r;simp![R.flat,decide_eq_true_eq];exact(Α.mp e).1| .fix ds,_,r=>by let⟨a,xs,e,ha,q⟩:=r;simp![R.flat];exact RVs.flats q|.clo _,_,_=>by simp[R.flat]
theorem RVs.flats{K:Frag}{ι:List Addr}{H:Hp}:∀{ds:List D}{vs:List V},RVs K ι H ds vs->R.flats ι.length ds=Γ
 | [],_,_=>by simp[R.flats]| d::ds,vs,r=>by let⟨v,w,e,r1,r2⟩:=r;simp![R.flats,Ε];exact⟨RV.flat r1,RVs.flats r2⟩
end
mutual
theorem RV.restrict{K:Frag}{ι ι':List Addr}{H:Hp}(hp:ι <+: ι'):∀{d:D}{v:V},R.flat ι.length d=Γ->RV K ι' H d v->RV K ι H d v
 |.non,_,_,r=>r|.bl _,_,_,r=>r|.int _,_,_,r=>r| .tup ds,_,f,r=>by let⟨a,xs,e,ha,q⟩:=r;simp![R.flat]at f;exact⟨a,xs,e,ha,RVs.restrict hp f q⟩| .ref l,_,f,r=>by let⟨a,e,q⟩:=r;simp![R.flat,decide_eq_true_eq]at f;refine⟨a,?_,q⟩;let⟨t,rfl⟩:=hp;rw[getElem?_append_left f]at e;exact e| .fix ds,_,f,r=>by let⟨a,xs,e,ha,q⟩:=r;simp![R.flat]at f;exact⟨a,xs,e,ha,RVs.restrict hp f q⟩|.clo _,_,_,r=>r
theorem RVs.restrict{K:Frag}{ι ι':List Addr}{H:Hp}(hp:ι <+: ι'):∀{ds:List D}{vs:List V},R.flats ι.length ds=Γ->RVs K ι' H ds vs->RVs K ι H ds vs
 | [],_,_,r=>r| d::ds,vs,f,r=>by let⟨v,w,e,r1,r2⟩:=r;simp![R.flats,Ε]at f;exact⟨v,w,e,RV.restrict hp f.1 r1,RVs.restrict hp f.2 r2⟩
end
def RPs.flats:∀{kvs:List (e×D)}{a:List f},RPs g h K ι H kvs a->R.flats ι.length (kvs.map (·.2))=Γ
 | [],_,_=>rfl| (k,d)::kvs,a,r=>by let⟨_,w,_,_,b,c⟩:=r;simp![Ο,R.flats,Ε];exact⟨RV.flat b,RPs.flats c⟩
def RPs.restrict(b:ι <+: ι'):∀{kvs:List (m×D)}{a:List n},R.flats ι.length (kvs.map (·.2))=Γ->RPs c h K ι' H kvs a->RPs c h K ι H kvs a
 | [],_,_,r=>r| (k,d)::kvs,a,f,r=>by let⟨g,w,e,i,j,l⟩:=r;simp![Ο,R.flats,Ε]at f;exact⟨g,w,e,i,RV.restrict b f.1 j,RPs.restrict b f.2 l⟩
def RO.up(h:RO K ι H a o)(i:ι <+: ι')(j:Kp H H')(e:H' a=H a):RO K ι' H' a o:=by cases o with|lst n=>let⟨l,b,d⟩:=h;exact⟨l,e.trans b,d.up i j⟩|dic k=>let⟨f,g,b,d⟩:=h;exact⟨f,g,e.trans b,d.up i j⟩|ins c p=>let⟨C,m,g,f,b,d⟩:=h;exact⟨C,m,g,f,e.trans b,d.up i j⟩|d3 k=>let⟨f,g,b,d⟩:=h;exact⟨f,g,e.trans b,d.up i j⟩
def RO.stay(h:RO K ι H a o)(x:Ext ι H ι' H')(e:H' a=H a):RO K ι' H' a o:=h.up x.pre x.kp e
section
variable{K:Frag}{ι ι':List Addr}{H H':Hp}{S S' T:St}{l:Nat}{a p:Addr}
def RH.mem(h:RH K ι H S)(e:S.get l=Φ o):∃a,ι[l]?=Φ a/\RO K ι H a o/\a∈ι:=by let⟨a,b,c⟩:=h.obj l o e;exact⟨a,b,c,mem_of_getElem? b⟩
def znM(h:l<S.len):∃o,S.get l=Φ o:=by unfold St.len at h;unfold St.get;split;rename_i c;exact⟨_,Ι c⟩;exact⟨_,Ι (by lia)⟩
def RH.off(h:RH K ι H S)(x:Ext ι H ι H')(e:∀a∈ι,H' a=H a):RH K ι H' S:=⟨h.len,h.nd,λl o q=>let ⟨a,b,c,d⟩:=h.mem q;⟨a,b,c.stay x (e a d)⟩,x.kp.tab h.tab⟩
def RH.live(h:RH K ι H S)(m:a∈ι):∃o,H a=Φ o/\(∀xs,o≠.tup xs)/\(∀z u,o≠.frz z u)/\∀ps,o≠.tbl ps:=by
 let⟨l,i⟩:=List.mem_iff_getElem?.mp m;have f:l<S.len:=by rw[<-h.len];exact(Α.mp i).1
 let⟨o,e⟩:=znM f;let⟨b,j,d⟩:=h.obj l o e;rw[i]at j;cases j;cases o with|lst n=>let⟨xs,q,_⟩:=d;exact⟨_,q,⟨λ_ z=>(by cases z),λ_ _ z=>(by cases z),λ_ z=>(by cases z)⟩⟩|dic g=>let⟨_,k,q,_⟩:=d;exact⟨_,q,⟨λ_ z=>(by cases z),λ_ _ z=>(by cases z),λ_ z=>(by cases z)⟩⟩|ins c r=>let⟨C,s,k,_,q,_⟩:=d;exact⟨_,q,⟨λ_ z=>(by cases z),λ_ _ z=>(by cases z),λ_ z=>(by cases z)⟩⟩|d3 g=>let⟨_,k,q,_⟩:=d;exact⟨_,q,⟨λ_ z=>(by cases z),λ_ _ z=>(by cases z),λ_ z=>(by cases z)⟩⟩
def RH.fresh(h:RH K ι H S)(b:H p=Option.none):p∉ι:=λc=>by let⟨o,e,_⟩:=h.live c;rw[b]at e;exact nS e
def RH.notup(h:RH K ι H S)(b:H p=Φ (.tup xs)):p∉ι:=λc=>by let⟨o,e,q,_⟩:=h.live c;rw[b]at e;cases e;exact q _ rfl
def Kp.new(c:H p=Option.none)(o):Kp H (upd H p o):=.same (Tups.upd_new c) (λb z u e=>by rw[zad (zah e c)];exact e) λb d e=>by rw[zad (zah e c)];exact e
def Ext.new(b:H p=Option.none)(o):Ext ι H ι (upd H p o):=⟨ϛ _,Kp.new b o,λa u h e=>⟨.inl (by rw[zad (zah e b)];exact e),h⟩⟩
def RH.new(h:RH K ι H S)(b:H p=Option.none)(o):RH K ι (upd H p o) S:=h.off (Ext.new b o) λa c=>zad λe=>h.fresh b (e▸c)
def zfO(S:St)(o):(S.push o).get S.len=Φ o:=by
 have h:¬S.len<S.frz.length:=by unfold St.len;lia
 unfold St.get St.push;simp![h,if_false];unfold St.len;simp
def zcG(h:l<S.len):(S.push o).get l=S.get l:=by unfold St.len at h;unfold St.get St.push;simp only;split;rfl;rw[getElem?_append_left (by omega)]
def zcl(S:St)(o):(S.push o).len=S.len+1:=by simp[St.push,St.len];lia
def Ext.obj(h:RH K ι H S)(b:H p=Option.none)(u):Ext ι H (ι++[p]) (upd H p u):=
 ⟨ϗ _ _,Kp.new b u,λa o c e=>⟨.inl (by rw[zad (zah e b)];exact e),by
  intro z;rcases mem_append.mp z with z|z;exact c z;simp at z;exact zah e b z⟩⟩
def RH.obj'(h:RH K ι H S)(c:H p=Option.none)(u)(o)(g:RO K (ι++[p]) (upd H p u) p o):RH K (ι++[p]) (upd H p u) (S.push o):=by
 refine⟨by rw[length_append,h.len,zcl];rfl,?_,λl q e=>?_,(Kp.new c u).tab h.tab⟩;rw[nodup_append];refine⟨h.nd,by simp,λa i b f=>?_⟩;simp at f;subst f;exact λz=>h.fresh c (z▸i);by_cases j:l<S.len;rw[zcG j]at e;let⟨a,k,m,n⟩:=h.mem e;exact⟨a,zbO (ϗ _ _) k,m.stay (Ext.obj h c u) (zad λz=>h.fresh c (z▸n))⟩;have d:=get_lt e;rw[zcl]at d;have:l=S.len:=by lia
 subst this;rw[zfO]at e;cases e;exact⟨p,by rw[<-h.len];simp,g⟩
def RH.lay(h:RH K ι H S)(b:H p=Option.none)(r:RVs K ι H ds xs):RH K (ι++[p]) (upd H p (.lst xs)) (S.push (.lst ds)):=h.obj' b _ _ ⟨xs,zag,r.ext (Ext.obj h b _)⟩
def RH.last(h:RH K ι H S)(p):(ι++[p])[S.len]?=Φ p:=by rw[<-h.len];simp
def Ext.wr(h:RH K ι H S)(e:S.get l=Φ o)(f:ι[l]?=Φ a)(u):Ext ι H ι (upd H a u):=by have d:=mem_of_getElem? f;refine⟨ϛ _,.same (λb g c=>?_) (λb z v c=>?_) λb i c=>?_,λb o c e=>⟨.inl ((zad λ(z:b=a)=>c (by rw[z];exact d)).trans e),c⟩⟩;rw[zad];exact c;rintro rfl;exact h.notup c d;rw[zad];exact c;rintro rfl;let⟨o,e,_,q,_⟩:=h.live d;rw[c]at e;cases e;exact q _ _ rfl;rw[zad];exact c;rintro rfl;let⟨o,e,_,_,q⟩:=h.live d;rw[c]at e;cases e;exact q _ rfl
def zp7(e:S.put l o=Φ S'):S'.len=S.len/\(l<S.len->S'.get l=Φ o)/\(∀m,m≠l->S'.get m=S.get m)/\S.frz.length<=l:=by unfold St.put at e;split at e;exact nS e;split at e;exact nS e;injection e with e;subst e;rename_i b d;refine⟨by simp[St.len],λc=>?_,λm f=>?_,by lia⟩;unfold St.len at c;unfold St.get;simp![b,if_false];rw[getElem?_set_self (by lia)];unfold St.get;split;rfl;rw[getElem?_set_ne (by lia)]
def RH.wr(h:RH K ι H S)(e:S.get l=Φ o)(d:ι[l]?=Φ a)(w:S.put l i=Φ S')(j:RO K ι (upd H a u) a i):RH K ι (upd H a u) S':=by let⟨k,n,q,_⟩:=zp7 w;refine⟨h.len.trans k.symm,h.nd,λm t c=>?_,(Ext.wr h e d u).kp.tab h.tab⟩;by_cases f:m=l;subst f;rw[n (get_lt e)]at c;cases c;exact⟨a,d,j⟩;rw[q m f]at c;let⟨b,g,r,_⟩:=h.mem c;refine⟨b,g,r.stay (Ext.wr h e d u) (zad ?_)⟩;rintro rfl;let⟨v,s⟩:=Α.mp d;let⟨x,c⟩:=Α.mp g;exact f ((List.getElem_inj h.nd).mp (c.trans s.symm))
end
end R
namespace R
open PySem PySem.Spec PyProof.Rows L2
variable[Mks]
def zqP{K}(r:RV K ι H y v)(h:key3 y=Φ k):∃c,v=.ref c/\Key3 H k c:=by
 cases y with
 |tup x=>
  rcases x with _|⟨a,_|⟨c,_|⟨b,_|⟨_,_⟩⟩⟩⟩
  all_goals first|exact nS h|skip
  all_goals(cases a<;>first|exact nS h|skip)
  all_goals(cases c<;>first|exact nS h|skip)
  all_goals(cases b<;>first|exact nS h|skip)
  rename_i a g b;replace h:((zaD g).map λp=>(a,p,b))=Φ k:=h;cases e:zaD g with
  |none=>rw[e]at h;exact nS h
  |some p=>rw[e]at h;cases h;let⟨c,u,rfl,i,j,w,rfl,l,x,z,rfl,m,n,o,rfl,q,s⟩:=r;cases(show o=[] from s);obtain rfl:j=.int a:=l;let⟨t,A,rfl,d,f⟩:=m;obtain rfl:n=.int b:=q;rw[zfL e]at f;rw[f.ints_eq]at d;exact⟨c,rfl,t,i,d⟩
 |_=>exact nS h
abbrev Lf(K:Frag)(ι:List Addr)(H:Hp)(Q:D->R.St->Prop):VK:=λv H'=>∃d ι' a,Ext ι H ι' H'/\RV K ι' H' d v/\RH K ι' H' a/\Q d a
section
variable{K:Frag}{ι ι':List Addr}{H H':Hp}{S S':R.St}{Q:D->R.St->Prop}{d:D}{v:V}{p:Addr}
def Lf.of(h:RH K ι H S)(r:RV K ι H d v)(q:Q d S):Lf K ι H Q v H:=⟨d,ι,S,Ext.refl ι H,r,h,q⟩
def Lf.up(x:Ext ι H ι' H')(h:Lf K ι' H' Q v b):Lf K ι H Q v b:=by let⟨d,a,c,e,r⟩:=h;exact⟨d,a,c,x.trans e,r⟩
def Lf.tup(h:RH K ι H S)(a:H p=Option.none){ds:List D}{xs:List V}(r:RVs K ι H ds xs)(q:Q (.tup ds) S):Lf K ι H Q (.ref p) (upd H p (.tup xs)):=⟨.tup ds,ι,S,Ext.new a _,⟨p,xs,rfl,zag,r.ext (Ext.new a _)⟩,h.new a _,q⟩
def Lf.lst(h:RH K ι H S)(a:H p=Option.none){ds:List D}{xs:List V}(r:RVs K ι H ds xs)(q:Q (.ref S.len) (S.push (.lst ds))):Lf K ι H Q (.ref p) (upd H p (.lst xs)):=⟨.ref S.len,ι++[p],S.push (.lst ds),Ext.obj h a _,⟨p,h.last p,rfl⟩,h.lay a r,q⟩
def Lf.wr(h:RH K ι H S)(e:S.get l=Φ o)(b:ι[l]?=Φ a)(w:S.put l (.lst ds)=Φ S')(r:RVs K ι H ds xs)(c:RV K ι H d v)(q:Q d S'):Lf K ι H Q v (upd H a (.lst xs)):=⟨d,ι,S',Ext.wr h e b _,c.ext (Ext.wr h e b _),h.wr e b w ⟨xs,zag,r.ext (Ext.wr h e b _)⟩,q⟩
end
def zeO(h:W (lay S ds) Q):ds.length<=sizeLine/\Q (.ref S.len) (S.push (.lst ds)):=by unfold lay at h;split at h;rename_i c;exact⟨by rw[Χ];exact c,h⟩;exact h.elim
def zmt(h:W (wr S l ds d) Q):ds.length<=sizeLine/\∃a,S.put l (.lst ds)=Φ a/\Q d a:=by
 unfold wr at h;split at h;rename_i c;refine⟨by exact c,?_⟩;cases e:S.put l (.lst ds) with|none=>rw[e]at h;exact h.elim|some a=>rw[e]at h;exact⟨a,rfl,h⟩
 exact h.elim
abbrev rD2(K:Frag)(f:R.St->D->D->Out D):R2:=λx y H b=>∃ι S d e a,RV K ι H d x/\RV K ι H e y/\RH K ι H S/\W (f S d e) a/\∀v H',Lf K ι H a v H'->b v H'
section
variable{X:Cx}
def zn0{vs g:List Ξ}(m:IsTup s.heap t vs.toArray)(o:IsTup s.heap b g.toArray)(p:vs=[])(q:Q (.ref b) s):wpAny (model prog w) A (binaryOp .Add (.ref t) (.ref b)) Q E s:=by
 let⟨⟨r,u,h,v⟩,i,j,n,k⟩:=id m;let⟨⟨l,e,data2,f⟩,a,c,x,d⟩:=id o;subst j k c d;exact concat_meets ⟨_,i,rfl⟩ ⟨_,a,rfl⟩ noFill_tuple_add seq_tuple_add PySem.F.slot_tuple_add PySem.F.entry_tuple_add (PySem.F.args_tuple_add_2 _ _)
  (tuple_addW0 t b vs.toArray g.toArray n x u e v f (by simp[p])) ⟨i,a,q⟩
def znq:OpR X (binaryOp .Add) (λx y H Q=>∃a b ys,x=.ref a/\y=.ref b/\SqT X.K H a []/\SqT X.K H b ys/\Q (.ref b) H):=by intro c s n H x y v u Q I e f h;let⟨a,b,ys,rfl,rfl,g,i,q⟩:=h;cases e;cases f;let⟨j,k,l,_⟩:=I.tuple g;let⟨d,o,m,_⟩:=I.tuple i;exact zn0 l m (k.nil_iff.mpr rfl) ⟨.ref b,H,I,rfl,q⟩
def ztG(op):OpR X (binaryOp op) (rD2 X.K λS d e=>binD S op d e):=by
 intro g s l H x y v u h I m n Y;let⟨ι,S,d,e,Qd,E,G,o,f,q⟩:=Y;dsimp only at f;unfold binD at f;split at f;rename_i i j;obtain rfl:x=.int i:=E;obtain rfl:y=.int j:=G;have fin:∀k:Int,Qd (.int k) S->h (.int k) H:=λk hk=>q _ _ (Lf.of (d:=.int k) o rfl hk);unfold binI at f;split at f;exact zoE g s l H _ _ v u h I m n ⟨i,j,rfl,rfl,fin _ f⟩;exact zsR g s l H _ _ v u h I m n ⟨i,j,rfl,rfl,fin _ f⟩;split at f;rename_i c;refine zsU g s l H _ _ v u h I m n ⟨i,j,rfl,rfl,?_,fin _ f⟩;unfold zdD at c;rw[Ϙ,decide_eq_true_eq,decide_eq_true_eq]at c;exact c;exact f.elim;split at f;rename_i c;exact zqt g s l H _ _ v u h I m n ⟨i,j,rfl,rfl,c,fin _ f⟩;exact f.elim;split at f;rename_i c;exact zsV g s l H _ _ v u h I m n ⟨i,j,rfl,rfl,c,fin _ f⟩;exact f.elim;split at f;rename_i c;exact zsS g s l H _ _ v u h I m n ⟨i,j,rfl,rfl,⟨c.1,c.2.1,by omega⟩,fin _ f⟩;exact f.elim;exact f.elim;rename_i J L;split at f;split at f;rename_i c;let⟨a,w,rfl,A,r⟩:=E;let⟨b,B,rfl,C,t⟩:=G;by_cases O:w=[];subst O;have M:J=[]:=by have:=r.length;simpa using this.symm
 subst M;refine znq g s l H _ _ v u h I m n ⟨a,b,B,rfl,rfl,SqT.of A,SqT.of C,?_⟩;exact q _ _ (Lf.of (d:=.tup L) o ⟨b,B,rfl,C,t⟩ (by simpa using f));refine zqu g s l H _ _ v u h I m n ⟨a,b,w,B,rfl,rfl,SqT.of A,SqT.of C,O,?_,λQ=>?_,λQ p N=>?_⟩;rw[r.length,t.length,Χ];exact c;subst Q;have M:L=[]:=by have:=t.length;simpa using this.symm
 subst M;exact q _ _ (Lf.of (d:=.tup J) o ⟨a,w,rfl,A,r⟩ (by simpa using f));exact q _ _ (Lf.tup o N (r.append t) f);exact f.elim;exact f.elim;rename_i a b;split at f;rename_i J L e1 e2;let⟨a1,h1,rfl⟩:=E;let⟨b1,h2,rfl⟩:=G;let⟨a2,T,w,A,r⟩:=o.obj _ _ e1;let⟨b2,U,B,C,t⟩:=o.obj _ _ e2;rw[h1]at T;cases T;rw[h2]at U;cases U;let⟨z,hq⟩:=zeO f;refine zsX g s l H _ _ v u h I m n ⟨a1,b1,w,B,rfl,rfl,A,C,?_,λp N=>?_⟩;rw[r.length,t.length];rw[length_append]at z;exact z;exact q _ _ (Lf.lst o N (r.append t) hq);exact f.elim;exact f.elim
def zaC{a b:Type}{f:a->Option b}{x:a}{xs:List a}{ys:List b}(h:(x::xs).mapM f=Φ ys):∃y r,f x=Φ y/\xs.mapM f=Φ r/\ys=y::r:=by
 rw[ϟ]at h;cases e:f x with
 |none=>rw[e]at h;exact nS h
 |some y=>
  rw[e]at h;cases c:xs.mapM f with
  |none=>rw[c]at h;exact nS h
  |some r=>rw[c]at h;injection h with h;exact⟨y,r,rfl,rfl,h.symm⟩
def zjt(z:RH X.K ι H S):∀(n:Nat)(d:D)(g:PyData)(v:V),pd S n d=Φ g->RV X.K ι H d v->Rep H g v/\g.canLay0=Γ/\g.depth<=n:=by
 intro n;induction n with
 |zero=>
  intro d p v h r;cases d<;>simp![pd]at h
  cases h;exact⟨r,rfl,le_refl _⟩;cases h;exact⟨r,rfl,le_refl _⟩;cases h;exact⟨r,rfl,le_refl _⟩
  all_goals exact nS h
 |succ n A=>
  have j:∀(c:List D)(f:List PyData)(o:List V),c.mapM (pd S n)=Φ f->RVs X.K ι H c o->RepAll H f o/\PyData.canLayAll0 f=Γ/\PyData.depthAll f<=n:=by
   intro c;induction c with
   |nil=>
    intro f o h r;have h:f=[]:=by simpa using h.symm
    subst h;exact⟨r,rfl,zero_le _⟩
   |cons d c s=>intro f o h r;let⟨y,k,t,q,rfl⟩:=zaC h;let⟨v,w,rfl,B,C⟩:=r;let⟨E,x,I⟩:=A d y v t B;let⟨b1,b2,b3⟩:=s k w q C;refine⟨⟨v,w,rfl,E,b1⟩,by simp[PyData.canLayAll0,x,b2],?_⟩;simp![PyData.depthAll];lia
  intro d p v h r;cases d with
  |non=>simp![pd]at h;cases h;exact⟨r,rfl,zero_le _⟩|bl b=>simp![pd]at h;cases h;exact⟨r,rfl,zero_le _⟩|int i=>simp![pd]at h;cases h;exact⟨r,rfl,zero_le _⟩| tup c=>
   simp![pd]at h;cases e:c.mapM (pd S n) with
   |none=>rw[e]at h;exact nS h
   |some f=>
    rw[e]at h;have h:PyData.tuple f=p:=by simpa using h
    subst h;let⟨a,m,rfl,u,k⟩:=r;let⟨b1,b2,b3⟩:=j c f m e k;refine⟨⟨a,m,rfl,u,b1⟩,by simp[PyData.canLay0,b2],?_⟩;simp![PyData.depth];lia
  |ref l=>
   simp![pd]at h;split at h;rename_i c G;cases e:c.mapM (pd S n) with
   |none=>rw[e]at h;exact nS h
   |some f=>
    rw[e]at h;have h:PyData.list f=p:=by simpa using h
    subst h;let⟨a,t,rfl⟩:=r;let⟨x,q,m,u,k⟩:=z.obj _ _ G;rw[t]at q;cases q;let⟨b1,b2,b3⟩:=j c f m e k;refine⟨⟨a,m,rfl,u,b1⟩,by simp[PyData.canLay0,b2],?_⟩;simp![PyData.depth];lia
   exact nS h
  |fix c=>simp![pd]at h;exact nS h
  |clo c=>simp![pd]at h;exact nS h
abbrev rC2(K:Frag)(op:CmpOp):R2:=λx y H a=>∃ι S d e k,RV K ι H d x/\RV K ι H e y/\RH K ι H S/\cmpD S op d e=Φ k/\a (.bl k) H
def ziN(h:eqD S d e=Φ k):∃a b,pd S 60 d=Φ a/\pd S 60 e=Φ b/\k=PyData.eqv a b:=by
 unfold eqD at h;cases c:pd S 60 d with
 |none=>rw[c]at h;exact nS h
 |some a=>
  rw[c]at h;cases f:pd S 60 e with
  |none=>rw[f]at h;exact nS h
  |some b=>rw[f]at h;injection h with h;exact⟨a,b,rfl,rfl,h.symm⟩
open Classical in
abbrev eqRd(h:Heap)(p:PyData)(u:Ξ):Bool:=if c:∃q as,Reads h u q as/\q.canLay0=Γ then PyData.eqv c.choose p else Δ
def zq5(r:Reads h u q as)(c:q.canLay0=Γ):eqRd h p u=PyData.eqv q p:=by have a:∃q as,Reads h u q as/\q.canLay0=Γ:=⟨q,as,r,c⟩;unfold eqRd;rw[dif_pos a];let⟨b,d,e⟩:=a.choose_spec;rw[SeqAt.Reads.unique _ _ _ _ _ c r d]
def znG(I:Inv X m σ H s)(hA:A.units+62<cLine)(n:RH X.K ι H S)(o:pd S 60 x=Φ c)(C:RV X.K ι H x f)(E:RelV f g):
  ∀{ds:List D}{vs:List V}{us:List Ξ}{bs:List Bool},RVs X.K ι H ds vs->Vals vs us->ds.mapM (λz=>eqD S z x)=Φ bs->us.any (eqRd s.heap c)=bs.any id/\∀u∈us,SeqAt.EqAt A s u g (eqRd s.heap c u):=by
 let⟨G,J,x3⟩:=zjt n 60 x c f o C;let⟨i,j⟩:=Rep.reads I c f g G E;intro ds;induction ds with
 |nil=>
  intro vs us bs r k h;cases(show vs=[] from r);cases k;have h:bs=[]:=by simpa using h.symm
  subst h;exact⟨rfl,λu L=>by cases L⟩
 |cons d ds M=>intro vs us bs r k h;let⟨v,w,rfl,N,O⟩:=r;let⟨b,rr,e,Q,rfl⟩:=zaC h;cases k with| cons T U=>rename_i u Y;let⟨a,b',e1,q,rfl⟩:=ziN e;rw[o]at q;cases q;let⟨p1,t,p3⟩:=zjt n 60 d a v e1 N;let⟨as,y⟩:=Rep.reads I a v u p1 T;have B:=zq5 (p:=c) y t;let⟨i1,i2⟩:=M O U Q;refine⟨by simp[B,i1],λz l=>?_⟩;rcases mem_cons.mp l with rfl|l;rw[B];exact SeqAt.eqAt_reads a c A s z g as i y j t J (by lia);exact i2 z l
def zon(g:RH X.K ι H S)(h:zbg S d=Φ ds)(r:RV X.K ι H d v):∃a xs,v=.ref a/\(SqL X.K H a xs\/SqT X.K H a xs)/\RVs X.K ι H ds xs:=by
 cases d with
 |tup i=>cases h;let⟨a,xs,rfl,b,c⟩:=r;exact⟨a,xs,rfl,.inr (SqT.of b),c⟩| fix i=>cases h;let⟨a,xs,rfl,b,c⟩:=r;exact⟨a,xs,rfl,.inl b.sq,c⟩| ref l=>simp![zbg]at h;split at h;rename_i j e;cases h;let⟨a,k,rfl⟩:=r;let⟨m,f,xs,b,c⟩:=g.obj _ _ e;rw[k]at f;cases f;exact⟨a,xs,rfl,.inl (SqL.of b),c⟩;exact nS h
 |_=>exact nS h
def ztp(h:inD S x ys=Φ k):∃bs,ys.mapM (λz=>eqD S z x)=Φ bs/\k=bs.any id:=by
 unfold inD at h;cases e:ys.mapM (λz=>eqD S z x) with
 |none=>rw[e]at h;exact nS h
 |some bs=>rw[e]at h;injection h with h;exact⟨bs,rfl,h.symm⟩
def nonV{K}(hd:RV K ι H d x):decide (x=V.non)=zqS d:=by cases d with|non=>rw[show x=.non from hd];rfl|bl b=>rw[show x=.bl b from hd];rfl|int b=>rw[show x=.int b from hd];rfl|tup b=>let⟨_,_,rfl,_⟩:=hd;rfl|ref b=>let⟨_,_,rfl⟩:=hd;rfl|fix b=>let⟨_,_,rfl,_⟩:=hd;rfl|clo b=>let⟨_,rfl,_⟩:=hd;rfl
def zeZ(hu:X.A.units+128<cLine)(op):OpR X (compareOp op) (rC2 X.K op):=by
 intro f s A H x y v u B I o n q';let⟨ι,S,d,e,k,O,Q,T,c,q⟩:=q';unfold cmpD at c;split at c;rename_i i j;obtain rfl:x=.int i:=O;obtain rfl:y=.int j:=Q;unfold cmpI at c;split at c;cases c;exact zup f s A H _ _ v u B I o n ⟨rfl,by simpa using q⟩;cases c;exact zuk f s A H _ _ v u B I o n ⟨rfl,by simpa using q⟩;cases c;exact zul f s A H _ _ v u B I o n ⟨i,j,rfl,rfl,q⟩;cases c;exact zum f s A H _ _ v u B I o n ⟨i,j,rfl,rfl,q⟩;cases c;exact zun f s A H _ _ v u B I o n ⟨i,j,rfl,rfl,q⟩;cases c;exact zuo f s A H _ _ v u B I o n ⟨i,j,rfl,rfl,q⟩;exact nS c;unfold cmpO at c;have C:∀(k:Bool),((zbg S e).bind λU=>inD S d U)=Φ k->∃a E,y=.ref a/\(SqL X.K H a E\/SqT X.K H a E)/\∃(t:PyData),∀Y,Vals E Y->Y.any (eqRd s.heap t)=k/\∀z∈Y,SeqAt.EqAt X.A.in1 s z v (eqRd s.heap t z):=by
  intro k h;cases es:zbg S e with
  |none=>rw[es]at h;exact nS h
  |some U=>
   rw[es]at h;let⟨bs,hb,rfl⟩:=ztp (show inD S d U=Φ k from h);let⟨a,E,rfl,l,rr⟩:=zon T es Q;refine⟨a,E,rfl,l,?_⟩;cases G:pd S 60 d with
   |some t=>exact⟨t,λY J=>znG I (show X.A.units+1+62<cLine by lia) T G O o rr J hb⟩| none=>
    cases U with
    |nil=>
     refine⟨.none,λY J=>?_⟩;cases(show E=[] from rr);cases J;have hb:bs=[]:=by simpa using hb.symm
     subst hb;exact⟨rfl,λz hz=>by cases hz⟩
    |cons z zs=>let⟨b,r,m,_⟩:=zaC hb;let⟨_,_,_,h3,_⟩:=ziN m;rw[G]at h3;exact nS h3
 split at c
 . skip
   let⟨a,b,m,p,rfl⟩:=ziN c;let⟨p1,p2,p3⟩:=zjt T 60 d a x m O;let⟨q1,q2,q3⟩:=zjt T 60 e b y p Q;exact zsW (by lia) f s A H x y v u B I o n ⟨a,b,p1,q1,p2,q2,by lia,q⟩
 cases L:eqD S d e with
 |none=>rw[L]at c;exact nS c
 |some k'=>
  rw[L]at c;let⟨a,b,m,p,rfl⟩:=ziN L;let⟨p1,p2,p3⟩:=zjt T 60 d a x m O;let⟨q1,q2,q3⟩:=zjt T 60 e b y p Q;have c:k = !PyData.eqv a b:=by simpa using c.symm
  subst c;exact zsT (by lia) f s A H x y v u B I o n ⟨a,b,p1,q1,p2,q2,by lia,q⟩
 split at c;obtain rfl:y=.non:=Q;cases c;obtain rfl:u=Ξ.none:=n;refine is_none_gen ⟨.bl _,H,I,rfl,?_⟩;rw[o.none_iff,nonV O];exact q;exact nS c;split at c;obtain rfl:y=.non:=Q;cases c;obtain rfl:u=Ξ.none:=n;refine isnot_none_gen ⟨.bl _,H,I,rfl,?_⟩;rw[o.none_iff,nonV O];exact q;exact nS c
 . skip
   let⟨a,E,rfl,l,t,G⟩:=C _ c;cases(show u=Ξ.ref a from n);rcases l with l|l;let⟨g,r,M,hz⟩:=I.list l;let⟨m,p⟩:=G g r;exact SeqAt.in_listAt (eqRd s.heap t) M.isList (λw N=>p w (by simpa using N)) (zav I q (by simpa using m.symm));let⟨g,r,M,hz⟩:=I.tuple l;let⟨m,p⟩:=G g r;exact SeqAt.in_tupleAt (eqRd s.heap t) M (λw N=>p w (by simpa using N)) (zav I q (by simpa using m.symm))
 cases L:(zbg S e).bind λU=>inD S d U with
 |none=>rw[L]at c;exact nS c
 |some k'=>
  rw[L]at c;have c:k = !k':=by simpa using c.symm
  subst c;let⟨a,E,rfl,l,t,G⟩:=C k' L;cases(show u=Ξ.ref a from n);rcases l with l|l;let⟨g,r,M,hz⟩:=I.list l;let⟨m,p⟩:=G g r;exact SeqAt.notIn_listAt (eqRd s.heap t) M.isList (λw N=>p w (by simpa using N)) (zav I q (by simpa using congrArg (!·) m.symm));let⟨g,r,M,hz⟩:=I.tuple l;let⟨m,p⟩:=G g r;exact SeqAt.notIn_tupleAt (eqRd s.heap t) M (λw N=>p w (by simpa using N)) (zav I q (by simpa using congrArg (!·) m.symm))
 exact nS c
end
set_option backward.match.sparseCases false
abbrev zao:Expr->Bool|.Starred _ _=>Δ|_=>Γ
abbrev zbB:Expr->Bool|.ListComp ..=>Δ|.SetComp ..=>Δ|.DictComp ..=>Δ|_=>Γ
abbrev zfz:Expr->Bool|.Slice ..=>Δ|_=>Γ
abbrev za3:Expr->Bool|.Set ..=>Δ|_=>Γ
set_option backward.match.sparseCases true
abbrev zbb:Expr->Bool|.Call (.Name _ _) [] [] _=>Δ|_=>Γ
abbrev zis:Expr->Bool|.UnaryOp .Not _ _=>Δ|.BoolOp ..=>Δ|.IfExp ..=>Δ|.Compare ..=>Δ|_=>Γ
def zam(h:zao e=Γ)(es)(env):starEach (e::es) env=(Δ,eval e env)::starEach es env:=by cases e<;>first|rfl|exact nB h
def zfg(h:zbB e=Γ)(t)(l)(env):swapsWith e t l env=pure Δ:=by cases e<;>first|rfl|exact nB h
def zuw(h:zfz e=Γ):zms e:=by intro o i;cases e<;>first|rfl|exact nB h
def zfE(h:za3 e=Γ)(op):behindInMarks op e=Δ:=by cases e<;>first|rfl|exact nB h
def zcK(h:zbb e=Γ)(x)(env)(w):attributeBase e x env w=w:=by unfold attributeBase;cases e<;>(try rfl);rename_i f a k _;cases f<;>(try rfl);cases a<;>(try rfl);cases k<;>(try rfl);exact nB h
def zrJ(h:zis e=Γ)(env)(w):isTrue e env w=(do let v <-w;standAt e.pos;holding [v] (truthy v)):=by
 cases e with
 |UnaryOp a x p=>cases a<;>first|rfl|exact nB h
 |_=>first|rfl|exact nB h
def zhQ(h:za3 e=Γ)(env)(x):foldedSetIterable e env x=pure x:=by cases e<;>first|rfl|exact nB h
def zaO:∀{es:List Expr},es.all zao=Γ->(backTo pos (starEach es env)).any (·.1)=Δ
 | [],_=>rfl| e::es,h=>by rw[all_cons,Ε]at h;rw[zam h.1];exact zaO h.2
abbrev BM(b:Str->Option Ξ)(base:Heap):Prop:=∃(a:Addr) (o:Obj),b "__builtins__"=Φ (.ref a)/\a≠builtinsNs/\a≠mainGlobals/\base.get? a=Φ o/\o.cls=.type "module"/\o.dict=Φ builtinsNs/\o.data=.plain
structure Maker(X:Cx)(c P:Addr):Prop where
 bm:BM X.mg X.base
 code:X.env.code=.ref c
 hd:codeHdIn X.K c P=Γ
 mem:(P,X.env.qual ++ "<lambda>")∈Mks.ts
 one:∀p∈Mks.ts,p.1=P->p.2=X.env.qual ++ "<lambda>"
structure Tab where
 blt:List Str
 cons:List (Str×D)
 fns:List (Str×List Str×Nat)
 cls:List Str:=[]
 flds:List Str:=[]
 mts:List (Nat×Str×Nat):=[]
 inits:List (Nat×Nat×Nat):=[]
 cms:List (Str×Str×Nat):=[]
 isas:List (Str×List Nat):=[]
 lam:List Str:=["lambda"]
 lamP:Nat:=0
abbrev zlz(a:Scope)(x:Str):Bool:=match a.names.lookup x with|some .local=>Γ|some .cell=>Γ|some .free=>Γ|_=>Δ
abbrev zgI(a:Scope)(x:Str):Bool:=match a.names.lookup x with|some .local=>Γ|some .cell=>Γ|_=>Δ
abbrev isGl(a:Scope)(x:Str):Bool:=match a.names.lookup x with|some .globalImplicit=>Γ|_=>Δ
abbrev eqC:D->D->Bool
 |.non,.non=>Γ|.bl a,.bl b=>a==b|.int a,.int b=>a==b|_,_=>Δ
def ztw:∀{d e:D},eqC d e=Γ->d=e:=by intro d e h;cases d<;>cases e<;>first|rfl|exact nB h|(obtain rfl:=eq_of_beq h;rfl)|(obtain rfl:=eq_of_beq h;rfl)
abbrev sV:D->V
 |.non=>.non|.bl b=>.bl b|.int i=>.int i|_=>.non
abbrev zpJ:D->Bool
 |.non=>Γ|.bl _=>Γ|.int _=>Γ|_=>Δ
def zub{K}(h:zpJ d=Γ):RV K ι H d (sV d):=by cases d<;>first|rfl|exact nB h
abbrev conB:D->Const->Bool
 |.non,.none=>Γ|.bl a,.bool b=>a==b|.int a,.int b=>a==b|_,_=>Δ
abbrev bltB(T:Tab)(a:Scope)(x:Str):Bool:=isGl a x&&T.blt.contains x
abbrev spF(K:Frag)(cf:CF)(f:Nat):Sp:=λb H c _=>∃ι S a,RVs K ι H a b/\RH K ι H S/\W (cf f a S) (λd T=>∀v H' ι',Ext ι H ι' H'->RV K ι' H' d v->RH K ι' H' T->c v H')
structure HasM(P:Υ)(w:ϋ)(K:Frag)(mg:Str->Option Ξ)(base:Heap)(k c:Nat)(m:Str)(sp:Sp):Prop where
 ex:∃(C fa:Addr) (fd:FuncData) (ps:List Str),Mks.cl[c]?=Φ C/\Cls K C/\Meth K C m fa/\FnOk P w K mg base CX0 k fa fd ps sp/\Binds K fd ps []
structure HasI(P:Υ)(w:ϋ)(K:Frag)(mg:Str->Option Ξ)(base:Heap)(k c j:Nat)(sp:Sp):Prop where
 ex:∃(C fa:Addr) (fd:FuncData) (ps:List Str),Mks.cl[c]?=Φ C/\Mk K C fa/\FnOk P w K mg base CX0 k fa fd ps sp/\Binds K fd ps (List.replicate j Ξ.none)
structure HasC(P:Υ)(w:ϋ)(K:Frag)(mg:Str->Option Ξ)(base:Heap)(k:Nat)(x m:Str)(sp:Sp):Prop where
 ex:∃(C fa:Addr) (fd:FuncData) (ps:List Str) (mc:Ξ),mg x=Φ (.ref C)/\specialIn K (.ref C) "__getattribute__"=Φ (Φ (.builtin "type.__getattribute__"))/\readsIn K C mc=Γ/\findCls K (.ref C) mc m=Φ (.val (.ref fa))/\
  keepIn K (.ref fa)=Γ/\FnOk P w K mg base CX0 k fa fd ps sp/\Binds K fd ps []
structure IsaOk(K:Frag)(C:Addr):Prop where
 ha:findIn K (.ref C) "__class__"=Φ (Φ (.builtin "object.__class__"))
 hn:specialIn K (.builtin "object.__class__") "__get__"=Φ (Φ (.builtin "getset_descriptor.__get__"))
 ht:takesIn K (.builtin "object.__class__")=Φ Γ
 hm:mroIn K C (.type "object")=Φ Γ
structure TabOk(T:Tab)(cf:CF)(k:Nat)(P:Υ)(w:ϋ)(K:Frag)(mg:Str->Option Ξ)(base:Heap):Prop where
 blt:∀x,T.blt.contains x=Γ->mg x=Ψ
 con:∀x d,T.cons.lookup x=Φ d->zpJ d=Γ/\∃u,mg x=Φ u/\RelV (sV d) u
 fns:∀f x ps nd,T.fns[f]?=Φ (x,ps,nd)->∀j,j<=nd->Has P w K mg base k x ps (List.replicate j .non) (spF K cf f)
 frm:CFok cf
 cls:∀(c:Nat)(x:Str),T.cls[c]?=Φ x->∃C,Mks.cl[c]?=Φ C/\Cls K C/\mg x=Φ (.ref C)/\∀f,T.flds.contains f=Γ->NoAttr K C f
 mth:∀(c:Nat)(m:Str)(fi:Nat),T.mts.contains (c,m,fi)=Γ->HasM P w K mg base k c m (spF K cf fi)
 ini:∀(c fi j:Nat),T.inits.contains (c,fi,j)=Γ->HasI P w K mg base k c j (spF K cf fi)
 cmd:∀(x m:Str)(fi:Nat),T.cms.contains (x,m,fi)=Γ->HasC P w K mg base k x m (spF K cf fi)
 cln:(T.flds≠[]\/T.inits≠[]\/T.isas≠[])->Mks.cl.length<=T.cls.length
 isa:∀(x:Str)(cs:List Nat),T.isas.contains (x,cs)=Γ->∃D,mg x=Φ (.ref D)/\∀c C,Mks.cl[c]?=Φ C->IsaOk K C/\kitOne K (.ref C) (.ref D)=Φ (cs.contains c)
structure Gd(T:Tab)(cf:CF)(k:Nat)(N:List Str)(sc:Scope)(X:Cx):Prop where
 nm:X.N=N
 nd:N.Nodup
 loc:∀x,sc.names.lookup x=Φ .local->X.env.scope.names.lookup x=Φ .local
 cell:∀x,sc.names.lookup x=Φ .cell->X.env.scope.names.lookup x=Φ .cell
 free:∀x,sc.names.lookup x=Φ .free->X.env.scope.names.lookup x=Φ .free\/X.env.scope.names.lookup x=Φ .cell
 glob:∀x,sc.names.lookup x=Φ .globalImplicit->X.env.scope.names.lookup x=Φ .globalImplicit
 fn:(∀x,X.fn x=Γ)\/∀x,sc.names.lookup x≠Φ .cell
 calm:X.calm=Γ
 xe:X.xe=λ_ _=>False
 room':Room (k+1) X.A
 tab:TabOk T cf k X.prog X.w X.K X.mg X.base
 lam:N=T.lam->3<=k/\∃c,Maker X c T.lamP
section
variable{T:Tab}{cf:CF}{k:Nat}{N:List Str}{sc:Scope}{X:Cx}
def Gd.room(G:Gd T cf k N sc X):Room k X.A:=G.room'.mono (le_succ k)
def Gd.hu(G:Gd T cf k N sc X):X.A.units+128<cLine:=by have:=G.room.un;lia
def Gd.vis(G:Gd T cf k N sc X)(h:zlz sc x=Γ):Vis X.env.scope x:=by unfold zlz at h;split at h;rename_i e;exact .inl (G.loc x e);rename_i e;exact .inr (.inl (G.cell x e));rename_i e;rcases G.free x e with q|q;exact .inr (.inr q);exact .inr (.inl q);exact nB h
def Gd.lc(G:Gd T cf k N sc X)(h:zgI sc x=Γ):Loc X.env.scope x/\(X.fn x=Γ\/X.env.scope.names.lookup x=Φ .local):=by unfold zgI at h;split at h;rename_i e;exact⟨.inl (G.loc x e),.inr (G.loc x e)⟩;rename_i e;refine⟨.inr (G.cell x e),?_⟩;rcases G.fn with q|q;exact .inl (q x);exact absurd e (q x);exact nB h
def Gd.gl(G:Gd T cf k N sc X)(h:isGl sc x=Γ):Gl X x:=by unfold isGl at h;split at h;rename_i e;exact G.glob x e;exact nB h
end
abbrev RS(K:Frag)(ι:List Addr)(H:Hp)(δ:Ev)(a:L2.St):Prop:=δ.length=a.length/\∀(i:Nat)(d:D),δ[i]?=Φ (Φ d)->∃v,a[i]?=Φ (Φ v)/\RV K ι H d v
def RS.ext{K}(h:RS K ι H δ a)(x:Ext ι H ι' H'):RS K ι' H' δ a:=⟨h.1,λi d e=>let ⟨v,b,r⟩:=h.2 i d e;⟨v,b,r.ext x⟩⟩
def RS.set{K}(h:RS K ι H δ f)(r:RV K ι H d v)(i):RS K ι H (δ.set i (Φ d)) (f.set i (Φ v)):=by
 refine⟨by simp[h.1],λj e b=>?_⟩;by_cases a:i=j;subst a;have c:i<δ.length:=by have:=(Α.mp b).1;simpa using this
 rw[getElem?_set_self c]at b;cases b;exact⟨v,getElem?_set_self (by rw[<-h.1];exact c),r⟩;rw[getElem?_set_ne a]at b;let⟨g,k,l⟩:=h.2 j e b;exact⟨g,by rw[getElem?_set_ne a];exact k,l⟩
abbrev tE(K:Frag)(cf:CF)(b:CE):TE:=λc H d=>∃a ι S Q,RS K ι H a c/\RH K ι H S/\W (evE cf b a S) Q/\∀v H',Lf K ι H Q v H'->d v H'
abbrev LfB(K:Frag)(ι:List Addr)(H:Hp)(Q:Bool->R.St->Prop):Bool->Hp->Prop:=λb H'=>∃ι' a,Ext ι H ι' H'/\RH K ι' H' a/\Q b a
abbrev tT(K:Frag)(cf:CF)(c:CE):TT:=λd H e=>∃a ι S Q,RS K ι H a d/\RH K ι H S/\W (evT cf c a S) Q/\∀b H',LfB K ι H Q b H'->e b H'
abbrev LfA(K:Frag)(ι:List Addr)(H:Hp)(Q:List D->R.St->Prop):List V->Hp->Prop:=λc H'=>∃a ι' b,Ext ι H ι' H'/\RVs K ι' H' a c/\RH K ι' H' b/\Q a b
abbrev tAs(K:Frag)(cf:CF)(a:CEs):TA:=λd H e=>∃b ι S Q,RS K ι H b d/\RH K ι H S/\W (evEs cf a b S) Q/\∀c H',LfA K ι H Q c H'->e c H'
inductive SqK(K:Frag)(ι:List Addr)(H:Hp)(S:R.St)(a:Addr)(xs:List V)(ds:List D)(lks:List Nat):Prop where
 |tmp (h:a∉ι) (e:H a=Φ (.lst xs)):SqK K ι H S a xs ds lks
 |tup (e:H a=Φ (.tup xs)):SqK K ι H S a xs ds lks
 |fix (e:FixL K H a xs):SqK K ι H S a xs ds lks
 |own (l:Nat) (hl:l∈lks) (hi:ι[l]?=Φ a) (hs:S.get l=Φ (.lst ds)) (e:H a=Φ (.lst xs)):SqK K ι H S a xs ds lks
abbrev Sq(K:Frag)(ι:List Addr)(H:Hp)(S:R.St)(v:V)(ds:List D)(b:List Nat):Prop:=∃a c,v=.ref a/\RVs K ι H ds c/\SqK K ι H S a c ds b
abbrev LfL(K:Frag)(ι:List Addr)(H:Hp)(Q:List D×List Nat->R.St->Prop):VK:=λv H'=>∃c a ι' b,Ext ι H ι' H'/\Sq K ι' H' b v c a/\RH K ι' H' b/\Q (c,a) b
abbrev tL(K:Frag)(cf:CF)(cl:CL):TE:=λb H c=>∃a ι S Q,RS K ι H a b/\RH K ι H S/\W (evL cf cl a S) Q/\∀v H',LfL K ι H Q v H'->c v H'
abbrev LfT(K:Frag)(ι:List Addr)(H:Hp)(Q:List D×List Nat->R.St->Prop):VK:=λv H'=>∃b ι' c a d,Ext ι H ι' H'/\v=.ref a/\RVs K ι' H' b d/\a∉ι'/\H' a=Φ (.lst d)/\RH K ι' H' c/\H a=Ψ/\Q (b,[]) c
abbrev tLt(K:Frag)(cf:CF)(cl:CL):TE:=λb H c=>∃a ι S Q,RS K ι H a b/\RH K ι H S/\W (evL cf cl a S) Q/\∀v H',LfT K ι H Q v H'->c v H'
def LfT.l{K}(h:LfT K ι H Q v H'):LfL K ι H Q v H':=by let⟨b,ι',c,a,d,x,rfl,r,f,e,g,_,q⟩:=h;exact⟨b,[],ι',c,x,⟨a,d,rfl,r,.tmp f e⟩,g,q⟩
def PE.imp(h:PE X e t)(i:∀a H Q,t' a H Q->t a H Q):PE X e t':=λb s a H Q I q=>h b s a H Q I (i a H Q q)
def PT.imp(h:PT X e t)(i:∀a H Q,t' a H Q->t a H Q):PT X e t':=λb s a H Q I q=>h b s a H Q I (i a H Q q)
def PW.imp(h:PW X e t)(i:∀a H Q,t' a H Q->t a H Q):PW X e t':=λc b s a H Q I q=>h c b s a H Q I (i a H Q q)
def PA.imp(h:PA X es t)(i:∀a H Q,t' a H Q->t a H Q):PA X es t':=λpos b s a H Q I q=>h pos b s a H Q I (i a H Q q)
def tE.run{K}(hs:RS K ι H δ e)(f:RH K ι H S)(w:W (evE cf a δ S) Q)(h:∀d v ι' H' b,Ext ι H ι' H'->RS K ι' H' δ e->RH K ι' H' b->RV K ι' H' d v->Q d b->g v H'):tE K cf a e H g:=
 ⟨δ,ι,S,Q,hs,f,w,λv H' z=>(by let⟨d,ι',b,x,r,c,q⟩:=z;exact h d v ι' H' b x (hs.ext x) c r q)⟩
def tT.run{K}(hs:RS K ι H δ e)(f:RH K ι H S)(w:W (evT cf a δ S) Q)(h:∀b ι' H' c,Ext ι H ι' H'->RS K ι' H' δ e->RH K ι' H' c->Q b c->g b H'):tT K cf a e H g:=
 ⟨δ,ι,S,Q,hs,f,w,λb H' z=>(by let⟨ι',c,x,d,q⟩:=z;exact h b ι' H' c x (hs.ext x) d q)⟩
def tAs.run{K}(hs:RS K ι H δ e)(f:RH K ι H S)(w:W (evEs cf a δ S) Q)(h:∀ds vs ι' H' b,Ext ι H ι' H'->RS K ι' H' δ e->RH K ι' H' b->RVs K ι' H' ds vs->Q ds b->g vs H'):tAs K cf a e H g:=
 ⟨δ,ι,S,Q,hs,f,w,λv H' z=>(by let⟨d,ι',b,x,r,c,q⟩:=z;exact h d v ι' H' b x (hs.ext x) c r q)⟩
def PE.ofT(h:PE X e (tLt X.K cf cl)):PE X e (tL X.K cf cl):=PE.imp h λd H f z=>(by let⟨a,ι,S,Q,b,c,w,q⟩:=z;exact ⟨a,ι,S,Q,b,c,w,λv H' l=>q v H' l.l⟩)
def tLt.run{K}(hs:RS K ι H δ d)(f:RH K ι H S)(w:W (evL cf a δ S) Q)(h:∀ds p xs ι' H' b,Ext ι H ι' H'->RS K ι' H' δ d->RH K ι' H' b->RVs K ι' H' ds xs->p∉ι'->H' p=Φ (.lst xs)->H p=Ψ->Q (ds,[]) b->g (.ref p) H'):tLt K cf a d H g:=
 ⟨δ,ι,S,Q,hs,f,w,λv H' z=>(by let⟨ds,ι',b,p,xs,x,e,r,i,j,c,k,q⟩:=z;exact e▸h ds p xs ι' H' b x (hs.ext x) c r i j k q)⟩
def tL.run{K}(hs:RS K ι H δ e)(f:RH K ι H S)(w:W (evL cf a δ S) Q)(h:∀ds b v ι' H' c,Ext ι H ι' H'->RS K ι' H' δ e->RH K ι' H' c->Sq K ι' H' c v ds b->Q (ds,b) c->g v H'):tL K cf a e H g:=
 ⟨δ,ι,S,Q,hs,f,w,λv H' z=>(by let⟨ds,b,ι',c,x,r,d,q⟩:=z;exact h ds b v ι' H' c x (hs.ext x) d r q)⟩
section
variable{T:Tab}{cf:CF}{k:Nat}{N:List Str}{sc:Scope}{X:Cx}{pos:Pos}
def zf3(h:W o Q):∃a S,o=.ok a S/\Q a S:=W.iff.mp h
def zax(h:W (lift S o) Q):∃a,o=Φ a/\Q a S:=by cases o with|none=>exact h.elim|some a=>exact⟨a,rfl,h⟩
def zoo(G:Gd T cf k N sc X)(b:N[i]?=Φ x)(c:zlz sc x=Γ)(f:(x==("__debug__":Str))=Δ)(g:(x==("__classdict__":Str))=Δ):PE X (.Name x pos) (tE X.K cf (.loc i)):=by
 refine PE.imp (zbV (i:=i) (by rw[G.nm];exact b) (G.vis c) f g) λp H s y=>?_;let⟨a,ι,S,Q,h,j,w,q⟩:=y;let⟨d,e,l⟩:=zax w;have m:a[i]?=Φ (Φ d):=by
  cases z:a[i]? with
  |none=>rw[z]at e;exact nS e
  |some o=>rw[z]at e;simp at e;rw[e]
 let⟨v,n,r⟩:=h.2 i d m;exact⟨v,n,q v H (Lf.of j r l)⟩
def zop(h:conB d c=Γ):PE X (.Constant c j pos) (tE X.K cf (.con d)):=by
 have key:∀{v:V},PE X (.Constant c j pos) (tC v)->(∀K ι H,RV K ι H d v)->PE X (.Constant c j pos) (tE X.K cf (.con d)):=λ{v} b e=>PE.imp b λg H i z=>(by let⟨l,ι,S,Q,m,f,w,q⟩:=z;exact q v H (Lf.of f (e _ _ _) w))
 cases d<;>cases c<;>first
  |exact key zoA λ_ _ _=>rfl
  |exact nB h
  |(simp![conB,beq_iff_eq]at h;subst h;exact key zgu λ_ _ _=>rfl)
  |(simp![conB,beq_iff_eq]at h;subst h;exact key zuj λ_ _ _=>rfl)
  |(simp![conB,beq_iff_eq]at h;subst h;exact key a λ_ _ _=>rfl)
def zpE(G:Gd T cf k N sc X)(b:isGl sc x=Γ)(c:T.cons.lookup x=Φ d')(f:eqC d' d=Γ)(g:(x==("__debug__":Str))=Δ):PE X (.Name x pos) (tE X.K cf (.con d)):=by have e:=ztw f;subst e;let⟨a,u,h,r⟩:=G.tab.con x d' c;exact PE.imp (zk0 (G.gl b) h r g) λj H l z=>(by let⟨m,ι,S,Q,n,i,w,q⟩:=z;exact q (sV d') H (Lf.of i (zub a) w))
def zsf(j:PE X a (tE X.K cf m))(n:PE X b (tE X.K cf o)):PE X (.BinOp a op b pos) (tE X.K cf (.bin op m o)):=by refine PE.imp (zsI (ztG op) j n) λI H J k=>?_;let⟨L,ι,S,Q,p,r,w,q⟩:=k;change W (Out.bind _ _) _ at w;simp![zab] at w;refine tE.run p r w λd v s M O t c f x y=>tE.run c f y λe u g U A i B h C E=>?_;exact⟨g,A,d,e,Q,x.ext i,C,h,E,λz G l=>q z G (Lf.up (t.trans i) l)⟩
def zr6(e:PE X a (tE X.K cf f)):PE X (.UnaryOp .USub a pos) (tE X.K cf (.neg f)):=by refine PE.imp (zug zrF e) λo H p z=>?_;let⟨r,ι,S,Q,g,h,w,q⟩:=z;change W (Out.bind _ _) _ at w;simp![zab] at w;refine tE.run g h w λd v j s t l m b n c=>?_;cases d with| int i=>obtain rfl:v=.int i:=n;exact⟨i,rfl,q _ _ (Lf.up l (Lf.of (d:=.int (-i)) b rfl c))⟩|_=>exact c.elim
def zt5(e:PE X a (tE X.K cf f)):PE X (.UnaryOp .Not a pos) (tE X.K cf (.nt f)):=by refine PE.imp (zsJ e) λo H p z=>?_;let⟨r,ι,S,Q,g,h,w,q⟩:=z;change W (Out.bind _ _) _ at w;simp![zab] at w;refine tE.run g h w λd v j s t l m b n c=>?_;cases d with| bl i=>obtain rfl:v=.bl i:=n;exact⟨i,rfl,q _ _ (Lf.up l (Lf.of (d:=.bl (!i)) b rfl c))⟩|_=>exact c.elim
def zse(G:Gd T cf k N sc X)(l:PE X a (tE X.K cf m))(f:PE X b (tE X.K cf n))(o:za3 b=Γ):PE X (.Compare a [op] [b] pos) (tE X.K cf (.cmp op m n)):=by refine PE.imp (zqn (zeZ G.hu op) l f (zfE o op)) λJ H L z=>?_;let⟨M,ι,S,Q,p,r,w,q⟩:=z;change W (Out.bind _ _) _ at w;simp![zab] at w;refine tE.run p r w λd v s O U t g h x y=>tE.run g h y λe u i Y A j B c C E=>?_;let⟨b,f,I⟩:=zax E;exact⟨i,A,d,e,b,x.ext j,C,c,f,q _ _ (Lf.up (t.trans j) (Lf.of (d:=.bl b) c rfl I))⟩
def zrW(G:Gd T cf k N sc X)(m:PE X a (tE X.K cf n))(g:PE X b (tE X.K cf o))(p:za3 b=Γ):PT X (.Compare a [op] [b] pos) (tT X.K cf (.cmp op n o)):=by refine PT.imp (zkM (zeZ G.hu op) m g (zfE p op)) λJ H L z=>?_;let⟨M,ι,S,Q,r,s,w,q⟩:=z;change W (Out.bind _ _) _ at w;simp![zab] at w;refine tE.run r s w λd v t O U x h i y A=>tE.run h i A λe u c Y j l B f C E=>?_;let⟨b,g,I⟩:=zax E;exact⟨c,j,d,e,b,y.ext l,C,f,g,b,rfl,q _ _ ⟨c,j,x.trans l,f,I⟩⟩
def zpH(G:Gd T cf k N sc X)(A:PE X a (tE X.K cf B))(g:PE X b (tE X.K cf C))(E:PE X c (tE X.K cf I))(hm:za3 b=Γ)(j:za3 c=Γ):
  PE X (.Compare a [op,h] [b,c] pos) (tE X.K cf (.cmp2 op h B C I)):=by
 refine PE.imp (znn (zeZ G.hu op) (zeZ G.hu h) A g E (by simp[lastMarks,zfE j])) λσ H Qv z=>?_;let⟨δ,ι,S,Q,J,L,w,q⟩:=z;change W (Out.bind _ _) _ at w;simp![zab] at w;refine tE.run J L w λd v M H1 S1 t l m O U=>tE.run l m U λe u n H2 Y o p f x w2=>?_;let⟨b,g,r⟩:=zax w2;refine⟨n,Y,d,e,b,O.ext o,x,f,g,b,rfl,?_⟩;cases b with|false=>exact q _ _ (Lf.up (t.trans o) (Lf.of (d:=.bl Δ) f rfl r))| true=>simp![if_true,zab]at r⊢;refine tE.run p f r λe' u' s H3 S3 y hs3 i r3 w4=>?_;let⟨b,g,w5⟩:=zax w4;exact⟨s,S3,e,e',b,x.ext y,r3,i,g,q _ _ (Lf.up ((t.trans o).trans y) (Lf.of (d:=.bl b) i rfl w5))⟩
def zpk(G:Gd T cf k N sc X)(C:PE X a (tE X.K cf E))(g:PE X b (tE X.K cf I))(J:PE X c (tE X.K cf L))(hm:za3 b=Γ)(m:za3 c=Γ):
  PT X (.Compare a [op,h] [b,c] pos) (tT X.K cf (.cmp2 op h E I L)):=by
 refine PT.imp (zm6 (zeZ G.hu op) (zeZ G.hu h) C g J (by simp[lastMarks,zfE m])) λσ H Qv z=>?_;let⟨δ,ι,S,Q,M,O,w,q⟩:=z;change W (Out.bind _ _) _ at w;simp![zab] at w;refine tE.run M O w λd v U H1 S1 t n o Y w1=>tE.run n o w1 λe u i H2 x p r f y w2=>?_;let⟨b,g,s⟩:=zax w2;refine⟨i,x,d,e,b,Y.ext p,y,f,g,b,rfl,?_⟩;cases b with|false=>exact⟨Δ,rfl,q _ _ ⟨i,x,t.trans p,f,s⟩⟩| true=>simp![if_true,zab]at s⊢;refine tE.run r f s λe' u' j H3 A B hs3 l r3 w4=>?_;let⟨b,g,w5⟩:=zax w4;exact⟨j,A,e,e',b,y.ext B,r3,l,g,b,rfl,q _ _ ⟨j,A,(t.trans p).trans B,l,w5⟩⟩
def zoq(j:PE X a (tE X.K cf m))(n:PE X (.BoolOp .And (b::rest) pos) (tE X.K cf o)):PE X (.BoolOp .And (a::b::rest) pos) (tE X.K cf (.and m o)):=by
 refine PE.imp (zsO j n) λy H A k=>?_;let⟨p,ι,S,Q,r,s,w,q⟩:=k;change W (Out.bind _ _) _ at w;simp![zab] at w;refine tE.run r s w λd v f B t i g e u h=>?_;cases d with
 |bl c=>obtain rfl:v=.bl c:=u;refine⟨c,rfl,?_⟩;cases c with|false=>exact q _ _ (Lf.up i (Lf.of (d:=.bl Δ) e rfl h))|true=>exact⟨p,f,t,Q,g,e,h,λz x l=>q z x (Lf.up i l)⟩
 |_=>exact h.elim
def zr5(j:PE X a (tE X.K cf m))(n:PE X (.BoolOp .Or (b::rest) pos) (tE X.K cf o)):PE X (.BoolOp .Or (a::b::rest) pos) (tE X.K cf (.or m o)):=by
 refine PE.imp (zuh j n) λy H A k=>?_;let⟨p,ι,S,Q,r,s,w,q⟩:=k;change W (Out.bind _ _) _ at w;simp![zab] at w;refine tE.run r s w λd v f B t i g e u h=>?_;cases d with
 |bl c=>obtain rfl:v=.bl c:=u;refine⟨c,rfl,?_⟩;cases c with|true=>exact q _ _ (Lf.up i (Lf.of (d:=.bl Γ) e rfl h))|false=>exact⟨p,f,t,Q,g,e,h,λz x l=>q z x (Lf.up i l)⟩
 |_=>exact h.elim
def LfB.up{K}(x:Ext ι H ι' H')(h:LfB K ι' H' Q b c):LfB K ι H Q b c:=by let⟨a,d,e,r⟩:=h;exact⟨a,d,x.trans e,r⟩
def zoi(j:PT X a (tT X.K cf m))(n:PW X (.BoolOp .And (b::rest) pos) (tT X.K cf o)):PW X (.BoolOp .And (a::b::rest) pos) (tT X.K cf (.and m o)):=by refine PW.imp (zsB j n) λu H v k=>?_;let⟨p,ι,S,Q,r,s,w,q⟩:=k;change W (Out.bind _ _) _ at w;simp![zab] at w;refine tT.run r s w λc d x g h f e i=>?_;cases c with|false=>exact q _ _ ⟨d,g,h,e,i⟩|true=>exact⟨p,d,g,Q,f,e,i,λz t l=>q z t (LfB.up h l)⟩
def zrV(j:PT X a (tT X.K cf m))(n:PW X (.BoolOp .Or (b::rest) pos) (tT X.K cf o)):PW X (.BoolOp .Or (a::b::rest) pos) (tT X.K cf (.or m o)):=by refine PW.imp (zue j n) λu H v k=>?_;let⟨p,ι,S,Q,r,s,w,q⟩:=k;change W (Out.bind _ _) _ at w;simp![zab] at w;refine tT.run r s w λc d x g h f e i=>?_;cases c with|true=>exact q _ _ ⟨d,g,h,e,i⟩|false=>exact⟨p,d,g,Q,f,e,i,λz t l=>q z t (LfB.up h l)⟩
def zt2(e:PT X a (tT X.K cf f)):PT X (.UnaryOp .Not a pos) (tT X.K cf (.nt f)):=by refine PT.imp (zsC e) λn H o z=>?_;let⟨p,ι,S,Q,g,h,w,q⟩:=z;change W (Out.bind _ _) _ at w;simp![zab] at w;exact tT.run g h w λc b r i j l d m=>q _ _ ⟨b,i,j,d,m⟩
def zrK(o:RH X.K ι H S)(r:RV X.K ι H d v)(h:tru S d=Φ b):TruV X.K v H b:=by
 cases d with
 |non=>obtain rfl:v=.non:=r;cases h;rfl|bl c=>obtain rfl:v=.bl c:=r;cases h;rfl|int i=>obtain rfl:v=.int i:=r;cases h;rfl| tup g=>let⟨a,f,rfl,j,m⟩:=r;cases h;refine .inr (.inl ⟨f,SqT.of j,?_⟩);have:=m.length;cases g<;>cases f<;>first|rfl|simp at this
 |ref l=>
  simp![tru]at h;split at h
  . rename_i g e;cases h;let⟨a,p,rfl⟩:=r;let⟨q,n,f,j,m⟩:=o.obj _ _ e;rw[p]at n;cases n;refine .inl ⟨f,SqL.of j,?_⟩;have:=m.length;cases g<;>cases f<;>first|rfl|simp at this
  exact nS h
 |_=>exact nS h
def zrU(f:PE X a (tE X.K cf g))(h:zis a=Γ):PT X a (tT X.K cf (.tst g)):=by refine PT.imp (zm5 f (zrJ h X.env)) λt H u z=>?_;let⟨x,ι,S,Q,i,j,w,q⟩:=z;change W (Out.bind _ _) _ at w;simp![zab] at w;refine tE.run i j w λd v e y l m n c o p=>?_;let⟨b,r,s⟩:=zax p;exact⟨b,zrK c o r,q _ _ ⟨e,l,m,c,s⟩⟩
def zsb(n:PT X c (tT X.K cf o))(p:PE X a (tE X.K cf r))(s:PE X b (tE X.K cf t)):PE X (.IfExp c a b pos) (tE X.K cf (.ite o r t)):=by refine PE.imp (znj n p s) λx H y k=>?_;let⟨h,ι,S,Q,u,v,w,q⟩:=k;change W (Out.bind _ _) _ at w;simp![zab] at w;refine tT.run u v w λc d A i j e f m=>?_;cases c with|true=>exact⟨h,d,i,Q,e,f,m,λz g l=>q z g (Lf.up j l)⟩|false=>exact⟨h,d,i,Q,e,f,m,λz g l=>q z g (Lf.up j l)⟩
def zos:PA X [] (tAs X.K cf .nil):=PA.imp zeM λb H c z=>(by let⟨d,ι,S,Q,e,a,w,q⟩:=z;exact q [] H ⟨[],ι,S,Ext.refl _ _,rfl,a,by simpa[evEs]using w⟩)
def zkl(j:PE X e (tE X.K cf l))(a:PA X es (tAs X.K cf b))(m:zao e=Γ):PA X (e::es) (tAs X.K cf (.cons l b)):=by refine PA.imp (zbz j a (zam m es X.env)) λE H G z=>?_;let⟨I,ι,S,Q,n,o,w,q⟩:=z;simp![evEs,zab]at w;refine tE.run n o w λd v p J L r c f s t=>tAs.run c f t λu x g M y i A h B C=>?_;exact q _ _ ⟨d::u,g,y,r.trans i,⟨v,x,rfl,s.ext i,B⟩,h,C⟩
def zr4(h:PA X es (tAs X.K cf a)):PE X (.Tuple es j pos) (tE X.K cf (.tup a)):=by refine PE.imp (zoy h) λo H r z=>?_;let⟨s,ι,S,Q,f,g,w,q⟩:=z;change W (Out.bind _ _) _ at w;simp![zab] at w;refine tAs.run f g w λt u i v x l m b e d=>?_;split at d;rename_i c;exact⟨by rw[e.length,Χ];exact c,λp n=>q _ _ (Lf.up l (Lf.tup b n e d))⟩;exact d.elim
def zsa(h:PA X es (tAs X.K cf a)):PE X (.List es pos) (tE X.K cf (.lst a)):=by refine PE.imp (zsK h) λo H r z=>?_;let⟨s,ι,S,Q,e,f,w,q⟩:=z;change W (Out.bind _ _) _ at w;simp![zab] at w;refine tAs.run e f w λt u g v x i j b d l=>?_;let⟨c,m⟩:=zeO l;exact⟨by rw[d.length];exact c,λp n=>q _ _ (Lf.up i (Lf.lst b n d m))⟩
def zpG:PE X (.Dict [] [] pos) (tE X.K cf .dnew):=by refine PE.imp ziu λc H d z=>?_;let⟨e,ι,S,Q,f,a,w,q⟩:=z;intro p b;exact q _ _ ⟨.ref S.len,ι++[p],S.push (.dic []),Ext.obj a b _,⟨p,a.last p,rfl⟩,a.obj' b _ _ ⟨List.nodup_nil,[],zag,rfl⟩,w⟩
def zuv(n:RH X.K ι H S)(r:RV X.K ι H d v)(o:zbg S d=Φ ds)(b:R.atI ds i=Φ e):∃u,rIx X.K v (.int i) H (λz H'=>z=u/\H'=H)/\RV X.K ι H e u:=by
 let⟨a,f,rfl,c,m⟩:=zon n o r;have p:=m.length;have key:∃u,L2.atI f i=Φ u/\RV X.K ι H e u:=by
  unfold R.atI at b;cases h:R.ixN ds.length i with
  |none=>rw[h]at b;exact nS b
  |some j=>
   rw[h]at b;let⟨u,g,l⟩:=m.get (show ds[j]?=Φ e from b);refine⟨u,?_,l⟩;unfold L2.atI;have:L2.ixN f.length i=Φ j:=by rw[p];exact h
   rw[this];exact g
 let⟨u,g,l⟩:=key;refine⟨u,?_,l⟩;rcases c with c|c;exact .inl ⟨a,f,i,u,rfl,rfl,c,g,rfl,rfl⟩;exact .inr (.inl ⟨a,f,i,u,rfl,rfl,c,g,rfl,rfl⟩)
def zp2{K}(h:rIx K x y H (λz H'=>z=u/\H'=H))(q:Q u H):rIx K x y H Q:=by rcases h with⟨p,f,i,v,a,b,d,e,rfl,_⟩|⟨p,f,i,v,a,b,d,e,rfl,_⟩|⟨z,i,c,a,b,d,e,g,_⟩;exact .inl ⟨p,f,i,v,a,b,d,e,q⟩;exact .inr (.inl ⟨p,f,i,v,a,b,d,e,q⟩);exact .inr (.inr ⟨z,i,c,a,b,d,e,by rw[g];exact q⟩)
def zt7(l:PE X a (tE X.K cf m))(n:PE X b (tE X.K cf o))(p:zfz b=Γ):PE X (.Subscript a b pos) (tE X.K cf (.ix m o)):=by refine PE.imp (zui zto l n (zuw p)) λO H U k=>?_;let⟨Y,ι,S,Q,r,s,w,q⟩:=k;change W (Out.bind _ _) _ at w;simp![zab] at w;refine tE.run r s w λd v t H1 S1 x f g y A=>tE.run f g A λe u B H2 S2 j C c E h=>?_;split at h;rename_i ds i G;let⟨z,I,J⟩:=zax h;obtain rfl:u=.int i:=E;let⟨u,L,M⟩:=zuv c (y.ext j) G I;exact zp2 L (q _ _ (Lf.up (x.trans j) (Lf.of c M J)));exact h.elim
end
section
variable{K:Frag}{ι ι':List Addr}{H H':Hp}{S T:R.St}{d:D}{v:V}
def zqZ(a:T.frz=S.frz++S.new)(h:S.get l=Φ o):T.get l=Φ o:=by let⟨f,n,k⟩:=T;have a:f=S.frz++S.new:=a;subst a;exact zde h n k
def RH.cut(m:RH K ι H S)(x:Ext ι H ι' H')(q:RH K ι' H' T)(u:T.frz=S.frz++S.new):RH K ι H' S:=by refine⟨m.len,m.nd,λl o e=>?_,q.tab⟩;let⟨a,r,j⟩:=m.obj l o e;let⟨b,s,k⟩:=q.obj l o (zqZ u e);rw[zbO x.pre r]at s;cases s;refine⟨a,r,?_⟩;cases o with| lst z=>let⟨A,_,f⟩:=j;let⟨g,h,i⟩:=k;exact⟨g,h,i.restrict x.pre f.flats⟩| dic n=>let⟨_,t,_,f⟩:=j;let⟨p,g,h,i⟩:=k;exact⟨p,g,h,i.restrict x.pre f.flats⟩| ins c B=>let⟨_,_,t,_,_,f⟩:=j;let⟨C,w,g,y,h,i⟩:=k;exact⟨C,w,g,y,h,i.restrict x.pre f.flats⟩| d3 n=>let⟨_,t,_,f⟩:=j;let⟨p,g,h,i⟩:=k;exact⟨p,g,h,i.restrict x.pre f.flats⟩
def Ext.cut(x:Ext ι H ι' H'):Ext ι H ι H':=⟨ϛ _,x.kp,λa o h e=>⟨(x.rest a o h e).1,h⟩⟩
def zkQ(c:ι <+: ι')(e:ι'.Nodup)(b:ι'[l]?=Φ a)(h:ι.length<=l):a∉ι:=λf=>by let⟨t,rfl⟩:=c;rw[getElem?_append_right h]at b;have g:=mem_of_getElem? b;exact(nodup_append.mp e).2.2 a f a g rfl
def zlX(x:Ext ι H ι' H')(f:ι'.Nodup)(hl:ι'[l]?=Φ a)(h:ι.length<=l):Ext ι H (ι++[a]) H':=by refine⟨ϗ _ _,x.kp,λb o c e=>⟨(x.rest b o c e).1,λz=>?_⟩⟩;rcases mem_append.mp z with z|z;exact c z;simp at z;subst z;exact(x.rest b o c e).2 (mem_of_getElem? hl)
def RH.one{l:Nat}{a:Addr}{o:MO}(f:RH K ι H' S)(i:a∉ι)(j:RO K (ι++[a]) H' a o):RH K (ι++[a]) H' (S.push o):=by
 refine⟨by rw[length_append,f.len,zcl];rfl,?_,λl k e=>?_,f.tab⟩;rw[nodup_append];refine⟨f.nd,by simp,λb m c h=>?_⟩;simp at h;subst h;exact λz=>i (z▸m);by_cases n:l<S.len;rw[zcG n]at e;let⟨b,p,q⟩:=f.obj l k e;exact⟨b,zbO (ϗ _ _) p,q.up (ϗ _ _) (Kp.refl _) rfl⟩;have g:=get_lt e;rw[zcl]at g;have:l=S.len:=by lia
 subst this;rw[zfO]at e;cases e;exact⟨a,by rw[<-f.len];simp,j⟩
def RH.keep(a:RH K ι' H' T)(c:T.frz=S.frz++S.new):RH K ι' H' ⟨S.frz,S.new++T.new,S.lk⟩:=by
 have g:∀l,(R.St.mk S.frz (S.new++T.new) S.lk).get l=T.get l:=λl=>by unfold St.get;rw[c];simp![length_append];by_cases b:l<S.frz.length;rw[if_pos b,if_pos (by omega),getElem?_append_left b];by_cases f:l<S.frz.length+S.new.length;rw[if_neg b,if_pos f,getElem?_append_left (by omega),getElem?_append_right (by omega)];rw[if_neg b,if_neg f,getElem?_append_right (by omega)];congr 1;omega
 refine⟨?_,a.nd,λl o e=>a.obj l o (by rw[<-g];exact e),a.tab⟩;rw[a.len];unfold St.len;rw[c];simp![length_append];omega
def ziD(g:RH K ι H S)(x:Ext ι H ι' H')(r:RV K ι' H' d v)(f:RH K ι' H' T)(h:T.frz=S.frz++S.new)(w:W (zcF S d T) Q):Lf K ι H Q v H':=by
 have m:=g.cut x f h;unfold zcF at w;split at w;rename_i c;rw[<-g.len]at c;exact⟨d,ι,S,x.cut,r.restrict x.pre c,m,w⟩;rename_i c;dsimp only at w;split at w;rename_i l;let⟨a,i,rfl⟩:=id r;have n:ι.length<=l:=by simp![R.flat,decide_eq_true_eq]at c;rw[g.len];lia
 have t:=zkQ x.pre f.nd i n;split at w;rename_i u e;let⟨b,j,o⟩:=f.obj l _ e;rw[i]at j;cases j;split at w;rename_i k;rw[<-g.len]at k;let⟨p,e2,q⟩:=o;refine⟨.ref S.len,ι++[a],S.push (.lst u),zlX x f.nd i n,⟨a,by rw[<-g.len];simp,rfl⟩,m.one (l:=l) t ⟨p,e2,(q.restrict x.pre k).up (ϗ _ _) (Kp.refl _)⟩,w⟩;exact⟨_,ι',_,x,r,f.keep h,w⟩;rename_i s e;let⟨b,j,o⟩:=f.obj l _ e;rw[i]at j;cases j;split at w;rename_i k;rw[<-g.len]at k;let⟨y,p,e2,q⟩:=o;refine⟨.ref S.len,ι++[a],S.push (.dic s),zlX x f.nd i n,⟨a,by rw[<-g.len];simp,rfl⟩,m.one (l:=l) t ⟨y,p,e2,(q.restrict x.pre k).up (ϗ _ _) (Kp.refl _)⟩,w⟩;exact⟨_,ι',_,x,r,f.keep h,w⟩;exact⟨_,ι',_,x,r,f.keep h,w⟩;exact⟨_,ι',_,x,r,f.keep h,w⟩
end
section
variable{T:Tab}{cf:CF}{k:Nat}{N:List Str}{sc:Scope}{X:Cx}{pos p:Pos}
def RVs.nons{K}:∀j:Nat,RVs K ι H (List.replicate j .non) (List.replicate j .non)
 |0=>rfl|j+1=>⟨.non,List.replicate j .non,rfl,rfl,RVs.nons j⟩
def RH.enter{K}(h:RH K ι H S):RH K ι H S.enter:=⟨by rw[enter_len];exact h.len,h.nd,λl o e=>h.obj l o (by rw[zaP]at e;exact e),h.tab⟩
def zme(b:CFok cf)(h:tE X.K cf (.call f j c) l H m):
  zff (spF X.K cf f) (List.replicate j .non) E0 (tAs X.K cf c) l H m:=by
 let⟨C,ι,S,Q,n,o,w,q⟩:=h;change W (Out.bind _ _) _ at w;simp![zab] at w;refine tAs.run n o w λs E g G t u y a z i=>?_;unfold app at i;rw[zab]at i;refine⟨g,t.enter,s++List.replicate j .non,z.append (RVs.nons j),a.enter,?_⟩;let⟨d,I,e,A⟩:=zf3 i;rw[e];exact λv H' ι' x r B=>q v H' (Lf.up u (ziD a x r B (b _ _ _ _ _ e).frz A))
def zmk{K}(g:RH K b c S1)(x:Ext ι H b c)(d:c a=Ψ):H a=Ψ:=by
 cases e:H a with
 |none=>rfl| some o=>
  by_cases f:a∈ι;have h:a∈b:=by let⟨t,rfl⟩:=x.pre;exact mem_append_left _ f
  exact absurd h (g.fresh d)
  . have:=(x.rest a o f e).1;rw[d]at this;rcases this with z|⟨_,_,z⟩<;>exact nS z
def zpI(G:Gd T cf k N sc X)(d:T.fns[f]?=Φ (x,ps,c))(g:j<=c)(i:isGl sc x=Γ)(hd:(x==("__debug__":Str))=Δ)(l:PA X (e::es) (tAs X.K cf b))(a:(e::es).all zao=Γ):
  PE X (.Call (.Name x p) (e::es) [] pos) (tE X.K cf (.call f j b)):=by
 have Hs:=G.tab.fns f x ps c d j g;rw[all_cons,Ε]at a;exact PE.imp (zsM Hs G.room l (G.gl i) hd (zam a.1 es X.env) (zaO a.2)) λm H n h=>zme G.tab.frm h
def zmO(G:Gd T cf k N sc X)(c:T.fns[f]?=Φ (x,ps,a))(g:j<=a)(h:isGl sc x=Γ)(hd:(x==("__debug__":Str))=Δ):
  PE X (.Call (.Name x p) [] [] pos) (tE X.K cf (.call f j .nil)):=by
 have Hs:=G.tab.fns f x ps a c j g;refine PE.imp (zsL Hs G.room (G.gl h) hd) λm H n z=>?_;let⟨o,ι,S,Q,s,b,w,q⟩:=z;change W (Out.bind _ _) _ at w;simp![evEs,zat] at w;unfold app at w;rw[zab]at w;let⟨d,t,e,i⟩:=zf3 w;refine⟨ι,S.enter,[]++List.replicate j .non,RVs.append rfl (RVs.nons j),b.enter,?_⟩;rw[e];exact λv H' ι' x r l=>q v H' (ziD b x r l (G.tab.frm _ _ _ _ _ e).frz i)
def zjK(h:tE X.K cf (.callW f j a) i H l):
  zff (spF X.K cf f) (List.replicate j .non) E0 (tAs X.K cf a) i H l:=by
 let⟨C,ι,S,Q,m,n,w,q⟩:=h;change W (Out.bind _ _) _ at w;simp![zab] at w;refine tAs.run m n w λo E b G s t u c y g=>?_;unfold appW at g;refine⟨b,s,o++List.replicate j .non,y.append (RVs.nons j),c,?_⟩;let⟨d,z,e,A⟩:=zf3 g;rw[e];exact λv H' ι' x r B=>q v H' (Lf.up t ⟨d,ι',z,x,r,B,A⟩)
def zmL(G:Gd T cf k N sc X)(d:T.fns[f]?=Φ (x,ps,c))(g:j<=c)(i:isGl sc x=Γ)(hd:(x==("__debug__":Str))=Δ)(l:PA X (e::es) (tAs X.K cf b))(a:(e::es).all zao=Γ):
  PE X (.Call (.Name x p) (e::es) [] pos) (tE X.K cf (.callW f j b)):=by
 have Hs:=G.tab.fns f x ps c d j g;rw[all_cons,Ε]at a;exact PE.imp (zsM Hs G.room l (G.gl i) hd (zam a.1 es X.env) (zaO a.2)) λm H n h=>zjK h
def zt4{n:Nat}(f:PE X a (tE X.K cf r))(s:PE X e (tE X.K cf (.con (.int n)))):PE X (.Subscript a (.Slice Ψ (Φ e) Ψ p2) pos) (tE X.K cf (.sl r n)):=by refine PE.imp (zit zok f zqg (zhy s)) λL H M z=>?_;let⟨t,ι,S,Q,u,x,w,q⟩:=z;change W (Out.bind _ _) _ at w;simp![zab] at w;refine tE.run u x w λd v y O j A g h B b=>?_;split at b;split at b;refine tE.run g h (show W (evE cf (.con (.int n)) t j) λd T=>d=.int n/\T=j by exact⟨rfl,rfl⟩) λd v C Y S2 l E i G I=>?_;let⟨rfl,rfl⟩:=I;obtain rfl:v=.int n:=G;let⟨a,m,rfl,f,o⟩:=B.ext l;have hl:=o.length;refine⟨n,rfl,a,m,rfl,SqT.of f,?_,λp J=>q _ _ (Lf.up (A.trans l) (Lf.tup i J ?_ b))⟩;rw[HT.sIx_nat];lia;unfold cutV;rw[HT.sIx_nat,HT.sIx_none,show min n m.length-0=n by lia];exact o.take _;exact b.elim;exact b.elim
end
abbrev rB(K:Frag)(f:R.St->List D->Out D):List V->Hp->VK->Prop:=λc H d=>∃ι S a b,RVs K ι H a c/\RH K ι H S/\W (f S a) b/\∀v H',Lf K ι H b v H'->d v H'
section
variable{T:Tab}{cf:CF}{k:Nat}{N:List Str}{sc:Scope}{X:Cx}{pos p:Pos}
def RVs.one{K}(r:RVs K ι H [d] xs):∃v,xs=[v]/\RV K ι H d v:=by let⟨v,w,rfl,a,b⟩:=r;cases(show w=[] from b);exact⟨v,rfl,a⟩
def RVs.two{K}(r:RVs K ι H [d,e] xs):∃v u,xs=[v,u]/\RV K ι H d v/\RV K ι H e u:=by let⟨v,w,rfl,a,b⟩:=r;let⟨u,rfl,c⟩:=RVs.one b;exact⟨v,u,rfl,a,c⟩
def zte:zbt X (.builtin "len") (rB X.K λS ds=>R.bi S .len ds):=by
 intro c s m H f n t I u z;let⟨ι,S,ds,E,r,j,w,q⟩:=z;rcases ds with _|⟨x,_|⟨y,_⟩⟩
 exact w.elim
 rotate_left;exact w.elim
 unfold bi at w;dsimp only at w
 let⟨v,rfl,y⟩:=r.one;split at w;let⟨a,f,rfl,g,i⟩:=y;refine zcc c s m H _ n t I u ⟨a,f,rfl,.inr (SqT.of g),?_⟩;rw[i.length];exact q _ _ (Lf.of (d:=.int _) j rfl w);let⟨a,f,rfl,g,i⟩:=y;refine zcc c s m H _ n t I u ⟨a,f,rfl,.inl g.sq,?_⟩;rw[i.length];exact q _ _ (Lf.of (d:=.int _) j rfl w);rename_i l;let⟨a,B,rfl⟩:=y;cases e:S.get l with|none=>rw[e]at w;exact w.elim| some o=>rw[e]at w;let⟨b,A,C⟩:=j.obj _ _ e;rw[B]at A;cases A;cases o with| lst ds=>let⟨f,g,i⟩:=C;refine zcc c s m H _ n t I u ⟨a,f,rfl,.inl (SqL.of g),?_⟩;rw[i.length];exact q _ _ (Lf.of (d:=.int _) j rfl w)|_=>exact w.elim
 exact w.elim
def ztN:zbt X (.builtin "abs") (rB X.K λS ds=>R.bi S .abs ds):=by
 intro a s b H l c e I f z;let⟨ι,S,ds,m,r,g,w,q⟩:=z;rcases ds with _|⟨x,_|⟨y,_⟩⟩
 exact w.elim
 . cases x with|int i=>let⟨v,rfl,j⟩:=r.one;obtain rfl:v=.int i:=j;exact zn1 a s b H _ c e I f ⟨i,rfl,q _ _ (Lf.of (d:=.int _) g rfl w)⟩|_=>exact w.elim
 cases x<;>exact w.elim
def zs4(b:X.calm=Γ):zbt X (.builtin "max") (rB X.K λS ds=>R.bi S .max2 ds):=by
 intro a s c H o e f I g z;let⟨ι,S,ds,t,r,l,w,q⟩:=z;rcases ds with _|⟨x,_|⟨y,_|⟨z,_⟩⟩⟩
 exact w.elim
 cases x<;>exact w.elim
 . cases x with|int i=>(cases y with|int j=>let⟨v,u,rfl,m,n⟩:=r.two;obtain rfl:v=.int i:=m;obtain rfl:u=.int j:=n;exact zmd b a s c H _ e f I g ⟨i,j,rfl,q _ _ (Lf.of (d:=.int _) l rfl w)⟩|_=>exact w.elim)|_=>exact w.elim
 . cases x<;>first|exact w.elim|(cases y<;>exact w.elim)
def zs2(b:X.calm=Γ):zbt X (.builtin "min") (rB X.K λS ds=>R.bi S .min2 ds):=by
 intro a s c H o e f I g z;let⟨ι,S,ds,t,r,l,w,q⟩:=z;rcases ds with _|⟨x,_|⟨y,_|⟨z,_⟩⟩⟩
 exact w.elim
 cases x<;>exact w.elim
 . cases x with|int i=>(cases y with|int j=>let⟨v,u,rfl,m,n⟩:=r.two;obtain rfl:v=.int i:=m;obtain rfl:u=.int j:=n;exact zmc b a s c H _ e f I g ⟨i,j,rfl,q _ _ (Lf.of (d:=.int _) l rfl w)⟩|_=>exact w.elim)|_=>exact w.elim
 . cases x<;>first|exact w.elim|(cases y<;>exact w.elim)
def zbk(G:Gd T cf k N sc X)(h:bltB T sc x=Γ):Gl X x/\X.mg x=Ψ:=by unfold bltB at h;replace h:=qa1 h;exact⟨G.gl h.1,G.tab.blt x h.2⟩
def zt8{id}(i:zbt X (.builtin id) (rB X.K λS ds=>R.bi S b ds))(h:Gl X x/\X.mg x=Ψ)(j:bootBuiltins x=Φ (.builtin id))(m:PA X (e::es) (tAs X.K cf c))(a:(e::es).all zao=Γ)(n:x≠"__name__")(d:(x==("__debug__":Str))=Δ):
  PE X (.Call (.Name x p) (e::es) [] pos) (tE X.K cf (.bi b c)):=by
 rw[all_cons,Ε]at a;refine PE.imp (zcT i h.1 h.2 j m n d (zam a.1 es X.env) (zaO a.2)) λB H C z=>?_;let⟨E,ι,S,Q,o,r,w,q⟩:=z;change W (Out.bind _ _) _ at w;simp![zab] at w;refine tAs.run o r w λds G f I s t u g y A=>?_;exact⟨f,s,ds,Q,y,g,A,λv H' l=>q v H' (Lf.up t l)⟩
def zpb(g:RH X.K ι H S)(r:RV X.K ι H d v)(h:tyOf S d=Φ a):zdk H v=Φ a:=by
 cases d with
 |non=>obtain rfl:v=.non:=r;exact h|bl b=>obtain rfl:v=.bl b:=r;exact h|int b=>obtain rfl:v=.int b:=r;exact h| tup i=>let⟨p,j,rfl,c,_⟩:=r;simp![zdk,c];exact h| ref l=>
  let⟨p,m,rfl⟩:=r;simp![tyOf]at h;simp![zdk];cases e:S.get l with
  |none=>rw[e]at h;exact nS h
  |some o=>rw[e]at h;let⟨b,f,n⟩:=g.obj _ _ e;rw[m]at f;cases f;cases o with|lst i=>let⟨j,c,_⟩:=n;rw[c];exact h|_=>exact nS h
 |_=>exact nS h
def zpD(G:Gd T cf k N sc X)(i:Gl X "isinstance"/\X.mg "isinstance"=Ψ)(j:Gl X y/\X.mg y=Ψ)(l:bootBuiltins y=Φ (.type t))(m:t∈["bool","int","str","list","tuple","dict"])(g:y≠"__name__")(h:(y==("__debug__":Str))=Δ)(n:PE X e (tE X.K cf o))(b:zao e=Γ):PE X (.Call (.Name "isinstance" p) [e,.Name y p2] [] pos) (tE X.K cf (.bi (.isin t) (.cons o .nil))):=by
 refine PE.imp (zcT zh0 i.1 i.2 zf1 (zbz n (zbz (zqq (v:=.ty t) j.1 j.2 l rfl g h) zeM) (zam b _ X.env)) (by decide) (by decide) (zam b _ X.env)) λE H I z=>?_;let⟨J,ι,S,Q,r,s,w,q⟩:=z;change W (Out.bind _ _) _ at w;simp![evEs,zab,W_ok] at w;refine tE.run r s w λd v u L x A B c C f=>?_;simp![bi]at f;cases e:tyOf x d with|none=>rw[e]at f;exact f.elim| some a=>rw[e]at f;exact⟨v,t,a,rfl,zpb c C e,m,q _ _ (Lf.up A (Lf.of (d:=.bl _) c rfl f))⟩
def zlE(c:RH X.K ι H S)(r:RV X.K ι H d v)(h:isL S d=Γ):tyV X.K "list" v H:=by
 cases d with
 |ref l=>
  let⟨p,f,rfl⟩:=r;simp![isL]at h;cases e:S.get l with
  |none=>rw[e]at h;exact nB h
  |some o=>rw[e]at h;let⟨b,a,g⟩:=c.obj _ _ e;rw[f]at a;cases a;cases o with|lst m=>let⟨i,j,_⟩:=g;exact .inl ⟨rfl,i,SqL.of j⟩|_=>exact nB h
 |_=>exact nB h
abbrev rM(K:Frag)(m:Mt):V->List V->Hp->VK->Prop:=λx c H e=>∃ι S d a b,RV K ι H d x/\RVs K ι H a c/\RH K ι H S/\W (R.mt S m d a) b/\∀v H',Lf K ι H b v H'->e v H'
def zmp:MtR X "list.append" (rM X.K .append):=by
 intro f s n H x Y v t A I B C z;let⟨ι,S,d,E,Qd,r,G,g,w,q⟩:=z;rcases E with _|⟨y,_|⟨z,_⟩⟩<;>cases d<;>(try exact w.elim)
 rename_i l;unfold R.mt at w;dsimp only at w;let⟨a,i,rfl⟩:=r;let⟨u,rfl,J⟩:=G.one;cases e:S.get l with|none=>rw[e]at w;exact w.elim| some o=>rw[e]at w;let⟨b,j,L⟩:=g.obj _ _ e;rw[i]at j;cases j;cases o with| lst E=>let⟨M,O,m⟩:=L;let⟨c,S',Q,U⟩:=zmt w;refine zgw f s n H _ _ v t A I B C ⟨a,M,u,rfl,rfl,O,?_,?_⟩;rw[m.length];rw[length_append,List.length_singleton]at c;lia;exact q _ _ (Lf.wr (d:=.non) g e i Q (m.append ⟨u,[],rfl,J,rfl⟩) rfl U)|_=>exact w.elim
def zm9:MtR X "list.pop" (rM X.K .popAt):=by
 intro f s J H x xs v L M I O Q z;let⟨ι,S,d,n,Qd,r,U,t,w,q⟩:=z;rcases n with _|⟨y,_|⟨z,_⟩⟩<;>cases d<;>(try exact w.elim)<;>cases y<;>(try exact w.elim)
 rename_i l i;unfold R.mt at w;dsimp only at w
 let⟨a,A,rfl⟩:=r;let⟨u,rfl,g⟩:=U.one;obtain rfl:u=.int i:=g;cases e:S.get l with
 |none=>rw[e]at w;exact w.elim| some o=>
  rw[e]at w;let⟨b,B,Y⟩:=t.obj _ _ e;rw[A]at B;cases B;cases o with
  |lst n=>
   let⟨j,C,E⟩:=Y;dsimp only at w;split at w;rename_i c0;cases m:n[i.toNat]? with|none=>rw[m]at w;exact w.elim| some y=>rw[m]at w;let⟨c,S',hp,w2⟩:=zmt w;let⟨u,G,g⟩:=E.get m;have hlt:i.toNat<j.length:=(Α.mp G).1;have hz:j.length<=sizeLine:=(I.lstM C).1;rw[Χ]at hz;refine zns f s J H _ _ v L M I O Q ⟨a,j,i,i.toNat,u,rfl,rfl,C,by lia,by lia,?_,G,?_⟩;exact PySem.StrLaws.seqIndex_nonneg c0 (by lia);exact q _ _ (Lf.wr (d:=y) t e A hp (E.erase _) g w2)
   exact w.elim
  |_=>exact w.elim
def zdJ:∀{ds:List D}{os:List (Option Int)},zbe ds=Φ os->ds=os.map λo=>match o with|some i=>D.int i|none=>D.non:=by intro ds;unfold zbe;induction ds with|nil=>intro os h;simp at h;subst h;rfl| cons d ds b=>intro os h;let⟨y,r,a,c,rfl⟩:=zaC h;rw[b c];cases d<;>simp[zf5]at a<;>subst a<;>rfl
abbrev wV:Option Int->V
 |some i=>.int i|none=>.non
def zdE{K}:∀{os:List (Option Int)}{vs:List V},RVs K ι H (os.map λo=>match o with|some i=>D.int i|none=>D.non) vs->vs=os.map wV
 | [],_,h=>h| o::os,vs,h=>by let⟨v,r,rfl,a,b⟩:=h;rw[zdE b];cases o<;>rw[show v=_ from a]<;>rfl
abbrev isI(i:Int):Ξ->Bool
 |.int j _=>j==i|_=>Δ
def zdg(i):∀{os:List (Option Int)}{us:List Ξ},Vals (os.map wV) us->(∀y∈us,y=Ξ.none\/∃a u,y=Ξ.int a u)/\us.countP (isI i)=os.count (Φ i)
 | [],us,r=>by cases r;exact⟨λy b=>by simp at b,rfl⟩| o::os,us,r=>by
  cases r with
  | @cons _ u _ us c f=>
   let⟨d,e⟩:=zdg i f;cases o with
   |none=>obtain rfl:u=Ξ.none:=c;refine⟨λy b=>?_,?_⟩;rcases mem_cons.mp b with rfl|b;exact .inl rfl;exact d y b;rw[List.countP_cons,List.count_cons,e];simp[isI]
   |some j=>obtain⟨t,rfl⟩:∃t,u=Ξ.int j t:=c;refine⟨λy b=>?_,?_⟩;rcases mem_cons.mp b with rfl|b;exact .inr ⟨_,_,rfl⟩;exact d y b;rw[List.countP_cons,List.count_cons,e];simp[isI]
abbrev isN:Ξ->Bool
 |.none=>Γ|_=>Δ
def zej:∀{os:List (Option Int)}{us:List Ξ},Vals (os.map wV) us->us.countP isN=os.count Ψ
 | [],us,r=>by cases r;rfl| o::os,us,r=>by cases r with| @cons _ u _ us a c=>have b:=zej c;cases o with| none=>obtain rfl:u=Ξ.none:=a;rw[List.countP_cons,List.count_cons,b];simp[isN]| some j=>obtain⟨t,rfl⟩:∃t,u=Ξ.int j t:=a;rw[List.countP_cons,List.count_cons,b];simp[isN]
def znY:MtR X "list.count" (rM X.K .count):=by
 intro pins s σ H x xs v us Qv I rx rv z;let⟨ι,S,d,G,Qd,r,rs,J,w,q⟩:=z;rcases G with _|⟨y,_|⟨z,_⟩⟩<;>cases d<;>(try exact w.elim)<;>cases y<;>(try exact w.elim)<;>unfold R.mt at w<;>dsimp only at w
 case cons.nil.ref.int l i=>
  let⟨a,M,rfl⟩:=r;let⟨u,rfl,O⟩:=rs.one;obtain rfl:u=.int i:=O;cases e:S.get l with
  |none=>rw[e]at w;exact w.elim| some o=>
   rw[e]at w;let⟨b,g,Q⟩:=J.obj _ _ e;rw[M]at g;cases g;cases o with
   |lst G=>let⟨zs,U,m⟩:=Q;dsimp only at w;cases e2:zbe G with|none=>rw[e2]at w;exact w.elim| some os=>rw[e2]at w;rw[zdJ e2]at m;cases zdE m;let⟨c,L,Y,_⟩:=I.list (SqL.of U);let⟨u1,rfl,f⟩:=Vals.one rv;let⟨t,rfl⟩:=f;cases rx;let⟨c1,c2⟩:=zdg i L;have hl:=Y.isList;let⟨⟨cls,dd,A,sl⟩,B,C,n,E⟩:=id hl;simp only at C E;subst C E;refine call_meets PySem.F.slot_list_count ⟨_,B,rfl⟩ PySem.F.entry_list_count (PySem.F.args_list_count_2 _ _) (PySem.SeqAt.list_countAt a c.toArray n dd sl (.int i t) (isI i)) ⟨B,λy hy=>?_,?_⟩;rcases c1 y (by simpa using hy) with rfl|⟨j,u,rfl⟩;exact PySem.SeqAt.EqAt.none_int i t;exact PySem.SeqAt.EqAt.int_int j u i t;rw[show c.toArray.toList=c from rfl,c2];exact⟨.int _,H,I.tok _,⟨_,rfl⟩,q _ _ (Lf.of (d:=.int _) J rfl w)⟩
   |_=>exact w.elim
 case cons.nil.ref.non l=>
  let⟨a,M,rfl⟩:=r;let⟨u,rfl,O⟩:=rs.one;obtain rfl:u=.non:=O;cases e:S.get l with
  |none=>rw[e]at w;exact w.elim| some o=>
   rw[e]at w;let⟨b,g,Q⟩:=J.obj _ _ e;rw[M]at g;cases g;cases o with
   |lst G=>let⟨zs,U,m⟩:=Q;dsimp only at w;cases e2:zbe G with|none=>rw[e2]at w;exact w.elim| some os=>rw[e2]at w;rw[zdJ e2]at m;cases zdE m;let⟨c,L,Y,_⟩:=I.list (SqL.of U);let⟨u1,rfl,f⟩:=Vals.one rv;obtain rfl:=f;cases rx;let⟨c1,c2⟩:=zdg 0 L;have hl:=Y.isList;let⟨⟨cls,dd,A,sl⟩,B,C,n,E⟩:=id hl;simp only at C E;subst C E;refine call_meets PySem.F.slot_list_count ⟨_,B,rfl⟩ PySem.F.entry_list_count (PySem.F.args_list_count_2 _ _) (PySem.SeqAt.list_countAt a c.toArray n dd sl .none isN) ⟨B,λy hy=>?_,?_⟩;rcases c1 y (by simpa using hy) with rfl|⟨j,u,rfl⟩;exact PySem.SeqAt.EqAt.same _;exact PySem.SeqAt.EqAt.int_none j u;rw[show c.toArray.toList=c from rfl,zej L];exact⟨.int _,H,I.tok _,⟨_,rfl⟩,q _ _ (Lf.of (d:=.int _) J rfl w)⟩
   |_=>exact w.elim
def zpA{id}(b:Slot "list" name id)(i:typeOf (.builtin id)=pure (.type "method_descriptor"))(u:MtR X id (rM X.K m))(x:PE X o (tE X.K cf y))(A:PE X e (tE X.K cf B))(a:zao e=Γ)(f:zbb o=Γ)(hl:(apos.endLine==cpos.line)=Γ):
  PE X (.Call (.Attribute o name apos) [e] [] cpos) (tE X.K cf (.mt m y (.cons B .nil))):=by
 refine PE.imp (zqp PySem.F.plainAttrs_list b i u x (zkl A zos a) (zcK f name X.env _) (by rw[zam a];rfl) hl (zam a [] X.env)) λσ H Qv k=>?_;let⟨δ,ι,S,Q,C,E,w,q⟩:=k;change W (Out.bind _ _) _ at w;simp![zab] at w;refine tE.run C E w λd v G H1 S1 I j g s h=>?_;split at h;rename_i c;refine⟨zlE g s c,?_⟩;rw[zab]at h;refine tAs.run j g h λJ vs n H2 L t M r O U=>?_;exact⟨n,L,d,J,Q,s.ext t,O,r,U,λz Y l=>q z Y (Lf.up (I.trans t) l)⟩;exact h.elim
def SqK.seq{K}(h:SqK K ι H S a xs ds b):SqL K H a xs\/SqT K H a xs:=by cases h with|tmp h e=>exact .inl (SqL.of e)|tup e=>exact .inr (SqT.of e)|fix e=>exact .inl e.sq|own l c d f e=>exact .inl (SqL.of e)
def zr3(r:PE X e (tE X.K cf s)):PE X e (tL X.K cf (.val s)):=by
 refine PE.imp r λJ H L z=>?_;let⟨M,ι,S,Q,t,u,w,q⟩:=z;change W (Out.bind _ _) _ at w;simp![zab] at w;refine tE.run t u w λd v i x m y A c j B=>?_;let⟨C,b,E⟩:=zax B;refine q v x ⟨C,lkOf m d,i,m,y,?_,c,E⟩;cases d with
 |tup G=>cases b;let⟨a,f,rfl,g,h⟩:=j;exact⟨a,f,rfl,h,.tup g⟩| fix G=>cases b;let⟨a,f,rfl,g,h⟩:=j;exact⟨a,f,rfl,h,.fix g⟩| ref l=>simp![zbg]at b;split at b;rename_i I e;cases b;let⟨a,n,rfl⟩:=j;let⟨O,o,f,g,h⟩:=c.obj _ _ e;rw[n]at o;cases o;exact⟨a,f,rfl,h,.own l (by simp[lkOf]) n e g⟩;exact nS b
 |_=>exact nS b
def zaZ(b:PE X e c)(a:zao e=Γ):PA X [e] (zew c tNil):=zbz b zeM (zam a [] X.env)
def zr7(G:Gd T cf k N sc X)(n:Gl X "tuple"/\X.mg "tuple"=Ψ)(x:PE X e (tL X.K cf cl))(f:zao e=Γ):PE X (.Call (.Name "tuple" p) [e] [] pos) (tE X.K cf (.mkT cl)):=by
 refine PE.imp (zbF zfX n.1 n.2 ziX (zaZ x f) (by decide) (by decide) (zam f [] X.env)) λL H o z=>?_;let⟨M,ι,S,Q,r,y,w,q⟩:=z;change W (Out.bind _ _) _ at w;simp![zab] at w;refine tL.run r y w λA B v C b O s E g I i=>?_;split at i;let⟨a,j,rfl,t,J⟩:=I;have fresh:SqL X.K b a j->∃p m,[V.ref a]=[V.ref p]/\((SqL X.K b p m/\∀l,b l=Ψ->o (.ref l) (upd b l (.tup m)))\/(SqT X.K b p m/\o (.ref p) b)):=λh=>⟨a,j,rfl,.inl ⟨h,λl u=>q _ _ (Lf.up s (Lf.tup g u t i))⟩⟩;cases J with|tmp h e=>exact fresh (SqL.of e)|fix e=>exact fresh e.sq|own l u U r e=>exact fresh (SqL.of e)|tup e=>exact⟨a,j,rfl,.inr ⟨SqT.of e,q _ _ (Lf.up s (Lf.of (d:=.tup A) g ⟨a,j,rfl,e,t⟩ i))⟩⟩
 exact i.elim
def zr8(G:Gd T cf k N sc X)(f:Gl X "list"/\X.mg "list"=Ψ)(g:PE X e (tL X.K cf cl))(b:zao e=Γ):PE X (.Call (.Name "list" p) [e] [] pos) (tE X.K cf (.mkL cl)):=by refine PE.imp (zbF zg1 f.1 f.2 zh2 (zaZ g b) (by decide) (by decide) (zam b [] X.env)) λB H C z=>?_;let⟨E,ι,S,Q,h,i,w,q⟩:=z;change W (Out.bind _ _) _ at w;simp![zab] at w;refine tL.run h i w λI j v m J L n o d r s=>?_;let⟨c,t⟩:=zeO s;let⟨a,u,rfl,x,y⟩:=r;exact⟨a,u,rfl,y.seq,λl A=>q _ _ (Lf.up n (Lf.lst d A x t))⟩
def zk6(h:tE X.K cf (.mkL cl) m H n):tLt X.K cf cl m H n:=by let⟨E,ι,S,Q,r,s,w,q⟩:=h;change W (Out.bind _ _) _ at w;simp![zab] at w;refine tLt.run r s w λt p u g G i d v a x y e A B=>?_;let⟨c,C⟩:=zeO B;refine q _ _ ⟨.ref i.len,g++[p],i.push (.lst t),?_,⟨p,a.last p,rfl⟩,a.one (l:=0) y ⟨u,e,x.up (ϗ _ _) (Kp.refl _)⟩,C⟩;refine⟨d.pre.trans (ϗ _ _),d.kp,λb o j f=>⟨(d.rest b o j f).1,λz=>?_⟩⟩;rcases mem_append.mp z with z|z;exact(d.rest b o j f).2 z;simp at z;subst z;rw[A]at f;exact nS f
def zsd(A:PE X o (tE X.K cf B))(C:PE X e (tLt X.K cf cl))(f:zao e=Γ)(h:zbb o=Γ)(hl:(apos.endLine==cpos.line)=Γ):
  PE X (.Call (.Attribute o "extend" apos) [e] [] cpos) (tE X.K cf (.ext B cl)):=by
 refine PE.imp (zqp PySem.F.plainAttrs_list PySem.F.slot_list_extend PySem.F.type_list_extend zgv A (zaZ C f) (zcK h "extend" X.env _) (by rw[zam f];rfl) hl (zam f [] X.env)) λσ H Qv z=>?_;let⟨δ,ι,S,Q,E,G,w,q⟩:=z;change W (Out.bind _ _) _ at w;simp![zab] at w;refine tE.run E G w λd v I H1 S1 J n i r m=>?_;split at m;rename_i c;refine⟨zlE i r c,?_⟩;rw[zab]at m;refine tLt.run n i m λds b L M H2 O s U j t _ Y _ g=>?_;cases d with
 |ref l=>let⟨a,u,rfl⟩:=r.ext s;dsimp only at g;cases e:O.get l with|none=>rw[e]at g;exact g.elim| some o=>rw[e]at g;cases o with| lst es=>let⟨b',x,zs,ha,y⟩:=j.obj _ _ e;rw[u]at x;cases x;let⟨c2,S',hp,w3⟩:=zmt g;refine⟨a,b,zs,L,rfl,rfl,ha,Y,?_,q _ _ (Lf.up (J.trans s) (Lf.wr (d:=.non) j e u hp (y.append t) rfl w3))⟩;rw[y.length,t.length,<-length_append];exact c2|_=>exact g.elim
 |_=>exact g.elim
 exact m.elim
def zn4:bootBuiltins "range"=Φ (.type "range"):=by decide +kernel
def zkF:zbt X (.type "range") (λxs H Q=>∃j,xs=[.int j]/\∀p,H p=Ψ->Q (.ref p) (upd H p (.rng 0 j))):=by intro a s d H xs f Q I r h;let⟨j,rfl,q⟩:=h;let⟨u,rfl,c⟩:=r.one;let⟨t,rfl⟩:=c;refine call_range_1 ⟨.ref s.heap.objs.size,_,I.laid (λb g e=>Λ _ e) (le_refl _) ?_,rfl,q _ (I.hok.fresh (le_refl _))⟩;exact⟨_,_,_,Ζ _ rfl⟩
def znu(B:X.calm=Γ):zbt X (.type "list") (λxs H Q=>∃p b,xs=[.ref p]/\H p=Φ (.rng 0 b)/\-(2^62)<=b/\b<2^62/\b.toNat<=16777216/\∀l,H l=Ψ->Q (.ref l) (upd H l (.lst ((List.range b.toNat).map λ(j:Nat)=>.int j)))):=by
 intro w s σ H xs a Q I r h;let⟨p,b,rfl,C,E,G,x,q⟩:=h;let⟨u,rfl,J⟩:=r.one;cases(show u=Ξ.ref p from J);let⟨t,t2,t3,e⟩:=(show ObjOk X.prog X.w H s.heap p (.rng 0 b) from I.hok p _ C);have L:Builtin.Range.rangeSize 0 b 1=(b.toNat:Nat):=by rw[rangeSize_one];split<;>lia
 refine call_list_range (I.ok.hd B) e (small_one (by decide) (by decide) E G) L x λh' tk i c M O y=>?_;refine⟨.ref s.heap.objs.size,_,I.laid (o:=.lst _) M (le_refl _) ⟨?_,i.toList,c,?_,?_⟩,rfl,q _ (I.hok.fresh (le_refl _))⟩;rw[length_map,length_range];exact x;have key:∀(n:Nat)(a:List Ξ),a.length=n->(∀(j:Nat)(v:Ξ),a[j]?=Φ v->∃t,v=Ξ.int (0+(j:Int)*1) t)->Vals ((List.range n).map λ(j:Nat)=>V.int j) a:=by
  intro n;induction n with
  |zero=>intro a g _;cases a with
   |nil=>exact .nil|cons _ _=>simp at g
  |succ n U=>
   intro a g A;have d:a≠[]:=by intro z;subst z;simp at g
   have m:=(List.dropLast_concat_getLast d).symm;rw[List.range_succ,map_append,m];have f:a.dropLast.length=n:=by simp[g]
   refine Vals.append (U _ f λj v e=>A j v ?_) (.cons ?_ .nil);have Y:=(Α.mp e).1;rw[m,getElem?_append_left Y];exact e;let⟨t,e⟩:=A n (a.getLast d) (by
    conv=>lhs;rw[m]
    simp[f])
   exact⟨t,by simpa using e⟩
 exact key _ _ (by simpa using y.1) λj v e=>y.2 j v (by simpa using e);simpa using O
def zpB(G:Gd T cf k N sc X)(r:Gl X "list"/\X.mg "list"=Ψ)(s:Gl X "range"/\X.mg "range"=Ψ)(u:PE X a (tE X.K cf x))(b:zao a=Γ):
  PE X (.Call (.Name "list" p) [.Call (.Name "range" p2) [a] [] e] [] pos) (tE X.K cf (.mkL (.rng1 x))):=by
 have h:=zbF (p:=p2) (pos:=e) zkF s.1 s.2 zn4 (zaZ u b) (by decide) (by decide) (zam b [] X.env);refine PE.imp (zbF (znu G.calm) r.1 r.2 zh2 (zaZ h rfl) (by decide) (by decide) rfl) λO H U z=>?_;let⟨Y,ι,S,Q,y,A,w,q⟩:=z;change W (Out.bind (Out.bind _ _) _) _ at w;simp![zab]at w;refine tE.run y A w λd v i B S1 C E n I f=>?_;cases d with| int j=>obtain rfl:v=.int j:=I;dsimp only at f;split at f;rename_i c;let⟨J,L⟩:=zeO f;refine⟨j,rfl,λt g=>⟨t,j,rfl,zag,c.1,c.2,by simpa[Χ]using J,λl M=>?_⟩⟩;have o:=n.new g (.rng 0 j);refine q _ _ (Lf.up (C.trans (Ext.new g _)) (Lf.lst o M ?_ L));have:=RVs.ints (K:=X.K) (ι:=i) (H:=upd B t (.rng 0 j)) ((List.range j.toNat).map λ(m:Nat)=>(m:Int));rw[map_map,map_map]at this;exact this;exact f.elim|_=>exact f.elim
def zrl{bs:List Bool}(h:ds.mapM zg9=Φ bs):ds=bs.map D.bl:=by
 induction ds generalizing bs with
 |nil=>
  have h:bs=[]:=by simpa using h.symm
  subst h;rfl
 |cons d ds b=>let⟨y,r,a,c,rfl⟩:=zaC h;cases d<;>simp[zg9]at a;subst a;rw[b c];rfl
def RVs.bls_eq{K}:∀{bs:List Bool}{vs:List V},RVs K ι H (bs.map D.bl) vs->vs=bs.map V.bl
 | [],_,h=>h| b::bs,vs,h=>by let⟨v,r,rfl,a,c⟩:=h;rw[RVs.bls_eq c,show v=.bl b from a];rfl
def zj0{bs:List Bool}(r:Vals (bs.map V.bl) us):us=bs.map Ξ.bool:=by induction bs generalizing us with|nil=>cases r;rfl| cons b bs a=>cases r with|cons c d=>rw[a d,show _=Ξ.bool b from c];rfl
def zmr(bs:List Bool):(List.range bs.length).all (λi=>bs.getD i Δ)=bs.all id:=by
 rw[Bool.eq_iff_iff,all_eq_true,all_eq_true];constructor;intro h b c;let⟨i,a,e⟩:=List.getElem_of_mem c;have:=h i (by simpa using a);rw[ϊ,Ι a,e]at this;exact this;intro h i a;have a:i<bs.length:=by simpa using a
 rw[ϊ,Ι a];exact h _ (List.getElem_mem a)
def zrq(L:X.calm=Γ):zbt X (.builtin "all") (λxs H Q=>∃(a:Addr) (bs:List Bool),xs=[.ref a]/\(SqL X.K H a (bs.map V.bl)\/SqT X.K H a (bs.map V.bl))/\Q (.bl (bs.all id)) H):=by
 intro m s M H xs us Q I r h;let⟨a,bs,rfl,A,q⟩:=h;let⟨u,rfl,U⟩:=r.one;cases(show u=Ξ.ref a from U);have B:X.A.in1.handled=Ψ:=I.ok.hd L;have O:∀(d:Array Ξ),d.toList=bs.map Ξ.bool->TruthOf X.prog X.w X.A.in1 (λi v=>d[i]?=Φ v) (λi=>bs.getD i Δ):=by
  intro d e i v s' Q' E' Y J;have f:d.toList[i]?=Φ v:=by rw[Array.getElem?_toList];exact Y
  rw[e,getElem?_map]at f;cases z:bs[i]? with
  |none=>rw[z]at f;exact nS f
  |some b=>rw[z]at f;simp![Option.map_some,Option.some.injEq]at f;subst f;dsimp only at J;rw[ϊ,z]at J;exact ϓ J
 have fin:∀(t:Heap)(y n:Nat)(C:Β)(it:Addr),n=bs.length->s.heap.objs.size=it->Inv X m M H C->C.os=s.os->(∀b o,b∉[it]->C.heap.get? b=Φ o->t.get? b=Φ o)->
   EP X m M Q (.bool ((List.range n).all λi=>bs.getD i Δ)) {C with heap:=t,toks:=y}:=by
  intro t y n C it hn hit I2 ho E;subst hn;rw[zmr];have fp:=I.fpOk (b:=it) (by lia) (I.hok.fresh (by lia));let⟨f0,f1,f2,f3,f4,f5⟩:=fp;exact⟨.bl _,H,I2.turned (λb o hb e=>E b o (by simpa using hb) e) f0 f1 f3 f4 f5,rfl,q⟩
 rcases A with A|A;let⟨g,G,w,hz⟩:=I.list A;have j:=zj0 G;have l:=G.length;refine call_all_walk (wpAny_pyIter_list w.isList ?_);have x:a≠s.heap.objs.size:=by let⟨o,n,e,_⟩:=w;exact ne_of_lt (Η e)
 refine⟨s.heap.objs.size,_,_,_,_,_,_,rfl,Walks.list B _ a x g.toArray,⟨⟨_,Ζ _ rfl,rfl,rfl⟩,w.isList.push _⟩,O g.toArray (by simpa using j),λt y E=>?_⟩;exact fin t y _ _ _ (by simpa using l.symm) rfl (I.kept λb o e=>Λ _ e) rfl E;let⟨g,G,w,hz⟩:=I.tuple A;have j:=zj0 G;have l:=G.length;refine call_all_walk (wpAny_pyIter_tuple (show s.heap.IsTuple a g.toArray from w) ?_);have x:a≠s.heap.objs.size:=by let⟨o,e,_⟩:=w;exact ne_of_lt (Η e)
 refine⟨s.heap.objs.size,_,_,_,_,_,_,rfl,Walks.tuple B _ a x g.toArray,⟨⟨_,Ζ _ rfl,rfl,rfl⟩,?_⟩,O g.toArray (by simpa using j),λt y E=>?_⟩;let⟨o,e,c⟩:=w;exact⟨o,Λ _ e,c⟩;exact fin t y _ _ _ (by simpa using l.symm) rfl (I.kept λb o e=>Λ _ e) rfl E
def zsg(G:Gd T cf k N sc X)(h:Gl X "all"/\X.mg "all"=Ψ)(l:PE X e (tL X.K cf cl))(f:zao e=Γ):PE X (.Call (.Name "all" p) [e] [] pos) (tE X.K cf (.all cl)):=by
 refine PE.imp (zcT (zrq G.calm) h.1 h.2 ztK (zaZ l f) (by decide) (by decide) (zam f [] X.env)) λC H E z=>?_;let⟨I,ι,S,Q,m,n,w,q⟩:=z;change W (Out.bind _ _) _ at w;simp![zab] at w;refine tL.run m n w λo r v s J L t u g x y=>?_;let⟨b,c,A⟩:=zax y;unfold allD at c;cases e:o.mapM zg9 with
 |none=>rw[e]at c;exact nS c
 |some i=>
  rw[e]at c;have c:b=i.all id:=by simpa using c.symm
  subst c;let⟨a,M,rfl,j,B⟩:=x;rw[zrl e]at j;have:=j.bls_eq;subst this;exact⟨a,i,rfl,B.seq,q _ _ (Lf.up t (Lf.of (d:=.bl _) g rfl A))⟩
end
section
variable{prog:Υ}{w:ϋ}{A:ϐ}{E:Ξ->Β->Prop}{s:Β}
noncomputable abbrev set0(b:Bool):Obj:={cls:=.type "set",dict:=Ψ,data:=.set #[] 0 (.fresh 0 0 b)}
set_option maxHeartbeats 6400000 in
def zkf(hc:A.handled=Ψ)(ht:IsTup s.heap t its)(hi:IntsAre its.toList ms)(hb:its.size+1<scanBound)(fin:∀(g:Heap)(tk:Nat),g.SetOf (intKind prog w) s.heap.objs.size (λz=>(firstMet (λi=>ms.getD i 0) its.size).any (·==z)) (firstMet (λi=>ms.getD i 0) its.size).length->
   (∀b o,b<s.heap.objs.size->s.heap.get? b=Φ o->g.get? b=Φ o)->Q (.ref s.heap.objs.size) {s with heap:=g,toks:=tk}):wpAny (model prog w) A (call (.type "set") [.ref t]) Q E s:=by
 let⟨mc,mt,hmro⟩:=F.called_set.mro;have c1:=F.called_set.made;have c2:=F.called_set.sub;refine wpAny_call (codeAny_of_tree ?_);show wpAny _ _ (callAny (.type "set") _) _ _ _;refine Ω ⟨Code.quiet_builtin _ (by decide +kernel),codeAny_builtin F.entry_type_call ?_⟩;rw[ϐ.under_plain (weight_type_call_type "set" [.ref t] []) rfl];have c3:=F.called_set.notType;have c4:=F.called_set.canCreate;have c5:=F.typeCall_set_1 (.ref t)
 repeat (any_goals (first|assumption|wp_step))
 refine Ϛ (code_set_new_1 (.ref t) (E:=E) (Q₁:=λo z=>∃led:Bool,o=.ref s.heap.objs.size/\z={s with heap:=s.heap.push (set0 led)}) λled=>⟨led,rfl,rfl⟩) λr z hr=>?_;cases r with
 |error e=>exact hr| ok fl=>
  cases fl with
  |ret o=>
   let⟨led,rfl,rfl⟩:=hr;have g0:(s.heap.push (set0 led)).get? s.heap.objs.size=Φ (set0 led):=Ζ _ rfl;have g1:Β.TypeIs {s with heap:=s.heap.push (set0 led)} (.ref s.heap.objs.size) "set":=⟨_,g0,rfl⟩;have c6:=F.called_set.init.lookup;have c7:=F.called_set.init.bind (.ref s.heap.objs.size)
   repeat (any_goals (first|assumption|wp_step))
   refine Ϛ (codeAny_call_builtin (R:=wants (λr z=>r=.none/\∃g tk,z={s with heap:=g,toks:=tk}/\
    g.SetOf (intKind prog w) s.heap.objs.size (λz=>(firstMet (λi=>ms.getD i 0) its.size).any (·==z)) (firstMet (λi=>ms.getD i 0) its.size).length/\
    (∀b o,b<s.heap.objs.size->s.heap.get? b=Φ o->g.get? b=Φ o)) E) F.called_set.init.plain F.entry_set_init (check_set_init_1 g1 ?_)) λr2 z2 hr2=>?_
   . let⟨⟨oc,od,oda,osl⟩,ho,hcl,nl,hda⟩:=id ht;simp only at hcl hda;subst hcl hda;have ho':(s.heap.push (set0 led)).get? t=Φ {cls:=.type "tuple",dict:=od,data:=.seq its nl,slots:=osl}:=Λ _ ho;have d1:=F.sub_tuple_set;have d2:=F.sub_tuple_frozenset;have d3:(Ξ.type "tuple" == Ξ.type "dict")=Δ:=by decide
     have ht1:(s.heap.push (set0 led)).IsTuple t its:=⟨_,ho',rfl,nl,rfl⟩;unfold Builtin.«set.__init__» noKeywords Builtin.Frozenset.updateFrom;generalize hPI:pyIter=PI
     wp_walk
     subst hPI;refine wpAny_pyIter_tuple ht1 ?_;refine Θ (wpAny_runValue ?_);have tl:t<s.heap.objs.size:=Η ho;have tn:t≠(s.heap.push (set0 led)).objs.size:=by rw[ώ];exact ne_of_lt (Ϟ tl)
     have sn:s.heap.objs.size∉[(s.heap.push (set0 led)).objs.size,t]:=by rw[ώ];simp![mem_cons,not_mem_nil,or_false,not_or];exact⟨ne_of_lt (ϕ _),ne_of_gt tl⟩
     refine codeAny_set_update_loopS ((Walks.tuple (by simp[hc]) _ t tn its).toS) s.heap.objs.size sn (λi=>ms.getD i 0) (λi v hv=>IntsAre.int_at hi i v (by rw[Array.getElem?_toList];exact hv)) hb (its.size-0) 0 _ (by lia) (zero_le _)
      ⟨⟨_,Ζ _ rfl,rfl,rfl⟩,⟨_,Λ _ ho',rfl,nl,rfl⟩⟩ ?start ?last
     case start=>exact SetOf_congr ((setObjOf_fresh (knd:=intKind prog w) led).setOf (Λ _ g0) (by unfold scanBound;lia)) (λ_=>rfl) rfl
     case last=>rintro⟨g,gg,dd,tk,oo⟩ mv hS;obtain rfl:gg=s.gens:=mv.gens;obtain rfl:dd=s.drawn:=mv.drawn;obtain rfl:oo=s.os:=mv.os;show wpAny _ _ _ _ _ _;refine Ω ?_;show wpAny _ _ (ret Ξ.none) _ _ _;refine Ω ⟨rfl,g,tk,rfl,hS,λb o hb e=>mv.heap b o ?_ (Λ _ (Λ _ e))⟩;rw[ώ];simp![mem_cons,not_mem_nil,or_false,not_or];exact⟨ne_of_lt hb,ne_of_lt (Ϟ hb)⟩
   cases r2 with
   |error e=>exact hr2| ok f2=>
    cases f2 with
    |ret r=>
     let⟨rfl,g,tk,rfl,hS,hk⟩:=hr2
     repeat (any_goals (first|assumption|wp_step))
     exact fin _ _ hS hk
    |_=>exact hr2.elim
  |_=>exact hr.elim
end
section
variable{T:Tab}{cf:CF}{k:Nat}{N:List Str}{sc:Scope}{X:Cx}{pos p p2 pos':Pos}
def zcY(ns):R.dedup ns=firstMet (λi=>ns.getD i 0) ns.length:=by
 unfold R.dedup firstMet;have e:(List.range ns.length).map (λi=>ns.getD i 0)=ns:=by apply List.ext_getElem?;intro i;rw[getElem?_map];by_cases h:i<ns.length;simp[h,ϊ];simp[h,List.getElem?_eq_none (Nat.le_of_not_lt h)]
 rw[e];congr 1;funext a x;unfold step_dedup;simp[List.contains_eq_any_beq]
def zmF(y:X.calm=Γ):zbt X (.type "set") (λxs H Q=>∃(a:Addr) (ns:List Int),xs=[.ref a]/\(SqL X.K H a (ns.map V.int)\/SqT X.K H a (ns.map V.int))/\ns.length<4000/\∀p,H p=Ψ->∀S,Q (.ref p) (upd H p (.set S (R.dedup ns).length))):=by
 intro f s z H xs C Q I r h;let⟨a,ns,rfl,i,E,q⟩:=h;let⟨u,rfl,A⟩:=r.one;cases(show u=Ξ.ref a from A);have fresh:=I.hok.fresh (le_refl s.heap.objs.size);have lay:∀(g:Heap)(d n:Nat)(F:Int->Bool),n=(R.dedup ns).length->g.SetOf (intKind X.prog X.w) s.heap.objs.size F n->(∀b o,b<s.heap.objs.size->s.heap.get? b=Φ o->g.get? b=Φ o)->EP X f z Q (.ref s.heap.objs.size) {s with heap:=g,toks:=d}:=by intro g d n F B j l;subst B;exact⟨.ref s.heap.objs.size,_,I.laid (o:=.set F _) (λb o e=>l b o (Η e) e) (le_refl _) j,rfl,q _ fresh F⟩
 have x:X.A.handled=Ψ:=I.ok.hd y;rcases i with i|i;let⟨c,m,v,w⟩:=I.list i;have t:c.toArray.size=ns.length:=by rw[size_toArray,<-m.length,length_map]
 refine call_set_list x v.isList (zdd m) (by rw[t];unfold scanBound;lia) λg d j l=>lay g d _ _ ?_ j l;rw[zcY,t];let⟨c,m,v,w⟩:=I.tuple i;have t:c.toArray.size=ns.length:=by rw[size_toArray,<-m.length,length_map]
 refine zkf x v (zdd m) (by rw[t];unfold scanBound;lia) λg d j l=>lay g d _ _ ?_ j l;rw[zcY,t]
def zqM:zbt X (.builtin "len") (λxs H Q=>∃p S n,xs=[.ref p]/\H p=Φ (.set S n)/\n<4096/\Q (.int n) H):=by intro a s i H xs j Q I r h;let⟨p,S,n,rfl,b,l,q⟩:=h;let⟨u,rfl,c⟩:=r.one;cases(show u=Ξ.ref p from c);let⟨o,m,t,v,d,e,e3,_,_,_,f,g⟩:=(show ObjOk X.prog X.w H s.heap p (.set S n) from I.hok p _ b);subst g;exact call_len_set d e e3 f (by lia) ⟨.int _,H,I.tok _,⟨_,rfl⟩,q⟩
def zgX(ns):(R.dedup ns).length<=ns.length:=by rw[zcY];exact firstMet_length_le _ _
def zkh(G:Gd T cf k N sc X)(m:Gl X "len"/\X.mg "len"=Ψ)(n:Gl X "set"/\X.mg "set"=Ψ)(r:PE X e (tL X.K cf cl))(b:zao e=Γ):
  PE X (.Call (.Name "len" p) [.Call (.Name "set" p2) [e] [] pos'] [] pos) (tE X.K cf (.lenset cl)):=by
 have g:=zbF (p:=p2) (pos:=pos') (zmF G.calm) n.1 n.2 zo0 (zaZ r b) (by decide) (by decide) (zam b [] X.env);refine PE.imp (zcT zqM m.1 m.2 zo1 (zaZ g rfl) (by decide) (by decide) rfl) λL H M z=>?_;let⟨O,ι,S,Q,s,t,w,q⟩:=z;change W (Out.bind _ _) _ at w;simp![zab] at w;refine tL.run s t w λu x v y U Y A B h C E=>?_;let⟨i,j,l⟩:=zax E;split at l;rename_i c;let⟨a,xs,rfl,o,I⟩:=C;have j:zaD u=Φ i:=j;rw[zfL j]at o;have:=o.ints_eq;subst this;have hd:=zgX i;refine⟨a,i,rfl,I.seq,c,λJ f F=>⟨J,F,_,rfl,zag,by lia,?_⟩⟩;exact q _ _ (Lf.up (A.trans (Ext.new f _)) (Lf.of (d:=.int _) (h.new f _) rfl l));exact l.elim
end
end R
namespace R
open PySem
@[reducible]def Rise(xs:Array Nat):Prop:=xs.toList.Pairwise (· < ·)
def zfk(h:Rise xs)(a:i<j)(b:j<xs.size):xs[i]'(by lia)<xs[j]:=by have:=List.pairwise_iff_getElem.mp h i j (by simpa using(by lia:i<xs.size)) (by simpa using b) a;simpa using this
def zf0(xs)(j)(h:Rise xs):∀(f lo a:Nat),a-lo<=f->lo<=a->a<=xs.size->(∀i (b:i<xs.size),i<lo->xs[i]<j)->(∀i (b:i<xs.size),a<=i->j<=xs[i])->
  SetTable.below.go xs j f lo a<=xs.size/\(∀i (b:i<xs.size),i<SetTable.below.go xs j f lo a->xs[i]<j)/\∀i (b:i<xs.size),SetTable.below.go xs j f lo a<=i->j<=xs[i]
 |0,lo,a,o,p,d,g,k=>by
  have:lo=a:=by lia
  subst this;exact⟨d,g,k⟩
 |f+1,lo,a,o,p,d,g,k=>by
  unfold SetTable.below.go;by_cases c:lo<a;rw[if_pos c];have n:(lo+a)/2<xs.size:=by lia
  have e:xs.getD ((lo+a)/2) j=xs[(lo+a)/2]:=by simp[Array.getD,n]
  dsimp only;rw[e];by_cases l:xs[(lo+a)/2]<j;rw[if_pos l];refine zf0 xs j h f _ _ (by lia) (by lia) d (λi b m=>?_) k;by_cases q:i=(lo+a)/2;subst q;exact l;exact lt_trans (zfk h (show i<(lo+a)/2 by lia) n) l;rw[if_neg l];refine zf0 xs j h f _ _ (by lia) (by lia) (by lia) g λi b m=>?_;by_cases q:i=(lo+a)/2;subst q;lia;have:=zfk h (show(lo+a)/2<i by lia) b;lia;rw[if_neg c];have:lo=a:=by lia
  subst this;exact⟨d,g,k⟩
def zfZ(h:Rise xs)(j):SetTable.below xs j<=xs.size/\(∀i (a:i<xs.size),i<SetTable.below xs j->xs[i]<j)/\∀i (a:i<xs.size),SetTable.below xs j<=i->j<=xs[i]:=zf0 xs j h xs.size 0 xs.size (by lia) (zero_le _) (le_refl _) (λi _ q=>by lia) (λi a q=>by lia)
def zjP(h:Rise xs)(b:i<xs.size):SetTable.below xs (xs[i]+1)=i+1:=by
 let⟨b1,b2,b3⟩:=zfZ h (xs[i]+1);have d:¬SetTable.below xs (xs[i]+1)<=i:=λc=>by have:=b3 i b c;lia
 by_cases c:i+1<SetTable.below xs (xs[i]+1);have a:i+1<xs.size:=by lia
 have e:=b2 (i+1) a c;have f:=zfk h (show i<i+1 by lia) a;lia;lia
def zjO(h:Rise xs):SetTable.below xs 0=0:=by let⟨b1,b2,b3⟩:=zfZ h 0;cases e:SetTable.below xs 0 with|zero=>rfl|succ n=>exact absurd (b2 0 (by lia) (by lia)) (Nat.not_lt_zero _)
def zhL(xs)(p)(x:a):(SetTable.insertAt xs p x).toList=xs.toList.take p++x::xs.toList.drop p:=by unfold SetTable.insertAt;simp[List.take_of_length_le]
def zhn(h:Rise xs)(l:xs[SetTable.below xs j]?≠Φ j):Rise (SetTable.insertAt xs (SetTable.below xs j) j):=by
 let⟨b1,b2,b3⟩:=zfZ h j;generalize SetTable.below xs j=p at *;unfold Rise;rw[zhL,List.pairwise_append];refine⟨h.sublist (List.take_sublist _ _),?_,?_⟩;rw[Ϣ];refine⟨λy n=>?_,h.sublist (List.drop_sublist _ _)⟩;let⟨i,c,e⟩:=List.mem_iff_getElem.mp n;rw[List.getElem_drop]at e;have d:p+i<xs.size:=by simp at c;lia
 have e:xs[p+i]=y:=by simpa using e
 have q:=b3 (p+i) d (by lia);have t:xs[p+i]≠j:=λz=>by
  cases i with
  |zero=>exact l (by rw[Array.getElem?_eq_getElem (by lia)];exact congrArg Φ z)| succ i=>
   have o:p<xs.size:=by lia
   have:=zfk h (show p<p+(i+1) by lia) d;have:=b3 p o (le_refl _);lia
 lia;intro a r b f;let⟨i,c,e⟩:=List.mem_iff_getElem.mp r;rw[List.getElem_take]at e;have d:i<xs.size:=by simp at c;lia
 have g:i<p:=by simp at c;lia
 have e:xs[i]=a:=by simpa using e
 have q:=b2 i d g;rcases mem_cons.mp f with rfl|f;lia;let⟨m,s,e2⟩:=List.mem_iff_getElem.mp f;rw[List.getElem_drop]at e2;have k:p+m<xs.size:=by simp at s;lia
 have e2:xs[p+m]=b:=by simpa using e2
 have:=b3 (p+m) k (by lia);lia
def zhP(t)(g)(h):∀(f:Nat)(p:SetTable.Probe)(j:Nat)(d:Option Nat),(∀x,p.dummy=Φ x->t.slot x=.dummy)->SetTable.probe.go t g h f p=Φ (.empty j d)->t.slot j=.empty/\∀x,d=Φ x->t.slot x=.dummy
 |0,p,j,d,k,e=>by exact nS e| f+1,p,j,d,k,e=>by
  unfold SetTable.probe.go at e;have a:∀q:SetTable.Probe,(t.advance q).dummy=q.dummy:=λq=>by unfold SetTable.advance;split<;>rfl
  cases b:t.slot p.j with|empty=>rw[b]at e;cases e;exact⟨b,k⟩| dummy=>rw[b]at e;refine zhP t g h f _ j d (λx c=>?_) e;rw[a]at c;cases c;exact b| live i=>rw[b]at e;dsimp only at e;split at e;cases e;exact zhP t g h f _ j d (λx c=>k x (by rw[a]at c;exact c)) e
def zq0{t:SetTable}(e:t.freeSlot h=Φ (a,b)):t.place[SetTable.below t.place a]?≠Φ a:=by
 unfold SetTable.freeSlot at e;split at e;rename_i j d f;let⟨g,i⟩:=zhP t _ h _ _ j d (λx c=>by exact nS c) f;cases e;have key:∀x,(t.slot x=.empty\/t.slot x=.dummy)->t.place[SetTable.below t.place x]?≠Φ x:=λx c z=>by unfold SetTable.slot at c;dsimp only at c;rw[if_pos (by simpa using z)]at c;rcases c with q|q<;>cases q
 cases d with|none=>exact key j (.inl g)|some x=>exact key x (.inr (i x rfl))
 exact nS e
def zch(n):Rise (Array.range n):=by unfold Rise;rw[Array.toList_range];exact List.pairwise_lt_range
structure TOk(b:Bool)(t:SetTable):Prop where
 led:t.led=b
 rise:Rise t.place
def ztg(h:TOk b t)(es)(x)(v):TOk b (layNew t es x v).2.1:=by unfold layNew;split;rename_i a d e;have c:TOk b (t.put a).1:=⟨h.led,zhn h.rise (zq0 e)⟩;dsimp only;unfold SetTable.orStandIn;split;exact c;exact⟨c.led,zch _⟩;exact⟨h.led,zch _⟩
def zmV(h:TOk b t)(es)(n):TOk b (relayAll t es n).2.1:=by
 unfold relayAll;split;rename_i m o e;have d:TOk b m:=by
  unfold SetTable.relaid SetTable.laid at e;cases j:SetTable.layClean (SetTable.sizeAbove n-1) (es.map (·.1)) with
  |none=>rw[j]at e;exact nS e
  |some k=>
   rw[j]at e;cases e;refine⟨h.led,?_⟩;show Pairwise _ (List.map _ _);rw[pairwise_map,List.pairwise_filterMap];refine List.pairwise_lt_range.imp λ{x y} i a f c g=>?_;cases d:k.getD x Ψ with
   |none=>rw[d]at f;exact nS f
   |some u=>
    cases l:k.getD y Ψ with
    |none=>rw[l]at g;exact nS g
    |some p=>rw[d]at f;rw[l]at g;cases f;cases g;exact i
 dsimp only;split;exact d;exact⟨h.led,zch _⟩;exact⟨h.led,zch _⟩
end R
namespace R
open PySem PySem.Spec PyProof.Rows
section
variable{prog:Υ}{w:ϋ}{A:ϐ}{E:Ξ->Β->Prop}{s:Β}
noncomputable abbrev byT(w:ϋ):Bool:=w.params.followText "set-order"
abbrev SetD(prog:Υ)(w:ϋ)(h:Heap)(a:Addr)(S:Int->Bool)(n:Nat):Prop:=∃o b c t,h.get? a=Φ o/\o.ExactSet/\o.data=.set b c t/\ElemsOf (intKind prog w) b.toList/\(∀k,S k=Γ↔∃e∈b.toList,(intKind prog w).is k e.2=Γ)/\b.size<scanBound/\t.fits b.size=Γ/\b.size=n/\TOk (!byT w) t
def SetD.congr(x:SetD prog w h a S n)(e:∀k,S k=b k)(c:n=d):SetD prog w h a b d:=by let⟨o,f,g,t,i,j,l,m,p,q,r,u,v⟩:=x;exact⟨o,f,g,t,i,j,l,m,λk=>by rw[<-e k];exact p k,q,r,u.trans c,v⟩
def SetD.at(x:SetD prog w h a S n)(k:∀o,h.get? a=Φ o->h'.get? a=Φ o):SetD prog w h' a S n:=by let⟨o,b,c,t,d,r⟩:=x;exact⟨o,b,c,t,k o d,r⟩
def zj9{h:Heap}(l:h.get? a=Φ o)(c:o.ExactSet)(hd:o.data=.set es ep t)(d:ElemsOf (intKind prog w) b.toList)(f:∀k,m k=Γ↔∃e∈b.toList,(intKind prog w).is k e.2=Γ)(g:b.size<scanBound)(i:t'.fits b.size=Γ)(n:TOk (!byT w) t'):
  (h.update a (Obj.putSet b t')).get? a=Φ {o with data:=.set b (ep+1) t'}/\SetD prog w (h.update a (Obj.putSet b t')) a m b.size:=by
 let⟨j,_⟩:=SetOf_store l c hd d f g i;exact⟨j,_,b,ep+1,t',j,c,rfl,d,f,g,i,rfl,n⟩
def zuQ(hS:SetD prog w s.heap a S n)(hr:n+1<scanBound)(q:∀h' b,Heap.SameBut a s.heap h'->SetD prog w h' a (λz=>S z||decide (z=k)) (if S k then n else n+1)->Q b {s with heap:=h'}):
  wpAny (model prog w) A (setAddHashed a (.int k tk) ((intKind prog w).hash k)) Q E s:=by
 have h:(intKind prog w).is k (.int k tk)=Γ:=intKind_is _ _ _ _;let⟨o,x,ep,t,G,p,I,l,f,hb,U,hn,ht⟩:=hS;refine ϙ (Θ (wpAny_setState_of G I U ?_));dsimp only;rw[byScan_of rfl hb l];refine Θ (Θ (wpAny_rule (Θ (wpAny_setScan_of h G I U l ?_))));cases hi:List.findIdx? (λe=>(intKind prog w).is k e.2) x.toList with
 |some j=>let⟨hj,Y,_⟩:=List.findIdx?_eq_some_iff_getElem.mp hi;have M:=(f k).mpr ⟨_,List.getElem_mem hj,Y⟩;have:=q s.heap Δ (Heap.SameBut.refl _ _) ⟨o,x,ep,t,G,p,I,l,λz=>?_,hb,U,by rw[M];exact hn,ht⟩;exact Ω (Ω this);rw[<-f z];by_cases c:z=k;subst c;simp[M];simp[c]| none=>
  have M:S k=Δ:=by cases c:S k with|false=>rfl| true=>let⟨e,J,Y⟩:=(f k).mp c;have:=List.findIdx?_eq_none_iff.mp hi e J;rw[Y]at this;cases this
  have B:=layNew_perm t x ((intKind prog w).hash k) (.int k tk);have N:=layNew_fits t x ((intKind prog w).hash k) (.int k tk);have O:=ztg ht x ((intKind prog w).hash k) (.int k tk);generalize layNew t x ((intKind prog w).hash k) (.int k tk)=L at B N O⊢;let⟨d,t1,wd,gv⟩:=L;rw[Array.toList_push]at B;have m1:=(l.push h rfl).perm B;have m2:=mem_push_iff h f B;have sz:d.size=n+1:=by rw[<-length_toList,B.length_eq,length_append,length_toList,hn];rfl
  have T:d.size<scanBound:=by rw[sz];exact hr
  have gw:∀(b:Bool){i:Β}{Q':Unit->Β->Prop},Q' () i->wpAny (model prog w) A (match b with|true=>rule "set.scan.the-table-gave-way"|false=>pure ()) Q' E i:=λb i Q' hq=>by cases b<;>first|exact Ω hq|exact wpAny_rule hq
  refine Θ (gw _ ?_);have fin:∀h' b,Heap.SameBut a s.heap h'->SetD prog w h' a (λz=>S z||decide (z=k)) d.size->Q b {s with heap:=h'}:=λh' b hs hD=>q h' b hs (by rw[M];rw[sz]at hD;exact hD);have m:∀g:SetTable,g.fits d.size=Γ->TOk (!byT w) g->wpAny (model prog w) A (do
    storeSet a d g
    if(!wd&&g.tooFull)=Γ then do
        (match (relayAll g d (SetTable.grown d.size)).2.2 with|true=>rule "set.scan.the-table-gave-way"|false=>pure ())
        storeSet a (relayAll g d (SetTable.grown d.size)).1 (relayAll g d (SetTable.grown d.size)).2.1
        pure (Φ Γ)
     else pure (Φ Γ)) (λr s'=>wpAny (model prog w) A (match r with|some u=>pure u|none=>setAddHashedIn a (.int k tk) ((intKind prog w).hash k) 99999) Q E s') E s:=by
   intro g f2 o2;let⟨k1,k2⟩:=zj9 G p I m1 m2 T f2 o2;refine Θ (wpAny_storeSet_of G I ?_ (fits_of_scanBound T));have sb:=Heap.SameBut.update s.heap a (Obj.putSet d g);split;have C:=relayAll_perm g d (SetTable.grown d.size);have r2:=relayAll_fits g d (SetTable.grown d.size);have r3:=zmV o2 d (SetTable.grown d.size);generalize relayAll g d (SetTable.grown d.size)=L2 at C r2 r3⊢;let⟨e2,t3,g2⟩:=L2;have z2:e2.size=d.size:=by rw[<-length_toList,C.length_eq,length_toList]
   refine Θ (gw _ (Θ (wpAny_storeSet_of k1 rfl ?_ (fits_of_scanBound (by rw[z2];exact T)))));let⟨_,k4⟩:=zj9 k1 p rfl (m1.perm C) (λz=>(m2 z).trans ⟨λv=>(by let⟨e,J,qq⟩:=v;exact ⟨e,C.mem_iff.mpr J,qq⟩),λy=>(by let⟨e,J,qq⟩:=y;exact ⟨e,C.mem_iff.mp J,qq⟩)⟩) (by rw[z2];exact T) r2 r3;rw[z2]at k4;exact Ω (Ω (fin _ _ (sb.trans (Heap.SameBut.update _ a _)) k4));exact Ω (Ω (fin _ _ sb k2))
  split;refine Θ ?_;exact Ω (m _ N O);exact Θ (Ω (m _ N O))
end
end R
section
set_option maxHeartbeats 8000000
namespace R
open PySem PySem.Spec PyProof.Rows
section
variable{prog:Υ}{w:ϋ}{A:ϐ}{R:Result->Β->Prop}{I:Addr}{fp wr:List Addr}{G:Array GenState->Array GenState->Prop}{n:Nat}{P:Nat->Ξ->Prop}{St:Nat->Β->Prop}
def zta(W:WalksS prog w A.in1 I fp wr G n P St)(a)(u:a∉fp)(c)(C:∀i v,P i v->∃t,v=.int (c i) t)(f:n+1<scanBound):
  ∀(m i:Nat)(s:Β),n-i=m->i<=n->St i s->SetD prog w s.heap a (λz=>(firstMet c i).any (·==z)) (firstMet c i).length->
   (∀s',Moved (a::wr) G s s'->SetD prog w s'.heap a (λz=>(firstMet c n).any (·==z)) (firstMet c n).length->R (.ok (.ret .none)) s')->
   codeAny (model prog w) A (.builtin "set.update.loop" ⟨[.ref a,.ref I],[]⟩) R s:=by
 have x:a∉wr:=λz=>u (W.sub _ z);have y:∀b∈wr,b∈a::wr:=λb z=>Κ _ z;intro m;induction m with
 |zero=>
  intro i s E J st g fin;obtain rfl:i=n:=by lia
  refine codeAny_builtin F.entry_set_update_loop ?_;refine Θ (W.done s _ _ st λs' d=>?_);exact Ω (fin s' (d.mono y) (g.at λo e=>d.heap a o x e))
 |succ m L=>
  intro i s E J st g fin;refine codeAny_builtin F.entry_set_update_loop ?_;refine Θ (W.item i s _ _ (by lia) st λv s' M h d=>?_);let⟨t,rfl⟩:=C i v M;have j:=g.at λo e=>d.heap a o x e;refine Θ (ϙ ?_);refine ϙ (Θ ((intKind prog w).pyHash (intKind_is _ _ _ _) ?_));have room:(firstMet c i).length+1<scanBound:=by have:=firstMet_length_le c i;lia
  refine zuQ j room λh' b B l=>?_;have p:SetD prog w h' a (λz=>(firstMet c (i+1)).any (·==z)) (firstMet c (i+1)).length:=l.congr (λz=>by rw[firstMet_succ,step_any]) (by rw[firstMet_succ,step_length]);refine Ω ⟨plainId_quiet F.plain_set_update_loop _,L (i+1) _ (by lia) (by lia) (W.frame _ s' _ _ h (le_succ _) λb f o e=>?_) p λN q r=>?_⟩;rw[B.2 b λz:b=a=>u (z▸f)];exact e;refine fin N (Moved.trans W.gtrans ((d.mono y).then_heap (le_succ _) λb o f e=>?_) q) r;rw[B.2 b λz:b=a=>f (by rw[z];exact Μ)];exact e
end
section
variable{prog:Υ}{w:ϋ}{A:ϐ}{E:Ξ->Β->Prop}{s:Β}
noncomputable abbrev sD0(b:Bool):Obj:={cls:=.type "set",dict:=Ψ,data:=.set #[] 0 (.fresh 0 0 b)}
def zuq(a)(h:Q₁ (.ref s.heap.objs.size) {s with heap:=s.heap.push (sD0 (!byT w))}):codeAny (model prog w) A (.call (.builtin "set.__new__") ⟨[.type "set",a],[]⟩) (wants Q₁ E) s:=by
 refine codeAny_of_tree ?_;refine Θ (wpAny_of_eq (F.newCall_set_1 a) (Ω ⟨plainId_quiet F.plain_set_new _,codeAny_builtin F.entry_set_new ?_⟩));unfold Builtin.«set.__new__» Builtin.Frozenset.newClass;have q:=sub_set_self;dsimp only
 wp_walk
 refine wpAny_askSetting (Ω ?_);exact Θ (wpAny_alloc (Ω (Ω h)))
def zkg(hc:A.handled=Ψ)(hl:s.heap.IsList l its)(hi:IntsAre its.toList ms)(hb:its.size+1<scanBound)(fin:∀(g:Heap)(tk:Nat),SetD prog w g s.heap.objs.size (λz=>(firstMet (λi=>ms.getD i 0) its.size).any (·==z)) (firstMet (λi=>ms.getD i 0) its.size).length->
   (∀b o,b<s.heap.objs.size->s.heap.get? b=Φ o->g.get? b=Φ o)->Q (.ref s.heap.objs.size) {s with heap:=g,toks:=tk}):wpAny (model prog w) A (call (.type "set") [.ref l]) Q E s:=by
 let⟨mc,mt,hmro⟩:=F.called_set.mro;have c1:=F.called_set.made;have c2:=F.called_set.sub;refine wpAny_call (codeAny_of_tree ?_);show wpAny _ _ (callAny (.type "set") _) _ _ _;refine Ω ⟨Code.quiet_builtin _ (by decide +kernel),codeAny_builtin F.entry_type_call ?_⟩;rw[ϐ.under_plain (weight_type_call_type "set" [.ref l] []) rfl];have c3:=F.called_set.notType;have c4:=F.called_set.canCreate;have c5:=F.typeCall_set_1 (.ref l)
 repeat (any_goals (first|assumption|wp_step))
 refine Ϛ (zuq (.ref l) (E:=E) (Q₁:=λo z=>o=.ref s.heap.objs.size/\z={s with heap:=s.heap.push (sD0 (!byT w))}) ⟨rfl,rfl⟩) λr z hr=>?_;cases r with
 |error e=>exact hr| ok fl=>
  cases fl with
  |ret o=>
   let⟨rfl,rfl⟩:=hr;have g0:(s.heap.push (sD0 (!byT w))).get? s.heap.objs.size=Φ (sD0 (!byT w)):=Ζ _ rfl;have g1:Β.TypeIs {s with heap:=s.heap.push (sD0 (!byT w))} (.ref s.heap.objs.size) "set":=⟨_,g0,rfl⟩;have c6:=F.called_set.init.lookup;have c7:=F.called_set.init.bind (.ref s.heap.objs.size)
   repeat (any_goals (first|assumption|wp_step))
   refine Ϛ (codeAny_call_builtin (R:=wants (λr z=>r=.none/\∃g tk,z={s with heap:=g,toks:=tk}/\
    SetD prog w g s.heap.objs.size (λz=>(firstMet (λi=>ms.getD i 0) its.size).any (·==z)) (firstMet (λi=>ms.getD i 0) its.size).length/\
    (∀b o,b<s.heap.objs.size->s.heap.get? b=Φ o->g.get? b=Φ o)) E) F.called_set.init.plain F.entry_set_init (check_set_init_1 g1 ?_)) λr2 z2 hr2=>?_
   . let⟨⟨oc,od,oda,osl⟩,ho,hcl,nl,hda⟩:=id hl;simp only at hcl hda;subst hcl hda;have ho':(s.heap.push (sD0 (!byT w))).get? l=Φ {cls:=.type "list",dict:=od,data:=.seq its nl,slots:=osl}:=Λ _ ho;have d1:=F.sub_list_set;have d2:=F.sub_list_frozenset;have d3:(Ξ.type "list" == Ξ.type "dict")=Δ:=by decide
     have ht1:(s.heap.push (sD0 (!byT w))).IsList l its:=⟨_,ho',rfl,nl,rfl⟩;unfold Builtin.«set.__init__» noKeywords Builtin.Frozenset.updateFrom;generalize hPI:pyIter=PI
     wp_walk
     subst hPI;refine wpAny_pyIter_list ht1 ?_;refine Θ (wpAny_runValue ?_);have tl:l<s.heap.objs.size:=Η ho;have tn:l≠(s.heap.push (sD0 (!byT w))).objs.size:=by rw[ώ];exact ne_of_lt (Ϟ tl)
     have sn:s.heap.objs.size∉[(s.heap.push (sD0 (!byT w))).objs.size,l]:=by rw[ώ];simp![mem_cons,not_mem_nil,or_false,not_or];exact⟨ne_of_lt (ϕ _),ne_of_gt tl⟩
     refine zta ((Walks.list (by simp[hc]) _ l tn its).toS) s.heap.objs.size sn (λi=>ms.getD i 0) (λi v hv=>IntsAre.int_at hi i v (by rw[Array.getElem?_toList];exact hv)) hb (its.size-0) 0 _ (by lia) (zero_le _)
      ⟨⟨_,Ζ _ rfl,rfl,rfl⟩,ht1.push _⟩ ?start ?last
     case start=>exact⟨_,#[],0,_,Λ _ g0,⟨rfl,rfl,rfl⟩,rfl,λe he=>by simp at he,λk=>by simp[firstMet],by decide,by rfl,rfl,rfl,Pairwise.nil⟩
     case last=>rintro⟨g,gg,dd,tk,oo⟩ mv hS;obtain rfl:gg=s.gens:=mv.gens;obtain rfl:dd=s.drawn:=mv.drawn;obtain rfl:oo=s.os:=mv.os;show wpAny _ _ _ _ _ _;refine Ω ?_;show wpAny _ _ (ret Ξ.none) _ _ _;refine Ω ⟨rfl,g,tk,rfl,hS,λb o hb e=>mv.heap b o ?_ (Λ _ (Λ _ e))⟩;rw[ώ];simp![mem_cons,not_mem_nil,or_false,not_or];exact⟨ne_of_lt hb,ne_of_lt (Ϟ hb)⟩
   cases r2 with
   |error e=>exact hr2| ok f2=>
    cases f2 with
    |ret r=>
     let⟨rfl,g,tk,rfl,hS,hk⟩:=hr2
     repeat (any_goals (first|assumption|wp_step))
     exact fin _ _ hS hk
    |_=>exact hr2.elim
  |_=>exact hr.elim
end
end R
end
namespace R
open PySem PySem.Spec PyProof.Rows
def zgT:entryFor table "set.__iter__"=Φ Builtin.«frozenset.__iter__»:=entryFor_alias (id':="frozenset.__iter__") (by kernel_rfl) rfl (by decide +kernel) (by kernel_rfl)
def slot_sit_next:Slot "set_iterator" "__next__" "set_iterator.__next__":=.of (owner:="set_iterator") (n:="__next__") (by rw[typeLookup_type,builtinLookup_eq_fast];kernel_rfl) (by decide +kernel) (by decide +kernel) (by decide +kernel) (by first|exact .inl (by decide +kernel)|exact .inr (by decide +kernel)) (by rw[isSubtype_type];kernel_rfl)
def zca:entryFor table "set_iterator.__next__"=Φ Builtin.«set_iterator.__next__»:=entryFor_of_fast (by kernel_rfl)
def zbR(a):argsOk "set_iterator.__next__" ⟨[a],[]⟩:=by kernel_rfl
def zaM:Slot "set_iterator" "__iter__" "set_iterator.__iter__":=.of (owner:="set_iterator") (n:="__iter__") (by rw[typeLookup_type,builtinLookup_eq_fast];kernel_rfl) (by decide +kernel) (by decide +kernel) (by decide +kernel) (by first|exact .inl (by decide +kernel)|exact .inr (by decide +kernel)) (by rw[isSubtype_type];kernel_rfl)
def zcb:entryFor table "set_iterator.__iter__"=Φ Builtin.«dict_keyiterator.__iter__»:=entryFor_alias (id':="dict_keyiterator.__iter__") (by kernel_rfl) rfl (by decide +kernel) (by kernel_rfl)
def zbS(a):argsOk "set_iterator.__iter__" ⟨[a],[]⟩:=by unfold argsOk;kernel_rfl
section
variable{prog:Υ}{w:ϋ}{A:ϐ}{E:Ξ->Β->Prop}{s:Β}{a j:Addr}{o:Obj}{es:Array (Int×Ξ)}{ep:Nat}{t:SetTable}
def zjI(c:n≠0)(h:∀i d',i<n->wpAny M A (k i) Q E {s with drawn:=d'}):wpAny M A (.choose src n k) Q E s:=λd p b=>by rw[Sem.wp_choose];exact⟨c,h _ _ (Nat.mod_lt _ (Nat.pos_of_ne_zero c)) d p b⟩
def zdf{b:Type}:∀(l:List b)(j:Nat)(h:j<l.length),(l[j]::l.eraseIdx j).Perm l
 |x::l,0,h=>List.Perm.refl _| x::l,j+1,h=>by
  have c:j<l.length:=by simpa using h
  have d:=zdf l j c;show(l[j]::x::l.eraseIdx j).Perm (x::l);exact(List.Perm.swap _ _ _).trans (d.cons x)
def ziP:∀(n:Nat)(xs:List d){s:Β}{Q:List d->Β->Prop},xs.length=n->(∀ys d',ys.Perm xs->Q ys {s with drawn:=d'})->wpAny (model prog w) A (drawOrder n xs) Q E s
 |0,xs,s,Q,b,h=>by cases List.length_eq_zero_iff.mp b;exact Ω (h [] s.drawn (List.Perm.refl _))|n+1,[],s,Q,b,h=>by cases b| n+1,x::xs,s,Q,b,h=>by unfold drawOrder;refine Θ (zjI (by simp) λi d' c=>Ω ?_);rw[Ι c];dsimp only;refine Θ (ziP n _ (by rw[List.length_eraseIdx_of_lt c];simp at b⊢;exact b) λys e f=>Ω (h _ e ?_));exact(f.cons _).trans (zdf _ _ c)
def zkV(f):∀(n k:Nat)(left:List d)(out:Array d),left.length=n->(pickOrder.go f n k left out).toList.Perm (out.toList++left)
 |0,k,left,out,c=>by cases List.length_eq_zero_iff.mp c;unfold pickOrder.go;rw[ϡ]| n+1,k,left,out,c=>by unfold pickOrder.go;have b:f k%left.length<left.length:=Nat.mod_lt _ (by lia);rw[Ι b];dsimp only;refine(zkV f n (k+1) _ _ (by rw[List.length_eraseIdx_of_lt b];lia)).trans ?_;rw[Array.toList_push,append_assoc];exact List.Perm.append_left _ (zdf _ _ b)
def zkU(f)(xs:Array b):(pickOrder f xs).toList.Perm xs.toList:=by have:=zkV f xs.size 0 xs.toList #[] (by simp);simpa[pickOrder]using this
abbrev SIt(h:Heap)(j a:Addr)(f:Ξ)(i n ep:Nat):Prop:=h.get? j=Φ {cls:=.type "set_iterator",dict:=Ψ,data:=.fields #[f,rawInt i,.ref a,rawInt n,rawInt ep],slots:=#[]}
def zic{f f' i:Nat}(b:SIt s.heap j a (rawInt f) i es.size ep)(e:s.heap.get? a=Φ o)(hd:o.data=.set es ep t)(g:t.fits es.size=Γ)(h:∀(A:ϐ)(E:Ξ->Β->Prop)(c:Option (Ξ×Nat)->Β->Prop),c (Φ (x,f')) s->wpAny (model prog w) A (setNext a f i ep) c E s)(q:∀h',SIt h' j a (rawInt f') (i+1) es.size ep->Heap.SameBut j s.heap h'->Q (Φ x) {s with heap:=h'}):wpAny (model prog w) A (pyNext (.ref j)) Q E s:=by
 have d:s.TypeIs (.ref j) "set_iterator":=⟨_,b,rfl⟩;unfold pyNext;refine Θ (wpAny_attempt (wpAny_callSpecial?_slot (name:=Str.ofString "__next__") d slot_sit_next (ϒ slot_sit_next d zca ?_ (zbR _))));unfold Builtin.«set_iterator.__next__»;refine Θ (m:=slotArgs "__next__" 0 _) (Ω ?_);refine Θ (wpAny_fieldsOf b rfl ?_);show wpAny _ _ (setEntries a>>=_) _ _ s;refine Θ (wpAny_setEntries_of e hd g ?_);rw[if_neg (by simp)];refine Θ (h _ _ _ ?_);refine Θ (wpAny_setField_rec b (by simp) λk l n=>?_);refine Θ (wpAny_setField_rec (s:={s with heap:=k}) l (by simp) λp r u=>?_);exact Ω ⟨_,rfl,Ω (q p r (n.trans u))⟩
def zke(g:A.handled=Ψ)(h:SIt s.heap j a f i es.size ep)(r:s.heap.get? a=Φ o)(hd:o.data=.set es ep t)(u:t.fits es.size=Γ)(l:∀(A:ϐ)(E:Ξ->Β->Prop)(m:Fin->Β->Prop),A.handled=Ψ->(∀h' e,Heap.ExtBut j s.heap h'->(∃c,h'.get? e=Φ c/\c.cls=.type "StopIteration")->E (.ref e) {s with heap:=h'})->wpAny (model prog w) A (Builtin.«set_iterator.__next__» ⟨[.ref j],[]⟩) m E s)(q:∀h',Heap.ExtBut j s.heap h'->Q Ψ {s with heap:=h'}):wpAny (model prog w) A (pyNext (.ref j)) Q E s:=by
 have d:s.TypeIs (.ref j) "set_iterator":=⟨_,h,rfl⟩;unfold pyNext;refine Θ (wpAny_attempt (wpAny_callSpecial?_slot (name:=Str.ofString "__next__") d slot_sit_next (ϒ slot_sit_next d zca ?_ (zbR _))));refine l _ _ _ g λh' e k z=>?_;let⟨c,n,p⟩:=z;refine Θ (wpAny_isInstance (b:=Γ) (T:="StopIteration") ⟨c,n,p⟩ isSubtype_stop ?_);exact Ω (q h' k)
def zeI(d:A.handled=Ψ)(f:Heap.ExtBut j s.heap s'.heap)(b:s'={s with heap:=s'.heap})(h:∀h' e,Heap.ExtBut j s.heap h'->(∃c,h'.get? e=Φ c/\c.cls=.type "StopIteration")->E (.ref e) {s with heap:=h'}):
  wpAny (model prog w) A (do raiseNew (<-newExc (.type "StopIteration") []):Sem Fin) g E s':=by
 rw[b];refine Θ ?_;simp![newExc,newTuple];refine Θ (ϔ ?_ (by size_fits));refine Θ (m:=firstArgMember _ _) (wpAny_of_eq (a:=Ξ.none) (by first|rfl|(simp![firstArgMember];rfl)) (ϔ ?_ (by size_fits)));simp![raiseNew];refine Θ (wpAny_handled ?_);rw[d];exact Θ (Ω (wpAny_throw (h _ _ ((f.push _).push _) ⟨_,Ζ _ rfl,rfl⟩)))
def zid{f i:Nat}(g:A.handled=Ψ)(b:SIt s.heap j a (rawInt f) i es.size ep)(d:s.heap.get? a=Φ o)(hd:o.data=.set es ep t)(e:t.fits es.size=Γ)(h:∀(A:ϐ)(E:Ξ->Β->Prop)(c:Option (Ξ×Nat)->Β->Prop),c Ψ s->wpAny (model prog w) A (setNext a f i ep) c E s)(q:∀h',Heap.ExtBut j s.heap h'->Q Ψ {s with heap:=h'}):wpAny (model prog w) A (pyNext (.ref j)) Q E s:=by
 refine zke g b d hd e (λA E c k l=>?_) q;unfold Builtin.«set_iterator.__next__»;refine Θ (m:=slotArgs "__next__" 0 _) (Ω ?_);refine Θ (wpAny_fieldsOf b rfl ?_);show wpAny _ _ (setEntries a>>=_) _ _ s;refine Θ (wpAny_setEntries_of d hd e ?_);rw[if_neg (by simp)];refine Θ (h _ _ _ ?_);refine Θ (wpAny_setField_rec b (by simp) λn r p=>?_);exact zeI (s:=s) (s':={s with heap:=n}) k p.extBut rfl l
abbrev PTg(h:Heap)(b:Addr)(ps:List Nat):Prop:=h.get? b=Φ {cls:=.type "tuple",data:=.seq (ps.map λ(p:Nat)=>rawInt p).toArray}
def zkd(b:SIt s.heap j a (.ref d) i es.size ep)(e:s.heap.get? a=Φ o)(hd:o.data=.set es ep t)(f:t.fits es.size=Γ)(h:PTg s.heap d ps)(k:ps[i]?=Φ p)(l:es[p]?=Φ (hs,x))(q:∀h',SIt h' j a (.ref d) (i+1) es.size ep->Heap.SameBut j s.heap h'->Q (Φ x) {s with heap:=h'}):wpAny (model prog w) A (pyNext (.ref j)) Q E s:=by
 have g:s.TypeIs (.ref j) "set_iterator":=⟨_,b,rfl⟩;unfold pyNext;refine Θ (wpAny_attempt (wpAny_callSpecial?_slot (name:=Str.ofString "__next__") g slot_sit_next (ϒ slot_sit_next g zca ?_ (zbR _))));unfold Builtin.«set_iterator.__next__»;refine Θ (m:=slotArgs "__next__" 0 _) (Ω ?_);refine Θ (wpAny_fieldsOf b rfl ?_);show wpAny _ _ (setEntries a>>=_) _ _ s;refine Θ (wpAny_setEntries_of e hd f ?_);rw[if_neg (by simp)];refine Θ (wpAny_seqItems h rfl ?_);have n:(ps.map λ(p:Nat)=>rawInt p).toArray[i]?=Φ (rawInt p):=by simp[k]
 show wpAny _ _ (match (ps.map λ(p:Nat)=>rawInt p).toArray[i]? with|some (.int c _)=>_|some _=>_|none=>_) _ _ s;rw[n];show wpAny _ _ (setNextDrawn a p ep>>=_) _ _ s;unfold setNextDrawn;refine Θ (Θ (wpAny_setState_of e hd f ?_));dsimp only;rw[if_neg (by simp),l];refine Ω ?_;refine Θ (wpAny_setField_rec b (by simp) λr u v=>?_);exact Ω ⟨_,rfl,Ω (q r u v)⟩
def zmD(f:A.handled=Ψ)(b:SIt s.heap j a (.ref g) i es.size ep)(d:s.heap.get? a=Φ o)(hd:o.data=.set es ep t)(e:t.fits es.size=Γ)(h:PTg s.heap g ps)(k:ps.length<=i)(q:∀h',Heap.ExtBut j s.heap h'->Q Ψ {s with heap:=h'}):wpAny (model prog w) A (pyNext (.ref j)) Q E s:=by
 refine zke f b d hd e (λA E B l n=>?_) q;unfold Builtin.«set_iterator.__next__»;refine Θ (m:=slotArgs "__next__" 0 _) (Ω ?_);refine Θ (wpAny_fieldsOf b rfl ?_);show wpAny _ _ (setEntries a>>=_) _ _ s;refine Θ (wpAny_setEntries_of d hd e ?_);rw[if_neg (by simp)];refine Θ (wpAny_seqItems h rfl ?_);have r:(ps.map λ(p:Nat)=>rawInt p).toArray[i]?=Ψ:=by simp;exact k
 show wpAny _ _ (match (ps.map λ(p:Nat)=>rawInt p).toArray[i]? with|some (.int c _)=>_|some _=>_|none=>_) _ _ s;rw[r];refine Θ (wpAny_setField_rec b (by simp) λu v x=>?_);refine Θ (wpAny_setField_rec (s:={s with heap:=u}) v (by simp) λy C z=>?_);exact zeI (s:=s) (s':={s with heap:=y}) l (x.trans z).extBut rfl n
def zoH(b:byT w=Γ)(c:s.heap.get? a=Φ o)(hd:o.data=.set es ep t)(d:t.fits es.size=Γ)(q:Q ((pickOrder (w.params.setOrder a ep) es)[i]?.map λe=>(e.2,f)) s):wpAny (model prog w) A (setNext a f i ep) Q E s:=by
 unfold setNext;refine Θ (wpAny_setState_of c hd d ?_);dsimp only;unfold setsByText;refine Θ (Θ (wpAny_askSetting (Ω ?_)));rw[if_pos (show(model prog w).w.params.followText "set-order"=Γ from b)];rw[if_neg (by simp)];unfold setWalk;refine Θ (Θ (wpAny_setState_of c hd d ?_));dsimp only;unfold setsByText;refine Θ (Θ (wpAny_askSetting (Ω ?_)));rw[if_pos (show(model prog w).w.params.followText "set-order"=Γ from b)];exact Θ (wpAny_askSetting (Ω (Ω q)))
def zoI(b:byT w=Δ)(c:s.heap.get? a=Φ o)(hd:o.data=.set es ep t)(d:t.fits es.size=Γ)(e:t.led=Γ)(g:(!t.plain&&decide (es.size>1))=Δ)(q:Q (match es[SetTable.below t.place f]?,t.place[SetTable.below t.place f]? with|some (_,x),Φ j=>Φ (x,j+1)|_,_=>Ψ) s):wpAny (model prog w) A (setNext a f i ep) Q E s:=by
 unfold setNext;refine Θ (wpAny_setState_of c hd d ?_);dsimp only;unfold setsByText;refine Θ (Θ (wpAny_askSetting (Ω ?_)));rw[if_neg (show ¬(model prog w).w.params.followText "set-order"=Γ by rw[show(model prog w).w.params.followText "set-order"=byT w from rfl,b];decide)];show wpAny _ _ (if(!t.plain&&decide (es.size>1))=Γ then _ else _) _ _ s;rw[if_neg (by rw[g];decide)];show wpAny _ _ ((if(!t.led&&!es.isEmpty)=Γ then unsupported "set:maker-not-led" else pure ())>>=_) _ _ s;rw[if_neg (by rw[e];simp)];exact Θ (Ω (Ω q))
@[reducible]def YP(b:List Ξ):Nat->Ξ->Prop:=λi v=>b[i]?=Φ v
def zrv(v:A.handled=Ψ)(m:a≠j)(c:byT w=Γ)(hd:o.data=.set es ep t)(l:t.fits es.size=Γ) :
  Walks prog w A j [j,a] [j] ((pickOrder (w.params.setOrder a ep) es).toList.map (·.2)).length (YP ((pickOrder (w.params.setOrder a ep) es).toList.map (·.2))) (λi h=>SIt h j a (rawInt 0) i es.size ep/\h.get? a=Φ o) where
 sub:=λb c=>by simp at c;simp[c]
 frame:=λ_ _ _ st r=>⟨r j (by simp) _ st.1,r a (by simp) _ st.2⟩
 item:=λi s Q E y st f=>by
  have d:i<(pickOrder (w.params.setOrder a ep) es).size:=by simpa using y
  refine zic (x:=(pickOrder (w.params.setOrder a ep) es)[i].2) (f':=0) st.1 st.2 hd l (λA E B q=>zoH c st.2 hd l (by rw[Array.getElem?_eq_getElem d];exact q)) λn g u=>?_;exact f _ n s.toks (by simp[YP,d]) ⟨g,u.extBut a _ m st.2⟩ λb o c e=>u.extBut b o (λz=>c (by simp[z])) e
 done:=λs Q E st f=>by
  have d:(pickOrder (w.params.setOrder a ep) es).size<=((pickOrder (w.params.setOrder a ep) es).toList.map (·.2)).length:=by simp
  exact zid v st.1 st.2 hd l (λA E B q=>zoH c st.2 hd l (by rw[Array.getElem?_eq_none d];exact q)) λn k=>f n s.toks λb o c e=>k b o (λz=>c (by simp[z])) e
 self:=λi s Q E st f=>by have p:s.TypeIs (.ref j) "set_iterator":=⟨_,st.1,rfl⟩;refine wpAny_pyIter_slot p zaM (ϒ zaM p zcb ?_ (zbS _));show wpAny _ _ (ret (.ref j)) _ _ s;exact Ω ⟨_,rfl,"set_iterator",_,p,slot_sit_next.lookup,f⟩
abbrev zib(t:SetTable):Nat->Nat
 |0=>0|i+1=>t.place.getD i 0+1
def zeK(h:Rise t.place)(c:i<=t.place.size):SetTable.below t.place (zib t i)=i:=by
 cases i with
 |zero=>exact zjO h| succ i=>
  have b:i<t.place.size:=by lia
  show SetTable.below t.place (t.place.getD i 0+1)=_;rw[show t.place.getD i 0=t.place[i] by simp[b]];exact zjP h b
def zrw(G:A.handled=Ψ)(n:a≠j)(c:byT w=Δ)(hd:o.data=.set es ep t)(d:t.fits es.size=Γ)(m:TOk (!byT w) t)(y:(!t.plain&&decide (es.size>1))=Δ) :
  Walks prog w A j [j,a] [j] (es.toList.map (·.2)).length (YP (es.toList.map (·.2))) (λi h=>i<=es.size/\SIt h j a (rawInt (zib t i)) i es.size ep/\h.get? a=Φ o) where
 sub:=λb c=>by simp at c;simp[c]
 frame:=λ_ _ _ st B=>⟨st.1,B j (by simp) _ st.2.1,B a (by simp) _ st.2.2⟩
 item:=λi s Q E I st l=>by
  have f:i<es.size:=by simpa using I
  have J:t.place.size=es.size:=by simp![SetTable.fits,Ε,beq_iff_eq]at d;exact d.1
  have p:t.led=Γ:=by rw[m.led,c];rfl
  have r:t.place[i]?=Φ t.place[i]:=Array.getElem?_eq_getElem (by omega);refine zic (x:=es[i].2) (f':=zib t (i+1)) st.2.1 st.2.2 hd d (λA E L q=>zoI c st.2.2 hd d p y ?_) λu g C=>?_;rw[zeK m.rise (by omega),Array.getElem?_eq_getElem f,r];have:zib t (i+1)=t.place[i]+1:=by show t.place.getD i 0+1=_;simp[show i<t.place.size by omega]
  rw[this]at q;exact q;exact l _ u s.toks (by simp[YP,f]) ⟨f,g,C.extBut a _ n st.2.2⟩ λb o c e=>C.extBut b o (λz=>c (by simp[z])) e
 done:=λs Q E st l=>by
  have J:t.place.size=es.size:=by simp![SetTable.fits,Ε,beq_iff_eq]at d;exact d.1
  have p:t.led=Γ:=by rw[m.led,c];rfl
  have M:(es.toList.map (·.2)).length=es.size:=by simp
  rw[M]at st;refine zid G st.2.1 st.2.2 hd d (λA E L q=>zoI c st.2.2 hd d p y ?_) λu k=>l u s.toks λb o c e=>k b o (λz=>c (by simp[z])) e;rw[zeK m.rise (by omega),Array.getElem?_eq_none (le_refl _)];exact q
 self:=λi s Q E st l=>by have v:s.TypeIs (.ref j) "set_iterator":=⟨_,st.2.1,rfl⟩;refine wpAny_pyIter_slot v zaM (ϒ zaM v zcb ?_ (zbS _));exact Ω ⟨_,rfl,"set_iterator",_,v,slot_sit_next.lookup,l⟩
abbrev zhz(es:Array (Int×Ξ))(ps:List Nat):List Ξ:=ps.map λp=>(es.getD p (0,.none)).2
def zrx{d:Addr}{ps:List Nat}(C:A.handled=Ψ)(n:a≠j)(q:d≠j)(hd:o.data=.set es ep t)(B:t.fits es.size=Γ)(G:∀p∈ps,p<es.size) :
  Walks prog w A j [j,a,d] [j] (zhz es ps).length (YP (zhz es ps)) (λi h=>SIt h j a (.ref d) i es.size ep/\h.get? a=Φ o/\PTg h d ps) where
 sub:=λb f=>by simp at f;simp[f]
 frame:=λ_ _ _ st r=>⟨r j (by simp) _ st.1,r a (by simp) _ st.2.1,r d (by simp) _ st.2.2⟩
 item:=λi s Q E I st l=>by
  have c:i<ps.length:=by simpa[zhz]using I
  have m:=G _ (List.getElem_mem c);refine zkd st.1 st.2.1 hd B st.2.2 (Ι c) (Array.getElem?_eq_getElem m) λu g v=>?_;exact l _ u s.toks (by simp[YP,zhz,c,m]) ⟨g,v.extBut a _ n st.2.1,v.extBut d _ q st.2.2⟩ λb o f e=>v.extBut b o (λz=>f (by simp[z])) e
 done:=λs Q E st l=>zmD C st.1 st.2.1 hd B st.2.2 (by simp[zhz]) λu k=>l u s.toks λb o f e=>k b o (λz=>f (by simp[z])) e
 self:=λi s Q E st l=>by have y:s.TypeIs (.ref j) "set_iterator":=⟨_,st.1,rfl⟩;refine wpAny_pyIter_slot y zaM (ϒ zaM y zcb ?_ (zbS _));exact Ω ⟨_,rfl,"set_iterator",_,y,slot_sit_next.lookup,l⟩
def znb(es)(h:ps.Perm (List.range es.size)):(zhz es ps).Perm (es.toList.map (·.2)):=by refine(h.map _).trans (List.Perm.of_eq ?_);apply List.ext_getElem?;intro i;by_cases c:i<es.size;simp[c];simp[c]
end
section
variable{prog:Υ}{w:ϋ}{A:ϐ}{E:Ξ->Β->Prop}{s:Β}{a:Addr}{o:Obj}{es:Array (Int×Ξ)}{ep:Nat}{t:SetTable}
structure Got(prog:Υ)(w:ϋ)(h0 h':Heap)(a:Addr)(vals:List Ξ)(I:Addr)(fp:List Addr)(St:Nat->Heap->Prop):Prop where
 wk:∀A:ϐ,A.handled=Ψ->Walks prog w A I fp [I] vals.length (YP vals) St
 st:St 0 h'
 old:∀b o,h0.get? b=Φ o->h'.get? b=Φ o
 new:h0.objs.size<=I
 lt:I<h'.objs.size
 fp:∀b∈fp,b=a\/(h0.objs.size<=b/\b<h'.objs.size)
def zmE(r:s.heap.get? a=Φ o)(C:o.ExactSet)(hd:o.data=.set es ep t)(u:t.fits es.size=Γ)(U:TOk (!byT w) t)(hz:es.size<scanBound)(q:∀(h':Heap)(d':Drawn)(I:Addr)(x:List Addr)(St:Nat->Heap->Prop)(c:List Ξ),c.Perm (es.toList.map (·.2))->Got prog w s.heap h' a c I x St->Q (.ref I) {s with heap:=h',drawn:=d'}):
  wpAny (model prog w) A (pyIter (.ref a)) Q E s:=by
 have N:s.TypeIs (.ref a) "set":=⟨_,r,C.1⟩;have G:=Η r;refine wpAny_pyIter_slot N F.slot_set_iter (ϒ F.slot_set_iter N zgT ?_ (F.args_set_iter_1 _));refine Θ (Ω ?_);refine Θ (Θ (wpAny_setEntries_of r hd u (Ω ?_)));refine Θ (Θ (wpAny_setState_of r hd u ?_));refine Θ (Θ (wpAny_askSetting (Ω (Ω ?_))));show wpAny _ _ (if(!byT w&&(!t.plain&&decide (es.size>1)))=Γ then _ else _) _ _ s;have mk:∀(k:Heap)(d':Drawn)(l:Ξ),(∀b o,s.heap.get? b=Φ o->k.get? b=Φ o)->s.heap.objs.size<=k.objs.size->
   (∀h',h'.objs.size=k.objs.size+1->(∀b o,k.get? b=Φ o->h'.get? b=Φ o)->SIt h' k.objs.size a l 0 es.size ep->∃x St c,c.Perm (es.toList.map (·.2))/\Got prog w s.heap h' a c k.objs.size x St)->
   wpAny (model prog w) A.in1 (do ret (<-newFields "set_iterator" [l,rawInt 0,.ref a,rawInt es.size,rawInt (<-setEpoch a)])) (λfin O=>∃v,fin=.done (.ret v)/\∃T id,O.TypeIs v T/\typeLookup (.type T) "__next__"=pure (Φ id)/\Q v O) E {s with heap:=k,drawn:=d'}:=by
  intro k d' l j Y J;refine Θ (wpAny_setEpoch_of (j _ _ r) hd u ?_);refine Θ (ϔ (Ω ⟨_,rfl,"set_iterator",_,⟨_,Ζ _ rfl,rfl⟩,slot_sit_next.lookup,?_⟩));let⟨x,St,c,n,J⟩:=J (k.push {cls:=.type "set_iterator",data:=.fields #[l,rawInt 0,.ref a,rawInt es.size,rawInt ep]}) (ώ ..) (λb o e=>Λ _ e) (Ζ _ rfl);exact q _ d' _ x St c n J
 by_cases f:byT w=Γ;rw[if_neg (by rw[f];simp)];refine Θ (Ω ?_);refine mk s.heap s.drawn (rawInt 0) (λb o e=>e) (le_refl _) λh' d j h=>⟨[s.heap.objs.size,a],_,_,(zkU _ es).map _,⟨λA y=>zrv y (ne_of_lt G) f hd u,⟨h,j _ _ r⟩,j,le_refl _,by rw[d];exact ϕ _,λb f=>?_⟩⟩;simp![mem_cons,not_mem_nil,or_false]at f;rcases f with z|z;exact .inr ⟨le_of_eq z.symm,by rw[z,d];exact ϕ _⟩;exact .inl z;have f:byT w=Δ:=by simpa using f
 by_cases n:(!t.plain&&decide (es.size>1))=Γ;rw[if_pos (by rw[f,n];rfl)];refine Θ (ziP es.size (List.range es.size) (by simp) λB d' g=>?_);have L:B.length<=sizeLine:=by rw[g.length_eq,length_range];exact fits_of_scanBound hz
 refine Θ (ϔ ?_ (by show(List.map (λ(i:Nat)=>rawInt i) B).toArray.size<=sizeLine;simpa using L));have M:∀p∈B,p<es.size:=λp n=>mem_range.mp (g.mem_iff.mp n);refine mk (s.heap.push {cls:=.type "tuple",data:=.seq (B.map λ(i:Nat)=>rawInt i).toArray}) d' (.ref s.heap.objs.size) (λb o e=>Λ _ e) (by rw[ώ];lia) λh' d j h=>?_;have z1:(s.heap.push {cls:=.type "tuple",data:=.seq (B.map λ(i:Nat)=>rawInt i).toArray}).objs.size=s.heap.objs.size+1:=ώ ..;rw[z1]at h d⊢;refine⟨[s.heap.objs.size+1,a,s.heap.objs.size],_,_,znb es g,⟨λA y=>zrx y (ne_of_lt (Ϟ G)) (ne_of_lt (ϕ _)) hd u M,⟨h,j _ _ (Λ _ r),j _ _ (Ζ _ rfl)⟩,λb o e=>j _ _ (Λ _ e),le_succ _,by rw[d];exact ϕ _,λb f=>?_⟩⟩;simp![mem_cons,not_mem_nil,or_false]at f;rcases f with z|z|z;exact .inr ⟨by rw[z];exact le_succ _,by rw[z,d];exact ϕ _⟩;exact .inl z;exact .inr ⟨le_of_eq z.symm,by rw[z,d];exact Ϟ (ϕ _)⟩;have n:(!t.plain&&decide (es.size>1))=Δ:=by simpa using n
 rw[if_neg (by rw[n];simp)];refine Θ (Ω ?_);refine mk s.heap s.drawn (rawInt 0) (λb o e=>e) (le_refl _) λh' d j h=>⟨[s.heap.objs.size,a],_,_,List.Perm.refl _,⟨λA y=>zrw y (ne_of_lt G) f hd u U n,⟨zero_le _,h,j _ _ r⟩,j,le_refl _,by rw[d];exact ϕ _,λb f=>?_⟩⟩;simp![mem_cons,not_mem_nil,or_false]at f;rcases f with z|z;exact .inr ⟨le_of_eq z.symm,by rw[z,d];exact ϕ _⟩;exact .inl z
def zmG(d:s.TypeIs (.ref a) "set")(h:Q Δ s):wpAny (model prog w) A (Builtin.List.listLengthHint (.ref a)) Q E s:=by
 refine Θ (wpAny_specialOf d F.slot_set_len.lookup ?_);generalize hid:("set.__len__":String)=e
 wp_delta
 subst hid;refine Θ (wpAny_isInstance (b:=Γ) d (by kernel_rfl) ?_);refine wpAny_ite_split (λc=>absurd c (by decide)) (λ_=>?_);refine wpAny_ite_split (λ_=>?_) (λc=>absurd (by decide +kernel) c);exact Θ (wpAny_typeOf d (Ω h))
def zjc(C:A.handled=Ψ)(x:s.heap.get? a=Φ o)(k:o.ExactSet)(hd:o.data=.set es ep t)(Q:t.fits es.size=Γ)(U:TOk (!byT w) t)(hz:es.size<scanBound)(S)(n:S≠a)(res)(p)(J:s.heap.get? S=Φ {cls:=.type "list",data:=.seq #[] p})(Y:∀h' d' tk d c,(∀b o,b≠S->s.heap.get? b=Φ o->h'.get? b=Φ o)->h'.get? S=Φ {cls:=.type "list",dict:=Ψ,data:=.seq d c,slots:=#[]}->d.toList.Perm (es.toList.map (·.2))->R (.ok (.ret res)) {s with heap:=h',drawn:=d',toks:=tk}):
  wpAny (model prog w) A.in1 (Builtin.List.listExtendWith (.ref S) (.ref a) res)
   (λfin s'=>match fin with|.done f=>R (.ok f) s'|.again c'=>c'.quiet=Γ/\codeAny (model prog w) A c' R s') (λe s'=>R (.error e) s') s:=by
 have y:=Η J;unfold Builtin.List.listExtendWith;refine Θ (wpAny_typeOf (T:="set") ⟨_,x,k.1⟩ ?_);rw[if_neg (by simp[Builtin.List.listSameRef,n])];refine Θ (zmE x k hd Q U hz λu d' I fp St g L G=>?_);have q:=G.old _ _ J;refine Θ (ϙ (zmG (s:={s with heap:=u,drawn:=d'}) ⟨_,G.old _ _ x,k.1⟩ ?_));rw[if_pos (by decide +kernel)];refine Θ (wpAny_rule (Θ ?_));show wpAny _ _ (updateSeq S (·.push .none)>>=λ_=>updateSeq S (·.pop)) _ _ _;refine Θ (wpAny_updateSeq (s:={s with heap:=u,drawn:=d'}) q rfl ?_);have h:=Heap.get?_update_self (Obj.mapSeq (·.push Ξ.none)) q rfl;refine wpAny_updateSeq (hz:=by seq_fits) h rfl ?_;have l:=Heap.get?_update_self (Obj.mapSeq (·.pop)) h rfl;have M:∀b o,b≠S->u.get? b=Φ o->((u.update S (Obj.mapSeq (·.push Ξ.none))).update S (Obj.mapSeq (·.pop))).get? b=Φ o:=λb o m e=>(Heap.get?_update_other _ _ (Ne.symm m)).trans ((Heap.get?_update_other _ _ (Ne.symm m)).trans e);have r:S∉fp:=λv=>by rcases G.fp S v with z|z;exact n z;exact Nat.not_lt.mpr z.1 y
 have hv:g.length<=sizeLine:=by rw[L.length_eq,length_map,length_toList];exact fits_of_scanBound hz
 refine Ω ⟨plainId_quiet PySem.F.plain_extend_loop _,codeAny_extend_loopS (G.wk A.in1 C).toS hv S r res g.length 0 _ #[] _ rfl (zero_le _) ?_ l (ItemsOf.nil _) λs' d c N B j=>?_⟩;exact(G.wk A.in1 C).frame 0 _ _ G.st λb m o e=>M b o (λz=>r (z▸m)) e;rw[Moved.eq_with N];refine Y s'.heap d' s'.toks d c (λb o m e=>N.heap b o (λv=>?_) (M b o m (G.old _ _ e))) B ?_;simp![mem_cons,not_mem_nil,or_false]at v;rcases v with z|z;exact m z;exact Nat.not_lt.mpr (z▸G.new) (Η e);have:d.toList=g:=by refine List.ext_getElem? λi=>?_;by_cases hi:i<d.size;have O:=Array.getElem?_eq_getElem hi;have e2:=j.2 i _ O;rw[Array.getElem?_toList,O];exact e2.symm;rw[List.getElem?_eq_none (by rw[length_toList];lia),List.getElem?_eq_none (by have:=j.1;lia)]
 rw[this];exact L
def zhl(z:A.handled=Ψ)(r:s.heap.get? a=Φ o)(n:o.ExactSet)(hd:o.data=.set es ep t)(B:t.fits es.size=Γ)(C:TOk (!byT w) t)(hz:es.size<scanBound)(h:∀(h':Heap)(d':Drawn)(tk:Nat)(i:List Ξ),(∀b o,s.heap.get? b=Φ o->h'.get? b=Φ o)->s.heap.objs.size<h'.objs.size->i.Perm (es.toList.map (·.2))->R i {s with heap:=h',drawn:=d',toks:=tk}):
  wpAny (model prog w) A (collect (.ref a)) R E s:=by
 have G:=Η r;refine Θ (wpAny_runValue (codeAny_builtin PySem.F.entry_proto_collect ?_));refine Θ (ϔ ?_);refine Ω ⟨plainId_quiet PySem.F.plain_list_iadd _,codeAny_builtin PySem.F.entry_list_iadd ?_⟩;have j:(s.heap.push {cls:=.type "list",data:=.seq ([]:List Ξ).toArray}).get? s.heap.objs.size=Φ {cls:=.type "list",data:=.seq #[]}:=Ζ _ rfl;have key:=zjc (prog:=prog) (s:={s with heap:=s.heap.push {cls:=.type "list",data:=.seq ([]:List Ξ).toArray}})
  (R:=λ(q:Result) (p:Β)=>∃(h':Heap) (d':Drawn) (tk:Nat) (c:Array Ξ) (k:Nat),q=.ok (.ret (.ref s.heap.objs.size))/\p={s with heap:=h',drawn:=d',toks:=tk}/\
   (∀b o,s.heap.get? b=Φ o->h'.get? b=Φ o)/\h'.get? s.heap.objs.size=Φ {cls:=.type "list",dict:=Ψ,data:=.seq c k,slots:=#[]}/\c.toList.Perm (es.toList.map (·.2)))
  z (Λ _ r) n hd B C hz s.heap.objs.size (ne_of_gt G) (.ref s.heap.objs.size) 0 j
  (λh' d' tk c k m g d=>⟨h',d',tk,c,k,rfl,rfl,λb o e=>m b o (ne_of_lt (Η e)) (Λ _ e),g,d⟩)
 refine ό key (λfin p x=>?_) λe p x=>?_;cases fin with| done f=>let⟨h',d',tk,c,k,e,rfl,m,g,d⟩:=x;cases e;exact Θ (wpAny_load g (Ω (h h' d' tk _ m (Η g) d)))| again u=>refine⟨x.1,Ϛ x.2 λq v y=>?_⟩;let⟨h',d',tk,c,k,rfl,rfl,m,g,d⟩:=y;exact Θ (wpAny_load g (Ω (h h' d' tk _ m (Η g) d)))
 let⟨_,_,_,_,_,I,_⟩:=x;cases I
end
end R
namespace R
open PySem PySem.Spec PyProof.Rows L2
def zfM(x):∀l:List Int,(insZ x l).Perm (x::l)
 | []=>List.Perm.refl _| y::l=>by unfold insZ;split;exact List.Perm.refl _;exact((zfM x l).cons y).trans (List.Perm.swap ..)
def zeS(x):∀{l:List Int},l.Pairwise (·<=·)->(insZ x l).Pairwise (·<=·)
 | [],_=>by simp[insZ]| y::l,h=>by have a:=Ϣ.mp h;unfold insZ;split;rename_i c;exact Ϣ.mpr ⟨λz b=>by rcases mem_cons.mp b with e|e;rw[e];exact c;exact Int.le_trans c (a.1 z e),h⟩;refine Ϣ.mpr ⟨λz b=>?_,zeS x a.2⟩;rcases mem_cons.mp ((zfM x l).mem_iff.mp b) with e|e;lia;exact a.1 z e
def zcf:∀l:List Int,(zfi l).Perm l
 | []=>List.Perm.refl _|x::l=>(zfM x _).trans ((zcf l).cons x)
def zdl:∀l:List Int,(zfi l).Pairwise (·<=·)
 | []=>Pairwise.nil|x::l=>zeS x (zdl l)
def zeJ:∀{a b:List Int},a.Perm b->a.Pairwise (·<=·)->b.Pairwise (·<=·)->a=b
 | [],b,p,_,_=>(List.nil_perm.mp p).symm|x::a,[],p,_,_=>absurd (List.perm_nil.mp p) (by simp)| x::a,y::b,p,f,g=>by
  have c:=Ϣ.mp f;have d:=Ϣ.mp g;have e1:y<=x:=by rcases mem_cons.mp (p.mem_iff.mp Μ) with e|e;exact Int.le_of_eq e.symm;exact d.1 x e
  have e2:x<=y:=by rcases mem_cons.mp (p.mem_iff.mpr Μ) with e|e;exact Int.le_of_eq e.symm;exact c.1 y e
  cases Int.le_antisymm e1 e2;rw[zeJ (List.Perm.cons_inv p) c.2 d.2]
def zhU(ns):(R.dedup ns).Nodup:=by
 unfold R.dedup;suffices ∀(l d:List Int),d.Nodup->(l.foldl (λd x=>if d.contains x then d else d++[x]) d).Nodup from this ns [] List.nodup_nil
 intro l;induction l with|nil=>intro d h;exact h| cons x l g=>intro d h;refine g _ ?_;show(if d.contains x=Γ then d else d++[x]).Nodup;split;exact h;rename_i c;refine nodup_append.mpr ⟨h,by simp,λa i b f e=>?_⟩;simp![mem_singleton]at f;subst f;subst e;exact c (by simpa using i)
def zcu:∀{a:List Int}{b:List Int},a.Nodup->(∀x∈a,x∈b)->b.length=a.length->a.Perm b
 | [],b,_,_,h=>by rw[List.length_eq_zero_iff.mp h]| x::a,b,i,d,h=>by have c:=nodup_cons.mp i;have f:=d x Μ;have j:=List.perm_cons_erase f;refine List.Perm.trans ((zcu (b:=b.erase x) c.2 (λy g=>?_) ?_).cons x) j.symm;exact(List.mem_erase_of_ne (λe:y=x=>c.1 (e▸g))).mpr (d y (Κ _ g));rw[List.length_erase_of_mem f,h];simp
abbrev SetO(prog:Υ)(w:ϋ)(o:Obj)(ns:List Int):Prop:=∃a c t b,o.ExactSet/\o.data=.set a c t/\t.fits a.size=Γ/\TOk (!byT w) t/\a.size<scanBound/\IntsAre (a.toList.map (·.2)) b/\b.Perm ns
def zlJ:∀{l:List (Int×Ξ)},ElemsOf (intKind prog w) l->∃a,IntsAre (l.map (·.2)) a
 | [],_=>⟨[],.nil⟩| e::l,h=>by let⟨a,b⟩:=zlJ (l:=l) λx c=>h x (Κ _ c);let⟨⟨k,d,_⟩,_⟩:=h e Μ;let⟨t,f⟩:=Ξ.isInt_shape d;exact⟨k::a,by rw[Ο,f];exact .cons _ _ b⟩
def zlI:∀{us vs:List Ξ}{ns:List Int},us.Perm vs->IntsAre vs ns->∃a,IntsAre us a/\a.Perm ns:=by
 intro us vs ns p;induction p generalizing ns with
 |nil=>intro h;exact⟨ns,h,List.Perm.refl _⟩| cons x p f=>intro h;cases h with| cons _ _ h=>let⟨a,b,c⟩:=f h;exact⟨_::a,.cons _ _ b,c.cons _⟩
 |swap x y l=>intro h;cases h with| cons _ _ h=>cases h with|cons _ _ h=>exact⟨_,.cons _ _ (.cons _ _ h),List.Perm.swap ..⟩
 |trans p q d e=>intro h;let⟨a,b,c⟩:=e h;let⟨g,i,j⟩:=d b;exact⟨g,i,j.trans c⟩
def ziA:∀{l:List (Int×Ξ)}{b:List Int},IntsAre (l.map (·.2)) b->∀k,(∃e∈l,(intKind prog w).is k e.2=Γ)->k∈b
 | [],_,h,k,⟨e,a,_⟩=>by simp at a| e::l,_,h,k,⟨f,a,c⟩=>by rw[Ο]at h;generalize g:e.2=v at h;cases h with| cons _ _ h=>rcases mem_cons.mp a with z|z;let⟨t,d⟩:=Ξ.isInt_shape c;rw[z,g]at d;cases d;exact Μ;exact Κ _ (ziA h k ⟨f,z,c⟩)
def SetO.of(x:SetD prog w h a S ns.length)(c:ns.Nodup)(d:∀k∈ns,S k=Γ):∃o,h.get? a=Φ o/\SetO prog w o ns:=by let⟨o,e,f,t,g,i,j,l,m,n,p,q,r⟩:=x;let⟨s,b⟩:=zlJ l;refine⟨o,g,e,f,t,s,i,j,p,r,n,b,(zcu c (λk u=>ziA b k ((m k).mp (d k u))) ?_).symm⟩;rw[<-b.length,length_map,length_toList,q]
section
variable[Mks]{X:Cx}
def zqT(I:Inv X c e H s)(k:∀b u,s.heap.get? b=Φ u->h'.get? b=Φ u)(d:s.heap.objs.size<=a)(new:ObjOk X.prog X.w (upd H a o) h' a o):
 Inv X c e (upd H a o) {s with heap:=h',drawn:=d',toks:=t'}:=I.call' rfl (Un.laid k d (I.hok.fresh d)) (I.hok.laid k d new) I.bare λb (f:b∈([]:List Addr))=>by cases f
def zpx(m:X.calm=Γ):zbt X (.type "set") (λxs H Q=>∃(a:Addr) (ns:List Int),xs=[.ref a]/\SqL X.K H a (ns.map V.int)/\ns.length<4000/\∀p,H p=Ψ->∀o,SetO X.prog X.w o (R.dedup ns)->Q (.ref p) (upd H p (.frz o (.own 0)))):=by
 intro d s B H xs C Q I r h;let⟨a,ns,rfl,n,E,q⟩:=h;let⟨u,rfl,t⟩:=r.one;cases(show u=Ξ.ref a from t);have fresh:=I.hok.fresh (le_refl s.heap.objs.size);have v:X.A.handled=Ψ:=I.ok.hd m;let⟨c,f,w,x⟩:=I.list n;have i:c.toArray.size=ns.length:=by rw[size_toArray,<-f.length,length_map]
 refine zkg v w.isList (zdd f) (by rw[i];unfold scanBound;lia) λg G j y=>?_;rw[i,<-zcY]at j;let⟨o,l,z⟩:=SetO.of j (zhU ns) (λk A=>List.any_eq_true.mpr ⟨k,A,by simp⟩);exact⟨.ref s.heap.objs.size,_,I.laid (o:=.frz o (.own 0)) (λb o e=>y b o (Η e) e) (le_refl _) ⟨l,_,l⟩,rfl,q _ fresh o z⟩
def zi9(B:X.calm=Γ):zbt X (.builtin "sorted") (λxs H Q=>∃(a:Addr) (o:Obj) (ns:List Int),xs=[.ref a]/\H a=Φ (.frz o (.own 0))/\SetO X.prog X.w o ns/\ns.length<64/\∀p,H p=Ψ->Q (.ref p) (upd H p (.lst ((zfi ns).map V.int)))):=by
 intro x s σ H xs us Q I r h;let⟨a,o,ns,rfl,C,⟨es,ep,t,ms,E,G,J,L,M,N,y⟩,l,q⟩:=h;let⟨u,rfl,O⟩:=r.one;cases(show u=Ξ.ref a from O);have T:s.heap.get? a=Φ o:=(show ObjOk X.prog X.w H s.heap a (.frz o (.own 0)) from I.hok a _ C).1;have U:X.A.handled=Ψ:=I.ok.hd B;refine Calls.call_function_entry kind_sorted plain_sorted entry_sorted (args_sorted1 _) ?_;unfold Builtin.«sorted»;refine Θ (m:=checkCount "sorted" 1 1 _) (Ω ?_);refine Θ (zhl U T E G J L M λk d' Y d kp n hp=>?_);let⟨ks,g,z⟩:=zlI hp N;have i:d.length<64:=by rw[g.length,(z.trans y).length_eq];exact l
 refine Θ (wpAny_newList ?_ (by rw[Χ];lia));have f:(k.push (seqObj "list" d.toArray 0)).get? k.objs.size=Φ (seqObj "list" d.toArray 0):=Ζ _ rfl;refine Θ (ϙ (ϒ slot_list_sort ⟨_,f,rfl⟩ entry_list_sort (list_sort_tree f g i λout v a1 a2 a3=>⟨_,rfl,?_⟩) (args_list_sort _)));have j:s.heap.objs.size<=k.objs.size:=le_of_lt n;have en:v=zfi ns:=zeJ (a2.trans (z.trans (y.trans (zcf ns).symm))) a3 (zdl ns);subst en;let⟨c,w⟩:=sortedHeap_at (out:=out) f;refine Ω ⟨_,rfl,.ref k.objs.size,_,zqT (s:=s) (d':=d') (t':=Y) (o:=.lst ((zfi ns).map V.int)) I (λb u e=>?_) j ⟨?_,out.toList,c,zdM a1,?_⟩,rfl,q _ (I.hok.fresh j)⟩;have e1:=kp b u e;have A:=Η e1;rw[sortedHeap_old (ne_of_lt A) (Nat.lt_of_lt_of_eq (Ϟ A) (ώ ..).symm)];exact Λ _ e1;rw[length_map,(zcf ns).length_eq,Χ];lia;exact w
variable{T:Tab}{cf:CF}{k:Nat}{N:List Str}{sc:Scope}{pos p p2 pos':Pos}
def zmj:bootBuiltins "sorted"=Φ (.builtin "sorted"):=by rfl
def zpy(G:Gd T cf k N sc X)(r:Gl X "sorted"/\X.mg "sorted"=Ψ)(s:Gl X "set"/\X.mg "set"=Ψ)(A:PE X e (tE X.K cf B))(f:zao e=Γ):
  PE X (.Call (.Name "sorted" p) [.Call (.Name "set" p2) [e] [] pos'] [] pos) (tE X.K cf (.sset B)):=by
 have j:=zbF (p:=p2) (pos:=pos') (zpx G.calm) s.1 s.2 zo0 (zaZ A f) (by decide) (by decide) (zam f [] X.env);refine PE.imp (zcT (zi9 G.calm) r.1 r.2 zmj (zaZ j rfl) (by decide) (by decide) rfl) λσ H Qv z=>?_;let⟨δ,ι,S,Q,C,E,w,q⟩:=z;change W (Out.bind _ _) _ at w;simp![zab] at w;refine tE.run C E w λd v g t I J L h M O=>?_;let⟨m,b,n⟩:=zax O;unfold lstI at b;split at n;rename_i c;cases d with
 |ref l=>
  let⟨a,U,rfl⟩:=M;dsimp only at b;cases e1:I.get l with
  |none=>rw[e1]at b;exact nS b
  |some Y=>rw[e1]at b;cases Y with| lst ds=>have b:zaD ds=Φ m:=b;let⟨a',u,zs,ha,x⟩:=h.obj _ _ e1;rw[U]at u;cases u;rw[zfL b]at x;have:=x.ints_eq;subst this;have hd:=zgX m;let⟨c2,w3⟩:=zeO n;refine⟨a,m,rfl,SqL.of ha,by lia,λy i o so=>⟨y,o,_,rfl,zag,so,by lia,λl hl=>?_⟩⟩;have e1:Ext g t g (upd t y (.frz o (.own 0))):=Ext.new i _;exact q _ _ (Lf.up (J.trans e1) (Lf.lst (h.new i _) hl (RVs.ints _) w3))|_=>exact nS b
 |_=>exact nS b
 exact n.elim
end
section
variable[Mks]{X:Cx}
variable{T:Tab}{cf:CF}{k:Nat}{N:List Str}{sc:Scope}{pos p:Pos}
def ztH:bootBuiltins "min"=Φ (.builtin "min"):=by rfl
end
end R
namespace R
open PySem PySem.W PyProof.Rows
section
variable{n:Nat}{r:Nat->Int}{cmp:Nat->Nat->(Bool->Β->Prop)->Β->Prop}{s:Β}
@[reducible]def GP(n:Nat)(p:Array Nat):Prop:=p.Perm (List.range n).toArray
abbrev kAt(r:Nat->Int)(p:Array Nat)(i:Nat):Int:=r (p.getD i 0)
abbrev AscTo(r:Nat->Int)(p:Array Nat)(k:Nat):Prop:=∀i j,i<j->j<k->kAt r p i<kAt r p j
abbrev DescTo(r:Nat->Int)(p:Array Nat)(k:Nat):Prop:=∀i j,i<j->j<k->kAt r p j<kAt r p i
def GP.size(h:GP n p):p.size=n:=by have:=h.size_eq;simpa using this
def GP.list(h:GP n p):p.toList.Perm (List.range n):=by have:=Array.perm_iff_toList_perm.mp h;simpa using this
def zbq(p:Array Nat)(a):p.getD i 0=p.toList[i]'(by simpa using a):=by simp[Array.getD,a]
def GP.lt(h:GP n p)(a:i<n):p.getD i 0<n:=by have b:=h.size;rw[zbq p (by lia)];exact mem_range.mp (h.list.mem_iff.mp (List.getElem_mem _))
def GP.inj(h:GP n p)(c:∀i j,i<n->j<n->r i=r j->i=j)(d:i<n)(f:j<n)(e:kAt r p i=kAt r p j):i=j:=by have a:=c _ _ (h.lt d) (h.lt f) e;have k:=h.size;rw[zbq p (by lia),zbq p (by lia)]at a;have g:p.toList.Nodup:=h.list.nodup_iff.mpr List.nodup_range;have b:=List.pairwise_iff_getElem.mp g;rcases Nat.lt_trichotomy i j with z|z|z;exact absurd a (b i j _ _ z);exact z;exact absurd a.symm (b j i _ _ z)
def GP.tri(h:GP n p)(a:∀i j,i<n->j<n->r i=r j->i=j)(b:i<n)(d:j<n)(f:i≠j)(c:¬kAt r p i<kAt r p j):kAt r p j<kAt r p i:=by have:kAt r p i≠kAt r p j:=λe=>f (h.inj a b d e);lia
def AscTo.snoc(h:AscTo r p k)(d:1<=k)(c:kAt r p (k-1)<kAt r p k):AscTo r p (k+1):=by
 intro i j a f;by_cases e:j<k;exact h i j a e;have:j=k:=by lia
 subst this;by_cases b:i=j-1;subst b;exact c;have:=h i (j-1) (by lia) (by lia);lia
def DescTo.snoc(h:DescTo r p k)(d:1<=k)(c:kAt r p k<kAt r p (k-1)):DescTo r p (k+1):=by
 intro i j a f;by_cases e:j<k;exact h i j a e;have:j=k:=by lia
 subst this;by_cases b:i=j-1;subst b;exact c;have:=h i (j-1) (by lia) (by lia);lia
variable(hr:∀i j,i<n->j<n->r i=r j->i=j)(hc:∀i j (C:Bool->Β->Prop),i<n->j<n->C (decide (r i<r j)) s->cmp i j C s)
include hr hc
def zmo{p:Array Nat}(g:GP n p){Q:Nat->Β->Prop}:∀(f a:Nat),1<=a->a+f<=n->AscTo r p a->
  (∀m,a<=m->m<=a+f->AscTo r p m->(m=a+f\/kAt r p m<kAt r p (m-1))->Q m s)->(kas_asc p f a).kasWp cmp Q s
 |0,a,_,_,h,q=>q a (le_refl _) (le_refl _) h (.inl rfl)| f+1,a,b,l,h,q=>by refine hc _ _ _ (g.lt (by lia)) (g.lt (by lia)) ?_;by_cases c:kAt r p a<kAt r p (a-1);have e:decide (r (p.getD a 0)<r (p.getD (a-1) 0))=Γ:=decide_eq_true c;show(if decide (r (p.getD a 0)<r (p.getD (a-1) 0))=Γ then KasT.ret a else kas_asc p f (a+1)).kasWp cmp Q s;rw[if_pos e];exact q a (le_refl _) (by lia) h (.inr c);have e:¬decide (r (p.getD a 0)<r (p.getD (a-1) 0))=Γ:=λz=>c (of_decide_eq_true z);show(if decide (r (p.getD a 0)<r (p.getD (a-1) 0))=Γ then KasT.ret a else kas_asc p f (a+1)).kasWp cmp Q s;rw[if_neg e];refine zmo g f (a+1) (by lia) (by lia) (h.snoc b (g.tri hr (by lia) (by lia) (by lia) c)) λm o t d k=>q m (by lia) (by lia) d ?_;rcases k with z|z;exact .inl (by lia);exact .inr z
def zl1{p:Array Nat}(g:GP n p){Q:Array Nat×Nat×Nat->Β->Prop}:∀(f a:Nat),1<=a->a+f<=n->DescTo r p a->
  (∀m,a<=m->m<=a+f->DescTo r p m->Q (p,m,0) s)->(kas_desc f p a 0).kasWp cmp Q s
 |0,a,_,_,h,q=>q a (le_refl _) (le_refl _) h| f+1,a,b,o,h,q=>by refine hc _ _ _ (g.lt (by lia)) (g.lt (by lia)) ?_;by_cases c:kAt r p a<kAt r p (a-1);have e:decide (r (p.getD a 0)<r (p.getD (a-1) 0))=Γ:=decide_eq_true c;rw[e];exact zl1 g f (a+1) (by lia) (by lia) (h.snoc b c) λm t u d=>q m (by lia) (by lia) d;have e:decide (r (p.getD a 0)<r (p.getD (a-1) 0))=Δ:=decide_eq_false c;rw[e];refine hc _ _ _ (g.lt (by lia)) (g.lt (by lia)) ?_;have k:=g.tri hr (by lia) (by lia) (by lia) c;have l:decide (r (p.getD (a-1) 0)<r (p.getD a 0))=Γ:=decide_eq_true k;rw[l];exact q a (le_refl _) (by lia) h
omit hr hc in
def GP.rev(g:GP n p)(i j):GP n (kas_rev p i j):=(mirror_perm _ _ _ _).trans g
omit hr hc in
def zlw(g:GP n p)(f:m<=n)(a:i<m):kAt r (kas_rev p 0 m) i=kAt r p (m-1-i):=by
 have h:=g.size;have e:=getElem?_mirror_all (xs:=p) (i:=0) (j:=m) (by lia) i;unfold kAt kas_rev;congr 1;have b:(mirror p 0 m ((m-0)/2)).getD i 0=((mirror p 0 m ((m-0)/2))[i]?).getD 0:=by simp[Array.getD_eq_getD_getElem?]
 have c:p.getD (m-1-i) 0=(p[m-1-i]?).getD 0:=by simp[Array.getD_eq_getD_getElem?]
 rw[b];congr 1;rw[e];have d:0<=i/\i<m:=⟨zero_le _,a⟩;simp[a]
 try (congr 1;lia)
omit hr hc in
def DescTo.rev(g:GP n p)(a:m<=n)(h:DescTo r p m):AscTo r (kas_rev p 0 m) m:=by intro i j b c;rw[zlw g a (by omega),zlw g a c];exact h _ _ (by omega) (by omega)
def znX{p:Array Nat}(g:GP n p)(x:1<=n){Q:Nat×Array Nat->Β->Prop}(q:∀m b,1<=m->m<=n->GP n b->AscTo r b m->Q (m,b) s):(kas_count n p).kasWp cmp Q s:=by
 unfold kas_count;rw[KasT.kasWp_bind];refine zmo hr hc g (n-1) 1 (le_refl _) (by lia) (λi j _ _=>by lia) λm f y a l=>?_;by_cases e:m=n;subst e;simp![beq_self_eq_true];exact q m p f (le_refl _) g a;rw[if_neg (by simpa using e)];have c:=l.resolve_left (by lia);by_cases h:m>1;rw[if_pos h];refine hc _ _ _ (g.lt (by lia)) (g.lt (by lia)) ?_;have o:=a 0 (m-1) (by lia) (by lia);have d:decide (r (p.getD 0 0)<r (p.getD (m-1) 0))=Γ:=decide_eq_true o;rw[d];exact q m p f (by lia) g a;rw[if_neg h];have d:m=1:=by lia
 subst d;unfold kas_descPart;rw[KasT.kasWp_bind];have t:DescTo r p (1+1):=by
  intro i j u z;have:i=0/\j=1:=by lia
  let⟨rfl,rfl⟩:=this;exact c
 refine zl1 hr hc g (n-(1+1)) (1+1) (by lia) (by lia) t λk A B v=>?_;show(kas_tail3 k n p).kasWp cmp Q s;unfold kas_tail3;rw[KasT.kasWp_bind];exact zmo hr hc (g.rev 0 k) (n-k) k (by lia) (by lia) (v.rev g (by lia)) λj E G w _=>(q j _ (by lia) (by lia) (g.rev 0 k) w)
def zfx{p:Array Nat}(g:GP n p){k:Nat}(h:k<n)(m:AscTo r p k){Q:Nat->Β->Prop}:∀(f l t:Nat),l<=t->t<=k->t-l<=f->(∀i,i<l->kAt r p i<kAt r p k)->(∀i,t<=i->i<k->kAt r p k<kAt r p i)->
  (∀l,l<=k->(∀i,i<l->kAt r p i<kAt r p k)->(∀i,l<=i->i<k->kAt r p k<kAt r p i)->Q l s)->(kas_place p k f l t).kasWp cmp Q s
 |0,l,t,w,v,x,a,b,q=>q l (by lia) a λi o d=>b i (by lia) d| f+1,l,t,w,v,x,a,b,q=>by unfold kas_place;by_cases e:l≥t;rw[if_pos e];exact q l (by lia) a λi o d=>b i (by lia) d;rw[if_neg e];refine hc _ _ _ (g.lt h) (g.lt (by lia)) ?_;by_cases c:kAt r p k<kAt r p ((l+t)/2);have u:decide (r (p.getD k 0)<r (p.getD ((l+t)/2) 0))=Γ:=decide_eq_true c;rw[u];refine zfx g h m f l ((l+t)/2) (by lia) (by lia) (by lia) a (λi o d=>?_) q;by_cases z:i=(l+t)/2;rw[z];exact c;have:=m ((l+t)/2) i (by lia) d;lia;have u:decide (r (p.getD k 0)<r (p.getD ((l+t)/2) 0))=Δ:=decide_eq_false c;rw[u];have y:=g.tri hr h (by lia) (by lia) c;refine zfx g h m f ((l+t)/2+1) t (by lia) v (by lia) (λi o=>?_) b q;by_cases z:i=(l+t)/2;rw[z];exact y;have:=m i ((l+t)/2) (by lia) (by lia);lia
omit hr hc in
def zeP(g:GP n p)(c:k<n)(hl:l<=k)(i):kAt r (bubble p k (k-l)) i=if i=l then kAt r p k else if l<i/\i<=k then kAt r p (i-1) else kAt r p i:=by
 have d:=g.size;have e:=getElem?_bubble (xs:=p) (src:=k) (by lia) (k-l) (by lia) i;have a:∀(q:Array Nat)(j:Nat),q.getD j 0=(q[j]?).getD 0:=λq j=>by simp[Array.getD_eq_getD_getElem?]
 unfold kAt;rw[a,e];have b:k-(k-l)=l:=by lia
 rw[b];split;rw[a];split;rw[a];rw[a]
omit hr hc in
def zjN(g:GP n p)(e:k<n)(hl:l<=k)(c:AscTo r p k)(a:∀i,i<l->kAt r p i<kAt r p k)(b:∀i,l<=i->i<k->kAt r p k<kAt r p i):AscTo r (bubble p k (k-l)) (k+1):=by intro i j d q;rw[zeP g e hl,zeP g e hl];by_cases f:i=l;rw[if_pos f,if_neg (by omega),if_pos (by omega)];exact b _ (by omega) (by omega);rw[if_neg f];by_cases h:l<i/\i<=k;rw[if_pos h,if_neg (by omega),if_pos (by omega)];exact c _ _ (by omega) (by omega);rw[if_neg h];by_cases m:j=l;rw[if_pos m];exact a _ (by omega);rw[if_neg m];by_cases o:l<j/\j<=k;rw[if_pos o];by_cases z:i=j-1;omega;exact c _ _ (by omega) (by omega);rw[if_neg o];exact c _ _ d (by omega)
def zoZ{Q:Array Nat->Β->Prop}:∀(f k:Nat)(p:Array Nat),k+f=n->1<=k->GP n p->AscTo r p k->(∀b,GP n b->AscTo r b n->Q b s)->(kas_bin f p k).kasWp cmp Q s
 |0,k,p,e,_,g,a,q=>q p g (by rw[show n=k by lia];exact a)| f+1,k,p,e,t,g,a,q=>by unfold kas_bin;rw[KasT.kasWp_bind];exact zfx hr hc g (by lia) a k 0 k (by lia) (le_refl _) (by lia) (λi c=>by lia) (λi c d=>by lia) λl h m o=>(zoZ f (k+1) _ (by lia) (by lia) ((bubble_perm _ _ _).trans g) (zjN g (by lia) h a m o) q)
def zpr(c:1<=n){Q:Array Nat->Β->Prop}(q:∀p,GP n p->AscTo r p n->Q p s):(kas_sort n).kasWp cmp Q s:=by
 unfold kas_sort;rw[KasT.kasWp_bind];refine znX hr hc (Array.Perm.refl _) c λm b d f g a=>?_;show(if m<n then kas_bin (n-max m 1) b (max m 1) else KasT.ret b).kasWp cmp Q s;have em:max m 1=m:=by lia
 rw[em];by_cases e:m<n;rw[if_pos e];exact zoZ hr hc (n-m) m b (by lia) d g a q;rw[if_neg e];exact q b g (by rw[show n=m by lia];exact a)
end
end R
namespace R
open PySem PySem.Spec PyProof.Rows L2
def zle:∀(as bs:List Int),lexZ as bs=HT.lexLt as bs
 | [],[]=>by simp[lexZ,HT.lexLt]| [],_::_=>by simp[lexZ,HT.lexLt]|_::_,[]=>by simp[lexZ,HT.lexLt]|a::as,b::bs=>by simp[lexZ,HT.lexLt,zle as bs]
section
variable{prog:Υ}{w:ϋ}{A:ϐ}{E:Ξ->Β->Prop}{s:Β}
def zj4(x:IsTupleKey (zaq prog w) h (ks.map Sum.inl) b):∃items,IsTup h b items/\IntsAre items.toList ks:=by
 let⟨o,items,n,d,e,f,g⟩:=x;refine⟨items,⟨o,d,e,n,f⟩,?_⟩;have:∀{l:List Int}{a:List Ξ},ItemsAre (zaq prog w) (l.map Sum.inl) a->IntsAre a l:=by intro l;induction l with|nil=>intro a h;cases h;exact .nil| cons x l j=>intro a h;cases h with| @cons _ v _ a k m=>rcases zaz (show zgG (Sum.inl x) v=Γ from k) with⟨i,t,e3,c⟩|⟨y,t,e3,c⟩;cases e3;subst c;exact .cons _ _ (j m);cases e3
 exact this g
def zkY{b:Type}{xs:List b}{p:List Nat}(d)(c:p.Perm (List.range xs.length)):(p.map λi=>xs.getD i d).Perm xs:=by
 have a:=c.map λi=>xs.getD i d;have e:(List.range xs.length).map (λi=>xs.getD i d)=xs:=by apply List.ext_getElem;simp;intro i g f;simp[f]
 rw[e]at a;exact a
end
section
variable[Mks]{X:Cx}{T:Tab}{cf:CF}{k:Nat}{N:List Str}{sc:Scope}{pos p:Pos}
def zmJ:PE X (.Dict [] [] pos) (tE X.K cf .dnew3):=by refine PE.imp znl λc H d z=>?_;let⟨e,ι,S,Q,f,a,w,q⟩:=z;intro p b;exact q _ _ ⟨.ref S.len,ι++[p],S.push (.d3 []),Ext.obj a b _,⟨p,a.last p,rfl⟩,a.obj' b _ _ ⟨List.nodup_nil,[],zag,rfl⟩,w⟩
end
end R
namespace R
open PySem PySem.Spec PyProof.Rows L2
variable[Mks]
section
variable{T:Tab}{cf:CF}{k:Nat}{N:List Str}{sc:Scope}{X:Cx}{pos p p2 pos':Pos}
def zpF(L:PE X o (tE X.K cf M))(O:PE X e (tE X.K cf U))(g:zao e=Γ)(i:zbb o=Γ)(hl:(apos.endLine==cpos.line)=Γ):
  PE X (.Call (.Attribute o "extend" apos) [e] [] cpos) (tE X.K cf (.extv M U)):=by
 refine PE.imp (zqp PySem.F.plainAttrs_list PySem.F.slot_list_extend PySem.F.type_list_extend zgv L (zaZ O g) (zcK i "extend" X.env _) (by rw[zam g];rfl) hl (zam g [] X.env)) λσ H Qv z=>?_;let⟨δ,ι,S,Q,Y,hh,w,q⟩:=z;change W (Out.bind _ _) _ at w;simp![zab] at w;refine tE.run Y hh w λd v ι1 H1 S1 x1 r j t n=>?_;split at n;rename_i c;refine⟨zlE j t c,?_⟩;rw[zab]at n;refine tE.run r j n λy vy ι2 H2 u x hs2 h r2 A=>?_;rw[zab]at A;let⟨o,f,w3⟩:=zax A;unfold lsts at f;cases d with
 |ref l=>
  cases y with
  |ref m=>
   let⟨a,B,rfl⟩:=t.ext x;let⟨b,h2,rfl⟩:=r2;dsimp only at f;cases e1:u.get l with
   |none=>rw[e1]at f;exact nS f
   |some C=>
    cases e2:u.get m with
    |none=>rw[e1,e2]at f;cases C<;>exact nS f| some s=>
     rw[e1,e2]at f;cases C with
     |lst xs=>cases s with| lst ys=>cases f;let⟨a',E,zs,ha,G⟩:=h.obj _ _ e1;rw[B]at E;cases E;let⟨b',I,us,hb,J⟩:=h.obj _ _ e2;rw[h2]at I;cases I;let⟨c2,S',hp,w4⟩:=zmt w3;refine⟨a,b,zs,us,rfl,rfl,ha,hb,?_,q _ _ (Lf.up (x1.trans x) (Lf.wr (d:=.non) h e1 B hp (G.append J) rfl w4))⟩;rw[G.length,J.length,<-length_append];exact c2|_=>exact nS f
     |_=>exact nS f
  |_=>exact nS f
 |_=>exact nS f
 exact n.elim
end
structure Ltr(K:Frag)(ι:List Addr)(H:Hp)(S:R.St)(lks:List Nat)(ι2:List Addr)(H2:Hp)(S2:R.St):Prop where
 ext:Ext ι H ι2 H2
 rh:RH K ι2 H2 S2
 lck:∀l∈lks,S2.get l=S.get l
structure Wk(K:Frag)(J:It)(ds:List D)(lks:List Nat)(ι:List Addr)(H:Hp)(S:R.St):Prop where
 go:∀(i:Nat)(ι2:List Addr)(H2:Hp)(S2:R.St),Ltr K ι H S lks ι2 H2 S2->i<ds.length->J.go i H2
 yld:∀(i:Nat)(ι2:List Addr)(H2:Hp)(S2:R.St)(x:V)(H':Hp),Ltr K ι H S lks ι2 H2 S2->i<ds.length->J.yld i H2 x H'->Ext ι2 H2 ι2 H'/\RH K ι2 H' S2/\∃d,ds[i]?=Φ d/\RV K ι2 H' d x
 stop:∀(i:Nat)(ι2:List Addr)(H2:Hp)(S2:R.St),Ltr K ι H S lks ι2 H2 S2->ds.length<=i->J.stop i H2
 lks:∀l∈lks,l<S.len
abbrev LfI(K:Frag)(ι:List Addr)(H:Hp)(Q:List D×List Nat->R.St->Prop)(J:It)(H':Hp):Prop:=∃c a ι' b,Ext ι H ι' H'/\RH K ι' H' b/\Q (c,a) b/\Wk K J c a ι' H' b
abbrev tI(K:Frag)(cf:CF)(cl:CL):TI:=λb H R=>∃a ι S Q,RS K ι H a b/\RH K ι H S/\W (evL cf cl a S) Q/\∀J H',LfI K ι H Q J H'->R J H'
def PI.imp(h:PI X c e t)(i:∀a H Q,t' a H Q->t a H Q):PI X c e t':=λb s a H Q I q=>h b s a H Q I (i a H Q q)
abbrev iSeq(K:Frag)(d:TE):TI:=λe H R=>d e H λx b=>∃a,x=.ref a/\(((∃c,SqL K b a c)/\R (Itl K a) b)\/((∃c,SqT K b a c)/\R (Itt K a) b))
section
variable{T:Tab}{cf:CF}{k:Nat}{N:List Str}{sc:Scope}{X:Cx}{pos p:Pos}{tg:Expr}
def zsG(t:PE X l u):PI X tg l (iSeq X.K u):=by
 intro f s w H R I h;refine thn (t f s w H _ I h) λv c z=>?_;let⟨x,r,d,y,i⟩:=z;let⟨a,rfl,i⟩:=i;cases y;rcases i with⟨⟨A,j⟩,q⟩|⟨⟨A,j⟩,q⟩;let⟨g,B,m,C⟩:=d.list j;refine wpAny_pyIter_list m.isList ?_;refine⟨c.heap.objs.size,[c.heap.objs.size],_,_,r,rfl,d.kept (t':=c.toks) λb o e=>Λ _ e,zf7 a _,⟨_,Ζ _ rfl,rfl,rfl⟩,λb n=>?_,q⟩;have e:b=c.heap.objs.size:=by simpa using n
 subst e;exact d.fpOk (le_refl _) (d.hok.fresh (le_refl _));let⟨g,B,m,C⟩:=d.tuple j;refine wpAny_pyIter_tuple (show c.heap.IsTuple a g.toArray from m) ?_;refine⟨c.heap.objs.size,[c.heap.objs.size],_,_,r,rfl,d.kept (t':=c.toks) λb o e=>Λ _ e,zi3 a _,⟨_,Ζ _ rfl,rfl,rfl⟩,λb n=>?_,q⟩;have e:b=c.heap.objs.size:=by simpa using n
 subst e;exact d.fpOk (le_refl _) (d.hok.fresh (le_refl _))
def zhh{K:Frag}{ι:List Addr}{H:Hp}{S:R.St}{a:Addr}{ds:List D}{lks:List Nat}(o:∀l∈lks,l<S.len)
  (h:∀b c f,Ltr K ι H S lks b c f->∃xs,SqL K c a xs/\RVs K b c ds xs/\∀ys,SqL K c a ys->True):Wk K (Itl K a) ds lks ι H S where
 go:=λi b c f g n=>by let⟨xs,j,m,_⟩:=h b c f g;exact⟨xs,xs[i]'(by rw[m.length];exact n),j,Ι _⟩
 yld:=λi b c f x H' g n y=>by let⟨xs,j,m,_⟩:=h b c f g;let⟨rfl,y⟩:=y;let⟨d,e,r⟩:=m.get' (y xs j);exact⟨Ext.refl _ _,g.rh,d,e,r⟩
 stop:=λi b c f g n=>by let⟨xs,j,m,_⟩:=h b c f g;exact⟨xs,j,by rw[m.length];exact n⟩
 lks:=o
def zru{K:Frag}{ι:List Addr}{H:Hp}{S:R.St}{a:Addr}{ds:List D}{lks:List Nat}{xs:List V}(j:∀l∈lks,l<S.len)(e:H a=Φ (.tup xs))(rr:RVs K ι H ds xs):Wk K (Itt K a) ds lks ι H S where
 go:=λi c g h b f=>⟨xs,xs[i]'(by rw[rr.length];exact f),SqT.of (b.ext.kp.tups _ _ e),Ι _⟩
 yld:=λi c g h x H' b f y=>by let⟨rfl,y⟩:=y;let⟨d,e,r⟩:=(rr.ext b.ext).get' (y xs (SqT.of (b.ext.kp.tups _ _ e)));exact⟨Ext.refl _ _,b.rh,d,e,r⟩
 stop:=λi c g h b f=>⟨xs,SqT.of (b.ext.kp.tups _ _ e),by rw[rr.length];exact f⟩
 lks:=j
def zol(E:PE X e (tL X.K cf cl))(u:∀{δ:Ev}{S:R.St}{Q:List D×List Nat->R.St->Prop},W (evL cf cl δ S) Q->W (evL cf cl δ S) λr y=>(∀l∈r.2,l<y.len)/\Q r y):PI X tg e (tI X.K cf cl):=by refine PI.imp (zsG E) λσ H R z=>?_;let⟨δ,ι,S,Q,G,I,w,q⟩:=z;refine tL.run G I (u w) λm c v d H1 o s J f L i=>?_;let⟨t,i⟩:=i;let⟨a,j,rfl,x,M⟩:=L;refine⟨a,rfl,?_⟩;cases M with|tmp h e=>exact .inl ⟨⟨j,SqL.of e⟩,q _ _ ⟨m,c,d,o,s,f,i,zhh t λn A B g=>⟨j,SqL.of (g.ext.keep h e (by simp)),x.ext g.ext,λ_ _=>trivial⟩⟩⟩|fix e=>exact .inl ⟨⟨j,e.sq⟩,q _ _ ⟨m,c,d,o,s,f,i,zhh t λn A B g=>⟨j,(e.kp g.ext.kp).sq,x.ext g.ext,λ_ _=>trivial⟩⟩⟩|tup e=>exact .inr ⟨⟨j,SqT.of e⟩,q _ _ ⟨m,c,d,o,s,f,i,zru t e x⟩⟩| own l O U Y e=>refine .inl ⟨⟨j,SqL.of e⟩,q _ _ ⟨m,c,d,o,s,f,i,zhh t λn A B g=>?_⟩⟩;let⟨b,C,zs,hz,rz⟩:=g.rh.obj l (.lst m) ((g.lck l O).trans Y);rw[zbO g.ext.pre U]at C;cases C;exact⟨zs,SqL.of hz,rz,λ_ _=>trivial⟩
def ztc(h:W (evL cf (.val c) δ S) Q):W (evL cf (.val c) δ S) λr b=>(∀l∈r.2,l<b.len)/\Q r b:=by
 change W (Out.bind _ _) _ at h⊢;simp![zab] at h⊢;refine h.mono λx g d=>?_;let⟨i,e,f⟩:=zax d;rw[e];refine⟨λl a=>?_,f⟩;cases x with
 |ref j=>simp[lkOf]at a;subst a;simp![zbg]at e;split at e;rename_i e2;exact get_lt e2;exact nS e
 |_=>simp[lkOf]at a
def zqI(h:W (evL cf (.comp n d g it c e) δ S) Q):W (evL cf (.comp n d g it c e) δ S) λr b=>(∀l∈r.2,l<b.len)/\Q r b:=by change W (Out.bind _ _) _ at h⊢;simp![zab] at h⊢;refine h.mono λj m f=>f.mono λr o a=>?_;split at a;rename_i c;rw[if_pos c];exact⟨λl i=>by simp at i,a⟩;exact a.elim
def zh6{K:Frag}{ι:List Addr}{H:Hp}{S:R.St}(lo:Int)(n:Nat):Wk K (Itr lo n) ((List.range n).map λ(j:Nat)=>D.int (lo+j)) [] ι H S where
 go:=λi b d e c a=>by show i<n;simpa using a
 yld:=λi b d e x H' c a y=>by
  let⟨rfl,rfl⟩:=y;have a:i<n:=by simpa using a
  exact⟨Ext.refl _ _,c.rh,.int (lo+i),by simp[a],rfl⟩
 stop:=λi b d e c a=>by show n<=i;simpa using a
 lks:=λl f=>by simp at f
def zpt(i:Gl X "range"/\X.mg "range"=Ψ)(l:PE X a (tE X.K cf m))(f:zao a=Γ):PI X tg (.Call (.Name "range" p) [a] [] pos) (tI X.K cf (.rng1 m)):=by
 refine PI.imp (zkX i.1 i.2 (zaZ l f) (zam f [] X.env)) λx H R z=>?_;let⟨y,ι,S,Q,n,o,w,q⟩:=z;change W (Out.bind _ _) _ at w;simp![zab] at w;refine tE.run n o w λd v g A r s t h u b=>?_;cases d with
 |int j=>
  obtain rfl:v=.int j:=u;dsimp only at b;split at b;rename_i c;have e:((List.range j.toNat).map λ(k:Nat)=>D.int k)=(List.range j.toNat).map λ(k:Nat)=>D.int (0+k):=by simp
  rw[e]at b;exact⟨j,rfl,c.1,c.2,q _ _ ⟨_,[],g,r,s,h,b,zh6 0 j.toNat⟩⟩;exact b.elim
 |_=>exact b.elim
def zps(r:Gl X "range"/\X.mg "range"=Ψ)(s:PE X a (tE X.K cf t))(x:PE X b (tE X.K cf y))(g:zao a=Γ)(f:zao b=Γ):PI X tg (.Call (.Name "range" p) [a,b] [] pos) (tI X.K cf (.rng2 t y)):=by refine PI.imp (zkW r.1 r.2 (zbz s (zaZ x f) (zam g [b] X.env)) (by rw[zam g,zam f];rfl) (zam f [] X.env)) λU H R z=>?_;let⟨Y,ι,S,Q,A,B,w,q⟩:=z;change W (Out.bind _ _) _ at w;simp![zab] at w;refine tE.run A B w λd v C H1 S1 E l m G I=>tE.run l m I λe u n H2 J L M o O h=>?_;split at h;rename_i i j;obtain rfl:v=.int i:=G;obtain rfl:u=.int j:=O;split at h;rename_i c;exact⟨i,j,rfl,c,q _ _ ⟨_,[],n,J,E.trans L,o,h,zh6 i (j-i).toNat⟩⟩;exact h.elim;exact h.elim
def zc6{g:List Addr}(I:Inv X a i H s)(k:∀b o,b∉g->s.heap.get? b=Φ o->h'.get? b=Φ o)(h:∀b∈g,FpOk X a H b):Inv X a i H {s with heap:=h',toks:=t'}:=by
 have f:∀b u,H b=Φ u->b∉g:=λb u e z=>by rw[(h b z).1]at e;exact nS e
 refine I.step (g':=s.gens) (d':=s.drawn) (ch:=g) (λb j=>?_) (λb o _ _ d e _=>k b o d e) (λb o _ _ d e _=>⟨o.slots,k b o d e⟩) (λ_ _ _ _ n=>n)
  (λb o d e=>⟨o,k b o d e⟩) (λ_ _ e=>e) (λ_ _ _ e=>e) (λb E e=>⟨#[],by rw[e];simp⟩) (λm l=>?_) (λb u e=>?_) I.bare
 let⟨G,t,J,w,x,y⟩:=h b j;exact⟨w,t,x,y⟩;let⟨o,A,B,C,r⟩:=l;exact⟨o,A,B,k _ o (λz=>(h _ z).2.1 rfl) C,r⟩;refine(I.hok b u e).stay (λc v d q=>k c v ?_ q) (λ_ q=>q) λ_ _ q=>q;rcases d with z|z;rw[z];exact f b u e;exact f c _ z
abbrev tG(K:Frag)(is:List Nat):TG:=λv e H f=>∃c ι d a,RS K ι H c e/\RV K ι H d v/\asgG is d c=Φ a/\∀b,RS K ι H a b->f b H
abbrev tGs(K:Frag)(is:List Nat):TGs:=λd e H f=>∃c ι b,RS K ι H c e/\RVs K ι H b d/\b.length=is.length/\∀a,RS K ι H (zeu is b c) a->f a H
def PG.imp(h:PG X tg t)(i:∀v a H Q,t' v a H Q->t v a H Q):PG X tg t':=λb s a H v u Q I r q=>h b s a H v u Q I r (i v a H Q q)
def PGs.imp(h:PGs X es t)(i:∀v a H Q,t' v a H Q->t v a H Q):PGs X es t':=λb s a H v u Q I r q=>h b s a H v u Q I r (i v a H Q q)
def zpv(G:Gd T cf k N sc X)(b:N[i]?=Φ x)(a:zgI sc x=Γ):PG X (.Name x pos) (tG X.K [i]):=by refine PG.imp (zhA (by rw[G.nm];exact G.nd) (by rw[G.nm];exact b) (G.lc a).1 (G.lc a).2) λv g H h z=>?_;let⟨j,ι,d,c,f,r,e,q⟩:=z;cases e;exact q _ (f.set r i)
abbrev zcv(sc:Scope)(N:List Str):List Nat->List Expr->Bool
 | [],[]=>Γ|i::a,.Name x _::b=>(N[i]?==Φ x)&&zgI sc x&&zcv sc N a b|_,_=>Δ
def zgb(G:Gd T cf k N sc X):∀{is:List Nat}{es:List Expr},zcv sc N is es=Γ->PGs X es (tGs X.K is)/\(assignEach es X.env).length=is.length/\(assignEach es X.env).findIdx? (·.1)=Ψ
 | [],[],_=>⟨PGs.imp zqk λv j H m z=>by
  let⟨l,ι,a,c,r,b,q⟩:=z
  have:a=[]:=by simpa using b
  subst this;exact⟨r,q j (by simpa[zeu]using c)⟩,rfl,rfl⟩
 | [],_::_,h=>by simp[zcv]at h|_::_,[],h=>by simp[zcv]at h| i::is,e::es,h=>by
  cases e with
  |Name x pos=>
   simp![zcv,Ε,beq_iff_eq]at h;let⟨n,o,s⟩:=zgb G h.2;refine⟨PGs.imp (znc (zhA (by rw[G.nm];exact G.nd) (by rw[G.nm];exact h.1.1) (G.lc h.1.2).1 (G.lc h.1.2).2) n) λv j H m ⟨l,ι,a,c,r,b,q⟩=>?_,?_,?_⟩;cases a with|nil=>simp at b| cons d a=>let⟨t,u,rfl,w,y⟩:=r;exact⟨t,u,rfl,⟨l.set i (Φ d),ι,a,c.set w i,y,by simpa using b,λf g=>q f (by simpa[zeu]using g)⟩⟩
   show((Δ,_)::assignEach es X.env).length=_;simp[o];show((Δ,_)::assignEach es X.env).findIdx? _=_;simp[List.findIdx?_cons,s]
  |_=>simp[zcv]at h
def zn5(g:2<=is.length)(e:asgG is d δ=Φ f):∃ds,d=.tup ds/\ds.length=is.length/\f=zeu is ds δ:=by
 match is,g with
 |a::b::t,_=>
  cases d with
  |tup ds=>simp![asgG]at e;split at e;rename_i c;cases e;exact⟨ds,rfl,c,rfl⟩;exact nS e
  |_=>exact nS e
def zom(G:Gd T cf k N sc X)(h:zcv sc N is es=Γ)(g:2<=is.length):PG X (.Tuple es j pos) (tG X.K is):=by let⟨i,l,b⟩:=zgb G h;refine PG.imp (zsH G.calm i l b) λv w H x z=>?_;let⟨m,ι,d,n,o,r,e,q⟩:=z;let⟨s,rfl,c,rfl⟩:=zn5 g e;let⟨a,t,rfl,u,f⟩:=r;exact⟨a,t,rfl,SqT.of u,by rw[f.length];exact c,m,ι,s,o,f,c,q⟩
def Ext.tmp{p}(x:Ext ι H ι' H')(c:H p=Ψ)(e:H' p=Φ (.lst vs)):Ext ι H ι' (upd H' p (.lst us)):=by refine⟨x.pre,x.kp.trans (.same (Tups.upd_lst e) (λb o u h=>?_) λb i h=>?_),λb o d a=>?_⟩;rw[zad];exact h;rintro rfl;rw[e]at h;cases h;rw[zad];exact h;rintro rfl;rw[e]at h;cases h;let⟨f,g⟩:=x.rest b o d a;refine⟨?_,g⟩;rw[zad];exact f;rintro rfl;rw[c]at a;exact nS a
def Kp.tmp{p}(e:H p=Φ (.lst vs)):Kp H (upd H p (.lst us)):=.same (Tups.upd_lst e) (λb o u h=>by
 rw[zad];exact h;rintro rfl;rw[e]at h;cases h) λb a h=>by
 rw[zad];exact h;rintro rfl;rw[e]at h;cases h
def RH.tmp{K}{p}(b:RH K ι H S)(c:p∉ι)(e:H p=Φ (.lst vs)):RH K ι (upd H p (.lst us)) S:=⟨b.len,b.nd,λl o q=>by let⟨a,d,f,g⟩:=b.mem q;exact⟨a,d,f.up (ϛ _) (Kp.tmp e) (zad λz=>c (z▸g))⟩,(Kp.tmp e).tab b.tab⟩
def RS.up{K}(h:RS K ι H δ a)(b:ι <+: ι')(c:Kp H H'):RS K ι' H' δ a:=⟨h.1,λi d e=>let ⟨v,f,r⟩:=h.2 i d e;⟨v,f,r.up b c⟩⟩
def RH.lk{K}(a:RH K ι H S)(ks):RH K ι H {S with lk:=ks}:=⟨a.len,a.nd,λl o e=>a.obj l o e,a.tab⟩
def RS.csl{K}(h:RS K ι H δ g)(a)(b):RS K ι H (R.csl a b δ) (L2.csl a b g):=by
 refine⟨by simp[R.csl,L2.csl],λi d e=>?_⟩;unfold R.csl at e;unfold L2.csl;by_cases c:i<a;rw[getElem?_append_left (by simpa using c),List.getElem?_replicate]at e;rw[if_pos c]at e;cases e;rw[getElem?_append_right (by simpa using c)]at e⊢;simp![length_replicate,getElem?_map]at e⊢;cases f:b[i-a]? with
 |none=>rw[f]at e;exact nS e
 |some j=>
  rw[f]at e;simp![Option.map_some,Option.some.injEq]at e⊢;have l:δ[j]?=Φ (Φ d):=by
   cases z:δ[j]? with
   |none=>rw[z]at e;exact nS e
   |some o=>rw[z]at e;simp at e;rw[e]
  let⟨v,m,r⟩:=h.2 j d l;exact⟨v,by rw[m];rfl,r⟩
def zgV{a:Type}{xs:List a}{x}(h:xs[i]?=Φ x):xs.drop i=x::xs.drop (i+1):=by let⟨b,c⟩:=Α.mp h;rw[List.drop_eq_getElem_cons b,c]
abbrev CInv(K:Frag)(cf:CF)(g:List Nat)(c e:CE)(Q:List D×List Nat->R.St->Prop)(ds:List D)(d:List Nat)(l:List Addr)(o:Hp)(h:R.St)(p:Addr)(i:Nat)(m:L2.St)(H':Hp):Prop:=
 i<=ds.length/\∃f ι' j b n,RS K ι' H' f m/\Ltr K l o h d ι' H' j/\j.lk=d++h.lk/\h.len<=j.len/\p∉ι'/\H' p=Φ (.lst n)/\RVs K ι' H' b n/\
  W (zay g (evT cf c) (evE cf e) (ds.drop i) f j) λa q=>(b++a).length<=16777216/\Q (b++a,[]) {q with lk:=h.lk}
def ziQ(hcf:CFok cf)(h:tLt X.K cf (.comp nt js is it c e) σ H Qv):zpi nt js (tI X.K cf it) (tG X.K is) (tT X.K cf c) (tE X.K cf e) σ H Qv:=by
 let⟨δ,ι,S,Q,hs,hh,w,q⟩:=h;change W (Out.bind _ _) _ at w;simp![zab] at w;refine⟨δ,ι,S,_,hs,hh,w,λJ H1 k=>?_⟩;let⟨ds,a,E,u,x1,G,w1,wk⟩:=k;dsimp only at w1;unfold zbh at w1;rw[zab]at w1;intro p M;have hpi:=G.fresh M;refine⟨λi m σ' H'=>m=ds.length-i/\CInv X.K cf is c e Q ds a E H1 u p i σ' H',⟨_,rfl,zero_le _,R.csl nt js δ,E,{u with lk:=a++u.lk},[],[],((hs.ext x1).csl _ _).up (ϛ _) (Kp.new M _),⟨Ext.new M _,(G.lk _).new M _,λl _=>rfl⟩,rfl,le_refl _,hpi,zag,rfl,?_⟩,?_⟩;refine w1.mono λy S2 w2=>?_;simp![W_ok]at w2;split at w2;rename_i c;exact⟨by simpa using c,by simpa using w2⟩;exact w2.elim;rintro i m σ' H' ⟨rfl,hle,δ',ι',O,r,vs,hs',A,hlk,hln,s,hpv,ra,g⟩;rcases Nat.lt_or_eq_of_le hle with t|rfl;refine .inr ⟨wk.go i ι' H' O A t,CInv X.K cf is c e Q ds a E H1 u p (i+1),λσ2 H2 h=>⟨_,by lia,rfl,h⟩,λx H2 hy=>?_⟩;let⟨U,hh2,d,hd,rd⟩:=wk.yld i ι' H' O x H2 A t hy;have hs2:=hs'.ext U;have hp2:=U.keep s hpv (by simp);rw[zgV hd]at g;simp![zay]at g;cases ea:asgG is d δ' with
 |none=>rw[ea]at g;exact g.elim| some j=>
  rw[ea]at g;dsimp only at g;rw[zab]at g;refine⟨δ',ι',d,j,hs2,rd,ea,λσ2 hs3=>?_⟩;refine tT.run hs3 hh2 ((frT hcf c j O).w g) λb ι3 H3 S3 Y hs4 hh3 I=>?_;let⟨I,f3⟩:=I;have L:=Y.keep s hp2 (by simp);have n:=(Y.rest p _ s hp2).2;have B:∀{S4:R.St},Frm O S4->S4.lk=a++u.lk/\u.len<=S4.len/\∀l∈a,S4.get l=u.get l:=λf=>⟨f.lk.trans hlk,le_trans hln f.lens,λl hl=>(f.same l (by rw[hlk];exact mem_append_left _ hl) (lt_of_lt_of_le (wk.lks l hl) hln)).trans (A.lck l hl)⟩;cases b with
  |false=>simp![ύ,if_false]at I⊢;let⟨k1,k2,k3⟩:=B f3;exact⟨t,j,ι3,S3,r,vs,hs4,⟨(A.ext.trans U).trans Y,hh3,k3⟩,k1,k2,n,L,(ra.ext U).ext Y,I⟩| true=>
   simp![if_true]at I⊢;rw[zab]at I;refine tE.run hs4 hh3 ((frE hcf e j S3).w I) λz v ι4 H4 S4 x4 hs5 hh4 rz w4=>?_;let⟨w4,f4⟩:=w4;let⟨k1,k2,k3⟩:=B (f3.trans f4);have o:=x4.keep n L (by simp);have C:=(x4.rest p _ n L).2;rw[zab]at w4;have ra4:=((ra.ext U).ext Y).ext x4;have hlen:r.length<16777216:=by let⟨y,S5,_,w5⟩:=zf3 w4;have:=w5.1;simp at this;lia
   refine⟨vs,o,by rw[ra4.length,Χ];exact hlen,t,j,ι4,S4,r++[z],vs++[v],hs5.up (ϛ _) (Kp.tmp o),⟨(((A.ext.trans U).trans Y).trans x4).tmp M o,hh4.tmp C o,k3⟩,k1,k2,C,zag,?_,?_⟩;exact(RVs.append (es:=[z]) (us:=[v]) ra4 ⟨v,[],rfl,rz,rfl⟩).up (ϛ _) (Kp.tmp o);refine w4.mono λy S5 w5=>?_;simp![W_ok]at w5;simpa using w5
 refine .inl ⟨wk.stop _ ι' H' O A (le_refl _),?_⟩;rw[List.drop_length]at g;simp![zay,W_ok,ϡ]at g;exact q _ _ ⟨r,ι',{O with lk:=u.lk},p,vs,x1.trans A.ext,rfl,ra,s,hpv,A.rh.lk _,zmk G x1 M,g.2⟩
abbrev Ite(K:Frag)(a:Addr):It:=
 ⟨λi H=>∃b x,SqL K H a b/\b[i]?=Φ x,
  λi H v H'=>∃T x,H T=Ψ/\v=.ref T/\H'=upd H T (.tup [.int i,x])/\∀b,SqL K H a b->b[i]?=Φ x,
  λi H=>∃b,SqL K H a b/\b.length<=i⟩
def zj2{P:Υ}{w:ϋ}{K:Frag}{es:List Expr}{j:Nat}{pt:Pos}{e it a:Addr}(r:e≠it):Turn P w K (.Tuple es j pt) (Ite K a) [e,it] e
  (λi h=>(∃l,IsEnum h e it i l)/\h.IsListIter it a i) where
 mem:=by simp
 obj:=λi h st c d=>by let⟨⟨l,m⟩,⟨o4,B,_,d4⟩⟩:=st;simp![mem_cons,not_mem_nil,or_false]at d;rcases d with rfl|rfl;exact⟨_,m,λv z=>by cases z⟩;exact⟨_,B,λv z=>by rw[d4]at z;cases z⟩
 keep:=λi h h' st k=>by let⟨⟨l,m⟩,B⟩:=st;exact⟨⟨l,k e (by simp) _ m⟩,B.at λo x=>k it (by simp) o x⟩
 item:=by
  intro X C G J d i g s L H E I M st O;subst C G J;let⟨xs,x,y,hx⟩:=O;let⟨xv,Q,U,_⟩:=I.list y;let⟨u,hu,ru⟩:=Q.get hx;let⟨⟨l,A⟩,m⟩:=st;refine wpAny_pyNext_enum_item A m U.isList (x:=u) (by simpa using hu) r λh' a1 a3 a5 a6 Y=>?_;have hn:H s.heap.objs.size=Ψ:=I.hok.fresh (le_refl _);have I1:Inv X g L (upd H s.heap.objs.size (.tup [.int i,x])) {s with heap:=s.heap.push {cls:=.type "tuple",data:=.seq #[.int i s.toks,u]},toks:=s.toks+1}:=I.laid (t':=s.toks+1) (λb u e=>Λ _ e) (le_refl _) ⟨by rw[Χ];simp,[.int i s.toks,u],.cons ⟨_,rfl⟩ (.cons ru .nil),⟨_,Ζ _ rfl,rfl,_,rfl⟩⟩;have lt:∀{c o},s.heap.get? c=Φ o->c≠s.heap.objs.size:=λe=>ne_of_lt (Η e);have nf:∀c∈[e,it],c≠s.heap.objs.size:=by intro c d;simp![mem_cons,not_mem_nil,or_false]at d;rcases d with rfl|rfl;exact lt A;let⟨o,z,_⟩:=m;exact lt z
  have n:∀c∈[e,it],FpOk X g (upd H s.heap.objs.size (.tup [.int i,x])) c:=λc d=>by let⟨f0,f⟩:=M c d;exact⟨by rw[zad (nf c d)];exact f0,f⟩
  have two:∀{c:Addr},¬c∈[e,it]->c≠e/\c≠it:=λ{c} d=>by simp![mem_cons,not_mem_nil,or_false,not_or]at d;exact d
  have k2:∀c o,¬c∈[e,it]->(s.heap.push {cls:=.type "tuple",data:=.seq #[.int i s.toks,u]}).get? c=Φ o->h'.get? c=Φ o:=λc o d z=>by by_cases hs:c=s.heap.objs.size;subst hs;have e2:(s.heap.push {cls:=.type "tuple",data:=.seq #[.int i s.toks,u]}).get? s.heap.objs.size=_:=Ζ _ rfl;rw[e2]at z;cases z;exact a5;exact Y c o (two d).1 (two d).2 ((Heap.get?_push_ne _ _ _ hs).symm.trans z)
  have I2:Inv X g L (upd H s.heap.objs.size (.tup [.int i,x])) {s with heap:=h',toks:=s.toks+1}:=zc6 (s:={s with heap:=s.heap.push {cls:=.type "tuple",data:=.seq #[.int i s.toks,u]},toks:=s.toks+1}) (h':=h') (t':=s.toks+1) I1 k2 n;refine⟨_,rfl,?_⟩;refine wpAny_letOwnedTupleGo_enum a1 λh2' hz' t=>?_;refine⟨.ref s.heap.objs.size,upd H s.heap.objs.size (.tup [.int i,x]),zc6 (t':=s.toks+1) I2 (λc o d z=>t.extBut _ _ (two d).1 z) n,rfl,⟨_,x,hn,rfl,rfl,λxs' hx'=>by rw[I.list_inj hx' y];exact hx⟩,
   ⟨⟨_,hz'⟩,a3.extBut t.extBut (Ne.symm r)⟩,λc d=>(n c d).1⟩
 done:=by intro X C G J d i g s L H E I M st O;subst C G J;let⟨xs,y,hl⟩:=O;let⟨xv,Q,U,_⟩:=I.list y;let⟨⟨l,A⟩,m⟩:=st;have l1:=Q.length;refine wpAny_pyNext_enum_end (I.ok.hd d) A m U.isList (by simp;lia) λh' Y=>⟨rfl,zc6 (t':=s.toks) I (λc o d z=>Y c o (λq=>d (by simp[q])) z) M⟩
 self:=λ_ _ _ _ _ st h=>wpAny_pyIter_enum st.1.choose_spec h
abbrev zuA(K:Frag)(t:TA):TI:=λc H R=>t c H λd b=>∃a e,d=[.ref a]/\SqL K b a e/\R (Ite K a) b
def zqj(n:Gl X "enumerate")(o:X.mg "enumerate"=Ψ)(t:PA X [a] u)(hs:starEach [a] X.env=[(Δ,eval a X.env)]):
  PI X (.Tuple es j G) (.Call (.Name "enumerate" p) [a] [] pos) (zuA X.K u):=by
 intro b s v H R I h;refine Call_ (zdm I n o boot_enumerate (PyProof.Rows.callWith_type1 (thn (t pos b s v H _ I h) λJ g z=>?_) hs rfl));let⟨L,w,d,x,f⟩:=z;let⟨l,M,e,f,q⟩:=f;subst e;cases x with
 |cons r y=>
  cases y;cases r;let⟨O,Q,A,_⟩:=d.list f;refine call_enumerate_list A.isList λU i B C E=>?_;refine wpAny_pyIter_enum i ?_;refine⟨_,_,_,_,w,rfl,d.kept (t':=g.toks) E,zj2 (Nat.succ_ne_self _),⟨⟨_,i⟩,B⟩,λc m=>?_,q⟩;simp![mem_cons,not_mem_nil,or_false]at m;have:g.heap.objs.size<=c:=by rcases m with rfl|rfl;exact le_succ _;exact le_refl _
  exact d.fpOk this (d.hok.fresh this)
def zo6{K}(o:S.get l=Φ (.lst ds))(t:ι[l]?=Φ a):Wk K (Ite K a) (ds.mapIdx λi d=>zhC (.int i) d) [l] ι H S:=by
 have g:∀{b f m},Ltr K ι H S [l] b f m->∃c,SqL K f a c/\RVs K b f ds c:=λ{b f m} e=>by let⟨C,q,c,h,j⟩:=e.rh.obj l (.lst ds) ((e.lck l (by simp)).trans o);rw[zbO e.ext.pre t]at q;cases q;exact⟨c,SqL.of h,j⟩
 refine⟨λi b f m e n=>?_,λi b f m x H' e n y=>?_,λi b f m e n=>?_,λk v=>?_⟩;let⟨c,h,j⟩:=g e;rw[List.length_mapIdx]at n;have w:=j.length;exact⟨c,c[i]'(by lia),h,Ι _⟩;let⟨c,h,j⟩:=g e;let⟨T,u,r,rfl,rfl,z⟩:=y;let⟨d,A,B⟩:=j.get' (z c h);have s:Ext b f b (upd f T (.tup [.int i,u])):=Ext.new r _;refine⟨s,e.rh.new r _,zhC (.int i) d,by rw[List.getElem?_mapIdx,A];rfl,?_⟩;exact⟨T,[.int i,u],rfl,zag,.int i,[u],rfl,rfl,u,[],rfl,B.ext s,rfl⟩;let⟨c,h,j⟩:=g e;rw[List.length_mapIdx]at n;have w:=j.length;exact⟨c,h,by lia⟩;cases mem_singleton.mp v;exact get_lt o
end
end R
namespace R
open PySem PySem.Spec PyProof.Rows L2
section
variable[Mks]{T:Tab}{cf:CF}{k:Nat}{N:List Str}{sc:Scope}{X:Cx}{pos p:Pos}
def zjF(h:zdo S x=Φ r):∃l ds,x=.ref l/\S.get l=Φ (.lst ds)/\r=(ds.mapIdx λi d=>zhC (.int i) d,[l]):=by
 cases x with
 |ref l=>
  simp![zdo]at h;cases e:S.get l with
  |none=>rw[e]at h;exact nS h
  |some o=>rw[e]at h;cases o with|lst ds=>cases h;exact⟨l,ds,rfl,e,rfl⟩|_=>exact nS h
 |_=>exact nS h
def zpu(f:Gl X "enumerate"/\X.mg "enumerate"=Ψ)(m:PE X a (tE X.K cf n))(b:zao a=Γ):PI X (.Tuple es j I) (.Call (.Name "enumerate" p) [a] [] pos) (tI X.K cf (.enum n)):=by refine PI.imp (zqj f.1 f.2 (zaZ m b) (zam b [] X.env)) λJ H R z=>?_;let⟨L,ι,S,Q,o,s,w,q⟩:=z;change W (Out.bind _ _) _ at w;simp![zab] at w;refine tE.run o s w λd v e M t u x c y A=>?_;let⟨r,B,C⟩:=zax A;let⟨l,O,rfl,g,rfl⟩:=zjF B;let⟨a,h,rfl⟩:=y;let⟨U,i,E,G,Y⟩:=c.obj l _ g;rw[h]at i;cases i;exact⟨a,E,rfl,SqL.of G,q _ _ ⟨_,_,e,t,u,c,C,zo6 g h⟩⟩
end
end R
namespace R
open PySem PySem.Spec PyProof.Rows L2
variable[Mks]
abbrev noTab:Tab:={blt:=[],cons:=[],fns:=[]}
abbrev noCF:CF:=λ_ _ _=>.bad
def zix{K}:TabOk noTab noCF k P w K a base:=⟨λx h=>(by exact nB h),λx d h=>(by exact nS h),λf x b e h=>(by simp[noTab]at h),λf g S d i h=>(by cases h),λc x h=>(by simp[noTab]at h),λc m f h=>(by simp[noTab]at h),λc f j h=>(by simp[noTab]at h),λx m f h=>(by simp[noTab]at h),λh=>(by simp[noTab]at h),λx l h=>(by simp[noTab]at h)⟩
def zsq{K}(a:TB H):RH K [] H ⟨[],[],[]⟩:=⟨rfl,List.nodup_nil,λl o h=>(by simp[St.get]at h),a⟩
section
variable{X:Cx}{pins:List (Addr×Obj)}{σ:L2.St}{H H':Hp}{s:Β}
structure Own(X:Cx)(pins:List (Addr×Obj))(b:Addr):Prop where
 new:X.s₀.heap.objs.size<=b
 loc:b≠X.env.locals
 cel:∀x c,X.env.cells.lookup x=Φ c->c≠b
 pin:∀p∈X.pn++pins,p.1≠b
def Own.fresh(I:Inv X pins σ H s)(h:s.heap.objs.size<=b):Own X pins b:=by refine⟨le_trans I.sz h,λe=>?_,λx c e z=>?_,λp a z=>?_⟩;exact absurd (lt_of_lt_of_le I.lt h) (by rw[e];exact lt_irrefl _);let⟨v,o,d,_⟩:=I.cell x c e;exact absurd (lt_of_lt_of_le (Η d) h) (by rw[z];exact lt_irrefl _);exact absurd (lt_of_lt_of_le (Η (I.pin p a).1) h) (by rw[z];exact lt_irrefl _)
def Own.stk(o:Own X pins b)(I:Inv X pins σ H s):b∉frs X.stack:=λa=>by rcases mem_cons.mp (I.stkSub b a) with e|e;exact o.loc e;let⟨_,d,c,_⟩:=I.ok.funs.mem e;exact absurd (lt_of_lt_of_le (Η c) o.new) (lt_irrefl _)
def zaG{ch:List Addr}(I:Inv X pins σ H s)(f:∀b∈ch,Own X pins b)(g:∀b∈ch,H b=Ψ)(k:∀b o,b∉ch->s.heap.get? b=Φ o->h'.get? b=Φ o)(h:AllBare g'):
  Inv X pins σ H {s with heap:=h',gens:=g',drawn:=d',toks:=t'}:=by
 refine I.call (ch:=ch) ⟨λb o e n _ d=>k b o d e,λb o e n _ d=>⟨o.slots,k b o d e⟩,λb o _ n _=>n,λb o e d=>⟨o,k b o d e⟩,λ_ _ e=>e,λ_ _ _ e=>e,λb i e=>⟨#[],by rw[e];simp⟩⟩ ?_ h λb c=>⟨.inr (f b c).new,(f b c).loc,(f b c).cel,(f b c).pin⟩;intro a o e;refine(I.hok a o e).stay (λb u c q=>k b u (λz=>?_) q) (λ_ q=>q) λ_ _ q=>q;have:=g b z;rcases c with rfl|c;rw[e]at this;cases this;rw[c]at this;cases this
end
section
variable{X:Cx}{pins:List (Addr×Obj)}{σ:L2.St}{H H':Hp}{s:Β}{b:Addr}{o:HO}
def zbG(I:Inv X pins σ H s)(f:Own X pins b)(d:H b=Ψ)(ok:ObjOk X.prog X.w (upd H b o) s.heap b o):Inv X pins σ (upd H b o) s:=by
 have g:Un (frs X.stack) [b] H (upd H b o) s.heap s.heap:=⟨λc q e _ _ _=>e,λc q e _ _ _=>⟨q.slots,e⟩,λc q e n h=>by rw[zad (by simpa using h)];exact n,λc q e _=>⟨q,e⟩,
  λc i q=>by rw[zad (zah q d)];exact q,λc q u e=>by rw[zad (zah e d)];exact e,λc k q=>⟨#[],by rw[zad (zah q d),q];simp⟩⟩
 refine I.call' rfl g ?_ I.bare λc j=>?_;intro a u e;by_cases z:a=b;subst z;rw[zag]at e;cases e;exact ok;rw[zad z]at e;exact(I.hok a u e).stay (λ_ _ _ q=>q) (λc q=>by rw[zad (zah q d)];exact q) λc i q=>by rw[zad (zah q d)];exact q
 rw[mem_singleton.mp j];exact⟨.inr f.new,f.loc,f.cel,f.pin⟩
end
structure StepT(P:Addr)(H H':Hp):Prop where
 rest:∀a o,a≠P->H a=Φ o->H' a=Φ o
 tab:∀ps,H P=Φ (.tbl ps)->∃more,H' P=Φ (.tbl (ps++more))
def zcZ(h:TriplesOk l)(e:codeAmong pos (l++[a,b,c])=Φ v):codeAmong pos l=Φ v\/v=c:=by
 induction l using codeAmong.induct (pos:=pos) with
 |case1 d _ g _ k f cond=>simp![List.cons_append,codeAmong,cond,if_true]at e⊢;exact .inl e| case2 d _ g _ k f cond m=>simp![List.cons_append,codeAmong,cond,if_false]at e⊢;exact m (by simpa[TriplesOk]using h) e| case3 l i=>
  cases l with
  |nil=>right;unfold codeAmong at e;split at e;rename_i h;simp at h;let⟨_,_,rfl,rfl⟩:=h;split at e;cases e;rfl;simp[codeAmong]at e;exact nS e
  |cons x l=>exfalso;unfold TriplesOk at h;split at h;rename_i j;cases j;rename_i j;cases j;exact i _ _ _ _ _ _ rfl;exact h
def StepT.ext(st:StepT P H H')(b:H P=Φ (.tbl ps))(f:TB H'):Ext [] H [] H':=by
 have c:∀a o,H a=Φ o->(∀ps,o≠.tbl ps)->a≠P:=λa o e n z=>by rw[z,b]at e;cases e;exact n _ rfl
 refine⟨ϛ _,⟨λa h e=>st.rest a _ (c a _ e (by simp)) e,λa o u e=>st.rest a _ (c a _ e (by simp)) e,λ_=>f⟩,λa o _ e=>⟨?_,by simp⟩⟩;by_cases z:a=P;subst z;let⟨d,g⟩:=st.tab ps b;rw[b]at e;cases e;exact .inr ⟨⟨_,rfl⟩,_,g⟩;exact .inl (st.rest a o z e)
section
variable{X:Cx}{pins:List (Addr×Obj)}{σ:L2.St}{H:Hp}{s:Β}{c P:Addr}{params:Arguments}{scope:Scope}{lpos:Pos}
def BM.at_(b:BM X.mg X.base)(I:Inv X pins σ H s)(f:H P=Φ o):s.heap.BuiltinsAt X.mg P:=by let⟨a,d,g,h,i,j,k⟩:=b;let⟨l,e⟩:=I.bs a d j;exact⟨a,d,g,h,i,λz=>(by rw[z,f]at e;cases e),l,k⟩
abbrev zuR(H:Hp)(f:Addr)(name a:Str)(params:Arguments)(body:List Stmt)(scope:Scope)(b:List (Str×Addr)):Prop:=∃(i j d:Ξ) (e:Addr) (g:Obj) (h:Array Ξ) (t:Tok),H f=Φ (.frz (PySem.W.fnMade name a params body scope b d i e j) (.own 0))/\H e=Φ (.frz g (.own 0))/\g.data=.fields h/\h[1]?=Φ (.str a t)
def znU(I:Inv X pins σ H s)(bm:BM X.mg X.base)(x:X.env.code=.ref c)(hC:codeHdIn X.K c P=Γ)(tb:TabIn H P h)(O:closureFor scope X.env=pure i)(q:∀f H' s',Inv X pins σ H' s'->zuR H' f name h params body scope i->TabIn H' P h->StepT P H H'->Q (.ref f) s'):
  wpAny (model X.prog X.w) X.A (makeFunction name h params (.stmts body) scope X.env [] [] [] lpos fl) Q E s:=by
 let⟨B,p,T,h3⟩:=tb;have C:=PySem.W.codeHd_of_K I.kIn hC;have hP:s.heap.get? P=Φ (tabObj B):=I.hok P _ p;have k:=bm.at_ I p;have hg:s.heap.Ns mainGlobals X.mg:=I.mod.glob.keeps I.bk;have U:P<s.heap.objs.size:=Η hP;cases hf:codeAmong lpos B.toList with
 |some cv=>
  let⟨g,G,vs,t,rfl,Y,a3,a4⟩:=h3 lpos cv hf;refine PySem.W.makeFunction_hit O I.ok.glob hg x C hP T hf k λl m j tk hk hsz=>?_;have hn:H j.objs.size=Ψ:=I.hok.fresh hsz;have ow:Own X pins j.objs.size:=Own.fresh I hsz;have I1:Inv X pins σ H {s with heap:=j.push (PySem.W.fnMade name h params body scope i m ((X.mg "__name__").getD .none) g l),toks:=tk}:=zaG (g':=s.gens) (t':=tk) (d':=s.drawn) (ch:=[]) I (λb k=>by cases k) (λb k=>by cases k) (λb o _ e=>Λ _ (hk b o e)) I.bare;have I2:=zbG (o:=.frz (PySem.W.fnMade name h params body scope i m ((X.mg "__name__").getD .none) g l) (.own 0)) I1 ow hn ⟨Ζ _ rfl,_,Ζ _ rfl⟩;have st:∀a o,H a=Φ o->upd H j.objs.size (.frz (PySem.W.fnMade name h params body scope i m ((X.mg "__name__").getD .none) g l) (.own 0)) a=Φ o:=λa o e=>by rw[zad (zah e hn)];exact e
  refine q _ _ _ I2 ⟨_,l,m,g,G,vs,t,zag,st _ _ Y,a3,a4⟩ ?_ ⟨λa o _ e=>st a o e,λps' e=>⟨#[],by rw[st _ _ e];simp⟩⟩;exact TabIn.up ⟨B,p,T,h3⟩ (by rw[st _ _ p,p]) λb o u e=>st _ _ e
 |none=>
  have hgP:mainGlobals≠P:=λz=>by let⟨o,es,ep,e,hd,_⟩:=hg;rw[z,hP]at e;cases e;cases hd
  refine PySem.W.makeFunction_K O I.ok.glob hg x C hP T hf hgP k λg l m j tk hx w J hrec htb=>?_;let⟨c2,G,vs,t,e2,hoc,hd,hv⟩:=hrec;cases e2;generalize hfo:PySem.W.fnMade name h params body scope i m ((X.mg "__name__").getD .none) g l=L;have hfr:(j.push L).get? j.objs.size=Φ L:=by rw[<-hfo];exact Ζ _ rfl
  have hfn:H j.objs.size=Ψ:=I.hok.fresh (le_trans w (le_of_lt J));have hcn:H g=Ψ:=I.hok.fresh w;have nPc:P≠g:=ne_of_lt (lt_of_lt_of_le U w);have nPf:P≠j.objs.size:=ne_of_lt (lt_trans (lt_of_lt_of_le U w) J);have ncf:g≠j.objs.size:=ne_of_lt J;have st:∀a o,a≠P->H a=Φ o->upd (upd (upd H P (.tbl (B ++ #[rawInt lpos.line,rawInt lpos.col,.ref g]))) g (.frz G (.own 0))) j.objs.size (.frz L (.own 0)) a=Φ o:=λa o n e=>by rw[zad (zah e hfn),zad (zah e hcn),zad n];exact e
  have M:upd (upd (upd H P (.tbl (B ++ #[rawInt lpos.line,rawInt lpos.col,.ref g]))) g (.frz G (.own 0))) j.objs.size (.frz L (.own 0)) P=Φ (.tbl (B ++ #[rawInt lpos.line,rawInt lpos.col,.ref g])):=by rw[zad nPf,zad nPc,zag]
  have atC:upd (upd (upd H P (.tbl (B ++ #[rawInt lpos.line,rawInt lpos.col,.ref g]))) g (.frz G (.own 0))) j.objs.size (.frz L (.own 0)) g=Φ (.frz G (.own 0)):=by rw[zad ncf,zag]
  have N:∀a,H a=Ψ->a≠P:=λa e z=>by rw[z,p]at e;cases e
  have r:∀b o,b≠P->s.heap.get? b=Φ o->(j.push L).get? b=Φ o:=λb o n e=>Λ _ (hx b o n e);have inv:Inv X pins σ (upd (upd (upd H P (.tbl (B ++ #[rawInt lpos.line,rawInt lpos.col,.ref g]))) g (.frz G (.own 0))) j.objs.size (.frz L (.own 0))) {s with heap:=j.push L,toks:=tk}:=by refine I.call (g':=s.gens) (t':=tk) (d':=s.drawn) (ch:=[]) ⟨λb o e n _ _=>r b o (N b n) e,λb o e n _ _=>⟨o.slots,r b o (N b n) e⟩,λb o e n _=>?_,λb o e _=>?_,λb xs e=>?_,λb o u e=>?_,λb ps' e=>?_⟩ ?_ I.bare (λb k=>by cases k);have k:=Η e;rw[zad (ne_of_lt (lt_trans (lt_of_lt_of_le k w) J)),zad (ne_of_lt (lt_of_lt_of_le k w)),zad (N b n)];exact n;by_cases z:b=P;subst z;exact⟨_,Λ _ htb⟩;exact⟨o,r b o z e⟩;exact st b _ (λz=>by rw[z,p]at e;cases e) e;exact st b _ (λz=>by rw[z,p]at e;cases e) e;by_cases z:b=P;subst z;rw[p]at e;cases e;exact⟨_,M⟩;exact⟨#[],by rw[st b _ z e];simp⟩;intro a u e;by_cases zf:a=j.objs.size;subst zf;rw[zag]at e;cases e;exact⟨hfr,_,hfr⟩;rw[zad zf]at e;by_cases zc:a=g;subst zc;rw[zag]at e;cases e;exact⟨Λ _ hoc,_,Λ _ hoc⟩;rw[zad zc]at e;by_cases zp:a=P;subst zp;rw[zag]at e;cases e;exact Λ _ htb;rw[zad zp]at e;refine(I.hok a u e).stay (λb o k A=>r b o ?_ A) (λb A=>st b _ (λz=>by rw[z,p]at A;cases A) A) λb xs A=>st b _ (λz=>by rw[z,p]at A;cases A) A;rcases k with rfl|k;exact zp;intro z;rw[z,p]at k;cases k
  refine q _ _ _ inv ⟨_,l,m,g,G,vs,t,by rw[zag,<-hfo],atC,hd,hv⟩ ?_ ⟨λa o n e=>st a o n e,λps' e=>by rw[p]at e;cases e;exact⟨_,M⟩⟩;refine⟨_,M,?_,λpos v e=>?_⟩;have:=TriplesOk_snoc lpos.line lpos.col (.ref g) B.toList T;simpa using this;have A:codeAmong pos (B.toList++[rawInt lpos.line,rawInt lpos.col,.ref g])=Φ v:=by simpa using e
  rcases zcZ T A with z|z;let⟨d,od,ws,u,a1,Y,a3⟩:=h3 pos v z;exact⟨d,od,ws,u,a1,st _ _ (λy=>by rw[y,p]at Y;cases Y) Y,a3⟩;exact⟨g,G,vs,t,z,atC,hd,hv⟩
end
def zlm{K}(S:FnScope N ps scope)(g:Room (k+1) A)(h:Env0 P w K m base A outer s H)(p:s.heap.get? f=Φ (kla_obj name a c body scope [] B c' ct))(i:s.heap.CodeRec (.ref c') a)(C:BindsTo s (kla_fn name a c body scope [] B (.ref c') ct) args (ps.zip us))(r:Vals vs us)(G:vs.length=ps.length)(L:Room k (A.deeper (envOfC a scope s.heap.objs.size f (.ref c')))->PE (cxOf CX P w K m base N a scope f (.ref c') A outer s H E) body t)(M:t (start N vs) H Q):
  codeAny (model P w) A (.call (.ref f) args) (CR CX outer P w H s Q E) s:=by
 have l:s.heap.NoLimit:=h.mod.nolimit.keeps λb o e=>(h.bs b o e).1;have d:∀y∈ps.zip us,scope.names.lookup y.1=Φ .local\/(scope.names.lookup y.1=Φ .cell/\((cellsFrom (s.heap.objs.size+1) scope.names []).lookup y.1).isSome=Γ):=λj O=>(by let⟨x,v⟩:=j;exact (S.par x (of_mem_zip O).1).elim .inl λq=>.inr ⟨q,cellsFrom_some _ _ _ (.inl q)⟩);refine PySem.W.kla_callFunE g.depth p rfl S.co S.gen rfl i (C _ _ _ _ ?_);refine wpAny_newFunctionEnv_cells S.kind d λT U n x=>?_;subst U;refine⟨l.keeps x.toInCall.keep,PySem.W.kla_codeExpr ?_⟩;have I:Inv (cxOf CX P w K m base N a scope f (.ref c') A outer s H E) [] (start N vs) H n:=zec S g.hd h G r x;exact ό (L (g.deeper _) [] n (start N vs) H _ I M) (λu Y z=>(by let⟨v,H',J,rv,q⟩:=z;exact ⟨v,H',J.os,J.bare,J.base,J.hok,rv,q⟩)) λe Y hs=>hs
structure LamAt(H:Hp)(f:Addr)(name qual:Str)(params:Arguments)(body:Expr)(scope:Scope):Prop where
 ex:∃(pm ct:Ξ) (c':Addr) (oc:Obj) (vs:Array Ξ) (t:Tok),H f=Φ (.frz (kla_obj name qual params body scope [] pm c' ct) (.own 0))/\H c'=Φ (.frz oc (.own 0))/\oc.data=.fields vs/\vs[1]?=Φ (.str qual t)
def LamAt.up(L:LamAt H f name b a body scope)(k:Kp H H'):LamAt H' f name b a body scope:=by let⟨c,d,e,g,h,t,i,j,l⟩:=L.ex;exact⟨c,d,e,g,h,t,k.frzs _ _ _ i,k.frzs _ _ _ j,l⟩
@[reducible]def zf4(s:Β)(a:Addr)(vs:List Ξ)(e:Nat):Prop:=s.heap.get? a=Φ (seqObj "list" vs.toArray e)
def zfu(h:zf4 s a vs e)(g)(b:g vs.toArray=us.toArray):∃c,zf4 {s with heap:=s.heap.update a (Obj.mapSeq g)} a us c:=⟨_,by have:=get?_update_seq h g;rw[b]at this;exact this⟩
def zck{s:Β}(n:b≠a)(h:s.heap.get? b=Φ o):(s.heap.update a g).get? b=Φ o:=by rw[Heap.get?_update_ne _ _ _ _ n];exact h
structure KEnd(X:Cx)(pins:List (Addr×Obj))(σ:L2.St)(H:Hp)(D:Addr)(out:List Ξ)(s':Β):Prop where
 ex:∃H' e,Inv X pins σ H' s'/\Ext [] H [] H'/\H' D=Ψ/\zf4 s' D out e
def getD_mem{a:Type}{xs:List a}(d)(h:i<xs.length):xs[i]?=Φ (xs.getD i d):=by rw[ϊ,Ι h];rfl
section
variable{X:Cx}{pins:List (Addr×Obj)}{σ:L2.St}{H H':Hp}{s:Β}{b:Addr}{o:HO}
def zfR(c:H b=Ψ):Ext [] H [] (upd H b o):=⟨ϛ _,Kp.new c o,λa u _ e=>⟨.inl (by rw[zad (zah e c)];exact e),by simp⟩⟩
end
section
variable{X:Cx}{pins:List (Addr×Obj)}{σ:L2.St}{H:Hp}{s:Β}{c P:Addr}{params:Arguments}{body:Expr}{scope:Scope}{lpos:Pos}
def zny(I:Inv X pins σ H s)(bm:BM X.mg X.base)(p:X.env.code=.ref c)(hC:codeHdIn X.K c P=Γ)(tb:TabIn H P (X.env.qual ++ "<lambda>"))(L:defaultsOf params X.env=([],[]))(M:closureFor scope X.env=pure [])(q:∀f H' s',Inv X pins σ H' s'->LamAt H' f "<lambda>" (X.env.qual ++ "<lambda>") params body scope->TabIn H' P (X.env.qual ++ "<lambda>")->StepT P H H'->Q (.ref f) s'):
  wpAny (model X.prog X.w) X.A (eval (.Lambda params body scope lpos) X.env) Q E s:=by
 let⟨w,k,N,h3⟩:=tb;have C:=PySem.W.codeHd_of_K I.kIn hC;have hP:=I.hok P _ k;have i:=bm.at_ I k;have hg:=I.mod.glob.keeps I.bk;have O:=Η hP;refine PySem.W.kla_eval L ?_;cases hf:codeAmong lpos w.toList with
 |some cv=>
  let⟨g,x,vs,t,rfl,T,a3,a4⟩:=h3 lpos cv hf;refine PySem.W.kla_makeFunctionHit M I.ok.glob hg p C hP N hf i λj h U hk Y=>?_;have hn:=I.hok.fresh Y;have ow:=Own.fresh I Y;have I1:Inv X pins σ H {s with heap:=h.push (kla_obj "<lambda>" (X.env.qual ++ "<lambda>") params body scope [] ((X.mg "__name__").getD .none) g j),toks:=U}:=zaG (ch:=[]) I (λb i=>by cases i) (λb i=>by cases i) (λb o _ e=>Λ _ (hk b o e)) I.bare;have I2:=zbG (o:=.frz (kla_obj "<lambda>" (X.env.qual ++ "<lambda>") params body scope [] ((X.mg "__name__").getD .none) g j) (.own 0)) I1 ow hn ⟨Ζ _ rfl,_,Ζ _ rfl⟩;have st:∀a o,H a=Φ o->upd H h.objs.size (.frz (kla_obj "<lambda>" (X.env.qual ++ "<lambda>") params body scope [] ((X.mg "__name__").getD .none) g j) (.own 0)) a=Φ o:=λa o e=>by rw[zad (zah e hn)];exact e
  refine q _ _ _ I2 ⟨_,j,g,x,vs,t,zag,st _ _ T,a3,a4⟩ ?_ ⟨λa o _ e=>st a o e,λps' e=>⟨#[],by rw[st _ _ e];simp⟩⟩;exact TabIn.up ⟨w,k,N,h3⟩ (by rw[st _ _ k,k]) λb o u e=>st _ _ e
 |none=>
  have hgP:mainGlobals≠P:=λz=>by let⟨o,es,ep,e,hd,_⟩:=hg;rw[z,hP]at e;cases e;cases hd
  refine PySem.W.kla_makeFunction M I.ok.glob hg p C hP N hf hgP i λg j h U hx m A hrec htb=>?_;let⟨c2,x,vs,t,e2,hoc,hd,hv⟩:=hrec;cases e2;generalize hfo:kla_obj "<lambda>" (X.env.qual ++ "<lambda>") params body scope [] ((X.mg "__name__").getD .none) g j=B;have hfr:(h.push B).get? h.objs.size=Φ B:=by rw[<-hfo];exact Ζ _ rfl
  have hfn:=I.hok.fresh (le_trans m (le_of_lt A));have hcn:=I.hok.fresh m;have nPc:=ne_of_lt (lt_of_lt_of_le O m);have nPf:=ne_of_lt (lt_trans (lt_of_lt_of_le O m) A);have ncf:=ne_of_lt A;have st:∀a o,a≠P->H a=Φ o->upd (upd (upd H P (.tbl (w ++ #[rawInt lpos.line,rawInt lpos.col,.ref g]))) g (.frz x (.own 0))) h.objs.size (.frz B (.own 0)) a=Φ o:=λa o n e=>by rw[zad (zah e hfn),zad (zah e hcn),zad n];exact e
  have G:upd (upd (upd H P (.tbl (w ++ #[rawInt lpos.line,rawInt lpos.col,.ref g]))) g (.frz x (.own 0))) h.objs.size (.frz B (.own 0)) P=Φ (.tbl (w ++ #[rawInt lpos.line,rawInt lpos.col,.ref g])):=by rw[zad nPf,zad nPc,zag]
  have atC:upd (upd (upd H P (.tbl (w ++ #[rawInt lpos.line,rawInt lpos.col,.ref g]))) g (.frz x (.own 0))) h.objs.size (.frz B (.own 0)) g=Φ (.frz x (.own 0)):=by rw[zad ncf,zag]
  have J:∀a,H a=Ψ->a≠P:=λa e z=>by rw[z,k]at e;cases e
  have l:∀b o,b≠P->s.heap.get? b=Φ o->(h.push B).get? b=Φ o:=λb o n e=>Λ _ (hx b o n e);have inv:Inv X pins σ (upd (upd (upd H P (.tbl (w ++ #[rawInt lpos.line,rawInt lpos.col,.ref g]))) g (.frz x (.own 0))) h.objs.size (.frz B (.own 0))) {s with heap:=h.push B,toks:=U}:=by refine I.call (ch:=[]) ⟨λb o e n _ _=>l b o (J b n) e,λb o e n _ _=>⟨o.slots,l b o (J b n) e⟩,λb o e n _=>?_,λb o e _=>?_,λb xs e=>?_,λb o u e=>?_,λb ps' e=>?_⟩ ?_ I.bare (λb i=>by cases i);have i:=Η e;rw[zad (ne_of_lt (lt_trans (lt_of_lt_of_le i m) A)),zad (ne_of_lt (lt_of_lt_of_le i m)),zad (J b n)];exact n;by_cases z:b=P;subst z;exact⟨_,Λ _ htb⟩;exact⟨o,l b o z e⟩;exact st b _ (λz=>by rw[z,k]at e;cases e) e;exact st b _ (λz=>by rw[z,k]at e;cases e) e;by_cases z:b=P;subst z;rw[k]at e;cases e;exact⟨_,G⟩;exact⟨#[],by rw[st b _ z e];simp⟩;intro a u e;by_cases zf:a=h.objs.size;subst zf;rw[zag]at e;cases e;exact⟨hfr,_,hfr⟩;rw[zad zf]at e;by_cases zc:a=g;subst zc;rw[zag]at e;cases e;exact⟨Λ _ hoc,_,Λ _ hoc⟩;rw[zad zc]at e;by_cases zp:a=P;subst zp;rw[zag]at e;cases e;exact Λ _ htb;rw[zad zp]at e;refine(I.hok a u e).stay (λb o i r=>l b o ?_ r) (λb r=>st b _ (λz=>by rw[z,k]at r;cases r) r) λb xs r=>st b _ (λz=>by rw[z,k]at r;cases r) r;rcases i with rfl|i;exact zp;intro z;rw[z,k]at i;cases i
  refine q _ _ _ inv ⟨_,j,g,x,vs,t,by rw[zag,<-hfo],atC,hd,hv⟩ ?_ ⟨λa o n e=>st a o n e,λps' e=>by rw[k]at e;cases e;exact⟨_,G⟩⟩;refine⟨_,G,?_,λpos v e=>?_⟩;have:=TriplesOk_snoc lpos.line lpos.col (.ref g) w.toList N;simpa using this;have r:codeAmong pos (w.toList++[rawInt lpos.line,rawInt lpos.col,.ref g])=Φ v:=by simpa using e
  rcases zcZ N r with z|z;let⟨d,od,ws,u,a1,T,a3⟩:=h3 pos v z;exact⟨d,od,ws,u,a1,st _ _ (λy=>by rw[y,k]at T;cases T) T,a3⟩;exact⟨g,x,vs,t,z,atC,hd,hv⟩
end
abbrev oneK(k:VK)(vs:List V)(H:Hp):Prop:=match vs with | [w]=>k w H|_=>False
def zdG(h:oneK k vs H):∃w,vs=[w]/\k w H:=by unfold oneK at h;split at h;exact⟨_,rfl,h⟩;exact h.elim
abbrev tLam(q:Str)(a:Arguments)(body:Expr)(scope:Scope):TE:=λb H Q=>TB H/\∀f H',LamAt H' f "<lambda>" q a body scope->Ext [] H [] H'->Q (.ref f) H'
section
variable{X:Cx}{o:Expr}{p apos cpos kpos lpos pos:Pos}{td:TE}{c P:Addr}{params:Arguments}{body:Expr}{scope:Scope}
def zoB(mk:Maker X c P)(a:defaultsOf params X.env=([],[]))(d:closureFor scope X.env=pure []):PE X (.Lambda params body scope lpos) (tLam (X.env.qual ++ "<lambda>") params body scope):=by intro i s l H Q I h;let⟨m,j,_⟩:=id (h.1 _ mk.mem);refine zny I mk.bm mk.code mk.hd (h.1 _ mk.mem) a d λf H' n J L T S=>⟨.ref f,H',J,rfl,h.2 f H' L (S.ext j λp g=>?_)⟩;by_cases z:p.1=P;rw[mk.one p g z,z];exact T;let⟨q,k,_⟩:=id (h.1 p g);exact(h.1 p g).up ((S.rest _ _ z k).trans k.symm) λb o u e=>S.rest b _ (λy=>by rw[y]at e;rw[j]at e;cases e) e
end
end R
namespace R
open PySem PySem.Spec PyProof.Rows L2
section
variable{ρ:Type}{lt:ρ->ρ->Prop}[DecidableRel lt]
abbrev rkG(lt:ρ->ρ->Prop)[DecidableRel lt](rows:List ρ)(k:ρ):Int:=((rows.filter λx=>decide (lt x k)).length:Nat)
structure Ord(lt:ρ->ρ->Prop):Prop where
 irr:∀r,¬lt r r
 tra:∀{a b c},lt a b->lt b c->lt a c
 tot:∀{a b},a≠b->lt a b\/lt b a
def zik(o:Ord lt)(c:a∈rows)(h:lt a b):rkG lt rows a<rkG lt rows b:=by unfold rkG;have:=zgQ (q:=λx=>decide (lt x b)) (l:=rows) (a:=a) (λx _ d=>decide_eq_true (o.tra (of_decide_eq_true d) h)) c (decide_eq_false (o.irr a)) (decide_eq_true h);lia
def zkv(o:Ord lt)(c:a∈rows)(d:b∈rows):lt a b↔rkG lt rows a<rkG lt rows b:=by refine⟨zik o c,λh=>?_⟩;by_cases e:a=b;lia;rcases o.tot e with z|z;exact z;have:=zik o d z;lia
def zpZ(o:Ord lt)(c:a∈rows)(d:b∈rows)(h:rkG lt rows a=rkG lt rows b):a=b:=by by_cases e:a=b;exact e;rcases o.tot e with z|z;have:=zik o c z;lia;have:=zik o d z;lia
end
variable[Mks]
section
variable{ρ:Type}[Inhabited ρ]{lt:ρ->ρ->Prop}[DecidableRel lt]{RA KA:Hp->Addr->ρ->Prop}{κ:SortKind}
variable{X:Cx}{pins:List (Addr×Obj)}{σ:L2.St}{H:Hp}{s:Β}{A':ϐ}{f D kS:Addr}{rows:List ρ}
structure SortK(X:Cx)(pins:List (Addr×Obj))(σ:L2.St)(A':ϐ)(H:Hp)(f:Addr)(RA KA:Hp->Addr->ρ->Prop)(κ:SortKind)(lt:ρ->ρ->Prop)[DecidableRel lt]:Prop where
 upR:∀{H1 H2 a r},Kp H1 H2->RA H1 a r->RA H2 a r
 upK:∀{H1 H2 b r},Kp H1 H2->KA H1 b r->KA H2 b r
 call:∀{H1 s1 a r},Inv X pins σ H1 s1->Ext [] H [] H1->RA H1 a r->wpAny (model X.prog X.w) A' (call (.ref f) [.ref a]) (λy s'=>∃b H',y=.ref b/\Inv X pins σ H' s'/\KA H' b r/\Ext [] H1 [] H'/\Un (frs X.stack) [] H1 H' s1.heap s'.heap) (λ_ _=>False) s1
 kind:∀{H1 s1}{ks:List Ξ}{Q:SortKind->Β->Prop}{E:Ξ->Β->Prop},Inv X pins σ H1 s1->(∀k∈ks,∃b r,k=Ξ.ref b/\KA H1 b r)->1<=ks.length->Q κ s1->wpAny (model X.prog X.w) A' (keyKind' ks.toArray) Q E s1
 less:∀{H1 s1 b c r r'}{Q:Bool->Β->Prop}{E:Ξ->Β->Prop},Inv X pins σ H1 s1->KA H1 b r->KA H1 c r'->Q (decide (lt r r')) s1->wpAny (model X.prog X.w) A' (keyLt' κ (.ref b) (.ref c)) Q E s1
 ord:Ord lt
structure KeyG(KA:Hp->Addr->ρ->Prop)(rows:List ρ)(H:Hp)(ks:List Ξ)(i:Nat):Prop where
 len:ks.length=i
 at_:∀(j:Nat)(k:Ξ),ks[j]?=Φ k->∃(b:Addr) (r:ρ),rows[j]?=Φ r/\k=Ξ.ref b/\KA H b r
def KeyG.snoc(e:SortK X pins σ A' H f RA KA κ lt)(K:KeyG KA rows g ks i)(x:Ext [] g [] d)(l:rows[i]?=Φ r)(m:KA d b r):KeyG KA rows d (ks++[.ref b]) (i+1):=by
 refine⟨by simp[K.len],λj k a=>?_⟩;by_cases h:j<ks.length;rw[getElem?_append_left h]at a;let⟨c,q,n,o,p⟩:=K.at_ j k a;exact⟨c,q,n,o,e.upK x.kp p⟩;have:j=ks.length:=by have:=(Α.mp a).1;simp at this;lia
 subst this;simp at a;exact⟨b,r,by rw[K.len];exact l,a.symm,m⟩
structure KJG(KA:Hp->Addr->ρ->Prop)(X:Cx)(pins:List (Addr×Obj))(σ:L2.St)(H:Hp)(D kS:Addr)(e1:Nat)(rows:List ρ)(i:Nat)(s':Β):Prop where
 ex:∃H' ks e,Inv X pins σ H' s'/\Ext [] H [] H'/\H' D=Ψ/\H' kS=Ψ/\zf4 s' D [] e1/\zf4 s' kS ks e/\KeyG KA rows H' ks i
def znB(h:SortK X pins σ A' H f RA KA κ lt){e1 i:Nat}{a:Addr}{r:ρ}(oD:Own X pins D)(u:Own X pins kS)(E:D≠kS)(G:RA H a r)(j:rows[i]?=Φ r)(T:i<64){s':Β}(J:KJG KA X pins σ H D kS e1 rows i s'){items:Array Ξ} :
  wpAny (model X.prog X.w) A' (do
   match <-(call (.ref f) [.ref a]).attempt with
   |.ok k=>Builtin.List.listUpdate (.ref kS) (·.push k);pure (ForInStep.yield PUnit.unit)| .error e=>
    rule "list.sort.key-raised"
    let c <-Builtin.List.listItems (.ref kS)
    Builtin.List.listUpdate (.ref kS) λ_=>#[]
    letGo c.toList.reverse [e]
    Builtin.List.listUpdate (.ref D) λ_=>items;throw e) (λq l=>q=.yield ⟨⟩/\KJG KA X pins σ H D kS e1 rows (i+1) l) (λ_ _=>False) s':=by
 let⟨U,m,e,I,x,v,n,lD,p,w⟩:=J.ex;refine Θ (wpAny_attempt (ό (h.call I x (h.upR x.kp G)) ?_ λ_ _ z=>z.elim));rintro y L ⟨b,M,rfl,A,t,B,d⟩;have N:=d.keep D _ lD v (oD.stk I) (by simp);have C:=d.keep kS _ p n (u.stk I) (by simp);have Y:=w.len;refine Θ (listUpdate_at C rfl (Ω ⟨rfl,?_⟩) (by rw[size_toArray,Χ];lia) (by rw[Array.size_push,size_toArray,Χ];lia));let⟨O,Q⟩:=zfu (us:=m++[.ref b]) C (·.push (.ref b)) (by simp);refine⟨M,m++[.ref b],O,?_,x.trans B,d.free D _ lD v (by simp),d.free kS _ p n (by simp),zck E N,Q,w.snoc h B j t⟩;exact zaG A (λb g=>by rw[mem_singleton.mp g];exact u) (λb g=>by rw[mem_singleton.mp g];exact d.free kS _ p n (by simp)) (λb o g q=>zck (by simpa using g) q) A.bare
def zrO{st}(d:(arrOf st).map (·.2)=out.toArray)(hz:out.length<64)(k:i<64)(l:failedOf st=Ψ)(oD:Own X pins D)(m:Own X pins kS)(n:D≠kS)(J:KJG KA X pins σ H D kS e1 rows i s)(h:∀s',KEnd X pins σ H D out s'->P (.done (.ret .none)) s'):wpAny (model X.prog X.w) A' (ksk_tail D Δ e1 (.ref kS) st) P E s:=by
 let⟨p,r,e,I,x,j,t,lD,u,v⟩:=J.ex;have A:r.length<64:=by rw[v.len];exact k
 have w:=zaG (h':=s.heap.update kS (Obj.mapSeq λ_=>#[])) (g':=s.gens) (t':=s.toks) (d':=s.drawn) (ch:=[kS]) I (λb a=>by rw[mem_singleton.mp a];exact m) (λb a=>by rw[mem_singleton.mp a];exact t) (λb o a q=>zck (by simpa using a) q) I.bare;have c:zf4 {s with heap:=s.heap.update kS (Obj.mapSeq λ_=>#[])} D [] e1:=zck n lD;let⟨y,g⟩:=zfu (us:=out) c (λ_=>out.toArray) rfl;have z:=zaG (h':=(s.heap.update kS (Obj.mapSeq λ_=>#[])).update D (Obj.mapSeq λ_=>out.toArray)) (g':=s.gens) (t':=s.toks) (d':=s.drawn) (ch:=[D]) w (λb a=>by rw[mem_singleton.mp a];exact oD) (λb a=>by rw[mem_singleton.mp a];exact j) (λb o a q=>zck (by simpa using a) q) I.bare;unfold ksk_tail;rw[d,l];refine Θ (listUpdate_at u rfl (Θ (wpAny_letGo (Θ (seqEpoch_at c rfl (Θ (listUpdate_at c rfl ?_ (by simp) (by simp![ύ,if_false,size_toArray,Χ];lia))))))) (by rw[size_toArray,Χ];lia) (by simp));simp![bne_self_eq_false,ύ,if_false];exact Ω (h _ ⟨p,y,z,x,j,g⟩)
structure PlcG(lt:ρ->ρ->Prop)(rows:List ρ)(p:List Nat):Prop where
 lt':∀i∈p,i<rows.length
 asc:(p.map λi=>rows.getD i default).Pairwise lt
 perm:p.Perm (List.range rows.length)
def endG(u:SortK X pins σ A' H f RA KA κ lt){vs:List Ξ}(hl:vs.length=rows.length)(q:rows.length<64)(nd:rows.Nodup)(oD:Own X pins D)(oK:Own X pins kS)(ne:D≠kS)(J:KJG KA X pins σ H D kS e1 rows rows.length s)(h:∀p s',PlcG lt rows p->KEnd X pins σ H D (p.map λi=>vs.getD i Ξ.none) s'->P (.done (.ret .none)) s'):
  wpAny (model X.prog X.w) A' (Builtin.List.listItems (.ref kS)>>=λv=>ksk_end D Δ vs.toArray e1 (.ref kS) v) P E s:=by
 let⟨H1,n,e,I,x,d1,k1,lD,lK,L⟩:=id J.ex;refine Θ (listItems_at lK rfl ?_);unfold ksk_end;simp![ύ,if_false];have o:n.length=vs.length:=by rw[L.len,hl]
 by_cases t:vs.toArray.size<2;rw[if_pos t,if_pos t];have w:rows.length<2:=by rw[<-hl];simpa using t
 refine Θ (Ω (Θ ?_));rw[StateT.run_pure];have eo:(arrOf (SortSt.mk' general' (n.toArray.zip vs.toArray) #[] 7 Ψ)).map (·.2)=vs.toArray:=by show((n.toArray.zip vs.toArray).map (·.2))=vs.toArray;apply Array.toList_inj.mp;rw[Array.toList_map,ksk_zip];show(n.zip vs).map Prod.snd=vs;exact List.map_snd_zip (by lia)
 have N:((List.range rows.length).map λi=>vs.getD i Ξ.none)=vs:=by apply List.ext_getElem;simp[hl];intro i g1 g2;simp[g2]
 refine Ω (zrO (i:=rows.length) eo (by lia) q rfl oD oK ne J λs' K=>h (List.range rows.length) s' ⟨λi d=>mem_range.mp d,?_,List.Perm.refl _⟩ (by rw[N];exact K));rw[pairwise_map,List.pairwise_iff_getElem];intro i j d l y;simp at d l;lia;have w:2<=vs.length:=by simpa using t
 rw[if_neg t,if_neg t];have hk:∀k∈n,∃b r,k=Ξ.ref b/\KA H1 b r:=λk hm=>by let⟨j,l⟩:=List.mem_iff_getElem?.mp hm;let⟨b,r,_,M,O⟩:=L.at_ j k l;exact⟨b,_,M,O⟩
 refine Θ (u.kind I hk (by lia) ?_);refine Θ (ό (PySem.W.kat_run (Q:=λm s'=>∃p:Array Nat,GP rows.length p/\AscTo (λi=>rkG lt rows (rows.getD i default)) p rows.length/\s'=s/\arrOf m=p.map (PySem.W.kas_item (n.toArray.zip vs.toArray))/\failedOf m=Ψ)
  (G:=λp s'=>GP rows.length p/\AscTo (λi=>rkG lt rows (rows.getD i default)) p rows.length/\s'=s) o w (by lia) (λp m s' _ a2 a3 T=>⟨p,T.1,T.2.1,T.2.2,a2,a3⟩) ?_) ?_ λ_ _ z=>z)
 rw[hl];refine zpr (r:=λi=>rkG lt rows (rows.getD i default)) (λi j d l e=>?_) (λi j C d l U=>?_) (by lia) λp g a=>⟨g,a,rfl⟩;have:=zpZ u.ord (mem_of_getElem? (getD_mem default d)) (mem_of_getElem? (getD_mem default l)) e;have M:=getD_mem (default:ρ) d;have O:=getD_mem (default:ρ) l;rw[this,<-O]at M;exact(List.getElem?_inj d nd).mp M
 . let⟨b,r,b1,b2,b3⟩:=L.at_ i _ (getD_mem Ξ.none (by lia));let⟨c,Y,c1,c2,c3⟩:=L.at_ j _ (getD_mem Ξ.none (by lia));have N:rows.getD i default=r:=by rw[ϊ,b1];rfl
   have er':rows.getD j default=Y:=by rw[ϊ,c1];rfl
   show wpAny (model X.prog X.w) A' (keyLt' κ (n.getD i Ξ.none) (n.getD j Ξ.none)) C (λ_ _=>False) s;rw[b2,c2];refine u.less I b3 c3 ?_;have:decide (lt r Y)=decide (rkG lt rows r<rkG lt rows Y):=by apply Bool.eq_iff_iff.mpr;rw[decide_eq_true_eq,decide_eq_true_eq];exact zkv u.ord (mem_of_getElem? b1) (mem_of_getElem? c1)
   rw[this]
   (try dsimp only at U)
   rw[N,er']at U;exact U
 rintro⟨⟨⟩,m⟩ s' ⟨p,g,a,rfl,ar,fl⟩;refine zrO (i:=rows.length) (PySem.W.kat_snds o ar) ?_ q fl oD oK ne J λs' K=>h p.toList s' ⟨λi d=>mem_range.mp (g.list.mem_iff.mp d),?_,g.list⟩ K;rw[length_map,length_toList,g.size];exact q;rw[pairwise_map,List.pairwise_iff_getElem];intro i j d l y;rw[length_toList,g.size]at d l;have A:i<p.size:=by rw[g.size];exact d
 have B:j<p.size:=by rw[g.size];exact l
 have m1:rows.getD p.toList[i] default∈rows:=mem_of_getElem? (getD_mem default (by have:=g.lt d;rw[zbq p A]at this;exact this));have m2:rows.getD p.toList[j] default∈rows:=mem_of_getElem? (getD_mem default (by have:=g.lt l;rw[zbq p B]at this;exact this));have:=a i j y l;unfold kAt at this;rw[zbq p A,zbq p B]at this;exact(zkv u.ord m1 m2).mpr this
def zuc{as:List Addr}(l:SortK X pins σ A' H f RA KA κ lt)(hl:as.length=rows.length)(e:rows.length<64)(o:rows.Nodup)(oD:Own X pins D)(m:Own X pins kS)(n:D≠kS)(q:∀(j:Nat)(a:Addr),as[j]?=Φ a->∃r:ρ,rows[j]?=Φ r/\RA H a r)(J:KJG KA X pins σ H D kS e1 rows 0 s)(h:∀p s',PlcG lt rows p->KEnd X pins σ H D (p.map λi=>(as.map Ξ.ref).getD i Ξ.none) s'->P (.done (.ret .none)) s'):
  wpAny (model X.prog X.w) A' (ksk_rest D (.ref f) Δ (as.map Ξ.ref).toArray e1 (.ref kS)) P E s:=by
 unfold ksk_rest;refine Θ (wpAny_rule ?_);rw[List.forIn_toArray];refine Θ (ksk_fold (λi s'=>KJG KA X pins σ H D kS e1 rows i s') (as.map Ξ.ref) 0 s J (λj v s' b c=>?_) λs' c=>?_);rw[getElem?_map]at b;cases g:as[j]? with
 |none=>rw[g]at b;exact nS b
 |some a=>rw[g]at b;cases b;let⟨r,d,k⟩:=q j a g;have t:=(Α.mp d).1;rw[zero_add]at c⊢;exact ό (znB l oD m n k d (by lia) c (items:=(as.map Ξ.ref).toArray)) (λ_ _ z=>z) λ_ _ z=>z.elim
 rw[zero_add,length_map,hl]at c;exact endG l (vs:=as.map Ξ.ref) (by simpa using hl) e o oD m n c h
def zrM{as:List Addr}(I:Inv X pins σ H s)(v:SortK X pins σ A' H f RA KA κ lt)(hl:as.length=rows.length)(d:rows.length<64)(w:rows.Nodup)(oD:Own X pins D)(l:H D=Ψ)(lD:zf4 s D (as.map Ξ.ref) C)(x:∀(j:Nat)(a:Addr),as[j]?=Φ a->∃r:ρ,rows[j]?=Φ r/\RA H a r)(h:∀p s',PlcG lt rows p->KEnd X pins σ H D (p.map λi=>(as.map Ξ.ref).getD i Ξ.none) s'->P (.done (.ret .none)) s'):wpAny (model X.prog X.w) A' (ksk_tree D (.ref f) Δ) P E s:=by
 let⟨e1,m⟩:=zfu (us:=[]) lD (λ_=>#[]) rfl;have hD:D<s.heap.objs.size:=Η lD;have y:=zaG (h':=s.heap.update D (Obj.mapSeq λ_=>#[])) (g':=s.gens) (t':=s.toks) (d':=s.drawn) (ch:=[D]) I (λb c=>by rw[mem_singleton.mp c];exact oD) (λb c=>by rw[mem_singleton.mp c];exact l) (λb o c q=>zck (by simpa using c) q) I.bare;have n:∀(e t:Obj) b o,(s.heap.update D (Obj.mapSeq λ_=>#[])).get? b=Φ o->(((s.heap.update D (Obj.mapSeq λ_=>#[])).push e).push t).get? b=Φ o:=λe t b o q=>Λ _ (Λ _ q);have g:∀e:Obj,((s.heap.update D (Obj.mapSeq λ_=>#[])).push e).objs.size=s.heap.objs.size+1:=λe=>by rw[size_push',Heap.size_update]
 have u:(as.map Ξ.ref).length<64:=by rw[length_map,hl];exact d
 unfold ksk_tree;refine Θ (listItems_at lD rfl (Θ (listUpdate_at lD rfl (Θ (seqEpoch_at m rfl (Θ (wpAny_newTuple (Θ (wpAny_newList (ϙ ?_) (zero_le _))) (by rw[Χ];show(as.map Ξ.ref).length<=_;lia))))) (by rw[size_toArray,Χ];lia) (zero_le _))));have z:=zaG (h':=((s.heap.update D (Obj.mapSeq λ_=>#[])).push (seqObj "tuple" (as.map Ξ.ref).toArray 0)).push (seqObj "list" #[] 0)) (g':=s.gens) (t':=s.toks) (d':=s.drawn) (ch:=[]) y (λb c=>by cases c) (λb c=>by cases c) (λb o _ q=>n _ _ b o q) I.bare;have A:Own X pins ((s.heap.update D (Obj.mapSeq λ_=>#[])).push (seqObj "tuple" (as.map Ξ.ref).toArray 0)).objs.size:=by rw[g];exact Own.fresh I (le_succ _)
 refine zuc (kS:=((s.heap.update D (Obj.mapSeq λ_=>#[])).push (seqObj "tuple" (as.map Ξ.ref).toArray 0)).objs.size) v hl d w oD A (by rw[g];exact ne_of_lt (Ϟ hD)) x ?_ h;exact⟨H,[],0,z,Ext.refl _ _,l,I.hok.fresh (by rw[g];exact le_succ _),n _ _ _ _ m,Ζ _ rfl,rfl,λj k B=>by simp at B⟩
end
end R
namespace R
open PySem PySem.Spec PyProof.Rows L2
section
variable{prog:Υ}{w:ϋ}{A:ϐ}{E:Ξ->Β->Prop}{s:Β}
abbrev IsPr(prog:Υ)(w:ϋ)(h:Heap)(k:K3)(a:Addr):Prop:=k.1=0/\∃o u b n,h.get? a=Φ o/\o.cls=.type "tuple"/\o.data=.seq #[.ref b,.int k.2.2 u] n/\IsTupleKey (zaq prog w) h (k.2.1.map Sum.inl) b
def zuf(o:A.units<cLine)(t:IsPr prog w s.heap x a)(u:IsPr prog w s.heap y b)(q:Q (decide (Lt3 x y)) s):
  wpAny (model prog w) A (keyLt' (tuples' Δ) (.ref a) (.ref b)) Q E s:=by
 let⟨p,I,J,b1,L,l,_,i,c⟩:=t;let⟨r,M,N,b2,O,m,_,j,d⟩:=u;let⟨T,e,f⟩:=x;let⟨U,g,h⟩:=y;dsimp only at i j c d p r;subst p r;refine PySem.W.kat_lt l i m j (kat_cons (wpAny_eqBool_tuple o c d ?_));by_cases k:e=g;rw[show decide ((e.map Sum.inl:List Key)=g.map Sum.inl)=Γ from decide_eq_true (by rw[k])];refine PySem.W.kat_yes (kat_cons (wpAny_eqBool_int ?_));by_cases n:f=h;rw[show(f==h)=Γ by simp[n]];refine PySem.W.kat_yes (PySem.W.kat_nil ?_);rw[decide_eq_false (by subst k n;exact zcn _)]at q;exact q;rw[show(f==h)=Δ by simp[n]];refine kat_no (kat_one _ _ (wpAny_lt_int ?_));have:decide (Lt3 (0,e,f) (0,g,h))=decide (f<h):=by apply Bool.eq_iff_iff.mpr;rw[decide_eq_true_eq,decide_eq_true_eq];subst k;unfold Lt3;dsimp only;rw[zdc];simp
 rw[this]at q;exact q;rw[show decide ((e.map Sum.inl:List Key)=g.map Sum.inl)=Δ from decide_eq_false (λz=>k (zhM z))];let⟨Y,v,B⟩:=zj4 c;let⟨i2,C,G⟩:=zj4 d;refine kat_no (kat_one _ _ (HT.lt_tupInts v C B G o ?_));have:decide (Lt3 (0,e,f) (0,g,h))=HT.lexLt e g:=by rw[<-zle];apply Bool.eq_iff_iff.mpr;rw[decide_eq_true_eq];unfold Lt3;dsimp only;simp[k]
 rw[this]at q;exact q
def zkR:∀{vs:List Ξ},(∀v∈vs,∃c k,v=Ξ.ref c/\IsPr prog w h k c)->∃a:List Ξ,KatTups h vs a/\a.length=vs.length/\∀v∈a,∃(b:Addr) (ks:List Key),v=Ξ.ref b/\IsTupleKey (zaq prog w) h ks b
 | [],_=>⟨[],KatTups.nil,rfl,λv h=>by cases h⟩| v::vs,e=>by let⟨c,k,rfl,z,o,u,b,n,f,g,i,j⟩:=e v (by simp);let⟨a,l,m,p⟩:=zkR (vs:=vs) λx q=>e x (by simp[q]);refine⟨.ref b::a,KatTups.cons f g i rfl l,by simp[m],λv d=>?_⟩;rcases mem_cons.mp d with rfl|d;exact⟨b,_,rfl,j⟩;exact p v d
def zqf{vs:List Ξ}(d:∀v∈vs,∃c k,v=Ξ.ref c/\IsPr prog w s.heap k c)(j:1<=vs.length)(q:Q (tuples' Δ) s):wpAny (model prog w) A (keyKind' vs.toArray) Q E s:=by let⟨l,e,m,f⟩:=zkR d;refine PySem.W.kat_kind (T:=.type "tuple") e (by lia) (λv g=>?_) rfl q;let⟨b,p,rfl,o,a,n,h,i,r,t⟩:=f v g;have:Looks (model prog w) s.heap (typeOf (.ref b)) o.cls:=(Looks.ld h).andThen .now;rw[i]at this;exact this
end
abbrev Key2(H:Hp)(c:Addr)(k:K3):Prop:=k.1=0/\∃b,H c=Φ (.tup [.ref b,.int k.2.2])/\H b=Φ (.tup (k.2.1.map V.int))
abbrev Let2(H:Hp)(a:Addr)(k:K3):Prop:=k.1=0/\∃t b w,H a=Φ (.tup [t,.ref b,.int k.2.2,w])/\H b=Φ (.tup (k.2.1.map V.int))
def zhI(ok:HOk P w H h)(e:Key2 H c k):IsPr P w h k c:=by let⟨z,b,f,g⟩:=e;let⟨_,i,d,o,j,l,n,m⟩:=(show ObjOk P w H h c (.tup _) from ok c _ f);cases d with| @cons _ p _ s q d=>cases d with| @cons _ t _ v r d=>cases d;cases(show p=Ξ.ref b from q);let⟨u,rfl⟩:=r;refine⟨z,o,u,b,n,j,l,m,?_⟩;have:=zgF (ks:=k.2.1.map Sum.inl) ok (a:=b) (by rw[map_map];exact g);exact this
variable[Mks]
structure KeyBody(body:Expr):Prop where
 ex:∃p1 p2 p3 p4 p5 j1 j2,body=.Subscript (.Name "letter" p1) (.Slice (Φ (.Constant (.int 1) j1 p2)) (Φ (.Constant (.int 3) j2 p3)) Ψ p4) p5
section
variable{X:Cx}{pins:List (Addr×Obj)}{σ:L2.St}{H:Hp}{s:Β}{A':ϐ}{f:Addr}{name qual:Str}{params:Arguments}{body:Expr}{scope:Scope}
def znw(I:Inv X pins σ H s)(A:Room 2 A')(B:Env0 X.prog X.w X.K X.mg X.base A' X.stack s H)(L:LamAt H f name qual params body scope)(hs:FnScope ["letter"] ["letter"] scope)(C:∀(d G ct u:Ξ),bindArgs (kla_fn name qual params body scope [] d G ct) ⟨[u],[]⟩=pure [(("letter":Str),u)])(J:KeyBody body)(M:Let2 H a k):
  wpAny (model X.prog X.w) A' (call (.ref f) [.ref a]) (λy s'=>∃b H',y=.ref b/\Inv X pins σ H' s'/\Key2 H' b k/\Ext [] H [] H'/\Un (frs X.stack) [] H H' s.heap s'.heap) (λ_ _=>False) s:=by
 let⟨d,ct,j,N,vs,t,O,T,U,Y⟩:=L.ex;have of:=(I.hok f _ O).1;have oo:=(I.hok j _ T).1;let⟨p1,p2,p3,p4,p5,j1,j2,rfl⟩:=J.ex;let⟨z,tt,l,ww,e1,m⟩:=M;refine wpAny_call (Ϛ (zlm (CX:=CX0) (E:=λ_ _ _=>False) (Q:=λw H'=>∃b,w=V.ref b/\Key2 H' b k/\Ext [] H [] H') (vs:=[V.ref a]) (us:=[.ref a]) hs A B of ⟨j,N,vs,t,rfl,oo,U,Y⟩
  (.of_eq (C d _ ct _)) (.cons (show L2.RelV (.ref a) (.ref a) from rfl) .nil) rfl (λhr'=>zit zok (zbV (i:=0) (x:="letter") rfl ((hs.par "letter" (by simp)).elim .inl λq=>.inr (.inl q))) (zhy zgu) (zhy zgu)) ?_) λr s' q=>?_)
 refine⟨.ref a,rfl,1,rfl,3,rfl,a,[tt,.ref l,.int k.2.2,ww],rfl,.inl (Rd.of e1),(λz=>absurd (show(1:Nat)=0 from z.1) (by decide)),λp n=>⟨p,rfl,⟨z,l,zag,?_⟩,zfR n⟩⟩;rw[zad (zah m n)];exact m;cases r with
 |error e=>exact q.elim| ok fl=>
  cases fl with
  |ret y=>
   let⟨w,H',os,c,o,g,v,b,rfl,h,x⟩:=q;cases y with
   |ref z=>
    have:z=b:=by simpa[L2.RelV]using v
    exact⟨b,H',by rw[this],I.call' os o g c (λb z=>absurd z (by simp)),h,x,o⟩
   |_=>simp[L2.RelV]at v
  |_=>exact q.elim
def ord3:Ord Lt3:=⟨zcn,λh k=>zd7 h k,λh=>zgz h⟩
def zr2(d:Room 2 A')(g:∀H s,Inv X pins σ H s->Env0 X.prog X.w X.K X.mg X.base A' X.stack s H)(L:LamAt H f name qual params body scope)(hs:FnScope ["letter"] ["letter"] scope)
  (h:∀(i l ct u:Ξ),bindArgs (kla_fn name qual params body scope [] i l ct) ⟨[u],[]⟩=pure [(("letter":Str),u)]) (m:KeyBody body):SortK X pins σ A' H f Let2 Key2 (tuples' Δ) Lt3 where
 upR:=λk j=>(by let⟨z,t,b,w,a,c⟩:=j;exact ⟨z,t,b,w,k.tups _ _ a,k.tups _ _ c⟩)
 upK:=λk y=>(by let⟨z,b,a,c⟩:=y;exact ⟨z,b,k.tups _ _ a,k.tups _ _ c⟩)
 call:=λI x n=>znw I d (g _ _ I) (L.up x.kp) hs h m n
 kind:=λI o a q=>zqf (λv p=>let ⟨b,r,e,k⟩:=o v p;⟨b,r,e,zhI I.hok k⟩) a q
 less:=λI a c q=>zuf (by have:=d.un;lia) (zhI I.hok a) (zhI I.hok c) q
 ord:=ord3
end
section
variable{X:Cx}{pins:List (Addr×Obj)}{σ:L2.St}{H:Hp}{s:Β}{f a:Addr}{as:List Addr}{ks:List K3}{name qual:Str}{params:Arguments}{body:Expr}{scope:Scope}
structure Srd(X:Cx)(pins:List (Addr×Obj))(σ:L2.St)(H:Hp)(as:List Addr)(ks:List K3)(D:Addr)(s':Β):Prop where
 ex:∃(H':Hp) (p:List Nat),Inv X pins σ H' s'/\Ext [] H [] H'/\H D=Ψ/\PlcG Lt3 ks p/\H' D=Φ (.lst ((p.map λi=>as.getD i 0).map V.ref))
def zeF:∀{l:List Addr}{m:List Ξ},Vals (l.map V.ref) m->m=l.map Ξ.ref
 | [],_,h=>by cases h;rfl| x::l,_,h=>by cases h with|cons b c=>rw[Ο,<-zeF c,show _=Ξ.ref x from b]
def zdj:∀l:List Addr,Vals (l.map V.ref) (l.map Ξ.ref)
 | []=>.nil|_::l=>.cons rfl (zdj l)
def zi8(I:Inv X pins σ H s)(hh:X.A.handled=Ψ)(v:Room 2 X.A.in1.in1)(L:LamAt H f name qual params body scope)(hs:FnScope ["letter"] ["letter"] scope)(c:∀(w x ct u:Ξ),bindArgs (kla_fn name qual params body scope [] w x ct) ⟨[u],[]⟩=pure [(("letter":Str),u)])(y:KeyBody body)(z:SqL X.K H a (as.map V.ref))(A:as.length=ks.length)(n:ks.length<64)(B:ks.Nodup)(C:∀(j:Nat)(b:Addr),as[j]?=Φ b->∃k,ks[j]?=Φ k/\Let2 H b k)(q:∀D s',Srd X pins σ H as ks D s'->Q (.ref D) s'):
  wpAny (model X.prog X.w) X.A (call (.builtin "sorted") [.ref a] [(Str.ofString "key",.ref f)]) Q E s:=by
 let⟨G,M,g,hz⟩:=I.list z;have N:=zeF M;subst N;refine call_function_entry_kw kind_sorted plain_sorted entry_sorted (ksk_s1 _ _) ?_;unfold Builtin.«sorted»;refine Θ (m:=checkCount "sorted" 1 1 _) (Ω (Θ ?_));refine collect_list g.isList ?_ (by rw[length_map,Χ];lia);have O:∀b o,s.heap.get? b=Φ o->((s.heap.push (seqObj "list" #[] 0)).update s.heap.objs.size (Obj.mapSeq (·++(as.map Ξ.ref).toArray))).get? b=Φ o:=λb o e=>(Heap.get?_update_other _ _ (ne_of_gt (Η e))).trans (Λ _ e);have T:s.heap.objs.size<=((s.heap.push (seqObj "list" #[] 0)).update s.heap.objs.size (Obj.mapSeq (·++(as.map Ξ.ref).toArray))).objs.size:=by rw[Heap.size_update,ώ];exact le_succ _
 generalize(s.heap.push (seqObj "list" #[] 0)).update s.heap.objs.size (Obj.mapSeq (·++(as.map Ξ.ref).toArray))=d at *;refine Θ (wpAny_newList ?_ (by rw[length_map,Χ];lia));have r:Inv X pins σ H {s with heap:=d}:=zaG (g':=s.gens) (t':=s.toks) (d':=s.drawn) (ch:=[]) I (λb c=>by cases c) (λb c=>by cases c) (λb o _ e=>O b o e) I.bare;have U:Inv X pins σ H {s with heap:=d.push (seqObj "list" (as.map Ξ.ref).toArray 0)}:=zaG (s:={s with heap:=d}) (g':=s.gens) (t':=s.toks) (d':=s.drawn) (ch:=[]) r (λb c=>by cases c) (λb c=>by cases c) (λb o _ e=>Λ _ e) I.bare;have lD:zf4 {s with heap:=d.push (seqObj "list" (as.map Ξ.ref).toArray 0)} d.objs.size (as.map Ξ.ref) 0:=Ζ _ rfl;have oD:Own X pins d.objs.size:=Own.fresh r (le_refl _);have t:H d.objs.size=Ψ:=r.hok.fresh (le_refl _);refine Θ (ϙ (wpAny_call_entry_kw slot_list_sort ⟨_,lD,rfl⟩ entry_list_sort ?_ (ksk_l1 _ _)));refine zrM (D:=d.objs.size) (as:=as) (rows:=ks) U (zr2 v (λH s J=>J.env0.in1.in1) L hs c y) A n B oD t lD C λp s' g Y=>⟨_,rfl,?_⟩;refine Ω ⟨_,rfl,q _ s' ?_⟩;let⟨H2,e,J,x2,h,l⟩:=Y.ex;have eo:(p.map λi=>(as.map Ξ.ref).getD i Ξ.none)=(p.map λi=>as.getD i 0).map Ξ.ref:=by
  rw[map_map];refine Τ λi hi=>?_;have:=g.lt' i hi;have gi:i<as.length:=by lia
  simp[gi]
 rw[eo]at l;have plen:p.length=ks.length:=by rw[g.perm.length_eq];simp
 exact⟨upd H2 d.objs.size (.lst ((p.map λi=>as.getD i 0).map V.ref)),p,zbG J oD h ⟨by simp[plen,Χ];lia,_,e,zdj _,l⟩,x2.trans (zfR h),t,g,zag⟩
end
abbrev SrtK(K:Frag)(Q:VK)(w:V)(c:Hp):Prop:=∃(a:Addr) (e:List Addr) (d:List K3),w=.ref a/\SqL K c a (e.map V.ref)/\e.length=d.length/\d.length<64/\d.Nodup/\(∀(j:Nat)(b:Addr),e[j]?=Φ b->∃k,d[j]?=Φ k/\Let2 c b k)/\TB c/\
 ∀(D:Addr)(f:Hp)(p:List Nat),Ext [] c [] f->c D=Ψ->PlcG Lt3 d p->f D=Φ (.lst ((p.map λi=>e.getD i 0).map V.ref))->Q (.ref D) f
section
variable{X:Cx}{o:Expr}{p kpos lpos pos:Pos}{td:TE}{c P:Addr}{params:Arguments}{body:Expr}{scope:Scope}
def Let2.up(a:Kp H H')(h:Let2 H b k):Let2 H' b k:=let ⟨z,t,b,w,d,e⟩:=h;⟨z,t,b,w,a.tups _ _ d,a.tups _ _ e⟩
def SqL.up0{K}(x:Ext [] H [] H')(h:SqL K H a xs):SqL K H' a xs:=by rcases h with (h|⟨o,h⟩)|h;rcases(x.rest a _ (by simp) h).1 with z|⟨⟨_,z⟩,_⟩;exact .inl (.inl z);cases z;rcases(x.rest a _ (by simp) h).1 with z|⟨⟨_,z⟩,_⟩;exact .inl (.inr ⟨o,z⟩);cases z;exact .inr h
def zql(E:PE X o td)(g:zao o=Γ)(G:Gl X "sorted")(J:X.mg "sorted"=Ψ)(A:Room 2 X.A.in1.in1)(mk:Maker X c P)(i:defaultsOf params X.env=([],[]))(n:closureFor scope X.env=pure [])(hs:FnScope ["letter"] ["letter"] scope)
  (M:∀(N O ct u:Ξ),bindArgs (kla_fn "<lambda>" (X.env.qual ++ "<lambda>") params body scope [] N O ct) ⟨[u],[]⟩=pure [(("letter":Str),u)]) (T:KeyBody body) :
  PE X (.Call (.Name "sorted" p) [o] [⟨Φ "key",.Lambda params body scope lpos,kpos⟩] pos) (λl H Q=>td l H (SrtK X.K Q)):=by
 intro d s l H Q I h;refine ϖ (zdm I G J (by rfl:bootBuiltins "sorted"=Φ (.builtin "sorted")) ?_ (by decide) (by decide));have U:PA X [o] (zew td tNil):=zbz E zeM (zam g _ _);have Y:PK X [⟨Φ "key",.Lambda params body scope lpos,kpos⟩] (zew (tLam (X.env.qual ++ "<lambda>") params body scope) tNil):=zkT (zoB mk i n) zox;refine PyProof.Rows.callWith_builtin_kwB (by rw[zam g];rfl) rfl (PyProof.Rows.evalArgs_kw2 rfl (thn (U pos d s l H (oneK (SrtK X.K Q)) I h) λus s1 v=>?_) (zam g _ _));let⟨vs,q,I1,r1,k1⟩:=v;let⟨w,rfl,a,as,ks,ew,hq,hl,r,nd,t,tb,q1⟩:=zdG k1;subst ew;let⟨u,rfl,ru⟩:=Vals.one r1;obtain rfl:u=Ξ.ref a:=ru;refine thn (Y pos d s1 l q (oneK λB m=>∃f,B=.ref f/\LamAt m f "<lambda>" (X.env.qual ++ "<lambda>") params body scope/\Ext [] q [] m) I1 ⟨tb,λf m L S=>⟨f,rfl,L,S⟩⟩) λws s2 y=>?_;let⟨zs,m,I2,r2,k2⟩:=y;let⟨B,rfl,f,ef,L,st⟩:=zdG k2;subst ef;let⟨u2,rfl,x⟩:=Vals.one r2;obtain rfl:u2=Ξ.ref f:=x;refine zi8 I2 A.hd A L hs M T (SqL.up0 st hq) hl r nd (λj b e=>let ⟨k,e1,e2⟩:=t j b e;⟨k,e1,e2.up st.kp⟩) λD s3 tl=>?_;let⟨C,p,I3,x3,dn,pl,dl⟩:=tl.ex;refine⟨.ref D,C,I3,rfl,q1 D C p (st.trans x3) ?_ pl dl⟩;cases e:q D with|none=>rfl| some o=>exfalso;have:=(st.rest D o (by simp) e).1;rw[dn]at this;rcases this with z|⟨_,_,z⟩<;>exact nS z
end
abbrev lamI(k:Int):Expr->Bool|.Constant (.int i) _ _=>decide (i=k)|_=>Δ
abbrev lamV:Expr->Bool|.Name x _=>decide (x="letter")|_=>Δ
abbrev lamS:Expr->Bool|.Slice (Φ a) (Φ b) Ψ _=>lamI 1 a&&lamI 3 b|_=>Δ
abbrev lamA:List Arg->Bool|[⟨a,Ψ,_⟩]=>decide (a="letter")|_=>Δ
abbrev lamB:Expr->Bool
 |.Lambda ⟨[],as,Ψ,[],[],Ψ,[]⟩ (.Subscript v s _) scope _=>lamA as&&(lamV v&&(lamS s&&(decide (scope.names=[(("letter":Str),NameKind.local)])&&(decide (scope.kind=.function)&&(!scope.isCoroutine&&!scope.isGenerator)))))
 |_=>Δ
structure LamE(params:Arguments)(body:Expr)(scope:Scope):Prop where
 df:∀env,defaultsOf params env=([],[])
 cl:∀env,closureFor scope env=pure []
 sc:FnScope ["letter"] ["letter"] scope
 bd:∀(q:Str)(pm cd ct u:Ξ),bindArgs (kla_fn "<lambda>" q params body scope [] pm cd ct) ⟨[u],[]⟩=pure [(("letter":Str),u)]
 kb:KeyBody body
def lamJ{k:Int}{e:Expr}(h:lamI k e=Γ):∃a p,e=.Constant (.int k) a p:=by
 cases e with
 |Constant c a p=>
  cases c with
  |int i=>cases of_decide_eq_true h;exact⟨_,_,rfl⟩
  |_=>cases h
 |_=>cases h
def lamC{as:List Arg}(h:lamA as=Γ):∃p,as=[⟨"letter",Ψ,p⟩]:=by
 cases as with
 |nil=>cases h
 |cons a r=>
  let⟨a,n,p⟩:=a;cases r with
  |cons _ _=>cases n<;>cases h
  |nil=>
   cases n with
   |some _=>cases h
   |none=>cases of_decide_eq_true h;exact⟨_,rfl⟩
def lamW{e:Expr}(h:lamV e=Γ):∃p,e=.Name "letter" p:=by
 cases e with
 |Name x p=>cases of_decide_eq_true h;exact⟨_,rfl⟩
 |_=>cases h
def lamT{e:Expr}(h:lamS e=Γ):∃a b p,e=.Slice (Φ a) (Φ b) Ψ p/\lamI 1 a=Γ/\lamI 3 b=Γ:=by
 cases e with
 |Slice a b c p=>
  cases a with
  |none=>cases h
  |some a=>
  cases b with
  |none=>cases h
  |some b=>
  cases c with
  |some _=>cases h
  |none=>exact⟨_,_,_,rfl,(Ε _ _).mp h⟩
 |_=>cases h
def znz(h:lamB e=Γ):∃params body scope lpos,e=.Lambda params body scope lpos/\LamE params body scope:=by
 cases e with
 |Lambda ps b scope p=>
  let⟨po,as,va,ko,kd,kw,de⟩:=ps
  cases po with
  |cons _ _=>cases h
  |nil=>
  cases va with
  |some _=>cases h
  |none=>
  cases ko with
  |cons _ _=>cases h
  |nil=>
  cases kd with
  |cons _ _=>cases h
  |nil=>
  cases kw with
  |some _=>cases h
  |none=>
  cases de with
  |cons _ _=>cases h
  |nil=>
  cases b with
  |Subscript v s p2=>
   let⟨ha,h⟩:=(Ε _ _).mp h;let⟨hv,h⟩:=(Ε _ _).mp h;let⟨hs,h⟩:=(Ε _ _).mp h;simp![Ε,decide_eq_true_eq,ϝ]at h;let⟨hn,hk,hc,hg⟩:=h;let⟨_,rfl⟩:=lamW hv;let⟨_,_,_,rfl,h1,h2⟩:=lamT hs;let⟨_,_,rfl⟩:=lamJ h1;let⟨_,_,rfl⟩:=lamJ h2;let⟨_,rfl⟩:=lamC ha;refine⟨_,_,scope,_,rfl,⟨λenv=>rfl,λenv=>?_,⟨hk,hc,hg,by decide,rfl,λx hx=>?_,λy hy=>?_⟩,λq pm cd ct u=>rfl,⟨_,_,_,_,_,_,_,rfl⟩⟩⟩;unfold closureFor;rw[hn];rfl;rw[mem_singleton.mp hx,hn];exact .inl (by decide);rw[hn]at hy;rw[mem_singleton.mp hy];decide
  |_=>cases h
 |_=>cases h
section
variable{K:Frag}{ι:List Addr}{H H2:Hp}{S:R.St}
def zgJ:∀{ds:List D}{xs:List V}{p:List Int},RVs K ι H ds xs->zaD ds=Φ p->xs=p.map V.int
 | [],xs,p,r,e=>by cases(show xs=[] from r);simp[zaD]at e;subst e;rfl| d::ds,xs,p,r,e=>by
  let⟨v,c,rfl,a,b⟩:=r;unfold zaD at e;rw[ϟ]at e;cases d with
  |int i=>
   cases e2:ds.mapM zee with
   |none=>rw[e2]at e;exact nS e
   |some q=>rw[e2]at e;cases e;rw[zgJ b (show zaD ds=Φ q from e2),show v=.int i from a];rfl
  |_=>exact nS e
def ztd(r:RV K ι H d v)(e:zfH d=Φ k):∃a,v=.ref a/\Let2 H a k:=by
 cases d with|tup t=>_|_=>exact nS e
 rcases t with _|⟨t,_|⟨y,_|⟨z,_|⟨w,_|_⟩⟩⟩⟩
 any_goals first|exact nS e|(cases y<;>first|exact nS e|(cases z<;>exact nS e))
 cases y with|tup f=>_|_=>exact nS e
 cases z with|int b=>_|_=>exact nS e
 unfold zfH at e;dsimp only at e;cases e2:zaD f with
 |none=>rw[e2]at e;exact nS e
 |some p=>rw[e2]at e;cases e;let⟨a,q,rfl,g,s,u,rfl,x,y,z,rfl,h,i,A,rfl,j,B,l,rfl,C,m⟩:=r;cases(show l=[] from m);let⟨c,E,rfl,n,o⟩:=h;cases(show i=.int b from j);exact⟨a,rfl,rfl,_,c,_,g,by rw[n,zgJ o e2]⟩
def zlf:∀{ds:List D}{xs:List V}{ks:List K3},RVs K ι H ds xs->ds.mapM zfH=Φ ks->∃as:List Addr,xs=as.map V.ref/\as.length=ks.length/\ds.length=ks.length/\∀(j:Nat)(b:Addr),as[j]?=Φ b->∃k,ks[j]?=Φ k/\Let2 H b k
 | [],xs,ks,r,e=>by cases(show xs=[] from r);simp at e;subst e;exact⟨[],rfl,rfl,rfl,λj b h=>by simp at h⟩| d::ds,xs,ks,r,e=>by
  let⟨v,o,rfl,f,g⟩:=r;rw[ϟ]at e;cases e1:zfH d with
  |none=>rw[e1]at e;exact nS e
  |some k=>
   cases e2:ds.mapM zfH with
   |none=>rw[e1,e2]at e;exact nS e
   |some q=>rw[e1,e2]at e;cases e;let⟨as,rfl,i,l,m⟩:=zlf g e2;let⟨a,rfl,n⟩:=ztd f e1;refine⟨a::as,rfl,by simp[i],by simp[l],λj b c=>?_⟩;cases j with|zero=>cases c;exact⟨k,rfl,n⟩|succ j=>exact m j b (by simpa using c)
def zh5:∀{ks:List K3}{ds:List D}{i:Nat}{k:K3}{d:D},ks.Nodup->ks[i]?=Φ k->ds[i]?=Φ d->(ks.zip ds).lookup k=Φ d
 | [],ds,i,k,d,e,c,f=>by simp at c|a::ks,[],i,k,d,e,c,f=>by simp at f| a::ks,b::ds,0,k,d,e,c,f=>by cases c;cases f;rw[List.zip_cons_cons,Ϝ,beq_self_eq_true]| a::ks,b::ds,i+1,k,d,e,c,f=>by
  have g:=mem_of_getElem? (by simpa using c);rw[nodup_cons]at e;have:(k==a)=Δ:=by rw[beq_eq_false_iff_ne];intro z;exact e.1 (z▸g)
  rw[List.zip_cons_cons,Ϝ,this];exact zh5 e.2 (by simpa using c) (by simpa using f)
def zqh(a:ks.Nodup)(d:ds.length=ks.length)(P:PlcG Lt3 ks p):srtD ds ks=p.map λi=>ds.getD i .non:=by
 have e:=zcB ((zkY default P.perm).trans (zcg ks).symm) P.asc (zb3 a);unfold srtD;rw[<-e,map_map];refine Τ λi b=>?_;have h:=P.lt' i b;have c:i<ds.length:=by lia
 show((ks.zip ds).lookup (ks.getD i default)).getD .non=_;rw[zh5 a (getD_mem default h) (getD_mem D.non c)];rfl
def RVs.at_{ds:List D}{vs:List V}{i:Nat}{d:D}{v:V}(h:RVs K ι H ds vs)(a:ds[i]?=Φ d)(b:vs[i]?=Φ v):RV K ι H d v:=by
 induction ds generalizing vs i with|nil=>exact nS a|cons _ _ f=>let⟨v,vs,rfl,c,e⟩:=h;cases i with|zero=>cases a;cases b;exact c|succ=>exact f e a b
end
def RVs.ofGet{K}:∀{ds:List D}{vs:List V},ds.length=vs.length->(∀(i:Nat) d v,ds[i]?=Φ d->vs[i]?=Φ v->RV K ι H d v)->RVs K ι H ds vs
 | [],[],_,_=>rfl| [],_::_,h,_=>by simp at h|_::_,[],h,_=>by simp at h|d::ds,v::vs,h,f=>⟨v,vs,rfl,f 0 d v rfl rfl,RVs.ofGet (by simpa using h) λi a b c e=>f (i+1) a b (by simpa using c) (by simpa using e)⟩
def RH.add{K}(h:RH K ι H S)(x:Ext ι H (ι++[p]) H')(e:∀a∈ι,H' a=H a)(f:p∉ι)(g:RO K (ι++[p]) H' p o):RH K (ι++[p]) H' (S.push o):=by
 refine⟨by rw[length_append,h.len,zcl];rfl,?_,λl r q=>?_,x.kp.tab h.tab⟩;rw[nodup_append];refine⟨h.nd,by simp,λa i b d=>?_⟩;simp at d;subst d;exact λz=>f (z▸i);by_cases j:l<S.len;rw[zcG j]at q;let⟨a,k,m,n⟩:=h.mem q;exact⟨a,zbO (ϗ _ _) k,m.stay x (e a n)⟩;have c:=get_lt q;rw[zcl]at c;have:l=S.len:=by lia
 subst this;rw[zfO]at q;cases q;exact⟨p,by rw[<-h.len];simp,g⟩
section
variable{T:Tab}{cf:CF}{k:Nat}{N:List Str}{sc:Scope}{X:Cx}{pos p kpos:Pos}
def zpz(G:Gd T cf k N sc X)(hN:N=T.lam)(U:Gl X "sorted"/\X.mg "sorted"=Ψ)(he:PE X e (tE X.K cf ca))(u:zao e=Γ)(r:lamB le=Γ):
  PE X (.Call (.Name "sorted" p) [e] [⟨Φ "key",le,kpos⟩] pos) (tE X.K cf (.srtK ca)):=by
 let⟨t,Y,A,lpos,rfl,L⟩:=znz r;let⟨hk,c,mk⟩:=G.lam hN;have room:Room 2 X.A.in1.in1:=((G.room'.mono (Nat.succ_le_succ hk)).in1).in1;refine PE.imp (zql he u U.1 U.2 room mk (L.df _) (L.cl _) L.sc (L.bd _) L.kb) λσ H Qv y=>?_;let⟨δ,ι,S,Q,hs,hh,w,q⟩:=y;change W (Out.bind _ _) _ at w;simp![zab] at w;refine tE.run hs hh w λd v m H1 B x1 hs1 f r1 w1=>?_;let⟨⟨ds,ks⟩,g,n⟩:=zax w1;cases d with
 |ref l=>
  simp![zgD]at g;cases C:B.get l with
  |none=>rw[C]at g;exact nS g
  |some o=>
   rw[C]at g;cases o with
   |lst E=>
    dsimp only at g;cases em:E.mapM zfH with
    |none=>rw[em]at g;exact nS g
    |some ks'=>
     rw[em]at g;cases g;let⟨b,i1,rfl⟩:=r1;let⟨b',i2,xs,hx,rs⟩:=f.obj l _ C;rw[i1]at i2;cases i2;let⟨as,rfl,l1,l2,la⟩:=zlf rs em;dsimp only at n;split at n;rename_i I;unfold lay at n;split at n;rename_i hz;refine⟨b,as,ks,rfl,SqL.of hx,l1,I.1,I.2,la,f.tab,λs H2 p x hD P h2=>?_⟩;have J:s∉m:=f.fresh hD;have M:Ext m H1 (m++[s]) H2:=⟨ϗ _ _,x.kp,λa o h e=>⟨(x.rest a o (by simp) e).1,λz=>by rcases mem_append.mp z with z|z;exact h z;simp at z;exact zah e hD z⟩⟩;refine q _ _ ⟨.ref B.len,m++[s],B.push (.lst (srtD ds ks)),x1.trans M,⟨s,f.last s,rfl⟩,f.add M (λa hm=>?_) J ⟨_,h2,?_⟩,n⟩;let⟨o,e,_,_,nt⟩:=f.live hm;rw[e];exact x.keep (by simp) e nt;rw[zqh I.2 l2 P];refine RVs.ofGet (by simp) λi d w e1 e2=>?_;rw[getElem?_map]at e1;rw[getElem?_map,getElem?_map]at e2;cases O:p[i]? with
     |none=>rw[O]at e1;exact nS e1
     |some j=>rw[O]at e1 e2;cases e1;cases e2;have hj:=P.lt' j (mem_of_getElem? O);have:=RVs.at_ rs (getD_mem D.non (show j<ds.length by lia)) (by rw[getElem?_map,getD_mem 0 (show j<as.length by lia)];rfl);exact(this.ext M)
     exact n.elim;exact n.elim
   |_=>exact nS g
 |_=>exact nS g
end
end R
namespace R
open PySem PySem.Spec PyProof.Rows L2
section
variable{X:Cx}{o e f:Expr}{apos cpos:Pos}{td ty tv:TE}
abbrev zrS(td ty tv:TE):TE:=λc H Q=>td c H λx g=>∃a,x=.ref a/\IsD g a/\ty c g λy h=>tv c h λv d=>∃b k,d a=Φ (.dK b)/\y=.int k/\(∀u,valV b (.inl k)=Φ u->Q u d)/\(valV b (.inl k)=Ψ->b.length<sizeLine/\Q v (upd d a (.dK (putK b (.inl k) v))))
def znk(N:PE X o td)(n:PE X e ty)(O:PE X f tv)(m:M2 X o "setdefault" apos e f cpos):PE X (.Call (.Attribute o "setdefault" apos) [e,f] [] cpos) (zrS td ty tv):=by
 intro b s p H Q I h;refine wpAny_Call_method m.base m.few m.line PySem.F.plainAttrs_dict PySem.F.slot_dict_setdefault PySem.F.type_dict_setdefault (thn (N b s p H _ I h) λu T j=>?_);let⟨x,U,B,Y,a,ex,d,q1⟩:=j;subst ex;obtain rfl:u=Ξ.ref a:=Y;let⟨t1,t2,_⟩:=zlH B d;refine⟨t1,t2,?_⟩;rw[m.trees];refine Calls.callWith_builtin rfl (Calls.evalArgs_plain (Calls.spliced_cons (thn (n b T p U _ B q1) λiv s2 z=>eY z λy H2 I2 ry q2=>Calls.spliced_cons (thn (O b s2 p H2 _ I2 q2) λfv s3 ⟨v,C,t,E,g,k,G,ey,q3,q4⟩=>Calls.spliced_nil ?_))));subst ey;let⟨z,J,L,c,M⟩:=zty t.hok G;have hz:L.length<=sizeLine:=by rw[<-c.length];exact z
 refine PySem.call_meetsIn PySem.F.slot_dict_setdefault M.typeIs PySem.F.entry_dict_setdefault (PySem.F.args_dict_setdefault_3 _ _ _) (PySem.kt_meets_setdefault (zaq X.prog X.w) a (znF (k:=.inl k) ry) J fv) ⟨L,M,hz,λw hw=>?_,λhn h' i hs=>?_⟩;have r:=c.val (.inl k);rw[hw]at r;cases l:valV g (.inl k) with|none=>rw[l]at r;exact r.elim|some u=>rw[l]at r;exact⟨u,C,t.tok _,r,q3 u l⟩
 have r:=c.val (.inl k);rw[hn]at r;cases l:valV g (.inl k) with
 |some u=>rw[l]at r;exact r.elim| none=>
  let⟨hl,q5⟩:=q4 l;have A:(putK g (.inl k) v).length<=sizeLine:=by have:=zcE g (.inl k) v;omega
  have n:∃q,h'.get? a=Φ q:=let ⟨q,_,_,hq,_⟩:=i;⟨q,hq⟩;exact⟨v,upd C a (.dK (putK g (.inl k) v)),zfT (t':=s3.toks+1) t (by rw[G];exact True.intro) hs n (zoU A J (c.put (.inl k) E) i),E,q5⟩
end
variable[Mks]
def RIs.val{K}(k):∀{kvs:List (Int×D)}{a:List (Key×V)},RIs K ι H kvs a->(valI kvs k=Ψ/\valV a (.inl k)=Ψ)\/∃d v,valI kvs k=Φ d/\valV a (.inl k)=Φ v/\RV K ι H d v
 | [],a,r=>by cases(show a=[] from r);exact .inl ⟨rfl,rfl⟩| (j,d)::kvs,a,r=>by
  let⟨⟨_,v⟩,w,rfl,rfl,b,c⟩:=r;by_cases e:j=k;subst e;exact .inr ⟨d,v,by simp[valI],by simp[valV],b⟩;have f:valI ((j,d)::kvs) k=valI kvs k:=by simp[valI,e]
  have g:valV (((Sum.inl j:Key),v)::w) (.inl k)=valV w (.inl k):=by simp[valV,e]
  rw[f,g];exact RIs.val k c
section
variable{T:Tab}{cf:CF}{k:Nat}{N:List Str}{sc:Scope}{X:Cx}{pos p p2 pos':Pos}
def zlF(f:RH X.K ι H S)(r:RV X.K ι H d v)(h:isDi S d=Γ):∃a,v=.ref a/\IsD H a:=by
 cases d with
 |ref l=>
  let⟨p,g,rfl⟩:=r;simp![isDi]at h;cases e:S.get l with
  |none=>rw[e]at h;exact nB h
  |some o=>rw[e]at h;let⟨b,c,i⟩:=f.obj _ _ e;rw[g]at c;cases c;cases o with|dic j=>let⟨_,m,n,_⟩:=i;exact⟨p,rfl,.inl ⟨m,.inl n⟩⟩|_=>exact nB h
 |_=>exact nB h
def zgY(i:RH X.K ι H S)(j:RV X.K ι H x m)(n:RV X.K ι H y d)(h:zgZ S x y=Φ o):
  ∃l a kvs c kk,x=.ref l/\ι[l]?=Φ a/\S.get l=Φ (.dic kvs)/\m=.ref a/\y=.int kk/\(kvs.map (·.1)).Nodup/\H a=Φ (.dK c)/\RIs X.K ι H kvs c/\d=.int kk/\o=valI kvs kk:=by
 unfold zgZ at h;cases x with
 |ref l=>
  let⟨p,f,rfl⟩:=j;dsimp only at h;cases e:S.get l with
  |none=>rw[e]at h;exact nS h
  |some q=>
   rw[e]at h;let⟨b,g,r⟩:=i.obj _ _ e;rw[f]at g;cases g;cases q with
   |dic kvs=>let⟨s,c,t,u⟩:=r;dsimp only at h;cases y with| int kk=>cases h;obtain rfl:d=.int kk:=n;exact⟨l,p,kvs,c,kk,rfl,f,e,rfl,rfl,s,t,u,rfl,rfl⟩|_=>exact nS h
   |_=>exact nS h
 |_=>exact nS h
def zmK(G:Gd T cf k N sc X)(L:PE X o (tE X.K cf M))(O:PE X e (tE X.K cf U))(Y:PE X x (tE X.K cf cx))(g:zao e=Γ)(b:zao x=Γ)(h:zbb o=Γ)(hl:(apos.endLine==cpos.line)=Γ):
  PE X (.Call (.Attribute o "get" apos) [e,x] [] cpos) (tE X.K cf (.dgetI M U cx)):=by
 refine PE.imp (ziv (by have:=G.hu;lia) L O Y ⟨zcK h "get" X.env _,by rw[zam g,zam b];rfl,hl,by rw[zam g,zam b];rfl⟩) λσ H Qv j=>?_;let⟨δ,ι,S,Q,hs,hh,w,q⟩:=j;change W (Out.bind _ _) _ at w;simp![zab] at w;refine tE.run hs hh w λd v ι1 H1 S1 x1 r i A m=>?_;split at m;rename_i c;let⟨a,rfl,hD⟩:=zlF i A c;refine⟨a,rfl,hD,?_⟩;rw[zab]at m;refine tE.run r i m λy vy ι2 H2 S2 B s t r2 C=>?_;rw[zab]at C;refine tE.run s t C λz vz ι3 H3 S3 u hs3 f r3 E=>?_;rw[zab]at E;let⟨o,eo,n⟩:=zax E;let⟨l,a',kvs,ws,I,_,_,_,ea,_,nd,ha,rk,rfl,rfl⟩:=zgY f (A.ext (B.trans u)) (r2.ext u) eo;cases ea;refine⟨_,DGet.k (k:=.inl I) ha,?_⟩;have J:=(x1.trans B).trans u;rcases rk.val I with⟨e1,e2⟩|⟨d',v',e1,e2,rv⟩;rw[e1]at n;rw[e2];exact q _ _ (Lf.up J (Lf.of f r3 n));rw[e1]at n;rw[e2];exact q _ _ (Lf.up J (Lf.of f rv n));exact m.elim
def zmI(G:Gd T cf k N sc X)(ho:PE X o (tE X.K cf co))(he:PE X e (tE X.K cf ce))(hx:PE X x (tE X.K cf cx))(m:zao e=Γ)(g:zao x=Γ)(n:zbb o=Γ)(hl:(apos.endLine==cpos.line)=Γ):
  PE X (.Call (.Attribute o "setdefault" apos) [e,x] [] cpos) (tE X.K cf (.dsetI co ce cx)):=by
 refine PE.imp (znk ho he hx ⟨zcK n "setdefault" X.env _,by rw[zam m,zam g];rfl,hl,by rw[zam m,zam g];rfl⟩) λσ H Qv j=>?_;let⟨δ,ι,S,Q,hs,hh,w,q⟩:=j;change W (Out.bind _ _) _ at w;simp![zab] at w;refine tE.run hs hh w λd v ι1 H1 S1 x1 L s r1 B=>?_;split at B;rename_i c;let⟨a,rfl,hD⟩:=zlF s r1 c;refine⟨a,rfl,hD,?_⟩;rw[zab]at B;refine tE.run L s B λy vy ι2 H2 S2 x2 M O r2 w2=>?_;rw[zab]at w2;refine tE.run M O w2 λz vz U H3 C Y hs3 f r3 w3=>?_;rw[zab]at w3;let⟨r,b,w4⟩:=zax w3;have up:=(x1.trans x2).trans Y;unfold zfU at b;cases eg:zgZ C d y with
 |none=>rw[eg]at b;exact nS b
 |some og=>
  let⟨l,a',t,E,h,rfl,hi,hg,ea,rfl,nd,ha,rk,rfl,rfl⟩:=zgY f (r1.ext (x2.trans Y)) (r2.ext Y) eg;cases ea;rw[eg]at b;have A:∀T,dPut C (.ref l) (.int h) z=Φ T->t.length<16777216/\C.put l (.dic (putI t h z))=Φ T:=λT i=>by unfold dPut at i;dsimp only at i;rw[hg]at i;dsimp only[zee,bind_some]at i;split at i;rename_i c;exact⟨c,i⟩;exact nS i
  rcases rk.val h with⟨e1,e2⟩|⟨d',v',e1,e2,rv⟩;rw[e1]at b;dsimp only at b;cases ep:dPut C (.ref l) (.int h) z with
  |none=>rw[ep]at b;exact nS b
  |some T'=>
   rw[ep]at b;cases b;let⟨c,es⟩:=A _ ep;have I:=Ext.wr f hg hi (.dK (putK E (.inl h) vz));have hz:E.length<sizeLine:=by rw[rk.length,Χ];exact c
   refine⟨E,h,ha,rfl,λu J=>absurd (e2.symm.trans J) (λz=>by exact nS z),λ_=>⟨hz,?_⟩⟩;exact q _ _ ⟨z,U,T',up.trans I,r3.ext I,f.wr hg hi es ⟨zjr nd,_,zag,(rk.put h r3 nd).up I.pre I.kp⟩,w4⟩
  rw[e1]at b;cases b;refine⟨E,h,ha,rfl,λu J=>?_,λhn=>absurd (e2.symm.trans hn) (λz=>by cases z)⟩;rw[e2]at J;cases J;exact q _ _ (Lf.up up (Lf.of f rv w4))
 exact B.elim
end
section
variable{T:Tab}{cf:CF}{k:Nat}{N:List Str}{sc:Scope}{X:Cx}{pos p:Pos}
def zgK(h:zbY S d=Φ (c,a)):∃l,d=.ref l/\S.get l=Φ (.ins c a):=by
 cases d with
 |ref l=>
  refine⟨l,rfl,?_⟩;unfold zbY at h;dsimp only at h;cases e:S.get l with
  |none=>rw[e]at h;exact nS h
  |some o=>rw[e]at h;cases o with|ins f b=>cases h;rfl|_=>exact nS h
 |_=>exact nS h
def ne_of{b:Type}[BEq b]{xs:List b}{a:b}(h:xs.contains a=Γ):xs≠[]:=λe=>by rw[e]at h;simp at h
def Gd.clsAt(G:Gd T cf k N sc X)(d:T.flds≠[]\/T.inits≠[]\/T.isas≠[]){c:Nat}(h:Mks.cl[c]?=Φ C):∃x,T.cls[c]?=Φ x/\Cls X.K C/\X.mg x=Φ (.ref C)/\∀f,T.flds.contains f=Γ->NoAttr X.K C f:=by have a:c<T.cls.length:=lt_of_lt_of_le (Α.mp h).1 (G.tab.cln d);let⟨j,b,e,g,i⟩:=G.tab.cls c T.cls[c] (Ι a);rw[h]at b;cases b;exact⟨_,Ι a,e,g,i⟩
def zsc(G:Gd T cf k N sc X)(n:PE X a (tE X.K cf o))(g:zbb a=Γ)(j:T.flds.contains f=Γ):PE X (.Attribute a f pos) (tE X.K cf (.fld o f)):=by
 refine PE.imp (zsN n (zcK g f X.env _)) λσ H Qv z=>?_;let⟨δ,ι,S,Q,r,s,w,q⟩:=z;change W (Out.bind _ _) _ at w;simp![zab] at w;refine tE.run r s w λd v t H1 x y A h B E=>?_;let⟨u,e,I⟩:=zax E;cases i:zbY x d with
 |none=>rw[i]at e;exact nS e
 |some J=>let⟨c,L⟩:=J;rw[i]at e;have e:L.lookup f=Φ u:=e;let⟨l,rfl,M⟩:=zgK i;let⟨b,O,rfl⟩:=B;let⟨b',m,C,U,Y,hC,hb,rf⟩:=h.obj l _ M;rw[O]at m;cases m;let⟨_,_,cl,_,na⟩:=G.clsAt (.inl (ne_of j)) hC;rcases rf.look f with⟨e1,_⟩|⟨d',v',e1,e2,rv⟩;rw[e]at e1;cases e1;rw[e]at e1;cases e1;exact⟨b,C,U,Y,v',rfl,hb,cl,na f j,e2,q _ _ (Lf.up y (Lf.of h rv I))⟩
def zfC(c:attributeBase o name env (eval o env)=eval o env)(i:((backTo pos (starEach args env)).all (λx=>!x.1)&&(backToKw pos (keywordEach [] env)).all (λx=>x.1.isSome)
   && decide (args.length+([]:List Keyword).length+(if([]:List Keyword).isEmpty then 0 else 1)<30))=Γ)(d:(apos.endLine==pos.line)=Γ)(h:wpAny (model prog w) A (eval o env) (λq a=>∀r,wpAny (model prog w) A (getMethod q name r) (λn b=>wpAny (model prog w) A (callWith pos n.1 n.2 (backTo pos (starEach args env)) (backToKw pos (keywordEach [] env))) Q E b) E a) E s):
  wpAny (model prog w) A (eval (.Call (.Attribute o name apos) args [] pos) env) Q E s:=by
 rw[arm_eval_Call,c];refine Θ (ό h (λq a j=>?_) λ_ _ e=>e);refine Θ (wpAny_standAt ?_);have g:methodCallForm (args.length+([]:List Keyword).length) (backTo pos (starEach args env)) (backToKw pos (keywordEach [] env))=Γ:=i;have l:methodCallPos Γ o env apos pos=pure pos:=by unfold methodCallPos;simp[d]
 unfold methodCall;rw[g];refine Θ (ϙ (ό (j _) (λn b m=>?_) λ_ _ e=>e));let⟨f,first⟩:=n;exact Θ (wpAny_of_eq l m)
abbrev zj6(X:Cx)(k:Nat)(m:Str)(i:TE)(t:TA):TE:=λb H Q=>i b H λx c=>∃(a C j:Addr) (d:List (Str×V)) (e:Addr) (f:FuncData) (g:List Str) (h:Sp),x=.ref a/\c a=Φ (.ins C j d)/\Cls X.K C/\Meth X.K C m e/\
 FnOk X.prog X.w X.K X.mg X.base CX0 k e f g h/\Binds X.K f g []/\d.lookup m=Ψ/\t b c λl n=>h (x::l) n Q E0
def znf(A:PE X o B)(E:Room k X.A)(G:PA X (e::es) t)(d:attributeBase o m X.env (eval o X.env)=eval o X.env)(g:((backTo pos (starEach (e::es) X.env)).all (λx=>!x.1)&&(backToKw pos (keywordEach [] X.env)).all (λx=>x.1.isSome)
   && decide ((e::es).length+([]:List Keyword).length+(if([]:List Keyword).isEmpty then 0 else 1)<30))=Γ)(f:(apos.endLine==pos.line)=Γ)(i:starEach (e::es) X.env=(Δ,eval e X.env)::starEach es X.env)(j:(backTo pos (starEach es X.env)).any (·.1)=Δ):
  PE X (.Call (.Attribute o m apos) (e::es) [] pos) (zj6 X k m B t):=by
 intro b s n H Q I h;refine zfC d g f (thn (A b s n H _ I h) λu J z pl=>?_);let⟨x,L,v,M,a,C,dx,fs,fa,fd,ps,sp,O,U,c,w,F,Y,l,q⟩:=z;subst O;obtain rfl:u=Ξ.ref a:=M;refine zeT v U c w l ?_;refine callWith_K (first:=[.ref a]) (h₀:=X.base) I.ok.mod.kin w.kp (thn (G pos b J n L _ v q) λus s2 z=>eY z λvs H2 y r q2=>⟨y.kIn,?_⟩) i j;exact zge (us:=.ref a::us) (vs:=.ref a::vs) F E Y .nil zhB y (.cons rfl r) (by rw[ϡ];exact q2)
def zkZ(i:PE X o j)(n:Room k X.A)(b:attributeBase o m X.env (eval o X.env)=eval o X.env)(d:(apos.endLine==pos.line)=Γ):
  PE X (.Call (.Attribute o m apos) [] [] pos) (zj6 X k m j tNil):=by
 intro e s r H Q I h;refine zfC b rfl d (thn (i e s r H _ I h) λu A z B=>?_);let⟨x,E,f,t,a,C,G,J,L,M,O,U,v,w,c,g,F,y,l,q⟩:=z;subst v;obtain rfl:u=Ξ.ref a:=t;refine zeT f w c g l ?_;exact callWith_K0 (first:=[.ref a]) f.kIn g.kp (zge (us:=[.ref a]) (vs:=[.ref a]) F n y .nil zhB f (.cons rfl .nil) (by rw[ϡ];exact q))
abbrev mtB(T:Tab)(m:Str)(a:List (Nat×Nat)):Bool:=a.all λp=>T.mts.contains (p.1,m,p.2)
def zjx{a:List (Nat×Nat)}(h:a.lookup c=Φ f):(c,f)∈a:=by
 induction a with
 |nil=>exact nS h
 |cons p r b=>let⟨d,g⟩:=p;simp![List.lookup]at h;split at h;rename_i e;cases h;have:=eq_of_beq e;subst this;simp;exact Κ _ (b h)
def ziz(G:Gd T cf k N sc X)(U:mtB T m Y=Γ)(ht:∀{i:L2.St}{H:Hp}{E:List V->Hp->Prop},tAs X.K cf n i H E->t i H E)(h:tE X.K cf (.meth m Y co n) i H Qv):zj6 X k m (tE X.K cf co) t i H Qv:=by
 let⟨δ,ι,S,Q,hs,hh,w,q⟩:=h;change W (Out.bind _ _) _ at w;simp![zab] at w;refine tE.run hs hh w λd v ι1 H1 S1 x1 o a I w1=>?_;let⟨pr,ei,w2⟩:=zax w1;let⟨c,fs⟩:=pr;let⟨f,ef,j⟩:=zax w2;split at j;rename_i s;rw[zab]at j;let⟨l,rfl,hl⟩:=zgK ei;have u:=I;let⟨b,i1,rfl⟩:=I;let⟨b',J,C,dx,L,hC,hb,rf⟩:=a.obj l _ hl;rw[i1]at J;cases J;have y:=all_eq_true.mp U (c,f) (zjx ef);let⟨C',fa,fd,ps,g,cl,me,F,bi⟩:=(G.tab.mth c m f y).ex;rw[hC]at g;cases g;have z:L.lookup m=Ψ:=by rcases rf.look m with⟨_,e2⟩|⟨d',v',e1,_,_⟩;exact e2;dsimp only at s;rw[e1]at s;exact nB s
 refine⟨b,C,dx,L,fa,fd,ps,_,rfl,hb,cl,me,F,bi,z,ht ?_⟩;refine tAs.run o a j λds vs A H2 S2 M hs2 B r2 O=>?_;unfold appW at O;refine⟨A,S2,.ref l::ds,⟨.ref b,vs,rfl,u.ext M,r2⟩,B,?_⟩;let⟨d,T',e,w5⟩:=zf3 O;rw[e];exact λv H' ι' x r hT=>q v H' (Lf.up (x1.trans M) ⟨d,ι',T',x,r,hT,w5⟩);exact j.elim
def zpC(G:Gd T cf k N sc X)(d:mtB T m f=Γ)(g:PE X o (tE X.K cf i))(j:PA X (e::es) (tAs X.K cf c))(a:(e::es).all zao=Γ)(b:zbb o=Γ)(hl:(apos.endLine==pos.line)=Γ)(t:(e::es).length<29):
  PE X (.Call (.Attribute o m apos) (e::es) [] pos) (tE X.K cf (.meth m f i c)):=by
 have l:=a;rw[all_cons,Ε]at a;refine PE.imp (znf g G.room j (zcK b m X.env _) ?_ hl (zam a.1 es X.env) (zaO a.2)) λu H v h=>ziz G d (λz=>z) h;have n:=zaO (pos:=pos) (env:=X.env) l;have q:(backTo pos (starEach (e::es) X.env)).all (λx=>!x.1)=Γ:=by rw[all_eq_true];intro x r;have:=List.any_eq_false.mp n x r;simpa using this
 have s:decide ((e::es).length+([]:List Keyword).length+(if([]:List Keyword).isEmpty then 0 else 1)<30)=Γ:=by rw[decide_eq_true_eq];show(e::es).length+0+0<30;lia
 rw[q,s];rfl
def ziy(b:a=.nil)(h:tAs X.K cf a c H d):tNil c H d:=by subst b;let⟨f,ι,S,Q,g,e,w,q⟩:=h;exact q [] H ⟨[],ι,S,Ext.refl _ _,rfl,e,by simpa[evEs]using w⟩
def zmH(G:Gd T cf k N sc X)(b:mtB T m c=Γ)(d:PE X o (tE X.K cf e))(a:zbb o=Γ)(hl:(apos.endLine==pos.line)=Γ):
  PE X (.Call (.Attribute o m apos) [] [] pos) (tE X.K cf (.meth m c e .nil)):=
 PE.imp (zkZ d G.room (zcK a m X.env _) hl) λf H g h=>ziz G b (λz=>ziy rfl z) h
def Vals.nons:∀j:Nat,Vals (List.replicate j .non) (List.replicate j Ξ.none)
 |0=>.nil|j+1=>.cons rfl (Vals.nons j)
def ziB(G:Gd T cf k N sc X)(O:Mks.cl[c]?=Φ C)(U:∀{n:L2.St}{H:Hp}{E:List V->Hp->Prop},tAs X.K cf o n H E->t n H E)(h:tE X.K cf (.mk c f x j o) n H Y):zph C (spF X.K cf f) (List.replicate j V.non) E0 t n H Y:=by
 let⟨δ,ι,S,Q,hs,hh,w,q⟩:=h;change W (Out.bind _ _) _ at w;simp![zab] at w;refine U (tAs.run hs hh w λds vs a i s x1 hs1 u r1 I=>?_);intro y g hy l z;have b:=u.new l (.own y);have J:Ext a i a (upd i g (.own y)):=Ext.new l _;have m:(upd i g (.own y)) y=Ψ:=by rw[zad (Ne.symm z)];exact hy
 have A:=b.obj' m (.ins C g []) (.ins c []) ⟨C,g,[],O,zag,rfl⟩;have L:Ext a (upd i g (.own y)) (a++[y]) (upd (upd i g (.own y)) y (.ins C g [])):=Ext.obj b m _;unfold appW at I;let⟨d,T',e,B⟩:=zf3 I;refine⟨a++[y],s.push (.ins c []),.ref s.len::(ds++List.replicate j .non),⟨.ref y,_,rfl,⟨y,b.last y,rfl⟩,RVs.append ((r1.ext J).ext L) (RVs.nons j)⟩,A,?_⟩;rw[e];intro v H' ι' M r hT;split at B;rename_i hn;cases d with| non=>refine⟨r,q _ _ ⟨.ref s.len,ι',T',((x1.trans J).trans L).trans M,⟨y,zbO M.pre (b.last y),rfl⟩,hT,B⟩⟩|_=>exact nB hn
 exact B.elim
def zt6(G:Gd T cf k N sc X)(d:T.inits.contains (c,f,j)=Γ)(i:T.cls[c]?=Φ x)(l:isGl sc x=Γ)(hd:(x==("__debug__":Str))=Δ)(m:PA X (e::es) (tAs X.K cf b))(a:(e::es).all zao=Γ):
  PE X (.Call (.Name x p) (e::es) [] pos) (tE X.K cf (.mk c f x j b)):=by
 let⟨C,q,r,s,g,M,F,n⟩:=(G.tab.ini c f j d).ex;let⟨t,e1,_,o,_⟩:=G.clsAt (.inr (.inl (ne_of d))) g;rw[i]at e1;cases e1;rw[all_cons,Ε]at a;exact PE.imp (zqm M F G.room' (G.gl l) o n (Vals.nons j) zhB m hd (zam a.1 es X.env) (zaO a.2)) λu H v h=>ziB G g (λz=>z) h
def zr9(G:Gd T cf k N sc X)(a:T.inits.contains (c,f,j)=Γ)(d:T.cls[c]?=Φ x)(e:isGl sc x=Γ)(hd:(x==("__debug__":Str))=Δ):
  PE X (.Call (.Name x p) [] [] pos) (tE X.K cf (.mk c f x j .nil)):=by
 let⟨C,l,m,n,b,M,F,g⟩:=(G.tab.ini c f j a).ex;let⟨o,e1,_,i,_⟩:=G.clsAt (.inr (.inl (ne_of a))) b;rw[d]at e1;cases e1;exact PE.imp (zng M F G.room' (G.gl e) i g (Vals.nons j) zhB hd) λq H r h=>ziB G b (λz=>ziy rfl z) h
def ztu(hs:(e::es).all zao=Γ)(f:(e::es).length<29):((backTo pos (starEach (e::es) env)).all (λx=>!x.1)&&(backToKw pos (keywordEach [] env)).all (λx=>x.1.isSome)
  && decide ((e::es).length+([]:List Keyword).length+(if([]:List Keyword).isEmpty then 0 else 1)<30))=Γ:=by
 have a:=zaO (pos:=pos) (env:=env) hs;have b:(backTo pos (starEach (e::es) env)).all (λx=>!x.1)=Γ:=by rw[all_eq_true];intro x c;have:=List.any_eq_false.mp a x c;simpa using this
 have d:decide ((e::es).length+([]:List Keyword).length+(if([]:List Keyword).isEmpty then 0 else 1)<30)=Γ:=by rw[decide_eq_true_eq];show(e::es).length+0+0<30;omega
 rw[b,d];rfl
def zno(Hs:HasC X.prog X.w X.K X.mg X.base k x m sp)(o:Room k X.A)(w:PA X (e::es) t)(y:Gl X x)(g:(x==("__debug__":Str))=Δ)(c:attributeBase (.Name x p) m X.env (eval (.Name x p) X.env)=eval (.Name x p) X.env)(f:(e::es).all zao=Γ)(A:(e::es).length<29)(d:(apos.endLine==pos.line)=Γ):
  PE X (.Call (.Attribute (.Name x p) m apos) (e::es) [] pos) (zff sp [] E0 t):=by
 let⟨C,fa,fd,ps,mc,B,E,G,J,L,F,M⟩:=Hs.ex;have a:=f;rw[all_cons,Ε]at a;intro b s i H Q I h;refine zfC c (ztu f A) d (thn (zk0 (v:=.ref C) y B rfl g b s i H (λv j=>v=.ref C/\zff sp [] E0 t i j Q) I ⟨rfl,h⟩) λu s1 z pl=>?_);let⟨xv,j,l,O,U,q⟩:=z;subst U;obtain rfl:u=Ξ.ref C:=O;refine PySem.W.method_cls l.kIn E (PySem.W.cls_value l.kIn G J rfl ?_);exact callWith_K (first:=[]) (h₀:=X.base) I.ok.mod.kin L (thn (w pos b _ i j _ (l.tok _) q) λus s2 z=>eY z λvs H2 n r Y=>⟨n.kIn,(zge (us:=us) (vs:=vs) F o M .nil zhB n r Y)⟩) (zam a.1 es X.env) (zaO a.2)
def zjL(h:tE X.K cf (.callC f x m a) i H j):zff (spF X.K cf f) [] E0 (tAs X.K cf a) i H j:=by let⟨C,ι,S,Q,l,n,w,q⟩:=h;change W (Out.bind _ _) _ at w;simp![zab] at w;refine tAs.run l n w λo E b G s t u c y g=>?_;unfold appW at g;rw[ϡ];refine⟨b,s,o,y,c,?_⟩;let⟨d,z,e,A⟩:=zf3 g;rw[e];exact λv H' ι' x r B=>q v H' (Lf.up t ⟨d,ι',z,x,r,B,A⟩)
def zmN(G:Gd T cf k N sc X)(d:T.cms.contains (x,m,f)=Γ)(g:isGl sc x=Γ)(hd:(x==("__debug__":Str))=Δ)(a:zbb (.Name x p)=Γ)(i:PA X (e::es) (tAs X.K cf b))(c:(e::es).all zao=Γ)(j:(e::es).length<29)(hl:(apos.endLine==pos.line)=Γ):
  PE X (.Call (.Attribute (.Name x p) m apos) (e::es) [] pos) (tE X.K cf (.callC f x m b)):=
 PE.imp (zno (G.tab.cmd x m f d) G.room i (G.gl g) hd (zcK a m X.env _) c j hl) λl H n h=>zjL h
end
end R
namespace R
open PySem PySem.Spec PyProof.Rows L2
section
variable{X:Cx}{pins:List (Addr×Obj)}{σ:L2.St}{H:Hp}{s:Β}{A:ϐ}{E:Ξ->Β->Prop}{a c:Addr}{k:K3}{ws:List (K3×Addr×V)}
abbrev val3(ws:List (K3×Addr×V))(k:K3):Option V:=(ws.find? λx=>decide (x.1=k)).map (·.2.2)
def zod(ok:HOk P w H h)(e:Rd H a (.ext (TriO a ws)))(tk:TriK H ws):ws.length<=sizeLine/\(a==sysModules)=Δ/\∃xs,Paired P3 ws xs/\h.DictOfH (zb1 P w) a xs:=by
 let⟨⟨z,y,xs,r,o,g,i,j,b,n,u,v⟩,_,_⟩:=(show ObjOk P w H h a (.ext _) from e.ok ok);refine⟨z,y,xs,r,o,g,i,j,b,n,?_,?_,v⟩;rw[u];exact Τ λx _=>(zhT x).symm;have d:∀{l:List (K3×Addr×V)}{m:List (K3×Addr×Ξ)},Paired P3 l m->TriK H l->∀x∈m,(zb1 P w).is h x.1 x.2.1:=by
  intro l m q;induction q with
  |nil=>intro _ x b;exact by cases b
  | @cons p q G I f t B=>intro tk x b;rcases mem_cons.mp b with e|b;subst e;rw[<-f.1,<-f.2.1];exact zfJ ok (tk p Μ);exact B (λy C=>tk y (Κ _ C)) x b
 exact d r tk
def zsP(k)(h:Paired P3 ws xs):RelO (val3 ws k) ((atKey xs k).map (·.2)):=by induction h with|nil=>exact trivial| @cons p q f g b t d=>unfold val3 atKey at d⊢;rw[List.find?_cons,List.find?_cons];by_cases e:p.1=k;rw[decide_eq_true e,decide_eq_true (b.1▸e)];exact b.2.2;rw[decide_eq_false e,decide_eq_false (b.1▸e)];exact d
def zra(n:A.units+5<cLine)(I:Inv X pins σ H s)(e:Rd H a (.ext (TriO a ws)))(tk:TriK H ws)(i:Key3 H k c)(j:RelV d r)(h:∀f s',Inv X pins σ H s'->RelV ((val3 ws k).getD d) f->Q f s'):
  wpAny (model X.prog X.w) A (call (.builtin "dict.get") [.ref a,.ref c,r]) Q E s:=by
 let⟨z,l,m,b,g⟩:=zod I.hok e tk;exact call_meetsIn PySem.F.slot_dict_get g.typeIs PySem.F.entry_dict_get (PySem.F.args_dict_get_3 _ _ _) (meetsH_dict_get_default (zb1 X.prog X.w) a c l r) ⟨(show A.units+1+4<cLine by omega),k,m,zfJ I.hok i,g,h _ _ (I.tok _) ((zsP k b).getD j)⟩
end
abbrev zrT(g h i:TE):TE:=λe H Q=>g e H λx f=>∃a b,x=.ref a/\Rd f a (.ext (TriO a b))/\TriK f b/\h e f λy j=>i e j λz d=>∃k c,y=.ref c/\Key3 d k c/\Rd d a (.ext (TriO a b))/\TriK d b/\Q ((val3 b k).getD z) d
def znm(r:X.A.units+5<cLine)(t:PE X o w)(A:PE X e B)(C:PE X f E)(m:M2 X o "get" apos e f cpos):PE X (.Call (.Attribute o "get" apos) [e,f] [] cpos) (zrT w B E):=by intro g s i H Q I h;refine wpAny_Call_method m.base m.few m.line PySem.F.plainAttrs_dict PySem.F.slot_dict_get PySem.F.type_dict_get (thn (t g s i H _ I h) λu G v=>?_);let⟨x,J,n,L,a,ws,M,d,N,O⟩:=v;subst M;obtain rfl:u=Ξ.ref a:=L;let⟨_,hd,xs,_,p⟩:=zod n.hok d N;refine⟨p.typeIs,λb q=>?_,?_⟩;cases q;let⟨T,_,_,U,Y,_⟩:=p;exact⟨T,U,Y.2.1⟩;rw[m.trees];refine Calls.callWith_builtin rfl (Calls.evalArgs_plain (Calls.spliced_cons (thn (A g G i J _ n O) λiv s2 z=>eY z λy H2 I2 ry q2=>Calls.spliced_cons (thn (C g s2 i H2 _ I2 q2) λfv s3 ⟨z,H3,I3,rz,k,c,ey,ek,d3,j,q3⟩=>Calls.spliced_nil ?_))));subst ey;cases(show iv=Ξ.ref c from ry);exact zra r I3 d3 j ek rz λw' s4 I4 l=>⟨_,H3,I4,l,q3⟩
end R
namespace R
open PySem PySem.Spec PyProof.Rows L2
variable[Mks]
abbrev hid(H:Hp)(c:Addr):Hp:=λb=>if b=c then Ψ else H b
def zlL:hid H c c=Ψ:=if_pos rfl
def zcW(h:b≠c):hid H c b=H b:=if_neg h
def znH(h:hid H c b=Φ o):b≠c/\H b=Φ o:=by unfold hid at h;split at h;exact nS h;rename_i n;exact⟨n,h⟩
def zcp(h:H b=Ψ):hid H c b=Ψ:=by unfold hid;split;rfl;exact h
noncomputable abbrev envK(st:Stmt)(f c c' L:Addr):Env:=PySem.W.envX arrQ (zaa st) L f (.ref c') [(("last":Str),c)]
abbrev zl8(P:Υ)(w:ϋ)(K:Frag)(mg:Str->Option Ξ)(base:Heap)(st:Stmt)(f c c':Addr)(A:ϐ)(outer:List Env)(s:Β)(H:Hp):Cx where
 prog:=P
 w:=w
 K:=K
 mg:=mg
 base:=base
 A:=A.deeper (envK st f c c' s.heap.objs.size)
 N:=["turn","path","to","word","last"]
 s₀:=s
 H₀:=hid H c
 env:=envK st f c c' s.heap.objs.size
 outer:=outer
 stack:=envK st f c c' s.heap.objs.size::outer
 ex:=[]
 calm:=Γ
 fn:=λ_=>Δ
 pn:=[]
 xe:=λ_ _=>False
section
variable{P:Υ}{w:ϋ}{K:Frag}{mg:Str->Option Ξ}{base:Heap}{st:Stmt}{f c c' d:Addr}{A:ϐ}{outer:List Env}{s:Β}{H:Hp}{ou:Obj}
def zqU(T:CloSt st)(hd:A.handled=Ψ)(j:Env0 P w K mg base A outer s H)(B:H c=Φ (.frz ou (.own 0)))(G:ou.data=.cell (Φ (.ref d)))(O:RelV Q I)(U:RelV Y J)(r2:RelV v2 L)(r3:RelV v3 M)(C:m.Ns s.heap.objs.size (λx=>([(("turn":Str),I),(("path":Str),J),(("to":Str),L),(("word":Str),M)]:List (Str×Ξ)).reverse.lookup x))(u:∀b o,s.heap.get? b=Φ o->m.get? b=Φ o):
  Inv (zl8 P w K mg base st f c c' A outer s H) [] [Φ Q,Φ Y,Φ v2,Φ v3,Φ (.ref d)] (hid H c) {s with heap:=m,toks:=tk}:=by
 have N:s.heap.get? c=Φ ou:=(j.hok c _ B).1;have l:∀(y:Str)(z:Addr),(envK st f c c' s.heap.objs.size).cells.lookup y=Φ z->y="last"/\z=c:=λy z h=>by simp![List.lookup]at h;split at h;rename_i e;cases h;exact⟨by simpa using e,rfl⟩;exact nS h
 have k:(envK st f c c' s.heap.objs.size).cells.lookup ("last":Str)=Φ c:=by simp[List.lookup]
 have E:HOk P w (hid H c) s.heap:=λb o e=>by let⟨n,e⟩:=znH e;refine(j.hok b o e).stay (λ_ _ _ q=>q) (λx q=>?_) λx xs q=>?_;rw[zcW (λz=>by rw[z,B]at q;cases q)];exact q;rw[zcW (λz=>by rw[z,B]at q;cases q)];exact q
 have r:∀b:Addr,b∉(zl8 P w K mg base st f c c' A outer s H).ex:=λb z=>absurd (show b∈([]:List Addr) from z) (by simp);refine⟨⟨j.mod,T.kind,rfl,rfl,le_refl _,λy z x g a=>?_,λy t=>?_,λy z hz _=>(by exact nB hz),λ_=>hd,ϐ.frames_deeper j.frames,.inr ⟨rfl,rfl⟩,λb z=>absurd z (r b),λb o e=>⟨(j.bs b o e).1,zcp (j.bs b o e).2⟩,j.bsz,λb _ _=>r b,λb z=>absurd z (r b),j.funs,λb hb=>zcp (j.frf b hb)⟩,
  rfl,j.bare,Un.kept u,⟨_,C,λi y v g a h3=>?_⟩,λy z h=>?_,zcp (j.hok.fresh (le_refl _)),λy z h=>?_,λp hp=>absurd (show p∈([]:List (Addr×Obj)) from hp) (by simp),E.kept u,rfl⟩
 let⟨rfl,_⟩:=l y x g;exact(l z x a).1.symm;rcases t with t|t;exact absurd rfl (T.cell _ (ϑ t));have this:y="last":=T.free _ (ϑ t) rfl;rw[this];exact⟨c,k⟩
 . match i,g,a with|0,g,a=>cases g;cases a;exact⟨I,O,.inl ⟨T.l0,rfl⟩⟩|1,g,a=>cases g;cases a;exact⟨J,U,.inl ⟨T.l1,rfl⟩⟩|2,g,a=>cases g;cases a;exact⟨L,r2,.inl ⟨T.l2,rfl⟩⟩|3,g,a=>cases g;cases a;exact⟨M,r3,.inl ⟨T.l3,rfl⟩⟩|4,g,a=>cases g;cases a;exact⟨.ref d,rfl,.inr ⟨.inr T.l4,c,k,ou,u _ _ N,G⟩⟩|i+5,g,a=>simp at a
 let⟨_,rfl⟩:=l y z h;exact⟨_,ou,u _ _ N,G⟩;let⟨_,rfl⟩:=l y z h;exact zlL
def znZ{s':Β}(k:Env0 P w K mg base A outer s H)(e:H c=Φ (.frz ou (.own 0)))(a:Un (frs outer) [] (hid H c) H' s.heap s'.heap)(hok:HOk P w H' s'.heap):
  Un (frs outer) [] H (upd H' c (.frz ou (.own 0))) s.heap s'.heap/\HOk P w (upd H' c (.frz ou (.own 0))) s'.heap:=by
 have l:s.heap.get? c=Φ ou:=(k.hok c _ e).1;have cf:c∉frs outer:=λz=>by rw[k.frf c z]at e;exact nS e
 have g:s'.heap.get? c=Φ ou:=a.keep c ou l zlL cf (by simp);have m:H' c=Ψ:=a.free c ou l zlL (by simp);have r:∀b,H b=Ψ->b≠c:=λb n z=>by rw[z,e]at n;cases n
 refine⟨⟨λb o q n i j=>a.keep b o q (zcp n) i j,λb o q n i j=>a.slot b o q (zcp n) i j,λb o q n h=>?_,λb o q h=>a.there b o q h,λb p q=>?_,λb o u q=>?_,λb t q=>?_⟩,λb o q=>?_⟩;rw[zad (r b n)];exact a.free b o q (zcp n) h;have z:b≠c:=λz=>by rw[z,e]at q;cases q
 rw[zad z];exact a.tups b p (by rw[zcW z];exact q);by_cases z:b=c;subst z;rw[e]at q;cases q;exact zag;rw[zad z];exact a.frzs b o u (by rw[zcW z];exact q);have z:b≠c:=λz=>by rw[z,e]at q;cases q
 rw[zad z];exact a.tbls b t (by rw[zcW z];exact q);by_cases z:b=c;subst z;rw[zag]at q;cases q;exact⟨g,_,g⟩;rw[zad z]at q;exact(hok b o q).stay (λ_ _ _ q=>q) (λx q=>by rw[zad (zah q m)];exact q) λx p q=>by rw[zad (zah q m)];exact q
def zrf(O:Mks.rs=Φ st)(U:Room (k+1) A)(l:Env0 P w K mg base A outer s H)(hf:H f=Φ (.frz (PySem.W.fnMade arrN arrQ (zap st) (zal st) (zaa st) [(("last":Str),c)] B pm c' ct) (.own 0)))(Y:H c'=Φ (.frz oc (.own 0)))(hoc:oc.data=.fields vs)(hv:vs[1]?=Φ (.str arrQ t))(m:H c=Φ (.frz ou (.own 0)))(ho:ou.data=.cell (Φ (.ref d)))(hd:H d=Φ (.frz od (.ext (TriO d n))))(tk:TriK H n)(r0:RelV v0 u0)(r1:RelV v1 u1)(r2:RelV v2 u2)(r3:RelV v3 u3)(e0':v0=.int kk.1)(e1:v1=.ref pb)(L:H pb=Φ (.tup (kk.2.1.map V.int)))(e2:v2=.int kk.2.2)(q:∀p,H p=Ψ->Q ((val3 n kk).getD v3) (upd H p (.tup [v0,v1,v2]))):
  codeAny (model P w) A (.call (.ref f) ⟨[u0,u1,u2,u3],[]⟩) (CR CX0 outer P w H s Q E) s:=by
 have T:CloSt st:=by have:=Mks.ro;rw[O]at this;exact this
 have lim:s.heap.NoLimit:=l.mod.nolimit.keeps λb o e=>(l.bs b o e).1;refine codeAny_call_def (fd:=PySem.W.fnX arrN arrQ (zap st) (zal st) (zaa st) [(("last":Str),c)] .none .none B pm Ψ (.ref c') ct) (body:=zal st) U.depth (l.hok f _ hf).1 rfl lim ⟨c',oc,vs,t,rfl,(l.hok c' _ Y).1,hoc,hv⟩ rfl (.of_eq (T.bind _ B pm _ ct u0 u1 u2 u3)) T.cell (λx r=>?_) (λh₁ hns hk=>?_) T.co T.gen T.kind;simp![mem_cons,not_mem_nil,or_false]at r;rcases r with rfl|rfl|rfl|rfl;exact T.l0;exact T.l1;exact T.l2;exact T.l3;have I:=zqU (f:=f) (c':=c') (tk:=s.toks+([(("turn":Str),u0),(("path":Str),u1),(("to":Str),u2),(("word":Str),u3)]:List (Str×Ξ)).length) T U.hd l m ho r0 r1 r2 r3 hns hk;let⟨x6,p1,p2,p3,p4,p5,p6,p7,p8,p9,eb,l1⟩:=T.body;have hu:(zl8 P w K mg base st f c c' A outer s H).A.units+5<cLine:=by have:=U.un;show A.units+3+5<_;lia
 have pT:PE (zl8 P w K mg base st f c c' A outer s H) (.Tuple [.Name "turn" p3,.Name "path" p4,.Name "to" p5] x6 p6) (tTup (zew (tVar 0) (zew (tVar 1) (zew (tVar 2) tNil)))):=zoy (zbz (zbV rfl (.inl T.l0)) (zbz (zbV rfl (.inl T.l1)) (zbz (zbV rfl (.inl T.l2)) zeM)));have pb':=zfv (zkP (pos:=p9) (znm hu (zbV (X:=zl8 P w K mg base st f c c' A outer s H) (pos:=p1) (i:=4) (x:="last") rfl (.inr (.inr T.l4))) pT (zbV (pos:=p7) (i:=3) (x:="word") rfl (.inl T.l3)) (apos:=p2) (cpos:=p8) ⟨rfl,rfl,l1,rfl⟩));have hdc:d≠c:=λz=>by rw[z,m]at hd;injection hd with hd;injection hd with _ hd;cases hd
 have pbc:pb≠c:=λz=>by rw[z,m]at L;cases L
 rw[eb];subst e0' e1 e2;have hw:=pb' [] _ _ _ {nx:=λ_ _=>False,rt:=λv H'=>∃p,hid H c p=Ψ/\v=(val3 n kk).getD v3/\H'=upd (hid H c) p (.tup [.int kk.1,.ref pb,.int kk.2.2])} I ?_;refine ό hw (λfl s' M=>?_) λe s' z=>False.elim z;cases fl with
 |ret u=>
  let⟨v,σ',H',J,rv,p,pn,rfl,rfl⟩:=M;have h:(envK st f c c' s.heap.objs.size).cells.lookup ("last":Str)=Φ c:=by simp[List.lookup]
  have pc:p≠c:=λz=>by have:=J.freeC "last" c h;rw[z,zag]at this;cases this
  have pH:H p=Ψ:=by rw[zcW pc]at pn;exact pn
  have un:Un (frs outer) [] (hid H c) (upd (hid H c) p (.tup [.int kk.1,.ref pb,.int kk.2.2])) s.heap s'.heap:=J.base;let⟨C,g⟩:=znZ l m un J.hok;have e:upd (upd (hid H c) p (.tup [.int kk.1,.ref pb,.int kk.2.2])) c (.frz ou (.own 0))=upd H p (.tup [.int kk.1,.ref pb,.int kk.2.2]):=by funext b;by_cases z:b=c;subst z;rw[zag,zad (Ne.symm pc)];exact m.symm;rw[zad z];by_cases y:b=p;subst y;rw[zag,zag];rw[zad y,zad y,zcW z]
  rw[e]at C g;exact⟨_,_,J.os,J.bare,C,g,rv,q p pH⟩
 |next=>let⟨_,_,_,z⟩:=M;exact False.elim z|brk=>let⟨_,_,_,z⟩:=M;exact False.elim z|cont=>let⟨_,_,_,z⟩:=M;exact False.elim z
 have up1:∀b N,H b=Φ (.tup N)->hid H c b=Φ (.tup N):=λb N e=>by rw[zcW (λz=>by rw[z,m]at e;cases e)];exact e
 have G:TriK (hid H c) n:=λx r=>(tk x r).up up1;have j:hid H c d=Φ (.frz od (.ext (TriO d n))):=by rw[zcW hdc];exact hd
 refine⟨.ref d,rfl,d,n,rfl,.inr ⟨od,j⟩,G,_,rfl,_,rfl,_,rfl,(by show 3<=sizeLine;rw[Χ];decide),λp a=>⟨v3,rfl,kk,p,rfl,⟨pb,zag,?_⟩,.inr ⟨od,?_⟩,λx r=>(G x r).up λb N e=>?_,p,a,rfl,rfl⟩⟩;rw[zad (zah (up1 _ _ L) a)];exact up1 _ _ L;rw[zad (zah j a)];exact j;rw[zad (zah e a)];exact e
end
def ze0(h:zdp d ds=Φ r):∃kvs t ps b w p,d=.clo kvs/\ds=[.int t,.tup ps,.int b,w]/\zaD ps=Φ p/\r=(match kvs.find? λa=>decide (a.1=(t,p,b)) with|some a=>wD a.2|none=>w):=by
 cases d with
 |clo kvs=>
  rcases ds with _|⟨a,_|⟨c,_|⟨b,_|⟨w,_|⟨_,_⟩⟩⟩⟩⟩
  all_goals first|exact nS h|skip
  all_goals(cases a<;>first|exact nS h|skip)
  all_goals(cases c<;>first|exact nS h|skip)
  all_goals(cases b<;>first|exact nS h|skip)
  rename_i t ps b;replace h:((zaD ps).map λp=>(match kvs.find? λc=>decide (c.1=(t,p,b)) with|some c=>wD c.2|none=>w))=Φ r:=h;cases e:zaD ps with
  |none=>rw[e]at h;exact nS h
  |some p=>rw[e]at h;exact⟨kvs,t,ps,b,w,p,rfl,rfl,e,(Option.some.inj h).symm⟩
 |_=>exact nS h
def W3s.val(k):∀{kvs:List (K3×Option Int)}{b:List (K3×Addr×V)},W3s H kvs b->((kvs.find? λa=>decide (a.1=k))=Ψ/\val3 b k=Ψ)\/∃a,(kvs.find? λa=>decide (a.1=k))=Φ a/\val3 b k=Φ (vW a.2)
 | [],_,r=>by rw[show _=[] from r];exact .inl ⟨rfl,rfl⟩| (j,o)::kvs,b,r=>by let⟨c,w,rfl,_,d⟩:=r;unfold val3;rw[List.find?_cons,List.find?_cons];by_cases e:j=k;rw[decide_eq_true e];exact .inr ⟨_,rfl,rfl⟩;rw[decide_eq_false e];exact W3s.val k d
def W3s.triK:∀{kvs:List (K3×Option Int)}{a:List (K3×Addr×V)},W3s H kvs a->TriK H a
 | [],_,r=>by rw[show _=[] from r];intro x b;cases b
 |(j,o)::kvs,a,r=>by let⟨c,w,rfl,d,f⟩:=r;intro x b;rcases mem_cons.mp b with e|e;subst e;exact d;exact W3s.triK f x e
def zcJ(h:Vals (v::r) us):∃u c,us=u::c/\L2.RelV v u/\Vals r c:=by cases h with|cons a b=>exact⟨_,_,rfl,a,b⟩
def rv_w{K}(o):RV K ι H (wD o) (vW o):=by cases o<;>rfl
section
variable{T:Tab}{cf:CF}{k:Nat}{N:List Str}{sc:Scope}{X:Cx}{pos p:Pos}
def ziG{K}:∀{ps:List D}{is:List Int}{xs:List V},zaD ps=Φ is->RVs K ι H ps xs->xs=is.map V.int
 | [],is,xs,h,r=>by
  have h:is=[]:=by simpa[zaD]using h.symm
  subst h;exact r
 |d::ps,is,xs,h,r=>by let⟨i,f,a,b,rfl⟩:=zaC h;let⟨v,w,rfl,c,e⟩:=r;cases d with| int j=>have a:j=i:=Option.some.inj a;subst a;rw[ziG b e,show v=V.int j from c];rfl|_=>exact nS a
def zmM(G:Gd T cf k N sc X)(hx:PE X (.Name x p) (tE X.K cf ca))(ha:PA X (e::es) (tAs X.K cf M))(o:(e::es).all zao=Γ):
  PE X (.Call (.Name x p) (e::es) [] pos) (tE X.K cf (.callV ca M)):=by
 rw[all_cons,Ε]at o;intro l s σ H Qv I j;let⟨δ,ι,S,Qd,hs,hh,w,q⟩:=j;change W (Out.bind _ _) _ at w;simp![zab] at w;refine ϖ (thn (hx l s σ H (λv m=>∃d a O,Ext ι H a m/\RS X.K a m δ σ/\RH X.K a m O/\RV X.K a m d v/\W (evEs cf M δ O) λds A=>W (lift A (zdp d ds)) Qd) I (tE.run hs hh w λd v a m O x1 B C r1 U=>⟨d,a,O,x1,B,C,r1,U⟩)) λu s1 y=>?_);let⟨v,m,I1,i,d,a,O,x1,B,C,r1,U⟩:=y;let⟨ds,A,ee,w2⟩:=zf3 U;let⟨r,er,w3⟩:=zax w2;let⟨Y,t,ps,b,z,pp,rfl,rfl,hp,rfl⟩:=ze0 er;let⟨f,rfl,cl⟩:=r1;obtain rfl:u=Ξ.ref f:=i;have n:∀{H':Hp}{s':Β},HOk X.prog X.w H' s'.heap->CloAt H' f Y->PySem.W.FnAt f s'.heap:=λ{H' s'} ok cl=>by let⟨c,dd,ou,od,ws,⟨st,pm,ct,doc,c',oc,vs,tt,h0,h1,_⟩,_⟩:=cl;exact⟨_,_,_,_,(ok f _ h1).1⟩
 refine PySem.W.callWith_F (n I1.hok cl) (thn (ha pos l s1 σ m (λvs H2=>∃g A,Ext a m g H2/\RH X.K g H2 A/\∃h,RVs X.K g H2 h vs/\W (lift A (zdp (.clo Y) h)) Qd) I1 (tAs.run B C U λh vs g H2 A x2 hs2 J r2 w2=>⟨g,A,x2,J,h,r2,w2⟩)) λus s2 y=>?_) (zam o.1 es X.env) (zaO o.2);let⟨vs,H2,I2,rvs,g,S2',x2,J,h,r2,w2'⟩:=y;have cl2:=cl.kp x2.kp;refine⟨n I2.hok cl2,?_⟩;clear w2 w3 er hp ee U;let⟨r,er,w3⟩:=zax w2';let⟨kvs',t,ps,b,z,pp,e1,rfl,hp,rfl⟩:=ze0 er;cases e1;let⟨v0,r0,rfl,q0,v1,r1',rfl,q1,v2,r2',rfl,q2,v3,r3',rfl,q3,q4⟩:=r2;cases(show r3'=[] from q4);let⟨pb,xs,rfl,hpb,rxs⟩:=q1;rw[ziG hp rxs]at hpb;let⟨u0,us,rfl,ru0,i⟩:=zcJ rvs;let⟨u1,us,rfl,ru1,i⟩:=zcJ i;let⟨u2,us,rfl,ru2,i⟩:=zcJ i;let⟨u3,us,rfl,ru3,i⟩:=zcJ i;cases i;let⟨c,dd,ou,od,ws,⟨st,pm,ct,doc,c',oc,vs,tt,h0,h1,h2,h3,h4⟩,hc,ho,hd,w3s⟩:=cl2;refine wpAny_call (Ϛ (zrf (k:=k) (Q:=Qv) (E:=λ_ _ _=>False) (kk:=(t,pp,b)) (pb:=pb) h0 G.room' I2.env0 h1 h2 h3 h4 hc ho hd w3s.triK ru0 ru1 ru2 ru3 q0 rfl hpb q2 λp L=>?_) λr s' hq=>?_);refine q _ _ (Lf.up (x1.trans x2) ⟨_,g,S2',Ext.new L _,?_,J.new L _,w3⟩);rcases w3s.val (t,pp,b) with⟨e1,e2⟩|⟨kv,e1,e2⟩;rw[e1,e2];exact q3.ext (Ext.new L _);rw[e1,e2];exact rv_w _;cases r with|error e=>exact False.elim hq| ok fl=>cases fl with|ret u=>exact I2.after hq|_=>exact False.elim hq
end
abbrev LfS(K:Frag)(ι:List Addr)(H:Hp)(Q:Fl->R.St->Prop)(E:Ends):Prop:=∀f ι' H' c,Ext ι H ι' H'->RH K ι' H' c->Q f c->(match f with|.nx b=>∀a,RS K ι' H' b a->E.nx a H'|.rt d=>∀v,RV K ι' H' d v->E.rt v H')
abbrev tS(K:Frag)(cf:CF)(b:CS):TS:=λE c H=>∃a ι S Q,RS K ι H a c/\RH K ι H S/\W (exS cf b a S) Q/\LfS K ι H Q E
def LfS.up{K}(h:LfS K ι H Q E)(x:Ext ι H a b):LfS K a b Q E:=λf ι' H' c d e q=>h f ι' H' c (x.trans d) e q
def PSs.imp{st}(h:PSs X st t)(i:∀E a H,t' E a H->t E a H):PSs X st t':=λb s a H E I q=>h b s a H E I (i E a H q)
section
variable{T:Tab}{cf:CF}{k:Nat}{N:List Str}{sc:Scope}{X:Cx}{pos p:Pos}{rest:List Stmt}
def zrY:PSs X [] (tS X.K cf .nil):=PSs.imp zkN λE a H z=>by let⟨d,ι,S,Q,b,c,w,l⟩:=z;exact l _ ι H S (Ext.refl _ _) c w a b
def zr0(G:Gd T cf k N sc X)(g:N[i]?=Φ x)(f:zgI sc x=Γ)(h:PE X e (tE X.K cf j))(m:zbB e=Γ)(n:PSs X rest (tS X.K cf r)):
  PSs X (.Assign [.Name x p] e pos::rest) (tS X.K cf (.asg i j r)):=by
 refine PSs.imp (zaN (zkO (by rw[G.nm];exact G.nd) (by rw[G.nm];exact g) (G.lc f).1 h (zfg m _ _ _) (G.lc f).2) n) λE B H z=>?_;let⟨o,ι,S,Q,q,s,w,l⟩:=z;change W (Out.bind _ _) _ at w;simp![zab] at w;exact tE.run q s w λd v a C t u b c y A=>⟨o.set i (Φ d),a,t,Q,b.set y i,c,A,l.up u⟩
def zpq(G:Gd T cf k N sc X)(I:N[i]?=Φ x)(a:∃t,PS X (.Assign [.Name x p] e pos) (tAsg t (zfP i))/\∀b H h,tE X.K cf j b H h->t b H h)(m:PSs X rest (tS X.K cf r)):
  PSs X (.Assign [.Name x p] e pos::rest) (tS X.K cf (.asg i j r)):=by
 let⟨t,n,o⟩:=a;refine PSs.imp (zaN n m) λE b H z=>?_;let⟨q,ι,S,Q,s,u,w,l⟩:=z;change W (Out.bind _ _) _ at w;simp![zab] at w;exact o _ _ _ (tE.run s u w λd v c J y A f g B C=>⟨q.set i (Φ d),c,y,Q,f.set B i,g,C,l.up A⟩)
def zpn(f:PE X e (tE X.K cf g))(h:zbB e=Γ)(i:PSs X rest (tS X.K cf r)):PSs X (.Expr e pos::rest) (tS X.K cf (.expr g r)):=by refine PSs.imp (zaN (zqc f (zfg h _ _ _)) i) λE t H z=>?_;let⟨j,ι,S,Q,m,n,w,l⟩:=z;change W (Out.bind _ _) _ at w;simp![zab] at w;exact tE.run m n w λd v a u o q b c x s=>⟨j,a,o,Q,b,c,s,l.up q⟩
def zrX(b:PE X e (tE X.K cf c))(f:PSs X rest (tS X.K cf r)):PSs X (.Return (Φ e) pos::rest) (tS X.K cf (.ret c r)):=by refine PSs.imp (zaN (zkP b) f) λE q H z=>?_;let⟨s,ι,S,Q,g,h,w,l⟩:=z;change W (Out.bind _ _) _ at w;simp![zab] at w;exact tE.run g h w λd v i t u j m a n o=>(l _ _ _ _ j a o v n)
def zt3(A:PT X c (tT X.K cf B))(C:PSs X a (tS X.K cf G))(I:PSs X b (tS X.K cf J))(L:PSs X rest (tS X.K cf r)):PSs X (.If c a b pos::rest) (tS X.K cf (.ifS B G J r)):=by
 refine PSs.imp (zaN (zsD A C I) L) λE σ H k=>?_;let⟨s,ι,S,Q,M,O,w,l⟩:=k;change W (Out.bind _ _) _ at w;simp![zab] at w;refine tT.run M O w λz e U t u h i x=>?_;have fin:LfS X.K e U (λf m=>W (match f with|.nx g=>exS cf r g m|.rt d=>.ok (.rt d) m) Q) {E with nx:=tS X.K cf r E}:=by intro f n H2 m y j q;cases f with|nx g=>exact λY o=>⟨g,n,m,Q,o,j,q,(l.up u).up y⟩|rt d=>exact λv rv=>(l.up u) _ _ _ _ y j q v rv
 cases z with|true=>exact⟨s,e,t,_,h,i,x,fin⟩|false=>exact⟨s,e,t,_,h,i,x,fin⟩
abbrev FInv(K:Frag)(cf:CF)(g:List Nat)(b:CS)(l:Fl->R.St->Prop)(ds:List D)(a:List Nat)(h:List Addr)(m:Hp)(d:R.St)(i:Nat)(j:L2.St)(H':Hp):Prop:=i<=ds.length/\∃c ι' e,RS K ι' H' c j/\Ltr K h m d a ι' H' e/\e.lk=a++d.lk/\d.len<=e.len/\W (zba g (exS cf b) (ds.drop i) c e) λf n=>l f {n with lk:=d.lk}
def zrZ(G:Gd T cf k N sc X)(hi:PI X tg e (tI X.K cf it))(hg:PG X tg (tG X.K is))(hb:PSs X body (tS X.K cf M))(t:za3 e=Γ)(hr:PSs X rest (tS X.K cf r)):
  PSs X (.For tg e body [] pos::rest) (tS X.K cf (.forS is it M r)):=by
 have hp:PassesOwn (model X.prog X.w) X.A X.env X.xe:=by rw[G.xe];exact PassesOwn.never
 refine PSs.imp (zaN (zow hp G.calm hi hg hb (zhQ t X.env)) hr) λE σ H y=>?_;let⟨δ,ι,S,Q,hs,hh,w,l⟩:=y;change W (Out.bind _ _) _ at w;simp![zab] at w;refine⟨δ,ι,S,_,hs,hh,w,λJ H1 y=>?_⟩;let⟨U,a,g,j,x1,Y,u,O⟩:=y;unfold zbh at u;rw[zab]at u;refine⟨λi m A H'=>m=U.length-i/\FInv X.K cf is M (λf S2=>W (match f with|.nx b=>exS cf r b S2|.rt d=>.ok (.rt d) S2) Q) U a g H1 j i A H',⟨_,rfl,zero_le _,δ,g,{j with lk:=a++j.lk},hs.ext x1,⟨Ext.refl _ _,Y.lk _,λl _=>rfl⟩,rfl,le_refl _,u⟩,?_⟩;rintro i m A H' ⟨rfl,hle,b,ι',s,B,n,C,I,c⟩;have l1:=l.up (x1.trans n.ext);rcases Nat.lt_or_eq_of_le hle with o|rfl;refine .inr ⟨O.go i ι' H' s n o,FInv X.K cf is M _ U a g H1 j (i+1),λσ2 H2 h=>⟨_,by omega,rfl,h⟩,λx H2 hy=>?_⟩;let⟨x2,hh2,d,hd,rd⟩:=O.yld i ι' H' s x H2 n o hy;rw[zgV hd]at c;simp![zba]at c;cases ea:asgG is d b with|none=>rw[ea]at c;exact c.elim| some q=>rw[ea]at c;rw[zab]at c;refine⟨b,ι',d,q,B.ext x2,rd,ea,λσ2 hs3=>⟨q,ι',s,_,hs3,hh2,(frS G.tab.frm M q s).w c,?_⟩⟩;rintro f ι3 H3 S3 x3 L ⟨w3,f3⟩;have k1:=f3.lk.trans C;have k3:∀l∈a,S3.get l=j.get l:=λl hl=>(f3.same l (by rw[C];exact mem_append_left _ hl) (lt_of_lt_of_le (O.lks l hl) I)).trans (n.lck l hl);cases f with|nx δ3=>exact λσ3 hs4=>⟨o,δ3,ι3,S3,hs4,⟨(n.ext.trans x2).trans x3,L,k3⟩,k1,le_trans I f3.lens,w3⟩|rt z=>exact λv rv=>l1 _ _ _ _ (x2.trans x3) (L.lk _) w3 v rv
 refine .inl ⟨O.stop _ ι' H' s n (le_refl _),?_⟩;rw[List.drop_length]at c;exact⟨b,ι',{s with lk:=j.lk},Q,B,n.rh.lk _,c,l1⟩
abbrev zso(f g h:TE):TS:=λD d H=>h d H λv i=>f d i λx j=>g d j λy e=>∃a b k c,x=.ref a/\e a=Φ (.ext (TriO a b))/\TriK e b/\y=.ref c/\Key3 e k c/\b.length<sizeLine/\D.nx d (upd e a (.ext (TriO a (put3 b k c v))))
def zm8(j:X.A.units+5<cLine)(l:PE X o m)(n:PE X i q)(t:PE X b w)(hs:swapsWith b (Φ (.Subscript o i f)) pos.line X.env=pure Δ):
  PS X (.Assign [.Subscript o i f] b pos) (zso m q w):=by
 intro d s g H D I h;refine wpAny_Assign_Subscript (thn (t d s g H _ I h) λr A z=>eY z λv B C E G=>thn (l d A g B _ C G) λu J z=>eY z λx L M O Q=>thn (n d J g L _ M Q) λU s3 z=>?_) hs;let⟨y,H3,Y,ry,a,kxs,k,c,ex,e,tk,ec,ek,hl,q3⟩:=z;subst ex ec;obtain rfl:u=Ξ.ref a:=O;obtain rfl:U=Ξ.ref c:=ry;exact zjG j Y e tk ek hl E λs4 I4=>⟨g,_,I4,q3⟩
def zmA(G:Gd T cf k N sc X)(n:PE X a (tE X.K cf O))(h:PE X b (tE X.K cf U))(Y:PE X e (tE X.K cf ce))(hc:zbB e=Γ)(hr:PSs X rest (tS X.K cf r)):
  PSs X (.Assign [.Subscript a b p] e pos::rest) (tS X.K cf (.setIx O U ce r)):=by
 refine PSs.imp (zaN (zm8 (by have:=G.hu;lia) n h Y (zfg hc _ _ _)) hr) λE σ H z=>?_;let⟨δ,ι,S,Q,hs,hh,w,l⟩:=z;change W (Out.bind _ _) _ at w;simp![zab] at w;refine tE.run hs hh w λd v ι1 H1 S1 x1 o q r1 w1=>?_;refine tE.run o q w1 λx vx ι2 H2 S2 J s t r2 w2=>?_;refine tE.run s t w2 λy vy u H3 S3 A B g r3 j=>?_;cases f:zfV S3 x y d with|none=>rw[f]at j;exact j.elim| some S4=>rw[f]at j;unfold zfV Option.bind at f;split at f;split at f;rename_i i _ kvs e;split at f;exact nS f;rename_i kk ek;split at f;rename_i c;let⟨p,C,rfl⟩:=r2.ext A;let⟨b,L,nd,M,n,I⟩:=g.obj _ _ e;rw[C]at L;cases L;let⟨b,rfl,h⟩:=zqP r3 ek;have rv:=r1.ext (J.trans A);have m:=Ext.wr g e C (.ext (TriO p (put3 M kk b v)));exact⟨p,M,_,b,rfl,n,I.triK,rfl,h,by rw[I.length];exact c,δ,u,S4,Q,B.ext m,g.wr e C f ⟨zhw nd,_,zag,(I.put rv h).up m.pre m.kp⟩,j,l.up (((x1.trans J).trans A).trans m)⟩;exact nS f;exact nS f;exact nS f
def zpl(G:Gd T cf k N sc X)(A:T.flds.contains f=Γ)(U:PE X a (tE X.K cf Y))(he:PE X e (tE X.K cf ce))(hc:zbB e=Γ)(hr:PSs X rest (tS X.K cf r)):
  PSs X (.Assign [.Attribute a f p] e pos::rest) (tS X.K cf (.setF Y f ce r)):=by
 refine PSs.imp (zaN (zsE U he (zfg hc _ _ _)) hr) λE σ H z=>?_;let⟨δ,ι,S,Q,hs,hh,w,l⟩:=z;change W (Out.bind _ _) _ at w;simp![zab] at w;refine tE.run hs hh w λd v ι1 H1 S1 x1 o q r1 w1=>?_;refine tE.run o q w1 λx vx s H2 B I t h r2 m=>?_;cases g:zbT B x f d with
 |none=>rw[g]at m;exact m.elim| some S3=>
  rw[g]at m;unfold zbT at g;cases x with
  |ref i=>
   let⟨b,u,rfl⟩:=r2;dsimp only at g;cases j:B.get i with
   |none=>rw[j]at g;exact nS g
   |some ob=>
    rw[j]at g;cases ob with
    |ins c fs=>let⟨b',J,C,y,L,M,hb,O⟩:=h.obj _ _ j;rw[u]at J;cases J;dsimp only at g;split at g;rename_i c2;let⟨_,_,cl,_,na⟩:=G.clsAt (.inl (ne_of A)) M;have rv:=r1.ext I;have n:=Ext.wr h j u (.ins C y (putF f v L));refine⟨b,C,y,L,rfl,hb,cl,na f A,by rw[O.length];exact c2,δ,s,S3,Q,t.ext n,h.wr j u g ⟨C,y,_,M,zag,(O.put f rv).up n.pre n.kp⟩,m,l.up ((x1.trans I).trans n)⟩;exact nS g
    |_=>exact nS g
  |_=>exact nS g
def zpp(G:Gd T cf k N sc X)(n:zcv sc N is es=Γ)(o:2<=is.length)(s:PE X e (tE X.K cf t))(m:(∃x q,e=.Name x q)\/∃f as ks q,e=.Call f as ks q)(u:PSs X rest (tS X.K cf r)):
  PSs X (.Assign [.Tuple es j p] e pos::rest) (tS X.K cf (.asgT is t r)):=by
 have c:swapsWithSole [.Tuple es j p] e pos.line X.env=pure Δ:=by rcases m with⟨x,q,rfl⟩|⟨f,as,ks,q,rfl⟩<;>rfl
 have y:swappedStores [.Tuple es j p] e X.env=pure Ψ:=by rcases m with⟨x,q,rfl⟩|⟨f,as,ks,q,rfl⟩<;>rfl
 refine PSs.imp (zaN (zsF s (zom G n o) c y) u) λE Y H z=>?_;let⟨A,ι,S,Q,c,B,w,l⟩:=z;change W (Out.bind _ _) _ at w;simp![zab] at w;refine tE.run c B w λd v a H1 C I g h J L=>?_;let⟨b,M,O⟩:=zax L;exact⟨A,a,d,b,g,J,M,λU i=>⟨b,a,C,Q,i,h,O,l.up I⟩⟩
def zpm(a:PSs X rest (tS X.K cf r)):PSs X (.Return Ψ pos::rest) (tS X.K cf (.retN r)):=by refine PSs.imp (zaN zqb a) λE c H z=>?_;let⟨d,ι,S,Q,e,b,w,l⟩:=z;exact l _ _ _ _ (Ext.refl _ _) b w .non rfl
end
abbrev zqR:CL->Bool|.comp ..=>Γ|_=>Δ
abbrev isR1:CL->Bool|.rng1 _=>Γ|_=>Δ
abbrev zlC:CL->Bool|.rng1 _=>Γ|.rng2 _ _=>Γ|.enum _=>Γ|_=>Δ
abbrev zly:CL->Bool|.enum _=>Γ|_=>Δ
set_option backward.match.sparseCases false
abbrev zlA:Expr->Bool|.Tuple _ _ _=>Γ|_=>Δ
abbrev zb2:Expr->List Str
 |.Name x _=>[x]|.Tuple a _ _=>a.filterMap λ|.Name x _=>Φ x|_=>Ψ
 |_=>[]
abbrev zrc(a scope:Scope)(N:List Str)(b:List Nat):Bool:=
 decide (scope.kind=.function)&&scope.names.all (λy=>decide (y.2≠.cell))&&scope.names.all (λy=>decide (y.2≠.local)||decide (scope.names.lookup y.1=Φ .local))
  && scope.names.all (λy=>decide (y.2≠.free)||decide (a.names.lookup y.1=Φ .cell)||decide (a.names.lookup y.1=Φ .free))&&b.all (λj=>decide (scope.names.lookup (N.getD j "")=Φ .free)&&decide (j<N.length))
abbrev nmB(x:Str):Bool:=!(x==("__debug__":Str))&&!(x==("__classdict__":Str))&&!(x==("__name__":Str))
abbrev tyB(t:String)(y:Str):Bool:=(t=="bool"&&y==("bool":Str))||(t=="int"&&y==("int":Str))||(t=="list"&&y==("list":Str))||(t=="tuple"&&y==("tuple":Str))
abbrev biB:Bi->Str->Nat->Bool
 |.len,x,n=>x==("len":Str)&&n==1|.abs,x,n=>x==("abs":Str)&&n==1|.max2,x,n=>x==("max":Str)&&n==2|.min2,x,n=>x==("min":Str)&&n==2|.isin _,_,_=>Δ
abbrev zbU:Expr->Option Str|.Name x _=>Φ x|_=>Ψ
abbrev zdX:Expr->Option Const|.Constant c _ _=>Φ c|_=>Ψ
abbrev zmY:Expr->Option (Expr×Operator×Expr)|.BinOp l o r _=>Φ (l,o,r)|_=>Ψ
abbrev rdUn:Expr->Option (UnaryOp×Expr)|.UnaryOp o x _=>Φ (o,x)|_=>Ψ
abbrev zho:Expr->Option (Expr×List CmpOp×List Expr)|.Compare l os a _=>Φ (l,os,a)|_=>Ψ
abbrev zdY:Expr->Option (BoolOp×List Expr×Pos)|.BoolOp o a p=>Φ (o,a,p)|_=>Ψ
abbrev rdIf:Expr->Option (Expr×Expr×Expr)|.IfExp t x y _=>Φ (t,x,y)|_=>Ψ
abbrev zjd:Expr->Option (List Expr)|.Tuple a _ _=>Φ a|_=>Ψ
abbrev zim:Expr->Option (List Expr)|.List a _=>Φ a|_=>Ψ
abbrev zkD:Expr->Option (Expr×Expr)|.Dict [Φ k] [v] _=>Φ (k,v)|_=>Ψ
abbrev zdV:Expr->Bool|.Dict a b _=>a.isEmpty&&b.isEmpty|_=>Δ
abbrev zje:Expr->Option (Expr×Expr)|.Subscript x i _=>Φ (x,i)|_=>Ψ
abbrev zuU:Expr->Option Expr|.Slice Ψ Ψ (Φ s) _=>Φ s|_=>Ψ
abbrev rdSl:Expr->Option (Option Expr×Option Expr)|.Slice l u st _=>(match st with|none=>Φ (l,u)|some _=>Ψ)|_=>Ψ
abbrev zcO:Expr->Option (Expr×List Expr×List Keyword×Pos)|.Call f a b p=>Φ (f,a,b,p)|_=>Ψ
abbrev zcP:Expr->Option (Expr×Str×Pos)|.Attribute o x p=>Φ (o,x,p)|_=>Ψ
abbrev rdLC:Expr->Option (Expr×List Comprehension×Scope×Pos)|.ListComp e a b p=>Φ (e,a,b,p)|_=>Ψ
set_option backward.match.sparseCases true
section
variable{e l r x y i f:Expr}{xs rs as:List Expr}{ks:List Keyword}{p:Pos}
def zaV(h:zbU e=Φ n):∃p,e=.Name n p:=by cases e<;>first|(cases h;exact⟨_,rfl⟩)|exact nS h
def zdW(h:zdX e=Φ c):∃j p,e=.Constant c j p:=by cases e<;>first|(cases h;exact⟨_,_,rfl⟩)|exact nS h
def zkE(h:zmY e=Φ (l,o,r)):∃p,e=.BinOp l o r p:=by cases e<;>first|(cases h;exact⟨_,rfl⟩)|exact nS h
def zfl(h:rdUn e=Φ (o,x)):∃p,e=.UnaryOp o x p:=by cases e<;>first|(cases h;exact⟨_,rfl⟩)|exact nS h
def zcN{os}(h:zho e=Φ (l,os,rs)):∃p,e=.Compare l os rs p:=by cases e<;>first|(cases h;exact⟨_,rfl⟩)|exact nS h
def zci(h:zdY e=Φ (o,xs,p)):e=.BoolOp o xs p:=by cases e<;>first|(cases h;rfl)|exact nS h
def zmX(h:rdIf e=Φ (l,x,y)):∃p,e=.IfExp l x y p:=by cases e<;>first|(cases h;exact⟨_,rfl⟩)|exact nS h
def zdR(h:zjd e=Φ xs):∃j p,e=.Tuple xs j p:=by cases e<;>first|(cases h;exact⟨_,_,rfl⟩)|exact nS h
def zjg(h:zim e=Φ xs):∃p,e=.List xs p:=by cases e<;>first|(cases h;exact⟨_,rfl⟩)|exact nS h
def zdU(h:zdV e=Γ):∃p,e=.Dict [] [] p:=by
 cases e with
 |Dict ks a p=>
  cases ks with
  |cons _ _=>exact nB h
  |nil=>
   cases a with
   |cons _ _=>exact nB h
   |nil=>exact⟨_,rfl⟩
 |_=>exact nB h
def zdS(h:zje e=Φ (x,i)):∃p,e=.Subscript x i p:=by cases e<;>first|(cases h;exact⟨_,rfl⟩)|exact nS h
def zmW(h:rdSl e=Φ (a,b)):∃p,e=.Slice a b Ψ p:=by
 cases e with
 |Slice l u st p=>cases st with|none=>cases h;exact⟨_,rfl⟩|some _=>exact nS h
 |_=>exact nS h
def zc9(h:zcO e=Φ (f,as,ks,p)):e=.Call f as ks p:=by cases e<;>first|(cases h;rfl)|exact nS h
def zcj(h:zcP e=Φ (x,n,p)):e=.Attribute x n p:=by cases e<;>first|(cases h;rfl)|exact nS h
def zin(h:rdLC e=Φ (x,gs,a,p)):e=.ListComp x gs a p:=by cases e<;>first|(cases h;rfl)|exact nS h
end
def zac{a:Type}{o:Option a}{f:a->Bool}(h:o.any f=Γ):∃x,o=Φ x/\f x=Γ:=by
 cases o with
 |none=>exact nB h
 |some x=>exact⟨x,rfl,h⟩
abbrev one{a:Type}:List a->Option a | [x]=>Φ x|_=>Ψ
def zbA(h:one xs=Φ x):xs=[x]:=by match xs,h with| [y],h=>cases h;rfl
abbrev two{a:Type}:List a->Option (a×a) | [x,y]=>Φ (x,y)|_=>Ψ
def two_inv(h:two xs=Φ (x,y)):xs=[x,y]:=by match xs,h with| [a,b],h=>cases h;rfl
abbrev za7(e:Expr):Option (Str×List Expr):=(zcO e).bind λq=>if q.2.2.1.isEmpty then(zbU q.1).map λx=>(x,q.2.1) else Ψ
def zaL(h:za7 e=Φ (x,as)):∃p2 p,e=.Call (.Name x p2) as [] p:=by
 unfold za7 at h;cases q:zcO e with
 |none=>rw[q]at h;exact nS h
 |some z=>
  let⟨f,d,b,p⟩:=z;rw[q]at h;dsimp only[bind_some]at h;split at h;rename_i c;cases a:zbU f with
  |none=>rw[a]at h;exact nS h
  |some y=>
   let⟨p2,rfl⟩:=zaV a;cases b with
   |cons _ _=>exact nB c
   |nil=>cases h;exact⟨p2,p,zc9 q⟩
  exact nS h
abbrev zky:Expr->Option (Expr×Expr)
 |.Call (.Name x _) [o] [⟨Φ k,l,_⟩] _=>if x="sorted"/\k="key" then Φ (o,l) else Ψ|_=>Ψ
def zkx(h:zky e=Φ (o,l)):∃p1 p2 p3,e=.Call (.Name "sorted" p1) [o] [⟨Φ "key",l,p2⟩] p3:=by
 cases e with|Call f a k p=>_|_=>exact nS h
 cases f with|Name x q=>_|_=>exact nS h
 rcases a with _|⟨u,_|_⟩;exact nS h;rotate_left;exact nS h
 rcases k with _|⟨⟨_|k,m,r⟩,_|_⟩
 any_goals exact nS h
 unfold zky at h;dsimp only at h;split at h;rename_i c;let⟨rfl,rfl⟩:=c;cases h;exact⟨_,_,_,rfl⟩;exact nS h
abbrev za8(e:Expr):Option (Str×Expr):=(za7 e).bind λq=>(one q.2).map λa=>(q.1,a)
def zaF(h:za8 e=Φ (x,a)):∃p2 p,e=.Call (.Name x p2) [a] [] p:=by
 unfold za8 at h;cases q:za7 e with
 |none=>rw[q]at h;exact nS h
 |some z=>
  let⟨y,d⟩:=z;rw[q]at h;dsimp only[bind_some]at h;cases c:one d with
  |none=>rw[c]at h;exact nS h
  |some b=>rw[c]at h;cases h;rw[zbA c]at q;exact zaL q
abbrev zdT(e:Expr):Option (Expr×Str×Pos×Expr×Pos):=(zcO e).bind λq=>if q.2.2.1.isEmpty then(zcP q.1).bind λa=>(one q.2.1).map λy=>(a.1,a.2.1,a.2.2,y,q.2.2.2) else Ψ
def zc8(h:zdT e=Φ (o,x,i,a,j)):e=.Call (.Attribute o x i) [a] [] j:=by
 unfold zdT at h;cases q:zcO e with
 |none=>rw[q]at h;exact nS h
 |some z=>
  let⟨f,k,l,p⟩:=z;rw[q]at h;dsimp only[bind_some]at h;split at h;rename_i c;cases d:zcP f with
  |none=>rw[d]at h;exact nS h
  |some y=>
   rw[d]at h;cases g:one k with
   |none=>rw[g]at h;exact nS h
   |some b=>
    rw[g]at h;cases h;cases l with
    |cons _ _=>exact nB c
    |nil=>rw[zc9 q,zcj d,zbA g]
  exact nS h
abbrev zb5(e:Expr):Option (Expr×Str×Pos×List Expr×Pos):=(zcO e).bind λq=>if q.2.2.1.isEmpty then(zcP q.1).map λa=>(a.1,a.2.1,a.2.2,q.2.1,q.2.2.2) else Ψ
def zbM(h:zb5 e=Φ (o,x,b,as,d)):e=.Call (.Attribute o x b) as [] d:=by
 unfold zb5 at h;cases q:zcO e with
 |none=>rw[q]at h;exact nS h
 |some z=>
  let⟨f,j,g,p⟩:=z;rw[q]at h;dsimp only[bind_some]at h;split at h;rename_i c;cases a:zcP f with
  |none=>rw[a]at h;exact nS h
  |some y=>
   rw[a]at h;cases h;cases g with
   |cons _ _=>exact nB c
   |nil=>rw[zc9 q,zcj a]
  exact nS h
abbrev fnB(T:Tab)(f j:Nat)(x:Str):Bool:=match T.fns[f]? with|some (y,_,a)=>(y==x)&&decide (j<=a)|none=>Δ
abbrev conG(T:Tab)(d:D)(x:Str):Bool:=match T.cons.lookup x with|some a=>eqC a d|none=>Δ
abbrev zuS:CE->Bool|.con _=>Γ|_=>Δ
abbrev zhK:CL->Bool|.comp ..=>Γ|_=>Δ
abbrev zlB:CE->Bool|.tst (.con (.bl Γ))=>Γ|_=>Δ
abbrev zqv:CEs->Bool|.cons _ .nil=>Γ|_=>Δ
abbrev ztb:CE->Option Nat|.loc i=>Φ i|_=>Ψ
def zlc(h:ztb a=Φ i):a=.loc i:=by cases a<;>first|(cases h;rfl)|exact nS h
abbrev zqx:CEs->Bool|.nil=>Γ|_=>Δ
abbrev mtN:Mt->Str->Bool
 |.append,x=>x==("append":Str)|.popAt,x=>x==("pop":Str)|.count,x=>x==("count":Str)
abbrev zux:Bi->Option String|.isin t=>Φ t|_=>Ψ
abbrev tgB(a:Scope)(N:List Str)(g:List Nat)(b:Expr):Bool:=match zbU b with|some x=>(match one g with|some i=>(N[i]?==Φ x)&&zgI a x|none=>Δ)|none=>(zjd b).any λc=>decide (2<=g.length)&&zcv a N g c
mutual
noncomputable def chkE(T:Tab)(e₀:CE)(N:List Str)(sc:Scope)(e:Expr):Bool:=match e₀ with
 |.loc i=>(zbU e).any λx=>(N[i]?==Φ x)&&zlz sc x&&nmB x|.con d=>(zdX e).any (λc=>conB d c)||(zbU e).any λx=>isGl sc x&&conG T d x&&nmB x
 |.tst _=>Δ|.bin op a b=>(zmY e).any λq=>decide (q.2.1=op)&&chkE T a N sc q.1&&chkE T b N sc q.2.2|.neg a=>(rdUn e).any λq=>decide (q.1=.USub)&&chkE T a N sc q.2|.nt a=>(rdUn e).any λq=>decide (q.1=.Not)&&chkE T a N sc q.2|.cmp op a b=>(zho e).any λq=>decide (q.2.1=[op])&&(one q.2.2).any λr=>za3 r&&chkE T a N sc q.1&&chkE T b N sc r|.cmp2 op op' a b c=>(zho e).any λq=>decide (q.2.1=[op,op'])&&(two q.2.2).any λr=>za3 r.1&&za3 r.2&&chkE T a N sc q.1&&chkE T b N sc r.1&&chkE T c N sc r.2
 |.and a b=>(zdY e).any λq=>decide (q.1=.And)&&(match q.2.1 with
  |x::y::rest=>chkE T a N sc x&&(if rest.isEmpty then chkE T b N sc y else chkE T b N sc (.BoolOp .And (y::rest) q.2.2))|_=>Δ)
 |.or a b=>(zdY e).any λq=>decide (q.1=.Or)&&(match q.2.1 with
  |x::y::rest=>chkE T a N sc x&&(if rest.isEmpty then chkE T b N sc y else chkE T b N sc (.BoolOp .Or (y::rest) q.2.2))|_=>Δ)
 |.ite c a b=>(rdIf e).any λq=>chkT T c N sc q.1&&chkE T a N sc q.2.1&&chkE T b N sc q.2.2|.tup es=>(zjd e).any λxs=>zc0 T es N sc xs|.lst es=>(zim e).any λxs=>zc0 T es N sc xs|.dnew=>zdV e|.dnew3=>zdV e|.srtK a=>(zky e).any λq=>(((bltB T sc "sorted"&&zao q.1)&&lamB q.2)&&decide (N=T.lam))&&chkE T a N sc q.1|.dgetI a b c=>(zb5 e).any λq=>(two q.2.2.2.1).any λz=>(q.2.1==("get":Str))&&zao z.1&&zao z.2&&zbb q.1&&(q.2.2.1.endLine==q.2.2.2.2.line)&&chkE T a N sc q.1&&chkE T b N sc z.1&&chkE T c N sc z.2|.dsetI a b c=>(zb5 e).any λq=>(two q.2.2.2.1).any λz=>(q.2.1==("setdefault":Str))&&zao z.1&&zao z.2&&zbb q.1&&(q.2.2.1.endLine==q.2.2.2.2.line)&&chkE T a N sc q.1&&chkE T b N sc z.1&&chkE T c N sc z.2|.extv a b=>(zdT e).any λq=>(q.2.1==("extend":Str))&&zao q.2.2.2.1&&zbb q.1&&(q.2.2.1.endLine==q.2.2.2.2.line)&&chkE T a N sc q.1&&chkE T b N sc q.2.2.2.1|.fld a f=>(zcP e).any λq=>decide (q.2.1=f)&&zbb q.1&&T.flds.contains f&&chkE T a N sc q.1|.mk c f x j es=>(za7 e).any λq=>decide (q.1=x)&&isGl sc x&&nmB x&&decide (T.cls[c]?=Φ x)&&T.inits.contains (c,f,j)&&(!q.2.isEmpty||zqx es)&&zc0 T es N sc q.2|.meth m tb o es=>(zb5 e).any λq=>decide (q.2.1=m)&&mtB T m tb&&zbb q.1&&(q.2.2.1.endLine==q.2.2.2.2.line)&&decide (q.2.2.2.1.length<29)&&(!q.2.2.2.1.isEmpty||zqx es)&&chkE T o N sc q.1&&zc0 T es N sc q.2.2.2.1|.callC f x m es=>(zb5 e).any λq=>(zbU q.1).any λy=>decide (y=x)&&decide (q.2.1=m)&&isGl sc x&&nmB x&&T.cms.contains (x,m,f)&&(q.2.2.1.endLine==q.2.2.2.2.line)&&decide (q.2.2.2.1.length<29)&&!q.2.2.2.1.isEmpty&&zc0 T es N sc q.2.2.2.1|.callV a es=>(za7 e).any λq=>(ztb a).any λi=>(N[i]?==Φ q.1)&&zlz sc q.1&&nmB q.1&&!q.2.isEmpty&&zc0 T es N sc q.2|.ix a b=>(zje e).any λq=>zfz q.2&&chkE T a N sc q.1&&chkE T b N sc q.2|.sl a n=>(zje e).any λq=>(rdSl q.2).any λs=>s.1.isNone&&s.2.any λz=>(zdX z).any (λc=>conB (.int n) c)&&chkE T a N sc q.1|.call f j es=>(za7 e).any λq=>isGl sc q.1&&nmB q.1&&fnB T f j q.1&&(!q.2.isEmpty||zqx es)&&zc0 T es N sc q.2|.callW f j es=>(za7 e).any λq=>isGl sc q.1&&nmB q.1&&fnB T f j q.1&&!q.2.isEmpty&&zc0 T es N sc q.2
 |.bi b es=>(za7 e).any λq=>bltB T sc q.1&&nmB q.1&&(match zux b with
  |some t=>(two q.2).any λz=>(zbU z.2).any λy=>(q.1==("isinstance":Str))&&tyB t y&&bltB T sc y&&nmB y&&zqv es&&zc0 T es N sc [z.1]|none=>biB b q.1 q.2.length&&!q.2.isEmpty&&zc0 T es N sc q.2)
 |.mt m o es=>(zdT e).any λq=>mtN m q.2.1&&zbb q.1&&(q.2.2.1.endLine==q.2.2.2.2.line)&&zqv es&&chkE T o N sc q.1&&zc0 T es N sc [q.2.2.2.1]
 |.mkL l=>if zhK l then((rdLC e).isSome&&chkL T l N sc e)
  else(za8 e).any λq=>(q.1==("list":Str))&&bltB T sc q.1&&zao q.2&&(!(zlC l)||isR1 l)&&chkL T l N sc q.2
 |.mkT l=>(za8 e).any λq=>(q.1==("tuple":Str))&&bltB T sc q.1&&zao q.2&&!(zlC l)&&chkL T l N sc q.2|.all l=>(za8 e).any λq=>(q.1==("all":Str))&&bltB T sc q.1&&zao q.2&&!(zlC l)&&chkL T l N sc q.2|.ext a l=>(zdT e).any λq=>(q.2.1==("extend":Str))&&zao q.2.2.2.1&&zbb q.1&&(q.2.2.1.endLine==q.2.2.2.2.line)&&zqR l&&chkE T a N sc q.1&&chkL T l N sc q.2.2.2.1|.lenset l=>(za8 e).any λq=>(za8 q.2).any λz=>(q.1==("len":Str))&&bltB T sc q.1&&(z.1==("set":Str))&&bltB T sc z.1&&zao z.2&&!(zlC l)&&chkL T l N sc z.2|.sset a=>(za8 e).any λq=>(za8 q.2).any λz=>(q.1==("sorted":Str))&&bltB T sc q.1&&(z.1==("set":Str))&&bltB T sc z.1&&zao z.2&&chkE T a N sc z.2
noncomputable def zc0(T:Tab)(e₀:CEs)(N:List Str)(sc:Scope)(es:List Expr):Bool:=match e₀ with|.nil=>es.isEmpty|.cons a r=>(match es with | []=>Δ|e::es=>zao e&&chkE T a N sc e&&zc0 T r N sc es)
noncomputable def chkT(T:Tab)(e₀:CE)(N:List Str)(sc:Scope)(e:Expr):Bool:=match e₀ with
 |.cmp op a b=>(zho e).any λq=>decide (q.2.1=[op])&&(one q.2.2).any λr=>za3 r&&chkE T a N sc q.1&&chkE T b N sc r|.cmp2 op op' a b c=>(zho e).any λq=>decide (q.2.1=[op,op'])&&(two q.2.2).any λr=>za3 r.1&&za3 r.2&&chkE T a N sc q.1&&chkE T b N sc r.1&&chkE T c N sc r.2|.nt a=>(rdUn e).any λq=>decide (q.1=.Not)&&chkT T a N sc q.2
 |.and a b=>(zdY e).any λq=>decide (q.1=.And)&&(match q.2.1 with
  |x::y::rest=>chkT T a N sc x&&(if rest.isEmpty then chkT T b N sc y else chkT T b N sc (.BoolOp .And (y::rest) q.2.2))|_=>Δ)
 |.or a b=>(zdY e).any λq=>decide (q.1=.Or)&&(match q.2.1 with
  |x::y::rest=>chkT T a N sc x&&(if rest.isEmpty then chkT T b N sc y else chkT T b N sc (.BoolOp .Or (y::rest) q.2.2))|_=>Δ)
 |.tst a=>zis e&&chkE T a N sc e|_=>Δ
noncomputable def chkL(T:Tab):CL->List Str->Scope->Expr->Bool
 |.val a,N,sc,e=>za3 e&&chkE T a N sc e|.rng1 a,N,sc,e=>(za8 e).any λq=>(q.1==("range":Str))&&bltB T sc q.1&&zao q.2&&chkE T a N sc q.2|.rng2 a b,N,sc,e=>(za7 e).any λq=>(two q.2).any λz=>(q.1==("range":Str))&&bltB T sc q.1&&zao z.1&&zao z.2&&chkE T a N sc z.1&&chkE T b N sc z.2|.enum a,N,sc,e=>(za8 e).any λq=>(q.1==("enumerate":Str))&&bltB T sc q.1&&zao q.2&&chkE T a N sc q.2
 |.comp nt js g it c e,N,sc,ex=>(rdLC ex).any λq=>(one q.2.1).any λz=>decide (z.is_async=0)&&zrc sc q.2.2.1 N js&&(za3 z.iter&&(zlA z.target||!(zly it)))&&chkL T it N sc z.iter&&decide ((zb2 z.target).length=nt)&&decide ((capN N (zb2 z.target) js).Nodup/\capN N (zb2 z.target) js≠T.lam)
  && tgB q.2.2.1 (capN N (zb2 z.target) js) g z.target
  && (if z.ifs.isEmpty then zlB c else(one z.ifs).any λt=>chkT T c (capN N (zb2 z.target) js) q.2.2.1 t)
  && chkE T e (capN N (zb2 z.target) js) q.2.2.1 q.1
end
abbrev zjh:Stmt->Option (Expr×Expr×Pos)|.Assign a v p=>(one a).map λt=>(t,v,p)|_=>Ψ
set_option backward.match.sparseCases false
abbrev zsv:Stmt->Option (Expr×List Stmt×List Stmt)|.If e a b _=>Φ (e,a,b)|_=>Ψ
abbrev zp1:Stmt->Option (Expr×Expr×List Stmt)|.For c d b a _=>if a.isEmpty then Φ (c,d,b) else Ψ|_=>Ψ
abbrev zp0:Stmt->Option Expr|.Return v _=>v|_=>Ψ
abbrev zsw:Stmt->Option Expr|.Expr v _=>Φ v|_=>Ψ
set_option backward.match.sparseCases true
abbrev zov:Stmt->Bool|.Return Ψ _=>Γ|_=>Δ
section
variable{s:Stmt}{e v tg it:Expr}{a b:List Stmt}{p:Pos}
def zcQ(h:zjh s=Φ (tg,v,p)):s=.Assign [tg] v p:=by
 cases s with
 |Assign c v p=>
  simp![zjh]at h;cases q:one c with
  |none=>rw[q]at h;exact nS h
  |some t=>rw[q]at h;cases h;rw[zbA q]
 |_=>exact nS h
def zkA(h:zsv s=Φ (e,a,b)):∃p,s=.If e a b p:=by cases s<;>first|(cases h;exact⟨_,rfl⟩)|exact nS h
def zkB(h:zp1 s=Φ (tg,it,b)):∃p,s=.For tg it b [] p:=by
 cases s with
 |For tg it b c p=>cases c with|nil=>cases h;exact⟨_,rfl⟩|cons _ _=>exact nS h
 |_=>exact nS h
def zkz(h:zp0 s=Φ e):∃p,s=.Return (Φ e) p:=by cases s with|Return v p=>subst h;exact⟨_,rfl⟩|_=>exact nS h
def zkC(h:zsw s=Φ e):∃p,s=.Expr e p:=by cases s<;>first|(cases h;exact⟨_,rfl⟩)|exact nS h
def zjf(h:zov s=Γ):∃p,s=.Return Ψ p:=by
 cases s with
 |Return v p=>cases v with|none=>exact⟨_,rfl⟩|some _=>exact nB h
 |_=>exact nB h
end
abbrev chkS(T:Tab)(j:CS)(N:List Str)(h:Scope)(st:List Stmt):Bool:=match j with|.nil=>st.isEmpty|.stop=>Γ|.asg i e r=>(match st with | []=>Δ|s::d=>(zjh s).any λq=>(zbU q.1).any λx=>(N[i]?==Φ x)&&zgI h x&&chkE T e N h q.2.1&&chkS T r N h d)|.asgT g e r=>(match st with | []=>Δ|s::d=>(zjh s).any λq=>(zjd q.1).any λk=>((zbU q.2.1).isSome||(za7 q.2.1).isSome)&&decide (2<=g.length)&&zcv h N g k&&chkE T e N h q.2.1&&chkS T r N h d)|.setIx a b e r=>(match st with | []=>Δ|s::d=>(zjh s).any λq=>(zje q.1).any λz=>zbB q.2.1&&chkE T a N h z.1&&chkE T b N h z.2&&chkE T e N h q.2.1&&chkS T r N h d)|.setF a f e r=>(match st with | []=>Δ|s::d=>(zjh s).any λq=>(zcP q.1).any λz=>decide (z.2.1=f)&&T.flds.contains f&&zbB q.2.1&&chkE T a N h z.1&&chkE T e N h q.2.1&&chkS T r N h d)|.ifS c t u r=>(match st with | []=>Δ|s::d=>(zsv s).any λq=>chkT T c N h q.1&&chkS T t N h q.2.1&&chkS T u N h q.2.2&&chkS T r N h d)|.forS g l b r=>(match st with | []=>Δ|s::d=>(zp1 s).any λq=>za3 q.2.1&&chkL T l N h q.2.1&&chkS T b N h q.2.2&&chkS T r N h d&&(tgB h N g q.1&&(zlA q.1||!(zly l))))|.retN r=>(match st with | []=>Δ|s::d=>zov s&&chkS T r N h d)|.ret e r=>(match st with | []=>Δ|s::d=>(zp0 s).any λv=>chkE T e N h v&&chkS T r N h d)|.expr e r=>(match st with | []=>Δ|s::d=>(zsw s).any λv=>zbB v&&chkE T e N h v&&chkS T r N h d)
end R
section
set_option maxHeartbeats 8000000
namespace R
open PySem PySem.Spec PyProof.Rows L2
variable[Mks]
section
variable{T:Tab}{cf:CF}{k:Nat}{N:List Str}{sc:Scope}{X:Cx}
def zb8(env)(x):∀{names:List (Str×NameKind)}{a:NameKind},names.lookup x=Φ a->a≠.free->(names.map (zcs env)).lookup x=Φ a
 | [],_,h,_=>by simp at h| y::r,a,h,c=>by
  rw[Ο];have d:=zdQ env y;have b:=zdP env y;let⟨n,f⟩:=y;generalize l:zcs env (n,f)=z at *;let⟨i,j⟩:=z;simp only at d b;subst d;rw[Ϝ]at h⊢;cases g:x==i with
  |true=>rw[g]at h;have e:=Option.some.inj h;subst e;rcases b with b|⟨q,_⟩;rw[b];exact absurd q c
  |false=>rw[g]at h;exact zb8 env x h c
def ziR(G:Gd T cf k N sc X)(h:zrc sc scope N b=Γ):CompOk X.env.scope scope X.N b:=by unfold zrc at h;simp![Ε,all_eq_true,decide_eq_true_eq,Ϙ]at h;let⟨⟨⟨⟨c,d⟩,f⟩,g⟩,i⟩:=h;refine⟨c,d,λy a e=>?_,λy a e=>?_,λj l=>?_⟩;rcases f y a with z|z;exact absurd e z;exact z;rcases g y a with (z|z)|z;exact absurd e z;exact .inl (G.cell _ z);exact(G.free _ z).symm;rw[G.nm];exact i j l
def zlR(G:Gd T cf k N sc X)(ok:CompOk X.env.scope scope X.N b)(d:(capN N tgs b).Nodup/\capN N tgs b≠T.lam)(cl)(C)(f)(s)(H)(pn):
  Gd T cf k (capN N tgs b) scope (zaI X (capN X.N tgs b) scope cl C f s H pn):=by
 have a:(zaI X (capN X.N tgs b) scope cl C f s H pn).env.scope.names=scope.names.map (zcs X.env):=zbK scope X.env;have c:∀x,scope.names.lookup x≠Φ .cell:=λx e=>ok.nocell _ (ϑ e) rfl;refine⟨by rw[<-G.nm],d.1,λx e=>?_,λx e=>absurd e (c x),λx e=>?_,λx e=>?_,.inr c,G.calm,rfl,G.room',G.tab,λz=>absurd z d.2⟩;rw[a];exact zb8 _ _ e (by decide);rw[a];exact zbL _ _ _ e;rw[a];exact zb8 _ _ e (by decide)
def zcU(h:nmB x=Γ):(x==("__debug__":Str))=Δ/\(x==("__classdict__":Str))=Δ/\x≠("__name__":Str):=by unfold nmB at h;simp![Ε,ϝ]at h;exact⟨h.1.1,h.1.2,λe=>by rw[e]at h;simp at h⟩
def zrH(h:tyB t y=Γ):t∈["bool","int","str","list","tuple","dict"]/\bootBuiltins y=Φ (.type t):=by unfold tyB at h;simp![Ϙ,Ε,beq_iff_eq]at h;rcases h with ((⟨rfl,rfl⟩|⟨rfl,rfl⟩)|⟨rfl,rfl⟩)|⟨rfl,rfl⟩;exact⟨by simp,zrm⟩;exact⟨by simp,ztJ⟩;exact⟨by simp,zh2⟩;exact⟨by simp,ziX⟩
def zoR(h:fnB T f j x=Γ):∃ps a,T.fns[f]?=Φ (x,ps,a)/\j<=a:=by
 unfold fnB at h;cases e:T.fns[f]? with
 |none=>rw[e]at h;exact nB h
 |some q=>let⟨y,ps,a⟩:=q;rw[e]at h;simp![Ε,beq_iff_eq,decide_eq_true_eq]at h;let⟨rfl,b⟩:=h;exact⟨ps,a,rfl,b⟩
def zaK:∀{b:CEs}{N:List Str}{sc:Scope}{es:List Expr},zc0 T b N sc es=Γ->es.all zao=Γ
 |.nil,N,sc,es,h=>by obtain rfl:=isEmpty_iff.mp h;rfl| .cons a r,N,sc,es,h=>by
  cases es with
  |nil=>exact nB h
  |cons e es=>replace h:=(Ε _ _).mp h;simp[((Ε _ _).mp h.1).1,zaK h.2]
def ziS(h:zqv es=Γ):∃a,es=.cons a .nil:=by
 cases es with
 |nil=>exact nB h
 |cons a r=>cases r with|nil=>exact⟨a,rfl⟩|cons _ _=>exact nB h
def zjJ(G:Gd T cf k N sc X)(h:biB b x n=Γ):∃id,zbt X (.builtin id) (rB X.K λS ds=>R.bi S b ds)/\bootBuiltins x=Φ (.builtin id):=by cases b with|len=>simp![biB,Ε,beq_iff_eq]at h;rw[h.1];exact⟨_,zte,zo1⟩|abs=>simp![biB,Ε,beq_iff_eq]at h;rw[h.1];exact⟨_,ztN,ztL⟩|max2=>simp![biB,Ε,beq_iff_eq]at h;rw[h.1];exact⟨_,zs4 G.calm,ztI⟩|min2=>simp![biB,Ε,beq_iff_eq]at h;rw[h.1];exact⟨_,zs2 G.calm,ztH⟩|isin t=>simp[biB]at h
abbrev LOk(T:Tab)(cf:CF)(k:Nat)(cl:CL)(X:Cx)(e:Expr):Prop:=(zlC cl=Δ->PE X e (tL X.K cf cl))/\(zqR cl=Γ->PE X e (tLt X.K cf cl))/\(∀c,(zlA c||!(zly cl))=Γ->PI X c e (tI X.K cf cl))/\
 ∀a,cl=.rng1 a->∃b d p,e=.Call (.Name "range" d) [b] [] p/\(Gl X "range"/\X.mg "range"=Ψ)/\PE X b (tE X.K cf a)/\zao b=Γ
abbrev EsOk(cf:CF)(b:CEs)(X:Cx)(es:List Expr):Prop:=PA X es (tAs X.K cf b)/\∀a r e c,b=.cons a r->es=e::c->PE X e (tE X.K cf a)
def zpd(G:Gd T cf k N sc X)(h:tgB sc N g a=Γ):PG X a (tG X.K g):=by unfold tgB at h;split at h;rename_i x q;let⟨p,rfl⟩:=zaV q;split at h;rename_i i b;rw[zbA b];replace h:=qb1 h;exact zpv G h.1 h.2;exact nB h;replace h:=zac h;let⟨c,q,h⟩:=h;let⟨j,p,rfl⟩:=zdR q;replace h:=qd1 h;exact zom G h.2 h.1
def zh9(h:zlB c=Γ):PTs X [] (tT X.K cf c):=by
 have f:c=.tst (.con (.bl Γ)):=by
  cases c with
  |tst a=>
   cases a with
   |con d=>
    cases d with
    |bl b=>cases b with|true=>rfl|false=>exact nB h
    |_=>exact nB h
   |_=>exact nB h
  |_=>exact nB h
 subst f;intro e g i H' j I q;refine zp9 e g i H' j I ?_;let⟨m,ι,S,Q,n,l,w,q⟩:=q;exact q _ _ ⟨ι,S,Ext.refl _ _,l,w⟩
def za2{x y:Str}(h:(x==y)=Γ):x=y:=by simpa using h
mutual
theorem zai:∀(ce:CE){N:List Str}{sc:Scope}{e:Expr}{X:Cx},Gd T cf k N sc X->chkE T ce N sc e=Γ->PE X e (tE X.K cf ce)
 |.loc i,N,sc,e,X,G,h=>by replace h:=zac h;let⟨x,q,h⟩:=h;let⟨p,rfl⟩:=zaV q;replace h:=qL qb1 h;let⟨h1,h2,_⟩:=zcU h.2;exact zoo G h.1.1 h.1.2 h1 h2| .con d,N,sc,e,X,G,h=>by replace h:=(Ϙ _ _).mp h;rcases h with h|h;replace h:=zac h;let⟨c,q,h⟩:=h;let⟨j,p,rfl⟩:=zdW q;exact zop h;replace h:=zac h;let⟨x,q,h⟩:=h;let⟨p,rfl⟩:=zaV q;replace h:=qL qa1 h;let⟨h1,h2,_⟩:=zcU h.2;have h3:=h.1.2;unfold conG at h3;split at h3;rename_i d' e';exact zpE G h.1.1 e' h3 h1;exact nB h3
 |.tst a,N,sc,e,X,G,h=>by exact nB h| .bin op a b,N,sc,e,X,G,h=>by replace h:=zac h;let⟨⟨l,o,r⟩,q,h⟩:=h;let⟨p,rfl⟩:=zkE q;replace h:=qL qd1 h;let⟨⟨rfl,h1⟩,h2⟩:=h;exact zsf (zai a G h1) (zai b G h2)| .neg a,N,sc,e,X,G,h=>by replace h:=zac h;let⟨⟨o,x⟩,q,h⟩:=h;let⟨p,rfl⟩:=zfl q;replace h:=qd1 h;let⟨rfl,h1⟩:=h;exact zr6 (zai a G h1)| .nt a,N,sc,e,X,G,h=>by replace h:=zac h;let⟨⟨o,x⟩,q,h⟩:=h;let⟨p,rfl⟩:=zfl q;replace h:=qd1 h;let⟨rfl,h1⟩:=h;exact zt5 (zai a G h1)| .cmp op a b,N,sc,e,X,G,h=>by replace h:=zac h;let⟨⟨l,os,rs⟩,q,h⟩:=h;let⟨p,rfl⟩:=zcN q;replace h:=qd1 h;let⟨e1,h⟩:=h;replace h:=zac h;let⟨r,q2,h⟩:=h;cases zbA q2;cases e1;replace h:=qL qa1 h;exact zse G (zai a G h.1.2) (zai b G h.2) h.1.1| .cmp2 op op' a b c,N,sc,e,X,G,h=>by replace h:=zac h;let⟨⟨l,os,rs⟩,q,h⟩:=h;let⟨p,rfl⟩:=zcN q;replace h:=qd1 h;let⟨e1,h⟩:=h;replace h:=zac h;let⟨⟨r,r'⟩,q2,h⟩:=h;cases two_inv q2;cases e1;replace h:=qL (qL (qL qa1)) h;let⟨⟨⟨⟨h1,h2⟩,h3⟩,h4⟩,h5⟩:=h;exact zpH G (zai a G h3) (zai b G h4) (zai c G h5) h1 h2| .and a b,N,sc,e,X,G,h=>by replace h:=zac h;let⟨⟨o,vs,p⟩,q,h⟩:=h;cases zci q;replace h:=qd1 h;let⟨e1,h⟩:=h;cases e1;dsimp only at h;split at h;rename_i x y rest;replace h:=qa1 h;let⟨h1,h2⟩:=h;split at h2;rename_i c;cases isEmpty_iff.mp c;exact zoq (zai a G h1) (zoz (zai b G h2));exact zoq (zai a G h1) (zai b G h2);exact nB h
 |.or a b,N,sc,e,X,G,h=>by replace h:=zac h;let⟨⟨o,vs,p⟩,q,h⟩:=h;cases zci q;replace h:=qd1 h;let⟨e1,h⟩:=h;cases e1;dsimp only at h;split at h;rename_i x y rest;replace h:=qa1 h;let⟨h1,h2⟩:=h;split at h2;rename_i c;cases isEmpty_iff.mp c;exact zr5 (zai a G h1) (zoz (zai b G h2));exact zr5 (zai a G h1) (zai b G h2);exact nB h
 |.ite c a b,N,sc,e,X,G,h=>by replace h:=zac h;let⟨⟨t,x,y⟩,q,h⟩:=h;let⟨p,rfl⟩:=zmX q;replace h:=qL qa1 h;exact zsb (za9 c G h.1.1).1 (zai a G h.1.2) (zai b G h.2)| .tup es,N,sc,e,X,G,h=>by replace h:=zac h;let⟨xs,q,h⟩:=h;let⟨j,p,rfl⟩:=zdR q;exact zr4 (zaS es G h).1| .lst es,N,sc,e,X,G,h=>by replace h:=zac h;let⟨xs,q,h⟩:=h;let⟨p,rfl⟩:=zjg q;exact zsa (zaS es G h).1| .dnew,N,sc,e,X,G,h=>by let⟨p,rfl⟩:=zdU h;exact zpG| .dgetI a b c,N,sc,e,X,G,h=>by replace h:=zac h;let⟨⟨oe,x,ap,as,cp⟩,q,h⟩:=h;cases zbM q;replace h:=zac h;let⟨⟨e1,e2⟩,q2,h⟩:=h;cases two_inv q2;replace h:=qL (qL (qL (qL (qL (qL qa1))))) h;let⟨⟨⟨⟨⟨⟨⟨hx,h1⟩,h2⟩,h3⟩,h4⟩,h5⟩,h6⟩,h7⟩:=h;cases za2 hx;exact zmK G (zai a G h5) (zai b G h6) (zai c G h7) h1 h2 h3 h4| .dsetI a b c,N,sc,e,X,G,h=>by replace h:=zac h;let⟨⟨oe,x,ap,as,cp⟩,q,h⟩:=h;cases zbM q;replace h:=zac h;let⟨⟨e1,e2⟩,q2,h⟩:=h;cases two_inv q2;replace h:=qL (qL (qL (qL (qL (qL qa1))))) h;let⟨⟨⟨⟨⟨⟨⟨hx,h1⟩,h2⟩,h3⟩,h4⟩,h5⟩,h6⟩,h7⟩:=h;cases za2 hx;exact zmI G (zai a G h5) (zai b G h6) (zai c G h7) h1 h2 h3 h4| .extv a b,N,sc,e,X,G,h=>by replace h:=zac h;let⟨⟨oe,x,ap,e1,cp⟩,q,h⟩:=h;cases zc8 q;replace h:=qL (qL (qL (qL qa1))) h;let⟨⟨⟨⟨⟨hx,h1⟩,h2⟩,h3⟩,h4⟩,h5⟩:=h;cases za2 hx;exact zpF (zai a G h4) (zai b G h5) h1 h2 h3| .ix a b,N,sc,e,X,G,h=>by replace h:=zac h;let⟨⟨x,i⟩,q,h⟩:=h;let⟨p,rfl⟩:=zdS q;replace h:=qL qa1 h;exact zt7 (zai a G h.1.2) (zai b G h.2) h.1.1| .fld a f,N,sc,e,X,G,h=>by replace h:=zac h;let⟨⟨o,f',p⟩,q,h⟩:=h;cases zcj q;replace h:=qL (qL qd1) h;let⟨⟨⟨rfl,h2⟩,h3⟩,h4⟩:=h;exact zsc G (zai a G h4) h2 h3| .mk c f x j es,N,sc,e,X,G,h=>by
  replace h:=zac h;let⟨⟨x',args⟩,q,h⟩:=h;let⟨p2,p,rfl⟩:=zaL q;simp![Ε,Ϙ,decide_eq_true_eq]at h;let⟨⟨⟨⟨⟨⟨rfl,h1⟩,h2⟩,h3⟩,h4⟩,h5⟩,h6⟩:=h;let⟨n1,n2,n3⟩:=zcU h2;have ha:=(zaS es G h6).1;cases args with
  |nil=>
   have:es=.nil:=by cases es with|nil=>rfl|cons _ _=>rcases h5 with z|z<;>exact nB z
   rw[this];exact zr9 G h4 h3 h1 n1
  |cons a as=>exact zt6 G h4 h3 h1 n1 ha (zaK h6)
 |.meth m tb o es,N,sc,e,X,G,h=>by
  replace h:=zac h;let⟨⟨oe,m',ap,args,cp⟩,q,h⟩:=h;cases zbM q;simp![Ε,Ϙ,decide_eq_true_eq]at h;let⟨⟨⟨⟨⟨⟨⟨rfl,h1⟩,h2⟩,h3⟩,h4⟩,h5⟩,h6⟩,h7⟩:=h;have ho:=zai o G h6;have ha:=(zaS es G h7).1;cases args with
  |nil=>
   have:es=.nil:=by cases es with|nil=>rfl|cons _ _=>rcases h5 with z|z<;>exact nB z
   rw[this];exact zmH G h1 ho h2 h3
  |cons a as=>exact zpC G h1 ho ha (zaK h7) h2 h3 h4
 |.callC f x m es,N,sc,e,X,G,h=>by
  replace h:=zac h;let⟨⟨oe,m',ap,args,cp⟩,q,h⟩:=h;cases zbM q;replace h:=zac h;let⟨y,q3,h⟩:=h;let⟨p3,rfl⟩:=zaV q3;simp![Ε,decide_eq_true_eq]at h;let⟨⟨⟨⟨⟨⟨⟨⟨rfl,rfl⟩,h1⟩,h2⟩,h3⟩,h4⟩,h5⟩,h6⟩,h7⟩:=h;cases args with
  |nil=>exact nB h6
  |cons a as=>exact zmN G h3 h1 (zcU h2).1 rfl (zaS es G h7).1 (zaK h7) h5 h4
 |.callV a es,N,sc,e,X,G,h=>by
  replace h:=zac h;let⟨⟨x,args⟩,q,h⟩:=h;let⟨p2,p,rfl⟩:=zaL q;replace h:=zac h;let⟨i,q2,h⟩:=h;obtain rfl:=zlc q2;replace h:=qL (qL (qL qb1)) h;let⟨⟨⟨⟨h1,h2⟩,h3⟩,h4⟩,h5⟩:=h;let⟨n1,n2,_⟩:=zcU h3;have ha:=(zaS es G h5).1;cases args with
  |nil=>exact nB h4
  |cons a as=>exact zmM G (zoo G h1 h2 n1 n2) ha (zaK h5)
 |.sl a n,N,sc,e,X,G,h=>by
  replace h:=zac h;let⟨⟨x,i⟩,q,h⟩:=h;let⟨p,rfl⟩:=zdS q;replace h:=zac h;let⟨⟨l,u⟩,q2,h⟩:=h;let⟨p2,rfl⟩:=zmW q2;replace h:=qa1 h;let⟨h0,h⟩:=h;replace h:=zac h;let⟨z,rfl,h⟩:=h;replace h:=qa1 h;let⟨h1,h2⟩:=h;replace h1:=zac h1;let⟨c,q3,h1⟩:=h1;let⟨j,p3,rfl⟩:=zdW q3;cases l with
  |some _=>exact nB h0
  |none=>exact zt4 (zai a G h2) (zop h1)
 |.call f j es,N,sc,e,X,G,h=>by
  replace h:=zac h;let⟨⟨x,args⟩,q,h⟩:=h;let⟨p2,p,rfl⟩:=zaL q;simp![Ε,Ϙ]at h;let⟨⟨⟨⟨h1,h2⟩,h3⟩,h4⟩,h5⟩:=h;let⟨n1,n2,n3⟩:=zcU h2;let⟨ps,nd,hf,hj⟩:=zoR h3;have ha:=(zaS es G h5).1;cases args with
  |nil=>
   have:es=.nil:=by cases es with|nil=>rfl|cons _ _=>rcases h4 with z|z<;>exact nB z
   rw[this];exact zmO G hf hj h1 n1
  |cons a as=>exact zpI G hf hj h1 n1 ha (zaK h5)
 |.callW f j es,N,sc,e,X,G,h=>by
  replace h:=zac h;let⟨⟨x,args⟩,q,h⟩:=h;let⟨p2,p,rfl⟩:=zaL q;replace h:=qL (qL (qL qa1)) h;let⟨⟨⟨⟨h1,h2⟩,h3⟩,h4⟩,h5⟩:=h;let⟨n1,n2,n3⟩:=zcU h2;let⟨ps,nd,hf,hj⟩:=zoR h3;have ha:=(zaS es G h5).1;cases args with
  |nil=>exact nB h4
  |cons a as=>exact zmL G hf hj h1 n1 ha (zaK h5)
 |.bi b es,N,sc,e,X,G,h=>by
  replace h:=zac h;let⟨⟨x,args⟩,q,h⟩:=h;let⟨p2,p,rfl⟩:=zaL q;replace h:=qL qa1 h;let⟨⟨h1,h2⟩,h3⟩:=h;let⟨n1,n2,n3⟩:=zcU h2;split at h3;rename_i t qt;replace h3:=zac h3;let⟨⟨e1,e2⟩,q2,h3⟩:=h3;cases two_inv q2;replace h3:=zac h3;let⟨y,q3,h3⟩:=h3;let⟨p3,rfl⟩:=zaV q3;replace h3:=qL (qL (qL (qL qa1))) h3;let⟨⟨⟨⟨⟨hx,h4⟩,h5⟩,h6⟩,h7⟩,h8⟩:=h3;cases za2 hx;let⟨m1,m2,m3⟩:=zcU h6;let⟨t1,t2⟩:=zrH h4;let⟨a,ea⟩:=ziS h7;have he:=(zaS es G h8).2 a .nil e1 [] ea rfl;have hst:=zaK h8;have eb:b=.isin t:=by cases b with|isin _=>cases qt;rfl|_=>exact nS qt
  rw[ea,eb];exact zpD G (zbk G h1) (zbk G h5) t2 t1 m3 m1 he (by simpa using hst);replace h3:=qL qa1 h3;cases args with
  |nil=>cases h3.1.2
  |cons a as=>let⟨id,hc,hv⟩:=zjJ G h3.1.1;exact zt8 hc (zbk G h1) hv (zaS es G h3.2).1 (zaK h3.2) n3 n1
 |.mt m o es,N,sc,e,X,G,h=>by
  replace h:=zac h;let⟨⟨oe,x,ap,e1,cp⟩,q,h⟩:=h;cases zc8 q;replace h:=qL (qL (qL (qL qa1))) h;let⟨⟨⟨⟨⟨h1,h2⟩,h3⟩,h4⟩,h5⟩,h6⟩:=h;let⟨a,ea⟩:=ziS h4;have he:=(zaS es G h6).2 a .nil e1 [] ea rfl;have hst:zao e1=Γ:=by simpa using zaK h6
  rw[ea];cases m with| append=>cases za2 h1;exact zpA PySem.F.slot_list_append PySem.F.type_list_append zmp (zai o G h5) he hst h2 h3| popAt=>cases za2 h1;exact zpA PySem.F.slot_list_pop PySem.F.type_list_pop zm9 (zai o G h5) he hst h2 h3| count=>cases za2 h1;exact zpA PySem.F.slot_list_count PySem.F.type_list_count znY (zai o G h5) he hst h2 h3
 |.mkL l,N,sc,e,X,G,h=>by
  replace h:ite (zhK l=Γ) _ _=Γ:=h;split at h;rename_i c;have ht:zqR l=Γ:=by cases l with|comp=>rfl|_=>exact nB c
  exact PE.imp ((zbQ l G ((Ε _ _).mp h).2).2.1 ht) λσ H Qv q=>zk6 q;replace h:=zac h;let⟨⟨x,e1⟩,q,h⟩:=h;let⟨p2,p,rfl⟩:=zaF q;simp![Ε,Ϙ,ϝ]at h;let⟨⟨⟨⟨hx,h1⟩,h2⟩,h3⟩,h4⟩:=h;cases za2 hx;have hl:=zbQ l G h4;rcases h3 with h3|h3;exact zr8 G (zbk G h1) (hl.1 h3) h2;have:∃a,l=.rng1 a:=by cases l with|rng1 a=>exact⟨a,rfl⟩|_=>exact nB h3
  let⟨a,ea⟩:=this;let⟨a',p3,p4,rfl,hr,ha,hs⟩:=hl.2.2.2 a ea;rw[ea];exact zpB G (zbk G h1) hr ha hs
 |.mkT l,N,sc,e,X,G,h=>by replace h:=zac h;let⟨⟨x,e1⟩,q,h⟩:=h;let⟨p2,p,rfl⟩:=zaF q;simp![Ε,ϝ]at h;let⟨⟨⟨⟨hx,h1⟩,h2⟩,h3⟩,h4⟩:=h;cases za2 hx;exact zr7 G (zbk G h1) ((zbQ l G h4).1 h3) h2| .all l,N,sc,e,X,G,h=>by replace h:=zac h;let⟨⟨x,e1⟩,q,h⟩:=h;let⟨p2,p,rfl⟩:=zaF q;simp![Ε,ϝ]at h;let⟨⟨⟨⟨hx,h1⟩,h2⟩,h3⟩,h4⟩:=h;cases za2 hx;exact zsg G (zbk G h1) ((zbQ l G h4).1 h3) h2| .ext a l,N,sc,e,X,G,h=>by replace h:=zac h;let⟨⟨oe,x,ap,e1,cp⟩,q,h⟩:=h;cases zc8 q;simp![Ε]at h;let⟨⟨⟨⟨⟨⟨hx,h1⟩,h2⟩,h3⟩,h4⟩,h5⟩,h6⟩:=h;cases za2 hx;exact zsd (zai a G h5) ((zbQ l G h6).2.1 h4) h1 h2 h3| .lenset l,N,sc,e,X,G,h=>by replace h:=zac h;let⟨⟨x,e1⟩,q,h⟩:=h;let⟨p2,p,rfl⟩:=zaF q;replace h:=zac h;let⟨⟨y,e2⟩,q2,h⟩:=h;let⟨p3,p4,hy⟩:=zaF q2;simp![Ε,ϝ]at h;let⟨⟨⟨⟨⟨⟨hx,h1⟩,hz⟩,h2⟩,h3⟩,h4⟩,h5⟩:=h;cases za2 hx;cases za2 hz;dsimp only at hy;subst hy;exact zkh G (zbk G h1) (zbk G h2) ((zbQ l G h5).1 h4) h3| .srtK a,N,sc,e,X,G,h=>by replace h:=zac h;let⟨⟨o,le⟩,q,h⟩:=h;let⟨p1,p2,p3,rfl⟩:=zkx q;simp![Ε,decide_eq_true_eq]at h;let⟨⟨⟨⟨h1,h2⟩,h3⟩,h4⟩,h5⟩:=h;exact zpz G h4 (zbk G h1) (zai a G h5) h2 h3| .dnew3,N,sc,e,X,G,h=>by let⟨p,rfl⟩:=zdU h;exact zmJ| .sset a,N,sc,e,X,G,h=>by replace h:=zac h;let⟨⟨x,e1⟩,q,h⟩:=h;let⟨p2,p,rfl⟩:=zaF q;replace h:=zac h;let⟨⟨y,e2⟩,q2,h⟩:=h;let⟨p3,p4,hy⟩:=zaF q2;replace h:=qL (qL (qL (qL qa1))) h;let⟨⟨⟨⟨⟨hx,h1⟩,hz⟩,h2⟩,h3⟩,h5⟩:=h;cases za2 hx;cases za2 hz;dsimp only at hy;subst hy;exact zpy G (zbk G h1) (zbk G h2) (zai a G h5) h3
theorem zaS:∀(ces:CEs){N:List Str}{sc:Scope}{es:List Expr}{X:Cx},Gd T cf k N sc X->zc0 T ces N sc es=Γ->EsOk cf ces X es
 |.nil,N,sc,es,X,G,h=>by obtain rfl:=isEmpty_iff.mp h;exact⟨zos,λa r e es' z=>by cases z⟩| .cons a r,N,sc,es,X,G,h=>by
  cases es with
  |nil=>exact nB h
  |cons e es=>replace h:=(Ε _ _).mp h;have he:=zai a G ((Ε _ _).mp h.1).2;exact⟨zkl he (zaS r G h.2).1 ((Ε _ _).mp h.1).1,λa' r' e' es' z1 z2=>by cases z1;cases z2;exact he⟩
theorem za9(ce:CE){N:List Str}{sc:Scope}{e:Expr}{X:Cx}(G:Gd T cf k N sc X)(h:chkT T ce N sc e=Γ):PT X e (tT X.K cf ce)/\((∃op v r p,e=.BoolOp op (v::r) p)->PW X e (tT X.K cf ce)):=by
 cases ce with
 |cmp op a b=>replace h:=zac h;let⟨⟨l,os,rs⟩,q,h⟩:=h;let⟨p,rfl⟩:=zcN q;replace h:=qd1 h;let⟨e1,h⟩:=h;replace h:=zac h;let⟨r,q2,h⟩:=h;cases zbA q2;cases e1;replace h:=qL qa1 h;exact⟨zrW G (zai a G h.1.2) (zai b G h.2) h.1.1,λ⟨_,_,_,_,z⟩=>by cases z⟩| cmp2 op op' a b c=>replace h:=zac h;let⟨⟨l,os,rs⟩,q,h⟩:=h;let⟨p,rfl⟩:=zcN q;replace h:=qd1 h;let⟨e1,h⟩:=h;replace h:=zac h;let⟨⟨r,r'⟩,q2,h⟩:=h;cases two_inv q2;cases e1;replace h:=qL (qL (qL qa1)) h;let⟨⟨⟨⟨h1,h2⟩,h3⟩,h4⟩,h5⟩:=h;exact⟨zpk G (zai a G h3) (zai b G h4) (zai c G h5) h1 h2,λ⟨_,_,_,_,z⟩=>by cases z⟩| nt a=>replace h:=zac h;let⟨⟨o,x⟩,q,h⟩:=h;let⟨p,rfl⟩:=zfl q;replace h:=qd1 h;let⟨rfl,h1⟩:=h;exact⟨zt2 (za9 a G h1).1,λ⟨_,_,_,_,z⟩=>by cases z⟩| and a b=>replace h:=zac h;let⟨⟨o,vs,p⟩,q,h⟩:=h;cases zci q;replace h:=qd1 h;let⟨e1,h⟩:=h;cases e1;dsimp only at h;split at h;rename_i x y rest;replace h:=qa1 h;let⟨h1,h2⟩:=h;split at h2;rename_i c;cases isEmpty_iff.mp c;have w:=zoi (pos:=p) (za9 a G h1).1 (zp5 (za9 b G h2).1);exact⟨w.pt,λ_=>w⟩;have w:=zoi (za9 a G h1).1 ((za9 b G h2).2 ⟨_,_,_,_,rfl⟩);exact⟨w.pt,λ_=>w⟩;exact nB h
 |or a b=>replace h:=zac h;let⟨⟨o,vs,p⟩,q,h⟩:=h;cases zci q;replace h:=qd1 h;let⟨e1,h⟩:=h;cases e1;dsimp only at h;split at h;rename_i x y rest;replace h:=qa1 h;let⟨h1,h2⟩:=h;split at h2;rename_i c;cases isEmpty_iff.mp c;have w:=zrV (pos:=p) (za9 a G h1).1 (zsA (za9 b G h2).1);exact⟨w.pt,λ_=>w⟩;have w:=zrV (za9 a G h1).1 ((za9 b G h2).2 ⟨_,_,_,_,rfl⟩);exact⟨w.pt,λ_=>w⟩;exact nB h
 |tst a=>replace h:=(Ε _ _).mp h;exact⟨zrU (zai a G h.2) h.1,λ⟨_,_,_,_,z⟩=>by rw[z]at h;simp[zis]at h⟩|_=>exact absurd h Ν
theorem zbQ:∀(cl:CL){N:List Str}{sc:Scope}{e:Expr}{X:Cx},Gd T cf k N sc X->chkL T cl N sc e=Γ->LOk T cf k cl X e
 |.val a,N,sc,e,X,G,h=>by replace h:=(Ε _ _).mp h;have hp:=zr3 (zai a G h.2);exact⟨λ_=>hp,λz=>(by exact nB z),λtg _=>zol hp ztc,λa z=>by cases z⟩| .rng1 a,N,sc,e,X,G,h=>by replace h:=zac h;let⟨⟨x,e1⟩,q,h⟩:=h;let⟨p2,p,rfl⟩:=zaF q;replace h:=qL (qL qa1) h;let⟨⟨⟨hx,h1⟩,h2⟩,h3⟩:=h;cases za2 hx;have he:=zai a G h3;exact⟨λz=>(by cases z),λz=>(by exact nB z),λtg _=>zpt (zbk G h1) he h2,λa z=>by cases z;exact⟨e1,p2,p,rfl,zbk G h1,he,h2⟩⟩| .rng2 a b,N,sc,e,X,G,h=>by replace h:=zac h;let⟨⟨x,args⟩,q,h⟩:=h;let⟨p2,p,rfl⟩:=zaL q;replace h:=zac h;let⟨⟨e1,e2⟩,q2,h⟩:=h;cases two_inv q2;replace h:=qL (qL (qL (qL qa1))) h;let⟨⟨⟨⟨⟨hx,h1⟩,h2⟩,h3⟩,h4⟩,h5⟩:=h;cases za2 hx;exact⟨λz=>(by cases z),λz=>(by exact nB z),λtg _=>zps (zbk G h1) (zai a G h4) (zai b G h5) h2 h3,λa z=>by cases z⟩| .enum a,N,sc,e,X,G,h=>by replace h:=zac h;let⟨⟨x,e1⟩,q,h⟩:=h;let⟨p2,p,rfl⟩:=zaF q;replace h:=qL (qL qa1) h;let⟨⟨⟨hx,h1⟩,h2⟩,h3⟩:=h;cases za2 hx;refine⟨λz=>(by cases z),λz=>(by exact nB z),λtg ht=>?_,λa z=>by cases z⟩;cases tg with|Tuple es j pt=>exact zpu (zbk G h1) (zai a G h3) h2|_=>exact nB ht
 |.comp nt js g it c e,N,sc,ex,X,G,h=>by
  replace h:=zac h;let⟨⟨elt,gs,scope,p⟩,q,h⟩:=h;cases zin q;replace h:=zac h;let⟨⟨tg,iter,ifs,asy⟩,q2,h⟩:=h;cases zbA q2;rw[Ε,Ε,Ε,Ε,Ε,Ε,Ε,Ε,decide_eq_true_eq,decide_eq_true_eq,decide_eq_true_eq]at h;let⟨⟨⟨⟨⟨⟨⟨⟨h1,h2⟩,h3⟩,h4⟩,h5⟩,h6⟩,h7⟩,h8⟩,h9⟩:=h;dsimp only at h1 h2 h3 h4 h5 h6 h7 h8 h9;replace h3:=qa1 h3;subst h1 h5;have ok:=ziR G h2;have G':=zlR G (tgs:=zb2 tg) ok h6;have ht:∀cl C fp s H pn,PTs (zaI X (capN X.N (zb2 tg) js) scope cl C fp s H pn) ifs (tT X.K cf c):=λcl C fp s H pn=>by split at h8;rename_i ce;cases isEmpty_iff.mp ce;exact zh9 (X:=zaI X (capN X.N (zb2 tg) js) scope cl C fp s H pn) h8;replace h8:=zac h8;let⟨t,q3,h8⟩:=h8;cases zbA q3;exact zkL (za9 c (G' cl C fp s H pn) h8).1
  have hp:PE X (.ListComp elt [⟨tg,iter,ifs,0⟩] scope p) (tLt X.K cf (.comp (zb2 tg).length js g it c e)):=PE.imp (znh X.env.scope (zb2 tg) js G.calm rfl ok ((zbQ it G h4).2.2.1 tg h3.2) (λcl C fp s H pn=>zpd (G' cl C fp s H pn) h7) ht (λcl C fp s H pn=>zai e (G' cl C fp s H pn) h9) (zhQ h3.1 X.env)) λσ H Qv q=>ziQ G.tab.frm q;exact⟨λ_=>(PE.ofT hp),λ_=>hp,λtg _=>zol (PE.ofT hp) zqI,λa z=>by cases z⟩
end
end
end R
end
namespace R
open PySem PySem.Spec PyProof.Rows L2
variable[Mks]
section
variable{T:Tab}{cf:CF}{k:Nat}
def zpo(G:Gd T cf k N sc X)(L:N[i]?=Φ x)(A:zgI sc x=Γ)(h:chkE T (.mkL l) N sc (.ListComp o gs scope p2)=Γ)(hr:PSs X rest (tS X.K cf r)):
  PSs X (.Assign [.Name x p] (.ListComp o gs scope p2) pos::rest) (tS X.K cf (.asg i (.mkL l) r)):=by
 have B:∃b,swapsWith (.ListComp o gs scope p2) (Φ (.Name x p)) pos.line X.env=pure b:=⟨_,rfl⟩;let⟨b,B⟩:=B;cases b with
 |false=>refine PSs.imp (zaN (zkO (i:=i) (by rw[G.nm];exact G.nd) (by rw[G.nm];exact L) (G.lc A).1 (zai (.mkL l) G h) B (G.lc A).2) hr) λE σ H z=>?_;let⟨δ,ι,S,Q,hs,hh,w,lf⟩:=z;change W (Out.bind _ _) _ at w;simp![zab] at w;refine tE.run hs hh w λd v M H1 S1 x1 O U r1 w1=>?_;exact⟨δ.set i (Φ d),M,S1,Q,O.set r1 i,U,w1,lf.up x1⟩| true=>
  replace h:ite (zhK l=Γ) _ _=Γ:=h;split at h;rename_i c0;replace h:=((Ε _ _).mp h).2;cases l with
  |comp nt u g it c e=>
   replace h:=zac h;let⟨⟨elt',gs',I,p'⟩,q,h⟩:=h;cases zin q;replace h:=zac h;let⟨⟨m,iter,Y,asy⟩,q2,h⟩:=h;cases zbA q2;rw[Ε,Ε,Ε,Ε,Ε,Ε,Ε,Ε,decide_eq_true_eq,decide_eq_true_eq,decide_eq_true_eq]at h;let⟨⟨⟨⟨⟨⟨⟨⟨h1,h2⟩,J⟩,h4⟩,h5⟩,h6⟩,h7⟩,n⟩,h9⟩:=h;dsimp only at h1 h2 J h4 h5 h6 h7 n h9;replace J:=qa1 J;subst h1 h5;have ok:=ziR G h2;have G':=zlR G (tgs:=zb2 m) ok h6;have ht:∀a C f s H j,PTs (zaI X (capN X.N (zb2 m) u) scope a C f s H j) Y (tT X.K cf c):=λa C f s H j=>by split at n;rename_i ce;cases isEmpty_iff.mp ce;exact zh9 (X:=zaI X (capN X.N (zb2 m) u) scope a C f s H j) n;replace n:=zac n;let⟨t,q3,n⟩:=n;cases zbA q3;exact zkL (za9 c (G' a C f s H j) n).1
   have he:∀a C f s H j,PE (zaI X (capN X.N (zb2 m) u) scope a C f s H j) o (tE X.K cf e):=λa C f s H j=>zai e (G' a C f s H j) h9;have hg:∀a C f s H j,PG (zaI X (capN X.N (zb2 m) u) scope a C f s H j) m (tG X.K g):=λa C f s H j=>zpd (G' a C f s H j) h7;have hps:=zqa (spos:=pos) (py:=p) (pos:=p2) X.env.scope (zb2 m) u (i:=i) (y:=x) (by rw[G.nm];exact G.nd) (by rw[G.nm];exact L) (G.lc A).1 G.calm rfl ok ((zbQ it G h4).2.2.1 m J.2) hg ht he B (zhQ J.1 X.env) (G.lc A).2;exact zpq G L ⟨_,hps,λσ H Qv q=>ziQ G.tab.frm (zk6 q)⟩ hr
  |_=>exact nB c0
  exact nB h
def zrb(h:zbB v=Δ)(b:chkE T e N c v=Γ):∃l a gs scope p,v=.ListComp a gs scope p/\e=.mkL l:=by
 cases v with
 |ListComp a gs scope p=>cases e with|mkL l=>exact⟨l,a,gs,scope,p,rfl,rfl⟩|_=>exact absurd b Ν
 |SetComp=>cases e<;>(first|exact absurd b Ν|(rename_i l;cases l<;>exact absurd b Ν))|DictComp=>cases e<;>(first|exact absurd b Ν|(rename_i l;cases l<;>exact absurd b Ν))|_=>cases h
def zaU:∀(cs:CS){N:List Str}{y:Scope}{st:List Stmt}{X:Cx},Gd T cf k N y X->chkS T cs N y st=Γ->PSs X st (tS X.K cf cs)
 |.nil,N,y,st,X,G,h=>by obtain rfl:=isEmpty_iff.mp h;exact zrY|.stop,N,y,st,X,G,h=>λpins s σ H E I z=>(by let⟨δ,ι,S,Q,hs,hh,w,l⟩:=z;exact (by exact w.elim))| .asg i e r,N,y,st,X,G,h=>by
  cases st with
  |nil=>exact nB h
  |cons s d=>replace h:=zac h;let⟨⟨M,v,pos⟩,q,h⟩:=h;cases zcQ q;replace h:=zac h;let⟨x,L,h⟩:=h;let⟨p,m⟩:=zaV L;dsimp only at m;subst m;replace h:=qL (qL qb1) h;let⟨⟨⟨n,B⟩,A⟩,C⟩:=h;have hr:=zaU r G C;cases hn:zbB v with|true=>exact zr0 G n B (zai e G A) hn hr| false=>let⟨l,elt,gs,O,U,rfl,rfl⟩:=zrb hn A;exact zpo G n B A hr
 |.asgT g e r,N,y,st,X,G,h=>by
  cases st with
  |nil=>exact nB h
  |cons s d=>replace h:=zac h;let⟨⟨M,v,pos⟩,q,h⟩:=h;cases zcQ q;replace h:=zac h;let⟨es,L,h⟩:=h;let⟨j,p,m⟩:=zdR L;dsimp only at m;subst m;simp![Ε,decide_eq_true_eq]at h;let⟨⟨⟨⟨n,B⟩,A⟩,C⟩,J⟩:=h;refine zpp G A B (zai e G C) ?_ (zaU r G J);rw[Ϙ]at n;rcases n with n|n;let⟨x,m⟩:=Option.isSome_iff_exists.mp n;let⟨U,Y⟩:=zaV m;exact .inl ⟨x,U,Y⟩;let⟨⟨x,as⟩,m⟩:=Option.isSome_iff_exists.mp n;let⟨U,p3,Y⟩:=zaL m;exact .inr ⟨_,_,_,_,Y⟩
 |.setF a f e r,N,y,st,X,G,h=>by
  cases st with
  |nil=>exact nB h
  |cons s d=>replace h:=zac h;let⟨⟨M,v,pos⟩,q,h⟩:=h;cases zcQ q;replace h:=zac h;let⟨⟨o,f',p⟩,L,h⟩:=h;have m:=zcj L;dsimp only at m;subst m;replace h:=qL (qL (qL (qL qd1))) h;let⟨⟨⟨⟨⟨n,B⟩,A⟩,C⟩,J⟩,h6⟩:=h;subst n;exact zpl G B (zai a G C) (zai e G J) A (zaU r G h6)
 |.retN r,N,y,st,X,G,h=>by
  cases st with
  |nil=>exact nB h
  |cons s d=>replace h:=(Ε _ _).mp h;let⟨p,rfl⟩:=zjf h.1;exact zpm (zaU r G h.2)
 |.setIx a b e r,N,y,st,X,G,h=>by
  cases st with
  |nil=>exact nB h
  |cons s d=>replace h:=zac h;let⟨⟨M,v,pos⟩,q,h⟩:=h;cases zcQ q;replace h:=zac h;let⟨⟨o,i⟩,L,h⟩:=h;let⟨p,m⟩:=zdS L;dsimp only at m;subst m;replace h:=qL (qL (qL qa1)) h;let⟨⟨⟨⟨n,B⟩,A⟩,C⟩,J⟩:=h;exact zmA G (zai a G B) (zai b G A) (zai e G C) n (zaU r G J)
 |.ifS c t u r,N,y,st,X,G,h=>by
  cases st with
  |nil=>exact nB h
  |cons s d=>replace h:=zac h;let⟨⟨e,a,b⟩,q,h⟩:=h;let⟨p,rfl⟩:=zkA q;replace h:=qL (qL qa1) h;exact zt3 (za9 c G h.1.1.1).1 (zaU t G h.1.1.2) (zaU u G h.1.2) (zaU r G h.2)
 |.forS g l b r,N,y,st,X,G,h=>by
  cases st with
  |nil=>exact nB h
  |cons s d=>replace h:=zac h;let⟨⟨M,it,body⟩,q,h⟩:=h;let⟨p,rfl⟩:=zkB q;simp![Ε]at h;let⟨⟨⟨⟨n,B⟩,A⟩,C⟩,J⟩:=h;exact zrZ G ((zbQ l G B).2.2.1 M J.2) (zpd G J.1) (zaU b G A) n (zaU r G C)
 |.ret e r,N,y,st,X,G,h=>by
  cases st with
  |nil=>exact nB h
  |cons s d=>replace h:=zac h;let⟨v,q,h⟩:=h;let⟨p,rfl⟩:=zkz q;simp![Ε]at h;exact zrX (zai e G h.1) (zaU r G h.2)
 |.expr e r,N,y,st,X,G,h=>by
  cases st with
  |nil=>exact nB h
  |cons s d=>replace h:=zac h;let⟨v,q,h⟩:=h;let⟨p,rfl⟩:=zkC q;replace h:=qL qa1 h;exact zpn (zai e G h.1.2) h.1.1 (zaU r G h.2)
def RS.start{K}(r:RVs K ι H ds vs)(c:ds.length=F.np)(f:F.nn=N.length):RS K ι H (zaX F ds) (L2.start N vs):=by
 have a:=r.length;refine⟨by simp[zaX,L2.start,a,c,f],λi d e=>?_⟩;unfold zaX at e;unfold L2.start;by_cases b:i<ds.length;rw[getElem?_append_left (by simpa using b),getElem?_map]at e;rw[getElem?_append_left (by simpa[a]using b),getElem?_map];cases z:ds[i]? with
 |none=>rw[z]at e;exact nS e
 |some j=>rw[z]at e;simp![Option.map_some,Option.some.injEq]at e;subst e;let⟨v,g,h⟩:=r.get z;exact⟨v,by rw[g];rfl,h⟩
 . rw[getElem?_append_right (by simpa using b),List.getElem?_replicate]at e;split at e<;>cases e
abbrev ChkD(T:Tab)(b:CS)(N:List Str)(a:Scope)(st:List Stmt):Prop:=chkS T b N a st=Γ/\N≠T.lam
structure DefOk(K:Frag)(mg:Str->Option Ξ)(T:Tab)(Pg:List Fn)(fi:Nat)(x:Str)(ps:List Str)(nd:Nat):Prop where
 ex:∃(F:Fn) (qual:Str) (st:Stmt) (dV:Ξ) (f:Addr) (fd:FuncData) (N:List Str),Pg[fi]?=Φ F/\F.prim=Ψ/\FunV K x qual st dV f fd/\FnScope N ps (zaa st)/\ChkD T F.body N (zaa st) (zal st)/\F.np=ps.length/\F.nn=N.length/\
  mg x=Φ (.ref f)/\∀j,j<=nd->Binds K fd ps (List.replicate j Ξ.none)
def zqe:Fr S (prm S p ds):=by
 unfold prm
 repeat' first
 |exact .bad
 |exact .ok
 |exact .of (.push _ _)
 |split
def zgO(a)(n):CFok (callF a n):=by
 induction n with
 |zero=>exact λ_ _ _ _ _ e=>by cases e| succ n b=>
  intro f c S;show Fr S _;unfold callF
  repeat' first
  |exact .bad
  |exact .ok
  |exact frS b _ _ _
  |exact zqe
  |refine Fr.bind ?_ λ_ _=>?_
  |split
variable{P:Υ}{w:ϋ}{K:Frag}{mg:Str->Option Ξ}{base:Heap}{Pg:List Fn}
def zbJ{ps:List Str}(a:Pg[b]?=Φ F)(d:F.np=ps.length)(h:spF K (callF Pg n) b vs H Q E):vs.length=ps.length:=by let⟨ι,S,e,r,f,w⟩:=h;rw[r.length];cases n with|zero=>exact w.elim| succ n=>simp![callF,a]at w;split at w;rename_i c;rw[c,d];exact w.elim
def zl2{st}(tab:TabOk T (callF Pg n) m P w K mg base)(t:FunV K x b st dV f fd)(l:Pg[u]?=Φ F)(S:FnScope N ps (zaa st))(o:ChkD T F.body N (zaa st) (zal st))(y:F.np=ps.length)(B:F.nn=N.length)(C:F.prim=Ψ:=by rfl):
  FnOk P w K mg base CX0 (m+2) f fd ps (spF K (callF Pg (n+1)) u):=by
 refine t.ok S (λI H Q E h=>zbJ l y h) λj A a s H I Q E J h=>?_;let⟨ι,L,M,r,O,g⟩:=h;have G:Gd T (callF Pg n) m N (zaa st) (cxOf CX0 P w K mg base N b (zaa st) f j A a s H E).nox:=⟨rfl,S.nd,λx e=>e,λx e=>e,λx e=>.inl e,λx e=>e,.inl λ_=>rfl,rfl,rfl,J,tab,λz=>absurd z o.2⟩;refine⟨_,zaU F.body G o.1,?_⟩;simp![callF,l,C]at g;split at g;rename_i c;rw[zab]at g;refine⟨zaX F M,ι,L,_,RS.start r c B,O,g,?_⟩;intro U ι' H' S' p i q;cases U with|nx Y=>exact λσ' hs'=>q .non H' ι' p rfl i|rt d=>exact λv rv=>q v H' ι' p rv i
 exact g.elim
structure MOk(K:Frag)(T:Tab)(Pg:List Fn)(fi j:Nat)(Ex:Addr->Prop):Prop where
 ex:∃(F:Fn) (x qual:Str) (st:Stmt) (dV:Ξ) (f:Addr) (fd:FuncData) (N ps:List Str),Pg[fi]?=Φ F/\F.prim=Ψ/\FunV K x qual st dV f fd/\FnScope N ps (zaa st)/\ChkD T F.body N (zaa st) (zal st)/\F.np=ps.length/\F.nn=N.length/\
  Binds K fd ps (List.replicate j Ξ.none)/\Ex f
def zfA(z:MOk K T Pg d j g):∃f fd ps,g f/\keepIn K (.ref f)=Γ/\Binds K fd ps (List.replicate j Ξ.none)/\FnOk P w K mg base CX0 0 f fd ps (spF K (callF Pg 0) d):=by let⟨F,x,c,st,p,f,fd,N,ps,i,q,l,S,t,m,u,n,e⟩:=z.ex;refine⟨f,fd,ps,e,l.kp,n,⟨λo H Q E h=>zbJ i m h,λA a s H args y o Q E B C b v h=>?_⟩⟩;let⟨ι,S,G,r,I,w⟩:=h;exact w.elim
def zfB(tab:TabOk T (callF Pg n) m P w K mg base)(z:MOk K T Pg c j d):∃f fd ps,d f/\keepIn K (.ref f)=Γ/\Binds K fd ps (List.replicate j Ξ.none)/\FnOk P w K mg base CX0 (m+2) f fd ps (spF K (callF Pg (n+1)) c):=by let⟨F,x,a,st,q,f,fd,N,ps,g,h,b,S,i,l,o,p,e⟩:=z.ex;exact⟨f,fd,ps,e,b.kp,p,zl2 tab b g S i l o h⟩
abbrev ExM(K:Frag)(c:Nat)(m:Str)(f:Addr):Prop:=∃C,Mks.cl[c]?=Φ C/\Cls K C/\Meth K C m f
abbrev ExI(K:Frag)(c:Nat)(f:Addr):Prop:=∃C,Mks.cl[c]?=Φ C/\Mk K C f
abbrev ExC(K:Frag)(mg:Str->Option Ξ)(x m:Str)(f:Addr):Prop:=∃(C:Addr) (a:Ξ),mg x=Φ (.ref C)/\specialIn K (.ref C) "__getattribute__"=Φ (Φ (.builtin "type.__getattribute__"))/\readsIn K C a=Γ/\findCls K (.ref C) a m=Φ (.val (.ref f))
structure ClsOk(T:Tab)(K:Frag)(mg:Str->Option Ξ)(Pg:List Fn):Prop where
 cls:∀(c:Nat)(x:Str),T.cls[c]?=Φ x->∃C,Mks.cl[c]?=Φ C/\Cls K C/\mg x=Φ (.ref C)/\∀f,T.flds.contains f=Γ->NoAttr K C f
 mth:∀(c:Nat)(m:Str)(fi:Nat),T.mts.contains (c,m,fi)=Γ->MOk K T Pg fi 0 (ExM K c m)
 ini:∀(c fi j:Nat),T.inits.contains (c,fi,j)=Γ->MOk K T Pg fi j (ExI K c)
 cmd:∀(x m:Str)(fi:Nat),T.cms.contains (x,m,fi)=Γ->MOk K T Pg fi 0 (ExC K mg x m)
 cln:Mks.cl.length<=T.cls.length
 isa:∀(x:Str)(cs:List Nat),T.isas.contains (x,cs)=Γ->∃D,mg x=Φ (.ref D)/\∀c C,Mks.cl[c]?=Φ C->IsaOk K C/\kitOne K (.ref C) (.ref D)=Φ (cs.contains c)
def zlN(h:∃f fd ps,ExM K c m f/\keepIn K (.ref f)=Γ/\Binds K fd ps []/\FnOk P w K mg base CX0 k f fd ps (spF K cf a)):HasM P w K mg base k c m (spF K cf a):=by let⟨f,fd,ps,⟨C,b,d,e⟩,_,g,i⟩:=h;exact⟨C,f,fd,ps,b,d,e,i,g⟩
def zlO(h:∃f fd ps,ExI K c f/\keepIn K (.ref f)=Γ/\Binds K fd ps (List.replicate j Ξ.none)/\FnOk P w K mg base CX0 k f fd ps (spF K cf a)):HasI P w K mg base k c j (spF K cf a):=by let⟨f,fd,ps,⟨C,b,d⟩,_,e,g⟩:=h;exact⟨C,f,fd,ps,b,d,g,e⟩
def zlP(h:∃f fd ps,ExC K mg x m f/\keepIn K (.ref f)=Γ/\Binds K fd ps []/\FnOk P w K mg base CX0 k f fd ps (spF K cf a)):HasC P w K mg base k x m (spF K cf a):=by let⟨f,fd,ps,⟨C,b,c,d,e,g⟩,i,j,l⟩:=h;exact⟨C,f,fd,ps,b,c,d,e,g,i,l,j⟩
structure PrimOk(P:Υ)(w:ϋ)(K:Frag)(mg:Str->Option Ξ)(base:Heap)(T:Tab)(Pg:List Fn)(fi:Nat)(x:Str)(ps:List Str)(nd:Nat):Prop where
 ex:∃(F:Fn) (p:Prim) (f:Addr) (fd:FuncData),Pg[fi]?=Φ F/\F.prim=Φ p/\F.np=ps.length/\mg x=Φ (.ref f)/\keepIn K (.ref f)=Γ/\(∀j,j<=nd->Binds K fd ps (List.replicate j Ξ.none))/\
  ∀n,3<=n->TabOk T (callF Pg n) (2*n) P w K mg base->FnOk P w K mg base CX0 (2*n+2) f fd ps (spF K (callF Pg (n+1)) fi)
def zrP(U:∀x,T.blt.contains x=Γ->mg x=Ψ)(Y:∀x d,T.cons.lookup x=Φ d->zpJ d=Γ/\∃u,mg x=Φ u/\RelV (sV d) u)(hd:∀a x ps o,T.fns[a]?=Φ (x,ps,o)->DefOk K mg T Pg a x ps o\/PrimOk P w K mg base T Pg a x ps o)(g:ClsOk T K mg Pg) :
  ∀n,TabOk T (callF Pg n) (2*n) P w K mg base:=by
 intro n;induction n with
 |zero=>refine⟨U,Y,λa x ps o M j B=>?_,zgO Pg 0,g.cls,λc m a h=>zlN (zfA (g.mth c m a h)),λc a j h=>zlO (zfA (g.ini c a j h)),λx m a h=>zlP (zfA (g.cmd x m a h)),λ_=>g.cln,g.isa⟩;rcases hd a x ps o M with z|z;let⟨F,C,st,dV,f,q,N,l,G,L,S,ck,t,hn,y,e⟩:=z.ex;refine⟨f,q,_,⟨λI H Q E h=>zbJ l t h,λA i s H args us I Q E hr e0 b v h=>?_⟩,y,L.kp,e j B,Vals.nons j⟩;let⟨ι,S,ds,r,hh,w⟩:=h;exact w.elim;let⟨F,p,f,q,l,G,t,y,O,e,ok⟩:=z.ex;refine⟨f,q,_,⟨λI H Q E h=>zbJ l t h,λA i s H args us I Q E hr e0 b v h=>?_⟩,y,O,e j B,Vals.nons j⟩;let⟨ι,S,ds,r,hh,w⟩:=h;exact w.elim
 |succ n J=>
  refine⟨U,Y,λa x ps o M j B=>?_,zgO Pg (n+1),g.cls,λc m a h=>zlN (zfB J (g.mth c m a h)),λc a j h=>zlO (zfB J (g.ini c a j h)),λx m a h=>zlP (zfB J (g.cmd x m a h)),λ_=>g.cln,g.isa⟩;rcases hd a x ps o M with z|z;let⟨F,C,st,dV,f,q,N,l,G,L,S,ck,t,hn,y,e⟩:=z.ex;exact⟨f,q,_,(zl2 J L l S ck t hn G),y,L.kp,e j B,Vals.nons j⟩;let⟨F,p,f,q,l,G,t,y,O,e,ok⟩:=z.ex;refine⟨f,q,_,?_,y,O,e j B,Vals.nons j⟩;by_cases c:3<=n;exact(ok n c J).mono (by lia)
  . refine⟨λI H Q E h=>zbJ l t h,λA i s H args us I Q E hr e0 b v h=>?_⟩;let⟨ι,S,ds,r,hh,w⟩:=h;cases p<;>(simp![callF,l,G]at w;split at w<;>exact w.elim)
abbrev AllAtG{b:Type}(P:Nat->b->Prop):Nat->List b->Prop
 |_,[]=>True|k,a::r=>P k a/\AllAtG P (k+1) r
def zo4{P}:∀{l:List c}{k:Nat},AllAtG P k l->∀(i:Nat)(a:c),l[i]?=Φ a->P (k+i) a
 | [],_,_,i,a,h=>by simp at h|b::r,k,q,0,a,h=>by cases h;exact q.1| b::r,k,q,i+1,a,h=>by
  have:=zo4 q.2 i a (by simpa using h)
  rwa [Nat.add_right_comm]at this
def AllAt.get{P:Nat->b->Prop}{l:List b}(q:AllAtG P 0 l)(i)(a)(h:l[i]?=Φ a):P i a:=zero_add i▸zo4 q i a h
abbrev AllInG{b:Type}(P:b->Prop):List b->Prop
 | []=>True|a::r=>P a/\AllInG P r
def AllIn.get[BEq c][LawfulBEq c]{P}:∀{l:List c},AllInG P l->∀a,l.contains a=Γ->P a
 | [],_,a,h=>by simp at h| b::r,q,a,h=>by rw[contains_cons,Ϙ]at h;rcases h with h|h;rw[eq_of_beq h];exact q.1;exact AllIn.get q.2 a h
def law_spT{ns:List Int}(c:FixL K H a (ns.map V.int))(f:TB H)(b:W (callF Pg k g [.fix (ns.map .int)] ⟨[],[],[]⟩) λd _=>d=.bl Γ):spF K (callF Pg k) g [.ref a] H (λv _=>v=.bl Γ) λ_ _ _=>False:=by
 refine⟨[],⟨[],[],[]⟩,[.fix (ns.map .int)],⟨.ref a,[],rfl,⟨a,_,rfl,c,RVs.ints ns⟩,rfl⟩,⟨rfl,List.nodup_nil,λl o e=>(by simp[St.get]at e),f⟩,?_⟩;let⟨d,h,e,q⟩:=zf3 b;rw[e];intro v H' ι' x r i;subst q;exact r
end
abbrev okD(T:Tab)(F:Fn)(N ps:List Str)(st:Stmt):Bool:=
 decide ((zaa st).kind=.function)&&(!(zaa st).isCoroutine&&(!(zaa st).isGenerator&&(decide N.Nodup&&(decide (N.take ps.length=ps)&&(ps.all (λx=>decide ((zaa st).names.lookup x=Φ .local)||decide ((zaa st).names.lookup x=Φ .cell)) &&
  ((zaa st).names.all (λy=>decide (y.2≠.free))&&(chkS T F.body N (zaa st) (zal st)&&(decide (F.np=ps.length)&&(decide (F.nn=N.length)&&(F.prim.isNone&&decide (N≠T.lam)))))))))))
structure OkD(T:Tab)(Pg:List Fn)(fi:Nat)(x q:Str)(ps:List Str)(st:Stmt):Prop where
 ex:∃(F:Fn) (N:List Str),Pg[fi]?=Φ F/\F.prim=Ψ/\FnScope N ps (zaa st)/\ChkD T F.body N (zaa st) (zal st)/\F.np=ps.length/\F.nn=N.length
 bd:∀(kV doc pm:Ξ)(an:Option Addr)(cdv ct:Ξ)(us:List Ξ),us.length=ps.length->bindArgs (fnOf x q (zap st) (zal st) (zaa st) .none kV doc pm an cdv ct) ⟨us,[]⟩=pure (ps.zip us)
def zan{st}(N)(e:i[j]?=Φ F)(h:okD T F N ps st=Γ)(b:∀(kV a k:Ξ)(l:Option Addr)(c ct:Ξ)(us:List Ξ),us.length=ps.length->bindArgs (fnOf x q (zap st) (zal st) (zaa st) .none kV a k l c ct) ⟨us,[]⟩=pure (ps.zip us)):OkD T i j x q ps st:=by
 simp![okD,Ε,ϝ,decide_eq_true_eq,all_eq_true,Ϙ,Option.isNone_iff_eq_none]at h;let⟨m,n,o,p,r,s,t,u,v,d,f,g⟩:=h;exact⟨⟨F,N,e,f,⟨m,n,o,p,r,s,t⟩,⟨u,g⟩,v,d⟩,b⟩
def AllInG.cons{b:Type}{P:b->Prop}{a:b}{r:List b}(h:P a)(t:AllInG P r):AllInG P (a::r):=⟨h,t⟩
def AllAtG.cons{b:Type}{P:Nat->b->Prop}{k:Nat}{a:b}{r:List b}(h:P k a)(t:AllAtG P (k+1) r):AllAtG P k (a::r):=⟨h,t⟩
def AllInG.mem:∀{l:List c},AllInG P l->∀a∈l,P a
 |b::r,q,a,h=>by rcases mem_cons.mp h with rfl|h;exact q.1;exact AllInG.mem q.2 a h
section
variable{P:Υ}{w:ϋ}{K:Frag}{h base:Heap}{mg:Str->Option Ξ}{T:Tab}{Pg:List Fn}{fi c:Nat}{x q m:Str}{ps:List Str}{st:Stmt}{f C:Addr}{oc kV dc pm cd ct:Ξ}{od an:Option Addr}{sl:Array (Option Ξ)}
def dOk(X:K.In h)(G:h.Ns mainGlobals mg)(o:OkD T Pg fi x x ps st)(a:nsIn K mainGlobals x=Φ (Φ (.ref f)))(l:K.lookup f=Φ ⟨oc,od,.func (fnOf x x (zap st) (zal st) (zaa st) .none kV dc pm an cd ct),sl⟩)(c:codeIn K cd x=Γ)
  (k:keepIn K (.ref f)=Γ):DefOk K mg T Pg fi x ps 0\/PrimOk P w K mg base T Pg fi x ps 0:=by
 let⟨F,N,d,e,g,i,n,p⟩:=o.ex;have b:=zcH (st:=st) l c k;exact .inl ⟨⟨F,x,st,_,f,_,N,d,e,b,g,i,n,p,mg_of X G a,λj r=>(Nat.le_zero.mp r).symm▸b.binds o.bd⟩⟩
abbrev ClAt(K:Frag)(mg:Str->Option Ξ)(T:Tab)(c:Nat)(x:Str):Prop:=∃C,Mks.cl[c]?=Φ C/\Cls K C/\mg x=Φ (.ref C)/\∀f,T.flds.contains f=Γ->NoAttr K C f
def clOk(X:K.In h)(G:h.Ns mainGlobals mg)(e:Mks.cl[c]?=Φ C)(a:nsIn K mainGlobals x=Φ (Φ (.ref C)))(b:plainGet K C Str.empty=Γ)(hd:hasDictIn K C=Γ)(d:plainOver K C=Γ)
  (g:findIn K (.ref C) "__setattr__"=Φ (Φ (.builtin "object.__setattr__"))) (n:AllInG (λf=>findIn K (.ref C) f=Φ Ψ) T.flds):ClAt K mg T c x:=
 ⟨C,e,⟨b,hd,d,g⟩,mg_of X G a,AllIn.get n⟩
def mOk0(o:OkD T Pg fi m q ps st)(l:K.lookup f=Φ ⟨oc,od,.func (fnOf m q (zap st) (zal st) (zaa st) .none kV dc pm an cd ct),sl⟩)(b:codeIn K cd q=Γ)(k:keepIn K (.ref f)=Γ)(e:d f):MOk K T Pg fi 0 d:=by let⟨F,N,g,i,j,n,p,r⟩:=o.ex;have a:=zcH (st:=st) l b k;exact⟨⟨F,m,q,st,_,f,_,N,ps,g,i,a,j,n,p,r,a.binds o.bd,e⟩⟩
def mOk(b:AllAtG (ClAt K mg T) 0 T.cls)(o:OkD T Pg fi m q ps st)(e:Mks.cl[c]?=Φ C)(ex:T.cls[c]?=Φ x)(t:findIn K (.ref C) m=Φ (Φ (.ref f)))(l:K.lookup f=Φ ⟨oc,od,.func (fnOf m q (zap st) (zal st) (zaa st) .none kV dc pm an cd ct),sl⟩)
  (d:codeIn K cd q=Γ) (k:keepIn K (.ref f)=Γ) (i:isFn K (.ref f)=Γ):MOk K T Pg fi 0 (ExM K c m):=by
 let⟨g,a,j,_⟩:=AllAt.get b c x ex;exact mOk0 o l d k ⟨g,a,j,by rw[e]at a;cases a;exact⟨t,i,k⟩⟩
def iOk(o:OkD T Pg fi "__init__" q ps st)(e:Mks.cl[c]?=Φ C)(mk:makesIn K C=Γ)(t:findIn K (.ref C) "__init__"=Φ (Φ (.ref f)))(a:keepIn K (.ref C)=Γ)(l:K.lookup f=Φ ⟨oc,od,.func (fnOf "__init__" q (zap st) (zal st) (zaa st) .none kV dc pm an cd ct),sl⟩)
 (b:codeIn K cd q=Γ) (k:keepIn K (.ref f)=Γ) (i:isFn K (.ref f)=Γ):MOk K T Pg fi 0 (ExI K c):=mOk0 o l b k ⟨C,e,mk,t,i,a⟩
def cOk(X:K.In h)(G:h.Ns mainGlobals mg)(o:OkD T Pg fi m q ps st)(a:nsIn K mainGlobals x=Φ (Φ (.ref C)))(g:specialIn K (.ref C) "__getattribute__"=Φ (Φ (.builtin "type.__getattribute__")))(r:readsIn K C (.type "type")=Γ)
  (t:findCls K (.ref C) (.type "type") m=Φ (.val (.ref f))) (l:K.lookup f=Φ ⟨oc,od,.func (fnOf m q (zap st) (zal st) (zaa st) .none kV dc pm an cd ct),sl⟩) (b:codeIn K cd q=Γ) (k:keepIn K (.ref f)=Γ):MOk K T Pg fi 0 (ExC K mg x m):=
 mOk0 o l b k ⟨C,_,mg_of X G a,g,r,t⟩
abbrev IsAt(K:Frag)(mg:Str->Option Ξ)(z:Str×List Nat):Prop:=∃D,mg z.1=Φ (.ref D)/\∀c C,Mks.cl[c]?=Φ C->IsaOk K C/\kitOne K (.ref C) (.ref D)=Φ (z.2.contains c)
abbrev CoAt(K:Frag)(z:Str×D):Prop:=∃i t,z.2=.int i/\nsIn K mainGlobals z.1=Φ (Φ (.int i t))
def coOk(a:nsIn K mainGlobals x=Φ (Φ (.int i t))):CoAt K (x,.int i):=⟨i,t,rfl,a⟩
end
abbrev okL(T:Tab)(F:Fn)(ps:List Str)(st:Stmt):Bool:=
 decide ((zaa st).kind=.function)&&(!(zaa st).isCoroutine&&(!(zaa st).isGenerator&&(decide T.lam.Nodup&&(decide (T.lam.take ps.length=ps)&&(ps.all (λx=>decide ((zaa st).names.lookup x=Φ .local)||decide ((zaa st).names.lookup x=Φ .cell)) &&
  ((zaa st).names.all (λy=>decide (y.2≠.free))&&(chkS T F.body T.lam (zaa st) (zal st)&&(decide (F.np=ps.length)&&decide (F.nn=T.lam.length)))))))))
structure OkL(T:Tab)(Pg:List Fn)(fi:Nat)(x:Str)(ps:List Str)(nd:Nat)(st:Stmt):Prop where
 ex:∃F:Fn,Pg[fi]?=Φ F/\F.prim=Φ .lam/\FnScope T.lam ps (zaa st)/\chkS T F.body T.lam (zaa st) (zal st)=Γ/\F.np=ps.length/\F.nn=T.lam.length
def zsY{st}(e:b[c]?=Φ F)(d:F.prim=Φ .lam)(h:okL T F ps st=Γ):OkL T b c x ps p st:=by simp![okL,Ε,ϝ,decide_eq_true_eq,all_eq_true,Ϙ]at h;let⟨f,g,i,j,k,l,m,n,o,a⟩:=h;exact⟨F,e,d,⟨f,g,i,j,k,l,m⟩,n,o,a⟩
def zth{K}{st}{u kV g y ct}(lk:K.lookup f=Φ ⟨oc,od,.func (fnOf x a (zap st) (zal st) (zaa st) u kV g y C (.ref c) ct),I⟩)(k:codeIn K (.ref c) a=Γ)(J:codeHdIn K c T.lamP=Γ)(L:BM l base)(o:(T.lamP,a ++ ".<locals>." ++ "<lambda>")∈Mks.ts)(one:∀p∈Mks.ts,p.1=T.lamP->p.2=a ++ ".<locals>." ++ "<lambda>")(S:FnScope T.lam ps (zaa st))(M:chkS T F.body T.lam (zaa st) (zal st)=Γ)(z:t[N]?=Φ F)(O:F.prim=Φ .lam)(U:F.np=ps.length)(Y:F.nn=T.lam.length)(h3:3<=n)(hm:3<=m)(tab:TabOk T (callF t n) m P w K l base):
  FnOk P w K l base CX0 (m+2) f (fnOf x a (zap st) (zal st) (zaa st) u kV g y C (.ref c) ct) ps (spF K (callF t (n+1)) N):=by
 refine zq2 lk k S (λvs H Q E h=>zbJ z U h) λA b s H vs Q E hr h=>?_;let⟨ι,S0,ds,r,hh,i⟩:=h;have G:Gd T (callF t n) m T.lam (zaa st) (cxOf CX0 P w K l base T.lam a (zaa st) f (.ref c) A b s H E).nox:=⟨rfl,S.nd,λx e=>e,λx e=>e,λx e=>.inl e,λx e=>e,.inl λ_=>rfl,rfl,rfl,hr,tab,λ_=>⟨hm,c,⟨L,rfl,J,o,one⟩⟩⟩;refine⟨_,(zaU F.body G M).nox,?_⟩;simp![callF,z,O,h3,if_true]at i;split at i;rename_i c;rw[zab]at i;refine⟨zaX F ds,ι,S0,_,RS.start r c Y,hh,i,?_⟩;intro fl ι' H' S' B j q;cases fl with|nx δ'=>exact λσ' hs'=>q .non H' ι' B rfl j|rt d=>exact λv rv=>q v H' ι' B rv j
 exact i.elim
def lOk{K}{st}{y m kV b q ct}(X:K.In h)(G:h.Ns mainGlobals d)(z:BM d base)(o:OkL T r s x ps g st)(i:(T.lamP,x ++ ".<locals>." ++ "<lambda>")∈Mks.ts)(one:∀p∈Mks.ts,p.1=T.lamP->p.2=x ++ ".<locals>." ++ "<lambda>")(A:∀j,j<=g->Binds K (fnOf x x (zap st) (zal st) (zaa st) m kV b q B (.ref c) ct) ps (List.replicate j Ξ.none))(a:nsIn K mainGlobals x=Φ (Φ (.ref f)))(l:K.lookup f=Φ ⟨y,M,.func (fnOf x x (zap st) (zal st) (zaa st) m kV b q B (.ref c) ct),N⟩)(C:codeIn K (.ref c) x=Γ)(k:keepIn K (.ref f)=Γ)(e:codeHdIn K c T.lamP=Γ):DefOk K d T r s x ps g\/PrimOk P w K d base T r s x ps g:=by
 let⟨F,t,u,E,I,v,J⟩:=o.ex;exact .inr ⟨⟨F,.lam,f,_,t,u,v,mg_of X G a,k,A,λn L tab=>zth l C e z i one E I t u v J L (by lia) tab⟩⟩
structure OkE(T:Tab)(Pg:List Fn)(fi:Nat)(ps:List Str)(st:Stmt):Prop where
 ex:∃(F:Fn) (N:List Str),Pg[fi]?=Φ F/\F.prim=Ψ/\FnScope N ps (zaa st)/\ChkD T F.body N (zaa st) (zal st)/\F.np=ps.length/\F.nn=N.length
def zsZ{st}(N)(e:d[f]?=Φ F)(h:okD T F N ps st=Γ):OkE T d f ps st:=by simp![okD,Ε,ϝ,decide_eq_true_eq,all_eq_true,Ϙ,Option.isNone_iff_eq_none]at h;let⟨g,i,j,k,l,m,n,o,p,a,b,c⟩:=h;exact⟨F,N,e,b,⟨g,i,j,k,l,m,n⟩,⟨o,c⟩,p,a⟩
def iOkD{K}{st}{s kV u a m ct v}(o:OkE T w x ps st)(y:ps.length=n+j)(h:∀(d:Addr)(kV b a:Ξ)(p:Option Addr)(g ct:Ξ)(us:List Ξ),us.length=n->∃k,bindArgs (fnOf "__init__" q (zap st) (zal st) (zaa st) (.ref d) kV b a p g ct) ⟨us,[]⟩=seqItems? (.ref d)>>=k/\k (Φ items)=pure (ps.zip (us++List.replicate j Ξ.none)))(e:Mks.cl[c]?=Φ C)(mk:makesIn K C=Γ)(t:findIn K (.ref C) "__init__"=Φ (Φ (.ref f)))(z:keepIn K (.ref C)=Γ)(l:K.lookup f=Φ ⟨s,O,.func (fnOf "__init__" q (zap st) (zal st) (zaa st) (.ref d) kV u a p m ct),Q⟩)(A:codeIn K m q=Γ)(k:keepIn K (.ref f)=Γ)(i:isFn K (.ref f)=Γ)(B:K.lookup d=Φ ⟨v,U,.seq items Y,xs⟩):MOk K T w x j (ExI K c):=by
 let⟨F,N,E,G,I,J,L,M⟩:=o.ex;have r:=zcH (st:=st) l A k;exact⟨⟨F,"__init__",q,st,_,f,_,N,ps,E,G,r,I,J,L,M,zoY (ds:=List.replicate j Ξ.none) n (by rw[length_replicate];exact y) r B (h d),C,e,mk,t,i,z⟩⟩
def lOkD{K}{st}{z kV b g ct A}(X:K.In h)(G:h.Ns mainGlobals i)(B:BM i base)(o:OkL T t u x ps m st)(r:(T.lamP,x ++ ".<locals>." ++ "<lambda>")∈Mks.ts)(one:∀p∈Mks.ts,p.1=T.lamP->p.2=x ++ ".<locals>." ++ "<lambda>")(C:∀j,j<=m->∃n,ps.length=n+j/\∀(d:Addr)(kV b g:Ξ)(v:Option Addr)(s ct:Ξ)(us:List Ξ),us.length=n->∃k,bindArgs (fnOf x x (zap st) (zal st) (zaa st) (.ref d) kV b g v s ct) ⟨us,[]⟩=seqItems? (.ref d)>>=k/\k (Φ items)=pure (ps.zip (us++List.replicate j Ξ.none)))(a:nsIn K mainGlobals x=Φ (Φ (.ref f)))(l:K.lookup f=Φ ⟨z,L,.func (fnOf x x (zap st) (zal st) (zaa st) (.ref d) kV b g v (.ref c) ct),M⟩)(y:codeIn K (.ref c) x=Γ)(k:keepIn K (.ref f)=Γ)(e:codeHdIn K c T.lamP=Γ)(E:K.lookup d=Φ ⟨A,N,.seq items O,xs⟩):DefOk K i T t u x ps m\/PrimOk P w K i base T t u x ps m:=
 lOk X G B o r one (λj I=>by let⟨n,J,q⟩:=C j I;exact zoY (ds:=List.replicate j Ξ.none) n (by rw[length_replicate];exact J) (zcH (st:=st) l y k) E (q d)) a l y k e
def all_of{l:PySem.W.OpenLaw}{K}{st}{E kV A B y ct}(X:K.In h)(G:h.Ns mainGlobals g)(z:g "law"=Φ (.ref I))(o:OkD T r b "law" "law" [C] st)(J:Mks.cl.length<=T.cls.length)(u:AllAtG (ClAt K g T) 0 T.cls)(L:AllInG (λx=>nsIn K mainGlobals x=Φ Ψ) T.blt)(M:AllInG (CoAt K) T.cons)(hd:∀base:Heap,BM g base->AllAtG (λb q=>DefOk K g T r b q.1 q.2.1 q.2.2\/PrimOk l.prog w K g base T r b q.1 q.2.1 q.2.2) 0 T.fns)(O:AllAtG (ClAt K g T) 0 T.cls->AllInG (λq=>MOk K T r q.2.2 0 (ExM K q.1 q.2.1)) T.mts)(Q:AllInG (λq=>MOk K T r q.2.1 q.2.2 (ExI K q.1)) T.inits)(p:AllInG (λq=>MOk K T r q.2.2 0 (ExC K g q.1 q.2.1)) T.cms)(hs:AllInG (IsAt K g) T.isas)(a:nsIn K mainGlobals "law"=Φ (Φ (.ref f)))(U:K.lookup f=Φ ⟨E,od,.func (fnOf "law" "law" (zap st) (zal st) (zaa st) .none kV A B Y y ct),sl⟩)(c:codeIn K y "law"=Γ)(k:keepIn K (.ref f)=Γ):
  ∃fd:FuncData,(∀(s:Β)(v:Ξ),BindsTo s fd ⟨[v],[]⟩ [(C,v)])/\∀base:Heap,K.In base->base.Ns mainGlobals g->BM g base->FnOk l.prog w K g base CX0 (2*n+2) I fd [C] (spF K (callF r (n+1)) b):=by
 have e:=z.symm.trans (mg_of X G a);cases e;let⟨F,N,h1,h2,h3,h4,h5,h6⟩:=o.ex;refine⟨fnOf "law" "law" (zap st) (zal st) (zaa st) .none kV A B Y y ct,λs v=>.of_eq (o.bd _ _ _ _ _ _ [v] rfl),λbase _ _ bm=>?_⟩;refine zl2 (zrP (λx p=>PySem.W.mg_none_of X G (AllIn.get L x p)) (λx d p=>?_) (λb x ps nd hf=>AllAt.get (hd base bm) b _ hf)
  ⟨AllAt.get u,λc m b p=>AllIn.get (O u) (c,m,b) p,λc b j p=>AllIn.get Q (c,b,j) p,λx m b h=>AllIn.get p (x,m,b) h,J,λx cs p=>AllIn.get hs (x,cs) p⟩ n) (zcH (st:=st) U c k) h1 h3 h4 h5 h6 h2
 let⟨i,t,e,q⟩:=M.mem (x,d) (ϑ p);cases(show d=.int i from e);exact⟨rfl,_,mg_of X G q,⟨_,rfl⟩⟩
abbrev H0(K:Frag)(a:Addr)(o:Obj)(xs:List V):Hp:=λb=>if b∈Mks.ts.map (·.1) then Φ (.tbl #[]) else if b=a then(match K.lookup a with|some _=>Ψ|none=>Φ (.frz o (.lst xs))) else Ψ
def zll{K}(KX:K.In c.heap)(I:c.heap.Ns mainGlobals A)(Y:c.heap.Ns builtinsNs mb)(hbb:∀x:Str,x≠"__name__"->mb x=bootBuiltins x)(J:c.heap.NoLimit)(hg:c.gens = #[])(bm:BM A c.heap)(G:c.heap.get? a=Φ {cls:=.type "list",data:=.seq vs.toArray})(hi:IntsAre vs ns)(hl:ns.length<=sizeLine)(hr:Room k callerA)(g:∀p∈Mks.ts,c.heap.get? p.1=Φ (tabObj #[])/\K.lookup p.1=Ψ/\isCodeTable c.heap p.1)(F:∀base:Heap,K.In base->base.Ns mainGlobals A->BM A base->FnOk P w K A base CX0 k fa fd [x] sp)(B:∀(s:Β)(u:Ξ),BindsTo s fd ⟨[u],[]⟩ [(x,u)])(hsp:∀H:Hp,FixL K H a (ns.map V.int)->TB H->sp [.ref a] H (λv _=>v=.bl Γ) λ_ _ _=>False):
  codeAny (model P w) callerA (.call (.ref fa) ⟨[.ref a],[]⟩) (λr s'=>r=.ok (.ret (.bool Γ))/\OldK c.heap s'.heap/\s'.os=c.os/\AllBare s'.gens) c:=by
 have rv:=zdM hi;have L:=hi.length;generalize hH:H0 K a {cls:=.type "list",data:=.seq vs.toArray} (ns.map V.int)=H;have T:∀b,H b=Ψ\/((∃p∈Mks.ts,p.1=b)/\H b=Φ (.tbl #[]))\/(b=a/\K.lookup a=Ψ/\H b=Φ (.frz {cls:=.type "list",data:=.seq vs.toArray} (.lst (ns.map V.int)))):=λb=>by
  rw[<-hH];unfold H0;by_cases C:b∈Mks.ts.map (·.1);let⟨p,i,e⟩:=mem_map.mp C;exact .inr (.inl ⟨⟨p,i,e⟩,if_pos C⟩);rw[if_neg C];by_cases E:b=a;rw[if_pos E];cases e:K.lookup a with|some o=>exact .inl rfl|none=>exact .inr (.inr ⟨E,rfl,rfl⟩)
  rw[if_neg E];exact .inl rfl
 have tb:TB H:=λp i=>⟨#[],by rw[<-hH];exact if_pos (mem_map.mpr ⟨p,i,rfl⟩),trivial,λpos v e=>by simp[codeAmong]at e⟩;have na:a∉Mks.ts.map (·.1):=λz=>by let⟨p,i,e⟩:=mem_map.mp z;have:=(g p i).1;rw[e,G]at this;cases this
 have hx:FixL K H a (ns.map V.int):=by cases e:K.lookup a with| some o=>have U:=KX a o e;rw[G]at U;cases U;exact .inr ⟨_,vs.toArray,_,e,rfl,rfl,rfl,by rw[size_toArray,L];exact hl,by simpa using rv⟩| none=>refine .inl ⟨{cls:=.type "list",data:=.seq vs.toArray},?_⟩;rw[<-hH];unfold H0;rw[if_neg na,if_pos rfl,e]
 have hok:HOk P w H c.heap:=λb u e=>by rcases T b with z|⟨⟨p,i,rfl⟩,z⟩|⟨rfl,_,z⟩;rw[z]at e;exact nS e;rw[z]at e;cases e;exact(g p i).1;rw[z]at e;cases e;exact⟨G,by rw[length_map];exact hl,vs,_,rv,G⟩
 have M:∀{b:Addr}{o:Obj},c.heap.get? b=Φ o->(∀xs n,o.data≠.seq xs n)->(∀fs,o.data≠.fields fs)->H b=Ψ:=λ{b o} e n1 n2=>by rcases T b with z|⟨⟨p,i,rfl⟩,_⟩|⟨rfl,_,_⟩;exact z;rw[(g p i).1]at e;cases e;exact absurd rfl (n2 _);rw[G]at e;cases e;exact absurd rfl (n1 _ _)
 have f:∀{b:Addr}{o:Obj},c.heap.get? b=Φ o->H b=Ψ->(hidT c.heap H).get? b=Φ o:=λe n=>znI e n;have j:∀{b:Addr}{m:Str->Option Ξ},c.heap.Ns b m->(hidT c.heap H).Ns b m:=λ{b m} ⟨o,es,ep,e,d,r⟩=>⟨o,es,ep,f e (M e (λ_ _ z=>by rw[d]at z;cases z) λ_ z=>by rw[d]at z;cases z),d,r⟩;have N:K.In (hidT c.heap H):=λb o e=>f (KX b o e) (by
  rcases T b with z|⟨⟨p,i,rfl⟩,_⟩|⟨rfl,z,_⟩;exact z;rw[(g p i).2.1]at e;exact nS e;rw[z]at e;exact nS e)
 have hbm:BM A (hidT c.heap H):=by let⟨m,o,C,E,h3,h4,h5,h6,h7⟩:=bm;exact⟨m,o,C,E,h3,f h4 (M h4 (λ_ _ z=>by rw[h7]at z;cases z) λ_ z=>by rw[h7]at z;cases z),h5,h6,h7⟩
 have hM:Mod K A (hidT c.heap H):=⟨N,j I,⟨mb,j Y,hbb⟩,let ⟨mc,C,E⟩:=J;⟨mc,j C,E⟩⟩;have e0:Env0 P w K A (hidT c.heap H) callerA [] c H:=⟨rfl,hM,λb o e=>zqw e,le_of_eq (zlM _ _),trivial,λb Y=>absurd (show b∈([]:List Addr) from Y) (by simp),hok,.of_eq hg⟩;refine Ϛ ((F _ N (j I) hbm).run callerA [] c H ⟨[.ref a],[]⟩ [.ref a] [.ref a] _ _ hr e0 (B c (.ref a)) (.cons rfl .nil) (hsp H hx tb)) λr s' h=>?_;cases r with
 |error e=>exact False.elim h| ok fl=>
  cases fl with
  |ret u=>
   let⟨v,H',os,O,un,l,r',q⟩:=h;have q':=q;subst q';obtain rfl:u=Ξ.bool Γ:=r';have Q:∀b o,c.heap.get? b=Φ o->asItWas c.heap s'.heap b o/\∃o',s'.heap.get? b=Φ o':=λb o e=>by rcases T b with z|⟨⟨p,i,rfl⟩,z⟩|⟨rfl,_,z⟩;have k:=un.keep b o e z (by intro y;exact absurd (show b∈([]:List Addr) from y) (by simp)) (by simp);exact⟨.inl k,_,k⟩;let⟨t,z2⟩:=un.tbls _ _ z;have k:=l _ _ z2;have U:=(g p i).1;rw[U]at e;cases e;exact⟨.inr (.inl ⟨(g p i).2.2,rfl,#[],t,rfl,k⟩),_,k⟩;have z2:=un.frzs _ _ _ z;have k:=(l _ _ z2).1;rw[G]at e;cases e;exact⟨.inl k,_,k⟩
   exact⟨rfl,⟨λb o e=>(Q b o e).1,λb o e=>(Q b o e).2⟩,os,O⟩
  |_=>exact False.elim h
def walk_ofT{l:PySem.W.OpenLaw}{YP}{K:Params->Frag}{sp:ϋ->Sp}(Q:l.most=Φ n)(r:n<=sizeLine)(t:d.params.defaults=[])(T:Room k callerA)(U:∀(w:ϋ)(h:Heap),YP w h->(K w.params).In h)(hT:∀(w:ϋ)(h:Heap),YP w h->∀p∈Mks.ts,h.get? p.1=Φ (tabObj #[]))(hK:∀(w:ϋ),∀p∈Mks.ts,(K w.params).lookup p.1=Ψ/\∃c,codeHdIn (K w.params) c p.1=Γ)(F:∀(w:ϋ)(g:Str->Option Ξ)(m:Addr)(h:Heap),(K w.params).In h->h.Ns mainGlobals g->g d.name=Φ (.ref m)->
   ∃fd:FuncData,(∀(s:Β)(u:Ξ),BindsTo s fd ⟨[u],[]⟩ [(x,u)])/\
    ∀base:Heap,(K w.params).In base->base.Ns mainGlobals g->BM g base->FnOk l.prog w (K w.params) g base CX0 k m fd [x] (sp w))(y:∀(w:ϋ)(H:Hp)(a:Addr)(ns:List Int),ns.length<=n->FixL (K w.params) H a (ns.map V.int)->TB H->sp w [.ref a] H (λv _=>v=.bl Γ) λ_ _ _=>False):
  PySem.W.WalkO q A XP YP l.row.toRowW d [] (λf vs=>PySem.call f vs):=by
 refine Att.attach_call Q t λw J L g mb m o pm cd doc a vs ns G Y ho M hcd B j i b hg=>?_;have C:=U w _ Y;let⟨fd,hb,hF⟩:=F w g m _ C G.T.g B;let⟨N,ob,b1,b2,b3,b4,b5,E⟩:=G.T.bmain;have I:N≠mainGlobals:=λz=>by let⟨o,es,ep,e,M,_⟩:=G.T.g;rw[z,e]at b3;cases b3;rw[M]at E;cases E
 refine zll C G.T.g G.T.b G.T.builtins G.T.nolimit hg ⟨N,ob,b1,b2,I,b3,b4,b5,E⟩ j i (le_trans b r) T (λp O=>?_) hF hb λH hx tb=>y w H a ns b hx tb;let⟨k1,c,k2⟩:=hK w p O;have e:=hT w _ Y p O;exact⟨e,k1,((PySem.W.codeHd_of_K C k2).tab e).isCodeTable⟩
abbrev zeE:CE:=.tup (.cons (.neg (.ix (.loc 0) (.con (.int 1)))) (.cons (.ix (.loc 0) (.con (.int 0))) .nil))
def ztv(S)(k v):evE noCF zeE [Φ (.tup [.int k,.int v])] S=.ok (.tup [.int (-v),.int k]) S:=by show Out.ok _ _=_;simp[evEs]
def znE(I:Inv X g M H s)(N:Room 2 C)(O:Env0 X.prog X.w X.K X.mg X.base C X.stack s H)(L:LamAt H f name h c body scope)(hs:FnScope ["row"] ["row"] scope)(U:∀(o Y ct:Ξ),bindArgs (kla_fn name h c body scope [] o Y ct) ⟨[u],[]⟩=pure [(("row":Str),u)])(ck:chkE noTab zeE ["row"] scope body=Γ)(tb:TB H)(ha:H a=Φ (.tup [.int k,.int v]))(hu:L2.RelV (.ref a) u):
  wpAny (model X.prog X.w) C (call (.ref f) [u]) (λy s'=>∃b H',y=.ref b/\Inv X g M H' s'/\H' b=Φ (.tup [.int (-v),.int k])/\Ext [] H [] H'/\Un (frs X.stack) [] H H' s.heap s'.heap) (λ_ _=>False) s:=by
 let⟨o,ct,G,oc,vs,t,h1,h2,h3,h4⟩:=L.ex;have of:=(I.hok f _ h1).1;have oo:=(I.hok G _ h2).1;refine wpAny_call (Ϛ (zlm (CX:=CX0) (E:=λ_ _ _=>False) (Q:=λw H'=>∃b,w=V.ref b/\H' b=Φ (.tup [.int (-v),.int k])/\Ext [] H [] H') hs N O of ⟨G,oc,vs,t,rfl,oo,h3,h4⟩
  (.of_eq (U o _ ct)) (.cons hu .nil) rfl (λp=>PE.nox (zai zeE ⟨rfl,hs.nd,λx e=>e,λx e=>e,λx e=>.inl e,λx e=>e,.inl λ_=>rfl,rfl,rfl,p,zix,λz=>absurd (show(["row"]:List Str)=noTab.lam from z) (by decide)⟩ ck)) ?_) λr s' q=>?_)
 refine⟨[Φ (.tup [.int k,.int v])],[],⟨[],[],[]⟩,λd S=>d=.tup [.int (-v),.int k],⟨rfl,λi d l=>?_⟩,zsq tb,by exact rfl,?_⟩
 . match i,l with|0,l=>cases l;exact⟨.ref a,rfl,a,_,rfl,ha,_,_,rfl,rfl,_,_,rfl,rfl,rfl⟩|j+1,l=>simp at l
 rintro w H' ⟨d,ι',S',x,n,hh,rfl⟩;let⟨b,xs,rfl,hx,p1,p2,rfl,q1,p3,p4,rfl,q3,q4⟩:=n;cases q1;cases q3;cases q4;exact⟨b,rfl,hx,x.cut⟩;cases r with
 |error e=>exact q.elim| ok fl=>
  cases fl with
  |ret y=>
   let⟨w,H',os,m,J,A,n,b,rfl,B,x⟩:=q;cases y with
   |ref z=>
    have:z=b:=by simpa[L2.RelV]using n
    exact⟨b,H',by rw[this],I.call' os J A m (λb z=>absurd z (by simp)),B,x,J⟩
   |_=>simp[L2.RelV]at n
  |_=>exact q.elim
def zmz(f:out.Perm rows)(g:out.Pairwise λa b=>zc7 a b=Γ):out=zaW rows:=by
 refine List.Perm.eq_of_pairwise (λa b _ _ d e=>?_) g (List.pairwise_mergeSort (λa b c d e=>?_) (λa b=>?_) rows) (f.trans (List.mergeSort_perm rows zc7).symm);let⟨h,i⟩:=a;let⟨b1,b2⟩:=b;simp![zc7]at d e;have j:h=b1:=by lia
 have k:i=b2:=by lia
 rw[j,k];simp![zc7]at d e⊢;lia;simp![zc7];lia
def znd{a:Type}{xs:List a}{p:List Nat}(d)(b:p.Perm (List.range xs.length)):(p.map λi=>xs.getD i d).Perm xs:=by have h:=b.map λi=>xs.getD i d;refine h.trans (List.Perm.of_eq ?_);apply List.ext_getElem;simp;intro i e c;simp[c]
section
variable{X:Cx}{pins:List (Addr×Obj)}{σ:L2.St}{H:Hp}{s:Β}{A':ϐ}{D kS:Addr}{rows:List (Int×Int)}
def zhH(ok:HOk P w H h)(e:H b=Φ (.tup [.int x,.int y])):∃(o:Obj) (t u:Tok) (n:Nat),h.get? b=Φ o/\o.cls=.type "tuple"/\o.data=.seq #[.int x t,.int y u] n:=by let⟨_,a,r,o,c,d,n,f⟩:=ok b _ e;cases r with| cons g r=>cases r with| cons i r=>cases r with| nil=>let⟨t,rfl⟩:=g;let⟨u,rfl⟩:=i;exact⟨o,t,u,n,c,d,f⟩
def ztk(ok:HOk X.prog X.w H s.heap)(e:H b=Φ (.tup [.int x,.int y]))(l:H c=Φ (.tup [.int a,.int f]))(q:Q (decide (x<a\/(x=a/\y<f))) s):wpAny (model X.prog X.w) A' (keyLt' (tuples' Γ) (.ref b) (.ref c)) Q E s:=by
 let⟨o,t,u,n,m,_,p⟩:=zhH ok e;let⟨w,r,v,A,h,_,i⟩:=zhH ok l;refine PySem.W.kat_lt m p h i (kat_cons (wpAny_eqBool_int ?_));by_cases d:x=a;have j:(x==a)=Γ:=by simpa using d
 rw[j];refine PySem.W.kat_yes (kat_cons (wpAny_eqBool_int ?_));by_cases k:y=f;have g:(y==f)=Γ:=by simpa using k
 rw[g];refine PySem.W.kat_yes (PySem.W.kat_nil ?_);have:decide (x<a\/(x=a/\y<f))=decide ((#[Ξ.int x t,Ξ.int y u]:Array Ξ).size<(#[Ξ.int a r,Ξ.int f v]:Array Ξ).size):=by rw[decide_eq_false (by lia)];rfl
 rw[this]at q;exact q;have g:(y==f)=Δ:=by simpa using k
 rw[g];refine kat_no (kat_one _ _ (wpAny_lt_int ?_));have:decide (x<a\/(x=a/\y<f))=decide (y<f):=by by_cases z:y<f;rw[decide_eq_true z,decide_eq_true (.inr ⟨d,z⟩)];rw[decide_eq_false z,decide_eq_false (by lia)]
 rw[this]at q;exact q;have j:(x==a)=Δ:=by simpa using d
 rw[j];refine kat_no (oneLt_int ?_);have:decide (x<a\/(x=a/\y<f))=decide (x<a):=by by_cases z:x<a;rw[decide_eq_true z,decide_eq_true (.inl z)];rw[decide_eq_false z,decide_eq_false (by lia)]
 rw[this]at q;exact q
def ziE(ok:HOk P w H h):∀(ks:List Ξ),(∀k∈ks,∃b x y,k=Ξ.ref b/\H b=Φ (.tup [.int x,.int y]))->∃a:List Ξ,KatTups h ks a/\a.length=ks.length/\∀v∈a,∃n t,v=Ξ.int n t
 | [],_=>⟨[],KatTups.nil,rfl,λv h=>by cases h⟩| k::ks,d=>by let⟨a,f,g,i⟩:=ziE ok ks λk h=>d k (Κ _ h);let⟨b,x,y,rfl,e⟩:=d k Μ;let⟨o,t,u,n,j,l,m⟩:=zhH ok e;refine⟨.int x t::a,KatTups.cons j l m rfl f,by simp[g],λv c=>?_⟩;rcases mem_cons.mp c with rfl|c;exact⟨x,t,rfl⟩;exact i v c
def znD{ks:List Ξ}(ok:HOk X.prog X.w H s.heap)(a:∀k∈ks,∃b x y,k=Ξ.ref b/\H b=Φ (.tup [.int x,.int y]))(e:1<=ks.length)(q:Q (tuples' Γ) s):
  wpAny (model X.prog X.w) A' (keyKind' ks.toArray) Q E s:=by
 let⟨f,c,t2,t3⟩:=ziE ok ks a;refine PySem.W.kat_kind (T:=.type "int") c (by lia) (λv d=>?_) rfl q;let⟨n,t,rfl⟩:=t3 v d;exact .now
end
abbrev LtR(a b:Int×Int):Prop:=-a.2 < -b.2\/(-a.2 = -b.2/\a.1<b.1)
noncomputable instance:DecidableRel LtR:=λa b=>inferInstanceAs (Decidable (-a.2 < -b.2\/(-a.2 = -b.2/\a.1<b.1)))
abbrev RowA(H:Hp)(a:Addr)(r:Int×Int):Prop:=H a=Φ (.tup [.int r.1,.int r.2])
abbrev KeyA(H:Hp)(b:Addr)(r:Int×Int):Prop:=H b=Φ (.tup [.int (-r.2),.int r.1])
def ordR:Ord LtR:=by refine⟨λr=>by unfold LtR;lia,λ{a b c} h k=>by unfold LtR at *;lia,λ{a b} h=>?_⟩;let⟨x,y⟩:=a;let⟨u,v⟩:=b;unfold LtR;dsimp only;by_cases e:y=v;subst e;have:x≠u:=λz=>h (by rw[z]);lia;lia
def zr1{X:Cx}{c:List (Addr×Obj)}{i:L2.St}{H:Hp}{e:ϐ}{f:Addr}{name d:Str}{a:Arguments}{body:Expr}{scope:Scope}(j:Room 2 e)(l:∀H s,Inv X c i H s->Env0 X.prog X.w X.K X.mg X.base e X.stack s H)(L:LamAt H f name d a body scope)(hs:FnScope ["row"] ["row"] scope)
  (m:∀(n o ct u:Ξ),bindArgs (kla_fn name d a body scope [] n o ct) ⟨[u],[]⟩=pure [(("row":Str),u)]) (p:chkE noTab zeE ["row"] scope body=Γ) (t:TB H):SortK X c i e H f RowA KeyA (tuples' Γ) LtR where
 upR:=λk h=>k.tups _ _ h
 upK:=λk h=>k.tups _ _ h
 call:=λI x v=>znE I j (l _ _ I) (L.up x.kp) hs (λ_ _ _=>m _ _ _ _) p (x.kp.tab t) v rfl
 kind:=λI w g q=>znD I.hok (λk y=>(w k y).elim λb z=>z.elim λr z=>⟨b,_,_,z.1,z.2⟩) g q
 less:=λI g A q=>ztk I.hok g A q
 ord:=ordR
def PlcG.tally(h:PlcG LtR rows p):(p.map λi=>rows.getD i (0,0))=zaW rows:=zmz (znd _ h.perm) (h.asc.imp λ{a b} z=>by simp![zc7];unfold LtR at z;lia)
section
variable{X:Cx}{pins:List (Addr×Obj)}{σ:L2.St}{H H':Hp}{s:Β}{b:Addr}{o:HO}
def zeH:∀(as:List Addr)(rows:List (Int×Int)){H:Hp},Inv X pins σ H s->as.length=rows.length->as.Pairwise (· < ·)->(∀a∈as,Own X pins a/\H a=Ψ)->
  (∀(j:Nat)(a:Addr),as[j]?=Φ a->∃(r:Int×Int) (t u:Tok),rows[j]?=Φ r/\s.heap.get? a=Φ {cls:=.type "tuple",data:=.seq #[.int r.1 t,.int r.2 u]})->
  ∃H',Inv X pins σ H' s/\Ext [] H [] H'/\(∀c,c∉as->H' c=H c)/\∀(j:Nat)(a:Addr),as[j]?=Φ a->∃r:Int×Int,rows[j]?=Φ r/\H' a=Φ (.tup [.int r.1,.int r.2])
 | [],rows,H,I,g,_,_,_=>⟨H,I,Ext.refl _ _,λc _=>rfl,λj a e=>by simp at e⟩|a::as,[],H,I,g,_,_,_=>by simp at g| a::as,r::rows,H,I,g,m,h,i=>by
  let⟨n,l⟩:=h a Μ;let⟨y,t,u,p,v⟩:=i 0 a rfl;cases p;have f:=Ϣ.mp m;have w:Inv X pins σ (upd H a (.tup [.int r.1,.int r.2])) s:=zbG I n l ⟨by simp[Χ],[.int r.1 t,.int r.2 u],.cons ⟨t,rfl⟩ (.cons ⟨u,rfl⟩ .nil),_,v,rfl,_,rfl⟩;let⟨H',J,x,k,q⟩:=zeH as rows w (by simpa using g) f.2 (λc d=>⟨(h c (Κ _ d)).1,by
   rw[zad (ne_of_gt (f.1 c d))];exact(h c (Κ _ d)).2⟩) λj c e=>i (j+1) c (by simpa using e)
  refine⟨H',J,(zfR l).trans x,λc d=>?_,λj c e=>?_⟩;rw[k c (λz=>d (Κ _ z)),zad (λz=>d (by rw[z];exact Μ))];cases j with|zero=>cases e;exact⟨r,rfl,x.kp.tups _ _ zag⟩|succ j=>exact q j c (by simpa using e)
end
abbrev zbC(rows:List (Int×Int)):List (Key×V):=rows.map λr=>(.inl r.1,.int r.2)
def zln:∀{rows:List (Int×Int)}{vs:List (Key×Ξ)},KV (zbC rows) vs->vs.length=rows.length/\∀(j:Nat) k v,vs[j]?=Φ (k,v)->∃(r:Int×Int) (t:Tok),rows[j]?=Φ r/\k=.inl r.1/\v=.int r.2 t
 | [],vs,h=>by cases h;exact⟨rfl,λj k v e=>by simp at e⟩| r::rows,vs,h=>by cases h with| cons b d=>rename_i q vs;let⟨a,c⟩:=zln d;refine⟨by simp[a],λj k v e=>?_⟩;cases j with| zero=>cases e;let⟨f,t,g⟩:=b;exact⟨r,t,rfl,f.symm,g⟩|succ j=>exact c j k v (by simpa using e)
section
variable{X:Cx}{pins:List (Addr×Obj)}{σ:L2.St}{H:Hp}{s:Β}{d r f:Addr}{rows:List (Int×Int)}{name qual:Str}{params:Arguments}{body:Expr}{scope:Scope}
structure Tld(X:Cx)(pins:List (Addr×Obj))(σ:L2.St)(H:Hp)(rows:List (Int×Int))(D:Addr)(s':Β):Prop where
 ex:∃(H':Hp) (ts:List Addr),Inv X pins σ H' s'/\Ext [] H [] H'/\H D=Ψ/\H' D=Φ (.lst (ts.map V.ref))/\ts.length=rows.length/\∀(j:Nat)(t:Addr),ts[j]?=Φ t->∃q:Int×Int,(zaW rows)[j]?=Φ q/\H' t=Φ (.tup [.int q.1,.int q.2])
def zkb(I:Inv X pins σ H s)(hh:X.A.handled=Ψ)(hr:Room 2 X.A.in1.in1)(L:LamAt H f name qual params body scope)(hs:FnScope ["row"] ["row"] scope)(v:∀(pm cd ct u:Ξ),bindArgs (kla_fn name qual params body scope [] pm cd ct) ⟨[u],[]⟩=pure [(("row":Str),u)])(ck:chkE noTab zeE ["row"] scope body=Γ)(tb:TB H)(hd:H d=Φ (.dK (zbC rows)))(hv:s.heap.IsItemsView r d)(h64:rows.length<64)(q:∀D s',Tld X pins σ H rows D s'->Q (.ref D) s'):
  wpAny (model X.prog X.w) X.A (call (.builtin "sorted") [.ref r] [(Str.ofString "key",.ref f)]) Q E s:=by
 let⟨_,hsys,B,kv,od,es,ep,ho,hex,hda,hko,hpr,O⟩:=I.hok d _ hd;let⟨c,T⟩:=zln kv;have hm:s.heap.DictAt (zaq X.prog X.w) d B ep:=⟨od,es,ho,hex,hda,hko,hpr,O⟩;refine call_function_entry_kw kind_sorted plain_sorted entry_sorted (ksk_s1 _ _) ?_;unfold Builtin.«sorted»;refine Θ (m:=checkCount "sorted" 1 1 _) (Ω (Θ ?_));refine PySem.W.kdx_collect (A:=X.A.in1) (knd:=zaq X.prog X.w) (kvs:=B) (ep:=ep) hh hv hm (by rw[c,Χ];lia) λl C as U y kg=>?_;have I1:Inv X pins σ H {s with heap:=l,toks:=C}:=zaG (g':=s.gens) (t':=C) (d':=s.drawn) (ch:=[]) I (λb v=>by cases v) (λb v=>by cases v) (λb o _ e=>U b o e) I.bare;have G:∀(j:Nat)(a:Addr),as[j]?=Φ a->∃(p:Int×Int) (t u:Tok),rows[j]?=Φ p/\l.get? a=Φ {cls:=.type "tuple",data:=.seq #[.int p.1 t,.int p.2 u]}:=λj a ha=>by let⟨key,k,x,e1,e2,e3⟩:=kg.pairs j a ha;let⟨p,t,p1,p2,p3⟩:=T j k x e1;subst p2 p3;rw[zju]at e2;rcases zaz e2 with⟨i,u,z1,z2⟩|⟨x',u,z1,z2⟩;cases z1;subst z2;exact⟨p,u,t,p1,e3⟩;cases z1
 let⟨H1,I2,x1,out1,g⟩:=zeH (s:={s with heap:=l,toks:=C}) as rows I1 (by rw[y,c]) kg.rise (λa ha=>⟨Own.fresh I (le_of_lt (kg.above a ha)),I.hok.fresh (le_of_lt (kg.above a ha))⟩) G;have n:as.length=rows.length:=by rw[y,c]
 refine Θ (wpAny_newList ?_ (by rw[length_map,n,Χ];lia));have I3:Inv X pins σ H1 {s with heap:=l.push (seqObj "list" (as.map Ξ.ref).toArray 0),toks:=C}:=zaG (s:={s with heap:=l,toks:=C}) (g':=s.gens) (t':=C) (d':=s.drawn) (ch:=[]) I2 (λb v=>by cases v) (λb v=>by cases v) (λb o _ e=>Λ _ e) I.bare;have lD:zf4 {s with heap:=l.push (seqObj "list" (as.map Ξ.ref).toArray 0),toks:=C} l.objs.size (as.map Ξ.ref) 0:=Ζ _ rfl;have oD:Own X pins l.objs.size:=Own.fresh I2 (le_refl _);have dN:H1 l.objs.size=Ψ:=I2.hok.fresh (le_refl _);have dN0:H l.objs.size=Ψ:=I1.hok.fresh (le_refl _);refine Θ (ϙ (wpAny_call_entry_kw slot_list_sort ⟨_,lD,rfl⟩ entry_list_sort ?_ (ksk_l1 _ _)));refine zrM (D:=l.objs.size) (as:=as) (rows:=rows) I3 (zr1 hr (λH s J=>J.env0.in1.in1) (L.up x1.kp) hs v ck (x1.kp.tab tb)) n h64 ?_ oD dN lD g λp s' pl ke=>⟨_,rfl,?_⟩;have hn:(B.map (·.1)).Nodup:=O;have e:(B.map (·.1))=(rows.map (·.1)).map Sum.inl:=by
  apply List.ext_getElem;simp[c];intro i g1 g2;have gi:i<B.length:=by simpa using g1
  let⟨p,t,p1,p2,p3⟩:=T i B[i].1 B[i].2 (by rw[Ι gi]);have gr:i<rows.length:=by lia
  rw[Ι gr]at p1;cases p1;simpa using p2
 rw[e]at hn;rw[List.nodup_iff_pairwise_ne,pairwise_map,pairwise_map]at hn;rw[List.nodup_iff_pairwise_ne];exact hn.imp λh z=>h (by rw[z]);refine Ω ⟨_,rfl,q _ s' ?_⟩;let⟨H2,e,J,x2,M,Y⟩:=ke.ex;have eo:(p.map λi=>(as.map Ξ.ref).getD i Ξ.none)=(p.map λi=>as.getD i 0).map Ξ.ref:=by
  rw[map_map];refine Τ λi hi=>?_;have:=pl.lt' i hi;have gi:i<as.length:=by lia
  simp[gi]
 rw[eo]at Y;have plen:p.length=rows.length:=by rw[pl.perm.length_eq];simp
 have tup2:∀(j:Nat)(t:Addr),(p.map λi=>as.getD i 0)[j]?=Φ t->∃q:Int×Int,(zaW rows)[j]?=Φ q/\H2 t=Φ (.tup [.int q.1,.int q.2]):=λj t N=>by
  rw[getElem?_map]at N;cases ej:p[j]? with
  |none=>rw[ej]at N;exact nS N
  |some i=>rw[ej]at N;cases N;have hi:=pl.lt' i (mem_of_getElem? ej);let⟨w,w1,w2⟩:=g i (as.getD i 0) (getD_mem 0 (by lia));refine⟨w,?_,x2.kp.tups _ _ w2⟩;rw[<-pl.tally,getElem?_map,ej];show Φ (rows.getD i (0,0))=Φ w;rw[ϊ,w1];rfl
 have dne:∀t o,H2 t=Φ o->t≠l.objs.size:=λt o h=>zah h M;refine⟨upd H2 l.objs.size (.lst ((p.map λi=>as.getD i 0).map V.ref)),p.map λi=>as.getD i 0,zbG J oD M ⟨by simp[plen,Χ];lia,_,e,?_,Y⟩,(x1.trans x2).trans (zfR M),dN0,zag,by simp[plen],λj t N=>?_⟩;generalize(p.map λi=>as.getD i 0)=ts;induction ts with|nil=>exact .nil|cons t ts ih=>exact .cons rfl ih
 let⟨w,w1,w2⟩:=tup2 j t N;exact⟨w,w1,by rw[zad (dne t _ w2)];exact w2⟩
end
structure M0(X:Cx)(o:Expr)(m:Str)(apos cpos:Pos):Prop where
 base:attributeBase o m X.env (eval o X.env)=eval o X.env
 few:((backTo cpos (starEach [] X.env)).all (λx=>!x.1)&&(backToKw cpos (keywordEach [] X.env)).all (λx=>x.1.isSome)&&decide (([]:List Expr).length+([]:List Keyword).length+(if([]:List Keyword).isEmpty then 0 else 1)<30))=Γ
 line:(apos.endLine==cpos.line)=Γ
noncomputable abbrev zdL(d:Addr):Obj:={cls:=.type "dict_items",data:=.fields #[.ref d]}
abbrev zj7(c:TE):TE:=λe H Q=>c e H λx b=>∃d a,x=.ref d/\b d=Φ (.dK (zbC a))/\∀v,b v=Ψ->Q (.ref v) (upd b v (.frz (zdL d) (.own 0)))
def zni(p:PE X o q)(m:M0 X o "items" apos cpos):PE X (.Call (.Attribute o "items" apos) [] [] cpos) (zj7 q):=by intro a s i H Q I h;refine wpAny_Call_method m.base m.few m.line PySem.F.plainAttrs_dict PySem.F.slot_dict_items PySem.F.type_dict_items (thn (p a s i H _ I h) λu c z=>?_);let⟨x,j,f,r,d,k,t,l,v⟩:=z;subst t;obtain rfl:u=Ξ.ref d:=r;let⟨w,y,A⟩:=zlH f (.inl ⟨_,.inl l⟩);let⟨_,_,B,_,hD⟩:=f.hok d _ l;refine⟨w,y,?_⟩;refine Calls.callWith_builtin rfl (PyProof.Rows.evalArgs_none ?_);refine PySem.call_meetsIn PySem.F.slot_dict_items hD.typeIs PySem.F.entry_dict_items (PySem.F.args_dict_items_1 _) (meets_dict_items (zaq X.prog X.w) d A) ⟨⟨B,hD⟩,?_⟩;have n:j c.heap.objs.size=Ψ:=f.hok.fresh (le_refl _);have C:Inv X a i j {c with heap:=c.heap.push (zdL d)}:=zaG (g':=c.gens) (t':=c.toks) (d':=c.drawn) (ch:=[]) f (λb g=>by cases g) (λb g=>by cases g) (λb o _ e=>Λ _ e) f.bare;have E:=zbG (o:=.frz (zdL d) (.own 0)) C (Own.fresh f (le_refl _)) n ⟨Ζ _ rfl,_,Ζ _ rfl⟩;exact⟨.ref c.heap.objs.size,_,E,rfl,v _ n⟩
abbrev zo5(Q:VK)(w:V)(b:Hp):Prop:=∃v d a,w=.ref v/\b v=Φ (.frz (zdL d) (.own 0))/\b d=Φ (.dK (zbC a))/\a.length<64/\TB b/\
 ∀(D:Addr)(c:Hp)(e:List Addr),Ext [] b [] c->b D=Ψ->c D=Φ (.lst (e.map V.ref))->e.length=a.length->
  (∀(j:Nat)(t:Addr),e[j]?=Φ t->∃r:Int×Int,(zaW a)[j]?=Φ r/\c t=Φ (.tup [.int r.1,.int r.2]))->Q (.ref D) c
abbrev zrQ(a:TE):TE:=λb H Q=>zj7 a b H (zo5 Q)
def zj5(n:Inv X g x b p)(s:Room 2 X.A.in1.in1)(hs:FnScope ["row"] ["row"] scope)(y:∀(A B ct u:Ξ),bindArgs (kla_fn "<lambda>" q a body scope [] A B ct) ⟨[u],[]⟩=pure [(("row":Str),u)])(C:chkE noTab zeE ["row"] scope body=Γ)(L:LamAt b f "<lambda>" q a body scope)(E:TB c)(h:Ext [] c [] b)(G:c v=Φ (.frz (zdL d) (.own 0)))(hd:c d=Φ (.dK (zbC rows)))(i:rows.length<64)(I:∀(D:Addr)(b:Hp)(ts:List Addr),Ext [] c [] b->c D=Ψ->b D=Φ (.lst (ts.map V.ref))->ts.length=rows.length->(∀(j:Nat)(t:Addr),ts[j]?=Φ t->∃r:Int×Int,(zaW rows)[j]?=Φ r/\b t=Φ (.tup [.int r.1,.int r.2]))->Q (.ref D) b):
  wpAny (model X.prog X.w) X.A (call (.builtin "sorted") [.ref v] [(Str.ofString "key",.ref f)]) (EP X g x Q) X.xe p:=by
 have k:=h.keep (by simp) G (by simp);have l:=h.keep (by simp) hd (by simp);have J:p.heap.IsItemsView v d:=⟨_,(n.hok v _ k).1,rfl,rfl⟩;refine zkb n s.hd s L hs y C (h.kp.tab E) l J i λD U m=>?_;let⟨w,ts,M,N,O,dl,m,T⟩:=m.ex;refine⟨.ref D,w,M,rfl,I D w ts (h.trans N) ?_ dl m T⟩;cases e:c D with|none=>rfl| some o=>exfalso;have:=(h.rest D o (by simp) e).1;rw[O]at this;rcases this with z|⟨_,_,z⟩<;>exact nS z
section
variable{X:Cx}{o:Expr}{p apos cpos kpos lpos pos:Pos}{td:TE}{c P:Addr}{params:Arguments}{body:Expr}{scope:Scope}
def zne(t:PE X o td)(m:M0 X o "items" apos cpos)(x:Gl X "sorted")(y:X.mg "sorted"=Ψ)(A:Room 2 X.A.in1.in1)(mk:Maker X c P)(b:defaultsOf params X.env=([],[]))(g:closureFor scope X.env=pure [])(hs:FnScope ["row"] ["row"] scope)
  (B:∀(C E ct u:Ξ),bindArgs (kla_fn "<lambda>" (X.env.qual ++ "<lambda>") params body scope [] C E ct) ⟨[u],[]⟩=pure [(("row":Str),u)]) (G:chkE noTab zeE ["row"] scope body=Γ) :
  PE X (.Call (.Name "sorted" p) [.Call (.Attribute o "items" apos) [] [] cpos] [⟨Φ "key",.Lambda params body scope lpos,kpos⟩] pos) (zrQ td):=by
 intro a s k H Q I h;refine ϖ (zdm I x y (by rfl:bootBuiltins "sorted"=Φ (.builtin "sorted")) ?_ (by decide) (by decide));have J:PA X [.Call (.Attribute o "items" apos) [] [] cpos] (zew (zj7 td) tNil):=zbz (zni t m) zeM;have M:PK X [⟨Φ "key",.Lambda params body scope lpos,kpos⟩] (zew (tLam (X.env.qual ++ "<lambda>") params body scope) tNil):=zkT (zoB mk b g) zox;refine PyProof.Rows.callWith_builtin_kwB rfl rfl (PyProof.Rows.evalArgs_kw2 rfl (thn (J pos a s k H (oneK (zo5 Q)) I h) λus N z=>?_));let⟨vs,l,O,T,U⟩:=z;let⟨w,rfl,v,d,n,Y,hv,hd,i,q,q1⟩:=zdG U;subst Y;let⟨u,rfl,ru⟩:=Vals.one T;obtain rfl:u=Ξ.ref v:=ru;refine thn (M pos a N k l (oneK λr e=>∃f,r=.ref f/\LamAt e f "<lambda>" (X.env.qual ++ "<lambda>") params body scope/\Ext [] l [] e) O ⟨q,λf e L S=>⟨f,rfl,L,S⟩⟩) λws s2 z=>?_;let⟨zs,e,I2,r2,k2⟩:=z;let⟨r,rfl,f,ef,L,st⟩:=zdG k2;subst ef;let⟨u2,rfl,j⟩:=Vals.one r2;obtain rfl:u2=Ξ.ref f:=j;exact zj5 I2 A hs B G L q st hv hd i q1
end
def zp8[DecidableEq a]{x:a×V}{r:List (a×V)}{k:a}(h:x.1≠k):putK (x::r) k v=x::putK r k v:=by unfold putK;have:decide (x.1=k)=Δ:=decide_eq_false h;simp![any_cons,this,Bool.false_or];split;rw[Ο,if_neg h];rfl
def zir:∀(rows:List (Int×Int))(w:Int),(rows.map (·.1)).Nodup->∃c:Int,(valV (zbC rows) (.inl w)).getD (.int 0)=.int c/\putK (zbC rows) (.inl w) (.int (c+1))=zbC (bump rows w)
 | [],w,_=>⟨0,rfl,rfl⟩| (k,c)::r,w,h=>by
  simp![Ο,nodup_cons]at h;by_cases e:k=w;subst e;refine⟨c,by simp[zbC,valV],?_⟩;have j:(zbC r).map (λa=>if a.1=(Sum.inl k:Key) then(a.1,V.int (c+1)) else a)=zbC r:=by rw[Τ (g:=id),List.map_id];intro a b;unfold zbC at b;let⟨q,l,rfl⟩:=mem_map.mp b;have:q.1≠k:=λz=>h.1 (z▸mem_map.mpr ⟨q,l,rfl⟩);simp[this]
  have f:zbC ((k,c)::r)=(.inl k,.int c)::zbC r:=rfl;unfold bump;rw[if_pos rfl,f];unfold putK;have:(((Sum.inl k:Key),V.int c)::zbC r).any (λa=>decide (a.1=Sum.inl k))=Γ:=by simp
  rw[if_pos this,Ο,j,if_pos rfl];rfl;let⟨d,m,n⟩:=zir r w h.2;have i:(Sum.inl k:Key)≠Sum.inl w:=λz=>e (Sum.inl.inj z);have f:zbC ((k,c)::r)=(.inl k,.int c)::zbC r:=rfl;refine⟨d,?_,?_⟩;rw[f,<-m];unfold valV;rw[List.find?_cons_of_neg (by simpa using e)];rw[f,zp8 i,n];have o:bump ((k,c)::r) w=(k,c)::bump r w:=by rw[bump,if_neg e]
  rw[o];rfl
section
variable{X:Cx}{p1 p2 p3 p4 p5 p6 p7 p8 p9 p10 p11 p12 p13 p14 p15 p16 p17 p18 p19 p20 p21 p22 p23 p24 p25 p26 p27 p28 p29:Pos}{k7 k15 k17:Nat}{params:Arguments}{body:Expr}{scope:Scope}
abbrev zoe(p1 p2 p3 p4 p5 p6 p7 p8 p9 p10 p11 p12 p13 p14 p15 p16 p17 p18 p19 p20 p21 p22 p23 p24 p25 p26 p27 p28 p29:Pos)(params:Arguments)(body:Expr)(scope:Scope):List Stmt:=
 [.Assign [.Name "counts" p1] (.Dict [] [] p2) p3,
  .For (.Name "word" p4) (.Name "words" p5) [.If (.Compare (.Name "word" p6) [.IsNot] [.Constant .none 0 p7] p8)
   [.Assign [.Subscript (.Name "counts" p9) (.Name "word" p10) p11] (.BinOp (.Call (.Attribute (.Name "counts" p12) "get" p13) [.Name "word" p14,.Constant (.int 0) 0 p15] [] p16) .Add (.Constant (.int 1) 0 p17) p18) p19] [] p20] [] p21,
  .Return (Φ (.Call (.Name "sorted" p22) [.Call (.Attribute (.Name "counts" p23) "items" p24) [] [] p25] [⟨Φ "key",.Lambda params body scope p26,p27⟩] p28)) p29]
abbrev zpf(K:Frag):TS:=tIfS (zpe (tOp (λx y H Q=>y=.non/\Q (.bl (!decide (x=.non))) H) (tVar 2) (tC .non))) (zsp (tVar 1) (tVar 2) (tOp (rI0 λi j=>.int (i+j)) (zof (tVar 1) (tVar 2) (tC (.int 0))) (tC (.int 1)))) zrR
def zm7(a:X.N=[("words":Str),"counts","word"])(j:X.env.scope.names.lookup ("words":Str)=Φ .local)(b:X.env.scope.names.lookup ("counts":Str)=Φ .local)(c:X.env.scope.names.lookup ("word":Str)=Φ .local)(k:X.calm=Γ)(l:X.xe=λ_ _=>False)(e:X.A.units+1<cLine)(m:M2 X (.Name "counts" p12) "get" p13 (.Name "word" p14) (.Constant (.int 0) 0 p15) p16)(hs:swapsWith (.BinOp (.Call (.Attribute (.Name "counts" p12) "get" p13) [.Name "word" p14,.Constant (.int 0) 0 p15] [] p16) .Add (.Constant (.int 1) 0 p17) p18) (Φ (.Subscript (.Name "counts" p9) (.Name "word" p10) p11)) p19.line X.env=pure Δ)(n:swapsWith (.Dict [] [] p2) (Φ (.Name "counts" p1)) p3.line X.env=pure Δ)(o:PE X (.Call (.Name "sorted" p22) [.Call (.Attribute (.Name "counts" p23) "items" p24) [] [] p25] [⟨Φ "key",.Lambda params body scope p26,p27⟩] p28) q):
  PSs X (zoe p1 p2 p3 p4 p5 p6 p7 p8 p9 p10 p11 p12 p13 p14 p15 p16 p17 p18 p19 p20 p21 p22 p23 p24 p25 p26 p27 p28 p29 params body scope)
   (tSeq (tAsg zj8 (zfP 1)) (tSeq (tFor (zqV X.K (tVar 0)) (zfP 2) (zpf X.K)) (tRet q))):=by
 have r:X.N[0]?=Φ ("words":Str):=by rw[a];rfl
 have f:X.N[1]?=Φ ("counts":Str):=by rw[a];rfl
 have g:X.N[2]?=Φ ("word":Str):=by rw[a];rfl
 have h:X.N.Nodup:=by rw[a];decide
 have s:∀{p:Pos},PE X (.Name "words" p) (tVar 0):=zbV r (.inl j);have i:∀{p:Pos},PE X (.Name "counts" p) (tVar 1):=zbV f (.inl b);have d:∀{p:Pos},PE X (.Name "word" p) (tVar 2):=zbV g (.inl c);have t:PassesOwn (model X.prog X.w) X.A X.env X.xe:=by rw[l];exact PassesOwn.never
 refine zaN (zkO h f (.inl b) ziu n (.inr b)) (zaN (zow t k (zqi s) (zhA h g (.inl c) (.inr c)) (zfv (zsD (zkM zqs d zoA (zoG _)) (zfv (zqd e i d (zsI zoE (ziv e i d zgu m) zgu) hs)) zkN))) (zfv (zkP o)))
def zfe{os:List (Option Int)}(h:os[i]?=Φ o):os.take (i+1)=os.take i++[o]:=by rw[List.take_add_one,h];rfl
def zhW(kvs)(os)(o):zaf kvs (os++[o])=match o with|some x=>bump (zaf kvs os) x|none=>zaf kvs os:=by unfold zaf;rw[List.foldl_append];cases o<;>rfl
def zkt{K}{os}(hD:l.rt=Q)(j:H a=Φ (.lst (os.map wV)))(hl:os.length<=sizeLine)(fin:∀(p:Addr)(b:L2.St),H p=Ψ->b[1]?=Φ (Φ (.ref p))->m b (upd H p (.dK (zbC (zaf [] os)))) Q):
  (tSeq (tAsg zj8 (zfP 1)) (tSeq (tFor (zqV K (tVar 0)) (zfP 2) (zpf K)) (tRet m))) l (start ["words","counts","word"] [.ref a]) H:=by
 intro p n;have d:a≠p:=zah j n;refine⟨.ref a,rfl,a,rfl,⟨_,SqL.of ((zad d).trans j)⟩,?_⟩;refine znO (xs:=os.map wV) (λi b H'=>(∃z,b=[Φ (.ref a),Φ (.ref p),z])/\H'=upd H p (.dK (zbC (zaf [] (os.take i))))) ⟨⟨Ψ,rfl⟩,rfl⟩ (λi b H' _ h=>?_) (λi x b H' f h=>?_) λb H' h=>?_;rw[h.2];exact SqL.of ((zad d).trans j);let⟨⟨z,rfl⟩,rfl⟩:=h;rw[getElem?_map]at f;cases e:os[i]? with
 |none=>rw[e]at f;exact nS f
 |some o=>
  rw[e]at f;cases f;have s:i<os.length:=(Α.mp e).1;show zpf K _ [Φ (.ref a),Φ (.ref p),Φ (wV o)] _;refine⟨wV o,rfl,rfl,_,rfl,?_⟩;rw[zfe e,zhW];cases o with
  |none=>exact⟨⟨_,rfl⟩,rfl⟩| some w=>
   let⟨c,q,r⟩:=zir (zaf [] (os.take i)) w (zaJ _ List.nodup_nil);have g:(zbC (zaf [] (os.take i))).length<sizeLine:=by have:=zeY (os.take i);rw[length_take]at this;unfold zbC;rw[length_map];lia
   refine⟨.ref p,rfl,p,rfl,.inl ⟨_,.inl zag⟩,.int w,rfl,_,DGet.k (k:=.inl w) zag,c,1,q,rfl,.ref p,rfl,.int w,rfl,p,_,rfl,DPut.k (k:=.inl w) zag g,⟨⟨_,rfl⟩,?_⟩⟩;rw[zpa,r]
 let⟨⟨z,rfl⟩,rfl⟩:=h;rw[length_map,List.take_length];show m _ _ l.rt;rw[hD];exact fin p _ n rfl
def zi5{K}{os}{ts:List Addr}(n:RH K ι H S)(u:H p=Ψ)(y:upd H p f v=Ψ)(x:Ext [] (upd (upd H p f) v m) [] g)(hD:upd (upd H p f) v m b=Ψ)(B:g b=Φ (.lst (ts.map V.ref)))(C:ts.length=(zaf [] os).length)(E:∀(j:Nat)(t:Addr),ts[j]?=Φ t->∃r:Int×Int,(zaW (zaf [] os))[j]?=Φ r/\g t=Φ (.tup [.int r.1,.int r.2])):
  Ext ι H (ι++[b]) g/\RH K (ι++[b]) g (S.push (.lst (talD os))):=by
 have G:Kp H (upd (upd H p f) v m):=(Kp.new u f).trans (Kp.new y m);have q:∀a o,H a=Φ o->upd (upd H p f) v m a=Φ o:=λa o e=>by have c:upd H p f a=Φ o:=(zad (zah e u)).trans e;exact(zad (zah c y)).trans c
 have k:H b=Ψ:=by cases e:H b with|none=>rfl|some o=>rw[q _ _ e]at hD;cases hD
 have s:b∉ι:=n.fresh k;have A:Ext ι H (ι++[b]) g:=⟨ϗ _ _,G.trans x.kp,λa o h e=>⟨(x.rest a o (by simp) (q a o e)).1,λz=>by rcases mem_append.mp z with z|z;exact h z;simp at z;exact zah e k z⟩⟩;refine⟨A,n.add A (λa I=>?_) s ⟨_,B,RVs.ofGet ?_ λi d w c l=>?_⟩⟩;let⟨o,e,_,_,J⟩:=n.live I;rw[e];exact x.keep (by simp) (q a o e) J;unfold talD;rw[length_map,length_map,C];unfold zaW;rw[List.length_mergeSort];rw[getElem?_map]at l;unfold talD at c;rw[getElem?_map]at c;cases z:ts[i]? with
 |none=>rw[z]at l;exact nS l
 |some t=>rw[z]at l;cases l;let⟨r,L,M⟩:=E i t z;rw[L]at c;cases c;exact⟨t,_,rfl,M,_,_,rfl,rfl,_,_,rfl,rfl,rfl⟩
end
def zfw(h:W (prm S .tally ds) Q):∃l a os,ds=[.ref l]/\S.get l=Φ (.lst a)/\zbe a=Φ os/\(zaf [] os).length<64/\os.length<=16777216/\Q (.ref S.len) (S.push (.lst (talD os))):=by unfold prm at h;split at h;rename_i l _;split at h;rename_i a e;split at h;rename_i os b;split at h;rename_i c;exact⟨l,a,os,rfl,e,b,c.1,c.2,h⟩;exact h.elim;exact h.elim;exact h.elim;rename_i e;cases e;exact h.elim
structure TallySt(st:Stmt):Prop where
 ex:∃(p1 p2 p3 p4 p5 p6 p7 p8 p9 p10 p11 p12 p13 p14 p15 p16 p17 p18 p19 p20 p21 p22 p23 p24 p25 p26 p27 p28 p29:Pos) (params:Arguments) (body:Expr) (scope:Scope),zal st=zoe p1 p2 p3 p4 p5 p6 p7 p8 p9 p10 p11 p12 p13 p14 p15 p16 p17 p18 p19 p20 p21 p22 p23 p24 p25 p26 p27 p28 p29 params body scope/\
  (p13.endLine==p16.line)=Γ/\(p24.endLine==p25.line)=Γ/\(∀env,defaultsOf params env=([],[]))/\(∀env,closureFor scope env=pure [])/\FnScope ["row"] ["row"] scope/\chkE noTab zeE ["row"] scope body=Γ/\
  ∀(q:Str)(pm cd ct u:Ξ),bindArgs (kla_fn "<lambda>" q params body scope [] pm cd ct) ⟨[u],[]⟩=pure [(("row":Str),u)]
 sc:FnScope ["words","counts","word"] ["words"] (zaa st)
 h0:(zaa st).names.lookup ("words":Str)=Φ .local
 h1:(zaa st).names.lookup ("counts":Str)=Φ .local
 h2:(zaa st).names.lookup ("word":Str)=Φ .local
 hg:(zaa st).names.lookup ("sorted":Str)=Φ .globalImplicit
def zmy{K}{st}{dV kV j pm ct}(lk:K.lookup f=Φ ⟨oc,od,.func (fnOf x d (zap st) (zal st) (zaa st) dV kV j pm an (.ref c) ct),osl⟩)(y:codeIn K (.ref c) d=Γ)(hC:codeHdIn K c z=Γ)(T:TallySt st)(bm:BM g base)(B:(z,d ++ ".<locals>." ++ "<lambda>")∈Mks.ts)(one:∀p∈Mks.ts,p.1=z->p.2=d ++ ".<locals>." ++ "<lambda>")(hm:g "sorted"=Ψ)(hP:Pg[fi]?=Φ F)(hq:F.prim=Φ .tally)(hp:F.np=1)(hn:3<=n):
  FnOk P w K g base CX0 (n+2) f (fnOf x d (zap st) (zal st) (zaa st) dV kV j pm an (.ref c) ct) ["words"] (spF K (callF Pg (n+1)) fi):=by
 let⟨p1,p2,p3,p4,p5,p6,p7,p8,p9,p10,p11,p12,p13,p14,p15,p16,p17,p18,p19,p20,p21,C,G,I,J,L,M,N,p29,o,body,O,eb,l1,l2,k,U,hs,ck,hb⟩:=T.ex;refine zq2 lk y T.sc (λvs H Q E h=>zbJ (ps:=["words"]) hP hp h) λA e s H vs Q E hr h=>?_;let⟨ι,S0,ds,r,t,u⟩:=h;simp![callF,hP,hq,hn,if_true]at u;split at u;let⟨l,ws,os,rfl,hg,ho,Y,cl,q⟩:=zfw u;have room:Room 2 ((cxOf CX0 P w K g base ["words","counts","word"] d (zaa st) f (.ref c) A e s H E).nox).A.in1.in1:=((hr.mono (Nat.succ_le_succ hn)).in1).in1;have hu:((cxOf CX0 P w K g base ["words","counts","word"] d (zaa st) f (.ref c) A e s H E).nox).A.units+1<cLine:=by have:=hr.un;show(A.deeper _).units+1<_;lia
 have mk:Maker ((cxOf CX0 P w K g base ["words","counts","word"] d (zaa st) f (.ref c) A e s H E).nox) c z:=⟨bm,rfl,hC,B,one⟩;have hpe:=zne (X:=(cxOf CX0 P w K g base ["words","counts","word"] d (zaa st) f (.ref c) A e s H E).nox) (p:=C) (lpos:=L) (kpos:=M) (pos:=N) (zbV (pos:=G) (i:=1) (x:="counts") rfl (.inl T.h1)) (apos:=I) (cpos:=J) ⟨rfl,rfl,l2⟩ T.hg hm room mk (k _) (U _) hs (hb _) ck;have ht:=zm7 (X:=(cxOf CX0 P w K g base ["words","counts","word"] d (zaa st) f (.ref c) A e s H E).nox) (p1:=p1) (p2:=p2) (p3:=p3) (p4:=p4) (p5:=p5) (p6:=p6) (p7:=p7) (p8:=p8) (p9:=p9) (p10:=p10) (p11:=p11) (p12:=p12) (p13:=p13) (p14:=p14) (p15:=p15) (p16:=p16) (p17:=p17) (p18:=p18) (p19:=p19) (p20:=p20) (p21:=p21) (p29:=p29)
  rfl T.h0 T.h1 T.h2 rfl rfl hu ⟨rfl,rfl,l1,rfl⟩ rfl rfl hpe
 refine⟨_,by rw[eb];exact ht.nox,?_⟩;let⟨v,r0,rfl,rv,rn⟩:=r;cases(show r0=[] from rn);let⟨a,ia,rfl⟩:=rv;let⟨b,ib,xs,hb2,rr⟩:=t.obj l _ hg;rw[ia]at ib;cases ib;rw[zdJ ho]at rr;cases zdE rr;refine zkt rfl hb2 (by rw[Χ];exact cl) λp σ m hσ=>?_;refine⟨.ref p,hσ,p,_,rfl,zag,λv hv=>⟨v,p,_,rfl,zag,?_,Y,?_,λD0 H2 ts x hD h2 hl ht=>?_⟩⟩;rw[zad (zah zag hv)];exact zag;exact(Kp.new hv _).tab ((Kp.new m _).tab t.tab);let⟨ex,rh⟩:=zi5 t m hv x hD h2 hl ht;exact q _ _ (ι++[D0]) ex ⟨D0,t.last D0,rfl⟩ rh;exact u.elim
abbrev zmU:CS:=.setIx (.loc 1) (.sl (.loc 2) 3) (.ix (.loc 2) (.con (.int 3))) .nil
abbrev zgg:CS:=.asg 1 .dnew3 (.forS [2] (.val (.loc 0)) zmU .nil)
abbrev dW(kvs:List (K3×Option Int)):List (K3×D):=kvs.map λa=>(a.1,wD a.2)
def ztA(kvs)(k)(o):zhx (dW kvs) k (wD o)=dW (putW kvs k o):=by
 unfold zhx putW dW;have e:(kvs.map λa=>(a.1,wD a.2)).map (·.1)=kvs.map (·.1):=by rw[map_map];rfl
 rw[e];split
 . rw[map_map,map_map];refine Τ λx _=>?_;show(if x.1=k then(x.1,wD o) else(x.1,wD x.2))=((if x.1=k then(x.1,o) else x).1,wD (if x.1=k then(x.1,o) else x).2);split<;>rfl
 simp
def zm2(kvs)(k)(o):(putW kvs k o).length<=kvs.length+1:=by unfold putW;split<;>simp
def zgf(l):∀(ls kvs:List (K3×Option Int)),zaA kvs (ls++[l])=putW (zaA kvs ls) l.1 l.2
 | [],kvs=>rfl|m::ls,kvs=>by rw[List.cons_append,zaA,zaA,zgf l ls]
def zij:∀(ls kvs:List (K3×Option Int)),(zaA kvs ls).length<=kvs.length+ls.length
 | [],kvs=>le_refl _| m::ls,kvs=>by rw[zaA];have:=zij ls (putW kvs m.1 m.2);have:=zm2 kvs m.1 m.2;simp;lia
def znv(h:lie4 d=Φ l):∃ds w,d=.tup [.int l.1.1,.tup ds,.int l.1.2.2,w]/\zaD ds=Φ l.1.2.1/\w=wD l.2:=by
 cases d with|tup t=>_|_=>exact nS h
 rcases t with _|⟨x,_|⟨y,_|⟨z,_|⟨w,_|⟨v,t⟩⟩⟩⟩⟩
 any_goals first|exact nS h|(cases x<;>first|exact nS h|(cases y<;>first|exact nS h|(cases z<;>exact nS h)))
 cases x with|int a=>_|_=>exact nS h
 cases y with|tup ds=>_|_=>exact nS h
 cases z with|int b=>_|_=>exact nS h
 unfold lie4 at h;dsimp only at h;cases e:zaD ds with
 |none=>rw[e]at h;exact nS h
 |some p=>
  rw[e,bind_some]at h;cases e2:zf5 w with
  |none=>rw[e2]at h;exact nS h
  |some o=>rw[e2]at h;cases h;refine⟨ds,w,rfl,e,?_⟩;cases w<;>first|(cases e2;rfl)|exact nS e2
def zgy{b c:Type}{f}:∀{xs:List b}{ys:List c},xs.mapM f=Φ ys->ys.length=xs.length/\∀(i:Nat)(x:b),xs[i]?=Φ x->∃y,ys[i]?=Φ y/\f x=Φ y
 | [],ys,h=>by
  have h:ys=[]:=by simpa using h.symm
  subst h;exact⟨rfl,λi x e=>by simp at e⟩
 |a::xs,ys,h=>by let⟨y,r,d,g,rfl⟩:=zaC h;let⟨e1,e2⟩:=zgy g;refine⟨by simp[e1],λi x e=>?_⟩;cases i with|zero=>cases e;exact⟨y,rfl,d⟩|succ i=>exact e2 i x (by simpa using e)
def zm1(S:R.St)(lk)(o u)(h:lk.contains S.len=Δ):(St.mk S.frz (S.new++[o]) lk).put S.len u=Φ ⟨S.frz,S.new++[u],lk⟩:=by
 unfold St.put;have a:¬S.len<S.frz.length:=by unfold St.len;lia
 have b:S.len-S.frz.length=S.new.length:=by unfold St.len;lia
 simp![a,h,b];congr 2;simp
def ziL(S:R.St)(lk)(o):(St.mk S.frz (S.new++[o]) lk).get S.len=Φ o:=by
 unfold St.get;have a:¬S.len<S.frz.length:=by unfold St.len;lia
 have b:S.len-S.frz.length=S.new.length:=by unfold St.len;lia
 simp![a,b];simp
def zd5{S:R.St}(e:S.get l=Φ u):(S.push o).get l=Φ u:=by unfold St.get St.push at *;by_cases c:l<S.frz.length;simp![c]at e⊢;exact e;simp![c]at e⊢;rw[getElem?_append_left (Α.mp e).1];exact e
def znR{S:R.St}(hl:lie4 d=Φ l)(b:lk.contains S.len=Δ)(c:kvs.length<16777216):
  exS cf zmU [Φ x,Φ (.ref S.len),Φ d,Ψ] ⟨S.frz,S.new++[.d3 (dW kvs)],lk⟩=.ok (.nx [Φ x,Φ (.ref S.len),Φ d,Ψ]) ⟨S.frz,S.new++[.d3 (dW (putW kvs l.1 l.2))],lk⟩:=by
 let⟨a,w,rfl,e,rfl⟩:=znv hl;refine W.eq (wS_W _ ?_);conv=>whnf
 refine wOpt_of (show R.atI [D.int l.1.1,.tup a,.int l.1.2.2,wD l.2] 3=Φ (wD l.2) from rfl) ?_;conv=>whnf
 refine wNeed_of (ϕ 3) ?_;conv=>whnf
 have f:zfV ⟨S.frz,S.new++[.d3 (dW kvs)],lk⟩ (.ref S.len) (.tup [.int l.1.1,.tup a,.int l.1.2.2]) (wD l.2)=Φ ⟨S.frz,S.new++[.d3 (dW (putW kvs l.1 l.2))],lk⟩:=by
  unfold zfV;dsimp only;rw[ziL];dsimp only;have:key3 (.tup [.int l.1.1,.tup a,.int l.1.2.2])=Φ l.1:=by unfold key3;dsimp only;rw[e];rfl
  rw[this,bind_some,if_pos (by unfold dW;simpa using c),ztA];exact zm1 S lk _ _ b
 exact wOpt_of f ⟨rfl,rfl⟩
def zq3(a:zbg S x=Φ ds)(s:ds.mapM lie4=Φ ls)(hl:ls.length<=1000)(t:S.lk=[])(q:∀n,x=.ref n->n<S.len):
  W (exS cf zgg [Φ x,Ψ,Ψ,Ψ] S) λf T=>∃z,f=.nx [Φ x,Φ (.ref S.len),z,Ψ]/\T=S.push (.d3 (dW (zaA [] ls))):=by
 let⟨e1,e2⟩:=zgy s;have c:zbg (S.push (.d3 [])) x=Φ ds:=by
  unfold zbg at a⊢;cases x with
  |ref n=>
   dsimp only at a⊢;cases h:S.get n with
   |none=>rw[h]at a;exact nS a
   |some o=>rw[h]at a;rw[zd5 h];exact a
  |_=>exact a
 have j:(lkOf (S.push (.d3 [])) x).contains S.len=Δ:=by cases x with|ref n=>simp[lkOf];lia|_=>rfl
 show W (Out.bind (.ok _ _) _) _;rw[zat];show W (Out.bind _ _) _;have u:evL cf (.val (.loc 0)) ([Φ x,Φ (.ref S.len),Ψ,Ψ]:Ev) (S.push (.d3 []))=.ok (ds,lkOf (S.push (.d3 [])) x) (S.push (.d3 [])):=by show Out.bind (lift (S.push (.d3 [])) (zbg (S.push (.d3 [])) x)) _=_;rw[c];rfl
 rw[show(([Φ x,Ψ,Ψ,Ψ]:Ev).set 1 (Φ (.ref S.len)))=[Φ x,Φ (.ref S.len),Ψ,Ψ] from rfl,u,zat];unfold zbh;rw[zab,zab];have key:=zaw (g:=[2]) (b:=exS cf zmU) (λi k T=>(∃z,k=[Φ x,Φ (.ref S.len),z,Ψ])/\T=⟨S.frz,S.new++[.d3 (dW (zaA [] (ls.take i)))],lkOf (S.push (.d3 [])) x++S.lk⟩) (λ_ _=>False) ds 0 [Φ x,Φ (.ref S.len),Ψ,Ψ] ⟨S.frz,S.new++[.d3 []],lkOf (S.push (.d3 [])) x++S.lk⟩ ⟨⟨Ψ,rfl⟩,rfl⟩ ?_;refine key.mono ?_;rintro f T r;cases f with|rt d=>exact r.elim| nx k=>let⟨⟨z,rfl⟩,rfl⟩:=r;refine⟨z,rfl,?_⟩;rw[zero_add,<-e1,List.take_length];rfl
 rintro i d k T v ⟨⟨z,rfl⟩,rfl⟩;rw[zero_add]at *;let⟨l,m,p⟩:=e2 i d v;refine⟨[Φ x,Φ (.ref S.len),Φ d,Ψ],rfl,?_⟩;have e:=zij (ls.take i) [];have w:(ls.take i).length<=1000:=by rw[length_take];lia
 rw[znR p (by rw[t,ϡ];exact j) (by simp at e;lia)];refine⟨⟨_,rfl⟩,?_⟩;have:ls.take (i+1)=ls.take i++[l]:=by rw[List.take_succ,m];rfl
 rw[this,zgf]
def zgS(l2)(env):∀l1:List Stmt,execs (l1++l2) env=(execs l1 env>>=λf=>match f with|.next=>execs l2 env|f=>pure f)
 | []=>by show execs l2 env=((pure Flow.next:Sem Flow)>>=_);rw[pure_bind]| s::l=>by rw[List.cons_append,execs_cons,execs_cons,bind_assoc];congr 1;funext f;cases f with|next=>exact zgS l2 env l|_=>rw[pure_bind]
def zdI(h:wpAny M A (execs l1 env) (λf s'=>match f with|.next=>wpAny M A (execs l2 env) Q E s'|f=>Q f s') E s):wpAny M A (execs (l1++l2) env) Q E s:=by
 rw[zgS];refine Θ (ό h (λf s' a=>?_) λ_ _ x=>x);cases f<;>first|exact a|exact Ω a
section
variable{K:Frag}{ι ι':List Addr}{H H':Hp}{S T:R.St}
def RH.cutG(k:RH K ι H S)(x:Ext ι H ι' H')(p:RH K ι' H' T)(t:∀l o,S.get l=Φ o->T.get l=Φ o):RH K ι H' S:=by refine⟨k.len,k.nd,λl o e=>?_,p.tab⟩;let⟨a,q,i⟩:=k.obj l o e;let⟨b,r,j⟩:=p.obj l o (t l o e);rw[zbO x.pre q]at r;cases r;refine⟨a,q,?_⟩;cases o with| lst w=>let⟨y,_,d⟩:=i;let⟨f,g,h⟩:=j;exact⟨f,g,h.restrict x.pre d.flats⟩| dic m=>let⟨_,s,_,d⟩:=i;let⟨n,f,g,h⟩:=j;exact⟨n,f,g,h.restrict x.pre d.flats⟩| ins c z=>let⟨_,_,s,_,_,d⟩:=i;let⟨C,u,f,v,g,h⟩:=j;exact⟨C,u,f,v,g,h.restrict x.pre d.flats⟩| d3 m=>let⟨_,s,_,d⟩:=i;let⟨n,f,g,h⟩:=j;exact⟨n,f,g,h.restrict x.pre d.flats⟩
def RH.offK(h:RH K ι H S)(k:Kp H H')(e:∀a∈ι,H' a=H a):RH K ι H' S:=⟨h.len,h.nd,λl o g=>let ⟨a,b,c⟩:=h.obj l o g;⟨a,b,c.up (ϛ _) k (e a (mem_of_getElem? b))⟩,k.tab h.tab⟩
def zrD:∀{kvs:List (K3×Option Int)}{a:List (K3×Addr×V)},R3s K ι H (dW kvs) a->W3s H kvs a
 | [],_,r=>r| (k,o)::kvs,a,r=>by
  let⟨⟨_,c,v⟩,w,rfl,⟨rfl,b⟩,d,e⟩:=r;refine⟨c,w,?_,b,zrD e⟩;have:v=vW o:=by cases o<;>exact d
  rw[this]
end
def zmT(f:Un A [] H c h i)(hok:HOk P w c i)(r:c g=Ψ)(s:h.objs.size<=g)(j:i.get? g=Φ m)(hd:c d=Φ (.ext k))(t:i.get? d=Φ p):
  Un A [] H (upd (upd c g (.frz m (.own 0))) d (.frz p (.ext k))) h i/\HOk P w (upd (upd c g (.frz m (.own 0))) d (.frz p (.ext k))) i/\
  ∀b o,c b=Φ o->b≠d->upd (upd c g (.frz m (.own 0))) d (.frz p (.ext k)) b=Φ o:=by
 have a:∀b o,c b=Φ o->b≠d->upd (upd c g (.frz m (.own 0))) d (.frz p (.ext k)) b=Φ o:=λb o e n=>by rw[zad n,zad (zah e r)];exact e
 refine⟨⟨f.keep,f.slot,λb o q n h=>?_,f.there,λb v q=>?_,λb o u q=>?_,λb B q=>?_⟩,λb o q=>?_,a⟩;have e:=f.free b o q n h;rw[zad (λz=>by rw[z,hd]at e;cases e),zad (ne_of_lt (lt_of_lt_of_le (Η q) s))];exact e;have e:=f.tups b v q;exact a b _ e λz=>by rw[z,hd]at e;cases e
 have e:=f.frzs b o u q;exact a b _ e λz=>by rw[z,hd]at e;cases e
 let⟨l,e⟩:=f.tbls b B q;exact⟨l,a b _ e λz=>by rw[z,hd]at e;cases e⟩;by_cases z:b=d;subst z;rw[zag]at q;cases q;let⟨C,E,G⟩:=(show ObjOk P w c i b (.ext k) from hok b _ hd);exact⟨t,C,E,G⟩;rw[zad z]at q;by_cases y:b=g;subst y;rw[zag]at q;cases q;exact⟨j,_,j⟩;rw[zad y]at q;exact(hok b o q).stay (λ_ _ _ q=>q) (λx q=>a x _ q λz=>by rw[z,hd]at q;cases q) λx v q=>a x _ q λz=>by rw[z,hd]at q;cases q
def zgs(h:W (prm S .road ds) Q):∃x a ls,ds=[x]/\zbg S x=Φ a/\a.mapM lie4=Φ ls/\ls.length<=1000/\S.lk=[]/\Q (.clo (zaA [] ls)) S:=by
 unfold prm at h;split at h;rename_i e;cases e;rename_i x _;cases e:zbg S x with|none=>rw[e]at h;exact h.elim| some a=>rw[e,bind_some]at h;cases e2:a.mapM lie4 with|none=>rw[e2]at h;exact h.elim| some ls=>rw[e2]at h;dsimp only at h;split at h;rename_i c;exact⟨x,a,ls,rfl,e,e2,c.1,c.2,h⟩;exact h.elim
 exact h.elim
noncomputable abbrev roadN:List Str:=["lies","last","lie","word_on_arrival"]
structure RoadSt(st:Stmt):Prop where
 ex:∃(s1 s2 ist:Stmt) (p8 p9:Pos),zal st=[s1,s2,ist,.Return (Φ (.Name arrN p8)) p9]/\Mks.rs=Φ ist/\chkS noTab zgg roadN (zaa st) [s1,s2]=Γ
 sc:FnScope roadN ["lies"] (zaa st)
 hl:(zaa st).names.lookup ("last":Str)=Φ .cell
 hw:(zaa st).names.lookup arrN=Φ .local
def zpX{K}{st}{dV kV doc pm ct}(lk:K.lookup f=Φ ⟨oc,od,.func (fnOf x "road" (zap st) (zal st) (zaa st) dV kV doc pm an (.ref c) ct),osl⟩)(hcd:codeIn K (.ref c) "road"=Γ)(hC:codeHdIn K c Tb=Γ)(T:RoadSt st)(bm:BM mg base)(mem:(Tb,arrQ)∈Mks.ts)(one:∀p∈Mks.ts,p.1=Tb->p.2=arrQ)(hP:Pg[fi]?=Φ F)(hq:F.prim=Φ .road)(hp:F.np=1)(hn:3<=n):
  FnOk P w K mg base CX0 (n+2) f (fnOf x "road" (zap st) (zal st) (zaa st) dV kV doc pm an (.ref c) ct) ["lies"] (spF K (callF Pg (n+1)) fi):=by
 refine⟨λvs H Q E h=>zbJ (ps:=["lies"]) hP hp h,λA g s H args us vs Q E hr e0 hb r hsp=>?_⟩;have hlen:vs.length=(["lies"]:List Str).length:=zbJ (ps:=["lies"]) hP hp hsp;have KX:K.In s.heap:=e0.mod.kin.keeps λb o e=>(e0.bs b o e).1;have lim:s.heap.NoLimit:=e0.mod.nolimit.keeps λb o e=>(e0.bs b o e).1;have hkind:∀y∈(["lies"]:List Str).zip us,(zaa st).names.lookup y.1=Φ .local\/((zaa st).names.lookup y.1=Φ .cell/\((cellsFrom (s.heap.objs.size+1) (zaa st).names []).lookup y.1).isSome=Γ):=λ⟨n,v⟩ hy=>by rcases T.sc.par n (of_mem_zip hy).1 with q|q;exact .inl q;exact .inr ⟨q,cellsFrom_some _ _ _ (.inl q)⟩
 refine codeAny_call_function hr.depth (KX _ _ lk) rfl T.sc.co T.sc.gen rfl (PySem.W.codeRec_of KX hcd) (hb _ _ _ _ ?_);refine wpAny_newFunctionEnv_cells T.sc.kind hkind λenv he s1 xx=>?_;subst he;refine⟨lim.keeps xx.toInCall.keep,codeAny_func ?_⟩;have I:Inv (cxOf CX0 P w K mg base roadN "road" (zaa st) f (.ref c) A g s H E) [] (start roadN vs) H s1:=zec T.sc hr.hd e0 hlen r xx;have hr':=hr.deeper (envOfC "road" (zaa st) s.heap.objs.size f (.ref c));generalize j:cxOf CX0 P w K mg base roadN "road" (zaa st) f (.ref c) A g s H E=X at I;have eA:X.A=A.deeper (envOfC "road" (zaa st) s.heap.objs.size f (.ref c)):=by rw[<-j];rfl
 have eE:X.env=envOfC "road" (zaa st) s.heap.objs.size f (.ref c):=by rw[<-j];rfl
 let⟨ι,S0,ds,rr,hh,hw⟩:=hsp;simp![callF,hP,hq,hn,if_true]at hw;split at hw;let⟨x0,dd,ls,rfl,h1,h2,h3,h4,q⟩:=zgs hw;let⟨v,r0,rfl,rv,rn⟩:=rr;cases(show r0=[] from rn);let⟨st1,st2,ist,p8,p9,eb,hrs,ck⟩:=T.ex;have T3:CloSt ist:=by have:=Mks.ro;rw[hrs]at this;exact this
 have G:Gd noTab noCF n roadN (zaa st) X.nox:=by rw[<-j];exact⟨rfl,T.sc.nd,λx e=>e,λx e=>e,λx e=>.inl e,λx e=>e,.inl λ_=>rfl,rfl,rfl,hr',zix,λz=>absurd (show roadN=noTab.lam from z) (by decide)⟩
 have eK:X.K=K:=by rw[<-j];rfl
 have hx:∀m,x0=.ref m->m<S0.len:=λm e=>by subst e;let⟨a,ha,_⟩:=rv;rw[<-hh.len];exact(Α.mp ha).1
 have w1:=zaU zgg G ck [] s1 (start roadN [v]) H {nx:=λk H'=>∃z ι',RS K ι' H' [Φ x0,Φ (.ref S0.len),z,Ψ] k/\RH K ι' H' (S0.push (.d3 (dW (zaA [] ls))))/\Ext ι H ι' H',rt:=λ_ _=>False} (I.wish _) ?_
 . show wpAny (model P w) (A.deeper (envOfC "road" (zaa st) s.heap.objs.size f (.ref c))) (execs (zal st) (envOfC "road" (zaa st) s.heap.objs.size f (.ref c))) _ _ s1;rw[eb,<-eA,<-eE];have eP:X.prog=P:=by rw[<-j];rfl
   have ew:X.w=w:=by rw[<-j];rfl
   refine zdI (l1:=[st1,st2]) (l2:=[ist,.Return (Φ (.Name arrN p8)) p9]) (ό (by rw[<-eP,<-ew];exact w1) (λfl s2 hs=>?_) λ_ _ z=>False.elim z);cases fl with|ret u=>let⟨_,_,_,_,_,z⟩:=hs;exact False.elim z|brk=>let⟨_,_,_,z⟩:=hs;exact False.elim z|cont=>let⟨_,_,_,z⟩:=hs;exact False.elim z|next=>
   let⟨k,H',J',z,ι',rs,rh,x'⟩:=hs;have J:Inv X [] k H' s2:=J'.unwish;let⟨v1,e1,d,hd,rfl⟩:=rs.2 1 (.ref S0.len) rfl;let⟨d',hd',nd,ws,M,r3⟩:=rh.obj S0.len _ (ziL S0 S0.lk _);rw[hd]at hd';cases hd';have w3:=zrD r3;have hlast:X.env.kindOf ("last":Str)=Φ .cell:=by rw[eE];exact T.hl
   have cellAt:∀{σ2:L2.St}{H2:Hp}{s':Β},Inv X [] σ2 H2 s'->σ2[1]?=Φ (Φ (.ref d))->∃B Y,X.env.cells.lookup ("last":Str)=Φ B/\s'.heap.get? B=Φ Y/\Y.data=.cell (Φ (.ref d)):=λ{σ2 H2 s'} I2 e=>by let⟨m,_,hl⟩:=I2.loc;let⟨u,ru,lk⟩:=hl 1 "last" (.ref d) (by rw[<-j];rfl) e (by rw[<-j];exact .inr (.inl T.hl));cases(show u=Ξ.ref d from ru);rcases lk with⟨a,_⟩|⟨_,B,h1,Y,h2,h3⟩;rw[hlast]at a;cases a;exact⟨B,Y,h1,h2,h3⟩
   let⟨B,_,hcc,_,_⟩:=cellAt J e1;have hqn:qualnameIn X.env arrN arrN=arrQ:=by unfold qualnameIn;rw[eE,show(envOfC "road" (zaa st) s.heap.objs.size f (.ref c)).kindOf arrN=Φ .local from T.hw];rfl
   let⟨pos,et⟩:=T3.text;have eG:X.mg=mg:=by rw[<-j];rfl
   have eB:X.base=base:=by rw[<-j];rfl
   have tb:=rh.tab _ mem;refine wpAny_execs_cons ?_;rw[et];refine PySem.W.nestDef_K T3.d0 T3.k0 (T3.an _) ?_;rw[hqn,<-eP,<-ew];refine znU J (by rw[eG,eB];exact bm) (by rw[eE];rfl) (by rw[eK];exact hC) tb (T3.clo _ B hcc) λf' H3 s3 J3 D3 tb3 S3=>?_;refine zfh (i:=3) (x:=arrN) (v:=.ref f') J3 (by rw[<-j];exact T.sc.nd) (by rw[<-j];rfl) (by rw[eE];exact .inl T.hw) rfl (λs4 J4=>?_) (.inr (by rw[eE];exact T.hw));have l3:3<k.length:=by rw[J.len,<-j];show 3<roadN.length;decide
   have pv:=(zbV (X:=X.nox) (pos:=p8) (i:=3) (x:=arrN) (by rw[<-j];rfl) (show Vis X.env.scope arrN by rw[eE];exact .inl T.hw):PE X.nox (.Name arrN p8) (tVar 3)) [] s4 (k.set 3 (Φ (.ref f'))) H3 (λv H2=>v=.ref f'/\H2=H3) (J4.wish _) ⟨.ref f',getElem?_set_self l3,rfl,rfl⟩;refine wpAny_execs_cons (wpAny_Return_some (ό pv (λu s5 hs=>?_) λe s' z=>?_));let⟨v',H5,J5',ru,rfl,rfl⟩:=hs;have J5:Inv X [] (k.set 3 (Φ (.ref f'))) H5 s5:=J5'.unwish;cases(show u=Ξ.ref f' from ru);show L2.CE g X.prog X.w H s Q (.ref f') s5;rw[eP,ew];let⟨cc2,Y,hcc2,hou,hoc⟩:=cellAt J5 (by rw[getElem?_set_ne (by decide)];exact e1);rw[hcc]at hcc2;cases hcc2;let⟨ps,O,_⟩:=id tb;let⟨ps3,hTb3,_⟩:=id tb3;have dTb:d≠Tb:=λz=>by rw[z,O]at M;cases M
   have hd3:H5 d=Φ (.ext (TriO d ws)):=S3.rest d _ dTb M;let⟨_,⟨U,hod⟩,_⟩:=(show ObjOk X.prog X.w H5 s5.heap d (.ext _) from J5.hok d _ hd3);have hcn:H5 B=Ψ:=J5.freeC _ _ hcc;have hcs:s.heap.objs.size<=B:=by have:=J5.ok.cab "last" B (by rw[<-j];rfl) hcc;rw[<-j]at this;exact this
   have un:Un (frs g) [] H H5 s.heap s5.heap:=by have:=J5.base;rw[<-j]at this;exact this
   have hok:HOk P w H5 s5.heap:=by have:=J5.hok;rw[eP,ew]at this;exact this
   have ccd:B≠d:=λz=>by rw[z,hd3]at hcn;cases hcn
   let⟨un6,hok6,L⟩:=zmT un hok hcn hcs hou hd3 hod;have at_d:upd (upd H5 B (.frz Y (.own 0))) d (.frz U (.ext (TriO d ws))) d=Φ (.frz U (.ext (TriO d ws))):=zag;have at_c:upd (upd H5 B (.frz Y (.own 0))) d (.frz U (.ext (TriO d ws))) B=Φ (.frz Y (.own 0)):=by rw[zad ccd];exact zag
   generalize upd (upd H5 B (.frz Y (.own 0))) d (.frz U (.ext (TriO d ws)))=H6 at un6 hok6 L at_d at_c;have N:∀b o,H' b=Φ o->b≠Tb->b≠d->H6 b=Φ o:=λb o e n1 n2=>L b o (S3.rest b o n1 e) n2;have frz6:∀b o u,H' b=Φ (.frz o u)->H6 b=Φ (.frz o u):=λb o u e=>N b _ e (λz=>by rw[z,O]at e;cases e) λz=>by rw[z,M]at e;cases e
   have tup6:∀b xs,H' b=Φ (.tup xs)->H6 b=Φ (.tup xs):=λb xs e=>N b _ e (λz=>by rw[z,O]at e;cases e) λz=>by rw[z,M]at e;cases e
   have C:∀b o u,H5 b=Φ (.frz o u)->H6 b=Φ (.frz o u):=λb o u e=>L b _ e λz=>by rw[z,hd3]at e;cases e
   have hTb6:H6 Tb=Φ (.tbl ps3):=L Tb _ hTb3 (Ne.symm dTb);have tb6:TB H6:=λp hp=>by by_cases z:p.1=Tb;rw[one p hp z,z];exact tb3.up (hTb6.trans hTb3.symm) C;let⟨qs,hq,_⟩:=id (rh.tab p hp);exact(rh.tab p hp).up ((N p.1 _ hq z λy=>by rw[y,M]at hq;cases hq).trans hq.symm) frz6
   have dm:d∈ι':=mem_of_getElem? hd;have x6:Ext ι H ι H6:=by refine⟨ϛ _,⟨un6.tups,un6.frzs,λ_=>tb6⟩,λa o ha e=>⟨?_,ha⟩⟩;let⟨e2,hm⟩:=x'.rest a o ha e;have nd:a≠d:=λz=>hm (z▸dm);by_cases z:a=Tb;refine .inr ⟨?_,ps3,z▸hTb6⟩;rcases e2 with e2|⟨t,_⟩;rw[z,O]at e2;cases e2;exact⟨ps,rfl⟩;exact t;rcases e2 with e2|⟨t,qs,e2⟩;exact .inl (N a o e2 z nd);exact .inr ⟨t,qs,N a _ e2 z nd⟩
   have dn:d∉ι:=zkQ x'.pre rh.nd hd (le_of_eq hh.len);have rh6:RH K ι H6 S0:=(hh.cutG x' rh λl o e=>zd5 e).offK ⟨tup6,frz6,λ_=>tb6⟩ λa ha=>by let⟨o,ho,_,_,nt⟩:=(hh.cutG x' rh λl o e=>zd5 e).live ha;rw[ho];exact N a o ho (λz=>by rw[z,O]at ho;cases ho;exact nt _ rfl) λz=>dn (z▸ha)
   refine⟨.ref f',H6,J5.os.trans (by rw[<-j];rfl),J5.bare,un6,hok6,rfl,q _ H6 ι x6 ?_ rh6⟩;let⟨pm',ct',doc',c2,oc2,vs2,t2,g1,g2,g3,g4⟩:=D3;exact⟨f',rfl,B,d,Y,U,ws,⟨ist,pm',ct',doc',c2,oc2,vs2,t2,hrs,C _ _ _ g1,C _ _ _ g2,g3,g4⟩,at_c,hoc,at_d,w3.up tup6⟩;exact False.elim z
 show tS X.nox.K noCF zgg _ _ _;rw[show X.nox.K=K from eK];refine⟨[Φ x0,Ψ,Ψ,Ψ],ι,S0,_,⟨rfl,λi d e=>?_⟩,hh,zq3 h1 h2 h3 h4 hx,?_⟩
 . match i,e with
   |0,e=>cases e;exact⟨v,rfl,rv⟩|1,e=>cases e
   |2,e=>cases e
   |3,e=>cases e
   |i+4,e=>simp at e
 rintro fl ι' H' S' x' hh' ⟨z,rfl,rfl⟩;exact λk hs=>⟨z,ι',hs,hh',x'⟩;exact hw.elim
omit [Mks] in
def zrg(a:scope.names=[(("turn":Str),.local),("path",.local),("to",.local),("word",.local),("last",.free)])(h:env.cells.lookup ("last":Str)=Φ c):closureFor scope env=pure [(("last":Str),c)]:=by unfold closureFor;rw[a];simp[cellOf,h]
end R
namespace R
abbrev oD:Option Int->D|some i=>.int i|none=>.non
def ze7:∀os:List (Option Int),zbe (os.map oD)=Φ os
 | []=>rfl| o::os=>by unfold zbe;rw[Ο,ϟ,show(os.map oD).mapM zf5=Φ os from ze7 os];cases o<;>rfl
def zlS(n)(os):flats n (talD os)=Γ:=by rw[zaH];intro d a;let⟨r,_,rfl⟩:=mem_map.mp a;simp[rowD]
def zmq(a:P[f]?=Φ F)(b:F.prim=Φ .tally)(c:F.np=1)(h:S.get l=Φ (.lst (os.map oD)))(d:(zaf [] os).length<64)(hl:os.length<=16777216):app (callF P (n+4)) f [.ref l] S=.ok (.ref S.len) (S.push (.lst (talD os))):=by
 have e:callF P (n+4) f [.ref l] S.enter=.ok (.ref S.len) (S.enter.push (.lst (talD os))):=by
  have g:3<=n+3:=by lia
  simp![callF,a,b,c,Ρ,Ϡ,zero_add,if_true,g];unfold prm;dsimp only;rw[zaP,h];dsimp only;rw[ze7];dsimp only;rw[if_pos ⟨d,hl⟩,enter_len]
 unfold app;rw[e,zat];unfold zcF;have i:(S.enter.push (.lst (talD os))).get S.len=Φ (.lst (talD os)):=by have:=ziK (S.frz++S.new) [.lst (talD os)] [];rw[zfI]at this;exact this
 rw[if_neg (by simp[flat])];dsimp only;rw[i];dsimp only;rw[if_pos (zlS _ _)]
def zia(rows):(zaW rows).Perm rows:=List.mergeSort_perm rows zc7
def tal_mem:r∈zaW rows↔r∈rows:=(zia rows).mem_iff
def zi7(rows):(zaW rows).Pairwise λa b=>zc7 a b=Γ:=by refine List.pairwise_mergeSort (λa b c d e=>?_) (λa b=>?_) rows;simp![zc7,decide_eq_true_eq]at d e⊢;lia;simp![zc7,Ϙ,decide_eq_true_eq];lia
open PySem (PyData)
def zfF{c d:Type}{f}:∀{xs:List c}{ys:List d},xs.mapM f=Φ ys->∀y∈ys,∃x∈xs,f x=Φ y
 | [],ys,h,y,a=>by simp at h;subst h;cases a
 |x::xs,ys,h,y,a=>by
  rw[ϟ]at h;cases e:f x with
  |none=>rw[e]at h;exact nS h
  |some z=>
   rw[e]at h;cases b:xs.mapM f with
   |none=>rw[b]at h;exact nS h
   |some j=>rw[b]at h;injection h with h;subst h;rcases mem_cons.mp a with rfl|a;exact⟨x,by simp,e⟩;let⟨u,g,i⟩:=zfF b y a;exact⟨u,by simp[g],i⟩
def zcI:∀{xs:List PyData},(∀x∈xs,PyData.eqv x x=Γ)->PyData.eqvAll xs xs=Γ
 | [],_=>by simp[PyData.eqvAll]|x::xs,h=>by simp[PyData.eqvAll,h x (by simp),zcI (xs:=xs) λy a=>h y (by simp[a])]
def zqr:∀{n:Nat}{d:D}{a:PyData},pd S n d=Φ a->PyData.eqv a a=Γ:=by
 intro n;induction n with
 |zero=>
  intro d a h;cases d<;>simp![pd]at h
  cases h;simp[PyData.eqv];cases h;simp[PyData.eqv];cases h;simp[PyData.eqv];exact nS h;exact nS h;exact nS h;exact nS h
 |succ n g=>
  intro d a h;cases d<;>simp![pd]at h
  cases h;simp[PyData.eqv];cases h;simp[PyData.eqv];cases h;simp[PyData.eqv];rename_i b;cases e:b.mapM (pd S n) with
  |none=>rw[e]at h;exact nS h
  |some i=>rw[e]at h;cases h;rw[PyData.eqv];exact zcI λx c=>let ⟨d,_,f⟩:=zfF e x c;g f
  split at h;rename_i b _;cases e:b.mapM (pd S n) with
  |none=>rw[e]at h;exact nS h
  |some i=>rw[e]at h;cases h;rw[PyData.eqv];exact zcI λx c=>let ⟨d,_,f⟩:=zfF e x c;g f
  exact nS h;exact nS h;exact nS h
def zoS(b:pd S 60 x=Φ a)(c:pd S 60 y=Φ a):eqD S x y=Φ Γ:=by unfold eqD;rw[b,c];exact congrArg Φ (zqr b)
def zfy(h:S.get l=Φ (.lst ds))(e:ds.mapM (pd S n)=Φ xs):pd S (n+1) (.ref l)=Φ (.list xs):=by simp![pd,h,e];rfl
def zhY(c:S.get a=Φ (.lst ds))(d:S.get b=Φ (.lst ds))(e:ds.mapM (pd S 59)=Φ xs):cmpO S .Eq (.ref a) (.ref b)=Φ Γ:=(zoS (zfy c e) (zfy d e))
def zhX(c:S.get a=Φ (.lst ds))(d:S.get b=Φ (.lst ds))(e:ds.mapM (pd S 59)=Φ xs):cmpO S .NotEq (.ref a) (.ref b)=Φ Δ:=by show(eqD S (.ref a) (.ref b)).map (!·)=_;rw[zoS (zfy c e) (zfy d e)];rfl
def zak(S:St)(o):(S.push o).get S.len=Φ o:=by
 have h:¬S.len<S.frz.length:=by unfold St.len;lia
 unfold St.get St.push;unfold St.len;simp
def zae{S:St}(e:S.get l=Φ u):(S.push o).get l=Φ u:=by have h:=get_lt e;unfold St.len at h;unfold St.get at e⊢;unfold St.push;simp only;split;rename_i c;rw[if_pos c]at e;exact e;rename_i c;rw[if_neg c]at e;rw[getElem?_append_left (by omega)];exact e
def zft{S:St}(o)(d:S.frz.length<=l)(b:S.lk.contains l=Δ):∃a,S.put l o=Φ a/\a.frz=S.frz/\a.lk=S.lk/\a.len=S.len/\(∀m,m≠l->a.get m=S.get m)/\(l<S.len->a.get l=Φ o):=by refine⟨{S with new:=S.new.set (l-S.frz.length) o},?_,rfl,rfl,by simp[St.len],λm e=>?_,λc=>?_⟩;unfold St.put;rw[if_neg (by lia),b];rfl;unfold St.get;split;rfl;rw[getElem?_set_ne (by lia)];unfold St.len at c;unfold St.get;simp![show ¬l<S.frz.length by lia,if_false];rw[getElem?_set_self (by lia)]
def zq6(S)(i j):eqD S (.int i) (.int j)=Φ (i==j):=by unfold eqD;have e:∀k,pd S 60 (.int k)=Φ (.int k):=λk=>rfl;show Φ (PyData.eqv (.int i) (.int j))=_;rw[L2.eqv_int]
def ziI(S)(x):∀ks:List Int,inD S (.int x) (ks.map .int)=Φ (decide (x∈ks)):=by
 intro ks;have e:(ks.map D.int).mapM (λz=>eqD S z (.int x))=Φ (ks.map λk=>k==x):=by induction ks with|nil=>rfl|cons k ks a=>rw[Ο,ϟ,a];rfl
 have f:∀ks:List Int,((ks.map λk=>k==x).any id)=decide (x∈ks):=by intro ks;induction ks with|nil=>rfl| cons k ks a=>rw[Ο,any_cons,a];by_cases c:k=x;subst c;simp;have d:¬x=k:=λz=>c z.symm;have b:=beq_eq_false_iff_ne.mpr c;simp![b,id,Bool.false_or,mem_cons,d,false_or]
 unfold inD;rw[e];exact congrArg Φ (f ks)
def zoQ{ks:List Int}(h:S.get l=Φ (.lst (ks.map .int)))(x):cmpO S .In (.int x) (.ref l)=Φ (decide (x∈ks)):=by show((match S.get l with|some (.lst a)=>Φ a|_=>Ψ).bind λb=>inD S (.int x) b)=_;rw[h];exact ziI S x ks
def zk4{ks:List Int}(h:S.get l=Φ (.lst (ks.map .int)))(x):cmpO S .NotIn (.int x) (.ref l)=Φ (!decide (x∈ks)):=by show(cmpO S .In (.int x) (.ref l)).map (!·)=_;rw[zoQ h];rfl
abbrev cntZ(os:List (Option Int)):Option Int->Int
 |some w=>(os.count (Φ w):Nat)|none=>0
def zf9{a:Type}{os:List a}{o}(h:os[i]?=Φ o):os.take (i+1)=os.take i++[o]:=by rw[List.take_add_one,h];rfl
def zdi{xs:List a}{k:Nat}{x:a}(h:xs[k]?=Φ x):R.atI xs (k:Int)=Φ x:=by
 have b:=(Α.mp h).1;have e:R.ixN xs.length (k:Int)=Φ k:=by simp[R.ixN,b]
 unfold R.atI;rw[e];exact h
def zhf:R.atI (x::xs) 0=Φ x:=by
 have:R.ixN (x::xs).length 0=Φ 0:=by simp[R.ixN]
 unfold R.atI;rw[this];rfl
def zjQ:R.atI (x::y::xs) 1=Φ y:=by
 have:R.ixN (x::y::xs).length 1=Φ 1:=by simp[R.ixN];lia
 unfold R.atI;rw[this];rfl
abbrev zbd(ns:List Int)(k:Nat):Int:=match ns[k]? with|some v=>v%10^64|none=>0
def zdq(ns)(k):0<=zbd ns k:=by unfold zbd;split;exact emod_nonneg _ (by decide);exact Int.le_refl 0
def zbp:∀ks:List Int,zaD (ks.map D.int)=Φ ks
 | []=>rfl| k::ks=>by unfold zaD;rw[Ο,ϟ,show(ks.map D.int).mapM zee=Φ ks from zbp ks];rfl
def zi6(os):(zaW (zaf [] os)).Pairwise λa b=>b.2<a.2\/(a.2=b.2/\a.1<b.1):=by have c:((zaW (zaf [] os)).map (·.1)).Nodup:=((zia _).map (·.1)).nodup_iff.mpr (zaJ os (by simp));have d:=zi7 (zaf [] os);rw[List.Nodup,pairwise_map]at c;refine(c.and d).imp λ{a b} h=>?_;have e:=h.2;simp![zc7,decide_eq_true_eq]at e;have:=h.1;lia
end R
section
namespace Kz
local macro_rules|`(#[$x])=>`(.cons $x .nil)|`(#[$x,$y,*])=>`(.cons $x #[$y,*])
local macro_rules|`($x:ident)=>let s:=x.getId.toString;let n:=Lean.Syntax.mkNumLit (s.drop 1).toString;if s.length<2||!(s.drop 1).all Char.isDigit then Lean.Macro.throwUnsupported else if s.front=='J' then `(.loc $n) else if s.front=='V' then `(.con (.int $n)) else Lean.Macro.throwUnsupported
local macro_rules | `(tactic| exists $e)=>`(tactic| refine R.wOpt_of $e ?_)
local macro_rules | `(tactic| change $e)=>`(tactic| refine R.wNeed_of $e ?_)
local macro_rules | `(tactic| specialize $e)=>`(tactic| refine R.wOut_of $e ?_)
local macro_rules | `(tactic| left)=>`(tactic| conv=>whnf)
local macro_rules | `(tactic| right)=>`(tactic| refine R.wNeed_of (by first|decide|lia|(simp;done)|(simp;lia)) ?_)
section
open PySem R L2
abbrev zoX:Fn:=⟨1,4,.nil,Φ .road⟩
abbrev ze4:Fn:=⟨1,1,(.ret (.and (.bi (.isin "int") #[J0]) (.nt (.bi (.isin "bool") #[J0]))) .nil),Ψ⟩
abbrev zg7:Fn:=⟨2,2,(.ret (.and (.call 1 0 #[J0]) (.cmp2 .LtE .Lt V0 J0 J1)) .nil),Ψ⟩
abbrev zg4:Fn:=⟨1,1,(.ret (.and (.call 1 0 #[J0]) (.cmp .Lt (.bi .abs #[J0]) (.bin .Pow V10 V60))) .nil),Ψ⟩
abbrev ze5:Fn:=⟨3,3,(.ifS (.or (.nt (.tst (.call 1 0 #[J0]))) (.nt (.cmp2 .LtE .LtE J1 J0 J2)))
 .stop .nil (.ret J0 .nil)),Ψ⟩
abbrev zg8:Fn:=⟨2,2,(.ifS (.nt (.tst (.call 2 0 #[J0,J1])))
 .stop .nil (.ret J0 .nil)),Ψ⟩
abbrev zg2:Fn:=⟨1,1,(.ifS (.nt (.tst (.call 3 0 #[J0])))
 .stop .nil (.ret J0 .nil)),Ψ⟩
abbrev zmf:Fn:=⟨2,2,(.ret (.mt .count J0 #[J1]) .nil),Ψ⟩
abbrev zh1:Fn:=⟨1,3,.nil,Φ .tally⟩
abbrev ziU:Fn:=⟨2,3,(.asg 2 (.call 8 0 #[J0]) (.ret (.ite (.and (.tst J2) (.cmp .GtE (.ix (.ix J2 V0) V1) J1)) (.ix (.ix J2 V0) V0) (.con D.non)) .nil)),Ψ⟩
abbrev zdr:Fn:=⟨2,2,(.ret (.mkL (.comp 1 [1] [0] (.val J0) (.tst (.con (D.bl Γ))) (.ite (.cmp .In (.fld J0 "number") (.fld J1 "liars")) (.mk 0 35 "Liar" 0 #[J0,.fld J1 "lies"]) J0))) .nil),Ψ⟩
abbrev c_run:Fn:=⟨3,6,(.asg 3 (.lst .nil) (.forS [4] (.rng2 V1 (.bin .Add J1 V1)) (.asg 5 (.srtK (.call 12 0 #[J4,J0,J2])) (.expr (.callW 13 0 #[J4,J0,J5]) (.expr (.extv J3 J5) .nil))) (.ret J3 .nil))),Φ .lam⟩
abbrev c_said_in:Fn:=⟨3,9,(.asg 3 (.lst .nil) (.forS [4,5] (.enum J1) (.forS [6,7,8] (.val (.meth "say" [(0,38),(1,47)] J5 #[J0])) (.expr (.mt .append J3 #[.tup #[J0,J6,.ite (.cmp .Is J2 (.con D.non)) J7 (.ix (.ix J2 J4) J7),J8]]) .nil) .nil) (.ret J3 .nil))),Ψ⟩
abbrev c_deliver:Fn:=⟨3,7,(.asg 3 .dnew (.forS [4] (.val J2) (.expr (.mt .append (.dsetI J3 (.ix J4 V2) (.lst .nil)) #[.tup #[.ix J4 V1,.ix J4 V3]]) .nil) (.forS [5,6] (.enum J1) (.expr (.meth "hear" [(0,37),(1,42)] J6 #[J0,.dgetI J3 J5 (.lst .nil)]) .nil) .nil))),Ψ⟩
abbrev zdw:Fn:=⟨4,4,(.ret (.mkL (.comp 1 [0,1,2,3] [0] (.rng1 J0) (.tst (.con (D.bl Γ))) (.mk 1 39 "KingHand" 0 #[J0,J1,J2,J3,.ite (.cmp .Eq J0 J3) J4 (.con D.non)]))) .nil),Ψ⟩
abbrev zds:Fn:=⟨1,1,(.ret (.bin .Add V1 (.bin .Mult V3 (.bin .Add J0 V1))) .nil),Ψ⟩
abbrev zg3:Fn:=⟨1,1,(.ret (.bin .Mod (.bin .Sub J0 V2) V3) .nil),Ψ⟩
abbrev zel:Fn:=⟨2,4,(.forS [2,3] (.val J1) (.ifS (.and (.cmp .Eq J2 (.tup #[J0])) (.cmp .IsNot J3 (.con D.non))) (.ret J3 .nil) .nil .nil) (.ret V0 .nil)),Ψ⟩
abbrev zg6:Fn:=⟨2,2,(.ifS (.or (.nt (.tst (.bi (.isin "tuple") #[J0]))) (.nt (.cmp2 .LtE .LtE V1 (.bi .len #[J0]) V7))) (.ret (.con (D.bl Δ)) .nil) .nil (.ifS (.nt (.tst (.all (.comp 1 [1] [0] (.val J0) (.tst (.con (D.bl Γ))) (.call 2 0 #[J0,J1]))))) (.ret (.con (D.bl Δ)) .nil) .nil (.ret (.cmp .Eq (.lenset (.val J0)) (.bi .len #[J0])) .nil))),Ψ⟩
abbrev zc1:Fn:=⟨2,3,(.ifS (.cmp .Is J1 (.con D.non)) (.ret (.tup .nil) .nil) .nil (.asg 2 (.mkL (.comp 1 [0] [0] (.val J1) (.tst (.con (D.bl Γ))) (.call 5 0 #[J0,J1]))) (.ret (.mkT (.val (.sset J2))) .nil))),Ψ⟩
abbrev zdt:Fn:=⟨2,4,(.ifS (.cmp .Is J1 (.con D.non)) (.ret (.tup .nil) .nil) .nil (.forS [2,3] (.enum J1) (.ifS (.nt (.tst (.call 21 0 #[J3,J0])))
 .stop .nil .nil) (.ret (.mkT (.val J1)) .nil))),Ψ⟩
abbrev ziV:Fn:=⟨2,2,(.ifS (.or (.nt (.tst (.bi (.isin "tuple") #[J0]))) (.cmp .NotEq (.bi .len #[J0]) V4)) (.ret (.con (D.bl Δ)) .nil) .nil (.ifS (.or (.nt (.tst (.call 22 0 #[.ix J0 V0]))) (.nt (.tst (.call 18 0 #[.ix J0 V1,J1])))) (.ret (.con (D.bl Δ)) .nil) .nil (.ifS (.or (.nt (.tst (.call 2 0 #[.ix J0 V2,J1]))) (.cmp .In (.ix J0 V2) (.ix J0 V1))) (.ret (.con (D.bl Δ)) .nil) .nil (.ret (.or (.cmp .Is (.ix J0 V3) (.con D.non)) (.call 3 0 #[.ix J0 V3])) .nil)))),Ψ⟩
abbrev zg5:Fn:=⟨1,1,(.ret (.and (.call 1 0 #[J0]) (.cmp2 .LtE .LtE V1 J0 V30)) .nil),Ψ⟩
abbrev zc2:Fn:=⟨2,2,(.ifS (.cmp .Lt J1 (.bi .len #[J0])) (.ret (.bin .Mod (.ix J0 J1) (.bin .Pow V10 V64)) .nil) .nil (.ret V0 .nil)),Ψ⟩
abbrev ze1:Fn:=⟨2,3,(.asg 2 (.bin .FloorDiv J0 V5) (.ifS (.cmp .Eq (.bin .Mod J0 V5) V0) (.ret (.con D.non) .nil) .nil (.ifS (.cmp .Eq (.bin .Mod J0 V5) V1) (.ret (.bin .Mod J2 V3) .nil) .nil (.ifS (.cmp .Eq (.bin .Mod J0 V5) V2) (.ret J1 .nil) .nil (.ifS (.cmp .Eq (.bin .Mod J0 V5) V3) (.ret (.bin .Sub (.bin .Mod J2 (.bin .Sub (.bin .Mult V2 (.bin .Pow V10 V60)) V1)) (.bin .Sub (.bin .Pow V10 V60) V1)) .nil) .nil (.ret (.bin .Sub (.bin .Mod J2 V5) V2) .nil)))))),Ψ⟩
abbrev ze2:Fn:=⟨2,2,(.ifS (.cmp .Is J1 (.con D.non)) (.ret (.cmp .Is J0 (.con D.non)) .nil) .nil (.ret (.and (.bi (.isin "int") #[J0]) (.and (.nt (.bi (.isin "bool") #[J0])) (.cmp .Eq J0 J1))) .nil)),Ψ⟩
abbrev zeo:Fn:=⟨3,7,(.asg 3 (.lst .nil) (.asg 4 (.mkL (.rng1 J1)) (.asg 5 (.bin .FloorDiv J0 (.bin .Add J2 V1)) (.forS [6] (.rng1 (.bin .Mod J0 (.bin .Add J2 V1))) (.expr (.mt .append J3 #[.mt .popAt J4 #[.bin .Mod J5 (.bi .len #[J4])]]) (.asg 5 (.bin .FloorDiv J5 V7) .nil)) (.ret J3 .nil))))),Ψ⟩
abbrev zen:Fn:=⟨3,6,(.asg 3 (.mkL (.comp 1 [2] [0] (.rng1 J0) (.cmp .NotEq J0 J1) (.tup #[V1,.tup #[J1],J0]))) (.forS [4] (.rng2 V2 (.bin .Add V2 (.bin .Mult V3 (.bin .Add J1 V1)))) (.forS [5] (.rng1 J0) (.ifS (.or (.cmp .NotEq (.bin .Mod J4 V3) V1) (.cmp .Eq J5 (.bin .Mod (.bin .FloorDiv (.bin .Sub J4 V2) V3) J0))) (.expr (.ext J3 (.comp 1 [4,5] [0] (.rng1 J0) (.cmp .NotEq J0 J2) (.tup #[J1,.tup #[J2],J0]))) .nil) .nil .nil) .nil) (.ret J3 .nil))),Ψ⟩
abbrev zep:Fn:=⟨3,5,(.asg 3 (.call 23 0 #[J0,.bin .Add J1 (.bin .FloorDiv J2 V50)]) (.forS [4] (.rng1 (.bin .Mod J2 V50)) (.asg 3 (.bin .FloorDiv J3 V12) .nil) (.ret (.bin .Mod J3 V12) .nil))),Ψ⟩
abbrev zem:Fn:=⟨2,2,(.ifS (.cmp .Eq J0 V1) (.ret (.con D.non) .nil) .nil (.ifS (.cmp .Eq J0 V2) (.ret J1 .nil) .nil (.ret (.bin .Sub J0 V6) .nil))),Ψ⟩
abbrev ze3:Fn:=⟨5,11,(.asg 5 (.mkL (.comp 1 [3] [0] (.val J2) (.cmp .In (.ix (.ix J0 V1) (.neg V1)) J1) J0)) (.asg 6 (.call 23 0 #[J0,J1]) (.asg 7 (.lst .nil) (.ifS (.cmp .Eq (.bin .Mod J6 V2) V1) (.forS [8] (.rng1 (.bi .len #[J5])) (.asg 9 (.call 28 0 #[J0,.bin .Add J1 V1,J8]) (.ifS (.cmp .Gt J9 V0) (.expr (.mt .append J7 #[.bin .Add (.ix J5 J8) (.tup #[.call 29 0 #[J9,J4]])]) .nil) .nil .nil)) (.ret J7 .nil)) .nil (.asg 6 (.bin .FloorDiv J6 V2) (.asg 10 (.bin .Add V1 (.bin .Mod J6 V900007)) (.forS [8] (.rng1 (.bin .FloorDiv (.bin .Mult (.bin .Mod (.bin .FloorDiv J6 V100) V3) (.bi .len #[J5])) V2)) (.asg 10 (.bin .Mod (.bin .Add (.bin .Add (.bin .Mult J10 V1597) (.bin .Mult V7 J8)) V2011) V5800079) (.expr (.mt .append J7 #[.bin .Add (.ix J5 J8) (.tup #[.call 24 0 #[.bin .FloorDiv J10 V2,J4]])]) .nil)) (.forS [8] (.rng2 (.bin .Add J1 V1) (.bi .min2 #[.bi .len #[J0],V70])) (.ifS (.cmp .Gt (.bi .len #[J5]) V0) (.expr (.mt .append J7 #[.bin .Add (.ix J5 (.bin .Mod (.bin .Add J6 J8) (.bi .len #[J5]))) (.tup #[.call 24 0 #[.call 23 0 #[J0,J8],J4]])]) .nil) .nil .nil) (.ret J7 .nil))))))))),Ψ⟩
abbrev zdv:Fn:=⟨2,6,(.asg 2 (.con D.non) (.asg 3 V0 (.forS [4] (.val J0) (.asg 5 (.bi .len #[.mkL (.comp 1 [4] [0] (.val J0) (.cmp .Eq J0 J1) J0)]) (.ifS (.and (.cmp .IsNot J4 (.con D.non)) (.or (.cmp .Gt J5 J3) (.and (.cmp .Eq J5 J3) (.cmp .Lt J4 J2)))) (.asg 2 J4 (.asg 3 J5 .nil)) .nil .nil)) (.ifS (.cmp .Lt J3 J1) (.ret (.tup #[.con D.non,V0]) .nil) .nil (.ret (.tup #[J2,J3]) .nil))))),Ψ⟩
abbrev zdh:Fn:=⟨5,13,(.asgT [5,6] J0 (.asgT [7,8] J3 (.asg 9 (.bin .Add (.lst #[J7]) (.mkL (.comp 2 [] [0,1] (.val J4) (.tst (.con (D.bl Γ))) J1))) (.ifS (.cmp .Eq (.bin .Mod J2 V3) V2) (.ret (.tup #[.ix (.call 31 0 #[J9,.bi .max2 #[V1,.bin .Sub J5 J6]]) V0,V0]) .nil) .nil (.ifS (.cmp .Eq (.bin .Mod J2 V3) V0) (.ret (.call 31 0 #[J9,.bin .Add J6 V1]) .nil) .nil (.ifS (.and (.cmp .IsNot J7 (.con D.non)) (.cmp .GtE J8 (.bin .Sub J5 J6))) (.ret J3 .nil) .nil (.asg 10 (.bin .Mod (.bin .FloorDiv (.bin .Sub J2 V2) V3) J5) (.ifS (.cmp .NotEq J1 J10) (.asg 7 (.con D.non) (.forS [11,12] (.val J4) (.asg 7 J12 .nil) .nil)) .nil (.ifS (.cmp .Is J7 (.con D.non)) (.asg 7 V0 .nil) .nil (.ret (.tup #[J7,V0]) .nil)))))))))),Ψ⟩
abbrev zdu:Fn:=⟨6,9,(.ifS (.or (.nt (.tst (.bi (.isin "list") #[J0]))) (.cmp .NotEq (.bi .len #[J0]) (.bin .Add V1 (.bin .Mult V3 (.bin .Add (.ix J1 V1) V1))))) (.ret (.con (D.bl Δ)) .nil) .nil (.asg 6 (.tup #[J4,V0]) (.forS [7] (.rng1 (.bi .len #[J0])) (.asg 8 (.mkL (.comp 1 [2,7] [0] (.val J5) (.and (.cmp .Eq (.ix J0 V0) (.bin .Add J2 V1)) (.cmp .Eq (.ix J0 V2) J1)) (.tup #[.ix J0 V1,.ix J0 V3]))) (.ifS (.cmp .Gt J7 V0) (.asg 6 (.call 32 0 #[J1,J2,.bin .Add J7 V1,J6,J8]) .nil) (.ifS (.cmp .NotEq J2 J3) (.asg 6 (.tup #[V0,V0]) (.ifS (.cmp .IsNot (.ix (.ix J8 V0) V1) (.con D.non)) (.asg 6 (.tup #[.ix (.ix J8 V0) V1,V0]) .nil) .nil .nil)) .nil .nil) (.ifS (.nt (.tst (.call 25 0 #[.ix J0 J7,.ix J6 V0]))) (.ret (.con (D.bl Δ)) .nil) .nil .nil))) (.ret (.con (D.bl Γ)) .nil)))),Ψ⟩
abbrev c_law:Fn:=⟨1,16,(.asg 1 (.bin .Add V1 (.bin .Mod (.call 23 0 #[J0,V0]) V7)) (.asg 2 (.bin .Mod (.call 23 0 #[J0,V1]) V6) (.ifS (.cmp .Gt J1 V5) (.asg 2 (.bin .Mod J2 V3) .nil) .nil (.asg 3 (.bin .Sub (.bin .Mod (.call 23 0 #[J0,V3]) (.bin .Sub (.bin .Mult V2 (.bin .Pow V10 V60)) V1)) (.bin .Sub (.bin .Pow V10 V60) V1)) (.asg 4 (.call 26 0 #[.call 23 0 #[J0,V4],J1,J1]) (.asg 5 (.bin .Mod (.call 23 0 #[J0,V2]) J1) (.ifS (.and (.cmp .Gt (.bi .len #[J4]) V0) (.cmp .Eq (.bin .Mod (.bin .FloorDiv (.call 23 0 #[J0,V2]) V7) V2) V1)) (.asg 5 (.ix J4 V0) .nil) .nil (.asg 6 (.call 30 0 #[J0,V6,.call 27 0 #[J1,J2,J5],J4,J3]) (.asg 7 (.mk 2 50 "Kings" 0 #[.mk 3 56 "Setting" 0 #[J1,J2,J4,J6],J5,J3]) (.asg 8 (.meth "letters" [(2,54)] J7 .nil) (.asg 9 (.meth "endings" [(2,52)] J7 .nil) (.ifS (.or (.nt (.tst (.bi (.isin "list") #[J9]))) (.cmp .NotEq (.bi .len #[J9]) J1)) (.ret (.con (D.bl Δ)) .nil) .nil (.asg 10 (.call 23 0 #[J0,V5]) (.forS [11] (.rng1 J1) (.asg 12 (.bin .Mod (.bin .Add J10 (.bin .Mult J11 (.bin .Sub V1 (.bin .Mult V2 (.bin .Mod (.bin .FloorDiv J10 V7) V2))))) J1) (.asg 13 (.meth "story" [(1,48),(2,55)] J7 #[J12]) (.ifS (.nt (.tst (.call 33 0 #[J13,.tup #[J1,J2],J12,J5,J3,J8]))) (.ret (.con (D.bl Δ)) .nil) .nil (.asg 14 (.ix J13 (.neg V1)) (.ifS (.cmp .Eq J12 J5) (.asg 14 J3 .nil) .nil (.ifS (.or (.nt (.tst (.call 25 0 #[.meth "ending" [(0,36),(1,41),(2,51)] J7 #[J12],J14]))) (.nt (.tst (.call 25 0 #[.ix J9 J12,J14])))) (.ret (.con (D.bl Δ)) .nil) .nil (.asg 15 (.mkL (.val J13)) (.expr (.mt .append J13 #[V0]) (.ifS (.cmp .NotEq (.meth "story" [(1,48),(2,55)] J7 #[J12]) J15) (.ret (.con (D.bl Δ)) .nil) .nil .nil))))))))) (.asg 15 (.mkL (.val J9)) (.expr (.mt .append J9 #[V0]) (.ret (.cmp .Eq (.meth "endings" [(2,52)] J7 .nil) J15) .nil))))))))))))))))),Ψ⟩
abbrev zer:Fn:=⟨3,3,(.expr (.callC 57 "Hand" "__init__" #[J0,.fld J1 "number",.fld J1 "many",.fld J1 "rounds"]) (.setF J0 "inner" J1 (.setF J0 "lies" (.mkT (.val J2)) .nil))),Ψ⟩
abbrev zfY:Fn:=⟨1,1,(.ret (.meth "ending" [(0,36),(1,41),(2,51)] (.fld J0 "inner") .nil) .nil),Ψ⟩
abbrev zes:Fn:=⟨3,3,(.expr (.meth "hear" [(0,37),(1,42)] (.fld J0 "inner") #[J1,J2]) .nil),Ψ⟩
abbrev ze6:Fn:=⟨2,3,(.asg 2 (.call 0 0 #[.fld J0 "lies"]) (.ret (.mkL (.comp 3 [2,1] [0,1,2] (.val (.meth "say" [(0,38),(1,47)] (.fld J0 "inner") #[J1])) (.tst (.con (D.bl Γ))) (.tup #[J0,J1,.callV J3 #[J4,J0,J1,J2]]))) .nil)),Ψ⟩
abbrev zcd:Fn:=⟨6,6,(.expr (.callC 57 "Hand" "__init__" #[J0,J1,J2,.call 15 0 #[J3]]) (.setF J0 "bound" J3 (.setF J0 "sender" J4 (.setF J0 "word" J5 (.setF J0 "held" J5 (.setF J0 "backing" V0 (.setF J0 "holdings" (.lst .nil) .nil))))))),Ψ⟩
abbrev zbj:Fn:=⟨2,2,(.ret (.bin .Add (.lst #[.fld J0 "held"]) (.mkL (.comp 2 [] [0,1] (.val J1) (.tst (.con (D.bl Γ))) J1))) .nil),Ψ⟩
abbrev zbH:Fn:=⟨1,1,(.ret (.ite (.cmp .Eq (.fld J0 "number") (.fld J0 "sender")) (.fld J0 "word") (.fld J0 "held")) .nil),Ψ⟩
abbrev zce:Fn:=⟨3,3,(.ifS (.cmp .Eq J1 V1) (.expr (.meth "hear_sender" [(1,45)] J0 #[J2]) .nil) (.ifS (.cmp .Eq (.call 16 0 #[J1]) V0) (.setF J0 "held" (.call 9 0 #[.meth "all_words" [(1,40)] J0 #[J2],.bi .max2 #[.bin .Sub (.fld J0 "many") (.fld J0 "bound"),V1]]) .nil) (.ifS (.cmp .Eq (.call 16 0 #[J1]) V1) (.expr (.meth "hear_backing" [(1,43)] J0 #[J2]) .nil) (.expr (.meth "hear_king" [(1,44)] J0 #[J1,J2]) .nil) .nil) .nil) (.expr (.mt .append (.fld J0 "holdings") #[.fld J0 "held"]) .nil)),Ψ⟩
abbrev za1:Fn:=⟨2,3,(.asg 2 (.meth "all_words" [(1,40)] J0 #[J1]) (.setF J0 "held" (.call 9 0 #[J2,.bin .Add (.fld J0 "bound") V1]) (.setF J0 "backing" (.ite (.cmp .Is (.fld J0 "held") (.con D.non)) V0 (.call 7 0 #[J2,.fld J0 "held"])) .nil))),Ψ⟩
abbrev zbi:Fn:=⟨3,4,(.ifS (.and (.cmp .IsNot (.fld J0 "held") (.con D.non)) (.cmp .GtE (.fld J0 "backing") (.bin .Sub (.fld J0 "many") (.fld J0 "bound")))) (.retN .nil) .nil (.asg 3 (.meth "king_of" [(1,46)] J0 #[J1]) (.ifS (.cmp .NotEq (.fld J0 "number") J3) (.setF J0 "held" (.call 17 0 #[J3,J2]) .nil) (.ifS (.cmp .Is (.fld J0 "held") (.con D.non)) (.setF J0 "held" V0 .nil) .nil .nil) .nil))),Ψ⟩
abbrev za4:Fn:=⟨2,2,(.ifS (.cmp .NotEq (.fld J0 "number") (.fld J0 "sender")) (.setF J0 "held" (.call 17 0 #[.fld J0 "sender",J1]) .nil) .nil .nil),Ψ⟩
abbrev zbx:Fn:=⟨2,2,(.ret (.bin .Mod (.bin .FloorDiv (.bin .Sub J1 V2) V3) (.fld J0 "many")) .nil),Ψ⟩
abbrev zcz:Fn:=⟨2,2,(.ifS (.cmp .NotIn (.fld J0 "number") (.meth "writers" [(1,49)] J0 #[J1])) (.ret (.lst .nil) .nil) .nil (.ret (.mkL (.comp 1 [0] [0] (.rng1 (.fld J0 "many")) (.cmp .NotEq J0 (.fld J1 "number")) (.tup #[.tup #[.fld J1 "number"],J0,.fld J1 "held"]))) .nil)),Ψ⟩
abbrev zbX:Fn:=⟨1,1,(.ret (.mkL (.val (.fld J0 "holdings"))) .nil),Ψ⟩
abbrev zbw:Fn:=⟨2,2,(.ifS (.cmp .Eq J1 V1) (.ret (.lst #[.fld J0 "sender"]) .nil) .nil (.ifS (.cmp .Eq (.call 16 0 #[J1]) V2) (.ret (.lst #[.meth "king_of" [(1,46)] J0 #[J1]]) .nil) .nil (.ret (.mkL (.rng1 (.fld J0 "many"))) .nil))),Ψ⟩
abbrev zdx:Fn:=⟨4,5,(.expr (.call 5 0 #[J2,.fld J1 "many"]) (.expr (.call 6 0 #[J3]) (.asg 4 (.call 14 0 #[.fld J1 "many",.fld J1 "bound",J2,J3]) (.expr (.callC 58 "Play" "__init__" #[J0,J4,.call 10 0 #[J4,J1],.call 15 0 #[.fld J1 "bound"]]) .nil)))),Ψ⟩
abbrev zc3:Fn:=⟨2,2,(.ret (.meth "ending" [(0,36),(1,41),(2,51)] (.meth "hand_at" [(2,53)] J0 #[J1]) .nil) .nil),Ψ⟩
abbrev zcy:Fn:=⟨1,1,(.ret (.mkL (.comp 1 [] [0] (.val (.fld J0 "hands")) (.tst (.con (D.bl Γ))) (.meth "ending" [(0,36),(1,41),(2,51)] J0 .nil))) .nil),Ψ⟩
abbrev zcx:Fn:=⟨2,2,(.ret (.ix (.fld J0 "hands") (.call 5 0 #[J1,.bi .len #[.fld J0 "hands"]])) .nil),Ψ⟩
abbrev zcw:Fn:=⟨1,1,(.ret (.mkL (.val (.fld J0 "sent"))) .nil),Ψ⟩
abbrev zc4:Fn:=⟨2,2,(.ret (.meth "story" [(1,48),(2,55)] (.meth "hand_at" [(2,53)] J0 #[J1]) .nil) .nil),Ψ⟩
abbrev zbD:Fn:=⟨5,5,(.setF J0 "many" (.call 4 0 #[J1,V1,V7]) (.setF J0 "bound" (.call 4 0 #[J2,V0,V5]) (.setF J0 "liars" (.call 19 0 #[J1,J3]) (.setF J0 "lies" (.call 20 0 #[J1,J4]) .nil)))),Ψ⟩
abbrev zet:Fn:=⟨4,4,(.setF J0 "number" J1 (.setF J0 "many" J2 (.setF J0 "rounds" J3 .nil))),Ψ⟩
abbrev zeq:Fn:=⟨4,4,(.setF J0 "hands" J1 (.setF J0 "sent" (.callW 11 1 #[J2,J3]) .nil)),Ψ⟩
abbrev prog:List Fn:=[zoX,ze4,zg7,zg4,ze5,zg8,zg2,zmf,zh1,ziU,zdr,c_run,c_said_in,c_deliver,zdw,zds,zg3,zel,zg6,zc1,zdt,ziV,zg5,zc2,ze1,ze2,zeo,zen,zep,zem,ze3,zdv,zdh,zdu,c_law,zer,zfY,zes,ze6,zcd,zbj,zbH,zce,za1,zbi,za4,zbx,zcz,zbX,zbw,zdx,zc3,zcy,zcx,zcw,zc4,zbD,zet,zeq]
abbrev top(i:Nat):Stmt:=PySem.Challenge.pw_traitorround_k53_stories_by_letters.main.body.getD i (.Pass ⟨0,0,0,0⟩)
noncomputable abbrev zda:Stmt:=top 2
noncomputable abbrev zht:Stmt:=top 11
noncomputable abbrev zjo:Stmt:=top 12
noncomputable abbrev zjl:Stmt:=top 13
noncomputable abbrev zhu:Stmt:=top 14
noncomputable abbrev zjp:Stmt:=top 15
noncomputable abbrev zji:Stmt:=top 16
noncomputable abbrev zm0:Stmt:=top 17
noncomputable abbrev zcR:Stmt:=top 18
noncomputable abbrev zkG:Stmt:=top 19
noncomputable abbrev zfm:Stmt:=top 23
noncomputable abbrev ziq:Stmt:=top 25
noncomputable abbrev zjk:Stmt:=top 26
noncomputable abbrev zjq:Stmt:=top 27
noncomputable abbrev zfr:Stmt:=top 33
noncomputable abbrev zfn:Stmt:=top 34
noncomputable abbrev zjj:Stmt:=top 35
noncomputable abbrev zgi:Stmt:=top 36
noncomputable abbrev zjn:Stmt:=top 39
noncomputable abbrev zex:Stmt:=top 45
noncomputable abbrev zfo:Stmt:=top 46
noncomputable abbrev zkH:Stmt:=top 47
noncomputable abbrev zjm:Stmt:=top 48
noncomputable abbrev zey:Stmt:=top 50
noncomputable abbrev zhp:Stmt:=top 51
noncomputable abbrev zhr:Stmt:=top 52
noncomputable abbrev zgl:Stmt:=top 53
noncomputable abbrev zgk:Stmt:=top 54
noncomputable abbrev zgm:Stmt:=top 55
noncomputable abbrev zgj:Stmt:=top 56
noncomputable abbrev zhs:Stmt:=top 57
noncomputable abbrev zfq:Stmt:=top 58
noncomputable abbrev zhq:Stmt:=top 59
noncomputable abbrev zfp:Stmt:=top 60
noncomputable abbrev zsz:Stmt:=top 61
abbrev zbl(s:Stmt)(j:Nat):Stmt:=match s with|.ClassDef _ _ _ b _ _ _ _ _ _ _=>b.getD j (.Pass ⟨0,0,0,0⟩)|s=>s
noncomputable abbrev zgo:Stmt:=zbl (top 22) 0
noncomputable abbrev zeA:Stmt:=zbl (top 22) 3
noncomputable abbrev zgp:Stmt:=zbl (top 22) 2
noncomputable abbrev zhv:Stmt:=zbl (top 22) 1
noncomputable abbrev zdB:Stmt:=zbl (top 31) 0
noncomputable abbrev zb7:Stmt:=zbl (top 31) 5
noncomputable abbrev zcS:Stmt:=zbl (top 31) 10
noncomputable abbrev zdC:Stmt:=zbl (top 31) 4
noncomputable abbrev zbE:Stmt:=zbl (top 31) 7
noncomputable abbrev zb6:Stmt:=zbl (top 31) 8
noncomputable abbrev zbN:Stmt:=zbl (top 31) 6
noncomputable abbrev zcD:Stmt:=zbl (top 31) 3
noncomputable abbrev zd3:Stmt:=zbl (top 31) 1
noncomputable abbrev zdb:Stmt:=zbl (top 31) 9
noncomputable abbrev zcC:Stmt:=zbl (top 31) 2
noncomputable abbrev zfs:Stmt:=zbl (top 32) 0
noncomputable abbrev zez:Stmt:=zbl (top 29) 3
noncomputable abbrev zd2:Stmt:=zbl (top 29) 4
noncomputable abbrev zd1:Stmt:=zbl (top 29) 1
noncomputable abbrev zd0:Stmt:=zbl (top 29) 2
noncomputable abbrev zeB:Stmt:=zbl (top 32) 1
noncomputable abbrev zdZ:Stmt:=zbl (top 44) 0
noncomputable abbrev zgq:Stmt:=zbl (top 21) 0
noncomputable abbrev zgn:Stmt:=zbl (top 29) 0
noncomputable abbrev zkI:Stmt:=(zal zda).getD 2 (.Pass ⟨0,0,0,0⟩)
def ztC:CloSt zkI:=⟨⟨_,_,_,_,_,_,_,_,_,_,rfl,rfl⟩,rfl,rfl,rfl,by decide +kernel,by decide +kernel,rfl,rfl,rfl,rfl,rfl,λ_ _ _ _ _ _ _ _ _=>rfl,⟨_,rfl⟩,rfl,rfl,λ_=>rfl,λ_ _ h=>zrg rfl h⟩
noncomputable instance mks:R.Mks:={ts:=[(23,"road.<locals>.word_on_arrival"),(168,"tally.<locals>.<lambda>"),(268,"run.<locals>.<lambda>")],cl:=[258,417,443,501],rs:=Φ zkI,ro:=ztC}
abbrev tab:Tab:=⟨["abs","all","bool","enumerate","int","isinstance","len","list","max","min","range","set","sorted","tuple"],[("STILL",(D.int 0)),("LONGEST",(D.int 7)),("MOST_HANDS",(D.int 7)),("GREATEST_BOUND",(D.int 5)),("LAST_TURN",(D.int 30))],("road",["lies"],0)::("is_whole",["thing"],0)::("is_hand",["thing","many"],0)::("is_word",["thing"],0)::("count_of",["thing","least","greatest"],0)::("hand_of",["thing","many"],0)::("word_of",["thing"],0)::("times",["words","word"],0)::("tally",["words"],0)::("strong",["words","least"],0)::("with_liars",["hands","setting"],0)::("run",["hands","rounds","wires"],1)::("said_in",["turn","hands","wires"],0)::("deliver",["turn","hands","said"],0)::("king_hands",["many","bound","sender","word"],0)::("rounds_for",["bound"],0)::("step_of",["turn"],0)::("word_from",["writer","letters"],0)::("is_path",["thing","many"],0)::("lying_among",["many","liars"],0)::("lies_among",["many","lies"],0)::("is_lie",["thing","many"],0)::("is_turn",["thing"],0)::("_law_cell_at",["_law_script","_law_k"],0)::("_law_word",["_law_cell","_law_word_here"],0)::("_law_like",["_law_found","_law_due"],0)::("_law_liars",["_law_cell","_law_many","_law_most_liars"],0)::("_law_slots",["_law_many","_law_bound","_law_sender"],0)::("_law_digit",["_law_script","_law_at","_law_k"],0)::("_law_small",["_law_digit_here","_law_word_here"],0)::("_law_lies",["_law_script","_law_at","_law_slots_here","_law_liars_here","_law_word_here"],0)::("_law_strong",["_law_words","_law_least"],0)::("_law_step",["_law_sizes","_law_number","_law_turn","_law_was","_law_letters"],0)::("_law_walked",["_law_story","_law_sizes","_law_hand","_law_sender","_law_word_here","_law_letters"],0)::("law",["_law_script"],0)::[],["Liar","KingHand","Kings","Setting"],["number","many","rounds","inner","lies","hands","sent","bound","sender","word","held","backing","holdings","liars"],[(1,"all_words",40),(0,"ending",36),(1,"ending",41),(2,"ending",51),(2,"endings",52),(2,"hand_at",53),(0,"hear",37),(1,"hear",42),(1,"hear_backing",43),(1,"hear_king",44),(1,"hear_sender",45),(1,"king_of",46),(2,"letters",54),(0,"say",38),(1,"say",47),(1,"story",48),(2,"story",55),(1,"writers",49)],[(0,35,0),(1,39,0),(2,50,0),(3,56,0)],[("Hand","__init__",57),("Play","__init__",58)],[],["hands","rounds","wires","letters","turn","said"],268⟩
def zpW:RoadSt zda:=⟨⟨_,_,zkI,_,_,rfl,rfl,by decide +kernel⟩,⟨rfl,rfl,rfl,by decide +kernel,rfl,by decide +kernel,by decide +kernel⟩,rfl,rfl⟩
def zmx:TallySt zcR:=⟨⟨_,_,_,_,_,_,_,_,_,_,_,_,_,_,_,_,_,_,_,_,_,_,_,_,_,_,_,_,_,_,_,_,rfl,rfl,rfl,λ_=>rfl,λ_=>rfl,⟨rfl,rfl,rfl,by decide +kernel,rfl,by decide +kernel,by decide +kernel⟩,by decide +kernel,λ_ _ _ _ _=>rfl⟩,⟨rfl,rfl,rfl,by decide +kernel,rfl,by decide +kernel,by decide +kernel⟩,rfl,rfl,rfl,rfl⟩
def O36:OkD tab prog 1 "is_whole" "is_whole" ["thing"] zht:=zan ["thing"] rfl (by decide +kernel) λ_ _ _ _ _ _=>usS λ_=>usZ rfl
def O47:OkD tab prog 2 "is_hand" "is_hand" ["thing","many"] zjo:=zan ["thing","many"] rfl (by decide +kernel) λ_ _ _ _ _ _=>usS λ_=>usS λ_=>usZ rfl
def O45:OkD tab prog 3 "is_word" "is_word" ["thing"] zjl:=zan ["thing"] rfl (by decide +kernel) λ_ _ _ _ _ _=>usS λ_=>usZ rfl
def O41:OkD tab prog 4 "count_of" "count_of" ["thing","least","greatest"] zhu:=zan ["thing","least","greatest"] rfl (by decide +kernel) λ_ _ _ _ _ _=>usS λ_=>usS λ_=>usS λ_=>usZ rfl
def O49:OkD tab prog 5 "hand_of" "hand_of" ["thing","many"] zjp:=zan ["thing","many"] rfl (by decide +kernel) λ_ _ _ _ _ _=>usS λ_=>usS λ_=>usZ rfl
def O50:OkD tab prog 6 "word_of" "word_of" ["thing"] zji:=zan ["thing"] rfl (by decide +kernel) λ_ _ _ _ _ _=>usS λ_=>usZ rfl
def O54:OkD tab prog 7 "times" "times" ["words","word"] zm0:=zan ["words","word"] rfl (by decide +kernel) λ_ _ _ _ _ _=>usS λ_=>usS λ_=>usZ rfl
def O52:OkD tab prog 9 "strong" "strong" ["words","least"] zkG:=zan ["words","least","rows"] rfl (by decide +kernel) λ_ _ _ _ _ _=>usS λ_=>usS λ_=>usZ rfl
def O26:OkD tab prog 10 "with_liars" "with_liars" ["hands","setting"] zfm:=zan ["hands","setting"] rfl (by decide +kernel) λ_ _ _ _ _ _=>usS λ_=>usS λ_=>usZ rfl
def O55:OkL tab prog 11 "run" ["hands","rounds","wires"] 1 ziq:=zsY (F:=c_run) rfl rfl (by decide +kernel)
def O48:OkD tab prog 12 "said_in" "said_in" ["turn","hands","wires"] zjk:=zan ["turn","hands","wires","said","place","hand","path","to","word"] rfl (by decide +kernel) λ_ _ _ _ _ _=>usS λ_=>usS λ_=>usS λ_=>usZ rfl
def O51:OkD tab prog 13 "deliver" "deliver" ["turn","hands","said"] zjq:=zan ["turn","hands","said","boxes","letter","place","hand"] rfl (by decide +kernel) λ_ _ _ _ _ _=>usS λ_=>usS λ_=>usS λ_=>usZ rfl
def O25:OkD tab prog 14 "king_hands" "king_hands" ["many","bound","sender","word"] zfr:=zan ["many","bound","sender","word"] rfl (by decide +kernel) λ_ _ _ _ _ _=>usS λ_=>usS λ_=>usS λ_=>usS λ_=>usZ rfl
def O23:OkD tab prog 15 "rounds_for" "rounds_for" ["bound"] zfn:=zan ["bound"] rfl (by decide +kernel) λ_ _ _ _ _ _=>usS λ_=>usZ rfl
def O44:OkD tab prog 16 "step_of" "step_of" ["turn"] zjj:=zan ["turn"] rfl (by decide +kernel) λ_ _ _ _ _ _=>usS λ_=>usZ rfl
def O35:OkD tab prog 17 "word_from" "word_from" ["writer","letters"] zgi:=zan ["writer","letters","path","word"] rfl (by decide +kernel) λ_ _ _ _ _ _=>usS λ_=>usS λ_=>usZ rfl
def O43:OkD tab prog 18 "is_path" "is_path" ["thing","many"] zjn:=zan ["thing","many"] rfl (by decide +kernel) λ_ _ _ _ _ _=>usS λ_=>usS λ_=>usZ rfl
def O19:OkD tab prog 19 "lying_among" "lying_among" ["many","liars"] zex:=zan ["many","liars","told"] rfl (by decide +kernel) λ_ _ _ _ _ _=>usS λ_=>usS λ_=>usZ rfl
def O20:OkD tab prog 20 "lies_among" "lies_among" ["many","lies"] zfo:=zan ["many","lies","place","thing"] rfl (by decide +kernel) λ_ _ _ _ _ _=>usS λ_=>usS λ_=>usZ rfl
def O53:OkD tab prog 21 "is_lie" "is_lie" ["thing","many"] zkH:=zan ["thing","many"] rfl (by decide +kernel) λ_ _ _ _ _ _=>usS λ_=>usS λ_=>usZ rfl
def O46:OkD tab prog 22 "is_turn" "is_turn" ["thing"] zjm:=zan ["thing"] rfl (by decide +kernel) λ_ _ _ _ _ _=>usS λ_=>usZ rfl
def O18:OkD tab prog 23 "_law_cell_at" "_law_cell_at" ["_law_script","_law_k"] zey:=zan ["_law_script","_law_k"] rfl (by decide +kernel) λ_ _ _ _ _ _=>usS λ_=>usS λ_=>usZ rfl
def O37:OkD tab prog 24 "_law_word" "_law_word" ["_law_cell","_law_word_here"] zhp:=zan ["_law_cell","_law_word_here","_law_rest"] rfl (by decide +kernel) λ_ _ _ _ _ _=>usS λ_=>usS λ_=>usZ rfl
def O40:OkD tab prog 25 "_law_like" "_law_like" ["_law_found","_law_due"] zhr:=zan ["_law_found","_law_due"] rfl (by decide +kernel) λ_ _ _ _ _ _=>usS λ_=>usS λ_=>usZ rfl
def O29:OkD tab prog 26 "_law_liars" "_law_liars" ["_law_cell","_law_many","_law_most_liars"] zgl:=zan ["_law_cell","_law_many","_law_most_liars","_law_found","_law_left","_law_rest","_law_k"] rfl (by decide +kernel) λ_ _ _ _ _ _=>usS λ_=>usS λ_=>usS λ_=>usZ rfl
def O33:OkD tab prog 27 "_law_slots" "_law_slots" ["_law_many","_law_bound","_law_sender"] zgk:=zan ["_law_many","_law_bound","_law_sender","_law_found","_law_turn","_law_writer"] rfl (by decide +kernel) λ_ _ _ _ _ _=>usS λ_=>usS λ_=>usS λ_=>usZ rfl
def O28:OkD tab prog 28 "_law_digit" "_law_digit" ["_law_script","_law_at","_law_k"] zgm:=zan ["_law_script","_law_at","_law_k","_law_cell","_law_j"] rfl (by decide +kernel) λ_ _ _ _ _ _=>usS λ_=>usS λ_=>usS λ_=>usZ rfl
def O32:OkD tab prog 29 "_law_small" "_law_small" ["_law_digit_here","_law_word_here"] zgj:=zan ["_law_digit_here","_law_word_here"] rfl (by decide +kernel) λ_ _ _ _ _ _=>usS λ_=>usS λ_=>usZ rfl
def O42:OkD tab prog 30 "_law_lies" "_law_lies" ["_law_script","_law_at","_law_slots_here","_law_liars_here","_law_word_here"] zhs:=zan ["_law_script","_law_at","_law_slots_here","_law_liars_here","_law_word_here","_law_some","_law_first","_law_lies_here","_law_k","_law_digit_here","_law_seed"] rfl (by decide +kernel) λ_ _ _ _ _ _=>usS λ_=>usS λ_=>usS λ_=>usS λ_=>usS λ_=>usZ rfl
def O24:OkD tab prog 31 "_law_strong" "_law_strong" ["_law_words","_law_least"] zfq:=zan ["_law_words","_law_least","_law_best","_law_often","_law_word_here","_law_many"] rfl (by decide +kernel) λ_ _ _ _ _ _=>usS λ_=>usS λ_=>usZ rfl
def O39:OkD tab prog 32 "_law_step" "_law_step" ["_law_sizes","_law_number","_law_turn","_law_was","_law_letters"] zhq:=zan ["_law_sizes","_law_number","_law_turn","_law_was","_law_letters","_law_many","_law_bound","_law_held","_law_backing","_law_words","_law_king","_law_path","_law_word_here"] rfl (by decide +kernel) λ_ _ _ _ _ _=>usS λ_=>usS λ_=>usS λ_=>usS λ_=>usS λ_=>usZ rfl
def O22:OkD tab prog 33 "_law_walked" "_law_walked" ["_law_story","_law_sizes","_law_hand","_law_sender","_law_word_here","_law_letters"] zfp:=zan ["_law_story","_law_sizes","_law_hand","_law_sender","_law_word_here","_law_letters","_law_was","_law_k","_law_came"] rfl (by decide +kernel) λ_ _ _ _ _ _=>usS λ_=>usS λ_=>usS λ_=>usS λ_=>usS λ_=>usS λ_=>usZ rfl
def O56:OkD tab prog 34 "law" "law" ["_law_script"] zsz:=zan ["_law_script","_law_many","_law_bound","_law_word_here","_law_liars_here","_law_sender","_law_lies_here","_law_play","_law_letters","_law_ends","_law_step_here","_law_k","_law_hand","_law_story","_law_due","_law_kept"] rfl (by decide +kernel) λ_ _ _ _ _ _=>usS λ_=>usZ rfl
def O30:OkD tab prog 35 "__init__" "Liar.__init__" ["self","inner","lies"] zgo:=zan ["self","inner","lies"] rfl (by decide +kernel) λ_ _ _ _ _ _=>usS λ_=>usS λ_=>usS λ_=>usZ rfl
def O17:OkD tab prog 36 "ending" "Liar.ending" ["self"] zeA:=zan ["self"] rfl (by decide +kernel) λ_ _ _ _ _ _=>usS λ_=>usZ rfl
def O27:OkD tab prog 37 "hear" "Liar.hear" ["self","turn","letters"] zgp:=zan ["self","turn","letters"] rfl (by decide +kernel) λ_ _ _ _ _ _=>usS λ_=>usS λ_=>usS λ_=>usZ rfl
def O38:OkD tab prog 38 "say" "Liar.say" ["self","turn"] zhv:=zan ["self","turn","bent"] rfl (by decide +kernel) λ_ _ _ _ _ _=>usS λ_=>usS λ_=>usZ rfl
def O9:OkD tab prog 39 "__init__" "KingHand.__init__" ["self","number","many","bound","sender","word"] zdB:=zan ["self","number","many","bound","sender","word"] rfl (by decide +kernel) λ_ _ _ _ _ _=>usS λ_=>usS λ_=>usS λ_=>usS λ_=>usS λ_=>usS λ_=>usZ rfl
def O2:OkD tab prog 40 "all_words" "KingHand.all_words" ["self","letters"] zb7:=zan ["self","letters"] rfl (by decide +kernel) λ_ _ _ _ _ _=>usS λ_=>usS λ_=>usZ rfl
def O6:OkD tab prog 41 "ending" "KingHand.ending" ["self"] zcS:=zan ["self"] rfl (by decide +kernel) λ_ _ _ _ _ _=>usS λ_=>usZ rfl
def O8:OkD tab prog 42 "hear" "KingHand.hear" ["self","turn","letters"] zdC:=zan ["self","turn","letters"] rfl (by decide +kernel) λ_ _ _ _ _ _=>usS λ_=>usS λ_=>usS λ_=>usZ rfl
def O0:OkD tab prog 43 "hear_backing" "KingHand.hear_backing" ["self","letters"] zbE:=zan ["self","letters","words"] rfl (by decide +kernel) λ_ _ _ _ _ _=>usS λ_=>usS λ_=>usZ rfl
def O3:OkD tab prog 44 "hear_king" "KingHand.hear_king" ["self","turn","letters"] zb6:=zan ["self","turn","letters","king"] rfl (by decide +kernel) λ_ _ _ _ _ _=>usS λ_=>usS λ_=>usS λ_=>usZ rfl
def O1:OkD tab prog 45 "hear_sender" "KingHand.hear_sender" ["self","letters"] zbN:=zan ["self","letters"] rfl (by decide +kernel) λ_ _ _ _ _ _=>usS λ_=>usS λ_=>usZ rfl
def O4:OkD tab prog 46 "king_of" "KingHand.king_of" ["self","turn"] zcD:=zan ["self","turn"] rfl (by decide +kernel) λ_ _ _ _ _ _=>usS λ_=>usS λ_=>usZ rfl
def O13:OkD tab prog 47 "say" "KingHand.say" ["self","turn"] zd3:=zan ["self","turn"] rfl (by decide +kernel) λ_ _ _ _ _ _=>usS λ_=>usS λ_=>usZ rfl
def O7:OkD tab prog 48 "story" "KingHand.story" ["self"] zdb:=zan ["self"] rfl (by decide +kernel) λ_ _ _ _ _ _=>usS λ_=>usZ rfl
def O5:OkD tab prog 49 "writers" "KingHand.writers" ["self","turn"] zcC:=zan ["self","turn"] rfl (by decide +kernel) λ_ _ _ _ _ _=>usS λ_=>usS λ_=>usZ rfl
def O21:OkD tab prog 50 "__init__" "Kings.__init__" ["self","setting","sender","word"] zfs:=zan ["self","setting","sender","word","hands"] rfl (by decide +kernel) λ_ _ _ _ _ _=>usS λ_=>usS λ_=>usS λ_=>usS λ_=>usZ rfl
def O15:OkD tab prog 51 "ending" "Play.ending" ["self","hand"] zez:=zan ["self","hand"] rfl (by decide +kernel) λ_ _ _ _ _ _=>usS λ_=>usS λ_=>usZ rfl
def O10:OkD tab prog 52 "endings" "Play.endings" ["self"] zd2:=zan ["self"] rfl (by decide +kernel) λ_ _ _ _ _ _=>usS λ_=>usZ rfl
def O12:OkD tab prog 53 "hand_at" "Play.hand_at" ["self","thing"] zd1:=zan ["self","thing"] rfl (by decide +kernel) λ_ _ _ _ _ _=>usS λ_=>usS λ_=>usZ rfl
def O11:OkD tab prog 54 "letters" "Play.letters" ["self"] zd0:=zan ["self"] rfl (by decide +kernel) λ_ _ _ _ _ _=>usS λ_=>usZ rfl
def O16:OkD tab prog 55 "story" "Kings.story" ["self","hand"] zeB:=zan ["self","hand"] rfl (by decide +kernel) λ_ _ _ _ _ _=>usS λ_=>usS λ_=>usZ rfl
def O14:OkE tab prog 56 ["self","many","bound","liars","lies"] zdZ:=zsZ ["self","many","bound","liars","lies"] rfl (by decide +kernel)
def O34:OkD tab prog 57 "__init__" "Hand.__init__" ["self","number","many","rounds"] zgq:=zan ["self","number","many","rounds"] rfl (by decide +kernel) λ_ _ _ _ _ _=>usS λ_=>usS λ_=>usS λ_=>usS λ_=>usZ rfl
def O31:OkD tab prog 58 "__init__" "Play.__init__" ["self","hands","town","rounds"] zgn:=zan ["self","hands","town","rounds"] rfl (by decide +kernel) λ_ _ _ _ _ _=>usS λ_=>usS λ_=>usS λ_=>usS λ_=>usZ rfl
end
section
open R
def plen(S:R.St)(o:MO):(S.push o).len=S.len+1:=by simp[St.push,St.len];lia
def W_ex{b:Type}{o:Out b}{Q:b->R.St->Prop}(h:W o Q):∃a T,o=.ok a T/\Q a T:=W.iff.mp h
noncomputable abbrev pD(p:List Int):D:=.tup (p.map .int)
def zuP{P:List Fn}{F:Fn}{f n:Nat}{ds:List D}{S b:R.St}{d:D}(h:P[f]?=Φ F)(hl:ds.length=F.np)(w:W (exS (callF P n) F.body (zaX F ds) S.enter) λr T=>wFin S r T λa c=>a=d/\c=b)(e:F.prim=Ψ:=by rfl) :
  app (callF P (n+1)) f ds S=.ok d b:=by
 refine W.eq ?_;rw[zo3 h hl e,zab];refine w.mono λr T q=>?_;unfold wFin at q;exact q
def zdH{cf:CF}{g:List Nat}{l:CL}{b r:CS}{δ:Ev}{S a:R.St}{xs:List D}{ls:List Nat}{Q:Fl->R.St->Prop}(h:evL cf l δ S=.ok (xs,ls) a)
  (w:W (zba g (exS cf b) xs δ {a with lk:=ls++a.lk}) λf T=>match f with|.nx δ'=>W (exS cf r δ' {T with lk:=a.lk}) Q|.rt d=>Q (.rt d) {T with lk:=a.lk}):W (exS cf (.forS g l b r) δ S) Q:=by
 show W (Out.bind _ _) _;rw[h,zat];unfold zbh;dsimp only;rw[zab,zab];refine w.mono λf T c=>?_;rw[W_ok];cases f with|nx δ'=>exact c|rt d=>exact c
def zct{n:Nat}{S:R.St}{ns:List Int}{k:Nat}:app (callF prog (n+1)) 23 [.fix (ns.map .int),.int k] S=.ok (.int (zbd ns k)) S:=by
 refine zaQ (F:=zc2) rfl rfl ?_;left;refine zbo (λc=>?_) (λc=>?_);have c:k<ns.length:=by simpa using c
 left;exists zdi (x:=D.int ns[k]) (by simp[c]);left;change by decide
 left;change by decide
 left;refine zaj rfl ⟨?_,rfl⟩;unfold zbd;rw[Ι c];rfl;have c:¬k<ns.length:=by simpa using c
 left;refine zaj rfl ⟨?_,rfl⟩;unfold zbd;rw[List.getElem?_eq_none (by lia)]
noncomputable abbrev Ly:=K3×Option Int
abbrev lD(l:Ly):D:=.tup [.int l.1.1,pD l.1.2.1,.int l.1.2.2,oD l.2]
def zlT(N:Nat)(p:List Int):flat N (pD p)=Γ:=by simp[zaH]
def zhR(N:Nat)(o:Option Int):flat N (oD o)=Γ:=by cases o<;>rfl
def zlU(N:Nat)(l:Ly):flat N (lD l)=Γ:=by unfold lD;rw[zcX,zaH];intro d a;simp![mem_cons,not_mem_nil,or_false]at a;rcases a with rfl|rfl|rfl|rfl;rfl;exact zlT _ _;rfl;exact zhR _ _
def znP(N:Nat)(ls:List Ly):flats N (ls.map lD)=Γ:=by rw[zaH];intro d a;let⟨l,_,rfl⟩:=mem_map.mp a;exact zlU _ _
def zqJ(l:Ly):lie4 (lD l)=Φ l:=by let⟨⟨a,p,b⟩,w⟩:=l;unfold lD lie4;dsimp only;rw[zbp];cases w<;>rfl
def zld:∀ls:List Ly,(ls.map lD).mapM lie4=Φ ls
 | []=>rfl|l::ls=>by rw[Ο,ϟ,zqJ,zld ls];rfl
abbrev atK(kvs:List Ly)(k:K3):Option (Option Int):=(kvs.find? λa=>decide (a.1=k)).map (·.2)
def zrp(kvs:List Ly)(k j:K3)(o:Option Int):atK (putW kvs k o) j=if j=k then Φ o else atK kvs j:=by
 unfold putW;by_cases c:k∈kvs.map (·.1);rw[if_pos c];induction kvs with
 |nil=>simp at c| cons x kvs g=>
  let⟨y,v⟩:=x;unfold atK at g⊢;rw[Ο];by_cases d:y=k;subst d;by_cases a:j=y;subst a;simp;have b:¬y=j:=λe=>a e.symm;rw[if_neg a];simp![if_true,List.find?_cons,b,decide_false];by_cases f:y∈kvs.map (·.1);have:=g f;rw[if_neg a]at this;exact this;have e:(kvs.map λx=>if x.1=y then(x.1,o) else x)=kvs:=by refine(Τ λx h=>?_).trans (List.map_id kvs);rw[if_neg λe=>f (mem_map.mpr ⟨x,h,e⟩)];rfl
  rw[e];have f:k∈kvs.map (·.1):=by rw[Ο]at c;rcases mem_cons.mp c with e|e;exact absurd e.symm d;exact e
  have:=g f;rw[if_neg d];by_cases a:y=j;subst a;rw[if_neg d];simp;simp![List.find?_cons,a,decide_false];exact this
 rw[if_neg c];unfold atK;rw[List.find?_append];by_cases a:j=k;subst a;have:(kvs.find? λi=>decide (i.1=j))=Ψ:=by rw[List.find?_eq_none];intro x h e;exact c (mem_map.mpr ⟨x,h,by simpa using e⟩)
 rw[this];simp;have b:¬k=j:=λe=>a e.symm;rw[if_neg a];simp[b]
abbrev zhG(k:K3):Option Int->List Ly->Option Int
 |w,[]=>w|w,l::a=>zhG k (if l.1=k then l.2 else w) a
def ziY(k:K3)(w:Option Int):∀(ls kvs:List Ly),(atK (zaA kvs ls) k).getD w=zhG k ((atK kvs k).getD w) ls
 | [],kvs=>rfl| l::ls,kvs=>by rw[zaA,zhG,ziY k w ls,zrp];by_cases h:k=l.1;rw[if_pos h,if_pos h.symm];rfl;rw[if_neg h,if_neg λe=>h e.symm]
def zrh(ls:List Ly)(t:Int)(p:List Int)(b:Int)(w:Option Int):zdp (.clo (zaA [] ls)) [.int t,pD p,.int b,oD w]=Φ (oD (zhG (t,p,b) w ls)):=by have:=ziY (t,p,b) w ls [];unfold zdp;dsimp only;rw[zbp,Option.map_some];congr 1;rw[show(atK [] (t,p,b)).getD w=w from rfl]at this;rw[<-this];unfold atK;cases(zaA [] ls).find? λa=>decide (a.1=(t,p,b)) with|none=>rfl|some a=>cases h:a.2<;>simp[h,wD,oD]
structure LyOk(m:Int)(x:Ly):Prop where
 t1:1<=x.1.1
 t2:x.1.1<=30
 p1:1<=x.1.2.1.length
 p7:x.1.2.1.length<=7
 pi:∀i∈x.1.2.1,0<=i/\i<m
 pn:x.1.2.1.Nodup
 hi:0<=x.1.2.2/\x.1.2.2<m
 hp:x.1.2.2∉x.1.2.1
 wd:∀i,x.2=Φ i->-10^60<i/\i<10^60
def zdF{n:Nat}{S:R.St}{i:Int}:app (callF prog (n+1)) 1 [.int i] S=.ok (.bl Γ) S:=by refine zaQ (F:=ze4) rfl rfl ?_;left;exists(show tyOf S.enter (.int i)=Φ "int" from rfl);left;exists(show tyOf S.enter (.int i)=Φ "int" from rfl);left;exact zaj rfl ⟨rfl,rfl⟩
def zkq{n:Nat}{S:R.St}{i m:Int}(h:0<=i/\i<m):app (callF prog (n+2)) 2 [.int i,.int m] S=.ok (.bl Γ) S:=by refine zaQ rfl rfl ?_;left;specialize zdF;left;refine zi1 (by simpa using h.1) ?_;left;exact zaj rfl ⟨by simp[h.2],rfl⟩
def zot{n:Nat}{S:R.St}{i:Int}(h:-10^60<i/\i<10^60):app (callF prog (n+2)) 3 [.int i] S=.ok (.bl Γ) S:=by
 refine zaQ rfl rfl ?_;left;specialize zdF;left;right;left;refine zaj rfl ⟨?_,rfl⟩;have:(if i<0 then -i else i)<(10:Int)^60:=by split<;>omega
 rw[show Int.toNat 60=60 from rfl,decide_eq_true this]
def zks{n:Nat}{S:R.St}{i lo a:Int}(b:lo<=i)(c:i<=a):app (callF prog (n+2)) 4 [.int i,.int lo,.int a] S=.ok (.int i) S:=by refine zaQ rfl rfl ?_;left;specialize zdF;left;refine zi1 (by simpa using b) ?_;left;refine zjY (by simpa using c) ?_;left;exact zaj rfl ⟨rfl,rfl⟩
def zfj{n:Nat}{S:R.St}{i m:Int}(h:0<=i/\i<m):app (callF prog (n+3)) 5 [.int i,.int m] S=.ok (.int i) S:=by refine zaQ rfl rfl ?_;left;specialize zkq h;left;exact zaj rfl ⟨rfl,rfl⟩
def znW{ns:List Int}(h:ns.Nodup):dedup ns=ns:=by
 suffices ∀(l a:List Int),(a++l).Nodup->l.foldl (λa x=>if a.contains x then a else a++[x]) a=a++l from this ns [] h
 intro l;induction l with
 |nil=>intro a _;simp| cons x l b=>
  intro a h;rw[List.foldl_cons];have c:a.contains x=Δ:=by have:=(nodup_append.mp h).2.2;simp![List.contains_eq_mem,decide_eq_false_iff_not];exact λd=>this x d x Μ rfl
  rw[c];simp![ύ,if_false];rw[b (a++[x]) (by simpa using h)];simp
def zn6(is:List Int)(f:D->D)(a:∀i,f (.int i)=.bl Γ):allD ((is.map D.int).map f)=Φ Γ:=by
 unfold allD;have:((is.map D.int).map f).mapM zg9=Φ (is.map λ_=>Γ):=by induction is with|nil=>rfl| cons q c b=>rw[Ο,Ο,ϟ,a q,b];rfl
 rw[this];simp
def zsk{n:Nat}{S:R.St}{p:List Int}{m:Int}(p1:1<=p.length)(p7:p.length<=7)(b:∀i∈p,0<=i/\i<m)(pn:p.Nodup):app (callF prog (n+3)) 18 [pD p,.int m] S=.ok (.bl Γ) S:=by
 refine zaQ rfl rfl ?_;left;exists(show tyOf S.enter (pD p)=Φ "tuple" from rfl);left;refine zi1 (by simp;lia) ?_;left;refine zjY (by simp;lia) ?_;left;refine zar ?_;refine W.of (zeG (λd=>.bl Γ) (p.map D.int) Ψ (λz a=>rfl) (λz a=>?_)) ?_;let⟨q,c,rfl⟩:=mem_map.mp a;refine W.eq (wE_W _ ?_);left;specialize zkq (b q c);left;exact⟨rfl,rfl⟩;left;change by simp;lia
 left;exists zn6 p _ (λ_=>rfl);left;exists zbp p;left;change by lia
 left;refine zaj rfl ⟨?_,rfl⟩;rw[znW pn];simp
def zsi{n:Nat}{S:R.St}{t:Int}(a:1<=t)(b:t<=30):app (callF prog (n+2)) 22 [.int t] S=.ok (.bl Γ) S:=by refine zaQ rfl rfl ?_;left;specialize zdF;left;refine zi1 (by simpa using a) ?_;left;exact zaj rfl ⟨by simp[b],rfl⟩
def zlK(S:R.St)(x:Int)(ks:List Int):cmpO S .In (.int x) (.tup (ks.map .int))=Φ (decide (x∈ks)):=ziI S x ks
def zua{n:Nat}{S:R.St}{x:Ly}{m:Int}(h:LyOk m x):app (callF prog (n+4)) 21 [lD x,.int m] S=.ok (.bl Γ) S:=by let⟨⟨t,p,q⟩,w⟩:=x;let⟨a,b,c,d,e,f,g,j,k⟩:=h;refine zaQ rfl rfl ?_;left;exists(show tyOf S.enter (lD ((t,p,q),w))=Φ "tuple" from rfl);left;left;exists zhf;left;specialize zsi a b;left;exists zjQ;left;specialize zsk c d e f;left;exists(show atI [.int t,pD p,.int q,oD w] 2=Φ (.int q) from rfl);left;specialize zkq g;left;exists(show atI [.int t,pD p,.int q,oD w] 2=Φ (.int q) from rfl);left;exists zjQ;left;exists zlK _ q p;left;refine zjY (by simpa using j) ?_;left;exists(show atI [.int t,pD p,.int q,oD w] 3=Φ (oD w) from rfl);left;cases w with| none=>left;exact zaj rfl ⟨rfl,rfl⟩| some i=>left;exists(show atI [.int t,pD p,.int q,oD (Φ i)] 3=Φ (oD (Φ i)) from rfl);left;specialize zot (k i rfl);left;exact zaj rfl ⟨rfl,rfl⟩
def zqG{S:R.St}{l:Nat}{ks:List Int}(h:S.get l=Φ (.lst (ks.map .int))):lstI S (.ref l)=Φ ks:=by unfold lstI;dsimp only;rw[h];exact zbp ks
abbrev liZ(hs:List Int):List Int:=zfi (dedup hs)
def znV(ns:List Int):(dedup ns).length<=ns.length:=by
 unfold dedup;suffices ∀(l a:List Int),(l.foldl (λa x=>if a.contains x then a else a++[x]) a).length<=a.length+l.length from by simpa using this ns []
 intro l;induction l with|nil=>intro a;simp| cons x l b=>intro a;rw[List.foldl_cons];refine le_trans (b _) ?_;split<;>simp<;>lia
def zqK(hs:List Int):(liZ hs).length<=hs.length:=by unfold liZ;rw[(zcf _).length_eq];exact znV hs
def zpP{n l:Nat}{S:R.St}{m:Int}{hs:List Int}(h:S.get l=Φ (.lst (hs.map .int)))(b:∀i∈hs,0<=i/\i<m)(hl:hs.length<=60):app (callF prog (n+4)) 19 [.int m,.ref l] S=.ok (pD (liZ hs)) S:=by
 refine zaQ (F:=zc1) rfl rfl ?_;left;refine zaB h ?_;left;refine zar ?_;refine W.of (zeG (λd=>d) (hs.map D.int) Ψ (λz a=>rfl) (λz a=>?_)) ?_;let⟨q,c,rfl⟩:=mem_map.mp a;refine W.eq (wE_W _ ?_);left;specialize zfj (n:=n) (b q c);left;exact⟨rfl,rfl⟩;rw[List.map_id'];left;change by simp;lia
 left;change by simp;lia
 left;exists zqG (ziK _ _ _);left;change by lia
 left;have:=zqK hs;unfold liZ at this;change by simp;lia
 left;refine zas rfl ?_;left;change by simp;lia
 left;exact zaj (by simp) ⟨rfl,rfl⟩
def zq7{S:R.St}{l:Nat}{xs:List D}(h:S.get l=Φ (.lst xs)):zdo S (.ref l)=Φ (xs.mapIdx λi d=>zhC (.int i) d,[l]):=by unfold zdo;dsimp only;rw[h]
def zsl{n l:Nat}{S:R.St}{m:Int}{Ls:List Ly}(h:S.get l=Φ (.lst (Ls.map lD)))(g:∀x∈Ls,LyOk m x)(hl:Ls.length<=1000):app (callF prog (n+5)) 20 [.int m,.ref l] S=.ok (.tup (Ls.map lD)) S:=by
 refine zaQ (F:=zdt) rfl rfl ?_;left;exists zq7 (zde h _ _);left;refine zar ?_;refine W.mono (zaw (λi b T=>(∃u v:Option D,b=[Φ (.int m),Φ (.ref l),u,v])/\T=⟨S.frz++S.new,[],[l]⟩) (λ_ _=>False) _ 0 _ _ ⟨⟨Ψ,Ψ,rfl⟩,rfl⟩ ?_) ?_;rintro i z b T a ⟨⟨u,v,rfl⟩,rfl⟩;rw[List.getElem?_mapIdx,getElem?_map]at a;cases e:Ls[i]? with
 |none=>rw[e]at a;exact nS a
 |some x=>rw[e]at a;cases a;refine⟨[Φ (.int m),Φ (.ref l),Φ (.int i),Φ (lD x)],rfl,?_⟩;refine wS_W _ ?_;left;specialize(zua (n:=n) (g x (mem_of_getElem? e)));left;exact⟨⟨_,_,rfl⟩,rfl⟩
 rintro f T c;cases f with
 |rt d=>exact c.elim| nx b=>
  let⟨⟨u,v,rfl⟩,rfl⟩:=c;left;refine zaB h ?_;left;change by simp;lia
  left;refine zaj ?_ ⟨rfl,rfl⟩;rw[zcX,zaH];intro d j;let⟨x,_,rfl⟩:=mem_map.mp j;exact zlU _ x
abbrev hD(m b i s:Int)(w h:Option Int)(k:Int)(l:Nat):MO:=.ins 1 [("number",.int i),("many",.int m),("rounds",.int (1+3*(b+1))),("bound",.int b),("sender",.int s),("word",oD w),("held",oD h),("backing",.int k),("holdings",.ref l)]
section
variable{S:R.St}{a l:Nat}{m b i s k:Int}{w h:Option Int}
def zau{c:Nat}{d:List (PySem.Str×D)}(e:S.get a=Φ (.ins c d)):zbY S (.ref a)=Φ (c,d):=by unfold zbY;dsimp only;rw[e]
def zaE{c:Nat}{d:List (PySem.Str×D)}{f:PySem.Str}{v:D}(e:S.get a=Φ (.ins c d))(g:d.lookup f=Φ v):((zbY S (.ref a)).bind λp=>p.2.lookup f)=Φ v:=by rw[zau e];exact g
def zbv(e:S.get a=Φ (hD m b i s w h k l)):((zbY S (.ref a)).bind λp=>p.2.lookup ("number":PySem.Str))=Φ (.int i):=zaE e rfl
def zeW(e:S.get a=Φ (hD m b i s w h k l)):((zbY S (.ref a)).bind λp=>p.2.lookup ("many":PySem.Str))=Φ (.int m):=zaE e rfl
def znQ(e:S.get a=Φ (hD m b i s w h k l)):((zbY S (.ref a)).bind λp=>p.2.lookup ("rounds":PySem.Str))=Φ (.int (1+3*(b+1))):=zaE e rfl
def zhS(e:S.get a=Φ (hD m b i s w h k l)):((zbY S (.ref a)).bind λp=>p.2.lookup ("bound":PySem.Str))=Φ (.int b):=zaE e rfl
def zfQ(e:S.get a=Φ (hD m b i s w h k l)):((zbY S (.ref a)).bind λp=>p.2.lookup ("sender":PySem.Str))=Φ (.int s):=zaE e rfl
def zdn(e:S.get a=Φ (hD m b i s w h k l)):((zbY S (.ref a)).bind λp=>p.2.lookup ("held":PySem.Str))=Φ (oD h):=zaE e rfl
def zlW(e:S.get a=Φ (hD m b i s w h k l)):((zbY S (.ref a)).bind λp=>p.2.lookup ("backing":PySem.Str))=Φ (.int k):=zaE e rfl
def zeX(e:S.get a=Φ (hD m b i s w h k l)):((zbY S (.ref a)).bind λp=>p.2.lookup ("holdings":PySem.Str))=Φ (.ref l):=zaE e rfl
def zby{P:List Fn}{F:Fn}{f n:Nat}{ds:List D}{S:R.St}{Q:D->R.St->Prop}(h:P[f]?=Φ F)(hl:ds.length=F.np)(w:W (exS (callF P n) F.body (zaX F ds) S) λr T=>match r with|.nx _=>Q .non T|.rt d=>Q d T)(c:F.prim=Ψ:=by rfl):W (appW (callF P (n+1)) f ds S) Q:=by unfold appW;simp![callF,h,hl,c,if_true,zab];refine w.mono λr T q=>?_;cases r<;>exact q
def zbs{P:List Fn}{F:Fn}{f n:Nat}{ds:List D}{S c:R.St}{d:D}(h:P[f]?=Φ F)(hl:ds.length=F.np)(w:wS (callF P n) F.body (zaX F ds) S λr T=>match r with|.nx _=>D.non=d/\T=c|.rt z=>z=d/\T=c)(e:F.prim=Ψ:=by rfl):appW (callF P (n+1)) f ds S=.ok d c:=by refine W.eq (zby h hl ((wS_W _ w).mono λr T q=>?_) e);cases r<;>exact q
abbrev zbc(m t:Int):Int:=(t-2)/3%m
def zoJ{n:Nat}{t:Int}(e:S.get a=Φ (hD m b i s w h k l))(c:0<m):appW (callF prog (n+1)) 46 [.ref a,.int t] S=.ok (.int (zbc m t)) S:=by
 refine zbs (F:=zbx) rfl rfl ?_;left
 repeat (first|(right;conv=>whnf)|(refine zas rfl ?_;conv=>whnf)|(refine zaR rfl ?_;conv=>whnf)|(refine zaB (by assumption) ?_;conv=>whnf))
 exists zeW e;left;change c;left;exact⟨rfl,rfl⟩
def zkm{n:Nat}{t:Int}:app (callF prog (n+1)) 16 [.int t] S=.ok (.int ((t-2)%3)) S:=by
 refine zaQ (F:=zg3) rfl rfl ?_;left
 repeat (first|(right;conv=>whnf)|(refine zas rfl ?_;conv=>whnf)|(refine zaR rfl ?_;conv=>whnf)|(refine zaB (by assumption) ?_;conv=>whnf))
 exact zaj rfl ⟨rfl,rfl⟩
abbrev wrZ(m s t:Int):List Int:=if t=1 then [s] else if(t-2)%3=2 then [zbc m t] else(List.range m.toNat).map λ(k:Nat)=>(k:Int)
def zk7{n:Nat}{t:Int}(e:S.get a=Φ (hD m b i s w h k l))(f:0<m)(g:m<=7):appW (callF prog (n+2)) 49 [.ref a,.int t] S=.ok (.ref S.len) (S.push (.lst ((wrZ m s t).map .int))):=by
 refine zbs rfl rfl ?_;unfold wrZ;left;refine zbo (λc=>?_) (λc=>?_);left;exists zfQ e;left;right;left;rw[if_pos c];exact⟨rfl,rfl⟩;rw[if_neg c];left;specialize zkm;left;refine zbo (λd=>?_) (λd=>?_);rw[if_pos d];left;exists zau e;left;exists rfl;left;change rfl;left;specialize zoJ e f;left;right;left;exact⟨rfl,rfl⟩;rw[if_neg d];left;exists zeW e;left;change by lia
 left;change by simp;lia
 left;rw[map_map];exact⟨rfl,rfl⟩
abbrev rwD(i:Int)(h:Option Int)(o:Int):D:=.tup [.tup [.int i],.int o,oD h]
abbrev rg(m:Int):List Int:=(List.range m.toNat).map λ(k:Nat)=>(k:Int)
abbrev sayL(m i:Int)(h:Option Int)(y:Bool):List D:=if y then((rg m).filter λo=>!decide (o=i)).map (rwD i h) else []
abbrev sayS(S:R.St)(m i s t:Int):R.St:=S.push (.lst ((wrZ m s t).map .int))
def zbr(p:Int->Bool)(f:Int->D)(q:D->Bool)(g:D->D)(c:∀o,q (.int o)=p o)(d:∀o,g (.int o)=f o):∀xs:List Int,((xs.map D.int).filter q).map g=(xs.filter p).map f
 | []=>rfl| x::xs=>by rw[Ο,List.filter_cons,List.filter_cons,c];cases p x with|true=>simp![if_true,Ο,d];rw[zbr p f q g c d xs]|false=>simpa using zbr p f q g c d xs
def zs6{n:Nat}{t:Int}(e:S.get a=Φ (hD m b i s w h k l))(p:0<m)(f:m<=7):appW (callF prog (n+3)) 47 [.ref a,.int t] S=.ok (.ref (sayS S m i s t).len) ((sayS S m i s t).push (.lst (sayL m i h (decide (i∈wrZ m s t))))):=by
 refine zbs rfl rfl ?_;have e1:(sayS S m i s t).get a=Φ (hD m b i s w h k l):=zae e;left;exists zbv e;left;exists zau e;left;exists rfl;left;change rfl;left;specialize zk7 e p f;left;exists zk4 (zak _ _) i;left;refine zhi (λc=>?_) (λc=>?_);rw[ϝ]at c;rw[c];left;right;left;exact⟨rfl,rfl⟩;rw[Bool.not_eq_false']at c;rw[c];left;exists zeW e1;left;change by lia
 left;refine zar ?_;refine W.of (za6 (λd=>match d with|.int o=>!decide (o=i)|_=>Δ) (λd=>match d with|.int o=>rwD i h o|d=>d) _ Ψ (λz g=>?_) (λz g _=>?_)) ?_;let⟨o,_,rfl⟩:=mem_map.mp g;refine W.eq (wT_W _ ?_);left;exists zbv e1;left;exact⟨rfl,rfl⟩;let⟨o,_,rfl⟩:=mem_map.mp g;refine W.eq (wE_W _ ?_);left;exists zbv e1;left;right;left;exists zdn e1;left;right;left;exact⟨rfl,rfl⟩;have q:((List.range m.toNat).map λ(k:Nat)=>D.int (k:Int))=(rg m).map .int:=by unfold rg;rw[map_map];rfl
 rw[q,zbr (λo=>!decide (o=i)) (rwD i h) _ _ (λo=>rfl) (λo=>rfl)];have j:(((rg m).filter λo=>!decide (o=i)).map (rwD i h)).length<=7:=by rw[length_map];refine le_trans (length_filter_le _ _) ?_;unfold rg;rw[length_map,length_range];lia
 change le_trans j (by decide);left;change le_trans j (by decide);left;exact⟨rfl,rfl⟩
abbrev ltD(x:Int×Option Int):D:=.tup [.tup [.int x.1],oD x.2]
def zb0{cf:CF}{T:R.St}:∀(Ls:List (Int×Option Int))(u v:Option D),zay [0,1] (evT cf (.tst (.con (.bl Γ)))) (evE cf J1) (Ls.map ltD) [u,v] T=.ok ((Ls.map (·.2)).map oD) T
 | [],u,v=>rfl| x::Ls,u,v=>by have c:=zb0 (cf:=cf) (T:=T) Ls (Φ (.tup [.int x.1])) (Φ (oD x.2));simp![Ο,ltD,zay,asgG,zeu,List.set_cons_zero,List.set_cons_succ];show Out.bind (.ok Γ T) _=_;rw[zat,if_pos rfl];show Out.bind (.ok (oD x.2) T) _=_;rw[zat,c,zat]
abbrev wsZ(h:Option Int)(Ls:List (Int×Option Int)):List (Option Int):=h::Ls.map (·.2)
abbrev awS(S:R.St)(h:Option Int)(Ls:List (Int×Option Int)):R.St:=(S.push (.lst [oD h])).push (.lst ((Ls.map (·.2)).map oD))
def zk8{n q:Nat}{Ls:List (Int×Option Int)}(e:S.get a=Φ (hD m b i s w h k l))(c:S.get q=Φ (.lst (Ls.map ltD)))(hl:Ls.length<=60):appW (callF prog (n+1)) 40 [.ref a,.ref q] S=.ok (.ref (awS S h Ls).len) ((awS S h Ls).push (.lst ((wsZ h Ls).map oD))):=by
 refine zbs rfl rfl ?_;left;exists zdn e;left;right;left;exists zae c;left;refine zar ?_;refine W.of (zb0 Ls Ψ Ψ) ?_;change by simp![length_map];lia
 left;change by simp![length_map];lia
 left;exists zae (zak _ _);left;exists zak _ _;left;change by simp![length_append,length_map,Ρ,Ϡ];lia
 left;exact⟨rfl,rfl⟩
def zqA{n:Nat}{c:List (Option Int)}(e:S.get a=Φ (hD m b i s w h k l))(d:S.get l=Φ (.lst (c.map oD)))(hl:c.length<=1000):appW (callF prog (n+1)) 48 [.ref a] S=.ok (.ref S.len) (S.push (.lst (c.map oD))):=by
 refine zbs rfl rfl ?_;left;exists zeX e;left;exists d;left;change by simp![length_map];lia
 left;exact⟨rfl,rfl⟩
end
abbrev strR(os:List (Option Int))(k:Int):D:=match zaW (zaf [] os) with|r::_=>if k<=r.2 then .int r.1 else .non | []=>.non
def zif{n l:Nat}{S:R.St}{os:List (Option Int)}{k:Int}(h:S.get l=Φ (.lst (os.map oD)))(b:(zaf [] os).length<64)(hl:os.length<=16777216):app (callF prog (n+5)) 9 [.ref l,.int k] S=.ok (strR os k) S:=by
 refine zaQ rfl rfl ?_;left;specialize zmq rfl rfl rfl (by rw[zaP];exact h) b hl;left;unfold talD strR;generalize zaW (zaf [] os)=a;cases a with
 |nil=>
  repeat (first|(right;conv=>whnf)|(refine zas rfl ?_;conv=>whnf)|(refine zaR rfl ?_;conv=>whnf)|(refine zaB (by assumption) ?_;conv=>whnf))
  exact zaj rfl ⟨rfl,rfl⟩
 |cons r a=>
  repeat (first|(right;conv=>whnf)|(refine zas rfl ?_;conv=>whnf)|(refine zaR rfl ?_;conv=>whnf)|(refine zaB (by assumption) ?_;conv=>whnf))
  exists(zhf);left;exists zjQ;left;refine zbo (λc=>?_) (λc=>?_)
  . left
    repeat (first|(right;conv=>whnf)|(refine zas rfl ?_;conv=>whnf)|(refine zaR rfl ?_;conv=>whnf)|(refine zaB (by assumption) ?_;conv=>whnf))
    exists(zhf);left;exists zhf;left;exact zaj rfl ⟨by dsimp only;rw[if_pos c],rfl⟩
  left;exact zaj rfl ⟨by dsimp only;rw[if_neg c],rfl⟩
abbrev stZ(os:List (Option Int))(k:Int):Option Int:=match zaW (zaf [] os) with|r::_=>if k<=r.2 then Φ r.1 else Ψ | []=>Ψ
def zoh{os:List (Option Int)}{k:Int}(a:1<=k):strR os k=oD (stZ os k):=by
 unfold strR stZ;split
 . split<;>rfl
 rfl
def zpL{n l:Nat}{S:R.St}{os:List (Option Int)}{v:Int}(h:S.get l=Φ (.lst (os.map oD))):app (callF prog (n+1)) 7 [.ref l,.int v] S=.ok (.int (cntZ os (Φ v))) S:=by refine zaQ rfl rfl ?_;left;refine zaB h ?_;left;refine zaB h ?_;left;exists ze7 os;left;exact zaj rfl ⟨rfl,rfl⟩
def zl0{a:Type}{xs:List a}{i:Nat}{x:a}(h:xs[i]?=Φ x):xs.drop i=x::xs.drop (i+1):=by let⟨b,rfl⟩:=Α.mp h;exact List.drop_eq_getElem_cons b
structure Mv(A:List Nat)(S T:R.St):Prop where
 frz:T.frz=S.frz
 lk:T.lk=S.lk
 len:S.len<=T.len
 old:∀m o,m∉A->S.get m=Φ o->T.get m=Φ o
def Mv.refl(A:List Nat)(S:R.St):Mv A S S:=⟨rfl,rfl,le_refl _,λ_ _ _ h=>h⟩
def Mv.trans{A:List Nat}{S T U:R.St}(a:Mv A S T)(b:Mv A T U):Mv A S U:=⟨b.frz.trans a.frz,b.lk.trans a.lk,le_trans a.len b.len,λm o h e=>b.old m o h (a.old m o h e)⟩
def Mv.push(A:List Nat)(S:R.St)(o:MO):Mv A S (S.push o):=⟨rfl,rfl,by rw[plen];lia,λ_ _ _ e=>zae e⟩
def Mv.up{A B:List Nat}{S T:R.St}(h:Mv A S T)(s:∀m,m∈A->m∈B):Mv B S T:=⟨h.frz,h.lk,h.len,λm o a e=>h.old m o (λz=>a (s m z)) e⟩
def get_lt{S:R.St}(h:S.get l=Φ o):l<S.len:=by unfold St.get at h;unfold St.len;split at h;lia;have:=(Α.mp h).1;lia
structure Fr(S:R.St)(a:Nat):Prop where
 f:S.frz.length<=a
 k:S.lk.contains a=Δ
def Fr.mv{A:List Nat}{S T:R.St}{a:Nat}(h:Fr S a)(v:Mv A S T):Fr T a:=⟨by rw[v.frz];exact h.f,by rw[v.lk];exact h.k⟩
def zaY{S:R.St}{a c:Nat}{b gs:List (PySem.Str×D)}{f:PySem.Str}{v:D}(e:S.get a=Φ (.ins c b))(d:Fr S a)(hl:b.length<1000)(g:zkK f v b=gs):∃T,zbT S (.ref a) f v=Φ T/\Mv [a] S T/\T.get a=Φ (.ins c gs):=by let⟨T,h,i,j,q,k,n⟩:=zft (S:=S) (l:=a) (.ins c gs) d.f d.k;refine⟨T,?_,⟨i,j,by lia,λm o p e=>by rw[k m (by simpa using p)];exact e⟩,n (get_lt e)⟩;unfold zbT;dsimp only;rw[e];dsimp only;rw[if_pos hl,g,h]
section
variable{S:R.St}{a l:Nat}{m b i s k:Int}{w h:Option Int}
def zcL{h':Option Int}(e:S.get a=Φ (hD m b i s w h k l))(c:Fr S a):∃T,zbT S (.ref a) "held" (oD h')=Φ T/\Mv [a] S T/\T.get a=Φ (hD m b i s w h' k l):=zaY e c (by simp) rfl
def zdO{k':Int}(e:S.get a=Φ (hD m b i s w h k l))(c:Fr S a):∃T,zbT S (.ref a) "backing" (.int k')=Φ T/\Mv [a] S T/\T.get a=Φ (hD m b i s w h k' l):=zaY e c (by simp) rfl
def zq4(S:R.St)(x y:Int):cmpO S .Eq (.tup [.int x]) (.tup [.int y])=Φ (x==y):=by show eqD S (.tup [.int x]) (.tup [.int y])=_;show Φ (PySem.PyData.eqv (.tuple [.int x]) (.tuple [.int y]))=_;simp[PySem.PyData.eqv,PySem.PyData.eqvAll,L2.eqv_int]
end
abbrev wfZ(s:Int):List (Int×Option Int)->Int
 | []=>0|x::r=>match x.2 with|some v=>if x.1=s then v else wfZ s r|none=>wfZ s r
def s_wf{n q:Nat}{S:R.St}{s:Int}{Ls:List (Int×Option Int)}(h:S.get q=Φ (.lst (Ls.map ltD))):app (callF prog (n+1)) 17 [.int s,.ref q] S=.ok (.int (wfZ s Ls)) S:=by
 refine zaQ (F:=zel) rfl rfl ?_;left;refine zaB h ?_;left;refine zar ?_;refine W.mono (zaw (λi g T=>T=⟨S.frz++S.new,[],[q]⟩/\wfZ s (Ls.drop i)=wfZ s Ls/\∃j k,g=[Φ (.int s),Φ (.ref q),j,k]) (λd _=>d=.int (wfZ s Ls)) _ 0 _ _ ⟨rfl,rfl,Ψ,Ψ,rfl⟩ ?_) ?_;rintro i z g T b ⟨rfl,a,j,k,rfl⟩;rw[zero_add];rw[getElem?_map]at b;cases e:Ls[i]? with
 |none=>rw[e]at b;exact nS b
 |some x=>
  rw[e]at b;cases b;rw[zero_add,zl0 e]at a;refine⟨_,rfl,wS_W _ ?_⟩;left;right;left;exists zq4 _ _ _;left;refine zhi (λc=>?_) (λc=>?_);have c:x.1=s:=by simpa using c
  cases e2:x.2 with| none=>left;refine⟨rfl,?_,_,_,rfl⟩;rw[<-a];simp[wfZ,e2]| some v=>left;rw[<-a];simp[wfZ,e2,c,oD]
  . have c:x.1≠s:=by simpa using c
    left;refine⟨rfl,?_,_,_,rfl⟩;rw[<-a];cases e2:x.2<;>simp[wfZ,e2,c]
 intro f T l;cases f with| nx g=>let⟨rfl,a,j,k,rfl⟩:=l;left;refine zaj rfl ⟨?_,rfl⟩;rw[<-a];simp[wfZ]| rt d=>subst l;exact zaj rfl ⟨rfl,rfl⟩
abbrev lst1(m b:Int):Int:=if 1>m-b then 1 else m-b
def ziC(m b:Int):1<=lst1 m b:=by unfold lst1;split<;>lia
abbrev bkZ(os:List (Option Int))(b:Int):Int:=match stZ os (b+1) with|none=>0|some v=>cntZ os (Φ v)
abbrev kgZ(m b i t:Int)(h:Option Int)(k:Int)(Ls:List (Int×Option Int)):Option Int:=if(h.isSome&&decide (m-b<=k))=Γ then h else if i≠zbc m t then Φ (wfZ (zbc m t) Ls) else Φ (h.getD 0)
abbrev hrZ(m b i s t:Int)(h:Option Int)(k:Int)(Ls:List (Int×Option Int)):Option Int×Int:=if t=1 then(if i≠s then Φ (wfZ s Ls) else h,k) else if(t-2)%3=0 then(stZ (wsZ h Ls) (lst1 m b),k) else if(t-2)%3=1 then(stZ (wsZ h Ls) (b+1),bkZ (wsZ h Ls) b) else(kgZ m b i t h k Ls,k)
section
variable{S:R.St}{a l:Nat}{m b i s k:Int}{w h:Option Int}
def zoD{Ls:List (Int×Option Int)}(hl:Ls.length<=60):(zaf [] (wsZ h Ls)).length<64/\(wsZ h Ls).length<=16777216:=by
 have:=zeY (wsZ h Ls);have e:(wsZ h Ls).length=Ls.length+1:=by simp[wsZ]
 lia
def m_hs{n q:Nat}{Ls:List (Int×Option Int)}(e:S.get a=Φ (hD m b i s w h k l))(f:Fr S a)(g:S.get q=Φ (.lst (Ls.map ltD))):W (appW (callF prog (n+2)) 45 [.ref a,.ref q] S) λd T=>Mv [a] S T/\T.get a=Φ (hD m b i s w (if i≠s then Φ (wfZ s Ls) else h) k l):=by
 refine zby (F:=za4) rfl rfl (wS_W _ ?_);left;exists zbv e;left;exists zfQ e;left;refine zhi (λc=>?_) (λc=>?_);have c:i≠s:=by simpa using c
 left;exists zfQ e;left;specialize(s_wf (n:=n) (s:=s) g);left;let⟨T,j,o,p⟩:=zcL (h':=Φ (wfZ s Ls)) e f;exists j;left;rw[if_pos c];exact⟨o,p⟩;have c:¬i≠s:=by simpa using c
 left;rw[if_neg c];exact⟨Mv.refl _ _,e⟩
def m_hb{n q:Nat}{Ls:List (Int×Option Int)}(e:S.get a=Φ (hD m b i s w h k l))(z:Fr S a)(A:S.get q=Φ (.lst (Ls.map ltD)))(hl:Ls.length<=60)(L:0<=b):W (appW (callF prog (n+6)) 43 [.ref a,.ref q] S) λd T=>Mv [a] S T/\T.get a=Φ (hD m b i s w (stZ (wsZ h Ls) (b+1)) (bkZ (wsZ h Ls) b) l):=by
 refine zby (F:=za1) rfl rfl (wS_W _ ?_);let⟨B,C⟩:=zoD (h:=h) hl;have g:Mv [a] S ((awS S h Ls).push (.lst ((wsZ h Ls).map oD))):=((Mv.push _ _ _).trans (Mv.push _ _ _)).trans (Mv.push _ _ _);have e1:((awS S h Ls).push (.lst ((wsZ h Ls).map oD))).get a=Φ (hD m b i s w h k l):=zae (zae (zae e));have t:=z.mv g;have u:((awS S h Ls).push (.lst ((wsZ h Ls).map oD))).get (awS S h Ls).len=Φ (.lst ((wsZ h Ls).map oD)):=zak _ _;left;exists zau e;left;exists rfl;left;change rfl;left;specialize zk8 (n:=n+4) e A hl;left;generalize E:(awS S h Ls).push (.lst ((wsZ h Ls).map oD))=M at *;left;exists zhS e1;left;specialize(zif (n:=n) (k:=b+1) u B C).trans (by rw[zoh (by lia)]);left;let⟨G,I,f,c⟩:=zcL (h':=stZ (wsZ h Ls) (b+1)) e1 t;exists I;left;exists zdn c;left;have x:=t.mv f;have j:G.get (awS S h Ls).len=Φ (.lst ((wsZ h Ls).map oD)):=f.old _ _ (by
  have:=get_lt e;simp![mem_singleton];unfold awS;rw[plen,plen];lia) u
 unfold bkZ;cases y:stZ (wsZ h Ls) (b+1) with| none=>rw[y]at c;left;let⟨J,o,p,r⟩:=zdO (k':=0) c x;exists o;left;exact⟨(g.trans f).trans p,r⟩| some v=>rw[y]at c;left;exists zdn c;left;specialize zpL (n:=n+4) (v:=v) j;left;let⟨J,o,p,r⟩:=zdO (k':=cntZ (wsZ h Ls) (Φ v)) c x;exists o;left;exact⟨(g.trans f).trans p,r⟩
def m_hk{n q:Nat}{t:Int}{Ls:List (Int×Option Int)}(e:S.get a=Φ (hD m b i s w h k l))(p:Fr S a)(u:S.get q=Φ (.lst (Ls.map ltD)))(x:0<m):W (appW (callF prog (n+2)) 44 [.ref a,.int t,.ref q] S) λd T=>Mv [a] S T/\T.get a=Φ (hD m b i s w (kgZ m b i t h k Ls) k l):=by
 refine zby (F:=zbi) rfl rfl (wS_W _ ?_);have f:wS (callF prog (n+1)) (.asg 3 (.meth "king_of" [(1,46)] J0 #[J1]) (.ifS (.cmp .NotEq (.fld J0 "number") J3) (.setF J0 "held" (.call 17 0 #[J3,J2]) .nil) (.ifS (.cmp .Is (.fld J0 "held") (.con D.non)) (.setF J0 "held" V0 .nil) .nil .nil) .nil)) [Φ (.ref a),Φ (.int t),Φ (.ref q),Ψ] S λr T=>match r with|.nx _=>Mv [a] S T/\T.get a=Φ (hD m b i s w (if i≠zbc m t then Φ (wfZ (zbc m t) Ls) else Φ (h.getD 0)) k l)|.rt _=>Mv [a] S T/\T.get a=Φ (hD m b i s w (if i≠zbc m t then Φ (wfZ (zbc m t) Ls) else Φ (h.getD 0)) k l):=by
  left;exists zau e;left;exists rfl;left;change rfl;left;specialize zoJ (n:=n) e x;left;exists zbv e;left;refine zhi (λc=>?_) (λc=>?_);have c:i≠zbc m t:=by simpa using c
  left;specialize(s_wf (n:=n) (s:=zbc m t) u);left;let⟨T,g,j,o⟩:=zcL (h':=Φ (wfZ (zbc m t) Ls)) e p;exists g;left;rw[if_pos c];exact⟨j,o⟩;have c:¬i≠zbc m t:=by simpa using c
  rw[if_neg c];left;exists zdn e;left;cases h with| none=>left;let⟨T,g,j,o⟩:=zcL (h':=Φ 0) e p;exists g;left;exact⟨j,o⟩| some v=>left;exact⟨Mv.refl _ _,e⟩
 unfold kgZ;cases h with| none=>left;exists zdn e;left;rw[if_neg (by simp)];exact f| some v=>left;exists zdn e;left;exists zlW e;left;exists zeW e;left;exists zhS e;left;refine zbo (λc=>?_) (λc=>?_);left;rw[if_pos (by simpa using c)];exact⟨Mv.refl _ _,e⟩;rw[if_neg (by simpa using c)];exact f
def ztq{n:Nat}{f g:Option D}{c:List (Option Int)}{Q:Fl->R.St->Prop}(e:S.get a=Φ (hD m b i s w h k l))(d:S.get l=Φ (.lst (c.map oD)))(j:Fr S l)(hl:c.length<=1000)
  (q:∀U,Mv [l] S U->U.get l=Φ (.lst ((c++[h]).map oD))->Q (.nx [Φ (.ref a),f,g]) U):wS (callF prog n) (.expr (.mt .append (.fld J0 "holdings") #[.fld J0 "held"]) .nil) [Φ (.ref a),f,g] S Q:=by
 let⟨U,p,r,t,z,u,v⟩:=zft (S:=S) (l:=l) (.lst ((c++[h]).map oD)) j.f j.k;have x:c.map oD++[oD h]=(c++[h]).map oD:=by simp
 left;exists zeX e;left;exists d;left;exists zdn e;left;exists d;left;change by simp![length_append,length_map,Ρ,Ϡ];lia
 left;exists by rw[x];exact p
 exact q U ⟨r,t,by lia,λm o y e=>by rw[u m (by simpa using y)];exact e⟩ (v (get_lt d))
def zoK{n q:Nat}{t:Int}{j:List (Option Int)}{Ls:List (Int×Option Int)}(e:S.get a=Φ (hD m b i s w h k l))(p:Fr S a)(u:S.get q=Φ (.lst (Ls.map ltD)))(J:S.get l=Φ (.lst (j.map oD)))(L:Fr S l)(o:l≠a)(x:j.length<=1000)(hl:Ls.length<=60)(M:0<=b)(N:0<m) :
  W (appW (callF prog (n+7)) 42 [.ref a,.int t,.ref q] S) λd T=>d=.non/\Mv [a,l] S T/\T.get a=Φ (hD m b i s w (hrZ m b i s t h k Ls).1 (hrZ m b i s t h k Ls).2 l)/\T.get l=Φ (.lst ((j++[(hrZ m b i s t h k Ls).1]).map oD)):=by
 refine zby (F:=zce) rfl rfl (wS_W _ ?_);let⟨y,z⟩:=zoD (h:=h) hl;have c:∀(T:R.St)(h':Option Int)(A:Int),Mv [a] S T->T.get a=Φ (hD m b i s w h' A l)->hrZ m b i s t h k Ls=(h',A)->
   wS (callF prog (n+6)) (.expr (.mt .append (.fld J0 "holdings") #[.fld J0 "held"]) .nil) [Φ (.ref a),Φ (.int t),Φ (.ref q)] T λr T=>match r with|.nx _=>D.non=.non/\Mv [a,l] S T/\T.get a=Φ (hD m b i s w (hrZ m b i s t h k Ls).1 (hrZ m b i s t h k Ls).2 l)/\T.get l=Φ (.lst ((j++[(hrZ m b i s t h k Ls).1]).map oD))|.rt d=>d=.non/\Mv [a,l] S T/\T.get a=Φ (hD m b i s w (hrZ m b i s t h k Ls).1 (hrZ m b i s t h k Ls).2 l)/\T.get l=Φ (.lst ((j++[(hrZ m b i s t h k Ls).1]).map oD))
    :=by
  intro T h' A v E O;rw[O];refine ztq E (v.old _ _ (by simpa using o) J) (L.mv v) x λU G g=>⟨rfl,(v.up (by simp)).trans (G.up (by simp)),G.old _ _ (by simpa using o.symm) E,g⟩
 unfold hrZ at c⊢;left;refine zbo (λB=>?_) (λB=>?_);rw[if_pos B]at c⊢;left;exists zau e;left;exists rfl;left;change rfl;left;refine zbn ((m_hs (n:=n+4) e p u).mono λd T f=>?_);exact c T _ _ f.1 f.2 rfl;rw[if_neg B]at c⊢;left;specialize zkm (n:=n+5);left;refine zbo (λC=>?_) (λC=>?_);rw[if_pos C]at c⊢;left;exists zau e;left;exists rfl;left;change rfl;left;specialize zk8 (n:=n+5) e u hl;left;have I:Mv [a] S ((awS S h Ls).push (.lst ((wsZ h Ls).map oD))):=((Mv.push _ _ _).trans (Mv.push _ _ _)).trans (Mv.push _ _ _);have e1:((awS S h Ls).push (.lst ((wsZ h Ls).map oD))).get a=Φ (hD m b i s w h k l):=zae (zae (zae e));have Q:=p.mv I;have Y:((awS S h Ls).push (.lst ((wsZ h Ls).map oD))).get (awS S h Ls).len=Φ (.lst ((wsZ h Ls).map oD)):=zak _ _;generalize hS1:(awS S h Ls).push (.lst ((wsZ h Ls).map oD))=S1 at *;left;exists zeW e1;left;exists zhS e1;left;specialize(zif (n:=n+1) (k:=lst1 m b) Y y z).trans (by rw[zoh (ziC m b)]);left;let⟨S2,h1,h2,h3⟩:=zcL (h':=stZ (wsZ h Ls) (lst1 m b)) e1 Q;exists h1;left;exact c S2 _ _ (I.trans h2) h3 rfl;rw[if_neg C]at c⊢;left;specialize zkm (n:=n+5);left;refine zbo (λc3=>?_) (λc3=>?_);rw[if_pos c3]at c⊢;left;exists zau e;left;exists rfl;left;change rfl;left;refine zbn ((m_hb (n:=n) e p u hl M).mono λd T f=>?_);exact c T _ _ f.1 f.2 rfl;rw[if_neg c3]at c⊢;left;exists zau e;left;exists rfl;left;change rfl;left;refine zbn ((m_hk (n:=n+4) (t:=t) e p u N).mono λd T f=>?_);exact c T _ _ f.1 f.2 rfl
end
def zig{n:Nat}{S:R.St}{b:Int}(c:0<=b)(a:b<=5):app (callF prog (n+1)) 15 [.int b] S=.ok (.int (1+3*(b+1))) S:=by
 refine zaQ (F:=zds) rfl rfl ?_;left;change by unfold zdD;simp
 left;exact zaj rfl ⟨rfl,rfl⟩
def zco{T:R.St}{N:Nat}(a:∀l∈T.lk,l<N)(b:N<=T.len):T.lk.contains T.len=Δ:=by rw[Bool.eq_false_iff];intro z;have:=a _ (List.contains_iff_mem.mp z);lia
structure Row where
 p:List Int
 to:Int
 w:D
abbrev rD(r:Row):D:=.tup [pD r.p,.int r.to,r.w]
abbrev leD(t:Int)(r:Row):D:=.tup [.int t,pD r.p,.int r.to,r.w]
noncomputable abbrev Bxl:=List Int×D
abbrev bxD(x:Bxl):D:=.tup [pD x.1,x.2]
abbrev key(r:Row):K3:=(0,r.p,r.to)
structure Town where
 H:Type
 m:Nat
 who:Nat->Nat
 adr:Nat->List Nat
 ok:R.St->Nat->Nat->H->Prop
 say:Nat->Int->H->List Row
 hear:Nat->Int->H->List Bxl->H
 lt:Bxl->Prop
 tt:Int->Prop
abbrev saT:List (Nat×Nat):=[(0,38),(1,47)]
abbrev heT:List (Nat×Nat):=[(0,37),(1,42)]
abbrev Town.said(V:Town)(t:Int):Nat->List V.H->List Row
 |_,[]=>[]|k,h::a=>V.say k t h++V.said t (k+1) a
structure TownOk(V:Town)(q:Nat):Prop where
 dep:∀{S T:R.St}{d j:Nat}{h:V.H},V.ok S d j h->(∀z∈V.adr j,∀o,S.get z=Φ o->T.get z=Φ o)->V.ok T d j h
 has:∀{S:R.St}{d j:Nat}{h:V.H},V.ok S d j h->∀z∈V.adr j,∃o,S.get z=Φ o
 say:∀{S:R.St}{d j:Nat}{h:V.H}(t:Int)(n:Nat),V.tt t->(∀l∈S.lk,l<S.len)->j<V.m->V.ok S d j h->∃c fs f,S.get (V.who j)=Φ (.ins c fs)/\saT.lookup c=Φ f/\fs.lookup ("say":PySem.Str)=Ψ/\
  W (appW (callF prog (n+q)) f [.ref (V.who j),.int t] S) λx T=>∃l,x=.ref l/\S.len<=l/\Mv [] S T/\T.get l=Φ (.lst ((V.say j t h).map rD))
 slt:∀(j:Nat)(t:Int)(h:V.H),∀r∈V.say j t h,V.lt (r.p,r.w)
 wa:∀j,V.who j∈V.adr j
 flt:∀x,V.lt x->∀N,flat N x.2=Γ
 hear:∀{S:R.St}{d j b:Nat}{h:V.H}{B:List Bxl}(t:Int)(n:Nat),j<V.m->d<=40->V.ok S d j h->(∀z∈V.adr j,Fr S z)->S.get b=Φ (.lst (B.map bxD))->b∉V.adr j->B.length<=60->(∀x∈B,V.lt x)->
  ∃c fs f,S.get (V.who j)=Φ (.ins c fs)/\heT.lookup c=Φ f/\fs.lookup ("hear":PySem.Str)=Ψ/\
  W (appW (callF prog (n+q)) f [.ref (V.who j),.int t,.ref b] S) λx T=>x=.non/\Mv (V.adr j) S T/\V.ok T (d+1) j (V.hear j t h B)
 ord:∀(t:Int)(hs:List V.H),hs.length=V.m->((V.said t 0 hs).map key).Pairwise Lt3
 few:∀(t:Int)(hs:List V.H),hs.length=V.m->(V.said t 0 hs).length<=60
def Mv.lock{A:List Nat}{S T:R.St}{l:List Nat}(h:Mv A {S with lk:=l} T):Mv A S {T with lk:=S.lk}:=⟨h.frz,rfl,h.len,λm o a e=>h.old m o a e⟩
def zqH{T:R.St}{l:List Nat}(h:T.lk=l):({T with lk:=l}:R.St)=T:=by subst h;rfl
def zd4{T:R.St}{l:Nat}{o u:MO}(a:Fr T l)(e:T.get l=Φ o):∃U,T.put l u=Φ U/\Mv [l] T U/\U.get l=Φ u:=by let⟨U,b,c,d,i,f,g⟩:=zft u a.f a.k;exact⟨U,b,⟨c,d,by lia,λm x h e=>by rw[f m (by simpa using h)];exact e⟩,g (get_lt e)⟩
noncomputable abbrev Es(t:Int)(x:D)(l:Nat)(c d e f g:Option D):Ev:=[Φ (.int t),Φ x,Φ .non,Φ (.ref l),c,d,e,f,g]
abbrev sIn:CS:=.expr (.mt .append J3 #[.tup #[J0,J6,.ite (.cmp .Is J2 (.con D.non)) J7 (.ix (.ix J2 J4) J7),J8]]) .nil
def zoP{cf:CF}{t:Int}{x:D}{l:Nat}{c d:Option D}:∀(rs:List Row)(a:List D)(T:R.St)(e f g:Option D),T.get l=Φ (.lst a)->Fr T l->a.length+rs.length<=1000->
  W (zba [6,7,8] (exS cf sIn) (rs.map rD) (Es t x l c d e f g) T) λi U=>(∃e f g,i=.nx (Es t x l c d e f g))/\U.get l=Φ (.lst (a++rs.map (leD t)))/\Mv [l] T U
 | [],a,T,e,f,g,h,b,j=>by show W (Out.ok (Fl.nx _) T) _;exact⟨⟨e,f,g,rfl⟩,by simpa using h,Mv.refl _ _⟩| r::rs,a,T,e,f,g,h,b,j=>by
  simp![Ρ]at j;show W (Out.bind (exS cf sIn (Es t x l c d (Φ (pD r.p)) (Φ (.int r.to)) (Φ r.w)) T) _) _;rw[zab];refine wS_W _ ?_;left;exists h;left;change show 4<=16777216 by decide
  left;exists h;left;change by simp;lia
  left;let⟨U,m,k,n⟩:=zd4 b h;exists m;left;refine(zoP rs (a++[leD t r]) U _ _ _ n (b.mv k) (by simp;lia)).mono λi V o=>?_;let⟨p,q,s⟩:=o;exact⟨p,by rw[q,append_assoc];rfl,k.trans s⟩
abbrev sayC:CL:=.val (.meth "say" saT J5 #[J0])
def zpK{V:Town}{q:Nat}(X:TownOk V q){S:R.St}{n d j:Nat}{t:Int}{h:V.H}{x:D}{l:Nat}{c e f g:Option D}(tt:V.tt t)(b:∀l∈S.lk,l<S.len)(i:j<V.m)(o:V.ok S d j h) :
  W (evL (callF prog (n+q)) sayC (Es t x l c (Φ (.ref (V.who j))) e f g) S) λr T=>∃a,r=((V.say j t h).map rD,[a])/\S.len<=a/\Mv [] S T:=by
 let⟨B,C,k,m,p,s,w⟩:=X.say t n tt b i o;refine wL_W _ ?_;left;exists zau m;left;exists p;left;change by rw[s];rfl
 left;refine zbn (w.mono λy T u=>?_);let⟨a,rfl,z,v,A⟩:=u;left;exists A;left;exact⟨_,rfl,z,v⟩
abbrev sOut:CS:=.forS [6,7,8] sayC sIn .nil
abbrev enW(V:Town):Nat->Nat->List D
 |_,0=>[]|k,c+1=>zhC (.int (k:Nat)) (.ref (V.who k))::enW V (k+1) c
abbrev whoL(V:Town):Nat->Nat->List D
 |_,0=>[]|k,c+1=>.ref (V.who k)::whoL V (k+1) c
def zmP{V:Town}{q:Nat}(X:TownOk V q){S:R.St}{n d j:Nat}{t:Int}{h:V.H}{x:D}{l:Nat}{e f g:Option D}{a:List D}(tt:V.tt t)(p:∀l∈S.lk,l<S.len)(s:j<V.m)(o:V.ok S d j h)(i:S.get l=Φ (.lst a))(k:Fr S l)(u:a.length+(V.say j t h).length<=1000) :
  W (exS (callF prog (n+q)) sOut (Es t x l (Φ (.int j)) (Φ (.ref (V.who j))) e f g) S) λm U=>(∃e f g,m=.nx (Es t x l (Φ (.int j)) (Φ (.ref (V.who j))) e f g))/\U.get l=Φ (.lst (a++(V.say j t h).map (leD t)))/\Mv [l] S U:=by
 show W (Out.bind _ _) _;rw[zab];refine(zpK X tt p s o).mono λr T w=>?_;let⟨b,rfl,L,v⟩:=w;have y:l≠b:=by have:=get_lt i;lia
 rw[zab];unfold zbh;rw[zab];have z:({T with lk:=[b]++T.lk}:R.St).get l=Φ (.lst a):=v.old _ _ (by simp) i;have A:Fr ({T with lk:=[b]++T.lk}:R.St) l:=⟨by rw[v.frz];exact k.f,by
  show(b::T.lk).contains l=Δ;rw[contains_cons,v.lk,k.k];simpa using y⟩
 refine(zoP (V.say j t h) a _ e f g z A u).mono λm U B=>?_;let⟨⟨C,E,G,rfl⟩,I,J⟩:=B;(conv=>lhs;whnf);refine⟨⟨C,E,G,rfl⟩,I,?_⟩;have c:=J.lock;exact(v.up (by simp)).trans c
def zgc{V:Town}{q:Nat}(X:TownOk V q){n d:Nat}{t:Int}{x:D}{l:Nat}(tt:V.tt t):∀(hs:List V.H)(k:Nat)(a:List D)(T:R.St)(c e f g z:Option D),(∀l∈T.lk,l<T.len)->k+hs.length<=V.m->
  (∀i h,hs[i]?=Φ h->V.ok T d (k+i) h/\l∉V.adr (k+i))->T.get l=Φ (.lst a)->Fr T l->a.length+(V.said t k hs).length<=1000->
  W (zba [4,5] (exS (callF prog (n+q)) sOut) (enW V k hs.length) (Es t x l c e f g z) T) λb U=>(∃c d e f g,b=.nx (Es t x l c d e f g))/\U.get l=Φ (.lst (a++(V.said t k hs).map (leD t)))/\Mv [l] T U
 | [],k,a,T,c,e,f,g,z,_,_,_,m,p,r=>by show W (Out.ok (Fl.nx _) T) _;exact⟨⟨c,e,f,g,z,rfl⟩,by simpa[Town.said]using m,Mv.refl _ _⟩| h::hs,k,a,T,c,e,f,g,z,s,y,u,m,p,r=>by simp![Ρ]at y;simp![Town.said,length_append]at r;let⟨A,Y⟩:=u 0 h rfl;show W (Out.bind (exS (callF prog (n+q)) sOut (Es t x l (Φ (.int k)) (Φ (.ref (V.who k))) f g z) T) _) _;rw[zab];refine(zmP X tt s (by lia) A m p (by lia)).mono λb U B=>?_;let⟨⟨e',f',g',rfl⟩,C,v⟩:=B;refine(zgc X (d:=d) tt hs (k+1) (a++(V.say k t h).map (leD t)) U _ _ _ _ _ (by rw[v.lk];exact λx E=>lt_of_lt_of_le (s x E) v.len) (by lia) (λi G e2=>?_) C (p.mv v) (by rw[length_append,length_map];lia)).mono λb W' I=>?_;let⟨J,w⟩:=u (i+1) G (by simpa using e2);rw[show k+1+i=k+(i+1) by lia];refine⟨X.dep J λz L o e=>v.old _ _ ?_ e,w⟩;simp![mem_singleton];intro M;exact w (M▸L);let⟨N,O,Q⟩:=I;exact⟨N,by rw[O,append_assoc,Town.said,map_append],v.trans Q⟩
def zlZ(V:Town):∀(c k:Nat),(whoL V k c).mapIdx (λi d=>zhC (.int ((i+k:Nat):Int)) d)=enW V k c
 |0,_=>rfl| c+1,k=>by rw[whoL,List.mapIdx_cons,enW,<-zlZ V c (k+1),zero_add];congr 2;funext i d;rw[show i+1+k=i+(k+1) by lia]
def zkk:c_said_in.body=.asg 3 (.lst .nil) (.forS [4,5] (.enum J1) sOut (.ret J3 .nil)):=rfl
def zhm{V:Town}{q:Nat}(X:TownOk V q)(t:Int):∀(hs:List V.H)(k:Nat),∀r∈V.said t k hs,V.lt (r.p,r.w)
 | [],_,r,a=>by cases a
 |h::hs,k,r,a=>by rcases mem_append.mp a with a|a;exact X.slt k t h r a;exact zhm X t hs (k+1) r a
def zjC{V:Town}{q:Nat}(X:TownOk V q)(N:Nat)(t:Int)(hs:List V.H)(k:Nat):flats N ((V.said t k hs).map (leD t))=Γ:=by rw[zaH];intro d b;let⟨r,c,rfl⟩:=mem_map.mp b;have:=X.flt _ (zhm X t hs k r c) N;unfold leD;rw[zcX];have a:=zlT N r.p;rw[zcX]at a;simp![flats,flat,a,Bool.true_and,Bool.and_true];exact this
def ziO{V:Town}{T:R.St}{th:Nat}(a:T.get th=Φ (.lst (whoL V 0 V.m))):zdo T (.ref th)=Φ (enW V 0 V.m,[th]):=by unfold zdo;dsimp only;rw[a];rw[<-zlZ V V.m 0];rfl
def zsj{V:Town}{q:Nat}(X:TownOk V q){S:R.St}{n d:Nat}{t:Int}{th:Nat}{hs:List V.H}(tt:V.tt t)(b:hs.length=V.m)(j:S.get th=Φ (.lst (whoL V 0 V.m)))(m:∀(i:Nat) h,hs[i]?=Φ h->V.ok S d i h) :
  app (callF prog (n+q+1)) 12 [.int t,.ref th,.non] S=.ok (.ref S.len) (S.push (.lst ((V.said t 0 hs).map (leD t)))):=by
 refine zuP rfl rfl ?_;show W (Out.bind _ _) _;rw[zab];have e3:evE (callF prog (n+q)) (.lst .nil) (zaX c_said_in [.int t,.ref th,.non]) S.enter=.ok (.ref S.enter.len) (S.enter.push (.lst [])):=by rfl
 have k:∀l o,S.get l=Φ o->(S.enter.push (.lst [])).get l=Φ o:=λl o e=>zae (by rw[zaP];exact e);have p:evL (callF prog (n+q)) (.enum J1) (Es t (.ref th) S.enter.len Ψ Ψ Ψ Ψ Ψ) (S.enter.push (.lst []))=.ok (enW V 0 V.m,[th]) (S.enter.push (.lst [])):=by show Out.bind (lift (S.enter.push (.lst [])) (Φ (D.ref th))) _=_;rw[zcV,zat,ziO (k _ _ j)];rfl
 refine zdH p ?_;have E:=get_lt j;have s:Fr ({S.enter.push (.lst []) with lk:=[th]++(S.enter.push (.lst [])).lk}:R.St) S.enter.len:=⟨by show(S.frz++S.new).length<=_;exact le_refl _,by
  show([th]:List Nat).contains _=Δ;simp;lia⟩
 have u:=X.few t hs b;rw[<-b];refine(zgc X (d:=d) tt hs 0 [] {S.enter.push (.lst []) with lk:=[th]++(S.enter.push (.lst [])).lk} Ψ Ψ Ψ Ψ Ψ (λl w=>by
  have:l=th:=by simpa[St.enter,St.push]using w
  show _<(S.enter.push (.lst [])).len;rw[plen,R.enter_len];lia) (by lia) (λi h e2=>?_) (zak _ _) s (by simp;lia)).mono λG U x=>?_
 have o:=m i h e2;rw[zero_add];refine⟨X.dep o λz _ y e=>k _ _ e,λA=>?_⟩;let⟨y,e⟩:=X.has o _ A;have:=get_lt e;rw[R.enter_len]at this;lia;let⟨⟨c,d,e,f,g,rfl⟩,B,v⟩:=x;refine W.mono (wS_W (.ret J3 .nil) ?_) λr T z=>z;left;refine zdK (by rw[R.enter_len];exact le_refl _) (show({U with lk:=_}:R.St).get _=_ from B) (by exact zjC X _ _ _ _) ⟨rfl,by rw[List.nil_append]⟩
def zeR:∀p:List Int,zaD (p.map .int)=Φ p
 | []=>rfl| i::p=>by have:=zeR p;unfold zaD at this⊢;rw[Ο,ϟ,this];rfl
def zqL(t:Int)(r:Row):zfH (leD t r)=Φ (key r):=by show(zaD (r.p.map .int)).map _=_;rw[zeR];rfl
def zlp(t:Int):∀rs:List Row,(rs.map (leD t)).mapM zfH=Φ (rs.map key)
 | []=>rfl|r::rs=>by rw[Ο,ϟ,zqL,zlp t rs];rfl
def zhg{ks:List K3}(h:ks.Pairwise Lt3):ks.Nodup:=h.imp λ{a b} q e=>by subst e;exact zcn _ q
def zh4:∀{ks:List K3}{ds:List D},ks.Nodup->ks.length=ds.length->(ks.map λk=>((ks.zip ds).lookup k).getD .non)=ds
 | [],[],_,_=>rfl| k::ks,d::ds,a,b=>by
  rw[nodup_cons]at a;have c:=zh4 (ks:=ks) (ds:=ds) a.2 (by simpa using b);rw[Ο,List.zip_cons_cons,Ϝ,beq_self_eq_true];refine congrArg (d::·) (Eq.trans (Τ λx e=>?_) c);have:(x==k)=Δ:=by rw[beq_eq_false_iff_ne];intro z;exact a.1 (z▸e)
  rw[Ϝ,this]
def zmB{t:Int}{rs:List Row}(as:(rs.map key).Pairwise Lt3):srtD (rs.map (leD t)) (rs.map key)=rs.map (leD t):=by have a:=zhg as;have e:zja (rs.map key)=rs.map key:=zcB (zcg _) (zb3 a) as;unfold srtD;rw[e];exact zh4 a (by rw[length_map,length_map])
def zlh{T:R.St}{l:Nat}{t:Int}{rs:List Row}(h:T.get l=Φ (.lst (rs.map (leD t)))):zgD T (.ref l)=Φ (rs.map (leD t),rs.map key):=by unfold zgD;dsimp only;rw[h];dsimp only;rw[zlp];rfl
structure Kn(N:Nat)(S T:R.St):Prop where
 frz:T.frz=S.frz
 lk:T.lk=S.lk
 len:S.len<=T.len
 old:∀l o,l<N->S.get l=Φ o->T.get l=Φ o
def Kn.refl(N:Nat)(S:R.St):Kn N S S:=⟨rfl,rfl,le_refl _,λ_ _ _ h=>h⟩
def Kn.trans{N:Nat}{S T U:R.St}(a:Kn N S T)(b:Kn N T U):Kn N S U:=⟨b.frz.trans a.frz,b.lk.trans a.lk,le_trans a.len b.len,λl o h e=>b.old l o h (a.old l o h e)⟩
def Kn.of{N:Nat}{A:List Nat}{S T:R.St}(v:Mv A S T)(h:∀a∈A,N<=a):Kn N S T:=⟨v.frz,v.lk,v.len,λl o b e=>v.old l o (λz=>by have:=h l z;lia) e⟩
abbrev box(Ls:List Row)(o:Int):List Bxl:=(Ls.filter λx=>decide (x.to=o)).map λx=>(x.p,x.w)
def zcr(Ls:List Row)(x:Row)(o:Int):box (Ls++[x]) o=if x.to=o then box Ls o++[(x.p,x.w)] else box Ls o:=by unfold box;rw[List.filter_append,map_append];by_cases h:x.to=o<;>simp[h]
def zrk(Ls:List Row)(o:Int):(box Ls o).length<=Ls.length:=by unfold box;rw[length_map];exact length_filter_le _ _
def zrj{Ls:List Row}{o:Int}{x:Bxl}(h:x∈box Ls o):∃r∈Ls,x=(r.p,r.w):=by let⟨r,a,rfl⟩:=mem_map.mp h;exact⟨r,(mem_filter.mp a).1,rfl⟩
structure Bx(N:Nat)(T:R.St)(bx:Nat)(Ls:List Row)(kvs:List (Int×D)):Prop where
 at_:T.get bx=Φ (.dic kvs)
 fr:Fr T bx
 nw:N<=bx
 no_:∀o,valI kvs o=Ψ->box Ls o=[]
 so_:∀o d,valI kvs o=Φ d->∃b,d=.ref b/\N<=b/\Fr T b/\T.get b=Φ (.lst ((box Ls o).map bxD))
 inj:∀o o' b,valI kvs o=Φ (.ref b)->valI kvs o'=Φ (.ref b)->o=o'
 len:kvs.length<=Ls.length
def zfc(kvs:List (Int×D))(k j:Int)(v:D):valI (putI kvs k v) j=if j=k then Φ v else valI kvs j:=by
 induction kvs with
 |nil=>by_cases c:j=k;subst c;simp[putI,valI];have b:¬k=j:=λz=>c z.symm;simp[putI,valI,c,b]| cons a r f=>
  let⟨i,d⟩:=a;unfold putI;by_cases e:i=k;subst e;rw[if_pos rfl];by_cases c:j=i;subst c;simp[valI];have b:¬i=j:=λz=>c z.symm;simp[valI,c,b];rw[if_neg e];by_cases c:i=j;subst c;simp[valI,e];have g:valI ((i,d)::putI r k v) j=valI (putI r k v) j:=by simp[valI,c]
  have h:valI ((i,d)::r) j=valI r j:=by simp[valI,c]
  rw[g,h,f]
def zm3(kvs:List (Int×D))(k:Int)(v:D):(putI kvs k v).length<=kvs.length+1:=by induction kvs with|nil=>simp[putI]| cons a r b=>let⟨i,d⟩:=a;unfold putI;split;simp;simp;omega
noncomputable abbrev Ed(t:Int)(x y:D)(d:Nat)(a b c:Option D):Ev:=[Φ (.int t),Φ x,Φ y,Φ (.ref d),a,b,c]
abbrev dIn:CS:=.expr (.mt .append (.dsetI J3 (.ix J4 V2) (.lst .nil)) #[.tup #[.ix J4 V1,.ix J4 V3]]) .nil
def zlG{T:R.St}{l:Nat}{kvs:List (Int×D)}(h:T.get l=Φ (.dic kvs)):isDi T (.ref l)=Γ:=by unfold isDi;dsimp only;rw[h]
def zfW{T:R.St}{l:Nat}{kvs:List (Int×D)}{o:Int}(h:T.get l=Φ (.dic kvs)):zgZ T (.ref l) (.int o)=Φ (valI kvs o):=by unfold zgZ;dsimp only;rw[h];rfl
def zn2{cf:CF}{N:Nat}{T:R.St}{k:Nat}{Ls:List Row}{kvs:List (Int×D)}{x:Row}{t tt:Int}{u y:D}{b c:Option D}(B:Bx N T k Ls kvs)(hN:N<=T.len)(hl:Ls.length<=500)(Y:T.lk.contains T.len=Δ) :
  W (exS cf dIn (Ed t u y k (Φ (leD tt x)) b c) T) λf U=>f=.nx (Ed t u y k (Φ (leD tt x)) b c)/\(∃G,Bx N U k (Ls++[x]) G)/\Kn N T U:=by
 let⟨p,o,w⟩:=x;refine wS_W _ ?_;left;change zlG B.at_;left;exists show R.atI [D.int tt,pD p,.int o,w] 2=Φ (.int o) from rfl;left;change show 0<=16777216 by decide
 left;have lb:=get_lt B.at_;have hbl:(box Ls o).length<=Ls.length:=by unfold box;rw[length_map];exact length_filter_le _ _
 have I:=zae (o:=.lst []) B.at_;have hlen:=B.len;cases v:valI kvs o with
 |none=>
  have fT:Fr (T.push (.lst [])) k:=⟨B.fr.f,B.fr.k⟩;let⟨U,hU,E,gU⟩:=zd4 fT I;have es:zfU (T.push (.lst [])) (.ref k) (.int o) (.ref T.len)=Φ (.ref T.len,U):=by unfold zfU;rw[zfW I,v];unfold dPut;dsimp only;rw[I];dsimp only[zee,bind_some];rw[if_pos (by lia),hU];rfl
  exists es;left;have nb:T.len≠k:=by lia
  have A:=E.old _ _ (by simpa using nb) (zak T (.lst []));have fL:Fr U T.len:=⟨by rw[E.frz];show T.frz.length<=T.len;unfold St.len;lia,by rw[E.lk];exact Y⟩;exists A;left;exists show R.atI [D.int tt,pD p,.int o,w] 1=Φ (pD p) from rfl;left;exists show R.atI [D.int tt,pD p,.int o,w] 3=Φ w from rfl;left;change show 2<=16777216 by decide
  left;exists A;left;change show 1<=16777216 by decide
  left;let⟨V,hV,m,gV⟩:=zd4 fL A;exists hV;left;have s:=Mv.push [] T (.lst []);refine⟨rfl,⟨putI kvs o (.ref T.len),?_⟩,?_⟩;have J:∀l q,l≠k->l≠T.len->T.get l=Φ q->V.get l=Φ q:=λl q C j e=>m.old _ _ (by simpa using j) (E.old _ _ (by simpa using C) (s.old _ _ (by simp) e));have i:∀l,Fr T l->Fr V l:=λl h=>((h.mv s).mv E).mv m;refine⟨m.old _ _ (by simpa using nb.symm) gU,i _ B.fr,B.nw,λr g=>?_,λr d g=>?_,λo1 o2 b C j=>?_,?_⟩;rw[zfc]at g;split at g;cases g;rename_i ne;rw[zcr,if_neg (λz=>ne z.symm)];exact B.no_ r g;rw[zfc]at g;split at g;rename_i L;cases g;subst L;refine⟨T.len,rfl,hN,fL.mv m,?_⟩;rw[zcr,if_pos rfl,B.no_ _ v];exact gV;rename_i ne;let⟨b,rfl,j,h3,n⟩:=B.so_ r d g;refine⟨b,rfl,j,i _ h3,?_⟩;rw[zcr,if_neg (λz=>ne z.symm)];refine J _ _ (λz=>?_) (by have:=get_lt n;lia) n;rw[z,B.at_]at n;cases n
  . rw[zfc]at C j;split at C<;>split at j
    rename_i a1 a2;rw[a1,a2];cases C;let⟨b,e1,_,_,n⟩:=B.so_ o2 _ j;cases e1;have:=get_lt n;lia;cases j;let⟨b,e1,_,_,n⟩:=B.so_ o1 _ C;cases e1;have:=get_lt n;lia;exact B.inj o1 o2 b C j
  have:=zm3 kvs o (.ref T.len);rw[length_append];simp![Ρ];lia;refine(Kn.of s (by simp)).trans ((Kn.of E ?_).trans (Kn.of m ?_));intro a M;rw[mem_singleton.mp M];exact B.nw;intro a M;rw[mem_singleton.mp M];exact hN
 |some d=>
  let⟨O,rfl,Q,fb,gb⟩:=B.so_ o d v;have s:=Mv.push [] T (.lst []);have es:zfU (T.push (.lst [])) (.ref k) (.int o) (.ref T.len)=Φ (.ref O,T.push (.lst [])):=by unfold zfU;rw[zfW I,v]
  exists es;left;have A:(T.push (.lst [])).get O=Φ (.lst ((box Ls o).map bxD)):=zae gb;exists A;left;exists show R.atI [D.int tt,pD p,.int o,w] 1=Φ (pD p) from rfl;left;exists show R.atI [D.int tt,pD p,.int o,w] 3=Φ w from rfl;left;change show 2<=16777216 by decide
  left;exists A;left;change by rw[length_append,length_map];simp![Ρ,Ϡ];lia
  let⟨V,hV,m,gV⟩:=zd4 (fb.mv s) A;exists hV;left;have i:∀l,Fr T l->Fr V l:=λl h=>(h.mv s).mv m;have nbx:k≠O:=λz=>by rw[<-z,B.at_]at gb;cases gb
  refine⟨rfl,⟨kvs,?_⟩,(Kn.of s (by simp)).trans (Kn.of m (by intro a M;rw[mem_singleton.mp M];exact Q))⟩;refine⟨m.old _ _ (by simpa using nbx) I,i _ B.fr,B.nw,λr g=>?_,λr d g=>?_,B.inj,by rw[length_append];lia⟩;rw[zcr,if_neg (λz=>by rw[<-z]at g;rw[v]at g;cases g)];exact B.no_ r g;by_cases L:o=r;subst L;rw[v]at g;cases g;refine⟨O,rfl,Q,i _ fb,?_⟩;rw[zcr,if_pos rfl,map_append];exact gV;let⟨b,rfl,j,h3,n⟩:=B.so_ r d g;refine⟨b,rfl,j,i _ h3,?_⟩;rw[zcr,if_neg (λz=>L z)];refine m.old _ _ (λz=>?_) (s.old _ _ (by simp) n);have z:b=O:=by simpa using z
  subst z;exact L (B.inj o r b v g)
def ziW{cf:CF}{N:Nat}{e:Nat}{t tt:Int}{u y:D}{b c:Option D}:∀(rest Ls:List Row)(kvs:List (Int×D))(T:R.St)(a:Option D),Bx N T e Ls kvs->N<=T.len->(∀l∈T.lk,l<N)->Ls.length+rest.length<=500->
  W (zba [4] (exS cf dIn) (rest.map (leD tt)) (Ed t u y e a b c) T) λf U=>(∃a,f=.nx (Ed t u y e a b c))/\(∃d,Bx N U e (Ls++rest) d)/\Kn N T U
 | [],Ls,kvs,T,a,B,_,_,_=>by show W (Out.ok (Fl.nx _) T) _;exact⟨⟨a,rfl⟩,⟨kvs,by rw[ϡ];exact B⟩,Kn.refl _ _⟩| x::rest,Ls,kvs,T,a,B,h,i,k=>by simp![Ρ]at k;show W (Out.bind (exS cf dIn (Ed t u y e (Φ (leD tt x)) b c) T) _) _;rw[zab];refine(zn2 B h (by lia) (zco i h)).mono λf U m=>?_;let⟨rfl,⟨d,n⟩,v⟩:=m;refine(ziW rest (Ls++[x]) d U _ n (le_trans h v.len) (by rw[v.lk];exact i) (by simp;lia)).mono λf V o=>?_;let⟨p,⟨g,j⟩,q⟩:=o;exact⟨p,⟨g,by rw[append_assoc]at j;exact j⟩,v.trans q⟩
abbrev zl7:CS:=.expr (.meth "hear" heT J6 #[J0,.dgetI J3 J5 (.lst .nil)]) .nil
structure Pk(V:Town)(S:R.St)(d j:Nat)(h:V.H):Prop where
 ok:V.ok S d j h
 fr:∀z∈V.adr j,Fr S z
def znJ{V:Town}{q:Nat}(X:TownOk V q){S:R.St}{N n i d j:Nat}{t:Int}{h:V.H}{Ls:List Row}{kvs:List (Int×D)}{x y:D}{a:Option D}(A:j<V.m)(hd:d<=40)(o:Pk V S d j h)(ad:∀z∈V.adr j,z<N)(B:Bx N S i Ls kvs)(C:N<=S.len)(hl:Ls.length<=60)(E:∀r∈Ls,V.lt (r.p,r.w)) :
  W (exS (callF prog (n+q)) zl7 (Ed t x y i a (Φ (.int j)) (Φ (.ref (V.who j)))) S) λf U=>f=.nx (Ed t x y i a (Φ (.int j)) (Φ (.ref (V.who j))))/\Mv (V.adr j) S U/\Pk V U (d+1) j (V.hear j t h (box Ls j)):=by
 have l:=Mv.push [] S (.lst []);have G:∃g,(valI kvs j).getD (.ref S.len)=.ref g/\(S.push (.lst [])).get g=Φ (.lst ((box Ls j).map bxD))/\N<=g:=by cases m:valI kvs j with|none=>exact⟨S.len,rfl,by rw[B.no_ _ m];exact zak _ _,C⟩| some d=>let⟨b,rfl,I,_,J⟩:=B.so_ _ _ m;exact⟨b,rfl,zae J,I⟩
 let⟨g,L,M,nq⟩:=G;have O:=zae (o:=.lst []) B.at_;have Q:V.ok (S.push (.lst [])) d j h:=X.dep o.ok λz _ o e=>zae e;have bl:=zrk Ls j;let⟨c,fs,k,Y,g2,g3,w⟩:=X.hear t n A hd Q (λz hz=>(o.fr z hz).mv l) M (λhm=>by have:=ad _ hm;lia) (by lia) (λx hx=>by let⟨r,hr,rfl⟩:=zrj hx;exact E r hr);let⟨o0,p⟩:=X.has o.ok _ (X.wa j);have s:=zae (o:=.lst []) p;rw[Y]at s;cases s;refine wS_W _ ?_;left;exists zau p;left;exists g2;left;change by rw[g3];rfl
 left;change zlG B.at_;left;change show 0<=16777216 by decide
 left;exists zfW O;rw[L];left;refine zbn (w.mono λu T hT=>?_);let⟨_,v,z⟩:=hT;left;exact⟨rfl,(l.up (by simp)).trans v,z,λy hy=>((o.fr y hy).mv l).mv v⟩
def Bx.mv{N:Nat}{T U:R.St}{a:Nat}{Ls:List Row}{kvs:List (Int×D)}{A:List Nat}(B:Bx N T a Ls kvs)(v:Mv A T U)(h:∀x∈A,x<N):Bx N U a Ls kvs:=⟨v.old _ _ (λz=>by have:=h _ z;have:=B.nw;lia) B.at_,B.fr.mv v,B.nw,B.no_,λo d e=>let ⟨b,e1,e2,e3,e4⟩:=B.so_ o d e;⟨b,e1,e2,e3.mv v,v.old _ _ (λz=>by have:=h _ z;lia) e4⟩,B.inj,B.len⟩
abbrev adrF(V:Town):Nat->Nat->List Nat
 |_,0=>[]|k,c+1=>V.adr k++adrF V (k+1) c
def zfD(V:Town){z:Nat}:∀(c k:Nat),z∈adrF V k c->∃i,k<=i/\i<k+c/\z∈V.adr i
 |0,_,h=>by cases h
 |c+1,k,h=>by rcases mem_append.mp h with h|h;exact⟨k,le_refl _,by lia,h⟩;let⟨i,b,d,a⟩:=zfD V c (k+1) h;exact⟨i,by lia,by lia,a⟩
abbrev Dj(V:Town):Prop:=∀i j,i<V.m->j<V.m->i≠j->∀z∈V.adr i,z∉V.adr j
abbrev zbu(V:Town)(t:Int)(Ls:List Row):Nat->List V.H->List V.H
 |_,[]=>[]|k,h::a=>V.hear k t h (box Ls (k:Nat))::zbu V t Ls (k+1) a
def Pk.away{V:Town}{q:Nat}(X:TownOk V q){S T:R.St}{d j:Nat}{h:V.H}{A:List Nat}(o:Pk V S d j h)(v:Mv A S T)(n:∀z∈V.adr j,z∉A):Pk V T d j h:=⟨X.dep o.ok λz a o e=>v.old _ _ (n z a) e,λz a=>(o.fr z a).mv v⟩
def zgN{V:Town}{q:Nat}(X:TownOk V q){N n m d:Nat}{t:Int}{Ls:List Row}{kvs:List (Int×D)}{x y:D}{a:Option D}(hd:d<=40)(o:Dj V)(hl:Ls.length<=60)(s:∀r∈Ls,V.lt (r.p,r.w))(ad:∀i,i<V.m->∀z∈V.adr i,z<N):∀(hs:List V.H)(k:Nat)(T:R.St)(b c:Option D),k+hs.length<=V.m->Bx N T m Ls kvs->N<=T.len->
  (∀i h,hs[i]?=Φ h->Pk V T d (k+i) h)->
  W (zba [5,6] (exS (callF prog (n+q)) zl7) (enW V k hs.length) (Ed t x y m a b c) T) λf U=>(∃b c,f=.nx (Ed t x y m a b c))/\Mv (adrF V k hs.length) T U/\∀i h,(zbu V t Ls k hs)[i]?=Φ h->Pk V U (d+1) (k+i) h
 | [],k,T,b,c,_,_,_,_=>by show W (Out.ok (Fl.nx _) T) _;exact⟨⟨b,c,rfl⟩,Mv.refl _ _,λi h e=>by simp[zbu]at e⟩| h::hs,k,T,b,c,C,B,u,A=>by
  simp![Ρ]at C;have E:=A 0 h rfl;have l:k<V.m:=by lia
  show W (Out.bind (exS (callF prog (n+q)) zl7 (Ed t x y m a (Φ (.int k)) (Φ (.ref (V.who k)))) T) _) _;rw[zab];refine(znJ X l hd E (ad k l) B u hl s).mono λf U G=>?_;let⟨rfl,v,I⟩:=G;refine(zgN X hd o hl s ad hs (k+1) U _ _ (by lia) (B.mv v (ad k l)) (le_trans u v.len) (λi g e2=>?_)).mono λf Y J=>?_;have L:=A (i+1) g (by simpa using e2);have il:=(Α.mp e2).1;rw[show k+1+i=k+(i+1) by lia];exact L.away X v λz j p=>o (k+(i+1)) k (by lia) l (by lia) z j p;let⟨M,w,O⟩:=J;refine⟨M,(v.up (λz j=>mem_append_left _ j)).trans (w.up (λz j=>mem_append_right _ j)),λi g e1=>?_⟩;cases i with| zero=>cases e1;refine I.away X w λz j p=>?_;let⟨i,a1,a2,Q⟩:=zfD V _ _ p;exact o k i l (by lia) (by lia) z j Q| succ i=>have:=O i g (by simpa[zbu]using e1);rw[show k+1+i=k+(i+1) by lia]at this;exact this
def zs0{L:List Nat}{N b:Nat}(h:∀l∈L,l<N)(a:N<=b):L.contains b=Δ:=by rw[Bool.eq_false_iff];intro z;have:=h _ (List.contains_iff_mem.mp z);omega
def Bx.relk{N:Nat}{T:R.St}{a:Nat}{Ls:List Row}{kvs:List (Int×D)}{L:List Nat}(B:Bx N T a Ls kvs)(h:∀l∈L,l<N):Bx N ({T with lk:=L}:R.St) a Ls kvs:=⟨B.at_,⟨B.fr.f,zs0 h B.nw⟩,B.nw,B.no_,λo d e=>let ⟨b,e1,e2,e3,e4⟩:=B.so_ o d e;⟨b,e1,e2,⟨e3.f,zs0 h e2⟩,e4⟩,B.inj,B.len⟩
def zgW:c_deliver.body=.asg 3 .dnew (.forS [4] (.val J2) dIn (.forS [5,6] (.enum J1) zl7 .nil)):=rfl
def zkr{V:Town}{q:Nat}(X:TownOk V q){S:R.St}{n d:Nat}{t tt:Int}{th sd:Nat}{hs:List V.H}{Ls:List Row}(hh:hs.length=V.m)(hd:d<=40)(dj:Dj V)(hl:Ls.length<=60)(lt:∀r∈Ls,V.lt (r.p,r.w))(hg:S.get th=Φ (.lst (whoL V 0 V.m)))(hsd:S.get sd=Φ (.lst (Ls.map (leD tt))))(hk:∀l∈S.lk,l<S.len)
  (h1:∀(i:Nat) h,hs[i]?=Φ h->Pk V S d i h) (nt:∀i,i<V.m->th∉V.adr i) :
  W (appW (callF prog (n+q+1)) 13 [.int t,.ref th,.ref sd] S) λx U=>x=.non/\U.frz=S.frz/\U.lk=S.lk/\S.len<=U.len/\(∀l o,l∉adrF V 0 V.m->S.get l=Φ o->U.get l=Φ o)/\∀(i:Nat) h,(zbu V t Ls 0 hs)[i]?=Φ h->Pk V U (d+1) i h:=by
 refine zby (F:=c_deliver) rfl rfl ?_;rw[zgW];show W (Out.bind _ _) _;rw[zab];have e0:evE (callF prog (n+q)) .dnew (zaX c_deliver [.int t,.ref th,.ref sd]) S=.ok (.ref S.len) (S.push (.dic [])):=by (conv=>lhs;whnf)
 rw[e0,W_ok];have up:∀l o,S.get l=Φ o->(S.push (.dic [])).get l=Φ o:=λl o e=>zae e;have e1:evL (callF prog (n+q)) (.val J2) (Ed t (.ref th) (.ref sd) S.len Ψ Ψ Ψ) (S.push (.dic []))=.ok (Ls.map (leD tt),[sd]) (S.push (.dic [])):=by show Out.bind (lift (S.push (.dic [])) (Φ (D.ref sd))) _=_;rw[zcV,zat];unfold zbg;dsimp only;rw[up _ _ hsd];rfl
 refine zdH (δ:=Ed t (.ref th) (.ref sd) S.len Ψ Ψ Ψ) e1 ?_;have lsd:=get_lt hsd;have lth:=get_lt hg;have fr0:S.frz.length<=S.len:=by unfold St.len;lia
 have ad:∀i,i<V.m->∀z∈V.adr i,z<S.len:=λi hi z hz=>by let⟨o,e⟩:=X.has (h1 i hs[i] (by simp[hh,hi])).ok z hz;exact get_lt e
 have B0:Bx S.len ({S.push (.dic []) with lk:=[sd]++(S.push (.dic [])).lk}:R.St) S.len [] []:=by refine⟨zak _ _,⟨fr0,?_⟩,le_refl _,λo _=>rfl,(λo d e=>by exact nS e),(λo o' b e=>by exact nS e),le_refl _⟩;show(sd::S.lk).contains S.len=Δ;rw[contains_cons,zco hk (le_refl _),Bool.or_false];simp;lia
 refine(ziW (cf:=callF prog (n+q)) (t:=t) (tt:=tt) (u:=.ref th) (y:=.ref sd) (b:=Ψ) (c:=Ψ) Ls [] [] _ Ψ B0 (by show S.len<=(S.push (.dic [])).len;rw[plen];lia) (by
  intro l hl;rcases mem_cons.mp (show l∈sd::S.lk from hl) with rfl|hl;exact lsd;exact hk l hl) (by simp;lia)).mono λf T hT=>?_
 let⟨⟨a,rfl⟩,⟨kvs,B⟩,kn⟩:=hT;rw[List.nil_append]at B;show W (exS (callF prog (n+q)) (.forS [5,6] (.enum J1) zl7 .nil) (Ed t (.ref th) (.ref sd) S.len a Ψ Ψ) {T with lk:=S.lk}) _;have old:∀l o,S.get l=Φ o->({T with lk:=S.lk}:R.St).get l=Φ o:=λl o e=>kn.old l o (get_lt e) (up l o e);have el:evL (callF prog (n+q)) (.enum J1) (Ed t (.ref th) (.ref sd) S.len a Ψ Ψ) {T with lk:=S.lk}=.ok (enW V 0 V.m,[th]) {T with lk:=S.lk}:=by show Out.bind (lift ({T with lk:=S.lk}:R.St) (Φ (D.ref th))) _=_;rw[zcV,zat,ziO (old _ _ hg)];rfl
 refine zdH el ?_;have hk2:∀l∈th::S.lk,l<S.len:=λl hl=>by rcases mem_cons.mp hl with rfl|hl;exact lth;exact hk l hl
 have lenT : S.len ≤ T.len := by have := kn.len; have e : S.len + 1 ≤ T.len := by rw [← plen S (.dic [])]; exact this
                                 lia
 rw[<-hh];refine(zgN X (n:=n) (d:=d) (t:=t) (x:=.ref th) (y:=.ref sd) (a:=a) hd dj hl lt ad hs 0 ({T with lk:=th::S.lk}:R.St) Ψ Ψ (by lia) (B.relk hk2) lenT (λi h e2=>?_)).mono λf U hU=>?_;have o:=h1 i h e2;have il:=(Α.mp e2).1;rw[zero_add];refine⟨X.dep o.ok λz _ o' e=>old _ _ e,λz hz=>⟨by show T.frz.length<=z;rw[show T.frz=S.frz from kn.frz];exact(o.fr z hz).f,?_⟩⟩;show(th::S.lk).contains z=Δ;rw[contains_cons,(o.fr z hz).k,Bool.or_false];have:z≠th:=λe=>nt i (by lia) (e▸hz);simpa using this;let⟨⟨b,c,rfl⟩,v,hP⟩:=hU;dsimp only;(conv=>lhs;whnf);rw[W_ok];dsimp only;refine⟨rfl,v.frz.trans kn.frz,rfl,le_trans lenT v.len,λl o hl e=>v.old l o (by first|exact hl|(rw[hh];exact hl)) (old l o e),λi h e=>?_⟩;have z:=hP i h e;rw[zero_add]at z;have il:=(Α.mp e).1;have il2:i<hs.length:=by
  have:∀(hs:List V.H)(k:Nat),(zbu V t Ls k hs).length=hs.length:=λhs=>by induction hs with|nil=>intro k;rfl|cons a r ih=>intro k;simp[zbu,ih]
  rw[this]at il;exact il
 exact⟨X.dep z.ok λ_ _ _ e=>e,λy hy=>⟨(z.fr y hy).f,by
  have:=(h1 i hs[i] (by simp[il2])).fr y hy;exact this.k⟩⟩
abbrev rB:CS:=.asg 5 (.srtK (.call 12 0 #[J4,J0,J2])) (.expr (.callW 13 0 #[J4,J0,J5]) (.expr (.extv J3 J5) .nil))
def zmS:c_run.body=.asg 3 (.lst .nil) (.forS [4] (.rng2 V1 (.bin .Add J1 V1)) rB (.ret J3 .nil)):=rfl
def ztM{P:List Fn}{F:Fn}{f n:Nat}{ds:List D}{S:R.St}{Q:D->R.St->Prop}(h:P[f]?=Φ F)(hl:ds.length=F.np)(a:3<=n)(w:W (exS (callF P n) F.body (zaX F ds) S) λr T=>match r with|.nx _=>Q .non T|.rt d=>Q d T)(b:F.prim=Φ .lam:=by rfl):W (appW (callF P (n+1)) f ds S) Q:=by unfold appW;simp![callF,h,hl,b,a,if_true,zab];refine w.mono λr T q=>?_;cases r<;>exact q
abbrev rnd(V:Town)(t:Int)(hs:List V.H):List V.H:=zbu V t (V.said t 0 hs) 0 hs
def zcq(V:Town)(t:Int)(Ls:List Row):∀(hs:List V.H)(k:Nat),(zbu V t Ls k hs).length=hs.length
 | [],_=>rfl|_::hs,k=>by rw[zbu,Ρ,Ρ,zcq V t Ls hs (k+1)]
structure Tn(V:Town)(T:R.St)(d th lt:Nat)(hs:List V.H)(acc:List D):Prop where
 lh:hs.length=V.m
 hg:T.get th=Φ (.lst (whoL V 0 V.m))
 p1:∀(i:Nat) h,hs[i]?=Φ h->Pk V T d i h
 nt:∀i,i<V.m->th∉V.adr i
 nl:∀i,i<V.m->lt∉V.adr i
 ne:th≠lt
 hk:∀l∈T.lk,l<T.len
 gl:T.get lt=Φ (.lst acc)
 fl:Fr T lt
noncomputable abbrev Er(th:Nat)(rr:Int)(c:Nat)(a b:Option D):Ev:=[Φ (.ref th),Φ (.int rr),Φ .non,Φ (.ref c),a,b]
def zmR{V:Town}{q:Nat}(X:TownOk V q){T:R.St}{n d:Nat}{t rr:Int}{th k:Nat}{hs:List V.H}{a:List D}{b:Option D}(tt:V.tt t)(Y:Tn V T d th k hs a)(dj:Dj V)(hd:d<=40)(ha:a.length<=10000) :
  W (exS (callF prog (n+q+2)) rB (Er th rr k (Φ (.int t)) b) T) λf U=>(∃b,f=.nx (Er th rr k (Φ (.int t)) b))/\Tn V U (d+1) th k (rnd V t hs) (a++(V.said t 0 hs).map (leD t))/\U.lk=T.lk/\U.frz=T.frz/\T.len<=U.len/\∀l o,l≠k->(∀i,i<V.m->l∉V.adr i)->T.get l=Φ o->U.get l=Φ o:=by
 have L:=X.few t hs Y.lh;have as:=X.ord t hs Y.lh;have v:=zsj X (n:=n+1) (d:=d) (t:=t) tt Y.lh Y.hg (λi h e=>(Y.p1 i h e).ok);rw[show n+1+q+1=n+q+2 by lia]at v;have nd:=zhg as;generalize w:V.said t 0 hs=c at *;refine wS_W _ ?_;left;specialize v;left;exists zlh (zak _ _);left;change⟨by rw[length_map];lia,nd⟩;rw[show srtD (c.map (leD t),c.map key).1 (c.map (leD t),c.map key).2=c.map (leD t) from zmB as];left;change by rw[length_map];lia
 left;generalize y:(T.push (.lst (c.map (leD t)))).push (.lst (c.map (leD t)))=M;have j:Mv [] T M:=by rw[<-y];exact(Mv.push [] _ _).trans (Mv.push [] _ _)
 have A:M.get (T.push (.lst (c.map (leD t)))).len=Φ (.lst (c.map (leD t))):=by rw[<-y];exact zak _ _
 generalize B:(T.push (.lst (c.map (leD t)))).len=C at *;have lsd:T.len<=C:=by rw[<-B,plen];lia
 have ltl:=get_lt Y.gl;have lth:=get_lt Y.hg;have dl:=zkr X (S:=M) (n:=n+1) (d:=d) (t:=t) (tt:=t) (Ls:=c) Y.lh hd dj L (by rw[<-w];exact zhm X t hs 0) (j.old _ _ (by simp) Y.hg) A (by rw[j.lk];exact λl E=>lt_of_lt_of_le (Y.hk l E) j.len) (λi h e=>(Y.p1 i h e).away X j (by simp)) Y.nt;rw[show n+1+q+1=n+q+2 by lia]at dl;refine zbn (dl.mono λx U hU=>?_);let⟨_,uf,N,ul,J,up⟩:=hU;have m:∀l,(∀i,i<V.m->l∉V.adr i)->l∉adrF V 0 V.m:=λl E G=>by let⟨i,_,h2,h3⟩:=zfD V _ _ G;exact E i (by lia) h3
 have p:∀i,i<V.m->∀z∈V.adr i,z<T.len:=λi O z Q=>by
  have hil:i<hs.length:=by rw[Y.lh];exact O
  let⟨o,e⟩:=X.has (Y.p1 i hs[i] (by simp[hil])).ok z Q;exact get_lt e
 have s:U.get k=Φ (.lst a):=J _ _ (m k Y.nl) (j.old _ _ (by simp) Y.gl);have gs3:U.get C=Φ (.lst (c.map (leD t))):=J _ _ (m C λi O G=>by have:=p i O C G;lia) A;have I:Fr U k:=⟨by rw[uf,j.frz];exact Y.fl.f,by rw[N,j.lk];exact Y.fl.k⟩;left;exists s;left;exists show lsts U (.ref k) (.ref C)=Φ (k,a,c.map (leD t)) by unfold lsts;dsimp only;rw[s,gs3]
 left;change show(a++c.map (leD t)).length<=16777216 by rw[length_append,length_map];lia
 let⟨U2,hV,r,gV⟩:=zd4 (u:=.lst (a++c.map (leD t))) I s;exists hV;left;refine⟨⟨_,rfl⟩,⟨by unfold rnd;rw[zcq];exact Y.lh,r.old _ _ (by simpa using Y.ne) (J _ _ (m th Y.nt) (j.old _ _ (by simp) Y.hg)),λi g e=>?_,Y.nt,Y.nl,Y.ne,?_,gV,I.mv r⟩,by rw[r.lk,N,j.lk],by rw[r.frz,uf,j.frz],le_trans j.len (le_trans ul r.len),λl o h1 h2 e=>r.old _ _ (by simpa using h1) (J _ _ (m l h2) (j.old _ _ (by simp) e))⟩;have il:=(Α.mp e).1;unfold rnd at e il;rw[zcq,Y.lh]at il;rw[w]at e;exact(up i g e).away X r λz Q G=>Y.nl i il (by rw[<-mem_singleton.mp G];exact Q);rw[r.lk,N,j.lk];exact λl E=>lt_of_lt_of_le (Y.hk l E) (le_trans j.len (le_trans ul r.len))
abbrev rnds(V:Town):Nat->Nat->List V.H->List V.H
 |_,0,a=>a|t,c+1,a=>rnds V (t+1) c (rnd V t a)
abbrev lets(V:Town):Nat->Nat->List V.H->List D
 |_,0,_=>[]|t,c+1,a=>(V.said t 0 a).map (leD t)++lets V (t+1) c (rnd V t a)
abbrev zj3:Nat->Nat->List D
 |_,0=>[]|t,c+1=>.int (t:Nat)::zj3 (t+1) c
def zii{V:Town}{q:Nat}(X:TownOk V q){n:Nat}{rr:Int}{th h:Nat}(j:Dj V):∀(c t:Nat)(hs:List V.H)(g:List D)(T:R.St)(a b:Option D)(d:Nat),(∀i:Nat,t<=i->i<t+c->V.tt (i:Nat))->Tn V T d th h hs g->d+c<=40->g.length+60*c<=10000->
  W (zba [4] (exS (callF prog (n+q+2)) rB) (zj3 t c) (Er th rr h a b) T) λf U=>(∃a b,f=.nx (Er th rr h a b))/\Tn V U (d+c) th h (rnds V t c hs) (g++lets V t c hs)/\U.lk=T.lk/\U.frz=T.frz/\T.len<=U.len/\∀l o,l≠h->(∀i,i<V.m->l∉V.adr i)->T.get l=Φ o->U.get l=Φ o
 |0,t,hs,g,T,a,b,d,_,Y,_,_=>by show W (Out.ok (Fl.nx _) T) _;rw[W_ok];exact⟨⟨a,b,rfl⟩,by rw[lets,ϡ];exact Y,rfl,rfl,le_refl _,λl o _ _ e=>e⟩| c+1,t,hs,g,T,a,b,d,tt,Y,E,G=>by show W (Out.bind (exS (callF prog (n+q+2)) rB (Er th rr h (Φ (.int (t:Nat))) b) T) _) _;rw[zab];have I:=X.few (t:Int) hs Y.lh;refine(zmR X (n:=n) (t:=(t:Int)) (tt t (le_refl _) (by lia)) Y j (by lia) (by lia)).mono λf U s=>?_;let⟨⟨J,rfl⟩,Z,k,m,u,v⟩:=s;refine(zii X j c (t+1) (rnd V t hs) (g++(V.said t 0 hs).map (leD t)) U _ _ (d+1) (λi k m=>tt i (by lia) (by lia)) Z (by lia) (by rw[length_append,length_map];lia)).mono λf L w=>?_;let⟨x,y,z,A,B,C⟩:=w;refine⟨x,?_,z.trans k,A.trans m,le_trans u B,λl o p r e=>C l o p r (v l o p r e)⟩;rw[lets,<-append_assoc,show d+(c+1)=d+1+c by lia];exact y
def zf8:∀(c t:Nat),(List.range c).map (λ(k:Nat)=>D.int ((t:Int)+k))=zj3 t c
 |0,_=>rfl| c+1,t=>by rw[List.range_succ_eq_map,Ο,map_map,zj3,<-zf8 c (t+1)];congr 1;simp;intro a _;lia
def zt9{V:Town}{q:Nat}(X:TownOk V q){S:R.St}{n c:Nat}{z:Int}{th:Nat}{hs:List V.H}(tt:∀i:Nat,1<=i->i<1+c->V.tt (i:Nat))(dj:Dj V)(lh:hs.length=V.m)(hg:S.get th=Φ (.lst (whoL V 0 V.m)))(p1:∀(i:Nat) h,hs[i]?=Φ h->Pk V S 0 i h)(nt:∀i,i<V.m->th∉V.adr i)(hk:∀l∈S.lk,l<S.len)(hc:c<=40)(hz:z=(c:Nat))(h1q:1<=q) :
  W (appW (callF prog (n+q+3)) 11 [.ref th,.int z,.non] S) λx U=>x=.ref S.len/\Tn V U c th S.len (rnds V 1 c hs) (lets V 1 c hs)/\U.lk=S.lk/\U.frz=S.frz/\S.len<U.len/\∀l o,(∀i,i<V.m->l∉V.adr i)->S.get l=Φ o->U.get l=Φ o:=by
 refine ztM (F:=c_run) rfl rfl (by lia) ?_;rw[zmS];show W (Out.bind _ _) _;rw[zab];have e0:evE (callF prog (n+q+2)) (.lst .nil) (zaX c_run [.ref th,.int z,.non]) S=.ok (.ref S.len) (S.push (.lst [])):=by rfl
 rw[e0,W_ok];show W (exS (callF prog (n+q+2)) (.forS [4] (.rng2 V1 (.bin .Add J1 V1)) rB (.ret J3 .nil)) (Er th z S.len Ψ Ψ) (S.push (.lst []))) _;have mP:=Mv.push [] S (.lst []);have el:evL (callF prog (n+q+2)) (.rng2 V1 (.bin .Add J1 V1)) (Er th z S.len Ψ Ψ) (S.push (.lst []))=.ok (zj3 1 c,[]) (S.push (.lst [])):=by generalize hδ:Er th z S.len Ψ Ψ=δ;refine W.eq (wL_W _ ?_);subst hδ;left;change⟨by decide,by decide,Int.le_trans (by decide) (show(0:Int)<=z+1 by lia),Int.lt_of_le_of_lt (show z+1<=41 by lia) (by decide)⟩;refine⟨?_,rfl⟩;rw[<-zf8 c 1,show(z+1-1).toNat=c by lia];rfl
 generalize hδ:Er th z S.len Ψ Ψ=δ at el⊢;refine zdH el ?_;subst hδ;have Y:Tn V (S.push (.lst [])) 0 th S.len hs []:=by
  have lt_adr:∀i,i<V.m->∀z∈V.adr i,z<S.len:=λi hi z hz=>by
   have hil:i<hs.length:=by rw[lh];exact hi
   let⟨o,e⟩:=X.has (p1 i hs[i] (by simp[hil])).ok z hz;exact get_lt e
  have lth:=get_lt hg;exact⟨lh,zae hg,λi h e=>(p1 i h e).away X mP (by simp),nt,λi hi hm=>by have:=lt_adr i hi _ hm;lia,by lia,λl hl=>by have:=hk l hl;rw[plen];lia,zak _ _,⟨by show S.frz.length<=S.len;unfold St.len;lia,zco hk (le_refl _)⟩⟩
 refine(zii X (n:=n) (rr:=z) dj c 1 hs [] _ Ψ Ψ 0 tt Y (by lia) (by simp;lia)).mono λf U hU=>?_;let⟨⟨a,b,rfl⟩,Z,h1,h2,h4,h3⟩:=hU;dsimp only;rw[List.nil_append,zero_add]at Z;have eU:({U with lk:=(S.push (.lst [])).lk}:R.St)=U:=zqH (h1.trans rfl);rw[eU];refine wS_W _ ?_;left;exact⟨rfl,Z,h1,h2,by rw[plen]at h4;lia,λl o a1 e=>h3 l o (by have:=get_lt e;lia) a1 (zae e)⟩
def zaT{S T:R.St}{x:D}{f:PySem.Str}{v:D}(h:zbT S x f v=Φ T):T.len=S.len:=by unfold zbT at h;split at h;split at h;split at h;unfold St.put at h;split at h;exact nS h;split at h;exact nS h;cases h;simp[St.len];exact nS h;exact nS h;exact nS h
def zla{S:R.St}{n a c:Nat}{i m r:Int}(e:S.get a=Φ (.ins c []))(b:Fr S a):W (appW (callF prog (n+1)) 57 [.ref a,.int i,.int m,.int r] S) λd T=>d=.non/\Mv [a] S T/\T.len=S.len/\T.get a=Φ (.ins c [("number",.int i),("many",.int m),("rounds",.int r)]):=by refine zby (F:=zet) rfl rfl (wS_W _ ?_);let⟨t,h,g,o⟩:=zaY (f:="number") (v:=.int i) (gs:=[("number",.int i)]) e b (by simp) rfl;let⟨u,j,k,p⟩:=zaY (f:="many") (v:=.int m) (gs:=[("number",.int i),("many",.int m)]) o (b.mv g) (by simp) rfl;let⟨w,l,q,s⟩:=zaY (f:="rounds") (v:=.int r) (gs:=[("number",.int i),("many",.int m),("rounds",.int r)]) p ((b.mv g).mv k) (by simp) rfl;left;exists h;left;exists j;left;exists l;left;exact⟨rfl,(g.trans k).trans q,by rw[zaT l,zaT j,zaT h],s⟩
def zsm{S:R.St}{n a:Nat}{m b i s:Int}{w:Option Int}(e:S.get a=Φ (.ins 1 []))(q:Fr S a)(I:0<=b)(l:b<=5) :
  W (appW (callF prog (n+2)) 39 [.ref a,.int i,.int m,.int b,.int s,oD w] S) λd T=>d=.non/\Mv [a] S T/\T.len=S.len+1/\T.get a=Φ (hD m b i s w w 0 S.len)/\T.get S.len=Φ (.lst []):=by
 refine zby (F:=zcd) rfl rfl (wS_W _ ?_);left;specialize zig (n:=n) I l;left;refine zbn ((zla (n:=n) (r:=1+3*(b+1)) e q).mono λd T J=>?_);let⟨_,v,L,g⟩:=J;have f:=q.mv v;let⟨Y,t,c,M⟩:=zaY (f:="bound") (v:=.int b) (gs:=[("number",.int i),("many",.int m),("rounds",.int (1+3*(b+1))),("bound",.int b)]) g f (by simp) rfl;let⟨T2,u,h,N⟩:=zaY (f:="sender") (v:=.int s) (gs:=[("number",.int i),("many",.int m),("rounds",.int (1+3*(b+1))),("bound",.int b),("sender",.int s)]) M (f.mv c) (by simp) rfl;let⟨T3,x,k,O⟩:=zaY (f:="word") (v:=oD w) (gs:=[("number",.int i),("many",.int m),("rounds",.int (1+3*(b+1))),("bound",.int b),("sender",.int s),("word",oD w)]) N ((f.mv c).mv h) (by simp) rfl;let⟨T4,y,o,Q⟩:=zaY (f:="held") (v:=oD w) (gs:=[("number",.int i),("many",.int m),("rounds",.int (1+3*(b+1))),("bound",.int b),("sender",.int s),("word",oD w),("held",oD w)]) O (((f.mv c).mv h).mv k) (by simp) rfl;let⟨j,z,A,U⟩:=zaY (f:="backing") (v:=.int 0) (gs:=[("number",.int i),("many",.int m),("rounds",.int (1+3*(b+1))),("bound",.int b),("sender",.int s),("word",oD w),("held",oD w),("backing",.int 0)]) Q ((((f.mv c).mv h).mv k).mv o) (by simp) rfl;have p:j.len=S.len:=by rw[zaT z,zaT y,zaT x,zaT u,zaT t,L]
 have B:=Mv.push [a] j (.lst []);let⟨T6,C,E,G⟩:=zaY (S:=j.push (.lst [])) (f:="holdings") (v:=.ref j.len) (gs:=[("number",.int i),("many",.int m),("rounds",.int (1+3*(b+1))),("bound",.int b),("sender",.int s),("word",oD w),("held",oD w),("backing",.int 0),("holdings",.ref j.len)]) (zae U) ((((((f.mv c).mv h).mv k).mv o).mv A).mv B) (by simp) rfl;left;exists t;left;exists u;left;exists x;left;exists y;left;exists z;left;right;left;exists C;left;have lt:=get_lt e;refine⟨rfl,((((((v.trans c).trans h).trans k).trans o).trans A).trans B).trans E,by rw[zaT C,plen,p],by rw[p]at G;exact G,?_⟩;rw[<-p];exact E.old _ _ (by simp;lia) (zak _ _)
abbrev mkE:CE:=.mk 1 39 "KingHand" 0 #[J0,J1,J2,J3,.ite (.cmp .Eq J0 J3) J4 (.con D.non)]
abbrev wdO(s w i:Int):Option Int:=if i=s then Φ w else Ψ
noncomputable abbrev Eh(o:Option D)(m b s w:Int):Ev:=[o,Φ (.int m),Φ (.int b),Φ (.int s),Φ (.int w)]
def zs1{T:R.St}{n:Nat}{m b s w i:Int}(j:0<=b)(f:b<=5)(k:∀l∈T.lk,l<T.len) :
  W (evE (callF prog (n+2)) mkE (Eh (Φ (.int i)) m b s w) T) λd U=>d=.ref T.len/\Mv [] T U/\U.len=T.len+2/\U.get T.len=Φ (hD m b i s (wdO s w i) (wdO s w i) 0 (T.len+1))/\U.get (T.len+1)=Φ (.lst []):=by
 have fin:∀o:Option Int,o=wdO s w i->wOut (appW (callF prog (n+2)) 39 [.ref T.len,.int i,.int m,.int b,.int s,oD o] (T.push (.ins 1 []))) λd a=>za5 (zlD d=Γ) (D.ref T.len=.ref T.len/\Mv [] T a/\a.len=T.len+2/\a.get T.len=Φ (hD m b i s (wdO s w i) (wdO s w i) 0 (T.len+1))/\a.get (T.len+1)=Φ (.lst [])):=by rintro o rfl;refine zbn ((zsm (n:=n) (zak T (.ins 1 [])) ⟨by show T.frz.length<=T.len;unfold St.len;lia,zco k (le_refl _)⟩ j f).mono λd U p=>?_);let⟨rfl,v,l,g,h⟩:=p;rw[plen]at g h l;refine wNeed_of rfl ⟨rfl,⟨v.frz,v.lk,by lia,λm o _ e=>v.old m o (by have:=get_lt e;simp;lia) (zae e)⟩,by lia,g,h⟩
 refine wE_W _ ?_;unfold mkE;left;refine zbo (λc=>?_) (λc=>?_);left;exact fin (Φ w) (by unfold wdO;rw[if_pos c]);left;exact fin Ψ (by unfold wdO;rw[if_neg c])
structure Hs(U:R.St)(N k c:Nat)(m b s w:Int):Prop where
 a:∀i,i<c->U.get (N+2*i)=Φ (hD m b ((k+i:Nat):Int) s (wdO s w ((k+i:Nat):Int)) (wdO s w ((k+i:Nat):Int)) 0 (N+2*i+1))/\U.get (N+2*i+1)=Φ (.lst [])
abbrev refs(N:Nat):Nat->List D
 |0=>[]|c+1=>.ref N::refs (N+2) c
abbrev intD(k:Nat):Nat->List D
 |0=>[]|c+1=>.int (k:Nat)::intD (k+1) c
def zk5{n:Nat}{m b s w:Int}(g:0<=b)(a:b<=5):∀(c k:Nat)(T:R.St)(o:Option D),(∀l∈T.lk,l<T.len)->
  W (zay [0] (evT (callF prog (n+2)) (.tst (.con (D.bl Γ)))) (evE (callF prog (n+2)) mkE) (intD k c) (Eh o m b s w) T) λds U=>ds=refs T.len c/\Mv [] T U/\U.len=T.len+2*c/\Hs U T.len k c m b s w
 |0,k,T,o,e=>by show W (Out.ok [] T) _;rw[W_ok];exact⟨rfl,Mv.refl _ _,rfl,⟨λi h=>by lia⟩⟩| c+1,k,T,o,e=>by rw[intD,zay];show W (Out.bind (Out.ok Γ T) _) _;rw[zat];show W (Out.bind (evE (callF prog (n+2)) mkE (Eh (Φ (.int (k:Nat))) m b s w) T) _) _;rw[zab];refine(zs1 (n:=n) g a e).mono λd U j=>?_;let⟨rfl,v,l,p,q⟩:=j;rw[zab];refine(zk5 g a c (k+1) U _ (by rw[v.lk,l];exact λx r=>by have:=e x r;lia)).mono λds y t=>?_;let⟨rfl,f,u,H⟩:=t;rw[W_ok];rw[l]at H u⊢;refine⟨rfl,v.trans f,by lia,⟨λi h=>?_⟩⟩;cases i with|zero=>exact⟨f.old _ _ (by simp) p,f.old _ _ (by simp) q⟩| succ i=>have:=H.a i (by lia);rw[show T.len+2+2*i=T.len+2*(i+1) by lia,show k+1+i=k+(i+1) by lia]at this;exact this
def ziH:∀(c k:Nat),(List.range c).map (λ(i:Nat)=>D.int ((i+k:Nat):Int))=intD k c
 |0,_=>rfl| c+1,k=>by rw[List.range_succ_eq_map,Ο,map_map,intD,<-ziH c (k+1),zero_add];congr 1;refine Τ λi _=>?_;simp![Function.comp];rw[show Nat.succ i+k=i+(k+1) by lia]
def zjD{N:Nat}:∀{c k:Nat},N<=k->0<c->flats N (refs k c)=Δ
 |c+1,k,h,_=>by simp![refs,flats,flat];simp;lia
def zfK{S T:R.St}{l:Nat}(c:T.frz=S.frz++S.new):(R.St.mk S.frz (S.new++T.new) S.lk).get l=T.get l:=by unfold St.get;dsimp only;rw[c];by_cases a:l<S.frz.length;rw[if_pos a,if_pos (by rw[length_append];lia),getElem?_append_left a];rw[if_neg a];by_cases b:l<S.frz.length+S.new.length;rw[if_pos (by rw[length_append];exact b),getElem?_append_left (by lia),getElem?_append_right (by lia)];rw[if_neg (by rw[length_append];exact b),getElem?_append_right (by lia),length_append];congr 1;lia
def ziF{S T:R.St}(a:T.frz=S.frz++S.new):(R.St.mk S.frz (S.new++T.new) S.lk).len=T.len:=by unfold St.len;dsimp only;rw[a,length_append,length_append];lia
def zls{S T:R.St}(v:Mv [] S.enter T):Mv [] S ⟨S.frz,S.new++T.new,S.lk⟩:=⟨rfl,rfl,by rw[ziF v.frz];have:=v.len;rw[R.enter_len]at this;exact this,λl o _ e=>by rw[zfK v.frz];exact v.old l o (by simp) (by rw[zaP];exact e)⟩
def zpT{S:R.St}{n m:Nat}{b s w:Int}(j:0<=b)(a:b<=5)(o:1<=m)(A:m<=7) :
  W (app (callF prog (n+3)) 14 [.int (m:Nat),.int b,.int s,.int w] S) λd U=>d=.ref (S.len+2*m)/\Mv [] S U/\U.get (S.len+2*m)=Φ (.lst (refs S.len m))/\Hs U S.len 0 m (m:Nat) b s w/\U.len=S.len+2*m+1:=by
 refine zf2 (F:=zdw) rfl rfl ?_;left;change⟨by lia,by lia⟩;left;refine zar ?_;have e:(List.range ((m:Nat):Int).toNat).map (λ(k:Nat)=>D.int (k:Nat))=intD 0 m:=by rw[<-ziH m 0];rfl
 rw[e];refine(zk5 (n:=n) (b:=b) (s:=s) (w:=w) j a m 0 S.enter Ψ (λl p=>by cases p)).mono λB U q=>?_;let⟨rfl,v,l,H⟩:=q;have h:∀(c N:Nat),(refs N c).length=c:=λc=>by induction c with|zero=>intro N;rfl|succ c r=>intro N;rw[refs,Ρ,r]
 change by rw[h];lia
 left;change by rw[h];lia
 rw[R.enter_len]at H l⊢;have t:Mv [] S.enter ({U with lk:=S.enter.lk}:R.St):=⟨v.frz,rfl,v.len,v.old⟩;have f:=t.trans (Mv.push [] _ (.lst (refs S.len m)));refine zf6 (l:=U.len) (by rw[l];lia) (zak ({U with lk:=S.enter.lk}:R.St) (.lst (refs S.len m))) (zjD (le_refl _) o) ?_;have g:∀x,(R.St.mk S.frz (S.new++(({U with lk:=S.enter.lk}:R.St).push (.lst (refs S.len m))).new) S.lk).get x=(({U with lk:=S.enter.lk}:R.St).push (.lst (refs S.len m))).get x:=λx=>zfK f.frz;refine⟨by rw[l],zls f,?_,⟨λi u=>?_⟩,?_⟩;rw[g,<-l];exact zak ({U with lk:=S.enter.lk}:R.St) _;let⟨y,z⟩:=H.a i u;rw[g,g];exact⟨zae y,zae z⟩;rw[ziF f.frz,plen];show U.len+1=_;rw[l]
abbrev sD(m b:Int)(X Y:D):MO:=.ins 3 [("many",.int m),("bound",.int b),("liars",X),("lies",Y)]
def zqB{n a:Nat}{S:R.St}{m b:Int}{x y X Y:D}(e:S.get a=Φ (.ins 3 []))(h:Fr S a)(p:1<=m)(q:m<=7)(r:0<=b)(s:b<=5)
  (t:∀T,Mv [a] S T->app (callF prog (n+5)) 19 [.int m,x] T=.ok X T) (u:∀T,Mv [a] S T->app (callF prog (n+5)) 20 [.int m,y] T=.ok Y T) :
  W (appW (callF prog (n+6)) 56 [.ref a,.int m,.int b,x,y] S) λd T=>d=.non/\Mv [a] S T/\T.len=S.len/\T.get a=Φ (sD m b X Y):=by
 refine zby (F:=zbD) rfl rfl (wS_W _ ?_);left;specialize zks (n:=n+3) p q;left;let⟨I,j,c,w⟩:=zaY (f:="many") (v:=.int m) (gs:=[("many",.int m)]) e h (by simp) rfl;exists j;left;specialize zks (n:=n+3) r s;left;let⟨z,k,g,A⟩:=zaY (f:="bound") (v:=.int b) (gs:=[("many",.int m),("bound",.int b)]) w (h.mv c) (by simp) rfl;exists k;left;specialize t z (c.trans g);left;let⟨B,l,i,C⟩:=zaY (f:="liars") (v:=X) (gs:=[("many",.int m),("bound",.int b),("liars",X)]) A ((h.mv c).mv g) (by simp) rfl;exists l;left;specialize u B ((c.trans g).trans i);left;let⟨J,o,E,G⟩:=zaY (f:="lies") (v:=Y) (gs:=[("many",.int m),("bound",.int b),("liars",X),("lies",Y)]) C (((h.mv c).mv g).mv i) (by simp) rfl;exists o;left;exact⟨rfl,((c.trans g).trans i).trans E,by rw[zaT o,zaT l,zaT k,zaT j],G⟩
abbrev lrD(i m r:Int)(k:Nat)(zs:List Ly):MO:=.ins 0 [("number",.int i),("many",.int m),("rounds",.int r),("inner",.ref k),("lies",.tup (zs.map lD))]
def zqD{S:R.St}{f x k l:Nat}{m b i s kk:Int}{w h:Option Int}{zs:List Ly}(e:S.get x=Φ (.ins 0 []))(a:Fr S x)(es:S.get k=Φ (hD m b i s w h kk l))(hz:zs.length<=1000):W (appW (callF prog (f+2)) 35 [.ref x,.ref k,.tup (zs.map lD)] S) λd T=>d=.non/\Mv [x] S T/\T.len=S.len/\T.get x=Φ (lrD i m (1+3*(b+1)) k zs):=by
 refine zby rfl rfl (wS_W _ ?_);left;exists zbv es;left;exists zeW es;left;exists znQ es;left;refine zbn ((zla e a).mono λd T p=>?_);let⟨_,c,q,r⟩:=p;let⟨A,g,t,u⟩:=zaY (f:="inner") (gs:=[("number",.int i),("many",.int m),("rounds",.int (1+3*(b+1))),("inner",.ref k)]) r (a.mv c) (by simp) rfl;left;exists g;left;have j:=c.trans t;change by rw[length_map];lia
 left;let⟨B,o,y,z⟩:=zaY (f:="lies") u (a.mv j) (by simp) rfl;exists o;left;exact⟨rfl,j.trans y,by rw[zaT o,zaT g,q],z⟩
def zpO{n:Nat}{S:R.St}{ls:List Ly}(hl:ls.length<=1000):app (callF prog (n+4)) 0 [.tup (ls.map lD)] S=.ok (.clo (zaA [] ls)) S:=by
 have e:callF prog (n+4) 0 [.tup (ls.map lD)] S.enter=.ok (.clo (zaA [] ls)) S.enter:=by show(if 3<=n+3 then prm S.enter .road [.tup (ls.map lD)] else .bad)=_;rw[if_pos (by lia)];unfold prm;dsimp only;have:(zbg S.enter (.tup (ls.map lD))).bind (λa=>a.mapM lie4)=Φ ls:=zld ls;rw[this];dsimp only;rw[if_pos ⟨hl,rfl⟩]
 unfold app;rw[e];show zcF _ _ _=_;unfold zcF;rw[if_pos (by simp[flat])]
def ztD{cf:CF}{e:CE}{T:R.St}{rest:Ev}{i:Int}{h:Option Int}(g:Int->D):∀(os:List Int)(a b c:Option D),(∀o∈os,evE cf e (Φ (.tup [.int i])::Φ (.int o)::Φ (oD h)::rest) T=.ok (g o) T)->
  zay [0,1,2] (evT cf (.tst (.con (.bl Γ)))) (evE cf e) (os.map (rwD i h)) (a::b::c::rest) T=.ok (os.map g) T
 | [],_,_,_,_=>rfl| o::os,a,b,c,d=>by have f:=ztD g os (Φ (.tup [.int i])) (Φ (.int o)) (Φ (oD h)) λz j=>d z (Κ _ j);unfold zay;show Out.bind (.ok Γ T) _=_;show Out.bind (evE cf e (Φ (.tup [.int i])::Φ (.int o)::Φ (oD h)::rest) T) _=_;rw[d o Μ];show Out.bind (zay [0,1,2] _ _ (os.map (rwD i h)) (Φ (.tup [.int i])::Φ (.int o)::Φ (oD h)::rest) T) _=_;rw[f];rfl
abbrev toL(m i:Int)(y:Bool):List Int:=if y then(rg m).filter λo=>!decide (o=i) else []
def zor(m i:Int)(h:Option Int)(y:Bool):sayL m i h y=(toL m i y).map (rwD i h):=by cases y<;>rfl
def zhk{m i:Int}{y:Bool}(a:m<=7):(toL m i y).length<=7:=by unfold toL;split;refine le_trans (length_filter_le _ _) ?_;simp[rg];omega;simp
def zs7{S:R.St}{f x k l:Nat}{m b i s kk t r:Int}{w h:Option Int}{zs:List Ly}(e:S.get x=Φ (lrD i m r k zs))(c:S.get k=Φ (hD m b i s w h kk l))(g:0<m)(a:m<=7)(hz:zs.length<=1000) :
  W (appW (callF prog (f+5)) 38 [.ref x,.int t] S) λd T=>∃l,d=.ref l/\S.len<=l/\Mv [] S T/\T.get l=Φ (.lst ((toL m i (decide (i∈wrZ m s t))).map λo=>.tup [.tup [.int i],.int o,oD (zhG (t,[i],o) h zs)])):=by
 refine zby rfl rfl (wS_W _ ?_);have j:=zhk (i:=i) (y:=decide (i∈wrZ m s t)) a;left;exists zaE e rfl;left;specialize zpO hz;left;exists zaE e rfl;left;exists zau c;left;exists rfl;left;change rfl;left;specialize(zs6 c g a);left;rw[zor];exists zak _ _;left;refine zar ?_;refine W.of (ztD (λo=>.tup [.tup [.int i],.int o,oD (zhG (t,[i],o) h zs)]) _ Ψ Ψ Ψ (λo _=>?_)) ?_;refine W.eq (wE_W _ ?_);left;exists zrh zs t [i] o h;left;change by simp
 left;exact⟨rfl,rfl⟩;change by rw[length_map];lia
 left;change by rw[length_map];lia
 left;refine⟨_,rfl,?_,?_,zak _ _⟩;unfold sayS;rw[plen,plen];lia;exact((Mv.push [] S _).trans (Mv.push [] _ _)).trans (Mv.push [] _ _)
def zil:∀(c N:Nat),(refs N c).length=c
 |0,_=>rfl|c+1,N=>by rw[refs,Ρ,zil c (N+2)]
abbrev lc(lb:Nat->Bool):Nat->Nat
 |0=>0|j+1=>lc lb j+(lb j).toNat
def zoM{lb:Nat->Bool}{j:Nat}(h:lb j=Γ):lc lb (j+1)=lc lb j+1:=by rw[lc,h];rfl
def ztf{lb:Nat->Bool}{j:Nat}(h:lb j=Δ):lc lb (j+1)=lc lb j:=by rw[lc,h];rfl
def zlk(lb:Nat->Bool){i:Nat}:∀{j:Nat},i<=j->lc lb i<=lc lb j
 |0,h=>by rw[Nat.le_zero.mp h];exact le_refl _| j+1,h=>by rcases Nat.lt_or_eq_of_le h with h|h;exact le_trans (zlk lb (Nat.le_of_lt_succ h)) (Nat.le_add_right _ _);rw[h];exact le_refl _
abbrev whoA(N M:Nat)(lb:Nat->Bool)(j:Nat):Nat:=if lb j then M+lc lb j else N+2*j
abbrev whoR(N M:Nat)(lb:Nat->Bool):Nat->Nat->List D
 |_,0=>[]|k,c+1=>.ref (whoA N M lb k)::whoR N M lb (k+1) c
def ze8(N M:Nat)(lb:Nat->Bool):∀(c k:Nat),(whoR N M lb k c).length=c
 |0,_=>rfl|c+1,k=>by rw[whoR,Ρ,ze8 N M lb c (k+1)]
abbrev lwE:CE:=.ite (.cmp .In (.fld J0 "number") (.fld J1 "liars")) (.mk 0 35 "Liar" 0 #[J0,.fld J1 "lies"]) J0
section
variable{T:R.St}{n k st l:Nat}{m b i s kk m' b':Int}{w h:Option Int}{lz:List Int}{zs:List Ly}
def zs9(g:T.get k=Φ (hD m b i s w h kk l))(gs:T.get st=Φ (sD m' b' (pD lz) (.tup (zs.map lD))))(j:∀l∈T.lk,l<T.len)(hz:zs.length<=1000)(c:i∈lz) :
  W (evE (callF prog (n+2)) lwE [Φ (.ref k),Φ (.ref st)] T) λd U=>d=.ref T.len/\Mv [] T U/\U.len=T.len+1/\U.get T.len=Φ (lrD i m (1+3*(b+1)) k zs):=by
 refine wE_W _ ?_;left;exists zbv g;left;exists zaE gs rfl;left;exists zlK _ i lz;left;refine zi1 (decide_eq_true c) ?_;left;exists zaE gs rfl;left;refine zbn ((zqD (zak T (.ins 0 [])) ⟨by show T.frz.length<=T.len;unfold St.len;lia,zco j (le_refl _)⟩ (zae g) hz).mono λd U p=>?_);let⟨rfl,v,a,q⟩:=p;rw[plen]at a;refine wNeed_of rfl ⟨rfl,⟨v.frz,v.lk,by lia,λm o _ e=>v.old m o (by have:=get_lt e;simp;lia) (zae e)⟩,a,q⟩
def zus(g:T.get k=Φ (hD m b i s w h kk l))(gs:T.get st=Φ (sD m' b' (pD lz) (.tup (zs.map lD))))(c:i∉lz) :
  evE (callF prog (n+2)) lwE [Φ (.ref k),Φ (.ref st)] T=.ok (.ref k) T:=by
 refine W.eq (wE_W _ ?_);left;exists zbv g;left;exists zaE gs rfl;left;exists zlK _ i lz;left;refine zjY (decide_eq_false c) ?_;left;exact⟨rfl,rfl⟩
end
noncomputable abbrev lbZ(lz:List Int)(j:Nat):Bool:=decide (((j:Nat):Int)∈lz)
def zhF{n N M st m:Nat}{b s w E G:Int}{lz:List Int}{zs:List Ly}(hz:zs.length<=1000):∀(c k:Nat)(T:R.St)(o:Option D),k+c<=m->Hs T N 0 m (m:Nat) b s w->T.get st=Φ (sD E G (pD lz) (.tup (zs.map lD)))->(∀l∈T.lk,l<T.len)->T.len=M+lc (lbZ lz) k->
  W (zay [0] (evT (callF prog (n+2)) (.tst (.con (D.bl Γ)))) (evE (callF prog (n+2)) lwE) (refs (N+2*k) c) [o,Φ (.ref st)] T) λds U=>ds=whoR N M (lbZ lz) k c/\Mv [] T U/\U.len=M+lc (lbZ lz) (k+c)/\∀j,k<=j->j<k+c->lbZ lz j=Γ->U.get (M+lc (lbZ lz) j)=Φ (lrD (j:Nat) (m:Nat) (1+3*(b+1)) (N+2*j) zs)
 |0,k,T,o,_,_,_,_,e=>by show W (Out.ok [] T) _;rw[W_ok];exact⟨rfl,Mv.refl _ _,e,λj a A=>by lia⟩| c+1,k,T,o,Q,H,p,t,e=>by have g:=(H.a k (by lia)).1;rw[zero_add]at g;rw[refs,zay];show W (Out.bind (Out.ok Γ T) _) _;rw[zat];show W (Out.bind (evE (callF prog (n+2)) lwE [Φ (.ref (N+2*k)),Φ (.ref st)] T) _) _;rw[zab,show N+2*k+2=N+2*(k+1) by lia,whoR];by_cases y:((k:Nat):Int)∈lz;have f:lbZ lz k=Γ:=decide_eq_true y;refine(zs9 g p t hz y).mono λd U I=>?_;let⟨rfl,v,B,J⟩:=I;rw[zab];refine(zhF (M:=M) hz c (k+1) U _ (by lia) ⟨λi C=>⟨v.old _ _ (by simp) (H.a i C).1,v.old _ _ (by simp) (H.a i C).2⟩⟩ (v.old _ _ (by simp) p) (by rw[v.lk,B];exact λx L=>by have:=t x L;lia) (by rw[B,e,zoM f];lia)).mono λds O u=>?_;let⟨rfl,r,z,q⟩:=u;rw[W_ok];refine⟨?_,v.trans r,by rw[z,show k+1+c=k+(c+1) by lia],λj a A h=>?_⟩;unfold whoA;rw[f,if_pos rfl,<-e];rcases Nat.lt_or_eq_of_le a with a|a;exact q j a (by lia) h;subst a;rw[<-e];exact r.old _ _ (by simp) J;have f:lbZ lz k=Δ:=decide_eq_false y;rw[zus g p y,W_ok,zab];refine(zhF (M:=M) hz c (k+1) T _ (by lia) H p t (by rw[e,ztf f])).mono λds O u=>?_;let⟨rfl,r,z,q⟩:=u;rw[W_ok];refine⟨?_,r,by rw[z,show k+1+c=k+(c+1) by lia],λj a A h=>?_⟩;unfold whoA;rw[f,if_neg (by decide)];rcases Nat.lt_or_eq_of_le a with a|a;exact q j a (by lia) h;subst a;rw[f]at h;exact nB h
def zeV{N M L:Nat}{lb:Nat->Bool}(b:L<=M):∀(c k j:Nat),k<=j->j<k+c->lb j=Γ->flats L (whoR N M lb k c)=Δ
 |0,k,j,d,f,_=>by lia| c+1,k,j,d,f,a=>by rw[whoR];simp![flats,Bool.and_eq_false_iff];by_cases e:k=j;subst e;left;simp[whoA,a,flat];lia;exact .inr (zeV b c (k+1) j (by lia) (by lia) a)
def zeU{N M L:Nat}{lb:Nat->Bool}:∀(c k:Nat),(∀j,k<=j->j<k+c->lb j=Δ/\N+2*j<L)->flats L (whoR N M lb k c)=Γ
 |0,k,_=>rfl| c+1,k,h=>by let⟨d,e⟩:=h k (le_refl _) (by lia);rw[whoR];simp![flats,Ε];refine⟨by simp[whoA,d,flat,e],zeU c (k+1) λj a b=>h j (by lia) (by lia)⟩
def zlj{lb:Nat->Bool}:∀{m:Nat},(∀j,j<m->lb j=Δ)->lc lb m=0
 |0,_=>rfl|m+1,h=>by rw[ztf (h m (by lia)),zlj λj a=>h j (by lia)]
def zsh{S:R.St}{n N hl st m:Nat}{b s w A B:Int}{lz:List Int}{zs:List Ly}(J:m<=7)(hz:zs.length<=1000)(p:S.get hl=Φ (.lst (refs N m)))(gs:S.get st=Φ (sD A B (pD lz) (.tup (zs.map lD))))(H:Hs S N 0 m (m:Nat) b s w) :
  W (app (callF prog (n+3)) 10 [.ref hl,.ref st] S) λd U=>d=.ref (S.len+lc (lbZ lz) m)/\Mv [] S U/\U.get (S.len+lc (lbZ lz) m)=Φ (.lst (whoR N S.len (lbZ lz) 0 m))/\∀j,j<m->lbZ lz j=Γ->U.get (S.len+lc (lbZ lz) j)=Φ (lrD (j:Nat) (m:Nat) (1+3*(b+1)) (N+2*j) zs):=by
 refine zf2 (F:=zdr) rfl rfl ?_;left;refine zaB p ?_;left;refine zar ?_;have f:∀(l:List Nat) x o,S.get x=Φ o->({S.enter with lk:=l}:R.St).get x=Φ o:=λl x o e=>by show S.enter.get x=Φ o;rw[zaP];exact e
 have r:(({S.enter with lk:=[hl]}:R.St).len)=S.len+lc (lbZ lz) 0:=by show S.enter.len=_;rw[R.enter_len];rfl
 have g:=get_lt p;refine(zhF (n:=n) (N:=N) (M:=S.len) (st:=st) (m:=m) (b:=b) (s:=s) (w:=w) (lz:=lz) hz m 0 {S.enter with lk:=[hl]} Ψ (by lia) ⟨λi t=>⟨f _ _ _ (H.a i t).1,f _ _ _ (H.a i t).2⟩⟩ (f _ _ _ gs) (by intro x C;rw[mem_singleton.mp C];rw[r];exact lt_of_lt_of_le g (Nat.le_add_right _ _)) r).mono λL U E=>?_;let⟨rfl,v,l,q⟩:=E;rw[zero_add]at l q;change by rw[ze8];lia
 left;change by rw[ze8];lia
 have G:Mv [] S.enter ({U with lk:=S.enter.lk}:R.St):=⟨v.frz,rfl,v.len,λm o h e=>v.old m o h e⟩;have u:=G.trans (Mv.push [] _ (.lst (whoR N S.len (lbZ lz) 0 m)));by_cases y:∃j,j<m/\lbZ lz j=Γ;let⟨j,a,c⟩:=y;refine zf6 (l:=U.len) (by rw[l];lia) (zak ({U with lk:=S.enter.lk}:R.St) (.lst (whoR N S.len (lbZ lz) 0 m))) (zeV (le_refl _) m 0 j (zero_le _) (by lia) c) ?_;have z:∀x,(R.St.mk S.frz (S.new++(({U with lk:=S.enter.lk}:R.St).push (.lst (whoR N S.len (lbZ lz) 0 m))).new) S.lk).get x=(({U with lk:=S.enter.lk}:R.St).push (.lst (whoR N S.len (lbZ lz) 0 m))).get x:=λx=>zfK u.frz;refine⟨by rw[l],zls u,?_,λj a c=>?_⟩;rw[z,<-l];exact zak ({U with lk:=S.enter.lk}:R.St) _;rw[z];exact zae (q j (zero_le _) a c);have k:∀j,j<m->lbZ lz j=Δ:=λj a=>by cases e:lbZ lz j with|false=>rfl|true=>exact absurd ⟨j,a,e⟩ y
 rw[zlj k]at l⊢;have I:flats S.len (whoR N S.len (lbZ lz) 0 m)=Γ:=zeU m 0 λj _ O=>⟨k j (by lia),get_lt (H.a j (by lia)).1⟩;have:=zdK (S:=S) (T:=({U with lk:=S.enter.lk}:R.St).push (.lst (whoR N S.len (lbZ lz) 0 m))) (l:=U.len) (Q:=λd U=>d=.ref (S.len+0)/\Mv [] S U/\U.get (S.len+0)=Φ (.lst (whoR N S.len (lbZ lz) 0 m))/\∀j,j<m->lbZ lz j=Γ->U.get (S.len+lc (lbZ lz) j)=Φ (lrD (j:Nat) (m:Nat) (1+3*(b+1)) (N+2*j) zs)) (by rw[l];lia) (zak ({U with lk:=S.enter.lk}:R.St) (.lst (whoR N S.len (lbZ lz) 0 m))) I ⟨rfl,Mv.push _ _ _,zak _ _,λj a c=>by rw[k j a]at c;exact nB c⟩;exact this
abbrev unD:D->Option Int|.int i=>Φ i|_=>Ψ
def zrE(o:Option Int):unD (oD o)=o:=by cases o<;>rfl
def zst(m:Int):(rg m).Pairwise (· < ·):=by unfold rg;rw[pairwise_map];exact Pairwise.imp (λ{a b} h=>by exact_mod_cast h) List.pairwise_lt_range
def zpc(m i:Int)(y:Bool):(toL m i y).Pairwise (· < ·):=by unfold toL;split;exact(zst m).filter _;exact .nil
abbrev cvL(B:List Bxl):List (Int×Option Int):=B.map λx=>(x.1.headD 0,unD x.2)
abbrev kLt(x:Bxl):Prop:=∃(i:Int) (o:Option Int),x=([i],oD o)
def cv_D:∀{B:List Bxl},(∀x∈B,kLt x)->B.map bxD=(cvL B).map ltD
 | [],_=>rfl| x::B,h=>by let⟨i,o,rfl⟩:=h x (by simp);have a:=cv_D (B:=B) λy b=>h y (by simp[b]);unfold cvL at a⊢;rw[Ο,Ο,Ο,a];congr 1;show D.tup [.tup [.int i],oD o]=.tup [.tup [.int i],oD (unD (oD o))];rw[zrE]
noncomputable abbrev Kh:=Option Int×Int×List (Option Int)
abbrev bnd(lz:List Int)(zs:List Ly)(j:Nat)(t o:Int)(x:Option Int):Option Int:=if lbZ lz j then zhG (t,[((j:Nat):Int)],o) x zs else x
abbrev kt(m:Nat)(b s w:Int)(N M:Nat)(lz:List Int)(zs:List Ly):Town where
 H:=Kh
 m:=m
 who j:=whoA N M (lbZ lz) j
 adr j:=[whoA N M (lbZ lz) j,N+2*j,N+2*j+1]
 ok S d j h:=S.get (N+2*j)=Φ (hD (m:Nat) b (j:Nat) s (wdO s w (j:Nat)) h.1 h.2.1 (N+2*j+1))/\S.get (N+2*j+1)=Φ (.lst (h.2.2.map oD))/\h.2.2.length<=d/\(lbZ lz j=Γ->S.get (M+lc (lbZ lz) j)=Φ (lrD (j:Nat) (m:Nat) (1+3*(b+1)) (N+2*j) zs))
 say j t h:=(toL (m:Nat) (j:Nat) (decide (((j:Nat):Int)∈wrZ (m:Nat) s t))).map λo=>⟨[((j:Nat):Int)],o,oD (bnd lz zs j t o h.1)⟩
 hear j t h B:=((hrZ (m:Nat) b (j:Nat) s t h.1 h.2.1 (cvL B)).1,(hrZ (m:Nat) b (j:Nat) s t h.1 h.2.1 (cvL B)).2,h.2.2++[(hrZ (m:Nat) b (j:Nat) s t h.1 h.2.1 (cvL B)).1])
 lt:=kLt
 tt _:=True
section
variable{m:Nat}{b s w:Int}{N M:Nat}{lz:List Int}{zs:List Ly}
def zlo(t:Int):∀(hs:List Kh)(k:Nat),(∀r∈(kt m b s w N M lz zs).said t k hs,∃j:Nat,k<=j/\r.p=[((j:Nat):Int)])/\(((kt m b s w N M lz zs).said t k hs).map key).Pairwise Lt3
 | [],k=>⟨λr c=>(by cases c),.nil⟩| h::hs,k=>by let⟨f,i⟩:=zlo t hs (k+1);refine⟨λr c=>?_,?_⟩;rcases mem_append.mp c with c|c;let⟨o,_,rfl⟩:=mem_map.mp c;exact⟨k,le_refl _,rfl⟩;let⟨j,a,e⟩:=f r c;exact⟨j,by lia,e⟩;show((_++_:List Row).map key).Pairwise Lt3;rw[map_append,List.pairwise_append];refine⟨?_,i,λx l y n=>?_⟩;show((List.map _ (toL _ _ _)).map key).Pairwise Lt3;rw[map_map,pairwise_map];exact(zpc _ _ _).imp λ{a b} z=>.inr ⟨rfl,.inr ⟨rfl,z⟩⟩;let⟨r,c,rfl⟩:=mem_map.mp l;let⟨o,_,rfl⟩:=mem_map.mp c;let⟨g,d,rfl⟩:=mem_map.mp n;let⟨j,a,e⟩:=f g d;refine .inr ⟨rfl,.inl ?_⟩;show lexZ [((k:Nat):Int)] g.p=Γ;rw[e,zb9,if_neg (by lia)];exact decide_eq_true (by lia)
def zoN(a:m<=7)(t:Int):∀(hs:List Kh)(k:Nat),((kt m b s w N M lz zs).said t k hs).length<=7*hs.length
 | [],k=>le_refl _| h::hs,k=>by
  have c:=zoN a t hs (k+1);show(_++_:List Row).length<=_;rw[length_append,Ρ];have:((kt m b s w N M lz zs).say k t h).length<=7:=by show(List.map _ (toL _ _ _)).length<=7;rw[length_map];exact zhk (by lia)
  lia
def zqE{S:R.St}{f x k q l:Nat}{i r t:Int}{h:Option Int}{kk:Int}{a:Option Int}{Q:D->R.St->Prop}(e:S.get x=Φ (lrD i (m:Nat) r k zs))(c:S.get k=Φ (hD (m:Nat) b i s a h kk l))(g:W (appW (callF prog f) 42 [.ref k,.int t,.ref q] S) λd T=>Q .non T):W (appW (callF prog (f+1)) 37 [.ref x,.int t,.ref q] S) Q:=by refine zby (F:=zes) rfl rfl (wS_W _ ?_);left;exists zaE e rfl;left;exists zau c;left;exists rfl;left;change rfl;left;refine zbn (g.mono λd T j=>?_);left;exact j
def zut(m1:1<=m)(L:m<=7)(E:0<=b)(hz:zs.length<=1000):TownOk (kt m b s w N M lz zs) 8:=by
 refine⟨λ{S T d j h} o g=>?_,λ{S d j h} o z hz=>?_,λ{S d j h} t n _ hk O o=>?_,λj t h r Q=>?_,λj=>by simp[kt],λx U M=>?_,λ{S d j Y h B} t n O hd o q gb nb hl lt=>?_,λt u G=>(zlo t u 0).2,λt u G=>?_⟩;refine⟨g _ (by simp[kt]) _ o.1,g _ (by simp[kt]) _ o.2.1,o.2.2.1,λy=>g _ ?_ _ (o.2.2.2 y)⟩;show _∈[whoA N M (lbZ lz) j,N+2*j,N+2*j+1];unfold whoA;rw[y,if_pos rfl];exact Μ;simp![kt,mem_cons,not_mem_nil,or_false]at hz;rcases hz with rfl|rfl|rfl;unfold whoA;cases y:lbZ lz j with|true=>exact⟨_,o.2.2.2 y⟩|false=>exact⟨_,o.1⟩
 exact⟨_,o.1⟩;exact⟨_,o.2.1⟩;cases y:lbZ lz j with
 |true=>
  have a:(kt m b s w N M lz zs).who j=M+lc (lbZ lz) j:=by show whoA _ _ _ _=_;unfold whoA;rw[y,if_pos rfl]
  rw[a];refine⟨_,_,38,o.2.2.2 y,rfl,rfl,?_⟩;refine(zs7 (f:=n+3) (t:=t) (o.2.2.2 y) o.1 (by lia) (by lia) hz).mono λx T c=>?_;let⟨l,rfl,h1,C,A⟩:=c;refine⟨l,rfl,h1,C,?_⟩;rw[A];show _=Φ (MO.lst ((List.map _ (toL _ _ _)).map rD));rw[map_map];congr 2;refine Τ λo _=>?_;show _=D.tup [.tup [.int _],.int o,oD (bnd lz zs j t o h.1)];unfold bnd;rw[y,if_pos rfl]
 |false=>
  have a:(kt m b s w N M lz zs).who j=N+2*j:=by show whoA _ _ _ _=_;unfold whoA;rw[y,if_neg (by decide)]
  rw[a];refine⟨_,_,47,o.1,rfl,rfl,?_⟩;show W (appW (callF prog (n+5+3)) 47 [.ref (N+2*j),.int t] S) _;rw[zs6 (t:=t) o.1 (by lia) (by lia),W_ok];refine⟨_,rfl,?_,(Mv.push _ _ _).trans (Mv.push _ _ _),?_⟩;unfold sayS;rw[plen];lia;rw[zak,zor];show _=Φ (MO.lst ((List.map _ (toL _ _ _)).map rD));rw[map_map];congr 2;refine Τ λo _=>?_;show _=D.tup [.tup [.int _],.int o,oD (bnd lz zs j t o h.1)];unfold bnd;rw[y,if_neg (by decide)];rfl
 let⟨o,_,rfl⟩:=mem_map.mp Q;exact⟨_,_,rfl⟩
 . let⟨i,o,rfl⟩:=U;cases o<;>rfl
 have I:S.get Y=Φ (.lst ((cvL B).map ltD)):=by rw[gb,cv_D lt]
 have J:(cvL B).length<=60:=by unfold cvL;rw[length_map];exact hl
 have nh:=(zoK (n:=n) (t:=t) o.1 (q _ (by simp[kt])) I o.2.1 (q _ (by simp[kt])) (by lia) (by have:=o.2.2.1;lia) J E (by lia));have fin:∀T:R.St,Mv [N+2*j,N+2*j+1] S T->T.get (N+2*j)=Φ (hD (m:Nat) b (j:Nat) s (wdO s w (j:Nat)) (hrZ (m:Nat) b (j:Nat) s t h.1 h.2.1 (cvL B)).1 (hrZ (m:Nat) b (j:Nat) s t h.1 h.2.1 (cvL B)).2 (N+2*j+1))->T.get (N+2*j+1)=Φ (.lst ((h.2.2++[(hrZ (m:Nat) b (j:Nat) s t h.1 h.2.1 (cvL B)).1]).map oD))->Mv ((kt m b s w N M lz zs).adr j) S T/\(kt m b s w N M lz zs).ok T (d+1) j ((kt m b s w N M lz zs).hear j t h B):=λT v e k=>by refine⟨v.up (by simp[kt]),e,k,?_,λy=>?_⟩;show(h.2.2++[_]).length<=d+1;rw[length_append];have:=o.2.2.1;simp;lia;have p:=o.2.2.2 y;refine v.old _ _ ?_ p;simp![mem_cons,not_mem_nil,or_false,not_or];refine⟨λz=>?_,λz=>?_⟩;rw[z,o.1]at p;cases p;rw[z,o.2.1]at p;cases p
 cases y:lbZ lz j with
 |true=>
  have a:(kt m b s w N M lz zs).who j=M+lc (lbZ lz) j:=by show whoA _ _ _ _=_;unfold whoA;rw[y,if_pos rfl]
  rw[a];refine⟨_,_,37,o.2.2.2 y,rfl,rfl,?_⟩;refine zqE (f:=n+7) (o.2.2.2 y) o.1 (nh.mono λx T c=>?_);let⟨_,v,e,k⟩:=c;exact⟨rfl,fin T v e k⟩
 |false=>
  have a:(kt m b s w N M lz zs).who j=N+2*j:=by show whoA _ _ _ _=_;unfold whoA;rw[y,if_neg (by decide)]
  rw[a];refine⟨_,_,42,o.1,rfl,rfl,?_⟩;refine(zoK (n:=n+1) (t:=t) o.1 (q _ (by simp[kt])) I o.2.1 (q _ (by simp[kt])) (by lia) (by have:=o.2.2.1;lia) J E (by lia)).mono λx T c=>?_;let⟨rfl,v,e,k⟩:=c;exact⟨rfl,fin T v e k⟩
 have C:List.length u=m:=G;refine le_trans (zoN (b:=b) (s:=s) (w:=w) (N:=N) L t u 0) ?_;have A:7*m<=60:=by lia
 rw[<-C]at A;exact A
def zqN{i j:Nat}{lb:Nat->Bool}(h:i<j)(y:lb i=Γ):lc lb i<lc lb j:=by have:=zlk lb h;rw[zoM y]at this;lia
def zuu(l:N+2*m<=M):Dj (kt m b s w N M lz zs):=by
 intro i j f k h z a c;simp![kt,mem_cons,not_mem_nil,or_false]at a c f k;unfold whoA at a c;cases d:lbZ lz i<;>cases e:lbZ lz j<;>simp![d,e,if_true,ύ,if_false]at a c<;>first|lia|skip
 rcases Nat.lt_or_gt_of_ne h with g|g;have:=zqN (lb:=lbZ lz) g d;lia;have:=zqN (lb:=lbZ lz) g e;lia
def zh7:∀(c k:Nat),whoL (kt m b s w N M lz zs) k c=whoR N M (lbZ lz) k c
 |0,_=>rfl|c+1,k=>by rw[whoL,whoR,zh7 c (k+1)];rfl
end
abbrev hs0(s w:Int)(k:Nat):Nat->List Kh
 |0=>[]|c+1=>(wdO s w (k:Nat),0,[])::hs0 s w (k+1) c
def zeh(s w:Int):∀(c k:Nat),(hs0 s w k c).length=c
 |0,_=>rfl|c+1,k=>by rw[hs0,Ρ,zeh s w c (k+1)]
def zhN(s w:Int):∀(c k i:Nat)(h:Kh),(hs0 s w k c)[i]?=Φ h->i<c/\h=(wdO s w ((k+i:Nat):Int),0,[])
 |0,_,i,h,e=>by simp[hs0]at e|c+1,k,0,h,e=>by cases e;exact⟨by lia,rfl⟩| c+1,k,i+1,h,e=>by let⟨b,a⟩:=zhN s w c (k+1) i h (by simpa[hs0]using e);exact⟨by lia,by rw[a,show k+1+i=k+(i+1) by lia]⟩
structure Pl(U:R.St)(a hl N m:Nat)(b s w:Int)(hs:List Kh)(Ls:List D):Prop where
 p:∃sl:Nat,U.get a=Φ (.ins 2 [("hands",.ref hl),("sent",.ref sl)])/\U.get sl=Φ (.lst Ls)
 h:U.get hl=Φ (.lst (refs N m))
 k:∀(j:Nat) h,hs[j]?=Φ h->U.get (N+2*j)=Φ (hD (m:Nat) b (j:Nat) s (wdO s w (j:Nat)) h.1 h.2.1 (N+2*j+1))/\U.get (N+2*j+1)=Φ (.lst (h.2.2.map oD))/\h.2.2.length<=40
 l:hs.length=m
def Pl.mono{U T:R.St}{a hl N m:Nat}{b s w:Int}{hs:List Kh}{Ls:List D}(P:Pl U a hl N m b s w hs Ls)(g:∀l o,U.get l=Φ o->T.get l=Φ o):Pl T a hl N m b s w hs Ls:=by let⟨⟨c,p,d⟩,h,k,l⟩:=P;exact⟨⟨c,g _ _ p,g _ _ d⟩,g _ _ h,λj x e=>⟨g _ _ (k j x e).1,g _ _ (k j x e).2.1,(k j x e).2.2⟩,l⟩
def zqC{S:R.St}{n m c a hl th N M:Nat}{b s w z:Int}{lz:List Int}{zs:List Ly}(m1:1<=m)(m7:m<=7)(hb:0<=b)(A:zs.length<=1000)(e:S.get a=Φ (.ins 2 []))(B:Fr S a)(J:S.get hl=Φ (.lst (refs N m)))(L:S.get th=Φ (.lst (whoR N M (lbZ lz) 0 m)))(H:Hs S N 0 m (m:Nat) b s w)(hL:∀j,j<m->lbZ lz j=Γ->S.get (M+lc (lbZ lz) j)=Φ (lrD (j:Nat) (m:Nat) (1+3*(b+1)) (N+2*j) zs))(fr:∀z,N<=z->z<S.len->Fr S z)(na:a<N)(nh:N+2*m<=hl)(nM:hl<M)(nt:th=M+lc (lbZ lz) m)(hk:∀l∈S.lk,l<S.len)(hc:c<=40)(hz:z=(c:Nat)) :
  W (appW (callF prog (n+12)) 58 [.ref a,.ref hl,.ref th,.int z] S) λd U=>d=.non/\Pl U a hl N m b s w (rnds (kt m b s w N M lz zs) 1 c (hs0 s w 0 m)) (lets (kt m b s w N M lz zs) 1 c (hs0 s w 0 m))/\U.frz=S.frz/\U.lk=S.lk/\S.len<=U.len/\∀l o,l≠a->l<N->S.get l=Φ o->U.get l=Φ o:=by
 refine zby (F:=zeq) rfl rfl (wS_W _ ?_);let⟨t,a1,g,O⟩:=zaY (f:="hands") (v:=.ref hl) (gs:=[("hands",.ref hl)]) e B (by simp) rfl;have X:=zut (s:=s) (w:=w) (N:=N) (M:=M) (lz:=lz) (zs:=zs) m1 m7 hb A;have q:∀i,i<m->∀z∈(kt m b s w N M lz zs).adr i,(N<=z/\z<N+2*m)\/(M<=z/\z<M+lc (lbZ lz) m):=λi p z hz=>by simp![kt,mem_cons,not_mem_nil,or_false]at hz;unfold whoA at hz;cases y:lbZ lz i with| true=>have:=zqN (lb:=lbZ lz) p y;rw[y,if_pos rfl]at hz;lia| false=>rw[y,if_neg (by decide)]at hz;lia
 have lth:=get_lt L;have pk:∀(i:Nat) h,(hs0 s w 0 m)[i]?=Φ h->Pk (kt m b s w N M lz zs) t 0 i h:=λi h C=>by let⟨p,rfl⟩:=zhN s w m 0 i h C;let⟨Q,x2⟩:=H.a i p;rw[zero_add]at Q⊢;refine⟨⟨g.old _ _ (by simp;lia) Q,g.old _ _ (by simp;lia) x2,zero_le _,λy=>g.old _ _ (by simp;lia) (hL i p y)⟩,λz hz=>?_⟩;exact(fr z (by have:=q i p z hz;lia) (by have:=q i p z hz;lia)).mv g
 have rn:=zt9 X (S:=t) (n:=n) (c:=c) (z:=z) (th:=th) (hs:=hs0 s w 0 m) (λ_ _ _=>trivial) (zuu (by lia)) (zeh s w m 0) (by rw[zh7];exact g.old _ _ (by simp;lia) L) pk (λi p E=>by have:=q i p _ E;lia) (by rw[g.lk];exact λl hl=>lt_of_lt_of_le (hk l hl) g.len) hc hz (by lia);left;exists a1;left;refine zbn (rn.mono λx U hU=>?_);let⟨rfl,Z,T,Y,ul,G⟩:=hU;have k:∀l,l<N\/l=hl->∀i,i<(kt m b s w N M lz zs).m->l∉(kt m b s w N M lz zs).adr i:=λl h i p E=>by have:=q i p l E;lia
 have ga:=G a _ (k a (.inl na)) O;have fa:Fr U a:=⟨by rw[Y];exact(B.mv g).f,by rw[T];exact(B.mv g).k⟩;let⟨T2,a2,r,g2⟩:=zaY (f:="sent") (v:=.ref t.len) ga fa (by simp) rfl;left;exists a2;left;refine⟨rfl,⟨⟨_,g2,r.old _ _ (by have:=get_lt ga;have:=get_lt O;have:=g.len;have:=get_lt J;simp;lia) Z.gl⟩,r.old _ _ (by simp;lia) (G _ _ (k hl (.inr rfl)) (g.old _ _ (by simp;lia) J)),λj h C=>?_,Z.lh⟩,by rw[r.frz,Y,g.frz],by rw[r.lk,T,g.lk],le_trans g.len (le_trans (le_of_lt ul) r.len),λl o u I e=>r.old _ _ (by simpa using u) (G _ _ (k l (.inl I)) (g.old _ _ (by simpa using u) e))⟩;let⟨u,I,h3,_⟩:=(Z.p1 j h C).ok;exact⟨r.old _ _ (by simp;lia) u,r.old _ _ (by simp;lia) I,by lia⟩
def ziM{S U:R.St}(a:∀l∈S.lk,l<S.len)(v:Mv [] S U){z:Nat}(h:S.len<=z):Fr U z:=by
 refine⟨?_,?_⟩;rw[v.frz];have:S.frz.length<=S.len:=by unfold St.len;lia
 lia;rw[v.lk,Bool.eq_false_iff];intro c;have:=a _ (List.contains_iff_mem.mp c);lia
def zmQ{n:Nat}{S:R.St}{i:Int}(h:-10^60<i/\i<10^60):app (callF prog (n+3)) 6 [.int i] S=.ok (.int i) S:=by refine zaQ rfl rfl ?_;left;specialize zot h;left;exact zaj rfl ⟨rfl,rfl⟩
def zqF{S:R.St}{n a st m:Nat}{b s w:Int}{lz:List Int}{zs:List Ly}(e:S.get st=Φ (sD (m:Nat) b (pD lz) (.tup (zs.map lD))))(p:S.get a=Φ (.ins 2 []))(C:Fr S a)(q:∀l∈S.lk,l<S.len)(r:1<=m)(g:m<=7)(h:0<=b)(t:b<=5)(hs:0<=s/\s<(m:Nat))(E:-10^60<w/\w<10^60)(hz:zs.length<=1000) :
  W (appW (callF prog (n+13)) 50 [.ref a,.ref st,.int s,.int w] S) λx U=>x=.non/\(∃hl N M,Pl U a hl N m b s w (rnds (kt m b s w N M lz zs) 1 (1+3*(b+1)).toNat (hs0 s w 0 m)) (lets (kt m b s w N M lz zs) 1 (1+3*(b+1)).toNat (hs0 s w 0 m)))/\U.frz=S.frz/\U.lk=S.lk/\S.len<=U.len/\∀l o,l≠a->S.get l=Φ o->U.get l=Φ o:=by
 refine zby rfl rfl (wS_W _ ?_);left;exists zaE e rfl;left;specialize zfj hs;left;specialize zmQ E;left;exists zaE e rfl;left;exists zaE e rfl;left;refine zbn ((zpT h t r g).mono λx U G=>?_);let⟨rfl,v,u,H,ul⟩:=G;have e1:=v.old _ _ (by simp) e;have I:=get_lt p;left;refine zbn ((zsh g hz u e1 H).mono λx J j=>?_);let⟨rfl,f,L,O⟩:=j;have e2:=f.old _ _ (by simp) e1;left;exists zaE e2 rfl;left;specialize zig h t;left;have d:=v.trans f;have Q:Hs J S.len 0 m (m:Nat) b s w:=⟨λi A=>⟨f.old _ _ (by simp) (H.a i A).1,f.old _ _ (by simp) (H.a i A).2⟩⟩;refine zbn ((zqC (c:=(1+3*(b+1)).toNat) r g h hz (d.old _ _ (by simp) p) (C.mv d) (f.old _ _ (by simp) u) L Q O (λz k _=>ziM q d k) I (le_refl _) (by lia) rfl (by rw[d.lk];exact λl hl=>lt_of_lt_of_le (q l hl) d.len) (by lia) (by lia)).mono λy T Y=>?_);let⟨_,P,tf,tk,tl,to⟩:=Y;left;exact⟨rfl,⟨_,_,_,P⟩,by rw[tf,d.frz],by rw[tk,d.lk],le_trans d.len tl,λl o k B=>to l o k (get_lt B) (d.old _ _ (by simp) B)⟩
def zkw:∀(c N i:Nat),i<c->(refs N c)[i]?=Φ (.ref (N+2*i))
 |c+1,N,0,_=>rfl| c+1,N,i+1,h=>by rw[refs,List.getElem?_cons_succ,zkw c (N+2) i (by lia),show N+2+2*i=N+2*(i+1) by lia]
section
variable{S:R.St}{n a hl N m:Nat}{b s w:Int}{hs:List Kh}{Ls:List D}
def m_at{j:Nat}(P:Pl S a hl N m b s w hs Ls)(c:j<m):appW (callF prog (n+4)) 53 [.ref a,.int (j:Nat)] S=.ok (.ref (N+2*j)) S:=by let⟨d,p,e⟩:=P.p;refine zbs rfl rfl ?_;left;exists zaE p rfl;left;exists zaE p rfl;left;exists P.h;left;rw[zil];specialize zfj (show(0:Int)<=((j:Nat):Int)/\((j:Nat):Int)<((m:Nat):Int) by lia);left;exists P.h;left;exists zdi (zkw m N j c);left;exact⟨rfl,rfl⟩
def zs5{j:Nat}{h:Kh}(P:Pl S a hl N m b s w hs Ls)(e:hs[j]?=Φ h):appW (callF prog (n+5)) 55 [.ref a,.int (j:Nat)] S=.ok (.ref S.len) (S.push (.lst (h.2.2.map oD))):=by
 let⟨g,p,i⟩:=P.p;have d:j<m:=by rw[<-P.l];exact(Α.mp e).1
 let⟨c,f,k⟩:=P.k j h e;refine zbs rfl rfl ?_;left;exists zau p;left;exists rfl;left;change rfl;left;specialize(m_at P d);left;exists zau c;left;exists rfl;left;change rfl;left;specialize zqA c f (by lia);left;exact⟨rfl,rfl⟩
end
def zgx{b c:Type}(f:b->c):∀(l:List b)(j:Nat),(l.map f).eraseIdx j=(l.eraseIdx j).map f
 | [],_=>rfl|_::_,0=>rfl|a::l,j+1=>by simp[zgx f l j]
def zpS{n:Nat}{S:R.St}{c:Int}{m t:Nat}(A:m<=7)(I:t<=m) :
  ∃lr:List Int,app (callF prog (n+1)) 26 [.int c,.int (m:Nat),.int (t:Nat)] S=.ok (.ref S.len) (S.push (.lst (lr.map .int)))/\lr.length<=t/\∀x∈lr,0<=x/\x<(m:Int):=by
 have key:W (app (callF prog (n+1)) 26 [.int c,.int (m:Nat),.int (t:Nat)] S) λd T=>∃lr:List Int,(d=.ref S.len/\T=S.push (.lst (lr.map .int)))/\lr.length<=t/\∀x∈lr,0<=x/\x<(m:Int):=by
  refine zf2 (F:=zeo) rfl rfl ?_;left;right;left;change by lia
  left;change by simp;lia
  left;change by lia
  left;change by lia
  left;have B:0<=c%((t:Int)+1):=emod_nonneg _ (by lia);have C:c%((t:Int)+1)<(t:Int)+1:=Int.emod_lt_of_pos _ (by lia);change by lia
  left;generalize c%((t:Int)+1)=q at B C;refine zar ?_;refine W.mono (zaw (λi o T=>∃(left b:List Int) (x v:Option D),o=[Φ (.int c),Φ (.int m),Φ (.int t),Φ (.ref ((S.frz++S.new).length+0)),Φ (.ref ((S.frz++S.new).length+1)),x,v]/\(∃z,x=Φ (.int z))/\
   T=⟨S.frz++S.new,[.lst (b.map .int),.lst (left.map .int)],[]⟩/\left.length+i=m/\b.length=i/\∀x∈b++left,0<=x/\x<(m:Int))
   (λ_ _=>False) _ 0 _ _ ⟨(List.range m).map λ(k:Nat)=>(k:Int),[],_,Ψ,rfl,⟨_,rfl⟩,?_,by simp,rfl,?_⟩ ?_) ?_
  have:(List.map (λ(k:Nat)=>D.int k) (List.range (m:Int).toNat))=((List.range m).map λ(k:Nat)=>(k:Int)).map D.int:=by simp
  show St.mk (S.frz++S.new) _ _=_;rw[this];rfl;intro x f;simp at f;let⟨k,J,rfl⟩:=f;lia;rintro i z o T g ⟨left,b,x,v,rfl,⟨r,rfl⟩,rfl,u,l,p⟩;rw[zero_add]at u l⊢;have E:i<q.toNat:=by have:=(Α.mp g).1;simpa using this
  have g:z=.int i:=by rw[getElem?_map]at g;simp[E]at g;exact g.symm
  subst g;refine⟨_,rfl,wS_W _ ?_⟩;left;refine zas rfl ?_;left;refine zas rfl ?_;left;refine zas rfl ?_;left;have w:(0:Int)<((left.map D.int).length:Nat):=by simp;lia
  change by exact w
  left;refine zas rfl ?_;left;change emod_nonneg _ (by lia);left;have s:(r%((left.map D.int).length:Nat)).toNat<left.length:=by have:=Int.emod_lt_of_pos r w;simp at this⊢;lia
  refine wOpt_of (a:=.int left[(r%((left.map D.int).length:Nat)).toNat]) (by simp[s]) ?_;generalize(r%((left.map D.int).length:Nat)).toNat=j at s;left;change by simp[List.length_eraseIdx];split<;>lia
  left;refine zaR rfl ?_;left;refine zas rfl ?_;left;change by simp;lia
  left;refine zaR rfl ?_;left;right;left;refine⟨left.eraseIdx j,b++[left[j]],_,_,rfl,⟨_,rfl⟩,?_,?_,by simp[l],λx f=>?_⟩;show St.mk (S.frz++S.new) _ _=_;simp[zgx];rw[List.length_eraseIdx_of_lt s];lia;have:x∈b++left:=by rcases mem_append.mp f with f|f;rcases mem_append.mp f with f|f;exact mem_append_left _ f;rw[mem_singleton.mp f];exact mem_append_right _ (List.getElem_mem _);exact mem_append_right _ (List.mem_of_mem_eraseIdx f)
  exact p x this;intro r T y;cases r with|rt d=>exact y.elim| nx o=>let⟨left,b,x,v,rfl,⟨r,rfl⟩,rfl,u,l,p⟩:=y;left;refine ze9 (i:=0) rfl ?_ ⟨b,⟨rfl,rfl⟩,by simp at l;lia,λx f=>p x (mem_append_left _ f)⟩;rw[zaH];intro d G;let⟨x,_,rfl⟩:=mem_map.mp G;rfl
 let⟨d,T,e,lr,⟨rfl,rfl⟩,h⟩:=W_ex key;exact⟨lr,e,h⟩
abbrev kD(k:K3):D:=.tup [.int k.1,pD k.2.1,.int k.2.2]
structure SlOk(m:Nat)(k:K3):Prop where
 t:1<=k.1/\k.1<=30
 p:∃w:Int,k.2.1=[w]/\0<=w/\w<(m:Int)/\k.2.2≠w
 h:0<=k.2.2/\k.2.2<(m:Int)
def zou(m:Nat):((List.range (m:Int).toNat).map λ(k:Nat)=>D.int (k:Int))=(rg (m:Nat)).map .int:=by unfold rg;rw[map_map];rfl
def zd6{f:Nat->D}{c j:Nat}{y:D}(h:((List.range c).map f)[j]?=Φ y):j<c/\y=f j:=by let⟨a,b⟩:=Α.mp h;simp at a b;exact⟨a,b.symm⟩
def zss{m:Nat}{o:Int}(h:o∈rg (m:Nat)):0<=o/\o<(m:Int):=by let⟨k,a,rfl⟩:=mem_map.mp h;have:=mem_range.mp a;lia
abbrev slz(m:Nat)(t i:Int):List K3:=((rg (m:Nat)).filter λo=>!decide (o=i)).map λo=>(t,[i],o)
def zkc{m:Nat}(a:m<=7)(t i:Int):(slz m t i).length<=7:=by unfold slz;rw[length_map];refine le_trans (length_filter_le _ _) ?_;unfold rg;rw[length_map,length_range];lia
def zoj{m:Nat}{t i:Int}(d:1<=t)(e:t<=30)(b:0<=i/\i<(m:Int)):∀k∈slz m t i,SlOk m k:=by intro k f;let⟨o,g,rfl⟩:=mem_map.mp f;let⟨a,c⟩:=mem_filter.mp g;exact⟨⟨d,e⟩,⟨i,rfl,b.1,b.2,by simpa using c⟩,zss a⟩
def zuK{cf:CF}{T:R.St}{m:Nat}{t i:Int}(v:Option D):zay [0] (evT cf (.cmp .NotEq J0 J2)) (evE cf (.tup #[J1,.tup #[J2],J0])) ((List.range (m:Int).toNat).map λ(k:Nat)=>D.int (k:Int)) [v,Φ (.int t),Φ (.int i)] T=.ok ((slz m t i).map kD) T:=by rw[zou,za6 (λd=>match d with|.int o=>!decide (o=i)|_=>Δ) (λd=>match d with|.int o=>kD (t,[i],o)|d=>d) _ v (λz a=>?_) (λz a _=>?_)];rw[zbr (λo=>!decide (o=i)) (λo=>kD (t,[i],o)) _ _ (λo=>rfl) (λo=>rfl)];unfold slz;rw[map_map];rfl;let⟨o,_,rfl⟩:=mem_map.mp a;refine W.eq (wT_W _ ?_);left;exact⟨by simp,rfl⟩;let⟨o,_,rfl⟩:=mem_map.mp a;refine W.eq (wE_W _ ?_);left;right;left;right;left;exact⟨rfl,rfl⟩
def zuL{cf:CF}{T:R.St}{m:Nat}{i:Int}(v:Option D):zay [0] (evT cf (.cmp .NotEq J0 J1)) (evE cf (.tup #[V1,.tup #[J1],J0])) ((List.range (m:Int).toNat).map λ(k:Nat)=>D.int (k:Int)) [v,Φ (.int i)] T=.ok ((slz m 1 i).map kD) T:=by rw[zou,za6 (λd=>match d with|.int o=>!decide (o=i)|_=>Δ) (λd=>match d with|.int o=>kD (1,[i],o)|d=>d) _ v (λz a=>?_) (λz a _=>?_)];rw[zbr (λo=>!decide (o=i)) (λo=>kD (1,[i],o)) _ _ (λo=>rfl) (λo=>rfl)];unfold slz;rw[map_map];rfl;let⟨o,_,rfl⟩:=mem_map.mp a;refine W.eq (wT_W _ ?_);left;exact⟨by simp,rfl⟩;let⟨o,_,rfl⟩:=mem_map.mp a;refine W.eq (wE_W _ ?_);left;right;left;right;left;exact⟨rfl,rfl⟩
abbrev sEx:CS:=.ifS (.or (.cmp .NotEq (.bin .Mod J4 V3) V1) (.cmp .Eq J5 (.bin .Mod (.bin .FloorDiv (.bin .Sub J4 V2) V3) J0))) (.expr (.ext J3 (.comp 1 [4,5] [0] (.rng1 J0) (.cmp .NotEq J0 J2) (.tup #[J1,.tup #[J2],J0]))) .nil) .nil .nil
noncomputable abbrev Es5(m:Nat)(b s:Int)(L:Nat)(t i:Option D):Ev:=[Φ (.int (m:Nat)),Φ (.int b),Φ (.int s),Φ (.ref L),t,i]
def zpV{cf:CF}{S:R.St}{m:Nat}{b s t i:Int}{ks:List K3}(q:1<=m)(j:m<=7)(l:1<=t)(n:t<=30)(o:0<=i/\i<(m:Int))(h:∀k∈ks,SlOk m k)(hl:ks.length<=1000) :
  W (exS cf sEx (Es5 m b s ((S.frz++S.new).length+0) (Φ (.int t)) (Φ (.int i))) ⟨S.frz++S.new,[.lst (ks.map kD)],[]⟩) λf T=>f=.nx (Es5 m b s ((S.frz++S.new).length+0) (Φ (.int t)) (Φ (.int i)))/\∃a:List K3,T=⟨S.frz++S.new,[.lst (a.map kD)],[]⟩/\(∀k∈a,SlOk m k)/\a.length<=ks.length+7:=by
 have r:=zkc j t i;have d:wS cf (.expr (.ext J3 (.comp 1 [4,5] [0] (.rng1 J0) (.cmp .NotEq J0 J2) (.tup #[J1,.tup #[J2],J0]))) .nil) (Es5 m b s ((S.frz++S.new).length+0) (Φ (.int t)) (Φ (.int i))) ⟨S.frz++S.new,[.lst (ks.map kD)],[]⟩ λf T=>f=.nx (Es5 m b s ((S.frz++S.new).length+0) (Φ (.int t)) (Φ (.int i)))/\∃a:List K3,T=⟨S.frz++S.new,[.lst (a.map kD)],[]⟩/\(∀k∈a,SlOk m k)/\a.length<=ks.length+7:=by
  left;refine zas rfl ?_;left;change by lia
  left;refine zar ?_;refine W.of (zuK Ψ) ?_;change by simp![length_map];lia
  left;refine zas rfl ?_;left;change by simp![length_append,length_map];lia
  left;refine zaR rfl ?_;left;refine⟨rfl,ks++slz m t i,?_,λk g=>?_,by rw[length_append];lia⟩;rw[map_append];rfl;rcases mem_append.mp g with g|g;exact h k g;exact zoj l n o k g
 have e:(λf T=>f=Fl.nx (Es5 m b s ((S.frz++S.new).length+0) (Φ (.int t)) (Φ (.int i)))/\∃a:List K3,T=(⟨S.frz++S.new,[.lst (a.map kD)],[]⟩:R.St)/\(∀k∈a,SlOk m k)/\a.length<=ks.length+7) (Fl.nx (Es5 m b s ((S.frz++S.new).length+0) (Φ (.int t)) (Φ (.int i)))) ⟨S.frz++S.new,[.lst (ks.map kD)],[]⟩:=⟨rfl,ks,rfl,h,by lia⟩;refine wS_W _ ?_;unfold sEx;left;right;left;refine zhi (λc=>?_) (λc=>?_);exact d;left;right;left;change by lia
 left;refine zbo (λp=>?_) (λp=>?_);exact d;exact e
def zpN{n:Nat}{S:R.St}{m b:Nat}{s:Int}(A:1<=m)(x:m<=7)(b2:b<=5)(hs:0<=s/\s<(m:Int)) :
  ∃ks:List K3,app (callF prog (n+1)) 27 [.int (m:Nat),.int (b:Nat),.int s] S=.ok (.ref S.len) (S.push (.lst (ks.map kD)))/\ks.length<=900/\∀k∈ks,SlOk m k:=by
 have key:W (app (callF prog (n+1)) 27 [.int (m:Nat),.int (b:Nat),.int s] S) λd T=>∃ks:List K3,(d=.ref S.len/\T=S.push (.lst (ks.map kD)))/\ks.length<=900/\∀k∈ks,SlOk m k:=by
  refine zf2 (F:=zen) rfl rfl ?_;have M:=zkc x 1 s;left;change by lia
  left;refine zar ?_;refine W.of (zuL Ψ) ?_;change by show(List.map kD (slz m 1 s)).length<=_;rw[length_map];lia
  left;change by show(List.map kD (slz m 1 s)).length<=_;rw[length_map];lia
  left;change by unfold zdD;simp
  left;change⟨by decide,by decide,Int.le_trans (by decide) (show(0:Int)<=2+3*((b:Int)+1) by lia),Int.lt_of_le_of_lt (show 2+3*((b:Int)+1)<=41 by lia) (by decide)⟩;refine zar ?_;refine W.mono (zaw (λi c T=>(∃u v,c=Es5 m (b:Nat) s ((S.frz++S.new).length+0) u v)/\∃ks:List K3,T=⟨S.frz++S.new,[.lst (ks.map kD)],[]⟩/\(∀k∈ks,SlOk m k)/\ks.length<=7+49*i) (λ_ _=>False) _ 0 _ _ ⟨⟨Ψ,Ψ,rfl⟩,slz m 1 s,rfl,zoj (by lia) (by lia) hs,by lia⟩ ?_) ?_;rintro i z c T B ⟨⟨u,v,rfl⟩,ks,rfl,p,q⟩;rw[zero_add]at q⊢;let⟨N,rfl⟩:=zd6 B;refine⟨Es5 m (b:Nat) s ((S.frz++S.new).length+0) (Φ (.int (2+(i:Int)))) v,rfl,?_⟩;generalize r:Es5 m (b:Nat) s ((S.frz++S.new).length+0) (Φ (.int (2+(i:Int)))) v=C;refine wS_W _ ?_;subst r;left;change by lia
  left;refine zar ?_;refine W.mono (zaw (λj c T=>(∃v,c=Es5 m (b:Nat) s ((S.frz++S.new).length+0) (Φ (.int (2+(i:Int)))) v)/\∃a:List K3,T=⟨S.frz++S.new,[.lst (a.map kD)],[]⟩/\(∀k∈a,SlOk m k)/\a.length<=ks.length+7*j) (λ_ _=>False) _ 0 _ _ ⟨⟨v,rfl⟩,ks,rfl,p,by lia⟩ ?_) ?_;rintro j y c T E ⟨⟨G,rfl⟩,a,rfl,g,l⟩;rw[zero_add]at l⊢;let⟨O,rfl⟩:=zd6 E;refine⟨_,rfl,?_⟩;refine(zpV (cf:=callF prog n) (S:=S) (b:=(b:Nat)) (s:=s) (t:=2+(i:Int)) (i:=(j:Int)) (ks:=a) A x (by lia) (by lia) (by lia) g (by lia)).mono λf T I=>?_;let⟨rfl,w,rfl,J,Q⟩:=I;exact⟨⟨_,rfl⟩,w,rfl,J,by lia⟩;intro f T o;cases f with|rt d=>exact o.elim| nx c=>let⟨⟨G,rfl⟩,a,rfl,g,l⟩:=o;simp![length_map,length_range]at l;refine⟨⟨_,_,rfl⟩,a,rfl,g,by lia⟩
  intro f T o;cases f with|rt d=>exact o.elim| nx c=>let⟨⟨u,v,rfl⟩,ks,rfl,p,q⟩:=o;simp![length_map,length_range]at q;left;refine ze9 (i:=0) rfl ?_ ⟨ks,⟨rfl,rfl⟩,by lia,p⟩;rw[zaH];intro d L;let⟨k,_,rfl⟩:=mem_map.mp L;unfold kD;rw[zcX];simp[flats,flat]
 let⟨d,T,e,ks,⟨rfl,rfl⟩,h⟩:=W_ex key;exact⟨ks,e,h⟩
abbrev Wb(o:Option Int):Prop:=∀i,o=Φ i->-10^60<i/\i<10^60
def zo2{f n:Nat}{ds:List D}{S:R.St}{P:Option Int->Prop}(h:W (app (callF prog n) f ds S) λd T=>∃o,(d=oD o/\T=S)/\P o):∃o,app (callF prog n) f ds S=.ok (oD o) S/\P o:=by let⟨d,T,e,o,⟨rfl,rfl⟩,p⟩:=W_ex h;exact⟨o,e,p⟩
def zkn{n:Nat}{S:R.St}{c w:Int}(a:-10^60<w/\w<10^60):∃o,app (callF prog (n+1)) 24 [.int c,.int w] S=.ok (oD o) S/\Wb o:=by
 refine zo2 ?_;refine zf2 (F:=ze1) rfl rfl ?_;left;right;left;right;left;refine zbo (λb=>?_) (λb=>?_);left;exact zaj rfl ⟨Ψ,⟨rfl,rfl⟩,λi h=>by exact nS h⟩;left;right;left;refine zbo (λd=>?_) (λd=>?_);left;right;left;exact zaj rfl ⟨Φ _,⟨rfl,rfl⟩,λi h=>by cases h;constructor<;>lia⟩;left;right;left;refine zbo (λc3=>?_) (λc3=>?_);left;exact zaj rfl ⟨Φ w,⟨rfl,rfl⟩,λi h=>by cases h;exact a⟩;left;right;left;refine zbo (λe=>?_) (λe=>?_)
 . left
   repeat (first|(right;conv=>whnf)|(refine zas rfl ?_;conv=>whnf)|(refine zaR rfl ?_;conv=>whnf)|(refine zaB (by assumption) ?_;conv=>whnf))
   refine zaj rfl ⟨Φ _,⟨rfl,rfl⟩,λi h=>?_⟩;cases h;have e1:(10:Int)^Int.toNat 60=10^60:=rfl;rw[e1];constructor<;>lia
 left;right;left;exact zaj rfl ⟨Φ _,⟨rfl,rfl⟩,λi h=>by cases h;constructor<;>lia⟩
def zpM{n:Nat}{S:R.St}{c w:Int}(e:0<=c)(f:c<12)(a:-10^60<w/\w<10^60):∃o,app (callF prog (n+1)) 29 [.int c,.int w] S=.ok (oD o) S/\Wb o:=by refine zo2 ?_;refine zf2 (F:=zem) rfl rfl ?_;left;refine zbo (λb=>?_) (λb=>?_);left;exact zaj rfl ⟨Ψ,⟨rfl,rfl⟩,λi h=>by exact nS h⟩;left;refine zbo (λd=>?_) (λd=>?_);left;exact zaj rfl ⟨Φ w,⟨rfl,rfl⟩,λi h=>by cases h;exact a⟩;left;exact zaj rfl ⟨Φ _,⟨rfl,rfl⟩,λi h=>by cases h;constructor<;>lia⟩
def zpU{n:Nat}{S:R.St}{ns:List Int}{a k:Nat}:∃c:Int,app (callF prog (n+2)) 28 [.fix (ns.map .int),.int (a:Nat),.int (k:Nat)] S=.ok (.int c) S/\0<=c/\c<12:=by
 have key:W (app (callF prog (n+2)) 28 [.fix (ns.map .int),.int (a:Nat),.int (k:Nat)] S) λd T=>∃c:Int,(d=.int c/\T=S)/\0<=c/\c<12:=by
  refine zf2 (F:=zep) rfl rfl ?_;left;right;left;rw[show((a:Nat):Int)+((k:Nat):Int)/50=((a+k/50:Nat):Int) by lia];specialize zct (n:=n) (k:=a+k/50);left;right;left;change by lia
  left;refine zar ?_;refine W.mono (zaw (λi b T=>(∃x v,b=[Φ (.fix (ns.map .int)),Φ (.int (a:Nat)),Φ (.int (k:Nat)),Φ (.int x),v])/\T=S.enter) (λ_ _=>False) _ 0 _ _ ⟨⟨_,_,rfl⟩,rfl⟩ ?_) ?_;rintro i z b T j ⟨⟨x,v,rfl⟩,rfl⟩;refine⟨_,rfl,wS_W _ ?_⟩;left;right;left;exact⟨⟨_,_,rfl⟩,rfl⟩;intro f T g;cases f with|rt d=>exact g.elim| nx b=>let⟨⟨x,v,rfl⟩,rfl⟩:=g;left;right;left;exact zaj rfl ⟨_,⟨rfl,rfl⟩,by lia,by lia⟩
 let⟨d,T,e,c,⟨rfl,rfl⟩,h⟩:=W_ex key;exact⟨c,e,h⟩
def zmC{m:Nat}{k:K3}{o:Option Int}(h:SlOk m k)(w:Wb o):LyOk (m:Nat) (k,o):=by let⟨x,e,b,c,d⟩:=h.p;refine⟨h.t.1,h.t.2,?_,?_,?_,?_,h.h,?_,w⟩;show 1<=k.2.1.length;rw[e];simp;show k.2.1.length<=7;rw[e];simp;intro i a;have a:i∈k.2.1:=a;rw[e]at a;rw[mem_singleton.mp a];exact⟨b,c⟩;show k.2.1.Nodup;rw[e];simp;show k.2.2∉k.2.1;rw[e];simpa using d
noncomputable abbrev El11(ns:List Int)(q r:Nat)(w:Int)(a b c d e f:Option D):Ev:=[Φ (.fix (ns.map .int)),Φ (.int 6),Φ (.ref q),Φ (.ref r),Φ (.int w),a,b,c,d,e,f]
structure Ll(S:R.St)(m:Nat)(ks:List K3)(zs:List Ly)(T:R.St):Prop where
 e:T=⟨S.frz++S.new,[.lst (ks.map kD),.lst (zs.map lD)],[]⟩
 ok:∀z∈zs,LyOk (m:Nat) z
def Ll.add{S:R.St}{m:Nat}{ks:List K3}{zs:List Ly}{k:K3}{o:Option Int}(h:∀z∈zs,LyOk (m:Nat) z)(b:SlOk m k)(c:Wb o):∀z∈zs++[(k,o)],LyOk (m:Nat) z:=by intro z a;rcases mem_append.mp a with a|a;exact h z a;rw[mem_singleton.mp a];exact zmC b c
abbrev pLi(lr:List Int):D->Bool|.tup [_,.tup [.int w],_]=>decide (w∈lr)|_=>Δ
def ztE{cf:CF}{T:R.St}{lr:List Int}{ks:List K3}{r m:Nat}(b:T.get r=Φ (.lst (lr.map .int)))(c:∀k∈ks,SlOk m k)(v:Option D):zay [0] (evT cf (.cmp .In (.ix (.ix J0 V1) (.neg V1)) J1)) (evE cf J0) (ks.map kD) [v,Φ (.ref r)] T=.ok ((ks.filter λk=>pLi lr (kD k)).map kD) T:=by rw[za6 (pLi lr) (λd=>d) _ v (λz a=>?_) (λz a _=>rfl),List.map_id',List.filter_map];rfl;let⟨k,f,rfl⟩:=mem_map.mp a;let⟨w,e,_⟩:=(c k f).p;let⟨t,p,o⟩:=k;dsimp only at e;subst e;refine W.eq (wT_W _ ?_);left;exists(show atI [D.int t,pD [w],.int o] 1=Φ (pD [w]) from rfl);left;exists(show atI [D.int w] (-1)=Φ (.int w) from rfl);left;exists zoQ b w;left;exact⟨rfl,rfl⟩
def zml{ks:List K3}{i:Int}(b:0<=i)(c:i<ks.length):∃k,k∈ks/\atI (ks.map kD) i=Φ (kD k):=by
 have a:i.toNat<ks.length:=by lia
 refine⟨ks[i.toNat],List.getElem_mem _,?_⟩;have:=zdi (xs:=ks.map kD) (k:=i.toNat) (x:=kD ks[i.toNat]) (by simp[a])
 rwa [show((i.toNat:Nat):Int)=i by lia]at this
section
variable{S:R.St}{n m q r:Nat}{ns lr:List Int}{w:Int}{ks:List K3}{zs:List Ly}
noncomputable abbrev Tl(S:R.St)(ks:List K3)(zs:List Ly):R.St:=⟨S.frz++S.new,[.lst (ks.map kD),.lst (zs.map lD)],[]⟩
noncomputable abbrev L0(S:R.St):D:=.ref ((S.frz++S.new).length+0)
noncomputable abbrev L1(S:R.St):D:=.ref ((S.frz++S.new).length+1)
abbrev b1:CS:=(.asg 9 (.call 28 0 #[J0,.bin .Add J1 V1,J8]) (.ifS (.cmp .Gt J9 V0) (.expr (.mt .append J7 #[.bin .Add (.ix J5 J8) (.tup #[.call 29 0 #[J9,J4]])]) .nil) .nil .nil))
def zuO{i:Nat}{g e d:Option D}(h:-10^60<w/\w<10^60)(j:∀k∈ks,SlOk m k)(hz:∀z∈zs,LyOk (m:Nat) z)(A:i<ks.length)(hl:zs.length<=5000) :
  W (exS (callF prog (n+2)) b1 (El11 ns q r w (Φ (L0 S)) g (Φ (L1 S)) (Φ (.int (i:Nat))) e d) (Tl S ks zs)) λf T=>(∃e,f=.nx (El11 ns q r w (Φ (L0 S)) g (Φ (L1 S)) (Φ (.int (i:Nat))) e d))/\∃b:List Ly,T=Tl S ks b/\(∀z∈b,LyOk (m:Nat) z)/\b.length<=zs.length+1:=by
 let⟨c,l,p,s⟩:=zpU (n:=n) (S:=Tl S ks zs) (ns:=ns) (a:=7) (k:=i);let⟨o,t,u⟩:=zpM (n:=n+1) (S:=Tl S ks zs) (w:=w) p s h;let⟨k,v,x⟩:=zml (ks:=ks) (i:=(i:Int)) (by lia) (by lia);refine wS_W _ ?_;unfold b1;left;specialize l;left;refine zbo (λy=>?_) (λy=>?_);left;refine zas rfl ?_;left;refine zas rfl ?_;left;exists x;left;specialize t;left;right;left;right;left;refine zas rfl ?_;left;change by simp;lia
 left;refine zaR rfl ?_;left;refine⟨⟨_,rfl⟩,zs++[(k,o)],?_,Ll.add (S:=S) (ks:=ks) hz (j k v) u,by simp⟩;show _=(⟨S.frz++S.new,[.lst (ks.map kD),.lst ((zs++[(k,o)]).map lD)],[]⟩:R.St);rw[map_append];rfl;left;exact⟨⟨_,rfl⟩,zs,rfl,hz,by lia⟩
abbrev b2:CS:=(.asg 10 (.bin .Mod (.bin .Add (.bin .Add (.bin .Mult J10 V1597) (.bin .Mult V7 J8)) V2011) V5800079) (.expr (.mt .append J7 #[.bin .Add (.ix J5 J8) (.tup #[.call 24 0 #[.bin .FloorDiv J10 V2,J4]])]) .nil))
def zuN{i:Nat}{g:Int}{b d:Option D}(e:-10^60<w/\w<10^60)(h:∀k∈ks,SlOk m k)(hz:∀z∈zs,LyOk (m:Nat) z)(u:i<ks.length)(hl:zs.length<=5000) :
  W (exS (callF prog (n+2)) b2 (El11 ns q r w (Φ (L0 S)) b (Φ (L1 S)) (Φ (.int (i:Nat))) d (Φ (.int g))) (Tl S ks zs)) λf T=>(∃g:Int,f=.nx (El11 ns q r w (Φ (L0 S)) b (Φ (L1 S)) (Φ (.int (i:Nat))) d (Φ (.int g))))/\∃a:List Ly,T=Tl S ks a/\(∀z∈a,LyOk (m:Nat) z)/\a.length<=zs.length+1:=by
 let⟨k,j,l⟩:=zml (ks:=ks) (i:=(i:Int)) (by lia) (by lia);refine wS_W _ ?_;unfold b2;left;change by unfold zdD;simp
 left;change by unfold zdD;simp
 left;right;left;generalize v:(g*1597+7*(i:Int)+2011)%5800079=p;let⟨o,s,t⟩:=zkn (n:=n+1) (S:=Tl S ks zs) (c:=p/2) e;refine zas rfl ?_;left;refine zas rfl ?_;left;exists l;left;right;left;specialize s;left;right;left;right;left;refine zas rfl ?_;left;change by simp;lia
 left;refine zaR rfl ?_;left;refine⟨⟨_,rfl⟩,zs++[(k,o)],?_,Ll.add (S:=S) (ks:=ks) hz (h k j) t,by simp⟩;show _=(⟨S.frz++S.new,[.lst (ks.map kD),.lst ((zs++[(k,o)]).map lD)],[]⟩:R.St);rw[map_append];rfl
abbrev b3:CS:=(.ifS (.cmp .Gt (.bi .len #[J5]) V0) (.expr (.mt .append J7 #[.bin .Add (.ix J5 (.bin .Mod (.bin .Add J6 J8) (.bi .len #[J5]))) (.tup #[.call 24 0 #[.call 23 0 #[J0,J8],J4]])]) .nil) .nil .nil)
def zuM{i:Nat}{g:Int}{e b:Option D}(h:-10^60<w/\w<10^60)(j:∀k∈ks,SlOk m k)(hz:∀z∈zs,LyOk (m:Nat) z)(hl:zs.length<=5000) :
  W (exS (callF prog (n+2)) b3 (El11 ns q r w (Φ (L0 S)) (Φ (.int g)) (Φ (L1 S)) (Φ (.int (i:Nat))) e b) (Tl S ks zs)) λf T=>f=.nx (El11 ns q r w (Φ (L0 S)) (Φ (.int g)) (Φ (L1 S)) (Φ (.int (i:Nat))) e b)/\∃a:List Ly,T=Tl S ks a/\(∀z∈a,LyOk (m:Nat) z)/\a.length<=zs.length+1:=by
 refine wS_W _ ?_;left;refine zas rfl ?_;left;refine zbo (λc=>?_) (λc=>?_);have d:=c;have u:(0:Int)<(ks.length:Nat):=by simpa using d
 let⟨o,l,p⟩:=zkn h;let⟨k,s,t⟩:=zml (ks:=ks) (i:=(g+(i:Int))%((ks.map kD).length:Nat)) (emod_nonneg _ (by lia)) (by have:=Int.emod_lt_of_pos (g+(i:Int)) d;rw[length_map]at this⊢;lia);left;refine zas rfl ?_;left;refine zas rfl ?_;left;change d
 left;refine zas rfl ?_;left;exists t;left;specialize zct;left;specialize l;left;right;left;right;left;refine zas rfl ?_;left;change by simp;lia
 left;refine zaR rfl ?_;left;refine⟨rfl,zs++[(k,o)],?_,Ll.add (S:=S) (ks:=ks) hz (j k s) p,by simp⟩;show _=(⟨S.frz++S.new,[.lst (ks.map kD),.lst ((zs++[(k,o)]).map lD)],[]⟩:R.St);rw[map_append];rfl;left;exact⟨rfl,zs,rfl,hz,by lia⟩
end
section
variable{S:R.St}{n m q r:Nat}{ns lr:List Int}{w:Int}{ks:List K3}
def zjE(N:Nat)(zs:List Ly):flats N (zs.map lD)=Γ:=znP N zs
def zpR(hn:ns.length<=63)(B:-10^60<w/\w<10^60)(N:S.get q=Φ (.lst (ks.map kD)))(O:S.get r=Φ (.lst (lr.map .int)))(J:∀k∈ks,SlOk m k)(hl:ks.length<=900) :
  ∃zs:List Ly,app (callF prog (n+3)) 30 [.fix (ns.map .int),.int 6,.ref q,.ref r,.int w] S=.ok (.ref S.len) (S.push (.lst (zs.map lD)))/\zs.length<=1000/\∀z∈zs,LyOk (m:Nat) z:=by
 have key:W (app (callF prog (n+3)) 30 [.fix (ns.map .int),.int 6,.ref q,.ref r,.int w] S) λd T=>∃zs:List Ly,(d=.ref S.len/\T=S.push (.lst (zs.map lD)))/\zs.length<=1000/\∀z∈zs,LyOk (m:Nat) z:=by
  refine zf2 rfl rfl ?_;generalize C:(ks.filter λk=>pLi lr (kD k))=a;have sl:a.length<=900:=by rw[<-C];exact le_trans (length_filter_le _ _) hl
  have E:∀k∈a,SlOk m k:=by rw[<-C];exact λk h=>J k (mem_filter.mp h).1
  left;refine zaB N ?_;left;refine zar ?_;refine W.of (ztE (T:=({S.enter with lk:=[q]}:R.St)) (show S.enter.get r=_ by rw[zaP];exact O) J Ψ) ?_;rw[C];change by rw[length_map];lia
  left;change by rw[length_map];lia
  left;specialize zct;left;right;left;right;left;have fin:∀(zs:List Ly),zs.length<=1000->(∀z∈zs,LyOk (m:Nat) z)->wFin S (.rt (L1 S)) (Tl S a zs) λd T=>∃zs:List Ly,(d=.ref S.len/\T=S.push (.lst (zs.map lD)))/\zs.length<=1000/\∀z∈zs,LyOk (m:Nat) z:=λzs c j=>ze9 rfl (zjE _ zs) ⟨zs,⟨rfl,rfl⟩,c,j⟩;refine zbo (λQ=>?_) (λQ=>?_);left;refine zas rfl ?_;left;change by simp;lia
  left;refine zar ?_;refine W.mono (zaw (λi l T=>(∃G o p b,l=El11 ns q r w (Φ (L0 S)) G (Φ (L1 S)) o p b)/\∃zs:List Ly,T=Tl S a zs/\(∀z∈zs,LyOk (m:Nat) z)/\zs.length<=i) (λ_ _=>False) _ 0 _ _ ⟨⟨_,_,_,_,rfl⟩,[],rfl,(λz h=>by cases h),le_refl _⟩ ?_) ?_;rintro i z l T v ⟨⟨G,o,p,b,rfl⟩,zs,rfl,c,j⟩;let⟨u,rfl⟩:=zd6 v;have u:i<a.length:=by simpa using u
  refine⟨_,rfl,?_⟩;refine(zuO (m:=m) (ns:=ns) (q:=q) (r:=r) (S:=S) B E c u (by lia)).mono λf T x=>?_;let⟨⟨y9,rfl⟩,s,rfl,A,L⟩:=x;exact⟨⟨_,_,_,_,rfl⟩,s,rfl,A,by lia⟩;intro f T t;cases f with|rt d=>exact t.elim| nx l=>let⟨⟨G,o,p,b,rfl⟩,zs,rfl,c,j⟩:=t;simp at j;left;exact fin zs (by lia) c
  left;right;left;right;left;right;left;right;left;refine zas rfl ?_;left;change by unfold zdD;rw[Ϙ,decide_eq_true_eq];left;lia
  left;right;left;have U:((List.map kD a).length:Int)=(a.length:Int):=by rw[length_map]
  have x0:0<=zbd ns 6/2/100%3/\zbd ns 6/2/100%3<=2:=by lia
  have Y:0<=zbd ns 6/2/100%3*((List.map kD a).length:Int)/2/\zbd ns 6/2/100%3*((List.map kD a).length:Int)/2<=(a.length:Int):=by
   rw[U];have h:zbd ns 6/2/100%3=0\/zbd ns 6/2/100%3=1\/zbd ns 6/2/100%3=2:=by lia
   rcases h with h|h|h<;>rw[h]<;>lia
  generalize zbd ns 6/2/100%3*((List.map kD a).length:Int)/2=y at Y;generalize zbd ns 6/2%900007=z9;generalize zbd ns 6/2=M;change by lia
  left;refine zar ?_;refine W.mono (zaw (λi l T=>(∃(o p:Option D) (g:Int),l=El11 ns q r w (Φ (L0 S)) (Φ (.int M)) (Φ (L1 S)) o p (Φ (.int g)))/\∃zs:List Ly,T=Tl S a zs/\(∀z∈zs,LyOk (m:Nat) z)/\zs.length<=i) (λ_ _=>False) _ 0 _ _ ⟨⟨_,_,_,rfl⟩,[],rfl,(λz h=>by cases h),le_refl _⟩ ?_) ?_;rintro i z l T v ⟨⟨o,p,g,rfl⟩,zs,rfl,c,j⟩;rw[zero_add]at j⊢;let⟨u,rfl⟩:=zd6 v;refine⟨_,rfl,?_⟩;refine(zuN (n:=n) (m:=m) (ns:=ns) (q:=q) B E c (by lia) (by lia)).mono λf T x=>?_;let⟨⟨g',rfl⟩,s,rfl,A,L⟩:=x;exact⟨⟨_,_,_,rfl⟩,s,rfl,A,by lia⟩;intro f T t;cases f with
  |rt d=>exact t.elim| nx l=>
   let⟨⟨o,p,g,rfl⟩,zs,rfl,c,j⟩:=t;simp at j;left;have I:¬(70:Int)<((List.map D.int ns).length:Nat):=by rw[length_map];lia
   simp![if_neg I];change⟨by decide,by decide,Int.le_trans (by decide) (Int.natCast_nonneg _),Int.lt_of_le_of_lt (show _<=(63:Int) by rw[length_map];lia) (by decide)⟩;refine zar ?_;refine W.mono (zaw (λi l T=>(∃(o p b:Option D),l=El11 ns q r w (Φ (L0 S)) (Φ (.int M)) (Φ (L1 S)) o p b)/\∃zs:List Ly,T=Tl S a zs/\(∀z∈zs,LyOk (m:Nat) z)/\zs.length<=900+i) (λ_ _=>False) _ 0 _ _ ⟨⟨_,_,_,rfl⟩,zs,rfl,c,by lia⟩ ?_) ?_;rintro i z l T v ⟨⟨o,p,b,rfl⟩,zs,rfl,c,j⟩;let⟨u,rfl⟩:=zd6 v;refine⟨_,rfl,?_⟩;have e5:(6:Int)+1+(i:Int)=((7+i:Nat):Int):=by lia
   refine(zuM B E c (by lia)).mono λf T x=>?_;let⟨rfl,s,rfl,A,L⟩:=x;exact⟨⟨_,_,_,rfl⟩,s,rfl,A,by lia⟩;intro f T t;cases f with|rt d=>exact t.elim| nx l=>let⟨⟨o,p,b,rfl⟩,zs,rfl,c,j⟩:=t;simp at j;left;exact fin zs (by lia) c
 let⟨d,T,e,zs,⟨rfl,rfl⟩,h⟩:=W_ex key;exact⟨zs,e,h⟩
end
section
variable(m:Nat)(s:Int)(lz:List Int)(zs:List Ly)
abbrev kL(t:Int):Nat->List Kh->List Ly
 |_,[]=>[]|k,h::a=>(toL (m:Nat) (k:Nat) (decide (((k:Nat):Int)∈wrZ (m:Nat) s t))).map (λo=>((t,[((k:Nat):Int)],o),bnd lz zs k t o h.1))++kL t (k+1) a
end
def zkj{m N M:Nat}{b s w:Int}{lz:List Int}{zs:List Ly}(t:Int):∀(hs:List Kh)(k:Nat),((kt m b s w N M lz zs).said t k hs).map (leD t)=(kL m s lz zs t k hs).map lD
 | [],_=>rfl| h::hs,k=>by show((kt m b s w N M lz zs).say k t h++(kt m b s w N M lz zs).said t (k+1) hs).map (leD t)=_;rw[kL,map_append,map_append,zkj t hs (k+1)];congr 1;show((toL _ _ _).map _).map _=_;rw[map_map,map_map];rfl
abbrev kLs(m:Nat)(b s w:Int)(N M:Nat)(lz:List Int)(zs:List Ly):Nat->Nat->List Kh->List Ly
 |_,0,_=>[]|t,c+1,a=>kL m s lz zs t 0 a++kLs m b s w N M lz zs (t+1) c (rnd (kt m b s w N M lz zs) t a)
def zlg{m N M:Nat}{b s w:Int}{lz:List Int}{zs:List Ly}:∀(c t:Nat)(hs:List Kh),lets (kt m b s w N M lz zs) t c hs=(kLs m b s w N M lz zs t c hs).map lD
 |0,_,_=>rfl| c+1,t,hs=>by rw[kLs,map_append];exact congr (congrArg _ (zkj (t:Int) hs 0)) (zlg c (t+1) _)
section
variable{S:R.St}{n a hl N m:Nat}{b s w:Int}{hs:List Kh}{Ls:List D}
def zur(P:Pl S a hl N m b s w hs Ls)(hl:Ls.length<=10000):appW (callF prog (n+1)) 54 [.ref a] S=.ok (.ref S.len) (S.push (.lst Ls)):=by
 let⟨d,p,c⟩:=P.p;refine zbs rfl rfl ?_;left;exists zaE p rfl;left;exists c;left;change show Ls.length<=16777216 by lia
 left;exact⟨rfl,rfl⟩
end
def zbI{a:Type}{T:R.St}{c:Ev->R.St->Out Bool}{e:Ev->R.St->Out D}{δ:Ev}(g:a->D)(p:a->Bool)(f:a->D)(h:∀z,c (Φ (g z)::δ) T=.ok (p z) T)(i:∀z,e (Φ (g z)::δ) T=.ok (f z) T) :
  ∀(Zs:List a)(v:Option D),zay [0] c e (Zs.map g) (v::δ) T=.ok ((Zs.filter p).map f) T
 | [],_=>rfl| z::Zs,v=>by show(c (Φ (g z)::δ) T).bind (λb j=>if b then(e (Φ (g z)::δ) j).bind λd k=>(zay [0] c e (Zs.map g) (Φ (g z)::δ) k).bind λl m=>.ok (d::l) m else zay [0] c e (Zs.map g) (Φ (g z)::δ) j)=_;rw[h,zat];cases y:p z with| true=>rw[i,zat,zbI g p f h i Zs,List.filter_cons_of_pos (by simpa using y)];rfl| false=>rw[if_neg (by decide),zbI g p f h i Zs,List.filter_cons_of_neg (by simpa using y)]
def eq_o{cf:CF}{T:R.St}(o:Option Int)(z:Option Int):evT cf (.cmp .Eq J0 J1) [Φ (oD z),Φ (oD o)] T=.ok (decide (z=o)) T:=by
 refine W.eq (wT_W _ ?_);cases z<;>cases o
 all_goals
  first
  |exact⟨by simp,rfl⟩
  |exact wOpt_of rfl ⟨rfl,rfl⟩
abbrev Bst(os:List (Option Int))(i:Nat)(q:Option Int)(c:Nat):Prop:=(q=Ψ/\c=0/\∀u,Φ u∉os.take i)\/∃v,q=Φ v/\c=os.count (Φ v)/\Φ v∈os.take i/\∀u,Φ u∈os.take i->os.count (Φ u)<c\/(os.count (Φ u)=c/\v<=u)
abbrev lsZ(os:List (Option Int))(k:Int):Option Int×Int:=(stZ os k,match stZ os k with|none=>0|some v=>cntZ os (Φ v))
def zri{os:List (Option Int)}{q:Option Int}{c:Nat}{k:Int}(h:Bst os os.length q c)(n:1<=k):(if(c:Int)<k then((Ψ,0):Option Int×Int) else(q,(c:Int)))=lsZ os k:=by
 unfold Bst at h;rw[List.take_length]at h;have key:stZ os k=if(c:Int)<k then Ψ else q:=by
  unfold stZ;cases e:zaW (zaf [] os) with
  |nil=>rcases h with⟨rfl,rfl,_⟩|⟨v,_,_,b,_⟩;simp;have:=tal_mem.mpr (counts_row.mpr ⟨b,rfl⟩);rw[e]at this;cases this
  |cons r o=>
   have l:=tal_mem.mp (by rw[e];exact Μ);let⟨d,f⟩:=counts_row.mp l;rcases h with⟨rfl,rfl,g⟩|⟨v,rfl,rfl,b,i⟩;exact absurd d (g _);have a:=tal_mem.mpr (counts_row.mpr ⟨b,rfl⟩);have e1:r.1=v:=by rw[e]at a;rcases mem_cons.mp a with z|z;rw[<-z];have j:=zi6 os;rw[e]at j;have m:=(Ϣ.mp j).1 _ z;have p:=i r.1 d;lia
   dsimp only;rw[f,e1];by_cases c:k<=((os.count (Φ v):Nat):Int);rw[if_pos c,if_neg (by lia)];rw[if_neg c,if_pos (by lia)]
 unfold lsZ;rw[key];by_cases z:(c:Int)<k;rw[if_pos z,if_pos z];rw[if_neg z,if_neg z];rcases h with⟨rfl,rfl,g⟩|⟨v,rfl,rfl,b,i⟩;rfl;rfl
def zmh{os:List (Option Int)}{i:Nat}{q:Option Int}{c:Nat}{o:Option Int}(h:Bst os i q c)(e:os[i]?=Φ o)(b:∀u,o=Φ u->os.count (Φ u)<c\/(os.count (Φ u)=c/\∀v,q=Φ v->v<=u))(d:∀u,o=Φ u->q≠Ψ):Bst os (i+1) q c:=by unfold Bst at h⊢;rw[zf9 e];rcases h with⟨rfl,rfl,h⟩|⟨v,rfl,e1,f,g⟩;refine .inl ⟨rfl,rfl,λu a=>?_⟩;rcases mem_append.mp a with a|a;exact h u a;exact d u (mem_singleton.mp a).symm rfl;refine .inr ⟨v,rfl,e1,mem_append_left _ f,λu a=>?_⟩;rcases mem_append.mp a with a|a;exact g u a;rcases b u (mem_singleton.mp a).symm with z|z;exact .inl z;exact .inr ⟨z.1,z.2 v rfl⟩
def zmg{os:List (Option Int)}{i:Nat}{q:Option Int}{c:Nat}{u:Int}(h:Bst os i q c)(e:os[i]?=Φ (Φ u))(b:c<os.count (Φ u)\/(os.count (Φ u)=c/\∀v,q=Φ v->u<v)):Bst os (i+1) (Φ u) (os.count (Φ u)):=by unfold Bst at h⊢;rw[zf9 e];refine .inr ⟨u,rfl,rfl,mem_append_right _ Μ,λx a=>?_⟩;rcases mem_append.mp a with a|a;rcases h with⟨rfl,rfl,h⟩|⟨v,rfl,e1,f,d⟩;exact absurd a (h x);have g:=d x a;rcases b with z|z;lia;have:=z.2 v rfl;lia;cases mem_singleton.mp a;exact .inr ⟨rfl,Int.le_refl _⟩
def zgd{n l:Nat}{S:R.St}{os:List (Option Int)}{k:Int}(h:S.get l=Φ (.lst (os.map oD)))(hl:os.length<=1000)(B:1<=k):app (callF prog (n+1)) 31 [.ref l,.int k] S=.ok (.tup [oD (lsZ os k).1,.int (lsZ os k).2]) S:=by
 refine zaQ rfl rfl ?_;left;refine zaB h ?_;left;refine zar ?_;refine W.mono (zaw (λi m T=>T.frz=S.frz++S.new/\T.lk=[l]/\∃q c p r,Bst os i q c/\m=[Φ (.ref l),Φ (.int k),Φ (oD q),Φ (.int (c:Nat)),p,r]) (λ_ _=>False) _ 0 _ _ ⟨rfl,rfl,Ψ,0,Ψ,Ψ,.inl ⟨rfl,rfl,by simp⟩,rfl⟩ ?_) ?_;rintro i z m T g ⟨w,t2,q,c,p,r,a,rfl⟩;let⟨I,J,lk⟩:=T;cases w;cases t2;rw[zero_add]at a⊢;rw[getElem?_map]at g;cases e:os[i]? with
 |none=>rw[e]at g;exact nS g
 |some o=>
  rw[e]at g;cases g;refine⟨_,rfl,wS_W _ ?_⟩;left;exists zde h _ _;left;refine zar ?_;refine W.of (zbI oD (λz=>decide (z=o)) oD (λz=>eq_o o z) (λz=>rfl) os Ψ) ?_;have s:(((os.filter λz=>decide (z=o)).map oD)).length=os.count o:=by rw[length_map,List.count_eq_length_filter];congr 2;funext z;exact Bool.eq_iff_iff.mpr (by simp)
  have C:os.count o<=1000:=le_trans List.count_le_length hl;change by lia
  left;change by lia
  left;exists zak _ _;left;rw[s];have pos:=List.count_pos_iff.mpr (mem_of_getElem? e);cases o with
  |none=>left;refine⟨rfl,rfl,q,c,_,_,zmh a e (λu h=>nS h) (λu h=>nS h),rfl⟩| some u=>
   left;cases z:decide ((c:Int)<((os.count (Φ u):Nat):Int)) with
   |true=>
    left;exact⟨rfl,rfl,Φ u,os.count (Φ u),_,_,zmg a e (.inl (by lia)),rfl⟩
   |false=>
    left;cases y:decide (((os.count (Φ u):Nat):Int)=(c:Int)) with
    |false=>
     left;exact⟨rfl,rfl,q,c,_,_,zmh a e (λx j=>by cases j;exact .inl (by lia)) (λx j t=>by rcases a with⟨_,E,_⟩|⟨v,b,_⟩;lia;rw[t]at b;exact nS b),rfl⟩
    |true=>
     obtain⟨v,rfl⟩:∃v,q=Φ v:=by rcases a with⟨_,E,_⟩|⟨v,b,_⟩;lia;exact⟨v,b⟩
     left;cases x:decide (u<v) with
     |true=>
      have x:u<v:=by simpa using x
      left;exact⟨rfl,rfl,Φ u,os.count (Φ u),_,_,zmg a e (.inr ⟨by lia,λG b=>by cases b;exact x⟩),rfl⟩
     |false=>
      left;exact⟨rfl,rfl,Φ v,c,_,_,zmh a e (λx j=>by cases j;exact .inr ⟨by lia,λG b=>by cases b;lia⟩) (λx j t=>by cases t),rfl⟩
 intro f T A;cases f with
 |rt d=>exact A.elim| nx m=>
  let⟨w,t2,q,c,p,r,a,rfl⟩:=A;rw[zero_add,length_map]at a;have fin:=zri a B;left;refine zbo (λz=>?_) (λz=>?_);rw[if_pos z]at fin;left;right;left;refine zaj rfl ⟨?_,?_⟩;rw[<-fin];rfl;rfl;rw[if_neg z]at fin;left;right;left;refine zaj ?_ ⟨?_,?_⟩
  . cases q<;>rfl
  rw[<-fin];rfl
abbrev laW:Option Int->List (Int×Option Int)->Option Int
 |h,[]=>h|_,x::r=>laW x.2 r
abbrev lpZ(m b i t:Int)(a:Option Int×Int)(Ls:List (Int×Option Int)):Option Int×Int:=if t%3=2 then(stZ (wsZ a.1 Ls) (lst1 m b),0) else if t%3=0 then lsZ (wsZ a.1 Ls) (b+1) else if(a.1.isSome&&decide (m-b<=a.2))=Γ then a else(Φ ((if i≠zbc m t then laW Ψ Ls else a.1).getD 0),0)
abbrev wD2(x:Option Int×Int):D:=.tup [oD x.1,.int x.2]
def zqz(m b:Int):(if m-b>1 then m-b else 1)=lst1 m b:=by unfold lst1;split<;>split<;>lia
abbrev stR:CS:=(.ifS (.cmp .Eq (.bin .Mod J2 V3) V2) (.ret (.tup #[.ix (.call 31 0 #[J9,.bi .max2 #[V1,.bin .Sub J5 J6]]) V0,V0]) .nil) .nil (.ifS (.cmp .Eq (.bin .Mod J2 V3) V0) (.ret (.call 31 0 #[J9,.bin .Add J6 V1]) .nil) .nil (.ifS (.and (.cmp .IsNot J7 (.con D.non)) (.cmp .GtE J8 (.bin .Sub J5 J6))) (.ret J3 .nil) .nil (.asg 10 (.bin .Mod (.bin .FloorDiv (.bin .Sub J2 V2) V3) J5) (.ifS (.cmp .NotEq J1 J10) (.asg 7 (.con D.non) (.forS [11,12] (.val J4) (.asg 7 J12 .nil) .nil)) .nil (.ifS (.cmp .Is J7 (.con D.non)) (.asg 7 V0 .nil) .nil (.ret (.tup #[J7,V0]) .nil)))))))
abbrev stE(m b i t:Int)(a:Option Int×Int)(q p:Nat):Ev:=[Φ (.tup [.int m,.int b]),Φ (.int i),Φ (.int t),Φ (wD2 a),Φ (.ref q),Φ (.int m),Φ (.int b),Φ (oD a.1),Φ (.int a.2),Φ (.ref p),Ψ,Ψ,Ψ]
abbrev stK:CS:=(.asg 10 (.bin .Mod (.bin .FloorDiv (.bin .Sub J2 V2) V3) J5) (.ifS (.cmp .NotEq J1 J10) (.asg 7 (.con D.non) (.forS [11,12] (.val J4) (.asg 7 J12 .nil) .nil)) .nil (.ifS (.cmp .Is J7 (.con D.non)) (.asg 7 V0 .nil) .nil (.ret (.tup #[J7,V0]) .nil))))
def zka{cf:CF}{q p:Nat}{S T:R.St}{m b i t:Int}{g:Option Int×Int}{Ls:List (Int×Option Int)}(w:T.get q=Φ (.lst (Ls.map ltD)))(A:0<m) :
  wS cf stK (stE m b i t g q p) T λr T=>wFin S r T λa k=>a=wD2 (Φ ((if i≠zbc m t then laW Ψ Ls else g.1).getD 0),0)/\k=S:=by
 have o:∀(h:Option Int)(x y:Option D)(T:R.St),wS cf (.ifS (.cmp .Is J7 (.con D.non)) (.asg 7 V0 .nil) .nil (.ret (.tup #[J7,V0]) .nil)) [Φ (.tup [.int m,.int b]),Φ (.int i),Φ (.int t),Φ (wD2 g),Φ (.ref q),Φ (.int m),Φ (.int b),Φ (oD h),Φ (.int g.2),Φ (.ref p),Φ (.int (zbc m t)),x,y] T λr T=>wFin S r T λa k=>a=wD2 (Φ (h.getD 0),0)/\k=S:=by intro h x y T;cases h with| none=>left;right;left;exact zaj rfl ⟨rfl,rfl⟩| some v=>left;right;left;exact zaj rfl ⟨rfl,rfl⟩
 unfold stK;left;right;left;change by omega
 left;refine zhi (λc=>?_) (λc=>?_);have c:i≠zbc m t:=by simpa[zbc]using c
 rw[if_pos c];left;exists w;left;refine zar ?_;refine W.mono (zaw (λj n k=>∃h x y,laW h (Ls.drop j)=laW Ψ Ls/\n=[Φ (.tup [.int m,.int b]),Φ (.int i),Φ (.int t),Φ (wD2 g),Φ (.ref q),Φ (.int m),Φ (.int b),Φ (oD h),Φ (.int g.2),Φ (.ref p),Φ (.int (zbc m t)),x,y]) (λ_ _=>False) _ 0 _ _ ⟨Ψ,Ψ,Ψ,rfl,rfl⟩ ?_) ?_;rintro j z n k l ⟨h,x,y,e,rfl⟩;rw[zero_add]at e⊢;rw[getElem?_map]at l;cases e2:Ls[j]? with
 |none=>rw[e2]at l;exact nS l
 |some u=>rw[e2]at l;cases l;rw[zl0 e2]at e;refine⟨_,rfl,wS_W _ ?_⟩;left;exact⟨u.2,_,_,e,rfl⟩
 intro f k s;cases f with|rt d=>exact s.elim| nx n=>let⟨h,x,y,e,rfl⟩:=s;rw[zero_add,length_map,List.drop_length]at e;rw[<-e];exact o h x y _
 have c:¬i≠zbc m t:=by simpa[zbc]using c
 rw[if_neg c];exact o g.1 Ψ Ψ _
def zpj{n q p:Nat}{S T:R.St}{m b i t:Int}{e:Option Int×Int}{Ls:List (Int×Option Int)}(l:T.get p=Φ (.lst ((wsZ e.1 Ls).map oD)))(o:T.get q=Φ (.lst (Ls.map ltD)))(hl:Ls.length<=900)(s:0<m)(x:0<=b) :
  wS (callF prog (n+1)) stR (stE m b i t e q p) T λr T=>wFin S r T λa w=>a=wD2 (lpZ m b i t e Ls)/\w=S:=by
 have u:(wsZ e.1 Ls).length<=1000:=by unfold wsZ;rw[Ρ,length_map];lia
 unfold stR lpZ;left;right;left;refine zbo (λg=>?_) (λg=>?_);rw[if_pos g];left;rw[zqz];specialize zgd (n:=n) l u (ziC m b);left;exists zhf;left;right;left;refine zaj ?_ ⟨rfl,rfl⟩;show flats _ [oD _,.int 0]=Γ;rw[zaH];intro d f;simp![mem_cons,not_mem_nil,or_false]at f;rcases f with rfl|rfl;exact zhR _ _;rfl;rw[if_neg g];left;right;left;refine zbo (λj=>?_) (λj=>?_);rw[if_pos j];left;specialize zgd (n:=n) l u (show 1<=b+1 by lia);left;refine zaj ?_ ⟨rfl,rfl⟩;show flats _ [oD _,.int _]=Γ;rw[zaH];intro d f;simp![mem_cons,not_mem_nil,or_false]at f;rcases f with rfl|rfl;exact zhR _ _;rfl;rw[if_neg j];let⟨h,k⟩:=e;cases h with| none=>left;exact zka o s| some v=>left;refine zbo (λc=>?_) (λc=>?_);rw[if_pos (show((Φ v).isSome&&decide (m-b<=k))=Γ by simpa using c)];left;exact zaj rfl ⟨rfl,rfl⟩;rw[if_neg (show ¬((Φ v).isSome&&decide (m-b<=k))=Γ by simpa using c)];left;exact zka o s
def zpQ{n q:Nat}{S:R.St}{m b i t:Int}{a:Option Int×Int}{Ls:List (Int×Option Int)}(h:S.get q=Φ (.lst (Ls.map ltD)))(hl:Ls.length<=900)(c:0<m)(d:0<=b) :
  app (callF prog (n+2)) 32 [.tup [.int m,.int b],.int i,.int t,wD2 a,.ref q] S=.ok (wD2 (lpZ m b i t a Ls)) S:=by
 have e:(wsZ a.1 Ls).length<=1000:=by unfold wsZ;rw[Ρ,length_map];lia
 refine zaQ (F:=zdh) rfl rfl ?_;left;exists(show asgG [5,6] (D.tup [D.int m,D.int b]) (zaX zdh [D.tup [D.int m,D.int b],D.int i,D.int t,wD2 a,D.ref q])=Φ [Φ (.tup [.int m,.int b]),Φ (.int i),Φ (.int t),Φ (wD2 a),Φ (.ref q),Φ (.int m),Φ (.int b),Ψ,Ψ,Ψ,Ψ,Ψ,Ψ] from rfl);left;exists(show asgG [7,8] (wD2 a) [Φ (.tup [.int m,.int b]),Φ (.int i),Φ (.int t),Φ (wD2 a),Φ (.ref q),Φ (.int m),Φ (.int b),Ψ,Ψ,Ψ,Ψ,Ψ,Ψ]=Φ [Φ (.tup [.int m,.int b]),Φ (.int i),Φ (.int t),Φ (wD2 a),Φ (.ref q),Φ (.int m),Φ (.int b),Φ (oD a.1),Φ (.int a.2),Ψ,Ψ,Ψ,Ψ] from rfl);left;right;left;refine zaB h ?_;left;refine zar ?_;refine W.of (zb0 Ls Ψ Ψ) ?_;change by simp![length_map];lia
 left;change by simp![length_map];lia
 left;exists zae (zak _ _);left;exists zak _ _;left;change by simp![length_append,length_map,Ρ,Ϡ];lia
 exact zpj (zak _ _) (zae (zae (zae (by rw[zaP];exact h)))) hl c d
abbrev cmZ(h:Int)(Zs:List Ly):List Ly:=Zs.filter λz=>decide (z.1.2.2=h)
def zma(h:Int)(A B:List Ly):cmZ h (A++B)=cmZ h A++cmZ h B:=List.filter_append ..
section
variable{m N M:Nat}{b s w:Int}{lz:List Int}{zs:List Ly}{t:Int}
def zlu{z:Ly}:∀{hs:List Kh}{k:Nat},z∈kL m s lz zs t k hs->∃(i:Nat) (h:Kh),hs[i]?=Φ h/\∃o∈toL (m:Nat) ((k+i:Nat):Int) (decide ((((k+i:Nat):Nat):Int)∈wrZ (m:Nat) s t)),z=((t,[((k+i:Nat):Int)],o),bnd lz zs (k+i) t o h.1)
 | [],_,h=>by cases h| h::hs,k,a=>by rcases mem_append.mp a with a|a;let⟨o,c,rfl⟩:=mem_map.mp a;exact⟨0,h,rfl,o,c,rfl⟩;let⟨i,d,e,o,c,rfl⟩:=zlu a;rw[show k+1+i=k+(i+1) by lia]at c⊢;exact⟨i+1,d,e,o,c,rfl⟩
def zie(t:Int):∀(hs:List Kh)(k:Nat),(kt m b s w N M lz zs).said t k hs=(kL m s lz zs t k hs).map λz=>⟨z.1.2.1,z.1.2.2,oD z.2⟩
 | [],_=>rfl| h::hs,k=>by show(kt m b s w N M lz zs).say k t h++(kt m b s w N M lz zs).said t (k+1) hs=_;rw[kL,map_append];refine congr (congrArg _ ?_) (zie t hs (k+1));show(toL _ _ _).map _=_;rw[map_map];rfl
def ztF(t:Int)(hs:List Kh)(k:Nat)(h:Int):box ((kt m b s w N M lz zs).said t k hs) h=(cmZ h (kL m s lz zs t k hs)).map λz=>(z.1.2.1,oD z.2):=by rw[zie];unfold box cmZ;rw[List.filter_map,map_map];rfl
def zgM(V:Town)(t:Int)(Ls:List Row):∀(hs:List V.H)(k j:Nat),(zbu V t Ls k hs)[j]?=(hs[j]?).map λh=>V.hear (k+j) t h (box Ls ((k+j:Nat):Int))
 | [],_,_=>by simp[zbu]|h::hs,k,0=>by simp[zbu]| h::hs,k,j+1=>by show(zbu V t Ls (k+1) hs)[j]?=_;rw[zgM V t Ls hs (k+1) j,show k+1+j=k+(j+1) by lia];rfl
def zpY(t:Int)(hs:List Kh)(j:Nat):(rnd (kt m b s w N M lz zs) t hs)[j]?=(hs[j]?).map λh=>(kt m b s w N M lz zs).hear j t h (box ((kt m b s w N M lz zs).said t 0 hs) (j:Nat)):=by have:=zgM (kt m b s w N M lz zs) t ((kt m b s w N M lz zs).said t 0 hs) hs 0 j;rw[zero_add]at this;exact this
def zku(t:Int)(hs:List Kh):(rnd (kt m b s w N M lz zs) t hs).length=hs.length:=zcq ..
def zcM{m N M:Nat}{b s w:Int}{lz:List Int}{zs:List Ly}:∀(c t:Nat)(hs:List Kh),(rnds (kt m b s w N M lz zs) t c hs).length=hs.length
 |0,_,_=>rfl|c+1,t,hs=>(zcM c (t+1) _).trans (zku _ _)
def zgh(V:Town):∀(c t:Nat)(hs:List V.H),rnds V t (c+1) hs=rnd V ((t+c:Nat):Int) (rnds V t c hs)
 |0,t,hs=>rfl| c+1,t,hs=>by show rnds V (t+1) (c+1) (rnd V t hs)=_;rw[zgh V c (t+1) (rnd V t hs),show t+1+c=t+(c+1) by lia];rfl
def zhJ{hs:List Kh}{k:Nat}{z:Ly}(h:z∈kL m s lz zs t k hs):z.1.1=t:=by let⟨_,_,_,_,_,rfl⟩:=zlu h;rfl
def zoO:∀(c t k:Nat)(hs:List Kh),k<c->(kLs m b s w N M lz zs t c hs).filter (λz=>decide (z.1.1=((t+k:Nat):Int)))=kL m s lz zs ((t+k:Nat):Int) 0 (rnds (kt m b s w N M lz zs) t k hs)
 |c+1,t,k,hs,h=>by
  rw[kLs,List.filter_append];cases k with
  |zero=>
   simp![Nat.add_zero];rw[List.filter_eq_self.mpr λz a=>decide_eq_true (zhJ a),List.filter_eq_nil_iff.mpr,ϡ];rfl;intro z a;have:∀(c d:Nat)(hs:List Kh),z∈kLs m b s w N M lz zs d c hs->(d:Int)<=z.1.1:=by
    intro c;induction c with
    |zero=>intro _ _ h;cases h
    |succ c e=>intro d hs h;rcases mem_append.mp h with h|h;rw[zhJ h];exact Int.le_refl _;have:=e _ _ h;lia
   have:=this _ _ _ a;simp![decide_eq_true_eq];lia
  |succ k=>rw[List.filter_eq_nil_iff.mpr,List.nil_append,show t+(k+1)=t+1+k by lia];exact zoO c (t+1) k _ (by lia);intro z a;rw[zhJ a];simp![decide_eq_true_eq];lia
abbrev cmL(j:Int)(Zs:List Ly):List (Int×Option Int):=(cmZ j Zs).map λz=>(z.1.2.1.headD 0,z.2)
def ztB(t:Int)(hs:List Kh)(k:Nat)(j:Int):cvL (box ((kt m b s w N M lz zs).said t k hs) j)=cmL j (kL m s lz zs t k hs):=by rw[ztF];unfold cvL cmL;rw[map_map];refine Τ λz _=>?_;show(z.1.2.1.headD 0,unD (oD z.2))=_;rw[zrE]
def cm_D{hs:List Kh}{k:Nat}{j:Int}:(cmZ j (kL m s lz zs t k hs)).map (λz=>D.tup [pD z.1.2.1,oD z.2])=(cmL j (kL m s lz zs t k hs)).map ltD:=by unfold cmL;rw[map_map];refine Τ λz a=>?_;let⟨_,_,_,_,_,rfl⟩:=zlu (mem_filter.mp a).1;rfl
def zsr{m j:Nat}(a:j<m):(rg (m:Nat)).filter (λo=>decide (o=((j:Nat):Int)))=[((j:Nat):Int)]:=by
 unfold rg;rw[List.filter_map];have:(List.range ((m:Nat):Int).toNat).filter ((λo=>decide (o=((j:Nat):Int)))∘λ(k:Nat)=>(k:Int))=[j]:=by
  have e:((λo=>decide (o=((j:Nat):Int)))∘λ(k:Nat)=>(k:Int))=λk=>k==j:=by funext k;show decide ((k:Int)=(j:Int))=(k==j);exact Bool.eq_iff_iff.mpr (by simp;lia)
  rw[e,Int.toNat_natCast,List.filter_beq];have:(List.range m).count j=1:=List.nodup_range.count.trans (if_pos (mem_range.mpr a));rw[this];rfl
 rw[this];rfl
def zrN{m j k:Nat}(d:j<m)(e:k≠j):(toL (m:Nat) (k:Nat) Γ).filter (λo=>decide (o=((j:Nat):Int)))=[((j:Nat):Int)]:=by
 unfold toL;rw[if_pos rfl,List.filter_filter];have:(λa:Int=>decide (a=((j:Nat):Int))&&!decide (a=((k:Nat):Int)))=λa=>decide (a=((j:Nat):Int)):=by
  funext a;by_cases c:a=((j:Nat):Int);have:¬a=((k:Nat):Int):=by lia
  lia;simp[c]
 rw[this,zsr d]
def zl9{x j:Nat}(a:wrZ (m:Nat) s t=[((x:Nat):Int)]):∀(hs:List Kh)(k:Nat),x<k->cmZ (j:Nat) (kL m s lz zs t k hs)=[]
 | [],_,_=>rfl| g::hs,k,h=>by show cmZ _ (_++_)=_;rw[zma,zl9 a hs (k+1) (by lia),a,decide_eq_false (by simp;lia)];rfl
def zoW{x j:Nat}(a:wrZ (m:Nat) s t=[((x:Nat):Int)])(c:j<m)(d:x≠j):∀(hs:List Kh)(k i:Nat)(g:Kh),hs[i]?=Φ g->k+i=x->cmZ (j:Nat) (kL m s lz zs t k hs)=[((t,[((x:Nat):Int)],((j:Nat):Int)),bnd lz zs x t (j:Nat) g.1)]
 |h::hs,k,0,g,e,f=>by cases e;cases(show k=x from f);show cmZ _ (_++_)=_;rw[zma,zl9 a hs (x+1) (by lia),a,decide_eq_true (by simp),ϡ];unfold cmZ;rw[List.filter_map];show List.map _ ((toL (m:Nat) (x:Nat) Γ).filter λo=>decide (o=((j:Nat):Int)))=_;rw[zrN c d];rfl| h::hs,k,i+1,g,e,f=>by show cmZ _ (_++_)=_;rw[zma,zoW a c d hs (k+1) i g e (by lia),a,decide_eq_false (by simp;lia)];rfl
end
section
variable(m N M:Nat)(b s w:Int)(lz:List Int)(zs:List Ly)(H:List Kh)(j:Nat)
abbrev cmK(k:Nat):List (Int×Option Int):=cmL (j:Nat) (kL m s lz zs ((1+k:Nat):Int) 0 (rnds (kt m b s w N M lz zs) 1 k H))
abbrev hdK(h:Kh):Nat->Kh
 |0=>h| k+1=>
  let r:=hrZ (m:Nat) b (j:Nat) s ((1+k:Nat):Int) (hdK h k).1 (hdK h k).2.1 (cmK m N M b s w lz zs H j k)
  (r.1,r.2,(hdK h k).2.2++[r.1])
abbrev wkK:Nat->Option Int×Int
 |0=>(Φ w,0)|1=>if((j:Nat):Int)≠s then(Φ ((laW Ψ (cmK m N M b s w lz zs H j 0)).getD 0),0) else(Φ w,0)|k+2=>lpZ (m:Nat) b (j:Nat) ((k+2:Nat):Int) (wkK (k+1)) (cmK m N M b s w lz zs H j (k+1))
end
section
variable{m N M:Nat}{b s w:Int}{lz:List Int}{zs:List Ly}{H:List Kh}{j:Nat}{h:Kh}
def zqW(e:H[j]?=Φ h):∀k:Nat,(rnds (kt m b s w N M lz zs) 1 k H)[j]?=Φ (hdK m N M b s w lz zs H j h k)
 |0=>e| k+1=>by have a:=zqW e k;have e1:=zgh (kt m b s w N M lz zs) k 1 H;rw[e1];have e2:=zpY (m:=m) (N:=N) (M:=M) (b:=b) (s:=s) (w:=w) (lz:=lz) (zs:=zs) ((1+k:Nat):Int) (rnds (kt m b s w N M lz zs) 1 k H) j;refine e2.trans ((congrArg (Option.map _) a).trans ?_);have c:=ztB (m:=m) (N:=N) (M:=M) (b:=b) (s:=s) (w:=w) (lz:=lz) (zs:=zs) ((1+k:Nat):Int) (rnds (kt m b s w N M lz zs) 1 k H) 0 ((j:Nat):Int);exact congrArg (λL=>Φ ((hrZ (m:Nat) b (j:Nat) s ((1+k:Nat):Int) (hdK m N M b s w lz zs H j h k).1 (hdK m N M b s w lz zs H j h k).2.1 L).1,(hrZ (m:Nat) b (j:Nat) s ((1+k:Nat):Int) (hdK m N M b s w lz zs H j h k).1 (hdK m N M b s w lz zs H j h k).2.1 L).2,(hdK m N M b s w lz zs H j h k).2.2++[(hrZ (m:Nat) b (j:Nat) s ((1+k:Nat):Int) (hdK m N M b s w lz zs H j h k).1 (hdK m N M b s w lz zs H j h k).2.1 L).1])) c
def ziJ(a:h.2.2=[]):∀c:Nat,(hdK m N M b s w lz zs H j h c).2.2=(List.range c).map λk=>(hdK m N M b s w lz zs H j h (k+1)).1
 |0=>a| c+1=>by rw[List.range_succ,map_append,<-ziJ a c];rfl
def znC{t:Int}(a:0<m):∃x:Nat,x<m/\zbc (m:Nat) t=((x:Nat):Int):=by have c:0<=zbc (m:Nat) t:=emod_nonneg _ (by lia);have d:zbc (m:Nat) t<((m:Nat):Int):=Int.emod_lt_of_pos _ (by lia);exact⟨(zbc (m:Nat) t).toNat,by lia,by lia⟩
def zoF(x:Int)(o:Option Int):wfZ x [(x,o)]=(laW Ψ [(x,o)]).getD 0:=by cases o with|none=>rfl|some v=>simp[wfZ,laW]
def zre{x k:Nat}(hl:H.length=m)(a:wrZ (m:Nat) s ((1+k:Nat):Int)=[((x:Nat):Int)])(c:j<m)(d:x<m)(f:x≠j):∃o,cmK m N M b s w lz zs H j k=[(((x:Nat):Int),o)]:=by have g:(rnds (kt m b s w N M lz zs) 1 k H).length=m:=(zcM k 1 H).trans hl;have e:=Ι (by rw[g];exact d);unfold cmK cmL;rw[zoW a c f _ 0 x _ e (by lia)];exact⟨_,rfl⟩
def zjT(p:0<m)(hl:H.length=m)(d:j<m)(r:∃x:Nat,x<m/\s=((x:Nat):Int))(hs:((j:Nat):Int)=s->h.1=Φ w):∀k:Nat,(wkK m N M b s w lz zs H j (k+1)).1=(hdK m N M b s w lz zs H j h (k+1)).1/\((k+1)%3=0->(wkK m N M b s w lz zs H j (k+1)).2=(hdK m N M b s w lz zs H j h (k+1)).2.1)
 |0=>by refine⟨?_,λh=>by lia⟩;show(if((j:Nat):Int)≠s then(Φ ((laW Ψ (cmK m N M b s w lz zs H j 0)).getD 0),0) else(Φ w,(0:Int))).1=(hrZ (m:Nat) b (j:Nat) s ((1+0:Nat):Int) h.1 h.2.1 (cmK m N M b s w lz zs H j 0)).1;unfold hrZ;rw[if_pos (show((1+0:Nat):Int)=1 from rfl)];by_cases c:((j:Nat):Int)≠s;rw[if_pos c,if_pos c];let⟨x,f,rfl⟩:=r;let⟨o,e⟩:=zre (k:=0) hl (show wrZ (m:Nat) _ 1=_ by unfold wrZ;rw[if_pos rfl]) d f (by lia);rw[e,zoF];rw[if_neg c,if_neg c,hs (by lia)]| k+1=>by
  let⟨a,i⟩:=zjT p hl d r hs k;show(lpZ (m:Nat) b (j:Nat) ((k+2:Nat):Int) (wkK m N M b s w lz zs H j (k+1)) (cmK m N M b s w lz zs H j (k+1))).1=(hrZ (m:Nat) b (j:Nat) s ((1+(k+1):Nat):Int) (hdK m N M b s w lz zs H j h (k+1)).1 (hdK m N M b s w lz zs H j h (k+1)).2.1 (cmK m N M b s w lz zs H j (k+1))).1/\(_->(lpZ (m:Nat) b (j:Nat) ((k+2:Nat):Int) (wkK m N M b s w lz zs H j (k+1)) (cmK m N M b s w lz zs H j (k+1))).2=(hrZ (m:Nat) b (j:Nat) s ((1+(k+1):Nat):Int) (hdK m N M b s w lz zs H j h (k+1)).1 (hdK m N M b s w lz zs H j h (k+1)).2.1 (cmK m N M b s w lz zs H j (k+1))).2);rw[show(1+(k+1):Nat)=k+2 by lia];have l:wrZ (m:Nat) s ((1+(k+1):Nat):Int)=if(((1+(k+1):Nat):Int)-2)%3=2 then [zbc (m:Nat) ((1+(k+1):Nat):Int)] else(List.range ((m:Nat):Int).toNat).map λ(k:Nat)=>(k:Int):=by unfold wrZ;rw[if_neg (by lia)]
  rw[show(1+(k+1):Nat)=k+2 by lia]at l;have n:=λx=>zre (N:=N) (M:=M) (b:=b) (w:=w) (lz:=lz) (zs:=zs) (k:=k+1) (s:=s) (x:=x) (j:=j) hl;rw[show(1+(k+1):Nat)=k+2 by lia]at n;generalize cmK m N M b s w lz zs H j (k+1)=C at n;generalize wkK m N M b s w lz zs H j (k+1)=B at a i;generalize hdK m N M b s w lz zs H j h (k+1)=g at a i;unfold lpZ hrZ;rw[if_neg (show ¬((k+2:Nat):Int)=1 by lia),a];by_cases u:((k+2:Nat):Int)%3=2;rw[if_pos u,if_pos (show(((k+2:Nat):Int)-2)%3=0 by lia)];exact⟨rfl,λz=>by lia⟩;rw[if_neg u,if_neg (show ¬(((k+2:Nat):Int)-2)%3=0 by lia)];by_cases v:((k+2:Nat):Int)%3=0;rw[if_pos v,if_pos (show(((k+2:Nat):Int)-2)%3=1 by lia)];exact⟨rfl,λz=>rfl⟩;rw[if_neg v,if_neg (show ¬(((k+2:Nat):Int)-2)%3=1 by lia)];refine⟨?_,λz=>by lia⟩;rw[i (by lia)];unfold kgZ;by_cases y:(g.1.isSome&&decide (((m:Nat):Int)-b<=g.2.1))=Γ;rw[if_pos y,if_pos y,a];rw[if_neg y,if_neg y];by_cases q:((j:Nat):Int)≠zbc (m:Nat) ((k+2:Nat):Int);rw[if_pos q,if_pos q];let⟨x,f,A⟩:=znC p;rw[if_pos (by lia),A]at l;let⟨o,e⟩:=n x l d f (by lia);rw[e,A,zoF];rw[if_neg q,if_neg q]
end
def zkp{n:Nat}{S:R.St}(o:Option Int):app (callF prog (n+1)) 25 [oD o,oD o] S=.ok (.bl Γ) S:=by refine zaQ rfl rfl ?_;cases o with| none=>left;exact zaj rfl ⟨rfl,rfl⟩| some i=>left;exists(show tyOf S.enter (.int i)=Φ "int" from rfl);left;exists(show tyOf S.enter (.int i)=Φ "int" from rfl);left;rw[show decide (i=i)=Γ from decide_eq_true rfl];left;exact zaj rfl ⟨rfl,rfl⟩
abbrev cmC:CE:=(.and (.cmp .Eq (.ix J0 V0) (.bin .Add J2 V1)) (.cmp .Eq (.ix J0 V2) J1))
abbrev cmE:CE:=(.tup #[.ix J0 V1,.ix J0 V3])
def znA(z:Ly):atI [D.int z.1.1,pD z.1.2.1,.int z.1.2.2,oD z.2] 0=Φ (.int z.1.1)/\atI [D.int z.1.1,pD z.1.2.1,.int z.1.2.2,oD z.2] 1=Φ (pD z.1.2.1)/\atI [D.int z.1.1,pD z.1.2.1,.int z.1.2.2,oD z.2] 2=Φ (.int z.1.2.2)/\atI [D.int z.1.1,pD z.1.2.1,.int z.1.2.2,oD z.2] 3=Φ (oD z.2):=⟨rfl,rfl,rfl,rfl⟩
def cm_t{cf:CF}{T:R.St}(j k:Int)(z:Ly):evT cf cmC [Φ (lD z),Φ (.int j),Φ (.int k)] T=.ok (decide (z.1.1=k+1)&&decide (z.1.2.2=j)) T:=by refine W.eq (wT_W _ ?_);left;exists(znA z).1;left;cases c:decide (z.1.1=k+1) with| false=>left;exact⟨rfl,rfl⟩| true=>left;exists(znA z).2.2.1;left;exact⟨rfl,rfl⟩
def cm_e{cf:CF}{T:R.St}(j k:Int)(z:Ly):evE cf cmE [Φ (lD z),Φ (.int j),Φ (.int k)] T=.ok (.tup [pD z.1.2.1,oD z.2]) T:=by refine W.eq (wE_W _ ?_);left;exists(znA z).2.1;left;exists(znA z).2.2.2;left;right;left;exact⟨rfl,rfl⟩
def zko{n e h c:Nat}{S:R.St}{m b j s w:Int}{Zs:List Ly}{st:List (Option Int)}{wk:Nat->Option Int×Int}{C:Nat->List (Int×Option Int)}
  (p:S.get e=Φ (.lst (st.map oD))) (e5:S.get h=Φ (.lst (Zs.map lD))) (L:((c:Nat):Int)=1+3*(b+1)) (hl:st.length=c) (M:0<m) (N:0<=b) (O:b<=5)
  (t:∀k,k<c->st[k]?=Φ (wk (k+1)).1)
  (Q:∀k,k<c->(Zs.filter λz=>decide (z.1.1=((k:Nat):Int)+1)&&decide (z.1.2.2=j)).map (λz=>D.tup [pD z.1.2.1,oD z.2])=(C k).map ltD/\(C k).length<=900)
  (U:wk 0=(Φ w,0)) (Y:j≠s->∃x o,C 0=[(x,o)]/\wk 1=(Φ (o.getD 0),0)) (u:j=s->wk 1=wk 0) (w3:∀k:Nat,wk (k+2)=lpZ m b j ((k+2:Nat):Int) (wk (k+1)) (C (k+1))) :
  app (callF prog (n+3)) 33 [.ref e,.tup [.int m,.int b],.int j,.int s,.int w,.ref h] S=.ok (.bl Γ) S:=by
 refine zaQ (F:=zdu) rfl rfl ?_;have ty:tyOf S.enter (.ref e)=Φ "list":=by simp[tyOf,zaP,p]
 left;exists ty;left;refine zaB p ?_;left;exists zjQ;left;change by unfold zdD;simp
 left;rw[length_map,hl,show decide (((c:Nat):Int)=1+3*(b+1))=Γ from decide_eq_true L];left;right;left;refine zaB p ?_;left;rw[length_map,hl];change by lia
 left;refine zar ?_;refine W.mono (zaw (λi y T=>T.frz=S.frz++S.new/\T.lk=[]/\∃l a,y=[Φ (.ref e),Φ (.tup [.int m,.int b]),Φ (.int j),Φ (.int s),Φ (.int w),Φ (.ref h),Φ (wD2 (wk i)),l,a]) (λ_ _=>False) _ 0 _ _ ⟨rfl,rfl,Ψ,Ψ,by rw[U];rfl⟩ ?_) ?_;rintro i z y T g ⟨q,t2,l,a,rfl⟩;let⟨f0,nw,lk⟩:=T;cases q;cases t2;rw[zero_add];have A:i<c:=by have:=(Α.mp g).1;simpa using this
 have g:z=.int i:=by rw[getElem?_map]at g;simp[A]at g;exact g.symm
 subst g;let⟨B,E⟩:=Q i A;have r:∀(d:D)(T:R.St)(a:Option D),d=wD2 (wk (i+1))->T.frz=S.frz++S.new->T.lk=[]->wS (callF prog (n+2)) (.ifS (.nt (.tst (.call 25 0 #[.ix J0 J7,.ix J6 V0]))) (.ret (.con (D.bl Δ)) .nil) .nil .nil) [Φ (.ref e),Φ (.tup [.int m,.int b]),Φ (.int j),Φ (.int s),Φ (.int w),Φ (.ref h),Φ d,Φ (.int (i:Nat)),a] T λf I=>match f with|.nx G=>I.frz=S.frz++S.new/\I.lk=[]/\∃l a,G=[Φ (.ref e),Φ (.tup [.int m,.int b]),Φ (.int j),Φ (.int s),Φ (.int w),Φ (.ref h),Φ (wD2 (wk (i+1))),l,a]|.rt d=>False:=by rintro _ T a rfl q t2;let⟨f0,nw,lk⟩:=T;cases q;cases t2;left;exists zde p _ _;left;exists zdi (show(st.map oD)[i]?=Φ (oD (wk (i+1)).1) by rw[getElem?_map,t i A];rfl);left;exists zhf;left;specialize zkp (n:=n+1) (wk (i+1)).1;left;exact⟨rfl,rfl,_,_,rfl⟩
 refine⟨_,rfl,wS_W _ ?_⟩;left;exists zde e5 _ _;left;refine zar ?_;refine W.of (zbI lD _ _ (λz=>cm_t j (i:Nat) z) (λz=>cm_e j (i:Nat) z) Zs Ψ) ?_;rw[B];change by rw[length_map];lia
 left;change by show(List.map ltD (C i)).length<=_;rw[length_map];lia
 left;cases i with
 |zero=>left;by_cases c:j=s;have u:=u c;rw[show decide (j=s)=Γ from decide_eq_true c];left;rw[<-u];exact r _ _ _ rfl rfl rfl;let⟨x,o,e1,e2⟩:=Y c;rw[show decide (j=s)=Δ from decide_eq_false c];rw[e1];left;right;left;exists zak _ _;left;exists zhf;left;exists zjQ;left;cases o with| none=>left;exact r _ _ _ (by rw[e2];rfl) rfl rfl| some v=>left;exists zak _ _;left;exists zhf;left;exists zjQ;left;right;left;exact r _ _ _ (by rw[e2];rfl) rfl rfl
 |succ i=>left;rw[show decide ((0:Int)<((i+1:Nat):Int))=Γ from decide_eq_true (by lia)];left;specialize zpQ (n:=n) (zak _ _) E M N;left;rw[show((i+1:Nat):Int)+1=((i+2:Nat):Int) by lia,<-w3];exact r _ _ _ rfl rfl rfl
 intro f T J;cases f with|rt d=>exact J.elim| nx y=>let⟨q,t2,l,a,rfl⟩:=J;left;exact zaj rfl ⟨rfl,rfl⟩
abbrev enZ(s w:Int)(i:Int)(h:Option Int):Option Int:=if i=s then Φ w else h
def zk9{n:Nat}{S:R.St}{x:Nat}{m b i s w k:Int}{h:Option Int}{l:Nat}(e:S.get x=Φ (hD m b i s (wdO s w i) h k l)):appW (callF prog (n+1)) 41 [.ref x] S=.ok (oD (enZ s w i h)) S:=by refine zbs (F:=zbH) rfl rfl ?_;unfold enZ;left;exists zaE e rfl;left;exists zaE e rfl;left;by_cases c:i=s;rw[show decide (i=s)=Γ from decide_eq_true c,if_pos c];left;exists zaE e rfl;left;refine⟨?_,rfl⟩;unfold wdO;rw[if_pos c];rw[show decide (i=s)=Δ from decide_eq_false c,if_neg c];left;exists zaE e rfl;left;exact⟨rfl,rfl⟩
section
variable{S:R.St}{n a hl N m:Nat}{b s w:Int}{hs:List Kh}{Ls:List D}
def zs8{j:Nat}{h:Kh}(P:Pl S a hl N m b s w hs Ls)(e:hs[j]?=Φ h):appW (callF prog (n+5)) 51 [.ref a,.int (j:Nat)] S=.ok (oD (enZ s w (j:Nat) h.1)) S:=by
 let⟨f,p,g⟩:=P.p;have d:j<m:=by rw[<-P.l];exact(Α.mp e).1
 let⟨c,i,k⟩:=P.k j h e;refine zbs (F:=zc3) rfl rfl ?_;left;exists zau p;left;exists rfl;left;change rfl;left;specialize(m_at (n:=n) P d);left;exists zau c;left;exists rfl;left;change rfl;left;specialize zk9 (n:=n+3) c;left;exact⟨rfl,rfl⟩
abbrev ensZ(s w:Int):Nat->List Kh->List (Option Int)
 |_,[]=>[]|k,h::hs=>enZ s w (k:Nat) h.1::ensZ s w (k+1) hs
def zoT:∀(hs:List Kh)(k j:Nat)(h:Kh),hs[j]?=Φ h->(ensZ s w k hs)[j]?=Φ (enZ s w ((k+j:Nat):Int) h.1)
 |g::hs,k,0,h,e=>by cases e;rfl| g::hs,k,j+1,h,e=>by show(ensZ s w (k+1) hs)[j]?=_;rw[zoT hs (k+1) j h e,show k+1+j=k+(j+1) by lia]
def zfS:∀(hs:List Kh)(k:Nat),(ensZ s w k hs).length=hs.length
 | [],_=>rfl|g::hs,k=>by rw[ensZ,Ρ,Ρ,zfS hs (k+1)]
abbrev enE:CE:=.meth "ending" [(0,36),(1,41),(2,51)] J0 .nil
def zgU{T:R.St}:∀(hs:List Kh)(k:Nat)(v:Option D),(∀(j:Nat) h,hs[j]?=Φ h->T.get (N+2*(k+j))=Φ (hD (m:Nat) b ((k+j:Nat):Int) s (wdO s w ((k+j:Nat):Int)) h.1 h.2.1 (N+2*(k+j)+1)))->
  zay [0] (evT (callF prog (n+1)) (.tst (.con (D.bl Γ)))) (evE (callF prog (n+1)) enE) (refs (N+2*k) hs.length) [v] T=.ok ((ensZ s w k hs).map oD) T
 | [],k,v,_=>rfl| h::hs,k,v,H=>by
  have g:=H 0 h rfl;rw[Nat.add_zero]at g;have c:evE (callF prog (n+1)) enE [Φ (.ref (N+2*k))] T=.ok (oD (enZ s w (k:Nat) h.1)) T:=by refine W.eq (wE_W _ ?_);unfold enE;left;exists zau g;left;exists rfl;left;change rfl;left;specialize zk9 (n:=n) g;left;exact⟨rfl,rfl⟩
  have d:=zgU (T:=T) hs (k+1) (Φ (.ref (N+2*k))) λj f e=>by have:=H (j+1) f e;rw[show k+1+j=k+(j+1) by lia];exact this
  rw[Ρ,refs,zay];show Out.bind (Out.ok Γ T) _=_;rw[zat,if_pos rfl];show Out.bind (evE (callF prog (n+1)) enE [Φ (.ref (N+2*k))] T) _=_;rw[c,zat,show N+2*k+2=N+2*(k+1) by lia];show Out.bind (zay [0] _ _ (refs (N+2*(k+1)) hs.length) [Φ (.ref (N+2*k))] T) _=_;rw[d,zat];rfl
def zoL(P:Pl S a hl N m b s w hs Ls)(d:m<=7):appW (callF prog (n+2)) 52 [.ref a] S=.ok (.ref S.len) (S.push (.lst ((ensZ s w 0 hs).map oD))):=by
 let⟨f,p,g⟩:=P.p;have c:=P.l;have i:((ensZ s w 0 hs).map oD).length<=7:=by rw[length_map,zfS,c];exact d
 refine zbs (F:=zcy) rfl rfl ?_;left;exists zaE p rfl;left;exists P.h;left;refine zar ?_;have:=zgU (n:=n) (N:=N) (m:=m) (b:=b) (s:=s) (w:=w) (T:=⟨S.frz,S.new,lkOf S (.ref hl)++S.lk⟩) hs 0 Ψ λj h e=>by rw[zero_add];exact(P.k j h e).1
 rw[c,Nat.mul_zero,Nat.add_zero]at this;refine W.of this ?_;change by lia
 left;change by show((ensZ s w 0 hs).map oD).length<=_;lia
 left;exact⟨rfl,rfl⟩
end
abbrev kE(a b c d e f:CE):CE:=.mk 2 50 "Kings" 0 #[.mk 3 56 "Setting" 0 #[a,b,c,d],e,f]
def zqy{d f i j p q:CE}{δ:Ev}{T T1:R.St}{m b l4 l6:Nat}{s w:Int}{lr:List Int}{zs:List Ly}
  (C:evEs (callF prog 13) #[d,f,i,j] δ T=.ok [.int (m:Nat),.int (b:Nat),.ref l4,.ref l6] T1)
  (E:∀U,evEs (callF prog 13) #[p,q] δ U=.ok [.int s,.int w] U) (r:∀l∈T1.lk,l<T1.len) (G:1<=m) (I:m<=7) (b5:b<=5)
  (A:T1.get l4=Φ (.lst (lr.map .int))) (B:T1.get l6=Φ (.lst (zs.map lD))) (hl:lr.length<=60) (J:∀x∈lr,0<=x/\x<(m:Int)) (hz:zs.length<=1000) (t:∀z∈zs,LyOk (m:Nat) z) (hs:0<=s/\s<(m:Nat)) (L:-10^60<w/\w<10^60) :
  W (evE (callF prog 13) (kE d f i j p q) δ T) λx V=>∃a hl N M,x=.ref a/\Pl V a hl N m (b:Nat) s w (rnds (kt m (b:Nat) s w N M (liZ lr) zs) 1 (1+3*(b+1)) (hs0 s w 0 m)) (lets (kt m (b:Nat) s w N M (liZ lr) zs) 1 (1+3*(b+1)) (hs0 s w 0 m))/\Mv [] T1 V:=by
 have e4:=get_lt A;have e6:=get_lt B;have O:W (evE (callF prog 13) (.mk 3 56 "Setting" 0 #[d,f,i,j]) δ T) λx U=>x=.ref T1.len/\Mv [] T1 U/\U.len=T1.len+1/\U.get T1.len=Φ (sD (m:Nat) (b:Nat) (pD (liZ lr)) (.tup (zs.map lD))):=by show W (Out.bind _ _) _;rw[C,zat,zab];refine(zqB (n:=7) (a:=T1.len) (S:=T1.push (.ins 3 [])) (m:=(m:Nat)) (b:=(b:Nat)) (x:=.ref l4) (y:=.ref l6) (X:=pD (liZ lr)) (Y:=.tup (zs.map lD)) (zak T1 (.ins 3 [])) ⟨by show T1.frz.length<=T1.len;unfold St.len;lia,zco r (le_refl _)⟩ (by lia) (by lia) (by lia) (by lia) (λU v=>zpP (n:=8) (v.old _ _ (by simp;lia) (zae A)) J hl) (λU v=>zsl (n:=7) (v.old _ _ (by simp;lia) (zae B)) t hz)).mono λx U Q=>?_;let⟨rfl,v,l,g⟩:=Q;rw[plen]at l;exact⟨rfl,⟨v.frz,v.lk,by lia,λm o _ e=>v.old m o (by have:=get_lt e;simp;lia) (zae e)⟩,l,g⟩
 let⟨x,k,e,rfl,u1,l1,gs⟩:=W_ex O;have u:evEs (callF prog 13) #[.mk 3 56 "Setting" 0 #[d,f,i,j],p,q] δ T=.ok [.ref T1.len,.int s,.int w] k:=by rw[evEs,e,zat,E];rfl
 unfold kE;show W (Out.bind _ _) _;rw[u,zat,zab];have c:=u1.trans (Mv.push [] k (.ins 2 []));refine(zqF (n:=0) (m:=m) (b:=(b:Nat)) (s:=s) (w:=w) (lz:=liZ lr) (zs:=zs) (zae gs) (zak k (.ins 2 [])) (ziM r c (by rw[l1];lia)) (by rw[c.lk];exact λl h=>lt_of_lt_of_le (r l h) c.len) G I (by lia) (by lia) hs L hz).mono λx V hV=>?_;let⟨rfl,⟨hl,N,M,P⟩,vf,vk,vl,vo⟩:=hV;rw[show(1+3*(((b:Nat):Int)+1)).toNat=1+3*(b+1) by lia]at P;exact⟨k.len,hl,N,M,rfl,P,⟨by rw[vf,c.frz],by rw[vk,c.lk],le_trans c.len vl,λl o _ e=>vo l o (by have:=get_lt e;lia) (c.old _ _ (by simp) e)⟩⟩
abbrev oQ:Option Int->PySem.PyData|some i=>.int i|none=>.none
def pd_o(S:R.St)(n:Nat)(o:Option Int):pd S n (oD o)=Φ (oQ o):=by cases o<;>cases n<;>rfl
def zk1{S:R.St}{a:Type}{f:a->D}{g:a->PySem.PyData}{n:Nat}(h:∀z,pd S n (f z)=Φ (g z)):∀zs:List a,(zs.map f).mapM (pd S n)=Φ (zs.map g)
 | []=>rfl|z::zs=>by rw[Ο,ϟ,h,zk1 h zs];rfl
def stA{cf:CF}{e:CE}{i:Nat}{r:CS}{δ δ':Ev}{S T:R.St}{x:D}{Q:Fl->R.St->Prop}(a:evE cf e δ S=.ok x T)(hd:δ.set i (Φ x)=δ')(h:W (exS cf r δ' T) Q):W (exS cf (.asg i e r) δ S) Q:=by show W (Out.bind _ _) _;rw[a,zat,hd];exact h
def stI{cf:CF}{c:CE}{t r:CS}{δ:Ev}{S T:R.St}{Q:Fl->R.St->Prop}(a:evT cf c δ S=.ok Δ T)(h:W (exS cf r δ T) Q):W (exS cf (.ifS c t .nil r) δ S) Q:=by show W (Out.bind _ _) _;rw[a,zat];show W ((exS cf .nil δ T).bind _) Q;rw[show exS cf .nil δ T=.ok (.nx δ) T by (conv=>lhs;whnf),zat];exact h
def stW{cf:CF}{e:CE}{i:Nat}{r:CS}{δ:Ev}{S:R.St}{P:D->R.St->Prop}{Q:Fl->R.St->Prop}(a:W (evE cf e δ S) P)(h:∀x T,P x T->W (exS cf r (δ.set i (Φ x)) T) Q):W (exS cf (.asg i e r) δ S) Q:=by show W (Out.bind _ _) _;rw[zab];exact a.mono h
noncomputable abbrev Ek(ns:List Int)(a b c d e f g h i j k l m n o:Option D):Ev:=[Φ (.fix (ns.map .int)),a,b,c,d,e,f,g,h,i,j,k,l,m,n,o]
@[irreducible]noncomputable def lbB:CS:=(.asg 12 (.bin .Mod (.bin .Add J10 (.bin .Mult J11 (.bin .Sub V1 (.bin .Mult V2 (.bin .Mod (.bin .FloorDiv J10 V7) V2))))) J1) (.asg 13 (.meth "story" [(1,48),(2,55)] J7 #[J12]) (.ifS (.nt (.tst (.call 33 0 #[J13,.tup #[J1,J2],J12,J5,J3,J8]))) (.ret (.con (D.bl Δ)) .nil) .nil (.asg 14 (.ix J13 (.neg V1)) (.ifS (.cmp .Eq J12 J5) (.asg 14 J3 .nil) .nil (.ifS (.or (.nt (.tst (.call 25 0 #[.meth "ending" [(0,36),(1,41),(2,51)] J7 #[J12],J14]))) (.nt (.tst (.call 25 0 #[.ix J9 J12,J14])))) (.ret (.con (D.bl Δ)) .nil) .nil (.asg 15 (.mkL (.val J13)) (.expr (.mt .append J13 #[V0]) (.ifS (.cmp .NotEq (.meth "story" [(1,48),(2,55)] J7 #[J12]) J15) (.ret (.con (D.bl Δ)) .nil) .nil .nil)))))))))
abbrev lbT:CS:=(.ifS (.or (.nt (.tst (.call 25 0 #[.meth "ending" [(0,36),(1,41),(2,51)] J7 #[J12],J14]))) (.nt (.tst (.call 25 0 #[.ix J9 J12,J14])))) (.ret (.con (D.bl Δ)) .nil) .nil (.asg 15 (.mkL (.val J13)) (.expr (.mt .append J13 #[V0]) (.ifS (.cmp .NotEq (.meth "story" [(1,48),(2,55)] J7 #[J12]) J15) (.ret (.con (D.bl Δ)) .nil) .nil .nil))))
def zs3{y:Int}{m:Nat}(h:0<m):∃j:Nat,y%(m:Nat)=((j:Nat):Int)/\j<m:=by have a:=emod_nonneg y (show((m:Nat):Int)≠0 by lia);have b:=Int.emod_lt_of_pos y (show(0:Int)<(m:Nat) by lia);exact⟨(y%(m:Nat)).toNat,by lia,by lia⟩
def zro{xs:List (Option Int)}{x:Option Int}(h:xs.getLast?=Φ x):atI (xs.map oD) (-1)=Φ (oD x):=by
 have a:xs≠[]:=λe=>by rw[e]at h;exact nS h
 unfold atI R.ixN;have b:0<xs.length:=List.length_pos_iff.mpr a;rw[if_neg (by decide),if_pos (by rw[length_map];lia),length_map];show(xs.map oD)[(-1+(xs.length:Int)).toNat]?=_;rw[show(-1+(xs.length:Int)).toNat=xs.length-1 by lia,getElem?_map,<-List.getLast?_eq_getElem?,h];rfl
section
variable{ns:List Int}{T:R.St}{m a hl N l8 l9 i j sl:Nat}{h:Kh}{b s w c:Int}{hs:List Kh}{Zs:List Ly}{p4 p6 v11 v12 v13 v14 v15:Option D}
def zmi(g:hs[j]?=Φ h)(p:T.get a=Φ (.ins 2 [("hands",.ref hl),("sent",.ref sl)]))(lk:T.lk=[])(t:T.frz=[])(P:Pl T a hl N m b s w hs (Zs.map lD))(v:T.get l9=Φ (.lst ((ensZ s w 0 hs).map oD)))(x:h.2.2.length<=40) :
  wS (callF prog 13) lbT (Ek ns (Φ (.int (m:Nat))) (Φ (.int b)) (Φ (.int w)) p4 (Φ (.int s)) p6 (Φ (.ref a)) (Φ (.ref l8)) (Φ (.ref l9)) (Φ (.int c)) (Φ (.int (i:Nat))) (Φ (.int (j:Nat))) (Φ (.ref T.len)) (Φ (oD (enZ s w (j:Nat) h.1))) v15) (T.push (.lst (h.2.2.map oD))) λf U=>(∃v11 v12 v13 v14 v15,f=.nx (Ek ns (Φ (.int (m:Nat))) (Φ (.int b)) (Φ (.int w)) p4 (Φ (.int s)) p6 (Φ (.ref a)) (Φ (.ref l8)) (Φ (.ref l9)) (Φ (.int c)) v11 v12 v13 v14 v15))/\Mv [] T U:=by
 have y:=P.mono (T:=T.push (.lst (h.2.2.map oD))) λl o e=>zae e;have r:=zoT (s:=s) (w:=w) hs 0 j h g;rw[zero_add]at r;let⟨U,z,d,C⟩:=zd4 (T:=(T.push (.lst (h.2.2.map oD))).push (.lst (h.2.2.map oD))) (l:=T.len) (u:=.lst (h.2.2.map oD++[.int 0])) ⟨by show T.frz.length<=_;rw[t];exact zero_le _,by show T.lk.contains _=Δ;rw[lk];rfl⟩ (zae (zak _ _));have k:Mv [] T U:=⟨d.frz,d.lk,le_trans (by rw[plen,plen];lia) d.len,λl o _ e=>d.old l o (by have:=get_lt e;simp;lia) (zae (zae e))⟩;have A:=P.mono (T:=U) λl o e=>k.old l o (by simp) e;have q:U.get (T.push (.lst (h.2.2.map oD))).len=Φ (.lst (h.2.2.map oD)):=d.old _ _ (by rw[plen];simp) (zak _ _);have B:U.get a=Φ (.ins 2 [("hands",.ref hl),("sent",.ref sl)]):=k.old _ _ (by simp) p;unfold lbT;left;exists zau (zae p);left;exists rfl;left;change rfl;left;specialize zs8 (n:=8) y g;left;specialize zkp (n:=12) (enZ s w (j:Nat) h.1);left;exists zae v;left;exists zdi (show((ensZ s w 0 hs).map oD)[j]?=Φ (oD (enZ s w (j:Nat) h.1)) by rw[getElem?_map,r];rfl);left;specialize zkp (n:=12) (enZ s w (j:Nat) h.1);left;exists zak _ _;left;change by rw[length_map];lia
 left;exists zae (zak _ _);left;exists zae (zak _ _);left;change by simp![length_append,length_map,Ρ,Ϡ];lia
 left;exists z;left;exists zau B;left;exists rfl;left;change rfl;left;specialize(zs5 (n:=8) A g);left;exists zhX (zak _ _) (zae q) (zk1 (pd_o _ _) _);left;exact⟨⟨_,_,_,_,_,rfl⟩,k.trans (Mv.push _ _ _)⟩
def zn3(q:(c+(i:Nat)*(1-2*(c/7%2)))%(m:Nat)=((j:Nat):Int))(g:hs[j]?=Φ h)(p:T.get a=Φ (.ins 2 [("hands",.ref hl),("sent",.ref sl)]))(lk:T.lk=[])(k:T.frz=[])(P:Pl T a hl N m b s w hs (Zs.map lD))(r:T.get l8=Φ (.lst (Zs.map lD)))(l:T.get l9=Φ (.lst ((ensZ s w 0 hs).map oD)))(v:0<m)(x:i<8)
  (t:∀(S:R.St)(o:Nat),S.get o=Φ (.lst (h.2.2.map oD))->S.get l8=Φ (.lst (Zs.map lD))->app (callF prog 13) 33 [.ref o,.tup [.int (m:Nat),.int b],.int (j:Nat),.int s,.int w,.ref l8] S=.ok (.bl Γ) S)
  (u:h.2.2.getLast?=Φ h.1) (d:h.2.2.length<=40) :
  W (exS (callF prog 13) lbB (Ek ns (Φ (.int (m:Nat))) (Φ (.int b)) (Φ (.int w)) p4 (Φ (.int s)) p6 (Φ (.ref a)) (Φ (.ref l8)) (Φ (.ref l9)) (Φ (.int c)) (Φ (.int (i:Nat))) v12 v13 v14 v15) T) λf U=>(∃v11 v12 v13 v14 v15,f=.nx (Ek ns (Φ (.int (m:Nat))) (Φ (.int b)) (Φ (.int w)) p4 (Φ (.int s)) p6 (Φ (.ref a)) (Φ (.ref l8)) (Φ (.ref l9)) (Φ (.int c)) v11 v12 v13 v14 v15))/\Mv [] T U:=by
 refine wS_W _ ?_;unfold lbB;left;right;left;right;left;change by unfold zdD;simp
 left;change by unfold zdD;rw[Ϙ,decide_eq_true_eq];left;omega
 left;change by omega
 left;rw[q];exists zau p;left;exists rfl;left;change rfl;left;specialize(zs5 (n:=8) P g);left;right;left;specialize t _ _ (zak _ _) (zae r);left;exists zak _ _;left;exists zro u;left;cases z:decide (((j:Nat):Int)=s) with
 |true=>
  have e:enZ s w (j:Nat) h.1=Φ w:=by unfold enZ;rw[if_pos (by simpa using z)]
  have:=zmi (ns:=ns) (i:=i) (c:=c) (p4:=p4) (p6:=p6) (l8:=l8) (v15:=v15) g p lk k P l d;rw[e]at this;exact this
 |false=>
  have e:enZ s w (j:Nat) h.1=h.1:=by unfold enZ;rw[if_neg (by simpa using z)]
  have:=zmi (ns:=ns) (i:=i) (c:=c) (p4:=p4) (p6:=p6) (l8:=l8) (v15:=v15) g p lk k P l d;rw[e]at this;exact this
end
abbrev eK(k:Int):CE:=.call 23 0 #[J0,.con (D.int k)]
abbrev esE:CE:=.meth "endings" [(2,52)] J7 .nil
abbrev leE:CE:=.meth "letters" [(2,54)] J7 .nil
abbrev fls:CS:=.ret (.con (D.bl Δ)) .nil
@[irreducible]noncomputable def tl3:CS:=.asg 15 (.mkL (.val J9)) (.expr (.mt .append J9 #[V0]) (.ret (.cmp .Eq esE J15) .nil))
abbrev c10:CE:=.or (.nt (.tst (.bi (.isin "list") #[J9]))) (.cmp .NotEq (.bi .len #[J9]) J1)
@[irreducible]noncomputable def lpS:CS:=.forS [11] (.rng1 J1) lbB tl3
abbrev tl2:CS:=.asg 8 leE (.asg 9 esE (.ifS c10 fls .nil (.asg 10 (eK 5) lpS)))
section
variable{m N M:Nat}{b s w:Int}{lz:List Int}{zs:List Ly}
def zlv{t:Int}(a:m<=7):∀(hs:List Kh)(k:Nat),(kL m s lz zs t k hs).length<=7*hs.length
 | [],_=>by simp[kL]| h::hs,k=>by rw[kL,length_append,length_map,Ρ];have:=zlv (t:=t) a hs (k+1);have:=zhk (m:=(m:Nat)) (i:=(k:Nat)) (y:=decide (((k:Nat):Int)∈wrZ (m:Nat) s t)) (by lia);lia
def zlt(a:m<=7):∀(c t:Nat)(hs:List Kh),hs.length=m->(kLs m b s w N M lz zs t c hs).length<=49*c
 |0,_,_,_=>by simp[kLs]| c+1,t,hs,d=>by rw[kLs,length_append];have:=zlt a c (t+1) (rnd (kt m b s w N M lz zs) (t:Int) hs) ((zku _ _).trans d);have:=zlv (s:=s) (lz:=lz) (zs:=zs) (t:=(t:Int)) a hs 0;lia
end
section
variable{m N M b:Nat}{s w:Int}{lz:List Int}{zs:List Ly}{n:Nat}
def zmu(O:1<=m)(v:m<=7)(Q:b<=5)(hs:0<=s/\s<(m:Nat)):∀(j:Nat)(h:Kh)(S:R.St)(i l8:Nat),(rnds (kt m (b:Nat) s w N M lz zs) 1 (1+3*(b+1)) (hs0 s w 0 m))[j]?=Φ h->S.get i=Φ (.lst (h.2.2.map oD))->S.get l8=Φ (.lst ((kLs m (b:Nat) s w N M lz zs 1 (1+3*(b+1)) (hs0 s w 0 m)).map lD))->app (callF prog (n+3)) 33 [.ref i,.tup [.int (m:Nat),.int (b:Nat)],.int (j:Nat),.int s,.int w,.ref l8] S=.ok (.bl Γ) S:=by
 intro j h S i l8 r y e8;have a:(hs0 s w 0 m).length=m:=zeh ..;have f:j<m:=by have:=(Α.mp r).1;rw[zcM,a]at this;exact this
 have d:=Ι (by rw[a];exact f);let⟨_,g⟩:=zhN s w m 0 j _ d;rw[zero_add]at g;generalize(hs0 s w 0 m)[j]'(by rw[a];exact f)=l at d g;have A:=zqW (m:=m) (N:=N) (M:=M) (b:=(b:Nat)) (s:=s) (w:=w) (lz:=lz) (zs:=zs) d (1+3*(b+1));have B:=Option.some.inj (r.symm.trans A);have st:=ziJ (m:=m) (N:=N) (M:=M) (b:=(b:Nat)) (s:=s) (w:=w) (lz:=lz) (zs:=zs) (H:=hs0 s w 0 m) (j:=j) (h:=l) (by rw[g]) (1+3*(b+1));rw[<-B]at st;have E:=zjT (N:=N) (M:=M) (b:=(b:Nat)) (s:=s) (lz:=lz) (zs:=zs) (h:=l) (by lia) a f ⟨s.toNat,by lia,by lia⟩ (λe=>by rw[g];unfold wdO;rw[if_pos e]);refine zko (c:=1+3*(b+1)) (wk:=wkK m N M (b:Nat) s w lz zs (hs0 s w 0 m) j) y e8 (by lia) (by rw[st,length_map,length_range]) (by lia) (by lia) (by lia) (λk p=>?_) (λk p=>?_) rfl (λG=>?_) (λe=>?_) (λk=>rfl);rw[st,getElem?_map,List.getElem?_range p,(E k).1];rfl;have I:=zoO (m:=m) (N:=N) (M:=M) (b:=(b:Nat)) (s:=s) (w:=w) (lz:=lz) (zs:=zs) (1+3*(b+1)) 1 k (hs0 s w 0 m) p;have J:∀q:List Ly,(q.filter λz=>decide (z.1.1=((k:Nat):Int)+1)&&decide (z.1.2.2=((j:Nat):Int)))=cmZ (j:Nat) (q.filter λz=>decide (z.1.1=((1+k:Nat):Int))):=by intro q;unfold cmZ;rw[List.filter_filter];congr 1;funext z;rw[Bool.and_comm,show((k:Nat):Int)+1=((1+k:Nat):Int) by lia]
 rw[J,I];refine⟨cm_D,?_⟩;unfold cmK cmL;rw[length_map];refine le_trans (length_filter_le _ _) ?_;have:=zlv (s:=s) (lz:=lz) (zs:=zs) (t:=((1+k:Nat):Int)) v (rnds (kt m (b:Nat) s w N M lz zs) 1 k (hs0 s w 0 m)) 0;have L:(rnds (kt m (b:Nat) s w N M lz zs) 1 k (hs0 s w 0 m)).length=m:=(zcM k 1 _).trans a;exact le_trans this (le_trans (Nat.mul_le_mul_left 7 (le_of_eq L)) (by lia));let⟨o,u⟩:=zre (k:=0) a (show wrZ (m:Nat) s 1=_ by unfold wrZ;rw[if_pos rfl,show((s.toNat:Nat):Int)=s by lia]) f (by lia) (by lia);refine⟨_,o,u,?_⟩;show(if((j:Nat):Int)≠s then(Φ ((laW Ψ (cmK m N M (b:Nat) s w lz zs (hs0 s w 0 m) j 0)).getD 0),(0:Int)) else(Φ w,0))=_;rw[if_pos G,u];rfl;show(if((j:Nat):Int)≠s then(Φ ((laW Ψ (cmK m N M (b:Nat) s w lz zs (hs0 s w 0 m) j 0)).getD 0),(0:Int)) else(Φ w,0))=_;rw[if_neg (by simpa using e)];rfl
def zjS:∀(j:Nat)(h:Kh),(rnds (kt m (b:Nat) s w N M lz zs) 1 (1+3*(b+1)) (hs0 s w 0 m))[j]?=Φ h->h.2.2.getLast?=Φ h.1:=by
 intro j h d;have a:(hs0 s w 0 m).length=m:=zeh ..;have f:j<m:=by have:=(Α.mp d).1;rw[zcM,a]at this;exact this
 have c:=Ι (by rw[a];exact f);have g:=zqW (m:=m) (N:=N) (M:=M) (b:=(b:Nat)) (s:=s) (w:=w) (lz:=lz) (zs:=zs) c (1+3*(b+1));have e:=Option.some.inj (d.symm.trans g);rw[e];exact List.getLast?_concat
end
section
variable{ns:List Int}{T:R.St}{m a hl N l8 l9:Nat}{b s w:Int}{hs:List Kh}{Zs:List Ly}{p2 p3 p4 p5 p6 p8 p10 v11 v12 v13 v14 v15:Option D}
def t3{sl:Nat}{V:R.St}(p:V.get a=Φ (.ins 2 [("hands",.ref hl),("sent",.ref sl)]))(lk:T.lk=[])(q:T.frz=[])(P:Pl V a hl N m b s w hs (Zs.map lD))(i:∀l o,V.get l=Φ o->T.get l=Φ o)(y:V.len<=l9)(c:T.get l9=Φ (.lst ((ensZ s w 0 hs).map oD)))(j:m<=7) :
  wS (callF prog 13) tl3 (Ek ns (Φ (.int (m:Nat))) p2 p3 p4 p5 p6 (Φ (.ref a)) p8 (Φ (.ref l9)) p10 v11 v12 v13 v14 v15) T λf _=>f=.rt (.bl Γ):=by
 have r:(ensZ s w 0 hs).length<=7:=by rw[zfS,P.l];exact j
 let⟨U,t,k,z⟩:=zd4 (T:=T.push (.lst ((ensZ s w 0 hs).map oD))) ⟨by show T.frz.length<=_;rw[q];exact zero_le _,by show T.lk.contains _=Δ;rw[lk];rfl⟩ (zae c);have d:∀l o,l≠l9->T.get l=Φ o->U.get l=Φ o:=λl o h e=>k.old l o (by simpa using h) (zae e);have v:=P.mono λl o e=>d l o (by have:=get_lt e;lia) (i l o e);have x:=d _ _ (by have:=get_lt p;lia) (i _ _ p);have g:=k.old _ _ (by have:=get_lt c;simp;lia) (zak _ _);unfold tl3 esE;left;exists c;left;change by rw[length_map];lia
 left;exists zae c;left;exists zae c;left;change by simp![length_append,length_map,Ρ,Ϡ];lia
 left;exists t;left;exists zau x;left;exists rfl;left;change rfl;left;specialize zoL v j;left;exists zhY (zak _ _) (zae g) (zk1 (pd_o _ _) _);left
def t2a{V:R.St}{H:List Kh}{b:Nat}(lk:V.lk=[])(O:V.frz=[])(m1:1<=m)(I:m<=7)(P:Pl V a hl N m (b:Nat) s w H (Zs.map lD))(zl:Zs.length<=1000)
  (Q:∀(j:Nat)(h:Kh)(S:R.St)(B l8:Nat),H[j]?=Φ h->S.get B=Φ (.lst (h.2.2.map oD))->S.get l8=Φ (.lst (Zs.map lD))->app (callF prog 13) 33 [.ref B,.tup [.int (m:Nat),.int (b:Nat)],.int (j:Nat),.int s,.int w,.ref l8] S=.ok (.bl Γ) S)
  (Y:∀(j:Nat)(h:Kh),H[j]?=Φ h->h.2.2.getLast?=Φ h.1) :
  W (exS (callF prog 13) tl2 (Ek ns (Φ (.int (m:Nat))) (Φ (.int (b:Nat))) (Φ (.int w)) p4 (Φ (.int s)) p6 (Φ (.ref a)) Ψ Ψ Ψ Ψ Ψ Ψ Ψ Ψ) V) λf _=>f=.rt (.bl Γ):=by
 let⟨sl,p,_⟩:=P.p;obtain⟨c,hc⟩:∃c:Int,zbd ns 5=c:=⟨_,rfl⟩;refine stA (x:=.ref V.len) (T:=V.push (.lst (Zs.map lD))) ?_ rfl ?_;refine W.eq (wE_W _ ?_);left;exists zau p;left;exists rfl;left;change rfl;left;specialize(zur P (by rw[length_map];lia));left;exact⟨rfl,rfl⟩;have P1:=P.mono (T:=V.push (.lst (Zs.map lD))) λl o e=>zae e;refine stA (x:=.ref (V.push (.lst (Zs.map lD))).len) (T:=(V.push (.lst (Zs.map lD))).push (.lst ((ensZ s w 0 H).map oD))) ?_ rfl ?_;refine W.eq (wE_W _ ?_);left;exists zau (zae p);left;exists rfl;left;change rfl;left;specialize zoL P1 I;left;exact⟨rfl,rfl⟩;have t:((V.push (.lst (Zs.map lD))).push (.lst ((ensZ s w 0 H).map oD))).get (V.push (.lst (Zs.map lD))).len=Φ (.lst ((ensZ s w 0 H).map oD)):=zak _ _;have J:((V.push (.lst (Zs.map lD))).push (.lst ((ensZ s w 0 H).map oD))).get V.len=Φ (.lst (Zs.map lD)):=zae (zak _ _);have E:∀l o,V.get l=Φ o->((V.push (.lst (Zs.map lD))).push (.lst ((ensZ s w 0 H).map oD))).get l=Φ o:=λl o e=>zae (zae e);have L:V.len<=(V.push (.lst (Zs.map lD))).len:=by rw[plen];lia
 have q:((V.push (.lst (Zs.map lD))).push (.lst ((ensZ s w 0 H).map oD))).lk=[]:=lk;have r:((V.push (.lst (Zs.map lD))).push (.lst ((ensZ s w 0 H).map oD))).frz=[]:=O;generalize(V.push (.lst (Zs.map lD))).len=l9 at t L;generalize(V.push (.lst (Zs.map lD))).push (.lst ((ensZ s w 0 H).map oD))=v at t J E q r;refine stI (T:=v) ?_ ?_;have ty:tyOf v (.ref l9)=Φ "list":=by simp[tyOf,t]
 refine W.eq (wT_W _ ?_);left;exists ty;left;exists t;left;rw[length_map,zfS,P.l,show decide (((m:Nat):Int)=((m:Nat):Int))=Γ from decide_eq_true rfl];exact⟨rfl,rfl⟩;refine stA (x:=.int c) (T:=v) ?_ rfl ?_;refine W.eq (wE_W _ ?_);left;specialize zct;left;exact⟨by rw[<-hc],rfl⟩;refine wS_W _ ?_;unfold lpS;left;change by lia
 left;refine zar ?_;refine W.mono (zaw (λi G T=>Mv [] v T/\∃v11 v12 v13 v14 v15,G=Ek ns (Φ (.int (m:Nat))) (Φ (.int (b:Nat))) (Φ (.int w)) p4 (Φ (.int s)) p6 (Φ (.ref a)) (Φ (.ref V.len)) (Φ (.ref l9)) (Φ (.int c)) v11 v12 v13 v14 v15) (λ_ _=>False) _ 0 _ _ ⟨Mv.refl _ _,Ψ,Ψ,Ψ,Ψ,Ψ,rfl⟩ ?_) ?_;rintro i z G T u ⟨g,v11,v12,v13,v14,v15,rfl⟩;have hi:i<m:=by have:=(Α.mp u).1;simpa using this
 have u:z=.int i:=by simp[hi]at u;exact u.symm
 subst u;let⟨j,hx,hj⟩:=zs3 (show 0<m by lia);obtain⟨h,C⟩:∃h,H[j]?=Φ h:=⟨_,Ι (by rw[P.l];exact hj)⟩;have A:∀l o,V.get l=Φ o->T.get l=Φ o:=λl o e=>g.old _ _ (by simp) (E l o e);refine⟨_,rfl,(zn3 hx C (A _ _ p) (by rw[g.lk,q]) (by rw[g.frz,r]) (P.mono A) (g.old _ _ (by simp) J) (g.old _ _ (by simp) t) (by lia) (by lia) (λS B e1 e2=>Q j h S B V.len C e1 e2) (Y j h C) (P.k j h C).2.2).mono λf U hU=>?_⟩;let⟨⟨v11,v12,v13,v14,v15,rfl⟩,mu⟩:=hU;exact⟨g.trans mu,v11,v12,v13,v14,v15,rfl⟩;intro f T M;cases f with|rt d=>exact M.elim| nx G=>let⟨g,v11,v12,v13,v14,v15,rfl⟩:=M;exact t3 p q (g.frz.trans r) P (λl o e=>g.old l o (by simp) (E l o e)) L (g.old _ _ (by simp) t) I
def t2{V:R.St}{M:Nat}{lr:List Int}{zs:List Ly}{b:Nat}(lk:V.lk=[])(e:V.frz=[])(d:1<=m)(c:m<=7)(g:b<=5)(hs:0<=s/\s<(m:Nat))
  (P:Pl V a hl N m (b:Nat) s w (rnds (kt m (b:Nat) s w N M (liZ lr) zs) 1 (1+3*(b+1)) (hs0 s w 0 m)) (lets (kt m (b:Nat) s w N M (liZ lr) zs) 1 (1+3*(b+1)) (hs0 s w 0 m))) :
  W (exS (callF prog 13) tl2 (Ek ns (Φ (.int (m:Nat))) (Φ (.int (b:Nat))) (Φ (.int w)) p4 (Φ (.int s)) p6 (Φ (.ref a)) Ψ Ψ Ψ Ψ Ψ Ψ Ψ Ψ) V) λf _=>f=.rt (.bl Γ):=by
 have h:=zlg (m:=m) (b:=(b:Nat)) (s:=s) (w:=w) (N:=N) (M:=M) (lz:=liZ lr) (zs:=zs) (1+3*(b+1)) 1 (hs0 s w 0 m);have P:=h▸P;have k:=zlt (b:=(b:Nat)) (s:=s) (w:=w) (N:=N) (M:=M) (lz:=liZ lr) (zs:=zs) c (1+3*(b+1)) 1 (hs0 s w 0 m) (zeh ..);have i:=zmu (w:=w) (N:=N) (M:=M) (lz:=liZ lr) (zs:=zs) (n:=10) d c g hs;have j:=zjS (m:=m) (b:=b) (s:=s) (w:=w) (N:=N) (M:=M) (lz:=liZ lr) (zs:=zs);exact t2a lk e d c P (by lia) i j
end
abbrev e1:CE:=.bin .Add V1 (.bin .Mod (eK 0) V7)
abbrev e2:CE:=.bin .Mod (eK 1) V6
abbrev c3:CE:=.cmp .Gt J1 V5
abbrev e3:CE:=.bin .Mod J2 V3
abbrev e4:CE:=.bin .Sub (.bin .Mod (eK 3) (.bin .Sub (.bin .Mult V2 (.bin .Pow V10 V60)) V1)) (.bin .Sub (.bin .Pow V10 V60) V1)
abbrev e5:CE:=.call 26 0 #[eK 4,J1,J1]
abbrev e6:CE:=.bin .Mod (eK 2) J1
abbrev c7:CE:=.and (.cmp .Gt (.bi .len #[J4]) V0) (.cmp .Eq (.bin .Mod (.bin .FloorDiv (eK 2) V7) V2) V1)
abbrev e8:CE:=.ix J4 V0
abbrev e9:CE:=.call 30 0 #[J0,V6,.call 27 0 #[J1,J2,J5],J4,J3]
abbrev eP:CE:=kE J1 J2 J4 J6 J5 J3
def znx:c_law.body=.asg 1 e1 (.asg 2 e2 (.ifS c3 (.asg 2 e3 .nil) .nil (.asg 3 e4 (.asg 4 e5 (.asg 5 e6 (.ifS c7 (.asg 5 e8 .nil) .nil (.asg 6 e9 (.asg 7 eP tl2)))))))):=by unfold tl2 lpS lbB tl3;rfl
def stF{cf:CF}{c:CE}{t r:CS}{δ δ':Ev}{k:Bool}{S T U:R.St}{Q:Fl->R.St->Prop}(a:evT cf c δ S=.ok k T)(b:(if k then exS cf t δ T else .ok (.nx δ) T)=.ok (.nx δ') U)(h:W (exS cf r δ' U) Q):W (exS cf (.ifS c t .nil r) δ S) Q:=by show W (Out.bind _ _) _;rw[a,zat];rw[show exS cf .nil δ T=.ok (.nx δ) T by (conv=>lhs;whnf),b,zat];exact h
def zmn{cf:CF}{e:CE}{i:Nat}{δ:Ev}{S T:R.St}{x:D}(a:evE cf e δ S=.ok x T):exS cf (.asg i e .nil) δ S=.ok (.nx (δ.set i (Φ x))) T:=by show Out.bind _ _=_;rw[a];rfl
def law_true(ns:List Int)(Y:ns.length<=63):W (callF prog 14 34 [.fix (ns.map .int)] ⟨[],[],[]⟩) λd _=>d=.bl Γ:=by
 have key:W (exS (callF prog 13) c_law.body (Ek ns Ψ Ψ Ψ Ψ Ψ Ψ Ψ Ψ Ψ Ψ Ψ Ψ Ψ Ψ Ψ) ⟨[],[],[]⟩) λf _=>f=.rt (.bl Γ):=by
  have z0:=zdq ns 0;obtain⟨m,hm⟩:∃m:Nat,1+zbd ns 0%7=(m:Nat):=⟨(1+zbd ns 0%7).toNat,by lia⟩;have m1:1<=m:=by lia
  have A:m<=7:=by lia
  have z1:=zdq ns 1;obtain⟨g,B⟩:∃b:Nat,zbd ns 1%6=(b:Nat):=⟨(zbd ns 1%6).toNat,by lia⟩;obtain⟨b,p⟩:∃b:Nat,(if(5:Int)<(m:Nat) then((g:Nat):Int)%3 else((g:Nat):Int))=(b:Nat):=⟨(if(5:Int)<(m:Nat) then((g:Nat):Int)%3 else((g:Nat):Int)).toNat,by split<;>lia⟩;have L:b<=5:=by split at p<;>lia
  obtain⟨w,C,O⟩:∃w:Int,zbd ns 3%(2*10^60-1)-(10^60-1)=w/\-10^60<w/\w<10^60:=⟨_,rfl,by lia,by lia⟩;let⟨lr,E,hl,G⟩:=zpS (n:=12) (S:=⟨[],[],[]⟩) (c:=zbd ns 4) (m:=m) (t:=m) A (le_refl _);obtain⟨u,I,i,j⟩:∃s:Int,zbd ns 2%(m:Nat)=s/\0<=s/\s<(m:Nat):=⟨_,rfl,emod_nonneg _ (by lia),Int.emod_lt_of_pos _ (by lia)⟩;rw[znx];refine stA (x:=.int (m:Nat)) (T:=⟨[],[],[]⟩) (δ':=Ek ns (Φ (.int (m:Nat))) Ψ Ψ Ψ Ψ Ψ Ψ Ψ Ψ Ψ Ψ Ψ Ψ Ψ Ψ) ?_ rfl ?_;refine W.eq (wE_W _ ?_);unfold e1 eK;left;specialize zct (n:=12) (k:=0);left;right;left;exact⟨by rw[<-hm],rfl⟩;refine stA (x:=.int (g:Nat)) (T:=⟨[],[],[]⟩) (δ':=Ek ns (Φ (.int (m:Nat))) (Φ (.int (g:Nat))) Ψ Ψ Ψ Ψ Ψ Ψ Ψ Ψ Ψ Ψ Ψ Ψ Ψ) ?_ rfl ?_;refine W.eq (wE_W _ ?_);unfold e2 eK;left;specialize zct (n:=12) (k:=1);left;right;left;exact⟨by rw[B],rfl⟩;refine stF (k:=decide ((5:Int)<(m:Nat))) (T:=⟨[],[],[]⟩) (U:=⟨[],[],[]⟩) (δ':=Ek ns (Φ (.int (m:Nat))) (Φ (.int (b:Nat))) Ψ Ψ Ψ Ψ Ψ Ψ Ψ Ψ Ψ Ψ Ψ Ψ Ψ) ?_ ?_ ?_;refine W.eq (wT_W _ ?_);unfold c3;left;exact⟨rfl,rfl⟩;by_cases c:(5:Int)<(m:Nat);rw[decide_eq_true c,if_pos rfl];rw[if_pos c]at p;refine(zmn (x:=.int (b:Nat)) (T:=⟨[],[],[]⟩) ?_).trans rfl;refine W.eq (wE_W _ ?_);unfold e3;left;right;left;exact⟨by rw[p],rfl⟩;rw[decide_eq_false c,if_neg (by decide)];rw[if_neg c]at p;rw[p];refine stA (x:=.int w) (T:=⟨[],[],[]⟩) (δ':=Ek ns (Φ (.int (m:Nat))) (Φ (.int (b:Nat))) (Φ (.int w)) Ψ Ψ Ψ Ψ Ψ Ψ Ψ Ψ Ψ Ψ Ψ Ψ) ?_ rfl ?_;refine W.eq (wE_W _ ?_);unfold e4 eK;left;specialize zct (n:=12) (k:=3);left;right;left;change by unfold zdD;simp
  left;right;left;change by decide
  left;exact⟨by rw[<-C];rfl,rfl⟩;refine stA (x:=.ref 0) (T:=⟨[],[.lst (lr.map .int)],[]⟩) (δ':=Ek ns (Φ (.int (m:Nat))) (Φ (.int (b:Nat))) (Φ (.int w)) (Φ (.ref 0)) Ψ Ψ Ψ Ψ Ψ Ψ Ψ Ψ Ψ Ψ Ψ) ?_ rfl ?_;refine W.eq (wE_W _ ?_);unfold e5 eK;left;specialize zct (n:=12) (k:=4);left;specialize E;left;exact⟨rfl,rfl⟩;refine stA (x:=.int u) (T:=⟨[],[.lst (lr.map .int)],[]⟩) (δ':=Ek ns (Φ (.int (m:Nat))) (Φ (.int (b:Nat))) (Φ (.int w)) (Φ (.ref 0)) (Φ (.int u)) Ψ Ψ Ψ Ψ Ψ Ψ Ψ Ψ Ψ Ψ) ?_ rfl ?_;refine W.eq (wE_W _ ?_);unfold e6 eK;left;specialize zct (n:=12) (k:=2);left;change by lia
  left;exact⟨by rw[I],rfl⟩;obtain⟨s,k,hk,e,i,j⟩:∃(s:Int) (k:Bool),k=(decide (0<(lr.length:Int))&&decide (zbd ns 2/7%2=1))/\(if k then lr[0]?=Φ s else s=u)/\0<=s/\s<(m:Nat):=by cases lr with|nil=>exact⟨u,Δ,by simp,rfl,i,j⟩| cons x r=>cases q:decide (zbd ns 2/7%2=1) with|true=>exact⟨x,Γ,by simp,rfl,(G x Μ).1,(G x Μ).2⟩|false=>exact⟨u,Δ,by simp,rfl,i,j⟩
  have y:(⟨[],[.lst (lr.map .int)],[]⟩:R.St).get 0=Φ (.lst (lr.map .int)):=rfl;generalize Q:(⟨[],[.lst (lr.map .int)],[]⟩:R.St)=T at y;have z:T.lk=[]:=by rw[<-Q]
  have J:T.frz=[]:=by rw[<-Q]
  refine stF (k:=k) (T:=T) (U:=T) (δ':=Ek ns (Φ (.int (m:Nat))) (Φ (.int (b:Nat))) (Φ (.int w)) (Φ (.ref 0)) (Φ (.int s)) Ψ Ψ Ψ Ψ Ψ Ψ Ψ Ψ Ψ Ψ) ?_ ?_ ?_;refine W.eq (wT_W _ ?_);unfold c7 eK;left;exists y;left;rw[length_map,hk];cases q:decide (0<(lr.length:Int)) with| false=>left;exact⟨rfl,rfl⟩| true=>left;specialize zct (n:=12) (k:=2);left;right;left;right;left;exact⟨rfl,rfl⟩
  cases k with| true=>rw[if_pos rfl]at e⊢;refine(zmn (x:=.int s) (T:=T) ?_).trans rfl;refine W.eq (wE_W _ ?_);unfold e8;left;exists y;left;exists zdi (k:=0) (show(lr.map D.int)[0]?=Φ (.int s) by rw[getElem?_map,e];rfl);left;exact⟨rfl,rfl⟩| false=>rw[if_neg (by decide)]at e⊢;rw[e]
  let⟨o,ek,kl,ko⟩:=zpN (n:=12) (S:=T) (m:=m) (b:=b) (s:=s) (by lia) A L ⟨i,j⟩;let⟨zs,ez,zl,zo⟩:=zpR (n:=10) (S:=T.push (.lst (o.map kD))) (ns:=ns) (w:=w) (m:=m) Y O (zak _ _) (zae y) ko kl;refine stA (x:=.ref (T.push (.lst (o.map kD))).len) (T:=(T.push (.lst (o.map kD))).push (.lst (zs.map lD))) (δ':=Ek ns (Φ (.int (m:Nat))) (Φ (.int (b:Nat))) (Φ (.int w)) (Φ (.ref 0)) (Φ (.int s)) (Φ (.ref (T.push (.lst (o.map kD))).len)) Ψ Ψ Ψ Ψ Ψ Ψ Ψ Ψ Ψ) ?_ rfl ?_;refine W.eq (wE_W _ ?_);unfold e9;left;specialize ek;left;specialize ez;left;exact⟨rfl,rfl⟩;refine stW (zqy (m:=m) (b:=b) (l4:=0) (l6:=(T.push (.lst (o.map kD))).len) (s:=s) (w:=w) (lr:=lr) (zs:=zs) (T1:=(T.push (.lst (o.map kD))).push (.lst (zs.map lD))) rfl (λU=>rfl) (by show ∀l∈T.lk,_;rw[z];exact λl h=>by cases h) (by lia) A (by lia) (zae (zae y)) (zak _ _) (by lia) G zl zo ⟨i,j⟩ O) ?_;rintro x V ⟨a,hl',N,M,rfl,P,v⟩;exact t2 (by rw[v.lk];exact z) (by rw[v.frz];exact J) m1 A L ⟨i,j⟩ P
 have hP:prog[34]?=Φ c_law:=rfl;simp![callF,hP];show W (Out.bind (exS (callF prog 13) c_law.body (Ek ns Ψ Ψ Ψ Ψ Ψ Ψ Ψ Ψ Ψ Ψ Ψ Ψ Ψ Ψ Ψ) ⟨[],[],[]⟩) _) _;rw[zab];refine key.mono λf T h=>?_;subst h;rfl
end
section
open PySem R L2
def p_road{P:Υ}{w:ϋ}{K:Frag}{h base:Heap}{b:Str->Option Ξ}{f d:Addr}{i kV m o ct:Ξ}{q r:Option Addr}{sl:Array (Option Ξ)}(X:K.In h)(G:h.Ns mainGlobals b)(s:BM b base)(a:nsIn K mainGlobals "road"=Φ (Φ (.ref f)))(l:K.lookup f=Φ ⟨i,q,.func (fnOf "road" "road" (zap zda) (zal zda) (zaa zda) .none kV m o r (.ref d) ct),sl⟩)(c:codeIn K (.ref d) "road"=Γ)(k:keepIn K (.ref f)=Γ)(e:codeHdIn K d 23=Γ):DefOk K b tab prog 0 "road" ["lies"] 0\/PrimOk P w K b base tab prog 0 "road" ["lies"] 0:=.inr ⟨⟨zoX,.road,_,_,rfl,rfl,rfl,mg_of X G a,k,(λj t=>(Nat.le_zero.mp t).symm▸(zcH l c k).binds λ_ _ _ _ _ _=>usS λ_=>usZ rfl),λn u _=>(zpX l c e zpW s (by simp![Mks.ts,mem_cons,true_or]) (λp g z=>by simp![Mks.ts,mem_cons,not_mem_nil,or_false]at g;rcases g with rfl|rfl|rfl<;>first|rfl|exact absurd z (by decide)) rfl rfl rfl u).mono (by lia)⟩⟩
def p_tally{P:Υ}{w:ϋ}{K:Frag}{h base:Heap}{b:Str->Option Ξ}{f d:Addr}{i kV m o ct:Ξ}{q r:Option Addr}{sl:Array (Option Ξ)}(X:K.In h)(G:h.Ns mainGlobals b)(s:BM b base)(a:nsIn K mainGlobals "tally"=Φ (Φ (.ref f)))(l:K.lookup f=Φ ⟨i,q,.func (fnOf "tally" "tally" (zap zcR) (zal zcR) (zaa zcR) .none kV m o r (.ref d) ct),sl⟩)(c:codeIn K (.ref d) "tally"=Γ)(k:keepIn K (.ref f)=Γ)(e:codeHdIn K d 168=Γ)(z:nsIn K mainGlobals "sorted"=Φ Ψ):DefOk K b tab prog 8 "tally" ["words"] 0\/PrimOk P w K b base tab prog 8 "tally" ["words"] 0:=.inr ⟨⟨zh1,.tally,_,_,rfl,rfl,rfl,mg_of X G a,k,(λj t=>(Nat.le_zero.mp t).symm▸(zcH l c k).binds λ_ _ _ _ _ _=>usS λ_=>usZ rfl),λn u _=>(zmy l c e zmx s (by decide +kernel) (λp g z=>by simp![Mks.ts,mem_cons,not_mem_nil,or_false]at g;rcases g with rfl|rfl|rfl<;>first|decide +kernel|exact absurd z (by decide)) (PySem.W.mg_none_of X G z) rfl rfl rfl u).mono (by lia)⟩⟩
def lam_mem:(tab.lamP,("run":Str) ++ ".<locals>." ++ "<lambda>")∈Mks.ts:=by decide +kernel
def lam_one:∀p∈Mks.ts,p.1=tab.lamP->p.2=("run":Str) ++ ".<locals>." ++ "<lambda>":=by intro p a z;simp![Mks.ts,mks,mem_cons,not_mem_nil,or_false]at a;rcases a with rfl|rfl|rfl<;>first|decide +kernel|exact absurd z (by decide +kernel)
def lam_b:∀j,j<=1->∃n,(["hands","rounds","wires"]:List Str).length=n+j/\∀(d:Addr)(kV a c:Ξ)(e:Option Addr)(b ct:Ξ)(us:List Ξ),us.length=n->∃k,bindArgs (fnOf "run" "run" (zap ziq) (zal ziq) (zaa ziq) (.ref d) kV a c e b ct) ⟨us,[]⟩=seqItems? (.ref d)>>=k/\k (Φ [Ξ.none].toArray)=pure ((["hands","rounds","wires"]:List Str).zip (us++List.replicate j Ξ.none))
 |0,_=>⟨3,rfl,λ_ _ _ _ _ _ _=>usS λ_=>usS λ_=>usS λ_=>usZ ⟨_,rfl,rfl⟩⟩|1,_=>⟨2,rfl,λ_ _ _ _ _ _ _=>usS λ_=>usS λ_=>usZ ⟨_,rfl,rfl⟩⟩
end
end Kz
open PySem PySem.W PyProof.Rows
set_option maxRecDepth 100000 in
set_option maxHeartbeats 0 in
theorem PySem.Challenge.cw_traitorround_k53_stories_by_letters_holds : PySem.Challenge.rw_traitorround_k53_stories_by_letters.Holds := by
 w_on;o_law;k_head;(case hw=>w_witness2)
 k_fill
 refine R.walk_ofT (l:=PySem.Challenge.rw_traitorround_k53_stories_by_letters) (n:=63) (k:=28) (x:="_law_script") (sp:=λw=>R.spF _ (R.callF Kz.prog 14) 34) rfl (by decide) rfl ⟨rfl,by decide,by decide⟩ (λw h Y=>PySem.W.km_in_of Y) ?hT ?hK ?F (λ_ _ a ns hl hx tb=>R.law_spT hx tb (Kz.law_true ns hl))
 case hT=>intro w h Y p hp;simp![R.Mks.ts,Kz.mks,mem_cons,not_mem_nil,or_false]at hp;rcases hp with rfl|rfl|rfl;exact PySem.W.km_tabs_of Y 23 (by simp);exact PySem.W.km_tabs_of Y 168 (by simp);exact PySem.W.km_tabs_of Y 268 (by simp)
 case hK=>intro w p hp;simp![R.Mks.ts,Kz.mks,mem_cons,not_mem_nil,or_false]at hp;rcases hp with rfl|rfl|rfl;exact⟨by with_unfolding_all rfl,27,by with_unfolding_all rfl⟩;exact⟨by with_unfolding_all rfl,172,by with_unfolding_all rfl⟩;exact⟨by with_unfolding_all rfl,272,by with_unfolding_all rfl⟩
 case F=>
  intro w mg fa h KX G hmg;apply R.all_of (n:=13) KX G hmg Kz.O56 (le_refl _)
  . (repeat' (first|exact trivial|apply R.AllAtG.cons|apply R.AllInG.cons))
    . apply R.clOk (c:=0) KX G rfl<;>first|k_is|((repeat' (first|exact trivial|apply R.AllAtG.cons|apply R.AllInG.cons))<;>k_is)
    . apply R.clOk (c:=1) KX G rfl<;>first|k_is|((repeat' (first|exact trivial|apply R.AllAtG.cons|apply R.AllInG.cons))<;>k_is)
    . apply R.clOk (c:=2) KX G rfl<;>first|k_is|((repeat' (first|exact trivial|apply R.AllAtG.cons|apply R.AllInG.cons))<;>k_is)
    . apply R.clOk (c:=3) KX G rfl<;>first|k_is|((repeat' (first|exact trivial|apply R.AllAtG.cons|apply R.AllInG.cons))<;>k_is)
  . (repeat' (first|exact trivial|apply R.AllAtG.cons|apply R.AllInG.cons))<;>k_is
  . (repeat' (first|exact trivial|apply R.AllAtG.cons|apply R.AllInG.cons))<;>(apply R.coOk;k_is)
  . intro base bm
    (repeat' (first|exact trivial|apply R.AllAtG.cons|apply R.AllInG.cons))
    . apply Kz.p_road KX G bm<;>first|k_is|with_unfolding_all rfl
    . apply R.dOk KX G Kz.O36<;>k_is
    . apply R.dOk KX G Kz.O47<;>k_is
    . apply R.dOk KX G Kz.O45<;>k_is
    . apply R.dOk KX G Kz.O41<;>k_is
    . apply R.dOk KX G Kz.O49<;>k_is
    . apply R.dOk KX G Kz.O50<;>k_is
    . apply R.dOk KX G Kz.O54<;>k_is
    . apply Kz.p_tally KX G bm<;>first|k_is|with_unfolding_all rfl
    . apply R.dOk KX G Kz.O52<;>k_is
    . apply R.dOk KX G Kz.O26<;>k_is
    . apply R.lOkD KX G bm Kz.O55 Kz.lam_mem Kz.lam_one Kz.lam_b<;>first|k_is|with_unfolding_all rfl
    . apply R.dOk KX G Kz.O48<;>k_is
    . apply R.dOk KX G Kz.O51<;>k_is
    . apply R.dOk KX G Kz.O25<;>k_is
    . apply R.dOk KX G Kz.O23<;>k_is
    . apply R.dOk KX G Kz.O44<;>k_is
    . apply R.dOk KX G Kz.O35<;>k_is
    . apply R.dOk KX G Kz.O43<;>k_is
    . apply R.dOk KX G Kz.O19<;>k_is
    . apply R.dOk KX G Kz.O20<;>k_is
    . apply R.dOk KX G Kz.O53<;>k_is
    . apply R.dOk KX G Kz.O46<;>k_is
    . apply R.dOk KX G Kz.O18<;>k_is
    . apply R.dOk KX G Kz.O37<;>k_is
    . apply R.dOk KX G Kz.O40<;>k_is
    . apply R.dOk KX G Kz.O29<;>k_is
    . apply R.dOk KX G Kz.O33<;>k_is
    . apply R.dOk KX G Kz.O28<;>k_is
    . apply R.dOk KX G Kz.O32<;>k_is
    . apply R.dOk KX G Kz.O42<;>k_is
    . apply R.dOk KX G Kz.O24<;>k_is
    . apply R.dOk KX G Kz.O39<;>k_is
    . apply R.dOk KX G Kz.O22<;>k_is
    . apply R.dOk KX G Kz.O56<;>k_is
  . intro hc
    (repeat' (first|exact trivial|apply R.AllAtG.cons|apply R.AllInG.cons))
    . apply R.mOk (c:=1) hc Kz.O2 rfl rfl<;>k_is
    . apply R.mOk (c:=0) hc Kz.O17 rfl rfl<;>k_is
    . apply R.mOk (c:=1) hc Kz.O6 rfl rfl<;>k_is
    . apply R.mOk (c:=2) hc Kz.O15 rfl rfl<;>k_is
    . apply R.mOk (c:=2) hc Kz.O10 rfl rfl<;>k_is
    . apply R.mOk (c:=2) hc Kz.O12 rfl rfl<;>k_is
    . apply R.mOk (c:=0) hc Kz.O27 rfl rfl<;>k_is
    . apply R.mOk (c:=1) hc Kz.O8 rfl rfl<;>k_is
    . apply R.mOk (c:=1) hc Kz.O0 rfl rfl<;>k_is
    . apply R.mOk (c:=1) hc Kz.O3 rfl rfl<;>k_is
    . apply R.mOk (c:=1) hc Kz.O1 rfl rfl<;>k_is
    . apply R.mOk (c:=1) hc Kz.O4 rfl rfl<;>k_is
    . apply R.mOk (c:=2) hc Kz.O11 rfl rfl<;>k_is
    . apply R.mOk (c:=0) hc Kz.O38 rfl rfl<;>k_is
    . apply R.mOk (c:=1) hc Kz.O13 rfl rfl<;>k_is
    . apply R.mOk (c:=1) hc Kz.O7 rfl rfl<;>k_is
    . apply R.mOk (c:=2) hc Kz.O16 rfl rfl<;>k_is
    . apply R.mOk (c:=1) hc Kz.O5 rfl rfl<;>k_is
  . (repeat' (first|exact trivial|apply R.AllAtG.cons|apply R.AllInG.cons))
    . apply R.iOk (c:=0) Kz.O30 rfl<;>k_is
    . apply R.iOk (c:=1) Kz.O9 rfl<;>k_is
    . apply R.iOk (c:=2) Kz.O21 rfl<;>k_is
    . apply R.iOkD (c:=3) (n:=5) (items:=#[Ξ.none,Ξ.none]) Kz.O14 rfl (λ_ _ _ _ _ _ _=>usS λ_=>usS λ_=>usS λ_=>usS λ_=>usS λ_=>usZ ⟨_,rfl,rfl⟩) rfl<;>k_is
  . (repeat' (first|exact trivial|apply R.AllAtG.cons|apply R.AllInG.cons))
    . apply R.cOk KX G Kz.O34<;>k_is
    . apply R.cOk KX G Kz.O31<;>k_is
  . (repeat' (first|exact trivial|apply R.AllAtG.cons|apply R.AllInG.cons))
  all_goals k_is
end
